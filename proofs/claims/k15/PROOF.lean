import PyProof.Rows.All
import Wide.All
import OpenK.AllK
import Wide.FinOn
import Lean
import PyProof.EqAt
import PyProof.EqKinds
import PyProof.TupleCall
import PyProof.ExcClass3
import PyProof.ExcArgsOwn
import PyProof.InstStoreFacts
import PyProof.NsDelKeeps
import PyProof.CompUse
import PyProof.ConsumeWalk
import PyProof.ReprRoads
import PyProof.ReprBulk
import PyProof.ZipIter
import PyProof.TupleIter
import PyProof.EqLayable
import PyProof.EnumMake
import PyProof.EnumFor
import PyProof.WalkInts
import PyProof.SeqI3
import PyProof.Rows.SeqJoint
import PyProof.Rows.SortWalk
import PyProof.Rows.Range3
import PyProof.ForAny
import PyProof.P3Eq
import PySem.Challenge.RW_thirdpoint_k15_tops_looked_at
-- CHANGE: your row's module here, as the last of these rows
set_option Elab.async false
set_option linter.all false
set_option maxRecDepth 100000
/-! THE HAND LAYER, for ints, bools, texts, own classes, LISTS and tuples (index, slices, in, append, pop ..), calls, loops. Paste it whole ahead of your own text; what your proof does not reach may be deleted. -/
namespace L2
open PySem PySem.Spec PyProof.Rows

/-- a key: an int or a str -/
abbrev Key := Sum Int Str
def keyIs : Key → Value → Bool
  | .inl k, v => Value.isInt k v
  | .inr x, v => Value.isStrOf x v
def keyH (w : World) : Key → Int
  | .inl k => hashInt k
  | .inr x => hashStr w x
theorem keyIs_shape : ∀ {k : Key} {v : Value}, keyIs k v = true → (∃ i t, k = Sum.inl i ∧ v = Value.int i t) ∨ (∃ x t, k = Sum.inr x ∧ v = Value.str x t)
  | .inl i, v, h => by
    obtain ⟨t, e⟩ := Value.isInt_shape (k := i) (v := v) h
    exact .inl ⟨i, t, rfl, e⟩
  | .inr x, v, h => by
    obtain ⟨t, e⟩ := Value.isStrOf_shape (x := x) (v := v) h
    exact .inr ⟨x, t, rfl, e⟩
theorem key_ll (a b : Int) : decide ((Sum.inl a : Key) = Sum.inl b) = (a == b) := by
  by_cases e : a = b
  · subst e; simp
  · have h : ¬ (Sum.inl a : Key) = Sum.inl b := fun q => e (Sum.inl.inj q)
    rw [decide_eq_false h]
    exact (beq_eq_false_iff_ne.mpr e).symm
theorem key_rr (a b : Str) : decide ((Sum.inr a : Key) = Sum.inr b) = decide (a = b) := by
  by_cases e : a = b
  · subst e; simp
  · have h : ¬ (Sum.inr a : Key) = Sum.inr b := fun q => e (Sum.inr.inj q)
    rw [decide_eq_false h, decide_eq_false e]
theorem key_lr (a : Int) (b : Str) : decide ((Sum.inl a : Key) = Sum.inr b) = false := decide_eq_false (fun q => nomatch q)
theorem key_rl (a : Str) (b : Int) : decide ((Sum.inr a : Key) = Sum.inl b) = false := decide_eq_false (fun q => nomatch q)

def mixKind (prog : Program) (w : World) : PySem.KeyKind prog w Key where
  is := keyIs
  hash := keyH w
  inj := fun v a b ha hb => by
    rcases keyIs_shape ha with ⟨i, t, rfl, rfl⟩ | ⟨x, t, rfl, rfl⟩
    · rcases keyIs_shape hb with ⟨j, u, rfl, e⟩ | ⟨y, u, rfl, e⟩
      · injection e with e1 _; rw [e1]
      · exact nomatch e
    · rcases keyIs_shape hb with ⟨j, u, rfl, e⟩ | ⟨y, u, rfl, e⟩
      · exact nomatch e
      · injection e with e1 _; rw [e1]
  byValue := fun k v h => by
    rcases keyIs_shape h with ⟨i, t, rfl, rfl⟩ | ⟨x, t, rfl, rfl⟩ <;> rfl
  pyHash := fun hv h => by
    rcases keyIs_shape hv with ⟨i, t, rfl, rfl⟩ | ⟨x, t, rfl, rfl⟩
    · exact wpAny_pyHash_int h
    · exact wpAny_pyHash_str h
  eqBool := fun hu hv h => by
    rcases keyIs_shape hu with ⟨i, t, rfl, rfl⟩ | ⟨x, t, rfl, rfl⟩
    · rcases keyIs_shape hv with ⟨j, u, rfl, rfl⟩ | ⟨y, u, rfl, rfl⟩
      · rw [key_ll] at h; exact wpAny_eqBool_int h
      · rw [key_lr] at h; exact SeqAt.EqAt.int_str i t y u _ _ _ _ h
    · rcases keyIs_shape hv with ⟨j, u, rfl, rfl⟩ | ⟨y, u, rfl, rfl⟩
      · rw [key_rl] at h; exact SeqAt.EqAt.str_int x t j u _ _ _ _ h
      · rw [key_rr] at h; exact wpAny_eqBool_str h
  «strs» := fun k x t v h => by
    rcases keyIs_shape h with ⟨i, u, rfl, e⟩ | ⟨y, u, rfl, e⟩
    · exact nomatch e
    · injection e with e1 _
      subst e1
      cases v <;> rfl

end L2

namespace L2
open PySem PySem.Spec PyProof.Rows

/-- a value, without the heap -/
inductive V where
  | non | bl (b : Bool) | int (i : Int) | str (x : Str) | byt (b : Array UInt8) | flt (b : UInt64) | ref (a : Addr) | ty (n : String)
  deriving DecidableEq

def RelV : V → Value → Prop
  | .non, u => u = Value.none
  | .bl b, u => u = Value.bool b
  | .int i, u => ∃ t, u = Value.int i t
  | .str x, u => ∃ t, u = Value.str x t
  | .byt b, u => ∃ t, u = Value.bytes b t
  | .flt b, u => ∃ t, u = Value.float b t
  | .ref a, u => u = Value.ref a
  | .ty n, u => u = Value.type n

abbrev Vals : List V → List Value → Prop := Paired RelV
theorem Vals.length {xs : List V} {us : List Value} (r : Vals xs us) : xs.length = us.length := Paired.length r
theorem Vals.get : ∀ {xs : List V} {us : List Value} {i : Nat} {x : V}, Vals xs us → xs[i]? = some x → ∃ u, us[i]? = some u ∧ RelV x u
  | _, _, _, _, .nil, e => by simp at e
  | _, _, 0, _, .cons r _, e => by simp at e; subst e; exact ⟨_, rfl, r⟩
  | _, _, i + 1, x, .cons _ t, e => by
    obtain ⟨u, h1, h2⟩ := Vals.get (i := i) (x := x) t (by simpa using e)
    exact ⟨u, by simpa using h1, h2⟩
theorem Vals.set {x : V} {u : Value} (r : RelV x u) : ∀ {xs : List V} {us : List Value} (i : Nat), Vals xs us → Vals (xs.set i x) (us.set i u)
  | _, _, _, .nil => .nil
  | _, _, 0, .cons _ t => .cons r t
  | _, _, i + 1, .cons q t => .cons q (Vals.set r i t)
theorem Vals.append : ∀ {xs ys : List V} {us ws : List Value}, Vals xs us → Vals ys ws → Vals (xs ++ ys) (us ++ ws)
  | _, _, _, _, .nil, s => s
  | _, _, _, _, .cons r t, s => .cons r (Vals.append t s)
theorem Vals.take : ∀ {xs : List V} {us : List Value} (n : Nat), Vals xs us → Vals (xs.take n) (us.take n)
  | _, _, 0, _ => .nil
  | _, _, _ + 1, .nil => .nil
  | _, _, n + 1, .cons r t => .cons r (Vals.take n t)
theorem Vals.drop : ∀ {xs : List V} {us : List Value} (n : Nat), Vals xs us → Vals (xs.drop n) (us.drop n)
  | _, _, 0, r => r
  | _, _, _ + 1, .nil => .nil
  | _, _, n + 1, .cons _ t => Vals.drop n t

def RelO : Option V → Option Value → Prop
  | some v, some u => RelV v u
  | none, none => True
  | _, _ => False
def KV {κ : Type} : List (κ × V) → List (κ × Value) → Prop := Paired fun (p : κ × V) (q : κ × Value) => p.1 = q.1 ∧ RelV p.2 q.2

/-- a key of a dict (00_mix): an int or a text -/
def kV : Key → V
  | .inl i => .int i
  | .inr x => .str x

/-- what stands at a tracked address -/
inductive HO where
  /-- a list -/
  | lst (xs : List V)
  /-- a tuple (never changes) -/
  | tup (xs : List V)
  /-- a dict whose keys are ints and texts; one whose keys are tuples of ints and texts (the empty one is both) -/
  | dK (kvs : List (Key × V)) | dT (kvs : List (List Key × V))
  /-- a set of ints: its members, its size -/
  | set (S : Int → Bool) (n : Nat)
  /-- an instance of the class at C, its dict at dx, its attributes -/
  | ins (C dx : Addr) (fs : List (Str × V))
  /-- the dict of the instance at x -/
  | own (x : Addr)
  /-- the dict of an exception -/
  | xd (fs : List (Str × V))
  /-- a bound method, f of x -/
  | met (f x : Addr)
  /-- a range object lo, lo + 1, .. below hi -/
  | rng (lo hi : Int)
  /-- a thing that is known to the object (the script; a dict while a loop walks it): read, never written while it is so -/
  | frz (o : Obj) (u : HO)
  /-- a code object's table -/
  | tbl (ps : Array Value)
  /-- any other thing, by what is true of its one object (a def of one's own: SetO a S n := HO.ext fun h => ..) -/
  | ext (φ : Heap → Prop)

abbrev Hp := Addr → Option HO
def upd (H : Hp) (a : Addr) (o : HO) : Hp := fun b => if b = a then some o else H b
theorem upd_same {H : Hp} {a : Addr} {o : HO} : upd H a o a = some o := by unfold upd; rw [if_pos rfl]
theorem upd_ne {H : Hp} {a b : Addr} {o : HO} (h : b ≠ a) : upd H a o b = H b := by unfold upd; rw [if_neg h]
theorem upd_upd {H : Hp} {a : Addr} {o u : HO} : upd (upd H a o) a u = upd H a u := by
  funext b; unfold upd; split <;> rfl
/-- two objects of different content stand apart -/
theorem ne_of {H : Hp} {a b : Addr} {o u : HO} (h : H a = some o) (h' : H b = some u) (d : o ≠ u) : a ≠ b := by
  intro e; subst e; rw [h] at h'; exact d (Option.some.inj h')
theorem ne_of_none {H : Hp} {a b : Addr} {o : HO} (h : H a = some o) (h' : H b = none) : a ≠ b := by
  intro e; subst e; rw [h] at h'; cases h'

section
variable (P : Program) (w : World)
def ObjOk (H : Hp) (h : Heap) (a : Addr) : HO → Prop
  | .lst xs => xs.length ≤ sizeLine ∧ ∃ (its : List Value) (n : Nat), Vals xs its ∧ h.get? a = some { cls := .type "list", data := .seq its.toArray n }
  | .tup xs => xs.length ≤ sizeLine ∧ ∃ its : List Value, Vals xs its ∧ IsTup h a its.toArray
  | .dK kvs => kvs.length ≤ sizeLine ∧ (a == sysModules) = false ∧ ∃ vs, KV kvs vs ∧ h.DictOf (mixKind P w) a vs
  | .dT kvs => kvs.length ≤ sizeLine ∧ (a == sysModules) = false ∧ ∃ xs : List (List Key × Addr × Value),
      Paired (fun (p : List Key × V) (q : List Key × Addr × Value) => p.1 = q.1 ∧ H q.2.1 = some (.tup (p.1.map kV)) ∧ RelV p.2 q.2.2) kvs xs ∧
      ∃ o es ep, h.get? a = some o ∧ o.ExactDict ∧ o.data = .dict es ep ∧ es.toList = xs.map (entryOfKey (tupleKind (mixKind P w))) ∧ (xs.map (·.1)).Nodup
  | .set S n => h.SetOf (intKind P w) a S n
  | .ins C dx fs => H dx = some (.own a) ∧ fs.length ≤ 1000 ∧ dx ≠ a ∧ h.get? a = some (PySem.W.instObj C dx) ∧
      ∃ mA, h.Ns1 dx mA ∧ (∀ f, RelO (fs.lookup f) (mA f)) ∧ PySem.Within mA (fs.map (·.1))
  | .own _ => ∃ o, h.get? a = some o
  | .xd fs => ∃ mA, h.Ns1 a mA ∧ ∀ f, RelO (fs.lookup f) (mA f)
  | .rng lo hi => ∃ t u v, h.get? a = some { cls := .type "range", data := .fields #[.int lo t, .int hi u, .int 1 v] }
  | .frz o u => h.get? a = some o ∧ ObjOk H h a u
  | .tbl ps => h.get? a = some { cls := .none, data := .fields ps }
  | .met f x => h.get? a = some (PySem.W.methodObj (.ref f) (.ref x))
  | .ext φ => φ h ∧ (∃ o, h.get? a = some o) ∧ ∀ h1 h2 : Heap, φ h1 → (∀ o, h1.get? a = some o → h2.get? a = some o) → φ h2
/-- the abstract heap is held -/
def HOk (H : Hp) (h : Heap) : Prop := ∀ a o, H a = some o → ObjOk P w H h a o
end

section
variable {P : Program} {w : World} {H H' : Hp} {h h' : Heap} {a : Addr} {o : HO}
theorem ObjOk.lt (x : ObjOk P w H h a o) : a < h.objs.size := by
  cases o with
  | lst xs => obtain ⟨_, _, _, _, e⟩ := x; exact Heap.lt_size e
  | tup xs => obtain ⟨_, _, _, p⟩ := x; exact p.lt
  | dK kvs => obtain ⟨_, _, _, _, o, _, _, e, _⟩ := x; exact Heap.lt_size e
  | dT kvs => obtain ⟨_, _, _, _, o, _, _, e, _⟩ := x; exact Heap.lt_size e
  | set S n => obtain ⟨o, _, _, _, e, _⟩ := x; exact Heap.lt_size e
  | ins C dx fs => obtain ⟨_, _, _, e, _⟩ := x; exact Heap.lt_size e
  | own y => obtain ⟨_, e⟩ := x; exact Heap.lt_size e
  | xd fs => obtain ⟨_, ⟨_, _, _, e, _⟩, _⟩ := x; exact Heap.lt_size e
  | rng lo hi => obtain ⟨_, _, _, e⟩ := x; exact Heap.lt_size e
  | frz ob u => obtain ⟨e, _⟩ := x; exact Heap.lt_size e
  | tbl ps => exact Heap.lt_size (show h.get? a = some _ from x)
  | met f y => exact Heap.lt_size (show h.get? a = some _ from x)
  | ext φ => obtain ⟨_, ⟨_, e⟩, _⟩ := x; exact Heap.lt_size e
theorem Paired.mapP {α β : Type} {F G : α → β → Prop} : ∀ {l₁ : List α} {l₂ : List β}, Paired F l₁ l₂ → (∀ a b, F a b → G a b) → Paired G l₁ l₂
  | _, _, .nil, _ => .nil
  | _, _, .cons r t, f => .cons (f _ _ r) (Paired.mapP t f)
/-- what an object's description leans on: its own object, its own dict, the tuples -/
theorem ObjOk.stay (x : ObjOk P w H h a o) (k : ∀ b u, (b = a ∨ H b = some (.own a)) → h.get? b = some u → h'.get? b = some u)
    (ho : ∀ b, H b = some (.own a) → H' b = some (.own a)) (ht : ∀ b xs, H b = some (.tup xs) → H' b = some (.tup xs)) : ObjOk P w H' h' a o := by
  induction o with
  | lst xs => obtain ⟨z, its, n, r, e⟩ := x; exact ⟨z, its, n, r, k _ _ (.inl rfl) e⟩
  | tup xs => obtain ⟨z, its, r, ob, e, c⟩ := x; exact ⟨z, its, r, ob, k _ _ (.inl rfl) e, c⟩
  | dK kvs => obtain ⟨z, y, vs, r, ob, es, ep, e, c⟩ := x; exact ⟨z, y, vs, r, ob, es, ep, k _ _ (.inl rfl) e, c⟩
  | dT kvs =>
    obtain ⟨z, y, xs, r, ob, es, ep, e, c⟩ := x
    exact ⟨z, y, xs, Paired.mapP r fun p q z => ⟨z.1, ht _ _ z.2.1, z.2.2⟩, ob, es, ep, k _ _ (.inl rfl) e, c⟩
  | set S n => obtain ⟨ob, es, ep, t, e, c⟩ := x; exact ⟨ob, es, ep, t, k _ _ (.inl rfl) e, c⟩
  | ins C dx fs =>
    obtain ⟨d, z, ne, e, mA, ⟨od, es, ep, e2, c⟩, r⟩ := x
    exact ⟨ho _ d, z, ne, k _ _ (.inl rfl) e, mA, ⟨od, es, ep, k _ _ (.inr d) e2, c⟩, r⟩
  | own y => obtain ⟨ob, e⟩ := x; exact ⟨ob, k _ _ (.inl rfl) e⟩
  | xd fs => obtain ⟨mA, ⟨od, es, ep, e, c⟩, r⟩ := x; exact ⟨mA, ⟨od, es, ep, k _ _ (.inl rfl) e, c⟩, r⟩
  | rng lo hi => obtain ⟨t, u, v, e⟩ := x; exact ⟨t, u, v, k _ _ (.inl rfl) e⟩
  | frz ob u ih => obtain ⟨e, q⟩ := x; exact ⟨k _ _ (.inl rfl) e, ih q⟩
  | tbl ps =>
    have e : h.get? a = some { cls := .none, data := .fields ps } := x
    show h'.get? a = some { cls := .none, data := .fields ps }
    exact k a _ (.inl rfl) e
  | met f y =>
    have e : h.get? a = some (PySem.W.methodObj (.ref f) (.ref y)) := x
    show h'.get? a = some (PySem.W.methodObj (.ref f) (.ref y))
    exact k a _ (.inl rfl) e
  | ext φ => obtain ⟨p, ⟨o, e⟩, st⟩ := x; exact ⟨st _ _ p fun o q => k _ _ (.inl rfl) q, ⟨o, k _ _ (.inl rfl) e⟩, st⟩
theorem HOk.lt (x : HOk P w H h) (e : H a = some o) : a < h.objs.size := (x a o e).lt
theorem HOk.fresh (x : HOk P w H h) (e : h.objs.size ≤ a) : H a = none := by
  cases q : H a with
  | none => rfl
  | some u => exact absurd (Nat.lt_of_lt_of_le (x.lt q) e) (Nat.lt_irrefl _)
/-- every object of the heap is kept -/
theorem HOk.kept (x : HOk P w H h) (k : ∀ b u, h.get? b = some u → h'.get? b = some u) : HOk P w H h' := fun a o e =>
  (x a o e).stay (fun b u _ q => k b u q) (fun _ q => q) fun _ _ q => q
/-- a new object is laid and tracked -/
theorem HOk.laid (x : HOk P w H h) (k : ∀ b u, h.get? b = some u → h'.get? b = some u) (hp : h.objs.size ≤ a) (new : ObjOk P w (upd H a o) h' a o) : HOk P w (upd H a o) h' := fun b u e => by
  have hn := x.fresh hp
  by_cases hb : b = a
  · subst hb; rw [upd_same] at e; cases e; exact new
  · rw [upd_ne hb] at e
    exact (x b u e).stay (fun c v _ q => k c v q) (fun c q => by rw [upd_ne (ne_of_none q hn)]; exact q) fun c xs q => by rw [upd_ne (ne_of_none q hn)]; exact q
end

/-- what may be read as u: it is u, or a known u -/
def Rd (H : Hp) (a : Addr) (u : HO) : Prop := H a = some u ∨ ∃ o, H a = some (.frz o u)
theorem Rd.ok {P : Program} {w : World} {H : Hp} {h : Heap} {a : Addr} {u : HO} (r : Rd H a u) (x : HOk P w H h) : ObjOk P w H h a u := by
  rcases r with r | ⟨o, r⟩
  · exact x a u r
  · obtain ⟨_, q⟩ := x a _ r
    exact q
/-- what may be written -/
def Mut : Option HO → Prop
  | some (.lst _) => True
  | some (.dK _) => True
  | some (.dT _) => True
  | some (.set _ _) => True
  | some (.ins _ _ _) => True
  | some (.ext _) => True
  | _ => False
section
variable {P : Program} {w : World} {H : Hp} {h h' : Heap} {x e : Addr} {o' : HO}
/-- the object at e is changed: x itself, or the dict of the instance x -/
theorem HOk.write (ok : HOk P w H h) (mu : Mut (H x)) (he : e = x ∨ H e = some (.own x)) (k : ∀ b u, b ≠ e → h.get? b = some u → h'.get? b = some u) (heo : ∃ u, h'.get? e = some u)
    (new : ObjOk P w (upd H x o') h' x o') : HOk P w (upd H x o') h' := fun b u q => by
  have nown : ∀ c y, H c = some (.own y) → c ≠ x := fun c y r z => by subst z; rw [r] at mu; exact mu
  have ntup : ∀ c xs, H c = some (.tup xs) → c ≠ x := fun c xs r z => by subst z; rw [r] at mu; exact mu
  by_cases hb : b = x
  · subst hb; rw [upd_same] at q; cases q; exact new
  · rw [upd_ne hb] at q
    by_cases hbe : b = e
    · have q' : H b = some (.own x) := by
        rcases he with z | z
        · exact absurd (hbe.trans z) hb
        · rw [hbe]; exact z
      rw [q] at q'; cases q'
      obtain ⟨v, hv⟩ := heo
      exact ⟨v, by rw [hbe]; exact hv⟩
    · refine (ok b u q).stay (fun c v hc r => k c v ?_ r) (fun c r => by rw [upd_ne (nown c b r)]; exact r) fun c xs r => by rw [upd_ne (ntup c xs r)]; exact r
      rcases hc with rfl | hc
      · exact hbe
      · rintro rfl
        rcases he with z | z
        · exact nown c b hc z
        · rw [hc] at z; cases z; exact hb rfl
end

/-! ### kept unless tracked; of the frames at fs (the callers') the slots may change (an exception that passes writes there); of the records at ex (iterators) nothing is said -/
structure Un (fs ex : List Addr) (H H' : Hp) (h h' : Heap) : Prop where
  keep : ∀ b o, h.get? b = some o → H b = none → b ∉ fs → b ∉ ex → h'.get? b = some o
  slot : ∀ b o, h.get? b = some o → H b = none → b ∈ fs → b ∉ ex → ∃ sl, h'.get? b = some { o with slots := sl }
  free : ∀ b o, h.get? b = some o → H b = none → b ∉ ex → H' b = none
  there : ∀ b o, h.get? b = some o → b ∉ ex → ∃ o', h'.get? b = some o'
  tups : ∀ b xs, H b = some (.tup xs) → H' b = some (.tup xs)
  frzs : ∀ b o u, H b = some (.frz o u) → H' b = some (.frz o u)
  tbls : ∀ b ps, H b = some (.tbl ps) → ∃ more, H' b = some (.tbl (ps ++ more))
section
variable {fs fs' ex ex' : List Addr} {H H1 H2 : Hp} {h h1 h2 h' : Heap} {a x e : Addr} {o : HO}
theorem Un.any (u : Un fs ex H H1 h h1) {b : Addr} {ob : Obj} (q : h.get? b = some ob) (n : H b = none) (hx : b ∉ ex) : ∃ sl, h1.get? b = some { ob with slots := sl } := by
  by_cases hb : b ∈ fs
  · exact u.slot b ob q n hb hx
  · exact ⟨ob.slots, u.keep b ob q n hb hx⟩
theorem Un.kept (k : ∀ b u, h.get? b = some u → h'.get? b = some u) : Un fs ex H H h h' :=
  ⟨fun b ob q _ _ _ => k b ob q, fun b ob q _ _ _ => ⟨ob.slots, k b ob q⟩, fun _ _ _ n _ => n, fun b ob q _ => ⟨ob, k b ob q⟩, fun _ _ q => q, fun _ _ _ q => q, fun _ ps q => ⟨#[], by rw [q]; simp⟩⟩
theorem Un.refl : Un fs ex H H h h := Un.kept fun _ _ q => q
theorem Un.laid (k : ∀ b u, h.get? b = some u → h'.get? b = some u) (hp : h.objs.size ≤ a) (hn : H a = none) : Un fs ex H (upd H a o) h h' where
  keep := fun b u q _ _ _ => k b u q
  slot := fun b u q _ _ _ => ⟨u.slots, k b u q⟩
  free := fun b u q n _ => by rw [upd_ne (Nat.ne_of_lt (Nat.lt_of_lt_of_le (Heap.lt_size q) hp))]; exact n
  there := fun b u q _ => ⟨u, k b u q⟩
  tups := fun b xs q => by rw [upd_ne (ne_of_none q hn)]; exact q
  frzs := fun b u xs q => by rw [upd_ne (ne_of_none q hn)]; exact q
  tbls := fun b ps q => ⟨#[], by rw [upd_ne (ne_of_none q hn), q]; simp⟩
theorem Un.write (mu : Mut (H x)) (he : e = x ∨ H e = some (.own x)) (k : ∀ b u, b ≠ e → h.get? b = some u → h'.get? b = some u) (heo : ∃ u, h'.get? e = some u) : Un fs ex H (upd H x o) h h' := by
  have hx : ∀ b, H b = none → b ≠ x := fun b n z => by subst z; rw [n] at mu; exact mu
  have hb : ∀ b, H b = none → b ≠ e := fun b n z => by
    subst z
    rcases he with r | r
    · exact hx b n r
    · rw [n] at r; cases r
  have hm : ∀ b u, H b = some u → ¬ Mut (some u) → b ≠ x := fun b u q nm z => by subst z; rw [q] at mu; exact nm mu
  refine ⟨fun b u q n _ _ => k b u (hb b n) q, fun b u q n _ _ => ⟨u.slots, k b u (hb b n) q⟩, fun b u q n _ => by rw [upd_ne (hx b n)]; exact n, fun b u q _ => ?_,
    fun b xs q => by rw [upd_ne (hm b _ q fun z => z)]; exact q, fun b u xs q => by rw [upd_ne (hm b _ q fun z => z)]; exact q, fun b ps q => ⟨#[], by rw [upd_ne (hm b _ q fun z => z), q]; simp⟩⟩
  by_cases hbe : b = e
  · subst hbe; exact heo
  · exact ⟨u, k b u hbe q⟩
end

/-! ### the heap without what is tracked -/
def trk (h : Heap) (H : Hp) : List Addr := (List.range h.objs.size).filter fun a => (H a).isSome
def hidT (h : Heap) (H : Hp) : Heap := PySem.W.hideAll h (trk h H)
theorem hidT_size (h : Heap) (H : Hp) : (hidT h H).objs.size = h.objs.size := PySem.W.hideAll_size _ _
theorem hidT_get {h : Heap} {H : Hp} {b : Addr} {o : Obj} (e : h.get? b = some o) (n : H b = none) : (hidT h H).get? b = some o :=
  PySem.W.hideAll_get _ e fun hm => by
    have q : (H b).isSome = true := (List.mem_filter.mp hm).2
    rw [n] at q; simp at q
theorem of_hidT {h : Heap} {H : Hp} {b : Addr} {o : Obj} (e : (hidT h H).get? b = some o) : h.get? b = some o ∧ H b = none := by
  have e' : h.get? b = some o := PySem.W.of_hideAll (trk h H) e
  refine ⟨e', ?_⟩
  cases q : H b with
  | none => rfl
  | some x =>
    have hm : b ∈ trk h H := List.mem_filter.mpr ⟨List.mem_range.mpr (Heap.lt_size e'), by simp [q]⟩
    have z : (hidT h H).get? b = none := PySem.W.hideAll_none (trk h H) hm
    rw [z] at e; cases e

/-! ### OpenK's ledger, filled with every new object but one -/
end L2

namespace L2
open PySem PySem.Spec PyProof.Rows

/-- the module's facts, over the base: the heap at the law's entry without what is tracked there -/
structure Mod (K : PySem.W.Frag) (mg : Str → Option Value) (base : Heap) : Prop where
  kin : K.In base
  glob : base.Ns mainGlobals mg
  blt : ∃ mb, base.Ns builtinsNs mb ∧ ∀ x : Str, x ≠ "__name__" → mb x = bootBuiltins x
  nolimit : base.NoLimit

/-- the context: a def's body (or a comprehension's block) running. base: fixed through the whole law; s₀, H₀: the entry; outer: the frames whose slots others may change (a def's callers); stack: all frames that run;
   ex: iterators that were made ahead of the entry and are walked here (a comprehension's); fn: the names whose cells were made at the entry (a def: all; a comprehension's block: its own); calm: not within an except suite; pn: pins that every state bears; xe: what is wanted of an exception that leaves the code -/
structure Cx where
  prog : Program
  w : World
  K : PySem.W.Frag
  mg : Str → Option Value
  base : Heap
  A : Around
  N : List Str
  s₀ : Shared
  H₀ : Hp
  env : Env
  outer : List Env
  stack : List Env
  ex : List Addr
  fn : Str → Bool
  calm : Bool
  pn : List (Addr × Obj)
  xe : Value → Shared → Prop
/-- the callers' frames -/
def frs (l : List Env) : List Addr := l.filterMap (·.frame)
abbrev Cx.fs (X : Cx) : List Addr := frs X.outer

def Vis (sc : Scope) (x : Str) : Prop := sc.names.lookup x = some .local ∨ sc.names.lookup x = some .cell ∨ sc.names.lookup x = some .free
def Loc (sc : Scope) (x : Str) : Prop := sc.names.lookup x = some .local ∨ sc.names.lookup x = some .cell
def Look (env : Env) (h : Heap) (m : Str → Option Value) (x : Str) (u : Value) : Prop :=
  (env.kindOf x = some .local ∧ m x = some u) ∨ ((env.kindOf x = some .cell ∨ env.kindOf x = some .free) ∧ ∃ c, env.cells.lookup x = some c ∧ h.IsCell c (some u))

structure Cx.Ok (X : Cx) : Prop where
  mod : Mod X.K X.mg X.base
  kind : X.env.scope.kind = .function
  glob : X.env.globals = mainGlobals
  blt : X.env.builtins = builtinsNs
  above : X.s₀.heap.objs.size ≤ X.env.locals
  inj : ∀ x y c, X.env.cells.lookup x = some c → X.env.cells.lookup y = some c → x = y
  has : ∀ x, (X.env.kindOf x = some .cell ∨ X.env.kindOf x = some .free) → ∃ c, X.env.cells.lookup x = some c
  cab : ∀ x c, X.fn x = true → X.env.cells.lookup x = some c → X.s₀.heap.objs.size ≤ c
  hd : X.calm = true → X.A.handled = none
  frames : X.A.frames = some X.stack
  stk : X.stack = X.outer ∨ (X.stack = X.env :: X.outer ∧ X.env.frame = some X.env.locals)
  exf : ∀ b ∈ X.ex, b ≠ X.env.locals ∧ ∀ x c, X.env.cells.lookup x = some c → c ≠ b
  bs : ∀ b o, X.base.get? b = some o → X.s₀.heap.get? b = some o ∧ X.H₀ b = none
  bsz : X.base.objs.size ≤ X.s₀.heap.objs.size
  noex : ∀ b o, X.base.get? b = some o → b ∉ X.ex
  exfs : ∀ b ∈ X.ex, b ∉ X.fs
  funs : X.s₀.heap.FunFrames X.base X.outer
  frf : ∀ b ∈ X.fs, X.H₀ b = none

structure Inv (X : Cx) (pins : List (Addr × Obj)) (σ : List (Option V)) (H : Hp) (s : Shared) : Prop where
  ok : X.Ok
  os : s.os = X.s₀.os
  bare : AllBare s.gens
  base : Un X.fs X.ex X.H₀ H X.s₀.heap s.heap
  loc : ∃ m, s.heap.Ns X.env.locals m ∧ ∀ (i : Nat) (x : Str) (v : V), X.N[i]? = some x → σ[i]? = some (some v) → Vis X.env.scope x → ∃ u, RelV v u ∧ Look X.env s.heap m x u
  cell : ∀ x c, X.env.cells.lookup x = some c → ∃ v, s.heap.IsCell c v
  free : H X.env.locals = none
  freeC : ∀ x c, X.env.cells.lookup x = some c → H c = none
  pin : ∀ p ∈ X.pn ++ pins, s.heap.get? p.1 = some p.2 ∧ H p.1 = none ∧ p.1 ≠ X.env.locals ∧ p.1 ∉ X.fs ∧ ∀ v, p.2.data ≠ .cell v
  hok : HOk X.prog X.w H s.heap
  len : σ.length = X.N.length

section
variable {X : Cx} {pins : List (Addr × Obj)} {σ : List (Option V)} {H H' : Hp} {s : Shared} {h' : Heap}

theorem Cx.Ok.nofr (ok : X.Ok) {b : Addr} {o : Obj} (e : X.base.get? b = some o) : b ∉ X.fs := fun hb => by
  have := (ok.funs.mem hb).1
  rw [e] at this; cases this
theorem Inv.bs (I : Inv X pins σ H s) : ∀ b o, X.base.get? b = some o → s.heap.get? b = some o ∧ H b = none := fun b o e =>
  ⟨I.base.keep b o (I.ok.bs b o e).1 (I.ok.bs b o e).2 (I.ok.nofr e) (I.ok.noex b o e), I.base.free b o (I.ok.bs b o e).1 (I.ok.bs b o e).2 (I.ok.noex b o e)⟩
theorem Inv.bk (I : Inv X pins σ H s) : ∀ b o, X.base.get? b = some o → s.heap.get? b = some o := fun b o e => (I.bs b o e).1
theorem Inv.mod (I : Inv X pins σ H s) : Mod X.K X.mg X.base := I.ok.mod
theorem Inv.kIn (I : Inv X pins σ H s) : X.K.In s.heap := I.ok.mod.kin.keeps I.bk
theorem Inv.lt (I : Inv X pins σ H s) : X.env.locals < s.heap.objs.size := let ⟨_, hn, _⟩ := I.loc; hn.lt
theorem Inv.sz (I : Inv X pins σ H s) : X.s₀.heap.objs.size ≤ s.heap.objs.size := Nat.le_trans I.ok.above (Nat.le_of_lt I.lt)
theorem Inv.nofs (I : Inv X pins σ H s) {a : Addr} (h : s.heap.objs.size ≤ a) : a ∉ X.fs := fun hb => by
  obtain ⟨_, o, ho, _⟩ := I.ok.funs.mem hb
  exact absurd (Nat.lt_of_lt_of_le (Heap.lt_size ho) (Nat.le_trans I.sz h)) (Nat.lt_irrefl _)
theorem Inv.cne (I : Inv X pins σ H s) : ∀ x c, X.env.cells.lookup x = some c → c ≠ X.env.locals := fun x c e z => by
  obtain ⟨v, o, ho, hd⟩ := I.cell x c e
  obtain ⟨m, ⟨o', es, ep, ho', hd', _⟩, _⟩ := I.loc
  rw [z, ho'] at ho; cases ho; rw [hd'] at hd; cases hd
theorem Inv.funs (I : Inv X pins σ H s) : s.heap.FunFrames X.base X.outer := by
  have all : ∀ (l : List Env), (∀ b ∈ frs l, b ∈ X.fs) → X.s₀.heap.FunFrames X.base l → s.heap.FunFrames X.base l := by
    intro l
    induction l with
    | nil => intro _ _; trivial
    | cons env r ih =>
      intro hs hl
      obtain ⟨hk, ⟨L, o, hf, hn, ho, hd⟩, hr⟩ := hl
      have hL : L ∈ X.fs := hs L (by unfold frs; rw [List.filterMap_cons, hf]; exact List.mem_cons_self)
      obtain ⟨sl, e⟩ := I.base.slot L o ho (I.ok.frf L hL) hL fun z => I.ok.exfs L z hL
      exact ⟨hk, ⟨L, _, hf, hn, e, hd⟩, ih (fun b hb => hs b (by unfold frs; rw [List.filterMap_cons, hf]; exact List.mem_cons_of_mem _ hb)) hr⟩
  exact all X.outer (fun _ hb => hb) I.ok.funs

/-- the frames that run, for a call -/
theorem Inv.stack (I : Inv X pins σ H s) : s.heap.FunFrames X.base X.stack := by
  rcases I.ok.stk with e | ⟨e, hf⟩
  · rw [e]; exact I.funs
  · rw [e]
    obtain ⟨m, hn, _⟩ := I.loc
    refine .cons (by rw [I.ok.kind]; decide) hf hn ?_ I.funs
    exact Heap.get?_none_of_le (Nat.le_trans I.ok.bsz I.ok.above)
theorem Inv.stkSub (I : Inv X pins σ H s) : ∀ b ∈ frs X.stack, b ∈ X.env.locals :: X.fs := fun b hb => by
  rcases I.ok.stk with e | ⟨e, hf⟩
  · rw [e] at hb; exact List.mem_cons_of_mem _ hb
  · rw [e] at hb
    unfold frs at hb
    rw [List.filterMap_cons, hf] at hb
    exact hb
theorem Inv.stkFree (I : Inv X pins σ H s) : ∀ b ∈ frs X.stack, H b = none := fun b hb => by
  rcases List.mem_cons.mp (I.stkSub b hb) with e | hb
  · rw [e]; exact I.free
  · obtain ⟨_, o, ho, _⟩ := I.ok.funs.mem hb
    exact I.base.free b o ho (I.ok.frf b hb) fun z => I.ok.exfs b z hb

/-- THE STEP: the untracked objects but the frame and the records at ch are kept (the callers' frames up to slots), the frame's map is kept, the new abstract heap is held -/
theorem Inv.step {g' : Array GenState} {t' : Nat} {d' : Drawn} {ch : List Addr} (I : Inv X pins σ H s)
    (hch : ∀ b ∈ ch, (b ∈ X.ex ∨ X.s₀.heap.objs.size ≤ b) ∧ b ≠ X.env.locals ∧ (∀ x c, X.env.cells.lookup x = some c → c ≠ b) ∧ ∀ p ∈ X.pn ++ pins, p.1 ≠ b)
    (keep : ∀ b o, b ≠ X.env.locals → b ∉ X.fs → b ∉ ch → s.heap.get? b = some o → H b = none → h'.get? b = some o)
    (slot : ∀ b o, b ≠ X.env.locals → b ∈ X.fs → b ∉ ch → s.heap.get? b = some o → H b = none → ∃ sl, h'.get? b = some { o with slots := sl }) (free : ∀ b o, b ∉ ch → s.heap.get? b = some o → H b = none → H' b = none)
    (there : ∀ b o, b ∉ ch → s.heap.get? b = some o → ∃ o', h'.get? b = some o')
    (tups : ∀ b xs, H b = some (.tup xs) → H' b = some (.tup xs)) (frzs : ∀ b o u, H b = some (.frz o u) → H' b = some (.frz o u)) (tbls : ∀ b ps, H b = some (.tbl ps) → ∃ more, H' b = some (.tbl (ps ++ more)))
    (ns : ∀ m, s.heap.Ns X.env.locals m → h'.Ns X.env.locals m) (hok : HOk X.prog X.w H' h') (hg : AllBare g') :
    Inv X pins σ H' { s with heap := h', gens := g', drawn := d', toks := t' } := by
  have neL : ∀ b o, X.s₀.heap.get? b = some o → b ≠ X.env.locals := fun b o e => Nat.ne_of_lt (Nat.lt_of_lt_of_le (Heap.lt_size e) I.ok.above)
  have neC : ∀ b o, X.s₀.heap.get? b = some o → b ∉ X.ex → b ∉ ch := fun b o e hx hb => by
    rcases (hch b hb).1 with z | z
    · exact hx z
    · exact absurd (Nat.lt_of_lt_of_le (Heap.lt_size e) z) (Nat.lt_irrefl _)
  have cellK : ∀ x c, X.env.cells.lookup x = some c → ∀ v, s.heap.IsCell c v → h'.IsCell c v := fun x c e v ⟨o, ho, hd⟩ => by
    have nch : c ∉ ch := fun z => (hch c z).2.2.1 x c e rfl
    by_cases hc : c ∈ X.fs
    · obtain ⟨sl, q⟩ := slot c o (I.cne x c e) hc nch ho (I.freeC x c e)
      exact ⟨_, q, hd⟩
    · exact ⟨o, keep c o (I.cne x c e) hc nch ho (I.freeC x c e), hd⟩
  refine ⟨I.ok, I.os, hg, ⟨fun b o e n hb hx => ?_, fun b o e n hb hx => ?_, fun b o e n hx => ?_, fun b o e hx => ?_, fun b xs e => tups b xs (I.base.tups b xs e), fun b o xs e => frzs b o xs (I.base.frzs b o xs e), fun b ps e => ?_⟩, ?_, fun x c e => ?_, ?_, fun x c e => ?_, fun p hp => ?_, hok, I.len⟩
  · exact keep b o (neL b o e) hb (neC b o e hx) (I.base.keep b o e n hb hx) (I.base.free b o e n hx)
  · obtain ⟨sl, e1⟩ := I.base.slot b o e n hb hx
    obtain ⟨sl', e2⟩ := slot b _ (neL b o e) hb (neC b o e hx) e1 (I.base.free b o e n hx)
    exact ⟨sl', e2⟩
  · obtain ⟨o', e1⟩ := I.base.there b o e hx
    exact free b o' (neC b o e hx) e1 (I.base.free b o e n hx)
  · obtain ⟨o', e1⟩ := I.base.there b o e hx
    exact there b o' (neC b o e hx) e1
  · obtain ⟨m1, e1⟩ := I.base.tbls b ps e
    obtain ⟨m2, e2⟩ := tbls b _ e1
    exact ⟨m1 ++ m2, by rw [e2, Array.append_assoc]⟩
  · obtain ⟨m, hn, hl⟩ := I.loc
    refine ⟨m, ns m hn, fun i x v e1 e2 e3 => ?_⟩
    obtain ⟨u, r, l⟩ := hl i x v e1 e2 e3
    refine ⟨u, r, ?_⟩
    rcases l with l | ⟨k, c, e, z⟩
    · exact .inl l
    · exact .inr ⟨k, c, e, cellK x c e _ z⟩
  · obtain ⟨v, z⟩ := I.cell x c e
    exact ⟨v, cellK x c e v z⟩
  · obtain ⟨m, ⟨o, _, _, ho, _⟩, _⟩ := I.loc
    exact free _ o (fun z => (hch _ z).2.1 rfl) ho I.free
  · obtain ⟨v, o, ho, hd⟩ := I.cell x c e
    exact free c o (fun z => (hch c z).2.2.1 x c e rfl) ho (I.freeC x c e)
  · obtain ⟨e, n, ne, nf, d⟩ := I.pin p hp
    have nch : p.1 ∉ ch := fun z => (hch p.1 z).2.2.2 p hp rfl
    exact ⟨keep p.1 p.2 ne nf nch e n, free p.1 p.2 nch e n, ne, nf, d⟩
/-- .. where the frame's own object is kept too -/
theorem Inv.un {t' : Nat} (I : Inv X pins σ H s) (u : Un X.fs [] H H' s.heap h') (hok : HOk X.prog X.w H' h') : Inv X pins σ H' { s with heap := h', toks := t' } := by
  obtain ⟨m, ⟨o, es, ep, ho, r⟩, _⟩ := id I.loc
  obtain ⟨sl, hL⟩ := u.any ho I.free (by simp)
  exact I.step (g' := s.gens) (d' := s.drawn) (ch := []) (fun _ z => nomatch z) (fun b o _ hb _ e n => u.keep b o e n hb (by simp)) (fun b o _ hb _ e n => u.slot b o e n hb (by simp)) (fun b o _ e n => u.free b o e n (by simp)) (fun b o _ e => u.there b o e (by simp)) u.tups u.frzs u.tbls (fun m' hm => by
    obtain ⟨o', es', ep', ho', r'⟩ := hm
    rw [ho] at ho'; cases ho'
    exact ⟨_, es', ep', hL, r'⟩) hok I.bare
/-- behind a call (or a comprehension's block): the slots of this frame may have changed too, the records at ch may have turned -/
theorem Inv.call {g' : Array GenState} {t' : Nat} {d' : Drawn} {ch : List Addr} (I : Inv X pins σ H s) (u : Un (frs X.stack) ch H H' s.heap h') (hok : HOk X.prog X.w H' h') (hg : AllBare g')
    (hch : ∀ b ∈ ch, (b ∈ X.ex ∨ X.s₀.heap.objs.size ≤ b) ∧ b ≠ X.env.locals ∧ (∀ x c, X.env.cells.lookup x = some c → c ≠ b) ∧ ∀ p ∈ X.pn ++ pins, p.1 ≠ b) :
    Inv X pins σ H' { s with heap := h', gens := g', drawn := d', toks := t' } := by
  obtain ⟨m, ⟨o, es, ep, ho, r⟩, _⟩ := id I.loc
  obtain ⟨sl, hL⟩ := u.any ho I.free fun z => (hch _ z).2.1 rfl
  exact I.step (ch := ch) hch (fun b o hL hb hc e n => u.keep b o e n (fun z => (List.mem_cons.mp (I.stkSub b z)).elim hL hb) hc) (fun b o _ _ hc e n => u.any e n hc) (fun b o hc e n => u.free b o e n hc) (fun b o hc e => u.there b o e hc) u.tups u.frzs u.tbls (fun m' hm => by
    obtain ⟨o', es', ep', ho', r'⟩ := hm
    rw [ho] at ho'; cases ho'
    exact ⟨_, es', ep', hL, r'⟩) hok hg
/-- an untracked record of ours (an iterator) has turned -/
theorem Inv.turned {t' : Nat} {it : Addr} (I : Inv X pins σ H s) (k : ∀ b o, b ≠ it → s.heap.get? b = some o → h'.get? b = some o) (hn : H it = none) (hL : it ≠ X.env.locals)
    (h1 : it ∈ X.ex ∨ X.s₀.heap.objs.size ≤ it) (h2 : ∀ x c, X.env.cells.lookup x = some c → c ≠ it) (h3 : ∀ p ∈ X.pn ++ pins, p.1 ≠ it) : Inv X pins σ H { s with heap := h', toks := t' } := by
  have nit : ∀ b u, H b = some u → b ≠ it := fun b u e z => by rw [z, hn] at e; cases e
  refine I.step (g' := s.gens) (d' := s.drawn) (ch := [it]) (fun b hb => ?_) (fun b o _ _ hc e _ => k b o (fun z => hc (by simp [z])) e) (fun b o _ _ hc e _ => ⟨o.slots, k b o (fun z => hc (by simp [z])) e⟩) (fun _ _ _ _ n => n)
    (fun b o hc e => ⟨o, k b o (fun z => hc (by simp [z])) e⟩) (fun _ _ e => e) (fun _ _ _ e => e) (fun b ps e => ⟨#[], by rw [e]; simp⟩) (fun m hm => ?_) (fun b u e => ?_) I.bare
  · have e : b = it := by simpa using hb
    subst e
    exact ⟨h1, hL, h2, h3⟩
  · obtain ⟨o, es, ep, ho, r⟩ := hm
    exact ⟨o, es, ep, k _ o (Ne.symm hL) ho, r⟩
  · refine (I.hok b u e).stay (fun c v hc q => k c v ?_ q) (fun _ q => q) fun _ _ q => q
    rcases hc with z | z
    · rw [z]; exact nit b u e
    · exact nit c _ z
theorem Inv.tok (I : Inv X pins σ H s) (t : Nat) : Inv X pins σ H { s with toks := t } := I.un (h' := s.heap) (t' := t) Un.refl I.hok
/-- all objects kept -/
theorem Inv.kept {t' : Nat} (I : Inv X pins σ H s) (k : ∀ b u, s.heap.get? b = some u → h'.get? b = some u) : Inv X pins σ H { s with heap := h', toks := t' } := I.un (Un.kept k) (I.hok.kept k)
/-- a new object laid and tracked -/
theorem Inv.laid {a : Addr} {o : HO} {t' : Nat} (I : Inv X pins σ H s) (k : ∀ b u, s.heap.get? b = some u → h'.get? b = some u) (hp : s.heap.objs.size ≤ a) (new : ObjOk X.prog X.w (upd H a o) h' a o) :
    Inv X pins σ (upd H a o) { s with heap := h', toks := t' } := I.un (Un.laid k hp (I.hok.fresh hp)) (I.hok.laid k hp new)
/-- an object written -/
theorem Inv.write {x e : Addr} {o : HO} {t' : Nat} (I : Inv X pins σ H s) (mu : Mut (H x)) (he : e = x ∨ H e = some (.own x)) (k : ∀ b u, b ≠ e → s.heap.get? b = some u → h'.get? b = some u) (heo : ∃ u, h'.get? e = some u)
    (new : ObjOk X.prog X.w (upd H x o) h' x o) : Inv X pins σ (upd H x o) { s with heap := h', toks := t' } := I.un (Un.write mu he k heo) (I.hok.write mu he k heo new)
/-- forgetting slots, pins -/
theorem Inv.weak {σ' : List (Option V)} (I : Inv X pins σ H s) (hl : σ'.length = σ.length) (w : ∀ (i : Nat) v, σ'[i]? = some (some v) → σ[i]? = some (some v)) : Inv X pins σ' H s :=
  ⟨I.ok, I.os, I.bare, I.base, let ⟨m, hn, hl'⟩ := I.loc; ⟨m, hn, fun i x v e1 e2 e3 => hl' i x v e1 (w i v e2) e3⟩, I.cell, I.free, I.freeC, I.pin, I.hok, hl.trans I.len⟩
theorem Inv.pins_of {pins' : List (Addr × Obj)} (I : Inv X pins σ H s) (h : ∀ p ∈ pins', s.heap.get? p.1 = some p.2 ∧ H p.1 = none ∧ p.1 ≠ X.env.locals ∧ p.1 ∉ X.fs ∧ ∀ v, p.2.data ≠ .cell v) : Inv X pins' σ H s :=
  ⟨I.ok, I.os, I.bare, I.base, I.loc, I.cell, I.free, I.freeC, fun p hp => (List.mem_append.mp hp).elim (fun z => I.pin p (List.mem_append_left _ z)) (h p), I.hok, I.len⟩

theorem nodup_ix {N : List Str} (hN : N.Nodup) {i j : Nat} {x : Str} (a : N[i]? = some x) (b : N[j]? = some x) : i = j := by
  obtain ⟨h1, e1⟩ := List.getElem?_eq_some_iff.mp a
  obtain ⟨h2, e2⟩ := List.getElem?_eq_some_iff.mp b
  exact (List.getElem_inj hN).mp (e1.trans e2.symm)

/-- a name is stored; what changed -/
theorem store_ok2 {M : Model} {A : Around} {E : Value → Shared → Prop} {i : Nat} {x : Str} {v : V} {u : Value} {Q : Unit → Shared → Prop} (I : Inv X pins σ H s) (hN : X.N.Nodup) (hi : X.N[i]? = some x) (hx : Loc X.env.scope x) (r : RelV v u)
    (h : ∀ s', Inv X pins (σ.set i (some v)) H s' → (∃ a, Heap.SameBut a s.heap s'.heap ∧ (a = X.env.locals ∨ X.env.cells.lookup x = some a)) → Q () s') (hf : X.fn x = true ∨ X.env.scope.names.lookup x = some .local := by first | exact .inl rfl | exact .inr rfl | assumption) : wpAny M A (storeName X.env x u) Q E s := by
  obtain ⟨m, hn, hl⟩ := id I.loc
  have hcls : (X.env.scope.kind == .class || (X.env.scope.kind == .module && X.env.locals != X.env.globals)) = false := by rw [I.ok.kind]; rfl
  have hiσ : i < σ.length := by rw [I.len]; exact (List.getElem?_eq_some_iff.mp hi).1
  have cne := I.cne
  have tracked : ∀ {a : Addr} {h' : Heap}, (∃ o, s.heap.get? a = some o ∧ H a = none) → Heap.SameBut a s.heap h' → HOk X.prog X.w H h' := fun {a h'} ha hs b ob e => by
    obtain ⟨_, _, hfree⟩ := ha
    refine (I.hok b ob e).stay (fun c w' hc q => (hs.2 c ?_).trans q) (fun _ q => q) fun _ _ q => q
    rintro rfl
    rcases hc with rfl | hc
    · rw [hfree] at e; cases e
    · rw [hfree] at hc; cases hc
  rcases hx with hk | hk
  · refine wpAny_storeName_local hk hn (fun h' hn' hs => ?_) hcls
    obtain ⟨oL, _, _, hoL, _⟩ := id hn
    refine h _ ⟨I.ok, I.os, I.bare, ⟨fun b o e n hb hx => ?_, fun b o e n hb hx => ?_, I.base.free, fun b o e hx => ?_, I.base.tups, I.base.frzs, I.base.tbls⟩, ⟨_, hn', fun j y v' e1 e2 e3 => ?_⟩, fun y c e => ?_, I.free, I.freeC, fun p hp => ?_, tracked ⟨oL, hoL, I.free⟩ hs, by simpa using I.len⟩ ⟨_, hs, .inl rfl⟩
    · exact (hs.2 b (Nat.ne_of_lt (Nat.lt_of_lt_of_le (Heap.lt_size e) I.ok.above))).trans (I.base.keep b o e n hb hx)
    · obtain ⟨sl, e1⟩ := I.base.slot b o e n hb hx
      exact ⟨sl, (hs.2 b (Nat.ne_of_lt (Nat.lt_of_lt_of_le (Heap.lt_size e) I.ok.above))).trans e1⟩
    · obtain ⟨o', e1⟩ := I.base.there b o e hx
      exact ⟨o', (hs.2 b (Nat.ne_of_lt (Nat.lt_of_lt_of_le (Heap.lt_size e) I.ok.above))).trans e1⟩
    · by_cases hj : j = i
      · subst hj
        rw [hi] at e1; cases e1
        rw [List.getElem?_set_self hiσ] at e2
        cases e2
        exact ⟨u, r, .inl ⟨hk, by simp⟩⟩
      · rw [List.getElem?_set_ne (Ne.symm hj)] at e2
        obtain ⟨u', r', q⟩ := hl j y v' e1 e2 e3
        refine ⟨u', r', ?_⟩
        rcases q with ⟨k, e⟩ | ⟨k, c, e, z⟩
        · refine .inl ⟨k, ?_⟩
          have : y ≠ x := fun e => hj (nodup_ix hN e1 (e ▸ hi))
          simp [this, e]
        · exact .inr ⟨k, c, e, z.sameBut hs (cne y c e)⟩
    · obtain ⟨w', z⟩ := I.cell y c e
      exact ⟨w', z.sameBut hs (cne y c e)⟩
    · obtain ⟨e, n, ne, nf, d⟩ := I.pin p hp
      exact ⟨(hs.2 p.1 ne).trans e, n, ne, nf, d⟩
  · have hfn : X.fn x = true := by
      rcases hf with z | z
      · exact z
      · rw [z] at hk; cases hk
    obtain ⟨c, hc⟩ := I.ok.has x (.inl hk)
    obtain ⟨w', z⟩ := I.cell x c hc
    refine wpAny_storeName_cell I.ok.kind hk hc z (fun h' hc' hs => ?_)
    obtain ⟨oc, hoc, hocd⟩ := id z
    refine h { s with heap := h' } ⟨I.ok, I.os, I.bare, ⟨fun b o e n hb hx => ?_, fun b o e n hb hx => ?_, I.base.free, fun b o e hx => ?_, I.base.tups, I.base.frzs, I.base.tbls⟩, ⟨m, hn.sameBut hs (Ne.symm (cne x c hc)), fun j y v' e1 e2 e3 => ?_⟩, fun y c' e => ?_, I.free, I.freeC, fun p hp => ?_, tracked ⟨oc, hoc, I.freeC x c hc⟩ hs, by simpa using I.len⟩ ⟨c, hs, .inr hc⟩
    · exact (hs.2 b (Nat.ne_of_lt (Nat.lt_of_lt_of_le (Heap.lt_size e) (I.ok.cab x c hfn hc)))).trans (I.base.keep b o e n hb hx)
    · obtain ⟨sl, e1⟩ := I.base.slot b o e n hb hx
      exact ⟨sl, (hs.2 b (Nat.ne_of_lt (Nat.lt_of_lt_of_le (Heap.lt_size e) (I.ok.cab x c hfn hc)))).trans e1⟩
    · obtain ⟨o', e1⟩ := I.base.there b o e hx
      exact ⟨o', (hs.2 b (Nat.ne_of_lt (Nat.lt_of_lt_of_le (Heap.lt_size e) (I.ok.cab x c hfn hc)))).trans e1⟩
    · by_cases hj : j = i
      · subst hj
        rw [hi] at e1; cases e1
        rw [List.getElem?_set_self hiσ] at e2
        cases e2
        exact ⟨u, r, .inr ⟨.inl hk, c, hc, hc'⟩⟩
      · rw [List.getElem?_set_ne (Ne.symm hj)] at e2
        obtain ⟨u', r', q⟩ := hl j y v' e1 e2 e3
        refine ⟨u', r', ?_⟩
        rcases q with q | ⟨k, c', e, z'⟩
        · exact .inl q
        · refine .inr ⟨k, c', e, z'.sameBut hs ?_⟩
          rintro rfl
          exact hj (nodup_ix hN e1 (I.ok.inj _ _ _ e hc ▸ hi))
    · by_cases hcc : c' = c
      · subst hcc; exact ⟨_, hc'⟩
      · obtain ⟨w2, z2⟩ := I.cell y c' e
        exact ⟨w2, z2.sameBut hs hcc⟩
    · obtain ⟨e, n, ne, nf, d⟩ := I.pin p hp
      refine ⟨(hs.2 p.1 ?_).trans e, n, ne, nf, d⟩
      intro q
      rw [q, hoc] at e
      have q' : oc = p.2 := Option.some.inj e
      exact d w' (by rw [← q']; exact hocd)
theorem store_ok {M : Model} {A : Around} {E : Value → Shared → Prop} {i : Nat} {x : Str} {v : V} {u : Value} {Q : Unit → Shared → Prop} (I : Inv X pins σ H s) (hN : X.N.Nodup) (hi : X.N[i]? = some x) (hx : Loc X.env.scope x) (r : RelV v u)
    (h : ∀ s', Inv X pins (σ.set i (some v)) H s' → Q () s') (hf : X.fn x = true ∨ X.env.scope.names.lookup x = some .local := by first | exact .inl rfl | exact .inr rfl | assumption) : wpAny M A (storeName X.env x u) Q E s :=
  store_ok2 I hN hi hx r (fun s' I' _ => h s' I') hf
/-- behind a call or a block, the state as it is -/
theorem Inv.call' {s' : Shared} {ch : List Addr} (I : Inv X pins σ H s) (ho : s'.os = s.os) (u : Un (frs X.stack) ch H H' s.heap s'.heap) (hok : HOk X.prog X.w H' s'.heap) (hg : AllBare s'.gens)
    (hch : ∀ b ∈ ch, (b ∈ X.ex ∨ X.s₀.heap.objs.size ≤ b) ∧ b ≠ X.env.locals ∧ (∀ x c, X.env.cells.lookup x = some c → c ≠ b) ∧ ∀ p ∈ X.pn ++ pins, p.1 ≠ b) : Inv X pins σ H' s' := by
  obtain ⟨h', g', d', t', o'⟩ := s'
  have e : o' = s.os := ho
  subst e
  exact I.call (g' := g') (t' := t') (d' := d') u hok hg hch
end

/-! ### the judgements -/
/-- an exception: its class, its own dict's address (where it has one), the abstract heap behind it -/
abbrev XK := Value → Option Addr → Hp → Prop
abbrev St := List (Option V)
abbrev VK := V → Hp → Prop
/-- an expression's reading; a test's; an argument list's -/
abbrev TE := St → Hp → VK → Prop
abbrev TT := St → Hp → (Bool → Hp → Prop) → Prop
abbrev TA := St → Hp → (List V → Hp → Prop) → Prop
/-- what is wanted behind a statement -/
structure Ends where
  nx : St → Hp → Prop
  rt : VK
  bk : St → Hp → Prop := fun _ _ => False
  ct : St → Hp → Prop := fun _ _ => False
abbrev TS := Ends → St → Hp → Prop

def EP (X : Cx) (pins : List (Addr × Obj)) (σ : St) (Q : VK) (u : Value) (s' : Shared) : Prop := ∃ v H', Inv X pins σ H' s' ∧ RelV v u ∧ Q v H'
def TP (X : Cx) (pins : List (Addr × Obj)) (σ : St) (Q : Bool → Hp → Prop) (b : Bool) (s' : Shared) : Prop := ∃ H', Inv X pins σ H' s' ∧ Q b H'
def AP (X : Cx) (pins : List (Addr × Obj)) (σ : St) (Q : List V → Hp → Prop) (us : List Value) (s' : Shared) : Prop := ∃ vs H', Inv X pins σ H' s' ∧ Vals vs us ∧ Q vs H'
def SP (X : Cx) (pins : List (Addr × Obj)) (D : Ends) (f : Flow) (s' : Shared) : Prop :=
  match f with
  | .next => ∃ σ' H', Inv X pins σ' H' s' ∧ D.nx σ' H'
  | .brk => ∃ σ' H', Inv X pins σ' H' s' ∧ D.bk σ' H'
  | .cont => ∃ σ' H', Inv X pins σ' H' s' ∧ D.ct σ' H'
  | .ret u => ∃ v σ' H', Inv X pins σ' H' s' ∧ RelV v u ∧ D.rt v H'

def PE (X : Cx) (e : Expr) (t : TE) : Prop :=
  ∀ (pins : List (Addr × Obj)) (s : Shared) (σ : St) (H : Hp) (Q : VK), Inv X pins σ H s → t σ H Q → wpAny (model X.prog X.w) X.A (eval e X.env) (EP X pins σ Q) X.xe s
def PT (X : Cx) (e : Expr) (t : TT) : Prop :=
  ∀ (pins : List (Addr × Obj)) (s : Shared) (σ : St) (H : Hp) (Q : Bool → Hp → Prop), Inv X pins σ H s → t σ H Q → wpAny (model X.prog X.w) X.A (isTrue e X.env (eval e X.env)) (TP X pins σ Q) X.xe s
/-- a test whatever its 'whole' is (and, or) -/
def PW (X : Cx) (e : Expr) (t : TT) : Prop :=
  ∀ (whole : Sem Value) (pins : List (Addr × Obj)) (s : Shared) (σ : St) (H : Hp) (Q : Bool → Hp → Prop), Inv X pins σ H s → t σ H Q → wpAny (model X.prog X.w) X.A (isTrue e X.env whole) (TP X pins σ Q) X.xe s
theorem PW.pt {X : Cx} {e : Expr} {t : TT} (h : PW X e t) : PT X e t := h _
/-- an argument list (no star), from the left -/
def PA (X : Cx) (es : List Expr) (t : TA) : Prop :=
  ∀ (pos : Pos) (pins : List (Addr × Obj)) (s : Shared) (σ : St) (H : Hp) (Q : List V → Hp → Prop), Inv X pins σ H s → t σ H Q → wpAny (model X.prog X.w) X.A (spliced (backTo pos (starEach es X.env))) (AP X pins σ Q) X.xe s
def PS (X : Cx) (st : Stmt) (t : TS) : Prop :=
  ∀ (pins : List (Addr × Obj)) (s : Shared) (σ : St) (H : Hp) (D : Ends), Inv X pins σ H s → t D σ H → wpAny (model X.prog X.w) X.A (exec st X.env) (SP X pins D) X.xe s
def PSs (X : Cx) (st : List Stmt) (t : TS) : Prop :=
  ∀ (pins : List (Addr × Obj)) (s : Shared) (σ : St) (H : Hp) (D : Ends), Inv X pins σ H s → t D σ H → wpAny (model X.prog X.w) X.A (execs st X.env) (SP X pins D) X.xe s
/-- weaken the end -/
theorem thn {α : Type} {t : Sem α} {Q Q' : α → Shared → Prop} {M : Model} {A : Around} {E : Value → Shared → Prop} {s : Shared} (h : wpAny M A t Q E s) (hQ : ∀ a s, Q a s → Q' a s) : wpAny M A t Q' E s := wpAny_mono h hQ fun _ _ x => x
end L2

namespace L2
open PySem PySem.Spec PyProof.Rows
section
variable {X : Cx}


/-! ### names and constants -/
def tVar (i : Nat) : TE := fun σ H Q => ∃ v, σ[i]? = some (some v) ∧ Q v H
def tC (v : V) : TE := fun _ H Q => Q v H
theorem pe_var {i : Nat} {x : Str} {pos : Pos} (hN : X.N[i]? = some x) (hv : Vis X.env.scope x) (hd : (x == ("__debug__" : Str)) = false := by decide) (hcd : (x == ("__classdict__" : Str)) = false := by decide) : PE X (.Name x pos) (tVar i) := by
  intro pins s σ H Q I h
  obtain ⟨v, e, h⟩ := h
  obtain ⟨m, hn, hl⟩ := I.loc
  obtain ⟨u, r, l⟩ := hl i x v hN e hv
  have fin : EP X pins σ Q u s := ⟨v, H, I, r, h⟩
  rcases l with ⟨hk, hm⟩ | ⟨hk, c, hc, hcell⟩
  · exact wpAny_Name (wpAny_loadName_local I.ok.kind hk hn hm fin) hd
  · rcases hk with hk | hk
    · exact wpAny_Name (wpAny_loadName_cell I.ok.kind hk hc hcell fin) hd
    · exact wpAny_Name (wpAny_loadName_free I.ok.kind hk hc hcell fin hcd) hd
theorem pe_int {i j pos} : PE X (.Constant (.int i) j pos) (tC (.int i)) := fun _ _ _ H _ I h => wpAny_Constant_int ⟨.int i, H, I.tok _, ⟨_, rfl⟩, h⟩
theorem pe_bl {b j pos} : PE X (.Constant (.bool b) j pos) (tC (.bl b)) := fun _ _ _ H _ I h => Constant_bool ⟨.bl b, H, I, rfl, h⟩
theorem pe_non {j pos} : PE X (.Constant .none j pos) (tC .non) := fun _ _ _ H _ I h => Constant_none ⟨.non, H, I, rfl, h⟩
theorem pe_str {x j pos} : PE X (.Constant (.str x) j pos) (tC (.str x)) := fun _ _ _ H _ I h => Calls.Constant_str ⟨.str x, H, I.tok _, ⟨_, rfl⟩, h⟩

/-- a global name of the def -/
def Gl (X : Cx) (x : Str) : Prop := X.env.kindOf x = some .globalImplicit
theorem ld_glob {E : Value → Shared → Prop} {pins : List (Addr × Obj)} {s : Shared} {σ : St} {H : Hp} {x : Str} {u : Value} {pos : Pos} {Q : Value → Shared → Prop} (I : Inv X pins σ H s) (hg : Gl X x) (hm : X.mg x = some u) (h : Q u s)
    (hd : (x == ("__debug__" : Str)) = false := by decide) : wpAny (model X.prog X.w) X.A (eval (.Name x pos) X.env) Q E s :=
  Calls.Name_function_global I.ok.kind hg (Calls.loadGlobal_global (by rw [I.ok.glob]; exact I.mod.glob.keeps I.bk) hm h) hd
theorem ld_blt {E : Value → Shared → Prop} {pins : List (Addr × Obj)} {s : Shared} {σ : St} {H : Hp} {x : Str} {u : Value} {pos : Pos} {Q : Value → Shared → Prop} (I : Inv X pins σ H s) (hg : Gl X x) (hm : X.mg x = none) (hv : bootBuiltins x = some u) (h : Q u s)
    (hn : x ≠ "__name__" := by decide) (hd : (x == ("__debug__" : Str)) = false := by decide) : wpAny (model X.prog X.w) X.A (eval (.Name x pos) X.env) Q E s := by
  obtain ⟨mb, h1, h2⟩ := I.mod.blt
  exact Calls.Name_function_global I.ok.kind hg (Calls.loadGlobal_builtin (by rw [I.ok.glob]; exact I.mod.glob.keeps I.bk) hm (by rw [I.ok.blt]; exact h1.keeps I.bk) ((h2 x hn).trans hv) h) hd
/-- a module's constant, a class, a function, as a value -/
theorem pe_glob {x : Str} {v : V} {u : Value} {pos : Pos} (hg : Gl X x) (hm : X.mg x = some u) (r : RelV v u) (hd : (x == ("__debug__" : Str)) = false := by decide) : PE X (.Name x pos) (tC v) :=
  fun _ _ _ H _ I h => ld_glob I hg hm ⟨v, H, I, r, h⟩ hd
theorem pe_bltn {x : Str} {v : V} {u : Value} {pos : Pos} (hg : Gl X x) (hm : X.mg x = none) (hv : bootBuiltins x = some u) (r : RelV v u) (hn : x ≠ "__name__" := by decide) (hd : (x == ("__debug__" : Str)) = false := by decide) : PE X (.Name x pos) (tC v) :=
  fun _ _ _ H _ I h => ld_blt I hg hm hv ⟨v, H, I, r, h⟩ hn hd

/-! ### arithmetic -/
variable {a b : Expr} {ta tb : TE} {pos : Pos}

/-! ### comparisons -/
/-- a comparison as a value, as a test -/
def tB (t : TE) : TT := fun σ H Q => t σ H fun x H1 => ∃ c, x = .bl c ∧ Q c H1
/-- an expression whose value is a bool, as a test -/
theorem pt_val {e : Expr} {t : TE} (h : PE X e t) (he : ∀ whole, isTrue e X.env whole = (do let v ← whole; standAt e.pos; holding [v] (truthy v)) := by intro _; rfl) : PT X e (tB t) := by
  intro pins s σ H Q I hw
  refine isTrue_plain (thn (h pins s σ H _ I hw) fun v s1 ⟨x, H1, I1, r1, q1⟩ => ?_) (he _)
  obtain ⟨d, rfl, q⟩ := q1
  cases r1
  exact wpAny_truthy_bool ⟨H1, I1, q⟩

/-! ### and, or, not -/
variable {tA tB' : TT} {rest : List Expr}
def tAnd (t u : TT) : TT := fun σ H Q => t σ H fun c H1 => if c = true then u σ H1 Q else Q false H1
def tOr (t u : TT) : TT := fun σ H Q => t σ H fun c H1 => if c = true then Q true H1 else u σ H1 Q
def tNot (t : TT) : TT := fun σ H Q => t σ H fun c H1 => Q (!c) H1
theorem pw_and1 (ha : PT X a tA) : PW X (.BoolOp .And [a] pos) tA := by
  intro wh pins s σ H Q I h
  refine isTrue_and (thn (ha pins s σ H Q I h) fun c s1 e => ?_)
  cases c with
  | true => exact isTrue_and_nil e
  | false => exact e
theorem pw_or1 (ha : PT X a tA) : PW X (.BoolOp .Or [a] pos) tA := by
  intro wh pins s σ H Q I h
  refine isTrue_or (thn (ha pins s σ H Q I h) fun c s1 e => ?_)
  cases c with
  | false => exact isTrue_or_nil e
  | true => exact e
theorem pw_and (ha : PT X a tA) (hb : PW X (.BoolOp .And (b :: rest) pos) tB') : PW X (.BoolOp .And (a :: b :: rest) pos) (tAnd tA tB') := by
  intro wh pins s σ H Q I h
  refine isTrue_and (thn (ha pins s σ H _ I h) fun c s1 ⟨H1, I1, q1⟩ => ?_)
  cases c with
  | true => exact hb wh pins s1 σ H1 Q I1 q1
  | false => exact ⟨H1, I1, q1⟩
theorem pw_or (ha : PT X a tA) (hb : PW X (.BoolOp .Or (b :: rest) pos) tB') : PW X (.BoolOp .Or (a :: b :: rest) pos) (tOr tA tB') := by
  intro wh pins s σ H Q I h
  refine isTrue_or (thn (ha pins s σ H _ I h) fun c s1 ⟨H1, I1, q1⟩ => ?_)
  cases c with
  | true => exact ⟨H1, I1, q1⟩
  | false => exact hb wh pins s1 σ H1 Q I1 q1
theorem pt_not (ha : PT X a tA) : PT X (.UnaryOp .Not a pos) (tNot tA) := by
  intro pins s σ H Q I h
  exact isTrue_not (ha pins s σ H (fun c H1 => Q (!c) H1) I h)
/-- .. as values (bools) -/
def tAndV (ta tb : TE) : TE := fun σ H Q => ta σ H fun x H1 => ∃ c, x = .bl c ∧ if c = true then tb σ H1 Q else Q (.bl false) H1
def tNotV (ta : TE) : TE := fun σ H Q => ta σ H fun x H1 => ∃ c, x = .bl c ∧ Q (.bl (!c)) H1
theorem pe_one {op} {t : TE} (h : PE X a t) : PE X (.BoolOp op [a] pos) t := fun pins s σ H Q I hw => BoolOp_one (h pins s σ H Q I hw)
theorem pe_and (ha : PE X a ta) (hb : PE X (.BoolOp .And (b :: rest) pos) tb) : PE X (.BoolOp .And (a :: b :: rest) pos) (tAndV ta tb) := by
  intro pins s σ H Q I h
  refine BoolOp_and (thn (ha pins s σ H _ I h) fun v s1 ⟨x, H1, I1, r1, q1⟩ => ?_)
  obtain ⟨c, rfl, q1⟩ := q1
  cases r1
  refine wpAny_truthy_bool ?_
  cases c with
  | true => exact hb pins s1 σ H1 Q I1 q1
  | false => exact ⟨.bl false, H1, I1, rfl, q1⟩
theorem pe_not (ha : PE X a ta) : PE X (.UnaryOp .Not a pos) (tNotV ta) := by
  intro pins s σ H Q I h
  refine UnaryOp_ (thn (ha pins s σ H _ I h) fun v s1 ⟨x, H1, I1, r1, q1⟩ => ?_)
  obtain ⟨c, rfl, q1⟩ := q1
  cases r1
  exact not_of (wpAny_truthy_bool ⟨.bl (!c), H1, I1, rfl, q1⟩)
/-- a if t else b -/
def tIf (t : TT) (ta tb : TE) : TE := fun σ H Q => t σ H fun c H1 => if c = true then ta σ H1 Q else tb σ H1 Q
theorem pe_ifExp {c : Expr} (hc : PT X c tA) (ha : PE X a ta) (hb : PE X b tb) : PE X (.IfExp c a b pos) (tIf tA ta tb) := by
  intro pins s σ H Q I h
  refine wpAny_IfExp (thn (hc pins s σ H _ I h) fun d s1 ⟨H1, I1, q1⟩ => ?_)
  cases d with
  | true => exact ha pins s1 σ H1 Q I1 q1
  | false => exact hb pins s1 σ H1 Q I1 q1
end
end L2

namespace L2
open PySem PySem.Spec PyProof.Rows

/-! ### a list, a tuple that is read: tracked, frozen, or an object of the module -/
def SqL (K : PySem.W.Frag) (H : Hp) (a : Addr) (xs : List V) : Prop :=
  Rd H a (.lst xs) ∨
    ∃ (o : Obj) (its : Array Value) (n : Nat), K.lookup a = some o ∧ o.cls = .type "list" ∧ o.dict = none ∧ o.data = .seq its n ∧ its.size ≤ sizeLine ∧ Vals xs its.toList
def SqT (K : PySem.W.Frag) (H : Hp) (a : Addr) (xs : List V) : Prop :=
  Rd H a (.tup xs) ∨
    ∃ (o : Obj) (its : Array Value) (n : Nat), K.lookup a = some o ∧ o.cls = .type "tuple" ∧ o.data = .seq its n ∧ its.size ≤ sizeLine ∧ Vals xs its.toList
def absV : Value → Option V
  | .none => some .non
  | .bool b => some (.bl b)
  | .int i _ => some (.int i)
  | .str x _ => some (.str x)
  | .bytes b _ => some (.byt b)
  | .float b _ => some (.flt b)
  | .ref a => some (.ref a)
  | .type n => some (.ty n)
  | _ => none
theorem RelV.abs {x : V} {u : Value} (r : RelV x u) : absV u = some x := by
  cases x with
  | non => cases r; rfl
  | bl _ => cases r; rfl
  | int _ => obtain ⟨t, rfl⟩ := r; rfl
  | str _ => obtain ⟨t, rfl⟩ := r; rfl
  | byt _ => obtain ⟨t, rfl⟩ := r; rfl
  | flt _ => obtain ⟨t, rfl⟩ := r; rfl
  | ref _ => cases r; rfl
  | ty _ => cases r; rfl
theorem RelV.inj {x y : V} {u : Value} (r : RelV x u) (q : RelV y u) : x = y := Option.some.inj (r.abs.symm.trans q.abs)
theorem Vals.inj : ∀ {xs ys : List V} {us : List Value}, Vals xs us → Vals ys us → xs = ys
  | _, _, _, .nil, .nil => rfl
  | _, _, _, .cons r t, .cons r' t' => by rw [r.inj r', Vals.inj t t']
section
variable {X : Cx} {pins : List (Addr × Obj)} {σ : St} {H : Hp} {s : Shared} {a : Addr} {xs ys : List V}
theorem SqL.of {K : PySem.W.Frag} (h : H a = some (.lst xs)) : SqL K H a xs := .inl (.inl h)
theorem SqT.of {K : PySem.W.Frag} (h : H a = some (.tup xs)) : SqT K H a xs := .inl (.inl h)
theorem Inv.list (I : Inv X pins σ H s) (h : SqL X.K H a xs) : ∃ its : List Value, Vals xs its ∧ PlainL s.heap a its.toArray ∧ xs.length ≤ sizeLine := by
  rcases h with h | ⟨o, its, n, hk, hc, hd, hs, hz, r⟩
  · obtain ⟨z, its, n, r, e⟩ := h.ok I.hok
    exact ⟨its, r, ⟨_, n, e, rfl, rfl, rfl⟩, z⟩
  · refine ⟨its.toList, r, ⟨o, n, I.kIn a o hk, hc, hd, by simpa using hs⟩, ?_⟩
    have e := r.length
    simp only [Array.length_toList] at e
    omega
theorem Inv.tuple (I : Inv X pins σ H s) (h : SqT X.K H a xs) : ∃ its : List Value, Vals xs its ∧ IsTup s.heap a its.toArray ∧ xs.length ≤ sizeLine := by
  rcases h with h | ⟨o, its, n, hk, hc, hs, hz, r⟩
  · obtain ⟨z, its, r, p⟩ := h.ok I.hok
    exact ⟨its, r, p, z⟩
  · refine ⟨its.toList, r, ⟨o, I.kIn a o hk, hc, n, by simpa using hs⟩, ?_⟩
    have e := r.length
    simp only [Array.length_toList] at e
    omega
theorem Inv.list_inj (I : Inv X pins σ H s) (h : SqL X.K H a xs) (h' : SqL X.K H a ys) : xs = ys := by
  obtain ⟨its, r, ⟨o, n, e, _, _, d⟩, _⟩ := I.list h
  obtain ⟨its', r', ⟨o', n', e', _, _, d'⟩, _⟩ := I.list h'
  rw [e] at e'; cases e'
  rw [d] at d'
  injection d' with d1 _
  have : its = its' := by simpa using congrArg Array.toList d1
  subst this
  exact r.inj r'
end

/-! ### another wish about exceptions -/
abbrev Cx.wish (X : Cx) (E : Value → Shared → Prop) : Cx := { X with xe := E }
/-- no exception leaves -/
abbrev Cx.nox (X : Cx) : Cx := X.wish fun _ _ => False
theorem Cx.Ok.wish {X : Cx} (ok : X.Ok) (E : Value → Shared → Prop) : (X.wish E).Ok :=
  ⟨ok.mod, ok.kind, ok.glob, ok.blt, ok.above, ok.inj, ok.has, ok.cab, ok.hd, ok.frames, ok.stk, ok.exf, ok.bs, ok.bsz, ok.noex, ok.exfs, ok.funs, ok.frf⟩
theorem Cx.Ok.unwish {X : Cx} {E : Value → Shared → Prop} (ok : (X.wish E).Ok) : X.Ok :=
  ⟨ok.mod, ok.kind, ok.glob, ok.blt, ok.above, ok.inj, ok.has, ok.cab, ok.hd, ok.frames, ok.stk, ok.exf, ok.bs, ok.bsz, ok.noex, ok.exfs, ok.funs, ok.frf⟩
section
variable {X : Cx} {pins : List (Addr × Obj)} {σ : St} {H : Hp} {s : Shared} {E : Value → Shared → Prop}
theorem Inv.wish (I : Inv X pins σ H s) (E : Value → Shared → Prop) : Inv (X.wish E) pins σ H s := ⟨I.ok.wish E, I.os, I.bare, I.base, I.loc, I.cell, I.free, I.freeC, I.pin, I.hok, I.len⟩
theorem Inv.unwish (I : Inv (X.wish E) pins σ H s) : Inv X pins σ H s := ⟨I.ok.unwish, I.os, I.bare, I.base, I.loc, I.cell, I.free, I.freeC, I.pin, I.hok, I.len⟩
theorem SP.unwish {D : Ends} {f : Flow} {s' : Shared} (h : SP (X.wish E) pins D f s') : SP X pins D f s' := by
  cases f with
  | next => obtain ⟨σ', H', I, q⟩ := h; exact ⟨σ', H', I.unwish, q⟩
  | brk => obtain ⟨σ', H', I, q⟩ := h; exact ⟨σ', H', I.unwish, q⟩
  | cont => obtain ⟨σ', H', I, q⟩ := h; exact ⟨σ', H', I.unwish, q⟩
  | ret u => obtain ⟨v, σ', H', I, r, q⟩ := h; exact ⟨v, σ', H', I.unwish, r, q⟩
theorem PSs.nox {st : List Stmt} {t : TS} (h : PSs X.nox st t) : PSs X st t := fun pins s σ H D I hw =>
  wpAny_mono (h pins s σ H D (I.wish _) hw) (fun _ _ q => q.unwish) fun _ _ z => False.elim z
end

/-! ### blocks and small statements -/
section
variable {X : Cx} {st : Stmt} {rest : List Stmt} {t u : TS} {e : Expr} {te : TE} {pos : Pos}
def tNext : TS := fun D σ H => D.nx σ H
def tSeq (t u : TS) : TS := fun D σ H => t { D with nx := u D } σ H
theorem pss_nil : PSs X [] tNext := fun _ _ σ H _ I h => wpAny_execs_nil ⟨σ, H, I, h⟩
theorem pss_cons (h1 : PS X st t) (h2 : PSs X rest u) : PSs X (st :: rest) (tSeq t u) := by
  intro pins s σ H D I h
  refine wpAny_execs_cons (thn (h1 pins s σ H { D with nx := u D } I h) fun f s1 q => ?_)
  cases f with
  | next =>
    obtain ⟨σ', H', I', q⟩ := q
    exact h2 pins s1 σ' H' D I' q
  | ret v => exact q
  | brk => exact q
  | cont => exact q
theorem pss_one (h1 : PS X st t) : PSs X [st] t := by
  intro pins s σ H D I h
  refine wpAny_execs_cons (thn (h1 pins s σ H D I h) fun f s1 q => ?_)
  cases f with
  | next => exact wpAny_execs_nil q
  | ret v => exact q
  | brk => exact q
  | cont => exact q
/-- in a def's body nothing is shown -/
theorem Inv.quiet {pins : List (Addr × Obj)} {σ : St} {H : Hp} {s : Shared} (I : Inv X pins σ H s) : interactive X.env = false := by simp [interactive, I.ok.kind]
/-- an expression whose value is dropped -/
def tDrop (te : TE) : TS := fun D σ H => te σ H fun _ H1 => D.nx σ H1
theorem ps_expr (he : PE X e te) (hs : swapsWith e none pos.line X.env = pure false := by rfl) : PS X (.Expr e pos) (tDrop te) := by
  intro pins s σ H D I h
  exact wpAny_Expr_any (thn (he pins s σ H _ I h) fun v s1 ⟨x, H1, I1, r1, q1⟩ => ⟨σ, H1, I1, q1⟩) I.quiet hs
def tRet (te : TE) : TS := fun D σ H => te σ H D.rt
theorem ps_ret (he : PE X e te) : PS X (.Return (some e) pos) (tRet te) := by
  intro pins s σ H D I h
  exact wpAny_Return_some (thn (he pins s σ H _ I h) fun v s1 ⟨x, H1, I1, r1, q1⟩ => ⟨x, σ, H1, I1, r1, q1⟩)
def tIfS (c : TT) (t u : TS) : TS := fun D σ H => c σ H fun b H1 => if b = true then t D σ H1 else u D σ H1
theorem ps_if {c : Expr} {a b : List Stmt} {tc : TT} (hc : PT X c tc) (ha : PSs X a t) (hb : PSs X b u) : PS X (.If c a b pos) (tIfS tc t u) := by
  intro pins s σ H D I h
  refine wpAny_If (thn (hc pins s σ H _ I h) fun d s1 ⟨H1, I1, q1⟩ => ?_)
  cases d with
  | true => exact ha pins s1 σ H1 D I1 q1
  | false => exact hb pins s1 σ H1 D I1 q1
end

/-! ### targets -/
abbrev TG := V → St → Hp → (St → Hp → Prop) → Prop
abbrev TGs := List V → St → Hp → (St → Hp → Prop) → Prop
def PG (X : Cx) (target : Expr) (t : TG) : Prop :=
  ∀ (pins : List (Addr × Obj)) (s : Shared) (σ : St) (H : Hp) (v : V) (u : Value) (Q : St → Hp → Prop), Inv X pins σ H s → RelV v u → t v σ H Q →
    wpAny (model X.prog X.w) X.A (assign target X.env u) (fun _ s' => ∃ σ' H', Inv X pins σ' H' s' ∧ Q σ' H') X.xe s
/-- several targets, one after another -/
def PGs (X : Cx) (ts : List Expr) (t : TGs) : Prop :=
  ∀ (pins : List (Addr × Obj)) (s : Shared) (σ : St) (H : Hp) (vs : List V) (us : List Value) (Q : St → Hp → Prop), Inv X pins σ H s → Vals vs us → t vs σ H Q →
    wpAny (model X.prog X.w) X.A (assignInOrder ((assignEach ts X.env).map (·.2)) us) (fun _ s' => ∃ σ' H', Inv X pins σ' H' s' ∧ Q σ' H') X.xe s
/-- o[i] = v, by values -/
abbrev TSet := V → V → V → Hp → (Hp → Prop) → Prop
def PSet (X : Cx) (t : TSet) : Prop :=
  ∀ (pins : List (Addr × Obj)) (s : Shared) (σ : St) (H : Hp) (o i v : V) (ov iv u : Value) (Q : Hp → Prop), Inv X pins σ H s → RelV o ov → RelV i iv → RelV v u → t o i v H Q →
    wpAny (model X.prog X.w) X.A (setItem ov iv u) (fun _ s' => ∃ H', Inv X pins σ H' s' ∧ Q H') X.xe s
section
variable {X : Cx} {pos : Pos}
def gName (i : Nat) : TG := fun v σ H Q => Q (σ.set i (some v)) H
theorem pg_name {i : Nat} {x : Str} (hN : X.N.Nodup) (hi : X.N[i]? = some x) (hx : Loc X.env.scope x) (hf : X.fn x = true ∨ X.env.scope.names.lookup x = some .local := by first | exact .inl rfl | exact .inr rfl | assumption) : PG X (.Name x pos) (gName i) := by
  intro pins s σ H v u Q I r h
  exact wpAny_assign_Name (store_ok I hN hi hx r (fun s' I' => ⟨_, H, I', h⟩) hf)
def gNil : TGs := fun vs σ H Q => vs = [] ∧ Q σ H
def gCons (t : TG) (u : TGs) : TGs := fun vs σ H Q => ∃ v r, vs = v :: r ∧ t v σ H fun σ' H' => u r σ' H' Q
theorem pgs_nil : PGs X [] gNil := by
  intro pins s σ H vs us Q I r h
  obtain ⟨e, h⟩ := h
  subst e
  cases r
  exact assignInOrder_nil ⟨σ, H, I, h⟩
theorem pgs_cons {e : Expr} {es : List Expr} {t : TG} {u : TGs} (h1 : PG X e t) (h2 : PGs X es u)
    (hs : (assignEach (e :: es) X.env).map (·.2) = assign e X.env :: (assignEach es X.env).map (·.2) := by rfl) : PGs X (e :: es) (gCons t u) := by
  intro pins s σ H vs us Q I r h
  obtain ⟨v, vr, e1, h⟩ := h
  subst e1
  cases r with
  | cons r rr =>
    rw [hs]
    refine assignInOrder_cons (thn (h1 pins s σ H _ _ _ I r h) fun _ s1 ⟨σ1, H1, I1, q1⟩ => ?_)
    exact h2 pins s1 σ1 H1 _ _ Q I1 rr q1
/-- (a, b, ..) = a tuple of that length -/
def gTup (K : PySem.W.Frag) (n : Nat) (t : TGs) : TG := fun v σ H Q => ∃ a xs, v = .ref a ∧ SqT K H a xs ∧ xs.length = n ∧ t xs σ H Q
theorem pg_tup {es : List Expr} {k : Nat} {t : TGs} {n : Nat} (hc : X.calm = true) (h : PGs X es t)
    (hn : (assignEach es X.env).length = n := by rfl) (hst : (assignEach es X.env).findIdx? (·.1) = none := by rfl) : PG X (.Tuple es k pos) (gTup X.K n t) := by
  intro pins s σ H v u Q I r hw
  obtain ⟨a, xs, e1, hq, hl, hw⟩ := hw
  subst e1
  cases r
  obtain ⟨its, rv, ht, hz⟩ := I.tuple hq
  refine assign_Tuple_tuple (I.ok.hd hc) ht (by simp [hn, ← hl, rv.length]) hst fun h' hx => ?_
  have I1 : Inv X pins σ H { s with heap := h' } := I.kept (t' := s.toks) fun b o e => hx b o (Nat.ne_of_lt (Heap.lt_size e)) e
  exact h pins _ σ H xs _ Q I1 (by simpa using rv) hw
/-- o[i] = .. -/
def gSub (to ti : TE) (t : TSet) : TG := fun v σ H Q => to σ H fun o H1 => ti σ H1 fun i H2 => t o i v H2 fun H3 => Q σ H3
theorem pg_sub {o i : Expr} {to ti : TE} {t : TSet} (ho : PE X o to) (hi : PE X i ti) (hs : PSet X t)
    (ha : ∀ v, assign (.Subscript o i pos) X.env v = (do
      let ov ← holding [v] (eval o X.env)
      let iv ← holding [v, ov] (eval i X.env)
      standAt pos
      holding [v, ov, iv] (setItem ov iv v)
      release [v, ov, iv] []) := by intro _; rfl) : PG X (.Subscript o i pos) (gSub to ti t) := by
  intro pins s σ H v u Q I r h
  rw [ha]
  refine wpAny_bind (wpAny_holding (thn (ho pins s σ H _ I h) fun ov s1 ⟨x, H1, I1, r1, q1⟩ => ?_))
  refine wpAny_bind (wpAny_holding (thn (hi pins s1 σ H1 _ I1 q1) fun iv s2 ⟨y, H2, I2, r2, q2⟩ => ?_))
  refine wpAny_bind (wpAny_standAt (wpAny_bind (wpAny_holding (thn (hs pins s2 σ H2 x y v ov iv u _ I2 r1 r2 r q2) fun _ s3 ⟨H3, I3, q3⟩ => ?_))))
  exact wpAny_release ⟨σ, H3, I3, q3⟩
/-- target = value -/
def tAsg (te : TE) (g : TG) : TS := fun D σ H => te σ H fun x H1 => g x σ H1 D.nx
theorem ps_asg {tg e : Expr} {te : TE} {g : TG} (he : PE X e te) (hg : PG X tg g) (hs : swapsWithSole [tg] e pos.line X.env = pure false := by rfl) (hw : swappedStores [tg] e X.env = pure none := by rfl)
    (h1 : (assignEach [tg] X.env).map (·.2) = [assign tg X.env] := by rfl) : PS X (.Assign [tg] e pos) (tAsg te g) := by
  intro pins s σ H D I h
  refine wpAny_Assign_stores (thn (he pins s σ H _ I h) fun v s1 ⟨x, H1, I1, r1, q1⟩ => ?_) hs hw
  rw [h1]
  exact thn (hg pins s1 σ H1 x v _ I1 r1 q1) fun _ s2 q => q
/-- name = value -/
theorem ps_set {i : Nat} {x : Str} {e : Expr} {te : TE} {pos' : Pos} (hN : X.N.Nodup) (hi : X.N[i]? = some x) (hx : Loc X.env.scope x) (he : PE X e te) (hs : swapsWith e (some (.Name x pos')) pos.line X.env = pure false := by rfl) (hf : X.fn x = true ∨ X.env.scope.names.lookup x = some .local := by first | exact .inl rfl | exact .inr rfl | assumption) :
    PS X (.Assign [.Name x pos'] e pos) (tAsg te (gName i)) := by
  intro pins s σ H D I h
  refine wpAny_Assign_Name (thn (he pins s σ H _ I h) fun v s1 ⟨y, H1, I1, r1, q1⟩ => ?_) hs
  exact store_ok I1 hN hi hx r1 (fun s2 I2 => ⟨_, H1, I2, q1⟩) hf
end

/-! ### while -/
section
variable {X : Cx} {pos : Pos}
/-- the invariant W with its measure -/
def tWhile (c : TT) (tb : TS) : TS := fun D σ H => ∃ W : Nat → St → Hp → Prop, (∃ m, W m σ H) ∧ ∀ m σ H, W m σ H →
  c σ H fun b H1 => if b = true then ∃ N : St → Hp → Prop, (∀ σ' H', N σ' H' → ∃ m', m' < m ∧ W m' σ' H') ∧ tb { D with nx := N, ct := N, bk := D.nx } σ H1 else D.nx σ H1
theorem ps_while {c : Expr} {body : List Stmt} {tc : TT} {tb : TS} (hp : PassesOwn (model X.prog X.w) X.A X.env X.xe) (hc : PT X c tc) (hb : PSs X body tb) : PS X (.While c body [] pos) (tWhile tc tb) := by
  intro pins s σ H D I h
  obtain ⟨W, ⟨m0, w0⟩, turn⟩ := h
  refine wpAny_While (codeAny_whileLoop (fun n s' => ∃ σ' H', Inv X pins σ' H' s' ∧ W n σ' H') ?_ m0 ⟨σ, H, I, w0⟩)
  rintro n s1 ⟨σ1, H1, I1, w1⟩
  refine wpAny_passesOwn hp (thn (hc pins s1 σ1 H1 _ I1 (turn n σ1 H1 w1)) fun b s2 ⟨H2, I2, q2⟩ => ?_)
  cases b with
  | true =>
    obtain ⟨N, hN, q2⟩ := q2
    rw [if_pos rfl]
    refine wpAny_passesOwn hp (thn (hb pins s2 σ1 H2 _ I2 q2) fun f s3 q3 => ?_)
    cases f with
    | next =>
      obtain ⟨σ3, H3, I3, n3⟩ := q3
      obtain ⟨m', hm, w3⟩ := hN σ3 H3 n3
      exact ⟨m', hm, σ3, H3, I3, w3⟩
    | cont =>
      obtain ⟨σ3, H3, I3, n3⟩ := q3
      obtain ⟨m', hm, w3⟩ := hN σ3 H3 n3
      exact ⟨m', hm, σ3, H3, I3, w3⟩
    | brk => exact q3
    | ret v => exact q3
  | false =>
    rw [if_neg Bool.false_ne_true]
    exact wpAny_execs_nil ⟨σ1, H2, I2, q2⟩
end

/-! ### what a loop or a comprehension walks -/
/-- at turn i: it yields x (the heap may grow), or it stops -/
structure It where
  go : Nat → Hp → Prop
  yld : Nat → Hp → V → Hp → Prop
  stop : Nat → Hp → Prop
/-- the iterator's own objects may turn: they are not the frame's, not pinned, younger than the entry (or a comprehension's own) -/
def FpOk (X : Cx) (pins : List (Addr × Obj)) (H : Hp) (b : Addr) : Prop :=
  H b = none ∧ b ≠ X.env.locals ∧ b ∉ X.fs ∧ (b ∈ X.ex ∨ X.s₀.heap.objs.size ≤ b) ∧ (∀ x c, X.env.cells.lookup x = some c → c ≠ b) ∧ ∀ p ∈ X.pn ++ pins, p.1 ≠ b
theorem Inv.fpOk {X : Cx} {pins : List (Addr × Obj)} {σ : St} {H H' : Hp} {s : Shared} {b : Addr} (I : Inv X pins σ H s) (hb : s.heap.objs.size ≤ b) (hn : H' b = none) : FpOk X pins H' b := by
  refine ⟨hn, Nat.ne_of_gt (Nat.lt_of_lt_of_le I.lt hb), I.nofs hb, .inr (Nat.le_trans I.sz hb), fun x c e z => ?_, fun p hp z => ?_⟩
  · obtain ⟨v, q⟩ := I.cell x c e
    exact absurd (Nat.lt_of_lt_of_le q.lt (by rw [z]; exact hb)) (Nat.lt_irrefl _)
  · exact absurd (Nat.lt_of_lt_of_le (Heap.lt_size (I.pin p hp).1) (by rw [z]; exact hb)) (Nat.lt_irrefl _)
structure Turn (P : Program) (w : World) (K : PySem.W.Frag) (tg : Expr) (J : It) (fp : List Addr) (it : Addr) (tn : Nat → Heap → Prop) : Prop where
  mem : it ∈ fp
  obj : ∀ i h, tn i h → ∀ b ∈ fp, ∃ o, h.get? b = some o ∧ ∀ v, o.data ≠ .cell v
  keep : ∀ i h h', tn i h → (∀ b ∈ fp, ∀ o, h.get? b = some o → h'.get? b = some o) → tn i h'
  item : ∀ (X : Cx), X.prog = P → X.w = w → X.K = K → X.calm = true → ∀ (i : Nat) (pins : List (Addr × Obj)) (s : Shared) (σ : St) (H : Hp) (E : Value → Shared → Prop), Inv X pins σ H s → (∀ b ∈ fp, FpOk X pins H b) → tn i s.heap → J.go i H →
    wpAny (model P w) X.A (pyNext (.ref it)) (fun r s1 => ∃ u, r = some u ∧
      wpAny (model P w) X.A (letOwnedTupleGo tg (.ref it) u) (fun _ s2 => ∃ x H', Inv X pins σ H' s2 ∧ RelV x u ∧ J.yld i H x H' ∧ tn (i + 1) s2.heap ∧ ∀ b ∈ fp, H' b = none) E s1) E s
  done : ∀ (X : Cx), X.prog = P → X.w = w → X.K = K → X.calm = true → ∀ (i : Nat) (pins : List (Addr × Obj)) (s : Shared) (σ : St) (H : Hp) (E : Value → Shared → Prop), Inv X pins σ H s → (∀ b ∈ fp, FpOk X pins H b) → tn i s.heap → J.stop i H →
    wpAny (model P w) X.A (pyNext (.ref it)) (fun r s1 => r = none ∧ Inv X pins σ H s1) E s
  self : ∀ (A : Around) (i : Nat) (s : Shared) (Q : Value → Shared → Prop) (E : Value → Shared → Prop), tn i s.heap → Q (.ref it) s → wpAny (model P w) A (pyIter (.ref it)) Q E s
abbrev TI := St → Hp → (It → Hp → Prop) → Prop
/-- an iterator has come -/
def PIE (X : Cx) (pins : List (Addr × Obj)) (σ : St) (tg : Expr) (R : It → Hp → Prop) (itv : Value) (s2 : Shared) : Prop :=
  ∃ (it : Addr) (fp : List Addr) (tn : Nat → Heap → Prop) (J : It) (H' : Hp), itv = .ref it ∧ Inv X pins σ H' s2 ∧ Turn X.prog X.w X.K tg J fp it tn ∧ tn 0 s2.heap ∧ (∀ b ∈ fp, FpOk X pins H' b) ∧ R J H'
def PI (X : Cx) (tg iter : Expr) (wi : TI) : Prop :=
  ∀ (pins : List (Addr × Obj)) (s : Shared) (σ : St) (H : Hp) (R : It → Hp → Prop), Inv X pins σ H s → wi σ H R →
    wpAny (model X.prog X.w) X.A (eval iter X.env) (fun v s1 => wpAny (model X.prog X.w) X.A (pyIter v) (PIE X pins σ tg R) X.xe s1) X.xe s

/-- the step ahead of the store is nothing for an iterator that keeps no tuple -/
theorem go_of {M : Model} {A : Around} {E : Value → Shared → Prop} {s : Shared} {tg : Expr} {it : Addr} {u : Value} {o : Obj} {n : String} {vs : Array Value} {Q : Unit → Shared → Prop} (ho : s.heap.get? it = some o) (hc : o.cls = .type n) (hd : o.data = .fields vs)
    (hn : ["enumerate", "zip", "dict_itemiterator", "dict_reverseitemiterator", "odict_iterator", "itertools.zip_longest", "itertools.pairwise"].contains n = false) (hQ : Q () s) : wpAny M A (letOwnedTupleGo tg (.ref it) u) Q E s := by
  unfold letOwnedTupleGo
  cases tg <;> first
    | exact wpAny_pure hQ
    | (cases u <;> first
        | exact wpAny_pure hQ
        | (refine wpAny_bind (wpAny_load ho ?_)
           rw [hc, hd]
           show wpAny M A (if (["enumerate", "zip", "dict_itemiterator", "dict_reverseitemiterator", "odict_iterator", "itertools.zip_longest", "itertools.pairwise"].contains n && vs[0]? == some (rawInt _)) = true then _ else _) Q E s
           rw [if_neg (by intro h; rw [hn, Bool.false_and] at h; cases h)]
           exact wpAny_pure hQ))

/-- the list at a, as it stands at each turn (a loop may append to it) -/
def Itl (K : PySem.W.Frag) (a : Addr) : It :=
  ⟨fun i H => ∃ xs x, SqL K H a xs ∧ xs[i]? = some x, fun i H x H' => H' = H ∧ ∀ xs, SqL K H a xs → xs[i]? = some x, fun i H => ∃ xs, SqL K H a xs ∧ xs.length ≤ i⟩
/-- lo, lo + 1, .. (n of them) -/
def Itr (lo : Int) (n : Nat) : It := ⟨fun i _ => i < n, fun i H x H' => H' = H ∧ x = .int (lo + i), fun i _ => n ≤ i⟩
theorem turn_list {P : Program} {w : World} {K : PySem.W.Frag} {tg : Expr} (a it : Addr) : Turn P w K tg (Itl K a) [it] it (fun i h => h.IsListIter it a i) where
  mem := by simp
  obj := fun i h st b hb => by
    have e : b = it := by simpa using hb
    subst e
    obtain ⟨o, e, c, d⟩ := st
    exact ⟨o, e, fun v z => by rw [d] at z; cases z⟩
  keep := fun i h h' st k => st.at fun o e => k it (by simp) o e
  item := by
    intro X hP hw hK hc i pins s σ H E I hf st hg
    subst hP hw hK
    obtain ⟨xs, x, hq, hx⟩ := hg
    obtain ⟨its, rv, p, hz⟩ := I.list hq
    obtain ⟨u, hu, ru⟩ := rv.get hx
    obtain ⟨f0, f1, f2, f3, f4, f5⟩ := hf it (by simp)
    refine wpAny_pyNext_list_item st p.isList (x := u) (by simpa using hu) fun h' st' sb => ?_
    have I1 : Inv X pins σ H { s with heap := h' } := I.turned (t' := s.toks) (fun b o hb e => (sb.2 b hb).trans e) f0 f1 f3 f4 f5
    obtain ⟨o, e, c, d⟩ := id st'
    exact ⟨u, rfl, go_of (s := { s with heap := h' }) e c d (by decide) ⟨x, H, I1, ru, ⟨rfl, fun ys hy => by rw [I.list_inj hy hq]; exact hx⟩, st', fun b hb => (hf b hb).1⟩⟩
  done := by
    intro X hP hw hK hc i pins s σ H E I hf st hg
    subst hP hw hK
    obtain ⟨xs, hq, hx⟩ := hg
    obtain ⟨its, rv, p, hz⟩ := I.list hq
    obtain ⟨f0, f1, f2, f3, f4, f5⟩ := hf it (by simp)
    have hl := rv.length
    exact wpAny_pyNext_list_end (I.ok.hd hc) st p.isList (by simp; omega) fun h' eb => ⟨rfl, I.turned (t' := s.toks) (fun b o hb e => eb b o hb e) f0 f1 f3 f4 f5⟩
  self := fun _ _ _ _ _ st h => wpAny_pyIter_listiter st h
theorem turn_range {P : Program} {w : World} {K : PySem.W.Frag} {tg : Expr} (it : Addr) (lo : Int) (n : Nat) : Turn P w K tg (Itr lo n) [it] it (fun i h => IsRangeIter h it (lo + (i : Nat) * 1) ((n : Int) - (i : Nat)) 1) where
  mem := by simp
  obj := fun i h st b hb => by
    have e : b = it := by simpa using hb
    subst e
    exact ⟨_, st, fun v z => by
      have z' : Data.fields _ = Data.cell v := z
      cases z'⟩
  keep := fun i h h' st k => k it (by simp) _ st
  item := by
    intro X hP hw hK hc i pins s σ H E I hf st hg
    subst hP hw hK
    obtain ⟨f0, f1, f2, f3, f4, f5⟩ := hf it (by simp)
    have W := Walks.range (prog := X.prog) (w := X.w) (I.ok.hd hc) it lo 1 n
    refine W.item i s _ _ hg st fun v h' tk hv st' kk => ?_
    obtain ⟨t, rfl⟩ := hv
    have I1 : Inv X pins σ H { s with heap := h', toks := tk } := I.turned (fun b o hb e => kk b o (by simpa using hb) e) f0 f1 f3 f4 f5
    refine ⟨_, rfl, go_of (s := { s with heap := h', toks := tk }) (n := "range_iterator") st' rfl rfl (by decide) ⟨.int (lo + i), H, I1, ⟨t, ?_⟩, ⟨rfl, rfl⟩, st', fun b hb => (hf b hb).1⟩⟩
    rw [Int.mul_one]
  done := by
    intro X hP hw hK hc i pins s σ H E I hf st hg
    subst hP hw hK
    obtain ⟨f0, f1, f2, f3, f4, f5⟩ := hf it (by simp)
    exact wpAny_pyNext_range_end (I.ok.hd hc) st (by have : n ≤ i := hg; omega) fun h' eb => ⟨rfl, I.turned (t' := s.toks) (fun b o hb e => eb b o hb e) f0 f1 f3 f4 f5⟩
  self := fun _ _ _ _ _ st h => wpAny_pyIter_rangeiter st h
end L2

namespace L2
open PySem PySem.Spec PyProof.Rows
section
variable {X : Cx} {tg : Expr}
def iList (K : PySem.W.Frag) (tl : TE) : TI := fun σ H R => tl σ H fun x H1 => ∃ a, x = .ref a ∧ (∃ xs, SqL K H1 a xs) ∧ R (Itl K a) H1
theorem pi_list {l : Expr} {tl : TE} (hl : PE X l tl) : PI X tg l (iList X.K tl) := by
  intro pins s σ H R I h
  refine thn (hl pins s σ H _ I h) fun v s1 ⟨x, H1, I1, r1, q1⟩ => ?_
  obtain ⟨a, e, ⟨xs, hq⟩, q⟩ := q1
  subst e
  cases r1
  obtain ⟨its, rv, p, hz⟩ := I1.list hq
  refine wpAny_pyIter_list p.isList ?_
  refine ⟨s1.heap.objs.size, [s1.heap.objs.size], _, _, H1, rfl, I1.kept (t' := s1.toks) fun b o e => Heap.get?_push_of_some _ e, turn_list a _, ⟨_, Heap.get?_push_size _ rfl, rfl, rfl⟩, fun b hb => ?_, q⟩
  have e : b = s1.heap.objs.size := by simpa using hb
  subst e
  exact I1.fpOk (Nat.le_refl _) (I1.hok.fresh (Nat.le_refl _))
/-- a range object just made, walked -/
theorem range_it {pins : List (Addr × Obj)} {σ : St} {H : Hp} {s : Shared} {R : It → Hp → Prop} {E : Value → Shared → Prop} {lo hi : Int} {t u v : Tok} {tk : Nat} (I : Inv X pins σ H s) (h1 : -(2 ^ 62) ≤ lo) (h2 : lo < 2 ^ 62) (h3 : -(2 ^ 62) ≤ hi) (h4 : hi < 2 ^ 62)
    (q : R (Itr lo (hi - lo).toNat) H) : wpAny (model X.prog X.w) X.A (pyIter (.ref s.heap.objs.size)) (PIE X pins σ tg R) E { s with heap := s.heap.push { cls := .type "range", data := .fields #[.int lo t, .int hi u, .int 1 v] }, toks := tk } := by
  refine wpAny_pyIter_range (IsRange.new ..) (small_one h1 h2 h3 h4) ?_
  have I1 : Inv X pins σ H { s with heap := s.heap.push { cls := .type "range", data := .fields #[.int lo t, .int hi u, .int 1 v] }, toks := tk } := I.kept fun b o e => Heap.get?_push_of_some _ e
  refine ⟨(s.heap.push { cls := .type "range", data := .fields #[.int lo t, .int hi u, .int 1 v] }).objs.size, [(s.heap.push { cls := .type "range", data := .fields #[.int lo t, .int hi u, .int 1 v] }).objs.size], _, _, H, rfl,
    I1.kept (t' := tk) fun b o e => Heap.get?_push_of_some _ e, turn_range _ lo (hi - lo).toNat, ?_, fun b hb => ?_, q⟩
  · have e1 : lo + ((0 : Nat) : Int) * 1 = lo := by simp
    have e2 : (((hi - lo).toNat : Nat) : Int) - ((0 : Nat) : Int) = Builtin.Range.rangeSize lo hi 1 := by rw [rangeSize_one]; split <;> omega
    show IsRangeIter _ _ (lo + ((0 : Nat) : Int) * 1) ((((hi - lo).toNat : Nat) : Int) - ((0 : Nat) : Int)) 1
    rw [e1, e2]
    exact Heap.get?_push_size _ rfl
  · have e : b = (s.heap.push { cls := .type "range", data := .fields #[.int lo t, .int hi u, .int 1 v] }).objs.size := by simpa using hb
    subst e
    exact I1.fpOk (Nat.le_refl _) (I1.hok.fresh (Nat.le_refl _))
def iRng1 (ta : TA) : TI := fun σ H R => ta σ H fun vs H1 => ∃ j : Int, vs = [.int j] ∧ -(2 ^ 62) ≤ j ∧ j < 2 ^ 62 ∧ R (Itr 0 j.toNat) H1
theorem pi_range1 {a : Expr} {ta : TA} {p pos : Pos} (hg : Gl X "range") (hm : X.mg "range" = none) (ha : PA X [a] ta) (hs : starEach [a] X.env = [(false, eval a X.env)] := by rfl) : PI X tg (.Call (.Name "range" p) [a] [] pos) (iRng1 ta) := by
  intro pins s σ H R I h
  refine Call_ (ld_blt I hg hm boot_range (PyProof.Rows.callWith_type1 (thn (ha pos pins s σ H _ I h) fun us s1 ⟨vs, H1, I1, r1, q1⟩ => ?_) hs rfl))
  obtain ⟨j, e, q1, q2, q⟩ := q1
  subst e
  cases r1 with
  | cons r rr =>
    cases rr
    obtain ⟨t, rfl⟩ := r
    exact call_range_1 (range_it I1 (by omega) (by omega) q1 q2 (by simpa using q))

/-! ### for -/
/-- W: the invariant by the turn and a measure; N: what the body is to reach -/
def tFor (wi : TI) (g : TG) (tb : TS) : TS := fun D σ H => wi σ H fun J H1 => ∃ W : Nat → Nat → St → Hp → Prop, (∃ m, W 0 m σ H1) ∧ ∀ i m σ H, W i m σ H →
  (J.stop i H ∧ D.nx σ H) ∨ (J.go i H ∧ ∃ N : St → Hp → Prop, (∀ σ' H', N σ' H' → ∃ m', m' < m ∧ W (i + 1) m' σ' H') ∧ ∀ x H', J.yld i H x H' → g x σ H' fun σ2 H2 => tb { D with nx := N, ct := N, bk := D.nx } σ2 H2)
/-- the records at fp as they stand -/
def pinsAt (fp : List Addr) (h : Heap) : List (Addr × Obj) := fp.filterMap fun b => (h.get? b).map fun o => (b, o)
theorem mem_pinsAt {fp : List Addr} {h : Heap} {b : Addr} {o : Obj} (hb : b ∈ fp) (e : h.get? b = some o) : (b, o) ∈ pinsAt fp h := List.mem_filterMap.mpr ⟨b, hb, by rw [e]; rfl⟩
theorem of_pinsAt {fp : List Addr} {h : Heap} {p : Addr × Obj} (hp : p ∈ pinsAt fp h) : p.1 ∈ fp ∧ h.get? p.1 = some p.2 := by
  obtain ⟨b, hb, e⟩ := List.mem_filterMap.mp hp
  cases q : h.get? b with
  | none => rw [q] at e; cases e
  | some o =>
    rw [q] at e
    have e' : (b, o) = p := Option.some.inj e
    subst e'
    exact ⟨hb, q⟩
theorem Inv.pinned {pins : List (Addr × Obj)} {σ : St} {H : Hp} {s : Shared} {fp : List Addr} (I : Inv X pins σ H s) (hf : ∀ b ∈ fp, FpOk X pins H b) (ho : ∀ b ∈ fp, ∃ o, s.heap.get? b = some o ∧ ∀ v, o.data ≠ .cell v) : Inv X (pins ++ pinsAt fp s.heap) σ H s :=
  I.pins_of fun p hp => (List.mem_append.mp hp).elim (fun z => I.pin p (List.mem_append_right _ z)) fun z => by
    obtain ⟨hb, e⟩ := of_pinsAt z
    obtain ⟨f0, f1, f2, _⟩ := hf p.1 hb
    obtain ⟨o, e', d⟩ := ho p.1 hb
    rw [e] at e'; cases e'
    exact ⟨e, f0, f1, f2, d⟩
theorem Inv.unpinned {pins pl : List (Addr × Obj)} {σ : St} {H : Hp} {s : Shared} (I : Inv X (pins ++ pl) σ H s) : Inv X pins σ H s := I.pins_of fun p hp => I.pin p (List.mem_append_right _ (List.mem_append_left _ hp))
theorem ps_for {iter : Expr} {body : List Stmt} {wi : TI} {g : TG} {tb : TS} {pos : Pos} (hp : PassesOwn (model X.prog X.w) X.A X.env X.xe) (hc : X.calm = true) (hi : PI X tg iter wi) (hg : PG X tg g) (hb : PSs X body tb)
    (hs : ∀ x, foldedSetIterable iter X.env x = pure x := by intro _; rfl) : PS X (.For tg iter body [] pos) (tFor wi g tb) := by
  intro pins s σ H D I h
  refine wpAny_For (thn (hi pins s σ H _ I h) fun v s1 h1 => thn h1 fun itv s2 h2 => ?_) hs
  obtain ⟨it, fp, tn, J, H2, e, I2, T, st2, f2, W, ⟨m0, w0⟩, turn⟩ := h2
  subst e
  -- what stays true of the iterator's objects through the loop
  have stat : ∀ {H' : Hp}, (∀ b ∈ fp, H' b = none) → ∀ b ∈ fp, FpOk X pins H' b := fun hn b hb => ⟨hn b hb, (f2 b hb).2⟩
  refine codeAny_forLoop_any (fun n s' => ∃ i σ' H', Inv X pins σ' H' s' ∧ tn i s'.heap ∧ (∀ b ∈ fp, H' b = none) ∧ W i n σ' H') ?_ m0 ⟨0, σ, H2, I2, st2, fun b hb => (f2 b hb).1, w0⟩
  rintro n s3 ⟨i, σ3, H3, I3, st3, fr3, w3⟩
  rcases turn i n σ3 H3 w3 with ⟨stop, qn⟩ | ⟨go, N, hN, step⟩
  · refine wpAny_passesOwn hp (thn (T.done X rfl rfl rfl hc i pins s3 σ3 H3 X.xe I3 (stat fr3) st3 stop) fun r s4 ⟨hr, I4⟩ => ?_)
    subst hr
    exact wpAny_execs_nil ⟨σ3, H3, I4, qn⟩
  · refine wpAny_passesOwn hp (thn (T.item X rfl rfl rfl hc i pins s3 σ3 H3 X.xe I3 (stat fr3) st3 go) fun r s4 ⟨u, hr, h4⟩ => ?_)
    subst hr
    refine wpAny_passesOwn hp (thn h4 fun _ s5 ⟨x, H5, I5, r5, y5, st5, fr5⟩ => ?_)
    have I5' := I5.pinned (stat fr5) (T.obj _ _ st5)
    refine wpAny_passesOwn hp (thn (hg _ s5 σ3 H5 x u _ I5' r5 (step x H5 y5)) fun _ s6 ⟨σ6, H6, I6, q6⟩ => ?_)
    refine wpAny_passesOwn hp (thn (hb _ s6 σ6 H6 _ I6 q6) fun f s7 q7 => ?_)
    have again : ∀ {σ7 : St} {H7 : Hp}, Inv X (pins ++ pinsAt fp s5.heap) σ7 H7 s7 → N σ7 H7 → ∃ m, m < n ∧ ∃ i σ' H', Inv X pins σ' H' s7 ∧ tn i s7.heap ∧ (∀ b ∈ fp, H' b = none) ∧ W i m σ' H' := fun {σ7 H7} I7 n7 => by
      obtain ⟨m', hm, w7⟩ := hN σ7 H7 n7
      refine ⟨m', hm, i + 1, σ7, H7, I7.unpinned, T.keep _ _ _ st5 fun b hb o e => (I7.pin (b, o) (List.mem_append_right _ (List.mem_append_right _ (mem_pinsAt hb e)))).1, fun b hb => ?_, w7⟩
      obtain ⟨o, e, d⟩ := T.obj _ _ st5 b hb
      exact (I7.pin (b, o) (List.mem_append_right _ (List.mem_append_right _ (mem_pinsAt hb e)))).2.1
    cases f with
    | next => obtain ⟨σ7, H7, I7, n7⟩ := q7; exact again I7 n7
    | cont => obtain ⟨σ7, H7, I7, n7⟩ := q7; exact again I7 n7
    | brk => obtain ⟨σ7, H7, I7, q7⟩ := q7; exact ⟨σ7, H7, I7.unpinned, q7⟩
    | ret v => obtain ⟨x7, σ7, H7, I7, r7, q7⟩ := q7; exact ⟨x7, σ7, H7, I7.unpinned, r7, q7⟩
end

/-! ### the forms one uses -/
end L2

namespace L2
open PySem PySem.Spec PyProof.Rows

abbrev R2 := V → V → Hp → VK → Prop
/-- a two-place operation on values: f is binaryOp op, inplaceOp op or compareOp op -/
def OpR (X : Cx) (f : Value → Value → Sem Value) (r : R2) : Prop :=
  ∀ (pins : List (Addr × Obj)) (s : Shared) (σ : St) (H : Hp) (x y : V) (v u : Value) (Q : VK), Inv X pins σ H s → RelV x v → RelV y u → r x y H Q →
    wpAny (model X.prog X.w) X.A (f v u) (EP X pins σ Q) X.xe s
/-- a one-place operation -/
def UnR (X : Cx) (f : Value → Sem Value) (r : V → Hp → VK → Prop) : Prop :=
  ∀ (pins : List (Addr × Obj)) (s : Shared) (σ : St) (H : Hp) (x : V) (v : Value) (Q : VK), Inv X pins σ H s → RelV x v → r x H Q →
    wpAny (model X.prog X.w) X.A (f v) (EP X pins σ Q) X.xe s
/-- a call of a value that is known (a builtin, a type) with values -/
def CallR (X : Cx) (f : Value) (r : List V → Hp → VK → Prop) : Prop :=
  ∀ (pins : List (Addr × Obj)) (s : Shared) (σ : St) (H : Hp) (xs : List V) (us : List Value) (Q : VK), Inv X pins σ H s → Vals xs us → r xs H Q →
    wpAny (model X.prog X.w) X.A (call f us) (EP X pins σ Q) X.xe s

def tOp (r : R2) (ta tb : TE) : TE := fun σ H Q => ta σ H fun x H1 => tb σ H1 fun y H2 => r x y H2 Q
def tUn (r : V → Hp → VK → Prop) (ta : TE) : TE := fun σ H Q => ta σ H fun x H1 => r x H1 Q
/-- ints in, under C, and a value out -/
def rI (C : Int → Int → Prop) (g : Int → Int → V) : R2 := fun x y H Q => ∃ i j, x = .int i ∧ y = .int j ∧ C i j ∧ Q (g i j) H
def rI0 (g : Int → Int → V) : R2 := fun x y H Q => ∃ i j, x = .int i ∧ y = .int j ∧ Q (g i j) H
def rU (g : Int → V) : V → Hp → VK → Prop := fun x H Q => ∃ i, x = .int i ∧ Q (g i) H

section
variable {X : Cx} {a b c : Expr} {ta tb tc : TE} {pos : Pos}

theorem binT (ha : PE X a ta) (hb : PE X b tb) {pins : List (Addr × Obj)} {s : Shared} {σ : St} {H : Hp} {R : V → V → Hp → Prop} (I : Inv X pins σ H s)
    (h : ta σ H fun x H1 => tb σ H1 fun y H2 => R x y H2) {Q : Value → Shared → Prop} {f : Value → Value → Sem Value}
    (hf : ∀ v u s2 x y H2, Inv X pins σ H2 s2 → RelV x v → RelV y u → R x y H2 → wpAny (model X.prog X.w) X.A (f v u) Q X.xe s2) :
    wpAny (model X.prog X.w) X.A (eval a X.env) (fun v s₁ => wpAny (model X.prog X.w) X.A (eval b X.env) (fun u s₂ => wpAny (model X.prog X.w) X.A (f v u) Q X.xe s₂) X.xe s₁) X.xe s := by
  refine thn (ha pins s σ H _ I h) fun v s1 ⟨x, H1, I1, r1, q1⟩ => ?_
  refine thn (hb pins s1 σ H1 _ I1 q1) fun u s2 ⟨y, H2, I2, r2, q2⟩ => ?_
  exact hf v u s2 x y H2 I2 r1 r2 q2

theorem pe_op {op : Operator} {r : R2} (ho : OpR X (binaryOp op) r) (ha : PE X a ta) (hb : PE X b tb) : PE X (.BinOp a op b pos) (tOp r ta tb) := by
  intro pins s σ H Q I h
  exact wpAny_BinOp (binT ha hb I h fun v u s2 x y H2 I2 rx ry q => ho pins s2 σ H2 x y v u Q I2 rx ry q)
theorem pe_un {op : UnaryOp} {r : V → Hp → VK → Prop} (ho : UnR X (unaryOp op) r) (ha : PE X a ta) : PE X (.UnaryOp op a pos) (tUn r ta) := by
  intro pins s σ H Q I h
  exact UnaryOp_ (thn (ha pins s σ H _ I h) fun v s1 ⟨x, H1, I1, r1, q1⟩ => ho pins s1 σ H1 x v Q I1 r1 q1)

/-! ### ints -/
theorem opI {f : Value → Value → Sem Value} {C : Int → Int → Prop} {g : Int → Int → Int}
    (rule : ∀ (i j : Int) (t u : Tok) (s : Shared) (Q : Value → Shared → Prop) (E : Value → Shared → Prop), C i j → Q (.int (g i j) s.toks) { s with toks := s.toks + 1 } → wpAny (model X.prog X.w) X.A (f (.int i t) (.int j u)) Q E s) :
    OpR X f (rI C fun i j => .int (g i j)) := by
  intro pins s σ H x y v u Q I rx ry h
  obtain ⟨i, j, rfl, rfl, hc, q⟩ := h
  obtain ⟨t, rfl⟩ := rx
  obtain ⟨t', rfl⟩ := ry
  exact rule i j t t' s _ _ hc ⟨.int (g i j), H, I.tok _, ⟨_, rfl⟩, q⟩
theorem opI0 {f : Value → Value → Sem Value} {g : Int → Int → Int}
    (rule : ∀ (i j : Int) (t u : Tok) (s : Shared) (Q : Value → Shared → Prop) (E : Value → Shared → Prop), Q (.int (g i j) s.toks) { s with toks := s.toks + 1 } → wpAny (model X.prog X.w) X.A (f (.int i t) (.int j u)) Q E s) :
    OpR X f (rI0 fun i j => .int (g i j)) := by
  intro pins s σ H x y v u Q I rx ry h
  obtain ⟨i, j, rfl, rfl, q⟩ := h
  obtain ⟨t, rfl⟩ := rx
  obtain ⟨t', rfl⟩ := ry
  exact rule i j t t' s _ _ ⟨.int (g i j), H, I.tok _, ⟨_, rfl⟩, q⟩
theorem opB0 {f : Value → Value → Sem Value} {g : Int → Int → Bool}
    (rule : ∀ (i j : Int) (t u : Tok) (s : Shared) (Q : Value → Shared → Prop) (E : Value → Shared → Prop), Q (.bool (g i j)) s → wpAny (model X.prog X.w) X.A (f (.int i t) (.int j u)) Q E s) :
    OpR X f (rI0 fun i j => .bl (g i j)) := by
  intro pins s σ H x y v u Q I rx ry h
  obtain ⟨i, j, rfl, rfl, q⟩ := h
  obtain ⟨t, rfl⟩ := rx
  obtain ⟨t', rfl⟩ := ry
  exact rule i j t t' s _ _ ⟨.bl (g i j), H, I, rfl, q⟩

def CDiv (i j : Int) : Prop := 0 < j ∧ j < 1073741824
def CPow (i j : Int) : Prop := 0 ≤ j ∧ j ≤ 1000000 ∧ i.natAbs < 2 ^ 64
def CMul (i j : Int) : Prop := (-(2 ^ 64) < i ∧ i < 2 ^ 64) ∨ (-(2 ^ 64) < j ∧ j < 2 ^ 64)
theorem CMul.ok {i j : Int} (h : CMul i j) : IntMulOk i j := by
  rcases h with ⟨h1, h2⟩ | ⟨h1, h2⟩
  · exact .of_left (intBits_le_64 h1 h2)
  · exact .of_right (intBits_le_64 h1 h2)

theorem op_add : OpR X (binaryOp .Add) (rI0 fun i j => .int (i + j)) := opI0 fun _ _ _ _ _ _ _ q => add_int q
theorem op_mul : OpR X (binaryOp .Mult) (rI CMul fun i j => .int (i * j)) := opI fun _ _ _ _ _ _ _ hc q => mul_int q hc.ok
/-- // by a positive divisor -/
theorem op_fdiv : OpR X (binaryOp .FloorDiv) (rI CDiv fun i j => .int (i / j)) := opI fun i j _ _ _ _ _ hc q => by
  have h1 : (0 : Int) < j := hc.1
  have h2 : j < 1073741824 := hc.2
  exact floordiv_int (by omega) (by rw [Int.fdiv_eq_ediv_of_nonneg i (by omega)]; exact q) (.inl (PyProof.noPylong_small (by omega)))
/-- % by a positive divisor of any size -/
theorem op_mod : OpR X (binaryOp .Mod) (rI (fun _ j => 0 < j) fun i j => .int (i % j)) := opI fun i j _ _ _ _ _ hc q => by
  have h1 : (0 : Int) < j := hc
  exact mod_int' (by omega) (by rw [Int.fmod_eq_emod_of_nonneg i (by omega)]; exact q)
theorem op_pow : OpR X (binaryOp .Pow) (rI CPow fun i j => .int (i ^ j.toNat)) := opI fun _ _ _ _ _ _ _ hc q => pow_int_small hc.1 hc.2.1 hc.2.2 q


theorem unI {f : Value → Sem Value} {g : Int → Int}
    (rule : ∀ (i : Int) (t : Tok) (s : Shared) (Q : Value → Shared → Prop) (E : Value → Shared → Prop), Q (.int (g i) s.toks) { s with toks := s.toks + 1 } → wpAny (model X.prog X.w) X.A (f (.int i t)) Q E s) :
    UnR X f (rU fun i => .int (g i)) := by
  intro pins s σ H x v Q I rx h
  obtain ⟨i, rfl, q⟩ := h
  obtain ⟨t, rfl⟩ := rx
  exact rule i t s _ _ ⟨.int (g i), H, I.tok _, ⟨_, rfl⟩, q⟩
theorem un_neg : UnR X (unaryOp .USub) (rU fun i => .int (-i)) := unI fun _ _ _ _ _ q => neg_int q

/-! ### bools among ints: n += (a < b) -/
end

/-! ### comparisons -/
/-- the scalars that == tells apart as data does -/
def scal : V → V → Bool
  | .non, .non => true | .non, .int _ => true | .int _, .non => true | .non, .bl _ => true | .bl _, .non => true | .non, .str _ => true | .str _, .non => true
  | .int _, .int _ => true | .bl _, .bl _ => true | .str _, .str _ => true | .byt _, .byt _ => true
  | .int _, .str _ => true | .str _, .int _ => true | .bl _, .str _ => true | .str _, .bl _ => true
  | _, _ => false
def rEq : R2 := fun x y H Q => scal x y = true ∧ Q (.bl (decide (x = y))) H
def rNe : R2 := fun x y H Q => scal x y = true ∧ Q (.bl (!decide (x = y))) H

theorem dec_int {i j : Int} : decide (V.int i = V.int j) = (i == j) := by
  rw [Bool.eq_iff_iff]
  simp
theorem dec_bl {i j : Bool} : decide (V.bl i = V.bl j) = (i == j) := by
  rw [Bool.eq_iff_iff]
  simp
theorem dec_str {i j : Str} : decide (V.str i = V.str j) = (i == j) := by
  rw [Bool.eq_iff_iff]
  simp
theorem dec_byt {i j : Array UInt8} : decide (V.byt i = V.byt j) = (i.toList == j.toList) := by
  rw [Bool.eq_iff_iff]
  cases i
  cases j
  simp

section
variable {X : Cx} {a b c : Expr} {ta tb tc : TE} {pos : Pos}
theorem fin_bl {pins : List (Addr × Obj)} {σ : St} {H : Hp} {s : Shared} {Q : VK} {k k' : Bool} (I : Inv X pins σ H s) (q : Q (.bl k) H) (e : k = k') : EP X pins σ Q (.bool k') s := by
  subst e
  exact ⟨.bl k, H, I, rfl, q⟩
theorem op_eq : OpR X (compareOp .Eq) rEq := by
  intro pins s σ H x y v u Q I rx ry h
  obtain ⟨hs, q⟩ := h
  cases x with
  | non =>
    cases rx
    cases y with
    | non => cases ry; exact PySem.EqNone.eq_none_none (fin_bl I q (by simp))
    | bl j => cases ry; exact PySem.EqNone.eq_none_bool (fin_bl I q (by simp))
    | int j => obtain ⟨t', rfl⟩ := ry; exact PySem.EqNone.eq_none_int (fin_bl I q (by simp))
    | str j => obtain ⟨t', rfl⟩ := ry; exact PySem.EqNone.eq_none_str (fin_bl I q (by simp))
    | _ => exact absurd (show false = true from hs) Bool.false_ne_true
  | bl i =>
    cases rx
    cases y with
    | non => cases ry; exact PySem.EqNone.eq_bool_none (fin_bl I q (by simp))
    | bl j => cases ry; exact eq_bool (fin_bl I q dec_bl)
    | str j => obtain ⟨t', rfl⟩ := ry; exact PySem.EqMixed.eq_bool_str (fin_bl I q (by simp))
    | _ => exact absurd (show false = true from hs) Bool.false_ne_true
  | int i =>
    obtain ⟨t, rfl⟩ := rx
    cases y with
    | non => cases ry; exact PySem.EqNone.eq_int_none (fin_bl I q (by simp))
    | int j => obtain ⟨t', rfl⟩ := ry; exact eq_int (fin_bl I q dec_int)
    | str j => obtain ⟨t', rfl⟩ := ry; exact PySem.EqMixed.eq_int_str (fin_bl I q (by simp))
    | _ => exact absurd (show false = true from hs) Bool.false_ne_true
  | str i =>
    obtain ⟨t, rfl⟩ := rx
    cases y with
    | non => cases ry; exact PySem.EqNone.eq_str_none (fin_bl I q (by simp))
    | bl j => cases ry; exact PySem.EqMixed.eq_str_bool (fin_bl I q (by simp))
    | int j => obtain ⟨t', rfl⟩ := ry; exact PySem.EqMixed.eq_str_int (fin_bl I q (by simp))
    | str j => obtain ⟨t', rfl⟩ := ry; exact eq_str (fin_bl I q dec_str)
    | _ => exact absurd (show false = true from hs) Bool.false_ne_true
  | byt i =>
    obtain ⟨t, rfl⟩ := rx
    cases y with
    | byt j => obtain ⟨t', rfl⟩ := ry; exact PySem.W.eq_bytes (fin_bl I q dec_byt)
    | _ => exact absurd (show false = true from hs) Bool.false_ne_true
  | _ => cases y <;> exact absurd (show false = true from hs) Bool.false_ne_true
theorem op_ne : OpR X (compareOp .NotEq) rNe := by
  intro pins s σ H x y v u Q I rx ry h
  obtain ⟨hs, q⟩ := h
  cases x with
  | non =>
    cases rx
    cases y with
    | non => cases ry; exact PySem.EqNone.ne_none_none (fin_bl I q (by simp))
    | bl j => cases ry; exact PySem.EqNone.ne_none_bool (fin_bl I q (by simp))
    | int j => obtain ⟨t', rfl⟩ := ry; exact PySem.EqNone.ne_none_int (fin_bl I q (by simp))
    | str j => obtain ⟨t', rfl⟩ := ry; exact PySem.EqNone.ne_none_str (fin_bl I q (by simp))
    | _ => exact absurd (show false = true from hs) Bool.false_ne_true
  | bl i =>
    cases rx
    cases y with
    | non => cases ry; exact PySem.EqNone.ne_bool_none (fin_bl I q (by simp))
    | bl j => cases ry; exact ne_bool (fin_bl I q (congrArg not dec_bl))
    | str j => obtain ⟨t', rfl⟩ := ry; exact PySem.EqMixed.ne_bool_str (fin_bl I q (by simp))
    | _ => exact absurd (show false = true from hs) Bool.false_ne_true
  | int i =>
    obtain ⟨t, rfl⟩ := rx
    cases y with
    | non => cases ry; exact PySem.EqNone.ne_int_none (fin_bl I q (by simp))
    | int j => obtain ⟨t', rfl⟩ := ry; exact ne_int (fin_bl I q (congrArg not dec_int))
    | str j => obtain ⟨t', rfl⟩ := ry; exact PySem.EqMixed.ne_int_str (fin_bl I q (by simp))
    | _ => exact absurd (show false = true from hs) Bool.false_ne_true
  | str i =>
    obtain ⟨t, rfl⟩ := rx
    cases y with
    | non => cases ry; exact PySem.EqNone.ne_str_none (fin_bl I q (by simp))
    | bl j => cases ry; exact PySem.EqMixed.ne_str_bool (fin_bl I q (by simp))
    | int j => obtain ⟨t', rfl⟩ := ry; exact PySem.EqMixed.ne_str_int (fin_bl I q (by simp))
    | str j => obtain ⟨t', rfl⟩ := ry; exact ne_str (fin_bl I q (congrArg not dec_str))
    | _ => exact absurd (show false = true from hs) Bool.false_ne_true
  | byt i =>
    obtain ⟨t, rfl⟩ := rx
    cases y with
    | byt j => obtain ⟨t', rfl⟩ := ry; exact PySem.W.ne_bytes (fin_bl I q (congrArg not dec_byt))
    | _ => exact absurd (show false = true from hs) Bool.false_ne_true
  | _ => cases y <;> exact absurd (show false = true from hs) Bool.false_ne_true

theorem op_lt : OpR X (compareOp .Lt) (rI0 fun i j => .bl (decide (i < j))) := opB0 fun _ _ _ _ _ _ _ q => lt_int q
theorem op_le : OpR X (compareOp .LtE) (rI0 fun i j => .bl (decide (i ≤ j))) := opB0 fun _ _ _ _ _ _ _ q => le_int q
theorem op_gt : OpR X (compareOp .Gt) (rI0 fun i j => .bl (decide (j < i))) := opB0 fun _ _ _ _ _ _ _ q => gt_int q

/-- is None, is not None: the right side a value none -/
theorem op_isN : OpR X (compareOp .Is) (fun x y H Q => y = .non ∧ Q (.bl (decide (x = .non))) H) := by
  intro pins s σ H x y v u Q I rx ry h
  obtain ⟨rfl, q⟩ := h
  cases ry
  refine is_none_gen (fin_bl I q ?_)
  cases x <;> first
    | (cases rx; rfl)
    | (obtain ⟨t, rfl⟩ := rx; rfl)
theorem op_notN : OpR X (compareOp .IsNot) (fun x y H Q => y = .non ∧ Q (.bl (!decide (x = .non))) H) := by
  intro pins s σ H x y v u Q I rx ry h
  obtain ⟨rfl, q⟩ := h
  cases ry
  refine isnot_none_gen (fin_bl I q ?_)
  cases x <;> first
    | (cases rx; rfl)
    | (obtain ⟨t, rfl⟩ := rx; rfl)


/-- two rules for one operation: by cases -/
theorem OpR.or {f : Value → Value → Sem Value} {r r' : R2} (h : OpR X f r) (h' : OpR X f r') : OpR X f (fun x y H Q => r x y H Q ∨ r' x y H Q) := by
  intro pins s σ H x y v u Q I rx ry q
  rcases q with q | q
  · exact h pins s σ H x y v u Q I rx ry q
  · exact h' pins s σ H x y v u Q I rx ry q

theorem nomark (b : Expr) {op : CmpOp} (h : op ≠ .In := by decide) (h2 : op ≠ .NotIn := by decide) : behindInMarks op b = false := by
  have e1 : (op == CmpOp.In) = false := by cases op <;> first | rfl | exact absurd rfl h
  have e2 : (op == CmpOp.NotIn) = false := by cases op <;> first | rfl | exact absurd rfl h2
  cases b <;> simp [behindInMarks, e1, e2]
/-- a comparison as a value; hm: nomark b, or (for in, not in) by with_unfolding_all rfl -/
theorem pe_cmpR {op : CmpOp} {r : R2} (ho : OpR X (compareOp op) r) (ha : PE X a ta) (hb : PE X b tb) (hm : behindInMarks op b = false) : PE X (.Compare a [op] [b] pos) (tOp r ta tb) := by
  intro pins s σ H Q I h
  exact wpAny_Compare1 (binT ha hb I h fun v u s2 x y H2 I2 rx ry q => ho pins s2 σ H2 x y v u Q I2 rx ry q) hm
/-- a reading of a value as a test -/
def tTest (t : TE) : TT := fun σ H Q => t σ H fun x H' => ∃ k, x = .bl k ∧ Q k H'
theorem pt_cmpR {op : CmpOp} {r : R2} (ho : OpR X (compareOp op) r) (ha : PE X a ta) (hb : PE X b tb) (hm : behindInMarks op b = false) : PT X (.Compare a [op] [b] pos) (tTest (tOp r ta tb)) := by
  intro pins s σ H Q I h
  refine wpAny_isTrue_Compare1 (thn (ha pins s σ H _ I h) fun v s1 ⟨x, H1, I1, r1, q1⟩ => thn (hb pins s1 σ H1 _ I1 q1) fun u s2 ⟨y, H2, I2, r2, q2⟩ =>
    thn (ho pins s2 σ H2 x y v u _ I2 r1 r2 q2) fun c s3 ⟨z, H3, I3, r3, k, e, q3⟩ => ?_) hm
  subst e
  cases r3
  exact wpAny_truthy_bool ⟨H3, I3, q3⟩
/-- a op1 b op2 c -/
def tChain (r r' : R2) (ta tb tc : TE) : TE := fun σ H Q => ta σ H fun x H1 => tb σ H1 fun y H2 => r x y H2 fun z H3 => ∃ k, z = .bl k ∧
  (if k = true then tc σ H3 fun w' H4 => r' y w' H4 Q else Q (.bl false) H3)
theorem pe_chain {op op' : CmpOp} {r r' : R2} (ho : OpR X (compareOp op) r) (ho' : OpR X (compareOp op') r') (ha : PE X a ta) (hb : PE X b tb) (hc : PE X c tc)
    (hm : lastMarks [op, op'] [b, c] = false := by with_unfolding_all rfl) : PE X (.Compare a [op, op'] [b, c] pos) (tChain r r' ta tb tc) := by
  intro pins s σ H Q I h
  refine Compare_chain (thn (ha pins s σ H _ I h) fun v s1 ⟨x, H1, I1, r1, q1⟩ => chain_link (thn (hb pins s1 σ H1 _ I1 q1) fun u s2 ⟨y, H2, I2, r2, q2⟩ =>
    thn (ho pins s2 σ H2 x y v u _ I2 r1 r2 q2) fun d s3 ⟨z, H3, I3, r3, k, e, q3⟩ => ?_)) hm
  subst e
  cases r3
  refine wpAny_truthy_bool ?_
  cases k with
  | false => exact ite_ff ⟨.bl false, H3, I3, rfl, q3⟩
  | true => exact ite_tt (chain_last (thn (hc pins s3 σ H3 _ I3 q3) fun w' s4 ⟨z', H4, I4, r4, q4⟩ => ho' pins s4 σ H4 y z' u w' Q I4 r2 r4 q4))

/-! ### truth -/
theorem line63 : (sizeLine : Nat) < 2 ^ 63 := by rw [sizeLine_eq]; decide

/-! ### strs and bytes -/
theorem op_add_str : OpR X (binaryOp .Add) (fun x y H Q => ∃ i j, x = .str i ∧ y = .str j ∧ i.length + j.length ≤ sizeLine ∧ Q (.str (i ++ j)) H) := by
  intro pins s σ H x y v u Q I rx ry h
  obtain ⟨i, j, rfl, rfl, hz, q⟩ := h
  obtain ⟨t, rfl⟩ := rx
  obtain ⟨t', rfl⟩ := ry
  exact add_str (fun t' tk => ⟨.str (i ++ j), H, I.tok _, ⟨_, rfl⟩, q⟩) hz


/-! ### scalar builtins, by CallR -/
theorem vals1 {x : V} {us : List Value} (r : Vals [x] us) : ∃ u, us = [u] ∧ RelV x u := by
  cases r with
  | cons r1 r2 => cases r2; exact ⟨_, rfl, r1⟩
theorem vals2 {x y : V} {us : List Value} (r : Vals [x, y] us) : ∃ u w', us = [u, w'] ∧ RelV x u ∧ RelV y w' := by
  cases r with
  | cons r1 r2 =>
    cases r2 with
    | cons r3 r4 => cases r4; exact ⟨_, _, rfl, r1, r3⟩
theorem call_max2 (hc : X.calm = true) : CallR X (.builtin "max") (fun xs H Q => ∃ i j, xs = [.int i, .int j] ∧ Q (.int (if j > i then j else i)) H) := by
  intro pins s σ H xs us Q I r h
  obtain ⟨i, j, rfl, q⟩ := h
  obtain ⟨u, w', rfl, ⟨t, rfl⟩, ⟨t', rfl⟩⟩ := vals2 r
  refine max_two_ints (I.ok.hd hc) fun h' tk k => ⟨_, H, I.kept k, ?_, q⟩
  by_cases hj : j > i
  · rw [if_pos hj, if_pos hj]; exact ⟨_, rfl⟩
  · rw [if_neg hj, if_neg hj]; exact ⟨_, rfl⟩
theorem call_min2 (hc : X.calm = true) : CallR X (.builtin "min") (fun xs H Q => ∃ i j, xs = [.int i, .int j] ∧ Q (.int (if j < i then j else i)) H) := by
  intro pins s σ H xs us Q I r h
  obtain ⟨i, j, rfl, q⟩ := h
  obtain ⟨u, w', rfl, ⟨t, rfl⟩, ⟨t', rfl⟩⟩ := vals2 r
  refine min_two_ints (I.ok.hd hc) fun h' tk k => ⟨_, H, I.kept k, ?_, q⟩
  by_cases hj : j < i
  · rw [if_pos hj, if_pos hj]; exact ⟨_, rfl⟩
  · rw [if_neg hj, if_neg hj]; exact ⟨_, rfl⟩
theorem call_int1 : CallR X (.type "int") (fun xs H Q => (∃ i, xs = [.int i] ∧ Q (.int i) H) ∨ ∃ k, xs = [.bl k] ∧ Q (.int (if k then 1 else 0)) H) := by
  intro pins s σ H xs us Q I r h
  rcases h with ⟨i, rfl, q⟩ | ⟨k, rfl, q⟩
  · obtain ⟨u, rfl, t, rfl⟩ := vals1 r
    exact call_int_int ⟨.int i, H, I, ⟨_, rfl⟩, q⟩
  · obtain ⟨u, rfl, r1⟩ := vals1 r
    cases r1
    exact call_int_bool ⟨.int (if k then 1 else 0), H, I.tok _, ⟨_, rfl⟩, q⟩
end
end L2

namespace L2
open PySem PySem.Spec PyProof.Rows

/-! ### an instance, its attributes a map -/
structure ObjM (h : Heap) (x dx C : Addr) (mA : Str → Option Value) : Prop where
  obj : h.get? x = some (PySem.W.instObj C dx)
  ns : h.Ns1 dx mA
  ne : dx ≠ x

theorem lookIn_ns {h : Heap} {dx : Addr} {mA : Str → Option Value} (n : h.Ns1 dx mA) : ∃ od, h.get? dx = some od ∧ ∀ name, PySem.W.lookIn name od = some (mA name) := by
  obtain ⟨o, es, ep, ho, hd, hk, _, hm⟩ := n
  refine ⟨o, ho, fun name => ?_⟩
  have e := hm name
  unfold nsFind findBy at e
  rw [← Array.find?_toList] at e
  unfold PySem.W.lookIn
  rw [hd]
  dsimp only
  split
  · rename_i y q
    rw [q] at e
    exact congrArg some e
  · rename_i q
    rw [q] at e
    have a : es.toList.any (·.refKey) = false := by
      rw [List.any_eq_false]
      intro y hy
      obtain ⟨z, t, hkey⟩ := hk y (Array.mem_toList_iff.mp hy)
      simp [DictEntry.refKey, hkey]
    have a' : ¬ es.toList.any (·.refKey) = true := by rw [a]; exact Bool.false_ne_true
    rw [if_neg a']
    exact congrArg some e

theorem ObjM.look {h : Heap} {x dx C : Addr} {mA : Str → Option Value} (I : ObjM h x dx C mA) : ∃ od, PySem.W.InstAt h x (PySem.W.instObj C dx) C (some od) ∧ ∀ name, PySem.W.lookIn name od = some (mA name) :=
  let ⟨od, ho, hl⟩ := lookIn_ns I.ns
  ⟨od, ⟨I.obj, rfl, rfl, ho⟩, hl⟩

section
variable {prog : Program} {w : World} {A : Around} {E : Value → Shared → Prop} {s : Shared} {K : PySem.W.Frag} {x dx C f : Addr} {mA : Str → Option Value} {name : Str} {v : Value}





end

/-! ### the attributes as a list of pairs -/


section
variable {P : Program} {w : World} {H H' : Hp} {h h' : Heap} {a C dx : Addr} {fs fs' : List (Str × V)}
theorem ins_get (hok : HOk P w H h) (e : H a = some (.ins C dx fs)) : ∃ mA, ObjM h a dx C mA ∧ (∀ f, RelO (fs.lookup f) (mA f)) ∧ PySem.Within mA (fs.map (·.1)) ∧ fs.length ≤ 1000 ∧ H dx = some (.own a) := by
  obtain ⟨d, z, ne, ob, mA, n, r, q⟩ := (show ObjOk P w H h a (.ins C dx fs) from hok a _ e)
  exact ⟨mA, ⟨ob, n, ne⟩, r, q, z, d⟩
end

/-! ### what of the text a class must have -/
structure Cls (K : PySem.W.Frag) (C : Addr) : Prop where
  pg : PySem.W.plainGet K C Str.empty = true
  hd : PySem.W.hasDictIn K C = true
  po : PySem.W.plainOver K C = true
  sa : PySem.W.findIn K (.ref C) "__setattr__" = some (some (.builtin "object.__setattr__"))
theorem Cls.get {K : PySem.W.Frag} {C : Addr} (c : Cls K C) (f : Str) : PySem.W.plainGet K C f = true := c.pg
/-- no class of it has the name -/
def NoAttr (K : PySem.W.Frag) (C : Addr) (f : Str) : Prop := PySem.W.findIn K (.ref C) f = some none

section
variable {X : Cx} {pins : List (Addr × Obj)} {σ : St} {H : Hp} {s : Shared} {a C dx : Addr} {fs : List (Str × V)} {f : Str} {v : V} {A : Around} {E : Value → Shared → Prop}






end

/-! ### readings and rules -/

section
variable {X : Cx} {o e value : Expr} {f : Str} {pos pos' tpos : Pos} {ta tv : TE}

end

/-! ### isinstance -/
section
variable {X : Cx} {pins : List (Addr × Obj)} {σ : St} {H : Hp} {s : Shared} {A : Around} {E : Value → Shared → Prop} {Q : Value → Shared → Prop} {c : Value} {b : Bool}
/-- the type of a value, as the fragment's deciders take it; for an instance its class -/
inductive TyOf (K : PySem.W.Frag) (H : Hp) : V → Value → Prop where
  | non : TyOf K H .non (.type "NoneType")
  | bl (x : Bool) : TyOf K H (.bl x) (.type "bool")
  | int (i : Int) : TyOf K H (.int i) (.type "int")
  | str (x : Str) : TyOf K H (.str x) (.type "str")
  | flt (x : UInt64) : TyOf K H (.flt x) (.type "float")
  | lst {a : Addr} {xs : List V} (e : H a = some (.lst xs)) : TyOf K H (.ref a) (.type "list")
  | frz {a : Addr} {o : Obj} {xs : List V} (e : H a = some (.frz o (.lst xs))) : TyOf K H (.ref a) (.type "list")
  | tup {a : Addr} {xs : List V} (e : H a = some (.tup xs)) : TyOf K H (.ref a) (.type "tuple")
  | dK {a : Addr} {kvs : List (Key × V)} (e : H a = some (.dK kvs)) : TyOf K H (.ref a) (.type "dict")
  | dT {a : Addr} {kvs : List (List Key × V)} (e : H a = some (.dT kvs)) : TyOf K H (.ref a) (.type "dict")
  | ins {a C dx : Addr} {fs : List (Str × V)} (e : H a = some (.ins C dx fs)) (cl : Cls K C) (ha : PySem.W.findIn K (.ref C) "__class__" = some (some (.builtin "object.__class__")))
      (hn : PySem.W.specialIn K (.builtin "object.__class__") "__get__" = some (some (.builtin "getset_descriptor.__get__"))) (htk : PySem.W.takesIn K (.builtin "object.__class__") = some true)
      (hm : PySem.W.mroIn K C (.type "object") = some true) : TyOf K H (.ref a) (.ref C)
/-- isinstance(x, c) for one class c, a built-in or an own one: kitOne's answer -/
theorem isinst_ok {x : V} {u t : Value} (I : Inv X pins σ H s) (rx : RelV x u) (ty : TyOf X.K H x t) (e : PySem.W.kitOne X.K t c = some b) (h : ∀ tk, Q (.bool b) { s with toks := tk }) :
    wpAny (model X.prog X.w) A (call (.builtin "isinstance") [u, c]) Q E s := by
  cases ty with
  | non => cases (show u = Value.none from rx); exact PySem.W.kia_one PySem.W.kitx_none I.kIn True.intro e (fun z => nomatch z) h
  | bl y => cases (show u = Value.bool y from rx); exact PySem.W.kia_one PySem.W.kitx_bool I.kIn True.intro e (fun z => nomatch z) h
  | int i => obtain ⟨t, q⟩ := (show ∃ t, u = Value.int i t from rx); cases q; exact PySem.W.kia_one PySem.W.kitx_int I.kIn True.intro e (fun z => nomatch z) h
  | str y => obtain ⟨t, q⟩ := (show ∃ t, u = Value.str y t from rx); cases q; exact PySem.W.kia_one PySem.W.kitx_str I.kIn True.intro e (fun z => nomatch z) h
  | flt y => obtain ⟨t, q⟩ := (show ∃ t, u = Value.float y t from rx); cases q; exact PySem.W.kia_one PySem.W.kitx_float I.kIn True.intro e (fun z => nomatch z) h
  | @lst a xs ea =>
    cases (show u = Value.ref a from rx)
    obtain ⟨_, _, n, _, h1⟩ := (show ObjOk X.prog X.w H s.heap a (.lst xs) from I.hok a _ ea)
    exact PySem.W.kia_one PySem.W.kitx_list I.kIn ⟨_, h1, rfl⟩ e (fun z => nomatch z) h
  | @frz a ob xs ea =>
    cases (show u = Value.ref a from rx)
    obtain ⟨_, _, _, n, _, h1⟩ := (show ObjOk X.prog X.w H s.heap a (.frz ob (.lst xs)) from I.hok a _ ea)
    exact PySem.W.kia_one PySem.W.kitx_list I.kIn ⟨_, h1, rfl⟩ e (fun z => nomatch z) h
  | @tup a xs ea =>
    cases (show u = Value.ref a from rx)
    obtain ⟨_, _, _, p⟩ := (show ObjOk X.prog X.w H s.heap a (.tup xs) from I.hok a _ ea)
    obtain ⟨o, h1, h2, _⟩ := p
    exact PySem.W.kia_one PySem.W.kitx_tuple I.kIn ⟨o, h1, h2⟩ e (fun z => nomatch z) h
  | @dK a kvs ea =>
    cases (show u = Value.ref a from rx)
    obtain ⟨_, _, vs, _, p⟩ := (show ObjOk X.prog X.w H s.heap a (.dK kvs) from I.hok a _ ea)
    obtain ⟨o, es, ep, h1, h2, _⟩ := p
    exact PySem.W.kia_one PySem.W.kitx_dict I.kIn ⟨o, h1, h2.1⟩ e (fun z => nomatch z) h
  | @dT a kvs ea =>
    cases (show u = Value.ref a from rx)
    obtain ⟨_, _, xs, _, o, es, ep, h1, h2, _⟩ := (show ObjOk X.prog X.w H s.heap a (.dT kvs) from I.hok a _ ea)
    exact PySem.W.kia_one PySem.W.kitx_dict I.kIn ⟨o, h1, h2.1⟩ e (fun z => nomatch z) h
  | @ins a C dx fs ea cl ha hn htk hm =>
    cases (show u = Value.ref a from rx)
    obtain ⟨mA, O, _⟩ := ins_get I.hok ea
    obtain ⟨od, J, _⟩ := O.look
    exact PySem.W.kia_one (PySem.W.kitx_own (cl.get _) cl.hd ha hn htk hm) I.kIn J e (fun z => nomatch z) h
end
end L2

namespace L2
open PySem PySem.Spec PyProof.Rows

/-! ### room -/
structure Room (k : Nat) (A : Around) : Prop where
  hd : A.handled = none
  dp : A.depth + 3 * k + 5 < recursionLimit
  un : A.units + 16 * k + 200 < cLine
  gd : A.guards = some []
theorem Room.mono {j k : Nat} {A : Around} (r : Room k A) (h : j ≤ k) : Room j A := ⟨r.hd, by have := r.dp; omega, by have := r.un; omega, r.gd⟩
theorem Room.deeper {k : Nat} {A : Around} (r : Room (k + 1) A) (env : Env) : Room k (A.deeper env) :=
  ⟨r.hd, by have := r.dp; show A.depth + 1 + 3 * k + 5 < _; omega, by have := r.un; show A.units + 3 + 16 * k + 200 < _; omega, r.gd⟩
theorem Room.depth {k : Nat} {A : Around} (r : Room k A) : A.depth < recursionLimit := by have := r.dp; omega
theorem Room.units {k : Nat} {A : Around} (r : Room k A) : A.units + 64 < cLine := by have := r.un; omega

/-! ### argument lists and displays -/
def tNil : TA := fun _ H Q => Q [] H
def tCons (ta : TE) (tr : TA) : TA := fun σ H Q => ta σ H fun x H1 => tr σ H1 fun xs H2 => Q (x :: xs) H2
section
variable {X : Cx} {e : Expr} {es : List Expr} {te : TE} {t : TA} {pos : Pos}
theorem pa_nil : PA X [] tNil := fun _ _ _ _ H Q I h => Calls.spliced_nil ⟨[], H, I, .nil, h⟩
theorem pa_cons (ha : PE X e te) (hr : PA X es t) (hs : starEach (e :: es) X.env = (false, eval e X.env) :: starEach es X.env := by rfl) : PA X (e :: es) (tCons te t) := by
  intro pos pins s σ H Q I h
  rw [hs]
  show wpAny _ _ (spliced ((false, eval e X.env) :: backTo pos (starEach es X.env))) _ _ s
  refine Calls.spliced_cons (thn (ha pins s σ H _ I h) fun u s1 ⟨x, H1, I1, r1, q1⟩ => ?_)
  exact thn (hr pos pins s1 σ H1 _ I1 q1) fun us s2 ⟨xs, H2, I2, r2, q2⟩ => ⟨x :: xs, H2, I2, .cons r1 r2, q2⟩

/-- a tuple, a list of written items -/
def tTup (t : TA) : TE := fun σ H Q => t σ H fun xs H1 => xs.length ≤ sizeLine ∧ ∀ p, H1 p = none → Q (.ref p) (upd H1 p (.tup xs))
def tLst (t : TA) : TE := fun σ H Q => t σ H fun xs H1 => xs.length ≤ sizeLine ∧ ∀ p, H1 p = none → Q (.ref p) (upd H1 p (.lst xs))
theorem pe_tup {x1} (h : PA X es t) : PE X (.Tuple es x1 pos) (tTup t) := by
  intro pins s σ H Q I hq
  refine wpAny_Tuple_spliced (thn (h pos pins s σ H _ I hq) fun us s1 ⟨xs, H1, I1, r, z, q⟩ => ⟨by rw [← r.length]; exact z, ?_⟩)
  have hf : H1 s1.heap.objs.size = none := I1.hok.fresh (Nat.le_refl _)
  refine ⟨.ref s1.heap.objs.size, upd H1 s1.heap.objs.size (.tup xs), I1.laid (t' := s1.toks) (fun b u e => Heap.get?_push_of_some _ e) (Nat.le_refl _) ?_, rfl, q _ hf⟩
  exact ⟨z, us, r, ⟨_, Heap.get?_push_size _ rfl, rfl, _, rfl⟩⟩
theorem pe_lst (h : PA X es t) : PE X (.List es pos) (tLst t) := by
  intro pins s σ H Q I hq
  refine wpAny_List_spliced (thn (h pos pins s σ H _ I hq) fun us s1 ⟨xs, H1, I1, r, z, q⟩ => ⟨by rw [← r.length]; exact z, ?_⟩)
  have hf : H1 s1.heap.objs.size = none := I1.hok.fresh (Nat.le_refl _)
  refine ⟨.ref s1.heap.objs.size, upd H1 s1.heap.objs.size (.lst xs), I1.laid (t' := s1.toks) (fun b u e => Heap.get?_push_of_some _ e) (Nat.le_refl _) ?_, rfl, q _ hf⟩
  exact ⟨z, us, 0, r, Heap.get?_push_size _ rfl⟩
end

/-! ### what a def promises -/
/-- a def's promise: the bound arguments in the parameters' order, the heap, the wanted end, the wanted exception -/
abbrev Sp := List V → Hp → VK → XK → Prop
/-- how an exception lies behind a call (file 08 gives it): the callers' frames, abstract heap and state ahead of the call, the wish, the exception, the state -/
abbrev CXT := List Env → Hp → Shared → XK → Value → Shared → Prop

/-- the state at a call -/
structure Env0 (P : Program) (w : World) (K : PySem.W.Frag) (mg : Str → Option Value) (base : Heap) (A : Around) (outer : List Env) (s : Shared) (H : Hp) : Prop where
  frames : A.frames = some outer
  mod : Mod K mg base
  bs : ∀ b o, base.get? b = some o → s.heap.get? b = some o ∧ H b = none
  bsz : base.objs.size ≤ s.heap.objs.size
  funs : s.heap.FunFrames base outer
  frf : ∀ b ∈ frs outer, H b = none
  hok : HOk P w H s.heap
  bare : AllBare s.gens
/-- a call's end -/
def CE (outer : List Env) (P : Program) (w : World) (H : Hp) (s : Shared) (Q : VK) (u : Value) (s' : Shared) : Prop :=
  ∃ v H', s'.os = s.os ∧ AllBare s'.gens ∧ Un (frs outer) [] H H' s.heap s'.heap ∧ HOk P w H' s'.heap ∧ RelV v u ∧ Q v H'
def CR (CX : CXT) (outer : List Env) (P : Program) (w : World) (H : Hp) (s : Shared) (Q : VK) (E : XK) (r : Result) (s' : Shared) : Prop :=
  match r with
  | .ok (.ret u) => CE outer P w H s Q u s'
  | .ok _ => False
  | .error e => CX outer H s E e s'
structure FnOk (P : Program) (w : World) (K : PySem.W.Frag) (mg : Str → Option Value) (base : Heap) (CX : CXT) (k : Nat) (f : Addr) (fd : FuncData) (ps : List Str) (sp : Sp) : Prop where
  len : ∀ vs H Q E, sp vs H Q E → vs.length = ps.length
  run : ∀ (A : Around) (outer : List Env) (s : Shared) (H : Hp) (args : Args) (us : List Value) (vs : List V) (Q : VK) (E : XK), Room k A → Env0 P w K mg base A outer s H → BindsTo s fd args (ps.zip us) → Vals vs us → sp vs H Q E →
    codeAny (model P w) A (.call (.ref f) args) (CR CX outer P w H s Q E) s
/-- a weaker promise -/
theorem FnOk.imp {P : Program} {w : World} {K : PySem.W.Frag} {mg : Str → Option Value} {base : Heap} {CX : CXT} {k : Nat} {f : Addr} {fd : FuncData} {ps : List Str} {sp sp' : Sp} (F : FnOk P w K mg base CX k f fd ps sp)
    (h : ∀ vs H Q E, sp' vs H Q E → sp vs H Q E) : FnOk P w K mg base CX k f fd ps sp' :=
  ⟨fun vs H Q E q => F.len vs H Q E (h _ _ _ _ q), fun A outer s H args us vs Q E hr he hb hv hs => F.run A outer s H args us vs Q E hr he hb hv (h _ _ _ _ hs)⟩


section
variable {X : Cx} {pins : List (Addr × Obj)} {σ : St} {H : Hp} {s s' : Shared}
/-- from a body: what a callee wants -/
theorem Inv.env0 (I : Inv X pins σ H s) : Env0 X.prog X.w X.K X.mg X.base X.A X.stack s H :=
  ⟨I.ok.frames, I.ok.mod, I.bs, Nat.le_trans I.ok.bsz I.sz, I.stack, I.stkFree, I.hok, I.bare⟩
/-- behind a call -/
theorem Inv.after {Q : VK} {u : Value} (I : Inv X pins σ H s) (h : CE X.stack X.prog X.w H s Q u s') : EP X pins σ Q u s' := by
  obtain ⟨v, H', os, bare, un, hok, r, q⟩ := h
  obtain ⟨hh, g, d, t, os'⟩ := s'
  obtain rfl : os' = s.os := os
  exact ⟨v, H', I.call (h' := hh) (g' := g) (d' := d) (t' := t) (ch := []) un hok bare (fun b z => absurd z (by simp)), r, q⟩
end

/-! ### calls -/
/-- f(..): the written arguments, then the defaults dvs; E: what is wanted of an exception -/
def tCall (sp : Sp) (dvs : List V) (E : XK) (t : TA) : TE := fun σ H Q => t σ H fun vs H1 => sp (vs ++ dvs) H1 Q E

/-- how the parameters are bound: us the positional arguments, kw the keywords' values by name, ds the defaults that fill up -/
def Binds (K : PySem.W.Frag) (fd : FuncData) (ps : List Str) (ds : List Value) : Prop :=
  ∀ (s : Shared) (us : List Value), K.In s.heap → (us ++ ds).length = ps.length → BindsTo s fd ⟨us, []⟩ (ps.zip (us ++ ds))
/-- every parameter is given -/
theorem Binds.all {K : PySem.W.Frag} {fd : FuncData} {ps : List Str} (h : ∀ us : List Value, us.length = ps.length → bindArgs fd ⟨us, []⟩ = pure (ps.zip us)) : Binds K fd ps [] := fun s us _ hl => by
  rw [List.append_nil] at hl ⊢
  exact .of_eq (h us hl)

/-- an exception of a callee reaches what this body wants of exceptions -/
def Passes (CX : CXT) (X : Cx) (E : XK) : Prop := ∀ (pins : List (Addr × Obj)) (σ : St) (H : Hp) (s : Shared) (e : Value) (s' : Shared), Inv X pins σ H s → CX X.stack H s E e s' → X.xe e s'

section
variable {X : Cx} {CX : CXT} {k : Nat} {f C : Addr} {fd : FuncData} {ps : List Str} {sp : Sp} {dvs : List V} {ds : List Value} {E : XK} {x m : Str} {p pos apos : Pos} {e o : Expr} {es : List Expr} {ta : TE} {t : TA}

/-- the callee runs -/
theorem run_fn {pins : List (Addr × Obj)} {σ : St} {H : Hp} {s : Shared} {Q : VK} {us : List Value} {vs : List V} (F : FnOk X.prog X.w X.K X.mg X.base CX k f fd ps sp) (hr : Room k X.A) (hb : Binds X.K fd ps ds) (hd : Vals dvs ds) (hx : Passes CX X E)
    (I : Inv X pins σ H s) (r : Vals vs us) (h : sp (vs ++ dvs) H Q E) : wpAny (model X.prog X.w) X.A (call (.ref f) us) (EP X pins σ Q) X.xe s := by
  have r2 : Vals (vs ++ dvs) (us ++ ds) := r.append hd
  have hl : (us ++ ds).length = ps.length := by rw [← r2.length]; exact F.len _ _ _ _ h
  refine wpAny_call (codeAny_mono (F.run X.A X.stack s H ⟨us, []⟩ (us ++ ds) (vs ++ dvs) Q E hr I.env0 (hb s us I.kIn hl) r2 h) fun r s' hq => ?_)
  cases r with
  | error e => exact hx pins σ H s e s' I hq
  | ok fl =>
    cases fl with
    | ret u => exact I.after hq
    | next => exact False.elim hq
    | brk => exact False.elim hq
    | cont => exact False.elim hq

theorem pe_call (F : FnOk X.prog X.w X.K X.mg X.base CX k f fd ps sp) (hr : Room k X.A) (hg : Gl X x) (hm : X.mg x = some (.ref f)) (hk : PySem.W.keepIn X.K (.ref f) = true) (hb : Binds X.K fd ps ds) (hd : Vals dvs ds) (hx : Passes CX X E)
    (ha : PA X (e :: es) t) (hdb : (x == ("__debug__" : Str)) = false := by decide) (he : starEach (e :: es) X.env = (false, eval e X.env) :: starEach es X.env := by rfl) (hpl : (backTo pos (starEach es X.env)).any (·.1) = false := by rfl) :
    PE X (.Call (.Name x p) (e :: es) [] pos) (tCall sp dvs E t) := by
  intro pins s σ H Q I h
  refine wpAny_Call_Name_kw (ld_glob I hg hm ?_ hdb)
  refine PySem.W.callWith_K (h₀ := X.base) I.ok.mod.kin hk (thn (ha pos pins s σ H _ I h) fun us s1 ⟨vs, H1, I1, r, q⟩ => ⟨I1.kIn, ?_⟩) he hpl
  exact run_fn F hr hb hd hx I1 r q



end

/-! ### keywords -/
section
variable {X : Cx} {CX : CXT} {k : Nat} {f C : Addr} {fd : FuncData} {ps ks : List Str} {sp : Sp} {E : XK} {x m : Str} {p pos apos kpos : Pos} {e o : Expr} {es : List Expr} {kws : List Keyword} {te ta : TE} {t tk : TA} {nm : Option Str}

variable {g : List Value → List Value → List Value} {gV : List V → List V → List V}
end

/-! ### a def's body keeps its promise -/
/-- names: the parameters first -/
structure FnScope (N P : List Str) (sc : Scope) : Prop where
  kind : sc.kind = .function
  co : sc.isCoroutine = false
  gen : sc.isGenerator = false
  nd : N.Nodup
  pre : N.take P.length = P
  par : ∀ x ∈ P, sc.names.lookup x = some .local ∨ sc.names.lookup x = some .cell
  nofree : ∀ y ∈ sc.names, y.2 ≠ .free

theorem bindL_out {kindOf : Str → Option NameKind} {x : Str} : ∀ {binds : List (Str × Value)} {m : Str → Option Value}, (∀ v, (x, v) ∉ binds) → bindL kindOf binds m x = m x
  | [], _, _ => rfl
  | (n, v) :: r, m, h => by
    unfold bindL
    rw [bindL_out fun w hw => h w (List.mem_cons_of_mem _ hw)]
    split
    · have : x ≠ n := by rintro rfl; exact h v List.mem_cons_self
      simp [this]
    · rfl
theorem bindC_out {kindOf : Str → Option NameKind} {x : Str} : ∀ {binds : List (Str × Value)} {m : Str → Option Value}, (∀ v, (x, v) ∉ binds) → bindC kindOf binds m x = m x
  | [], _, _ => rfl
  | (n, v) :: r, m, h => by
    unfold bindC
    rw [bindC_out fun w hw => h w (List.mem_cons_of_mem _ hw)]
    split
    · rfl
    · have : x ≠ n := by rintro rfl; exact h v List.mem_cons_self
      simp [this]
theorem bindL_get {kindOf : Str → Option NameKind} {x : Str} {v : Value} : ∀ {P : List Str} {vs : List Value} {i : Nat} {m : Str → Option Value}, P.Nodup → P[i]? = some x → vs[i]? = some v → kindOf x = some .local →
    bindL kindOf (P.zip vs) m x = some v
  | [], _, _, _, _, h, _, _ => by simp at h
  | _ :: _, [], _, _, _, _, h, _ => by simp at h
  | p :: P, w :: vs, 0, m, nd, h1, h2, hk => by
    simp at h1 h2; subst h1; subst h2
    show bindL kindOf ((p, w) :: P.zip vs) m p = _
    unfold bindL
    rw [bindL_out fun v hv => (List.nodup_cons.mp nd).1 (List.of_mem_zip hv).1, if_pos hk]
    simp
  | p :: P, w :: vs, i + 1, m, nd, h1, h2, hk => by
    show bindL kindOf ((p, w) :: P.zip vs) m x = _
    unfold bindL
    exact bindL_get (i := i) (List.nodup_cons.mp nd).2 (by simpa using h1) (by simpa using h2) hk
theorem bindC_get {kindOf : Str → Option NameKind} {x : Str} {v : Value} : ∀ {P : List Str} {vs : List Value} {i : Nat} {m : Str → Option Value}, P.Nodup → P[i]? = some x → vs[i]? = some v → kindOf x ≠ some .local →
    bindC kindOf (P.zip vs) m x = some v
  | [], _, _, _, _, h, _, _ => by simp at h
  | _ :: _, [], _, _, _, _, h, _ => by simp at h
  | p :: P, w :: vs, 0, m, nd, h1, h2, hk => by
    simp at h1 h2; subst h1; subst h2
    show bindC kindOf ((p, w) :: P.zip vs) m p = _
    unfold bindC
    rw [bindC_out fun v hv => (List.nodup_cons.mp nd).1 (List.of_mem_zip hv).1, if_neg hk]
    simp
  | p :: P, w :: vs, i + 1, m, nd, h1, h2, hk => by
    show bindC kindOf ((p, w) :: P.zip vs) m x = _
    unfold bindC
    exact bindC_get (i := i) (List.nodup_cons.mp nd).2 (by simpa using h1) (by simpa using h2) hk

/-- the names' values at the entry -/
def start (N : List Str) (vs : List V) : St := vs.map some ++ List.replicate (N.length - vs.length) none

/-- the context of a def's body, at its entry; an exception leaves the frame, then lies as CX says -/
def cxOf (CX : CXT) (P : Program) (w : World) (K : PySem.W.Frag) (mg : Str → Option Value) (base : Heap) (N : List Str) (qual : Str) (scope : Scope) (f : Addr) (cd : Value) (A : Around) (outer : List Env) (s : Shared) (H : Hp) (E : XK) : Cx where
  prog := P
  w := w
  K := K
  mg := mg
  base := base
  A := A.deeper (envOfC qual scope s.heap.objs.size f cd)
  N := N
  s₀ := s
  H₀ := H
  env := envOfC qual scope s.heap.objs.size f cd
  outer := outer
  stack := envOfC qual scope s.heap.objs.size f cd :: outer
  ex := []
  calm := true
  fn := fun _ => true
  pn := []
  xe := fun e s' => wpAny (model P w) (A.deeper (envOfC qual scope s.heap.objs.size f cd)) (leaving (envOfC qual scope s.heap.objs.size f cd) e) (fun _ s'' => CX outer H s E e s'') (fun e' s'' => CX outer H s E e' s'') s'

theorem cell_has {sc : Scope} {n : Nat} {x : Str} (h : sc.names.lookup x = some .cell) : ∃ c, (cellsFrom n sc.names []).lookup x = some c := by
  have q := PySem.W.cellsFrom_some sc.names n [] (.inl h)
  exact Option.isSome_iff_exists.mp q

theorem inv_start {CX : CXT} {P : Program} {w : World} {K : PySem.W.Frag} {mg : Str → Option Value} {base : Heap} {N ps : List Str} {qual : Str} {scope : Scope} {f : Addr} {cd : Value} {A : Around} {outer : List Env} {s s1 : Shared} {H : Hp} {E : XK} {us : List Value} {vs : List V}
    (S : FnScope N ps scope) (hd : A.handled = none) (e0 : Env0 P w K mg base A outer s H) (hl : vs.length = ps.length) (r : Vals vs us)
    (x : InCallC s s.heap.objs.size (bindL (envOfC qual scope s.heap.objs.size f cd).kindOf (ps.zip us) fun _ => none) (cellsFrom (s.heap.objs.size + 1) scope.names []) (bindC (envOfC qual scope s.heap.objs.size f cd).kindOf (ps.zip us) fun _ => none) s1) :
    Inv (cxOf CX P w K mg base N qual scope f cd A outer s H E) [] (start N vs) H s1 := by
  have hpl : ps.length ≤ N.length := by have := congrArg List.length S.pre; rw [List.length_take] at this; omega
  obtain ⟨h1, tk, rfl, hk⟩ := x.done
  have noA : ∀ b : Addr, b ∉ (cxOf CX P w K mg base N qual scope f cd A outer s H E).ex := fun b z => absurd (show b ∈ ([] : List Addr) from z) (by simp)
  refine ⟨⟨e0.mod, S.kind, rfl, rfl, Nat.le_refl _, fun y z c h1 h2 => ?_, fun y hy => ?_, fun y c _ h => ?_, fun _ => hd, Around.frames_deeper e0.frames, .inr ⟨rfl, rfl⟩, fun b z => absurd z (noA b), e0.bs, e0.bsz, fun b _ _ => noA b, fun b z => absurd z (noA b), e0.funs, e0.frf⟩,
    rfl, e0.bare, Un.kept hk, ⟨_, x.toInCall.ns, fun i y v h1 h2 h3 => ?_⟩, fun y c h => ⟨_, x.cell y c h⟩, e0.hok.fresh (Nat.le_refl _), fun y c h => ?_, fun p hp => absurd (show p ∈ ([] : List (Addr × Obj)) from hp) (by simp), e0.hok.kept hk, ?_⟩
  · exact name_of_addr x.apart (PySem.mem_of_lookup h1) (PySem.mem_of_lookup h2)
  · have hy : scope.names.lookup y = some .cell ∨ scope.names.lookup y = some .free := hy
    rcases hy with hy | hy
    · exact cell_has hy
    · exact absurd rfl (S.nofree _ (PySem.mem_of_lookup hy))
  · exact Nat.le_of_lt (x.above y c (PySem.mem_of_lookup h))
  · have hi : i < vs.length := by
      unfold start at h2
      by_cases hi : i < vs.length
      · exact hi
      · rw [List.getElem?_append_right (by simpa using hi)] at h2
        rw [List.getElem?_replicate] at h2
        split at h2 <;> cases h2
    have ha : vs[i]? = some v := by
      unfold start at h2
      rw [List.getElem?_append_left (by simpa using hi), List.getElem?_map] at h2
      cases e : vs[i]? with
      | none => rw [e] at h2; cases h2
      | some a => rw [e] at h2; cases h2; rfl
    obtain ⟨u, hu, rv⟩ := r.get ha
    have hp : ps[i]? = some y := by
      rw [← S.pre, List.getElem?_take_of_lt (by omega)]; exact h1
    have ndP : ps.Nodup := by rw [← S.pre]; exact S.nd.sublist (List.take_sublist _ _)
    refine ⟨u, rv, ?_⟩
    rcases S.par y (List.mem_of_getElem? hp) with k | k
    · exact .inl ⟨k, bindL_get ndP hp hu k⟩
    · obtain ⟨c, e⟩ := cell_has (n := s.heap.objs.size + 1) k
      refine .inr ⟨.inl k, c, e, ?_⟩
      have q := x.cell y c e
      rw [bindC_get ndP hp hu (by show scope.names.lookup y ≠ _; rw [k]; decide)] at q
      exact q
  · exact e0.hok.fresh (Nat.le_of_lt (x.above y c (PySem.mem_of_lookup h)))
  · unfold start
    show _ = N.length
    rw [List.length_append, List.length_map, List.length_replicate]
    omega

/-- THE RULE: a def (or a method) of the text, by its body. The body's reading t is chosen for each entry; it is run at the parameters' values -/
theorem fn_of {CX : CXT} {P : Program} {w : World} {K : PySem.W.Frag} {mg : Str → Option Value} {base : Heap} {k : Nat} {f : Addr} {name qual : Str} {params : Arguments} {body : List Stmt} {scope : Scope} {dV kV doc pm cdv ct oc : Value} {an od : Option Addr}
    {osl : Array (Option Value)} {N ps : List Str} {sp : Sp} (lk : K.lookup f = some ⟨oc, od, .func (PySem.W.fnOf name qual params body scope dV kV doc pm an cdv ct), osl⟩) (hcd : PySem.W.codeIn K cdv qual = true) (S : FnScope N ps scope)
    (len : ∀ vs H Q E, sp vs H Q E → vs.length = ps.length)
    (hbody : ∀ (A : Around) (outer : List Env) (s : Shared) (H : Hp) (vs : List V) (Q : VK) (E : XK), Room k (A.deeper (envOfC qual scope s.heap.objs.size f cdv)) → sp vs H Q E →
      ∃ t, PSs (cxOf CX P w K mg base N qual scope f cdv A outer s H E) body t ∧ t { nx := fun _ H' => Q .non H', rt := Q } (start N vs) H) :
    FnOk P w K mg base CX (k + 1) f (PySem.W.fnOf name qual params body scope dV kV doc pm an cdv ct) ps sp := by
  refine ⟨len, fun A outer s H args us vs Q E hr e0 hb r hsp => ?_⟩
  have hl := len _ _ _ _ hsp
  have KX : K.In s.heap := e0.mod.kin.keeps fun b o e => (e0.bs b o e).1
  have lim : s.heap.NoLimit := e0.mod.nolimit.keeps fun b o e => (e0.bs b o e).1
  have hkind : ∀ y ∈ ps.zip us, scope.names.lookup y.1 = some .local ∨ (scope.names.lookup y.1 = some .cell ∧ ((cellsFrom (s.heap.objs.size + 1) scope.names []).lookup y.1).isSome = true) := fun ⟨n, v⟩ hy => by
    rcases S.par n (List.of_mem_zip hy).1 with q | q
    · exact .inl q
    · exact .inr ⟨q, PySem.W.cellsFrom_some _ _ _ (.inl q)⟩
  refine codeAny_call_function hr.depth (KX _ _ lk) rfl S.co S.gen rfl (PySem.W.codeRec_of KX hcd) (hb _ _ _ _ ?_)
  refine wpAny_newFunctionEnv_cells S.kind hkind fun env he s1 x => ?_
  subst he
  refine ⟨lim.keeps x.toInCall.keep, codeAny_func ?_⟩
  obtain ⟨t, ht, hq⟩ := hbody A outer s H vs Q E (hr.deeper _) hsp
  have I : Inv (cxOf CX P w K mg base N qual scope f cdv A outer s H E) [] (start N vs) H s1 := inv_start S hr.hd e0 hl r x
  refine wpAny_mono (ht [] s1 (start N vs) H _ I hq) (fun fl s' hs => ?_) fun e s' hs => hs
  have fin : ∀ {σ' : St} {H' : Hp} {v : V} {u : Value}, Inv (cxOf CX P w K mg base N qual scope f cdv A outer s H E) [] σ' H' s' → RelV v u → Q v H' → CE outer P w H s Q u s' :=
    fun {σ' H' v u} J rv q => ⟨v, H', J.os, J.bare, J.base, J.hok, rv, q⟩
  cases fl with
  | ret u =>
    obtain ⟨v, σ', H', J, rv, q⟩ := hs
    exact fin J rv q
  | next =>
    obtain ⟨σ', H', J, q⟩ := hs
    exact fin (v := V.non) (u := Value.none) J rfl q
  | brk =>
    obtain ⟨_, _, _, q⟩ := hs
    exact False.elim q
  | cont =>
    obtain ⟨_, _, _, q⟩ := hs
    exact False.elim q
end L2

namespace L2
open PySem PySem.Spec PyProof.Rows
section
variable {X : Cx} {x : Str} {p pos : Pos} {e : Expr} {es : List Expr} {t : TA} {id T : String} {r : List V → Hp → VK → Prop}

def tCB (r : List V → Hp → VK → Prop) (t : TA) : TE := fun σ H Q => t σ H fun vs H1 => r vs H1 Q
/-- f(e, ..), f a built-in function -/
theorem pe_callB (hc : CallR X (.builtin id) r) (hg : Gl X x) (hm : X.mg x = none) (hv : bootBuiltins x = some (.builtin id)) (ha : PA X (e :: es) t) (hn : x ≠ "__name__" := by decide) (hdb : (x == ("__debug__" : Str)) = false := by decide)
    (he : starEach (e :: es) X.env = (false, eval e X.env) :: starEach es X.env := by rfl) (hpl : (backTo pos (starEach es X.env)).any (·.1) = false := by rfl) : PE X (.Call (.Name x p) (e :: es) [] pos) (tCB r t) := by
  intro pins s σ H Q I h
  refine wpAny_Call_Name_kw (ld_blt I hg hm hv ?_ hn hdb)
  exact PyProof.Rows.callWith_builtin1 (thn (ha pos pins s σ H _ I h) fun us s1 ⟨vs, H1, I1, r1, q1⟩ => hc pins s1 σ H1 vs us Q I1 r1 q1) he hpl
/-- T(e, ..), T a built-in type -/
theorem pe_callTy (hc : CallR X (.type T) r) (hg : Gl X x) (hm : X.mg x = none) (hv : bootBuiltins x = some (.type T)) (ha : PA X (e :: es) t) (hn : x ≠ "__name__" := by decide) (hdb : (x == ("__debug__" : Str)) = false := by decide)
    (he : starEach (e :: es) X.env = (false, eval e X.env) :: starEach es X.env := by rfl) (hpl : (backTo pos (starEach es X.env)).any (·.1) = false := by rfl) : PE X (.Call (.Name x p) (e :: es) [] pos) (tCB r t) := by
  intro pins s σ H Q I h
  refine wpAny_Call_Name_kw (ld_blt I hg hm hv ?_ hn hdb)
  exact PyProof.Rows.callWith_type1 (thn (ha pos pins s σ H _ I h) fun us s1 ⟨vs, H1, I1, r1, q1⟩ => hc pins s1 σ H1 vs us Q I1 r1 q1) he hpl
end
end L2

namespace HT
open PySem PyProof.Rows



section
open PySem.SeqAt
open PySem.AutoSeq1 (wpAny_loadPart')
open PySem.MeetsSeq PySem.MeetsSeq2 PySem.MeetsSeq3

end

section
variable {prog : Program} {w : World} {A : Around} {E : Value → Shared → Prop} {s : Shared}



/-! ### t[a:b], not the whole -/
/-- a slice's bound as a place among n (d where it is left out) -/
def sIx (n d : Nat) : Option Int → Nat
  | none => d
  | some v => if v < 0 then (v + (n : Int)).toNat else min v.toNat n
theorem sIx_nat (n d k : Nat) : sIx n d (some (k : Int)) = min k n := by
  show (if (k : Int) < 0 then ((k : Int) + (n : Int)).toNat else min (k : Int).toNat n) = min k n
  rw [if_neg (by omega), Int.toNat_natCast]

end
end HT

namespace L2
open PySem PySem.Spec PyProof.Rows

/-! ### the parts of a slice -/
abbrev TO := St → Hp → (Option Int → Hp → Prop) → Prop
/-- a slice's part (left out, or an int) -/
def PO (X : Cx) (e : Option Expr) (t : TO) : Prop :=
  ∀ (pins : List (Addr × Obj)) (s : Shared) (σ : St) (H : Hp) (Q : Option Int → Hp → Prop), Inv X pins σ H s → t σ H Q →
    wpAny (model X.prog X.w) X.A (evalPart e X.env) (fun u s' => ∃ o H', Inv X pins σ H' s' ∧ IsPart u o ∧ Q o H') X.xe s
def tNoPart : TO := fun _ H Q => Q none H
def tPart (t : TE) : TO := fun σ H Q => t σ H fun x H1 => ∃ i, x = .int i ∧ Q (some i) H1

theorem intsAre_of {ns : List Int} : ∀ {us : List Value}, Vals (ns.map V.int) us → IntsAre us ns := by
  induction ns with
  | nil => intro us r; rw [List.map_nil] at r; cases r; exact .nil
  | cons n ns ih =>
    intro us r
    rw [List.map_cons] at r
    cases r with
    | cons r1 r2 =>
      obtain ⟨t, e⟩ := r1
      subst e
      exact .cons n t (ih r2)

section
variable {X : Cx} {e : Expr} {te : TE} {lo hi : Option Expr} {tl th : TO} {pos p2 : Pos}

theorem po_none : PO X none tNoPart := by
  intro pins s σ H Q I h
  rw [evalPart_none]
  exact wpAny_pure ⟨none, H, I, .none, h⟩
theorem po_some (h : PE X e te) : PO X (some e) (tPart te) := by
  intro pins s σ H Q I hw
  rw [evalPart_some]
  refine thn (h pins s σ H _ I hw) fun u s1 ⟨x, H1, I1, r1, q1⟩ => ?_
  obtain ⟨i, rfl, q⟩ := q1
  obtain ⟨t, rfl⟩ := r1
  exact ⟨some i, H1, I1, .int i t, q⟩

/-- what a slice of a value is, by values: the slice object stands at sl -/
def SlR (X : Cx) (r : V → Option Int → Option Int → Hp → VK → Prop) : Prop :=
  ∀ (pins : List (Addr × Obj)) (s : Shared) (σ : St) (H : Hp) (x : V) (v vl vu : Value) (lo hi : Option Int) (sl : Addr) (Q : VK), Inv X pins σ H s → RelV x v → s.heap.IsSliceOf sl vl vu .none → IsPart vl lo → IsPart vu hi → r x lo hi H Q →
    ∃ T id, typeLookup (.type T) "__getitem__" = pure (some (.builtin id)) ∧ s.TypeIs v T ∧ wpAny (model X.prog X.w) X.A (getItem v (.ref sl)) (EP X pins σ Q) X.xe s
def tSl (r : V → Option Int → Option Int → Hp → VK → Prop) (te : TE) (tl th : TO) : TE := fun σ H Q => te σ H fun x H1 => tl σ H1 fun l H2 => th σ H2 fun u H3 => r x l u H3 Q
/-- a[lo:hi], any a -/
theorem pe_slice {r : V → Option Int → Option Int → Hp → VK → Prop} (hr : SlR X r) (he : PE X e te) (hl : PO X lo tl) (hu : PO X hi th) : PE X (.Subscript e (.Slice lo hi none p2) pos) (tSl r te tl th) := by
  intro pins s σ H Q I h
  refine Subscript_ (thn (he pins s σ H _ I h) fun v s1 ⟨x, H1, I1, r1, q1⟩ => ?_)
  refine wpAny_Slice (thn (hl pins s1 σ H1 _ I1 q1) fun vl s2 ⟨l, H2, I2, pl, q2⟩ => thn (hu pins s2 σ H2 _ I2 q2) fun vu s3 ⟨u, H3, I3, pu, q3⟩ => ?_)
  rw [evalPart_none]
  refine wpAny_pure ?_
  have I4 : Inv X pins σ H3 { s3 with heap := s3.heap.push { cls := .type "slice", data := .fields #[vl, vu, .none] } } := I3.kept (t' := s3.toks) fun b ob q => Heap.get?_push_of_some _ q
  obtain ⟨T, id, hT, ht, hg⟩ := hr pins { s3 with heap := s3.heap.push { cls := .type "slice", data := .fields #[vl, vu, .none] } } σ H3 x v vl vu l u s3.heap.objs.size Q I4 r1 (Heap.IsSliceOf.new ..) pl pu q3
  show wpAny (model X.prog X.w) X.A (subscriptTail e (.Slice lo hi none p2) v (.ref s3.heap.objs.size)) (EP X pins σ Q) X.xe { s3 with heap := s3.heap.push { cls := .type "slice", data := .fields #[vl, vu, .none] } }
  exact tail_any (ops := [.ref s3.heap.objs.size, v]) ht hT hg (by with_unfolding_all rfl)

/-- the items of xs[lo:hi] -/
def cutV (xs : List V) (lo hi : Option Int) : List V := (xs.drop (HT.sIx xs.length 0 lo)).take (HT.sIx xs.length xs.length hi - HT.sIx xs.length 0 lo)
theorem cutV_length (xs : List V) (lo hi : Option Int) : (cutV xs lo hi).length ≤ xs.length := by
  unfold cutV
  rw [List.length_take, List.length_drop]
  omega

/-! ### t < u, t + u -/
end
end L2

namespace L2
open PySem PySem.Spec PyProof.Rows

/-! ### places -/
/-- the place that an index of any sign means -/
def ixN (n : Nat) (i : Int) : Option Nat := if 0 ≤ i then (if i < n then some i.toNat else none) else if -(n : Int) ≤ i then some (i + n).toNat else none
def atI {α : Type} (xs : List α) (i : Int) : Option α := (ixN xs.length i).bind fun j => xs[j]?
theorem ixN_seq {n : Nat} {i : Int} {j : Nat} (h : ixN n i = some j) : seqIndex? i n = some j ∧ j < n ∧ -(n : Int) ≤ i ∧ i < n := by
  unfold ixN at h
  by_cases h0 : 0 ≤ i
  · rw [if_pos h0] at h
    by_cases h1 : i < n
    · rw [if_pos h1] at h
      have e : i.toNat = j := Option.some.inj h
      exact ⟨by rw [seqIndex_of h0 h1, e], by omega, by omega, h1⟩
    · rw [if_neg h1] at h; cases h
  · rw [if_neg h0] at h
    by_cases h1 : -(n : Int) ≤ i
    · rw [if_pos h1] at h
      have e : (i + n).toNat = j := Option.some.inj h
      exact ⟨by rw [seqIndex_neg (by omega) h1, e], by omega, h1, by omega⟩
    · rw [if_neg h1] at h; cases h
theorem atI_get {α : Type} {xs : List α} {i : Int} {v : α} (h : atI xs i = some v) : ∃ j, seqIndex? i xs.length = some j ∧ xs[j]? = some v ∧ j < xs.length ∧ -(xs.length : Int) ≤ i ∧ i < xs.length := by
  unfold atI at h
  cases e : ixN xs.length i with
  | none => rw [e] at h; cases h
  | some j =>
    rw [e] at h
    obtain ⟨h1, h2, h3, h4⟩ := ixN_seq e
    exact ⟨j, h1, h, h2, h3, h4⟩
theorem atI_nat {α : Type} {xs : List α} {j : Nat} {v : α} (h : xs[j]? = some v) : atI xs (j : Int) = some v := by
  have hj : j < xs.length := (List.getElem?_eq_some_iff.mp h).1
  have e : ixN xs.length (j : Int) = some j := by
    unfold ixN
    rw [if_pos (by omega), if_pos (by omega)]; simp
  unfold atI; rw [e]; exact h

/-! ### what may be subscripted -/
/-- what stands as an index of a plain subscript -/
def PlainIx (b : Expr) : Prop := ∀ o i, subscripted b false o i = operate [o, i] (getItem o i)
/-- a subscript by values -/
def IxR (X : Cx) (r : R2) : Prop :=
  ∀ (value slice : Expr) (pins : List (Addr × Obj)) (s : Shared) (σ : St) (H : Hp) (x y : V) (v u : Value) (Q : VK), Inv X pins σ H s → RelV x v → RelV y u → r x y H Q →
    subscripted slice false v u = operate [v, u] (getItem v u) → wpAny (model X.prog X.w) X.A (subscriptTail value slice v u) (EP X pins σ Q) X.xe s
/-- a call of a builtin's method by values: the receiver, the arguments -/
def MtR (X : Cx) (id : String) (r : V → List V → Hp → VK → Prop) : Prop :=
  ∀ (pins : List (Addr × Obj)) (s : Shared) (σ : St) (H : Hp) (x : V) (xs : List V) (v : Value) (us : List Value) (Q : VK), Inv X pins σ H s → RelV x v → Vals xs us → r x xs H Q →
    wpAny (model X.prog X.w) X.A (call (.builtin id) (v :: us)) (EP X pins σ Q) X.xe s
section
variable {X : Cx} {a b : Expr} {ta tb : TE} {pos : Pos}
theorem IxR.or {r r' : R2} (h : IxR X r) (h' : IxR X r') : IxR X (fun x y H Q => r x y H Q ∨ r' x y H Q) := by
  intro value slice pins s σ H x y v u Q I rx ry q hs
  rcases q with q | q
  · exact h value slice pins s σ H x y v u Q I rx ry q hs
  · exact h' value slice pins s σ H x y v u Q I rx ry q hs
/-- a[b] -/
theorem pe_ix {r : R2} (hr : IxR X r) (ha : PE X a ta) (hb : PE X b tb) (hs : PlainIx b) : PE X (.Subscript a b pos) (tOp r ta tb) := by
  intro pins s σ H Q I h
  exact Subscript_ (binT ha hb I h fun v u s2 x y H2 I2 rx ry q => hr a b pins s2 σ H2 x y v u Q I2 rx ry q (hs _ _))

def rIxL (K : PySem.W.Frag) : R2 := fun x y H Q => ∃ p xs i v, x = .ref p ∧ y = .int i ∧ SqL K H p xs ∧ atI xs i = some v ∧ Q v H
def rIxT (K : PySem.W.Frag) : R2 := fun x y H Q => ∃ p xs i v, x = .ref p ∧ y = .int i ∧ SqT K H p xs ∧ atI xs i = some v ∧ Q v H
def rIxS : R2 := fun x y H Q => ∃ z i c, x = .str z ∧ y = .int i ∧ z.length ≤ sizeLine ∧ atI z.cps.toList i = some c ∧ Q (.str ⟨#[c]⟩) H
theorem ix_list : IxR X (rIxL X.K) := by
  intro value slice pins s σ H x y v u Q I rx ry h hs
  obtain ⟨p, xs, i, z, rfl, rfl, hq, he, q⟩ := h
  cases rx
  obtain ⟨t, rfl⟩ := ry
  obtain ⟨its, r, pl, hz⟩ := I.list hq
  obtain ⟨j, h1, h2, h3, h4, h5⟩ := atI_get he
  obtain ⟨w, ew, rw'⟩ := r.get h2
  have hl := r.length
  have hn := line63
  have fin : EP X pins σ Q w s := ⟨z, H, I, rw', q⟩
  by_cases h0 : 0 ≤ i
  · have hj : i.toNat = j := by
      rw [seqIndex_of h0 h5] at h1
      exact Option.some.inj h1
    exact item_listR pl.isList h0 (by omega) (by rw [hj]; simpa using ew) fin hs
  · have hj : (i + (its.toArray.size : Int)).toNat = j := by
      rw [seqIndex_neg (by omega) h4] at h1
      rw [List.size_toArray, ← hl]
      exact Option.some.inj h1
    exact subscriptTail_builtinR (x := w) pl.isList.typeIs slot_list_getitem.lookup
      (wpAny_getItem_list_neg (Q := fun r s' => r = w ∧ EP X pins σ Q r s') pl.isList (by omega) (by rw [List.size_toArray] <;> omega) (by omega) (by rw [hj]; simpa using ew) ⟨rfl, fin⟩) hs
theorem ix_tup : IxR X (rIxT X.K) := by
  intro value slice pins s σ H x y v u Q I rx ry h hs
  obtain ⟨p, xs, i, z, rfl, rfl, hq, he, q⟩ := h
  cases rx
  obtain ⟨t, rfl⟩ := ry
  obtain ⟨its, r, pl, hz⟩ := I.tuple hq
  obtain ⟨j, h1, h2, h3, h4, h5⟩ := atI_get he
  obtain ⟨w, ew, rw'⟩ := r.get h2
  have hl := r.length
  have hn := line63
  have fin : EP X pins σ Q w s := ⟨z, H, I, rw', q⟩
  exact subscriptTail_builtinR (x := w) pl.typeIs slot_tuple_getitem.lookup
    (getItem_tuple (j := j) (Q := fun r s' => r = w ∧ EP X pins σ Q r s') pl (by omega) (by omega) (by rw [List.size_toArray, ← hl]; exact h1) (by simpa using ew) ⟨rfl, fin⟩) hs
theorem ix_str : IxR X rIxS := by
  intro value slice pins s σ H x y v u Q I rx ry h hs
  obtain ⟨z, i, c, rfl, rfl, hz, he, q⟩ := h
  obtain ⟨t, rfl⟩ := rx
  obtain ⟨t', rfl⟩ := ry
  obtain ⟨j, h1, h2, h3, h4, h5⟩ := atI_get he
  have hl : z.cps.toList.length = z.length := by simp [Str.length]
  rw [hl] at h1 h4 h5
  have hn := line63
  exact tail_any (typeIs_str s z t) slot_str_getitem.lookup (getItem_str (c := c) (by
    have e1 : decide (i < -(2 ^ 63 : Int)) = false := decide_eq_false (by omega)
    have e2 : decide (i ≥ 2 ^ 63) = false := decide_eq_false (by omega)
    rw [e1, e2, Bool.or_false]) (by rw [h1]; simpa using h2) ⟨.str ⟨#[c]⟩, H, I.tok _, ⟨_, rfl⟩, q⟩) hs
/-- list, tuple or str -/
def rIx (K : PySem.W.Frag) : R2 := fun x y H Q => rIxL K x y H Q ∨ rIxT K x y H Q ∨ rIxS x y H Q
theorem ix_seq : IxR X (rIx X.K) := ix_list.or (ix_tup.or ix_str)

/-! ### xs[i] = v, any sign -/
/-- the list's object behind a store -/
theorem mapSeq_set (its : List Value) (n j : Nat) (u : Value) : Obj.mapSeq (·.setIfInBounds j u) { cls := .type "list", data := .seq its.toArray n } = { cls := .type "list", data := .seq (its.set j u).toArray n } := by
  simp [Obj.mapSeq]
theorem Inv.lst {pins : List (Addr × Obj)} {σ : St} {H : Hp} {s : Shared} {p : Addr} {xs : List V} (I : Inv X pins σ H s) (h : H p = some (.lst xs)) :
    ∃ (its : List Value) (n : Nat), Vals xs its ∧ s.heap.get? p = some { cls := .type "list", data := .seq its.toArray n } ∧ xs.length ≤ sizeLine := by
  obtain ⟨z, its, n, r, e⟩ := I.hok p _ h
  exact ⟨its, n, r, e, z⟩
/-- the list at p is written by an update of its object -/
theorem Inv.lstUpd {pins : List (Addr × Obj)} {σ : St} {H : Hp} {s : Shared} {p : Addr} {xs ys : List V} {its its' : List Value} {n n' : Nat} {f : Obj → Obj} (I : Inv X pins σ H s) (h : H p = some (.lst xs))
    (ho : s.heap.get? p = some { cls := .type "list", data := .seq its.toArray n }) (hf : f { cls := .type "list", data := .seq its.toArray n } = { cls := .type "list", data := .seq its'.toArray n' }) (r : Vals ys its') (hz : ys.length ≤ sizeLine) (t : Nat) :
    Inv X pins σ (upd H p (.lst ys)) { s with heap := s.heap.update p f, toks := t } := by
  have e : (s.heap.update p f).get? p = some { cls := .type "list", data := .seq its'.toArray n' } := by
    rw [Heap.get?_update_self f ho (by rw [hf] <;> rfl), hf]
  refine I.write (x := p) (e := p) (by rw [h]; trivial) (.inl rfl) (fun b u hb q => (Heap.get?_update_other _ _ (Ne.symm hb)).trans q) ⟨_, e⟩ ?_
  exact ⟨hz, its', n', r, e⟩
def rSetL : V → V → V → Hp → (Hp → Prop) → Prop := fun o i v H Q => ∃ p xs k j, o = .ref p ∧ i = .int k ∧ H p = some (.lst xs) ∧ ixN xs.length k = some j ∧ Q (upd H p (.lst (xs.set j v)))
theorem set_list : PSet X rSetL := by
  intro pins s σ H o i v ov iv u Q I ro ri rv h
  obtain ⟨p, xs, k, j, rfl, rfl, hp, hj, q⟩ := h
  cases ro
  obtain ⟨t, rfl⟩ := ri
  obtain ⟨its, n, r, ho, hz⟩ := I.lst hp
  obtain ⟨h1, h2, h3, h4⟩ := ixN_seq hj
  have hl := r.length
  have hn := line63
  have I' : Inv X pins σ (upd H p (.lst (xs.set j v))) { s with heap := s.heap.update p (Obj.mapSeq (·.setIfInBounds j u)) } :=
    I.lstUpd hp ho (mapSeq_set its n j u) (r.set rv j) (by rw [List.length_set]; exact hz) s.toks
  by_cases h0 : 0 ≤ k
  · have hk : k.toNat = j := by
      rw [seqIndex_of h0 h4] at h1
      exact Option.some.inj h1
    exact PySem.W.ki_setAt ho h0 (by omega) (by rw [List.size_toArray, ← hl]; exact h4) (by rw [hk]; exact ⟨_, I', q⟩)
  · have hk : (k + (its.toArray.size : Int)).toNat = j := by
      rw [seqIndex_neg (by omega) h3] at h1
      rw [List.size_toArray, ← hl]
      exact Option.some.inj h1
    exact PySem.W.ki_setBack ho (by omega) (by rw [List.size_toArray, ← hl]; exact h3) (by omega) (by rw [hk]; exact ⟨_, I', q⟩)

/-! ### slices -/
theorem slice_bounds (lo hi : Option Int) (n : Nat) : (sliceBounds lo hi none n).1 = ((HT.sIx n 0 lo : Nat) : Int) ∧ (sliceBounds lo hi none n).2.1 = ((HT.sIx n n hi : Nat) : Int) ∧ (sliceBounds lo hi none n).2.2 = 1 := by
  refine ⟨?_, ?_, rfl⟩
  · cases lo with
    | none => simp [sliceBounds, HT.sIx]
    | some i =>
      simp only [sliceBounds, HT.sIx, Option.getD_none, show (1 : Int) > 0 by decide, if_true]
      by_cases h : i < 0
      · simp only [h, if_true] <;> omega
      · simp only [h, if_false] <;> omega
  · cases hi with
    | none => simp [sliceBounds, HT.sIx]
    | some i =>
      simp only [sliceBounds, HT.sIx, Option.getD_none, show (1 : Int) > 0 by decide, if_true]
      by_cases h : i < 0
      · simp only [h, if_true] <;> omega
      · simp only [h, if_false] <;> omega
theorem slicePick_cut (its : List Value) (lo hi : Option Int) : slicePick its.toArray lo hi none = ((its.drop (HT.sIx its.length 0 lo)).take (HT.sIx its.length its.length hi - HT.sIx its.length 0 lo)).toArray := by
  obtain ⟨h1, h2, h3⟩ := slice_bounds lo hi its.toArray.size
  unfold slicePick
  rw [h1, h2, h3]
  simp only [sliceRange_one, pick_run, List.size_toArray] <;> rfl
/-- xs[lo:hi] of a list: a new list -/
def rSlL (K : PySem.W.Frag) : V → Option Int → Option Int → Hp → VK → Prop := fun x lo hi H Q => ∃ a xs, x = .ref a ∧ SqL K H a xs ∧ ∀ p, H p = none → Q (.ref p) (upd H p (.lst (cutV xs lo hi)))
theorem sl_list : SlR X (rSlL X.K) := by
  intro pins s σ H x v vl vu lo hi sl Q I rx hs pl pu h
  obtain ⟨a, xs, rfl, hx, q⟩ := h
  cases rx
  obtain ⟨its, r, ht, hz⟩ := I.list hx
  have hlen := r.length
  refine ⟨"list", _, slot_list_getitem.lookup, ht.isList.typeIs, ?_⟩
  refine wpAny_getItem_list_slice ht.isList hs pl pu .none (by simp) ?_ (by rw [List.size_toArray] <;> omega)
  rw [slicePick_cut, ← hlen]
  refine ⟨.ref s.heap.objs.size, _, I.laid (t' := s.toks) (o := .lst (cutV xs lo hi)) (fun b ob q => Heap.get?_push_of_some _ q) (Nat.le_refl _) ?_, rfl, q _ (I.hok.fresh (Nat.le_refl _))⟩
  exact ⟨Nat.le_trans (cutV_length xs lo hi) hz, _, 0, (r.drop (HT.sIx xs.length 0 lo)).take (HT.sIx xs.length xs.length hi - HT.sIx xs.length 0 lo), Heap.get?_push_size _ rfl⟩

/-! ### in, not in: flat items -/
def flatV : V → Bool
  | .non => true
  | .bl _ => true
  | .int _ => true
  | .str _ => true
  | _ => false
/-- == of flat values -/
def eqV : V → V → Bool
  | .non, .non => true
  | .bl a, .bl b => a == b
  | .bl a, .int b => (if a then 1 else 0) == b
  | .int a, .bl b => a == (if b then 1 else 0)
  | .int a, .int b => a == b
  | .str a, .str b => a == b
  | _, _ => false
theorem eqAt_V {A : Around} {s : Shared} {y x : V} {u v : Value} (ry : RelV y u) (rx : RelV x v) (fy : flatV y = true) (fx : flatV x = true) : SeqAt.EqAt A s u v (eqV y x) := by
  cases y with
  | non =>
    cases ry
    cases x with
    | non => cases rx; exact SeqAt.EqAt.same _
    | bl b => cases rx; exact SeqAt.EqAt.none_bool b
    | int b => obtain ⟨t, rfl⟩ := rx; exact SeqAt.EqAt.none_int b t
    | str b => obtain ⟨t, rfl⟩ := rx; exact SeqAt.EqAt.none_str b t
    | _ => exact absurd (show false = true from fx) Bool.false_ne_true
  | bl a =>
    cases ry
    cases x with
    | non => cases rx; exact SeqAt.EqAt.bool_none a
    | bl b => cases rx; exact SeqAt.EqAt.bool_bool a b
    | int b => obtain ⟨t, rfl⟩ := rx; exact SeqAt.EqAt.bool_int a b t
    | str b => obtain ⟨t, rfl⟩ := rx; exact SeqAt.EqAt.bool_str a b t
    | _ => exact absurd (show false = true from fx) Bool.false_ne_true
  | int a =>
    obtain ⟨t', rfl⟩ := ry
    cases x with
    | non => cases rx; exact SeqAt.EqAt.int_none a t'
    | bl b => cases rx; exact SeqAt.EqAt.int_bool a t' b
    | int b => obtain ⟨t, rfl⟩ := rx; exact SeqAt.EqAt.int_int a t' b t
    | str b => obtain ⟨t, rfl⟩ := rx; exact SeqAt.EqAt.int_str a t' b t
    | _ => exact absurd (show false = true from fx) Bool.false_ne_true
  | str a =>
    obtain ⟨t', rfl⟩ := ry
    cases x with
    | non => cases rx; exact SeqAt.EqAt.str_none a t'
    | bl b => cases rx; exact SeqAt.EqAt.str_bool a t' b
    | int b => obtain ⟨t, rfl⟩ := rx; exact SeqAt.EqAt.str_int a t' b t
    | str b => obtain ⟨t, rfl⟩ := rx; exact SeqAt.EqAt.str_str a t' b t
    | _ => exact absurd (show false = true from fx) Bool.false_ne_true
  | _ => exact absurd (show false = true from fy) Bool.false_ne_true
/-- the items' answers, read off the values (a value's own answer does not lean on its token) -/
def eqU (x : V) (u : Value) : Bool := match u with
  | .none => eqV .non x
  | .bool b => eqV (.bl b) x
  | .int i _ => eqV (.int i) x
  | .str z _ => eqV (.str z) x
  | _ => false
theorem eqU_of {x y : V} {u : Value} (r : RelV y u) (f : flatV y = true) : eqU x u = eqV y x := by
  cases y with
  | non => cases r; rfl
  | bl b => cases r; rfl
  | int i => obtain ⟨t, rfl⟩ := r; rfl
  | str z => obtain ⟨t, rfl⟩ := r; rfl
  | _ => exact absurd (show false = true from f) Bool.false_ne_true
theorem any_eqU {x : V} : ∀ {xs : List V} {us : List Value}, Vals xs us → xs.all flatV = true → us.any (eqU x) = xs.any fun y => eqV y x
  | _, _, .nil, _ => rfl
  | y :: xs, u :: us, .cons r t, f => by
    rw [List.all_cons, Bool.and_eq_true] at f
    rw [List.any_cons, List.any_cons, eqU_of r f.1, any_eqU t f.2]
theorem mem_eqAt {A : Around} {s : Shared} {x : V} {v : Value} (rx : RelV x v) (fx : flatV x = true) : ∀ {xs : List V} {us : List Value}, Vals xs us → xs.all flatV = true → ∀ u ∈ us, SeqAt.EqAt A s u v (eqU x u)
  | _, _, .nil, _ => fun u hu => by cases hu
  | y :: xs, u :: us, .cons r t, f => fun u' hu => by
    rw [List.all_cons, Bool.and_eq_true] at f
    rcases List.mem_cons.mp hu with rfl | hu
    · rw [eqU_of r f.1]; exact eqAt_V r rx f.1 fx
    · exact mem_eqAt rx fx t f.2 u' hu
def inV (x : V) (xs : List V) : Bool := xs.any fun y => eqV y x
/-- x in a list or tuple of flat items -/
def rIn (K : PySem.W.Frag) (neg : Bool) : R2 := fun x y H Q => ∃ p xs, y = .ref p ∧ (SqL K H p xs ∨ SqT K H p xs) ∧ flatV x = true ∧ xs.all flatV = true ∧ Q (.bl (if neg then !inV x xs else inV x xs)) H
theorem op_notIn_seq : OpR X (compareOp .NotIn) (rIn X.K true) := by
  intro pins s σ H x y v u Q I rx ry h
  obtain ⟨p, xs, rfl, hq, fx, fs, q⟩ := h
  cases ry
  rcases hq with hq | hq
  · obtain ⟨its, r, pl, hz⟩ := I.list hq
    refine SeqAt.notIn_listAt (eqU x) pl.isList (fun w hw => mem_eqAt rx fx r fs w (by simpa using hw)) ⟨.bl _, H, I, rfl, ?_⟩
    rw [show its.toArray.any (eqU x) = its.any (eqU x) by simp, any_eqU r fs]
    exact q
  · obtain ⟨its, r, pl, hz⟩ := I.tuple hq
    refine SeqAt.notIn_tupleAt (eqU x) pl (fun w hw => mem_eqAt rx fx r fs w (by simpa using hw)) ⟨.bl _, H, I, rfl, ?_⟩
    rw [show its.toArray.any (eqU x) = its.any (eqU x) by simp, any_eqU r fs]
    exact q

/-! ### len, list(x), tuple(x) of any list or tuple that is read -/
theorem call_len_seq : CallR X (.builtin "len") (fun xs H Q => ∃ p ys, xs = [.ref p] ∧ (SqL X.K H p ys ∨ SqT X.K H p ys) ∧ Q (.int ys.length) H) := by
  intro pins s σ H xs us Q I r h
  obtain ⟨p, ys, rfl, hq, q⟩ := h
  obtain ⟨u, rfl, rx⟩ := vals1 r
  cases rx
  have hn := line63
  rcases hq with hq | hq
  · obtain ⟨its, r', pl, hz⟩ := I.list hq
    have hlen := r'.length
    exact Calls.call_len_list pl.isList (by simp only [List.size_toArray] <;> omega) ⟨.int ys.length, H, I.tok _, ⟨s.toks + 1, by rw [List.size_toArray, hlen]⟩, q⟩
  · obtain ⟨its, r', pl, hz⟩ := I.tuple hq
    have hlen := r'.length
    exact len_tuple pl (by simp only [List.size_toArray] <;> omega) ⟨.int ys.length, H, I.tok _, ⟨s.toks + 1, by rw [List.size_toArray, hlen]⟩, q⟩
theorem call_len_str : CallR X (.builtin "len") (fun xs H Q => ∃ z, xs = [.str z] ∧ z.length ≤ sizeLine ∧ Q (.int z.length) H) := by
  intro pins s σ H xs us Q I r h
  obtain ⟨z, rfl, hz, q⟩ := h
  obtain ⟨u, rfl, t, rfl⟩ := vals1 r
  have hn := line63
  exact len_str (by omega) ⟨.int z.length, H, I.tok _, ⟨_, rfl⟩, q⟩
theorem CallR.or {f : Value} {r r' : List V → Hp → VK → Prop} (h : CallR X f r) (h' : CallR X f r') : CallR X f (fun xs H Q => r xs H Q ∨ r' xs H Q) := by
  intro pins s σ H xs us Q I rs q
  rcases q with q | q
  · exact h pins s σ H xs us Q I rs q
  · exact h' pins s σ H xs us Q I rs q

/-! ### the call of a builtin's method: o.m(..) -/
/-- the value is of that builtin type -/
def tyV (K : PySem.W.Frag) (T : String) (x : V) (H : Hp) : Prop := match x with
  | .str _ => T = "str"
  | .int _ => T = "int"
  | .ref p => (T = "list" ∧ ∃ xs, SqL K H p xs) ∨ (T = "tuple" ∧ ∃ o, K.lookup p = some o ∧ o.cls = .type "tuple" ∧ o.dict = none) ∨
      (T = "dict" ∧ ((∃ kvs, H p = some (.dK kvs)) ∨ ∃ kvs, H p = some (.dT kvs))) ∨ (T = "set" ∧ ∃ S n, H p = some (.set S n))
  | _ => False
theorem tyV_is {pins : List (Addr × Obj)} {σ : St} {H : Hp} {s : Shared} {T : String} {x : V} {v : Value} (I : Inv X pins σ H s) (r : RelV x v) (ty : tyV X.K T x H) :
    s.TypeIs v T ∧ ∀ a, v = .ref a → ∃ ob, s.heap.get? a = some ob ∧ ob.dict = none := by
  cases x with
  | str z =>
    obtain ⟨t, rfl⟩ := r
    cases (show T = "str" from ty)
    exact ⟨typeIs_str s z t, fun _ e => nomatch e⟩
  | int i =>
    obtain ⟨t, rfl⟩ := r
    cases (show T = "int" from ty)
    exact ⟨typeIs_int s i t, fun _ e => nomatch e⟩
  | ref p =>
    cases r
    rcases ty with ⟨rfl, xs, hq⟩ | ⟨rfl, o, hk, hc, hd⟩ | ⟨rfl, hk⟩ | ⟨rfl, S, n, hk⟩
    · obtain ⟨its, _, pl, _⟩ := I.list hq
      refine ⟨pl.isList.typeIs, fun a e => ?_⟩
      cases e
      obtain ⟨o, n, e, c, hd, _⟩ := pl
      exact ⟨o, e, hd⟩
    · refine ⟨⟨o, I.kIn p o hk, hc⟩, fun a e => ?_⟩
      cases e
      exact ⟨o, I.kIn _ o hk, hd⟩
    · have z : ∃ o, s.heap.get? p = some o ∧ o.ExactDict := by
        rcases hk with ⟨kvs, hk⟩ | ⟨kvs, hk⟩
        · obtain ⟨_, _, _, _, o, _, _, e, ex, _⟩ := I.hok p _ hk
          exact ⟨o, e, ex⟩
        · obtain ⟨_, _, _, _, o, _, _, e, ex, _⟩ := I.hok p _ hk
          exact ⟨o, e, ex⟩
      obtain ⟨o, e, ex⟩ := z
      refine ⟨⟨o, e, ex.1⟩, fun a e2 => ?_⟩
      cases e2
      exact ⟨o, e, ex.2.1⟩
    · obtain ⟨o, _, _, _, e, ex, _⟩ := I.hok p _ hk
      refine ⟨⟨o, e, ex.1⟩, fun a e2 => ?_⟩
      cases e2
      exact ⟨o, e, ex.2.1⟩
  | _ => exact False.elim ty
def tBM (K : PySem.W.Frag) (T : String) (r : V → List V → Hp → VK → Prop) (to : TE) (t : TA) : TE := fun σ H Q => to σ H fun x H1 => tyV K T x H1 ∧ t σ H1 fun xs H2 => r x xs H2 Q
variable {o e : Expr} {es : List Expr} {to : TE} {t : TA} {name : Str} {apos cpos : Pos} {T id : String} {r : V → List V → Hp → VK → Prop}
theorem pe_bm (pa : PlainAttrs T) (slot : Slot T name id) (hty : typeOf (.builtin id) = pure (.type "method_descriptor")) (hm : MtR X id r) (ho : PE X o to) (ha : PA X (e :: es) t)
    (hbase : attributeBase o name X.env (eval o X.env) = eval o X.env := by rfl)
    (hfew : ((backTo cpos (starEach (e :: es) X.env)).all (fun x => !x.1) && (backToKw cpos (keywordEach [] X.env)).all (fun x => x.1.isSome)
      && decide ((e :: es).length + ([] : List Keyword).length + (if ([] : List Keyword).isEmpty then 0 else 1) < 30)) = true := by rfl)
    (hline : (apos.endLine == cpos.line) = true := by rfl) (hs : starEach (e :: es) X.env = (false, eval e X.env) :: starEach es X.env := by rfl) (hplain : (backTo cpos (starEach es X.env)).any (·.1) = false := by rfl) :
    PE X (.Call (.Attribute o name apos) (e :: es) [] cpos) (tBM X.K T r to t) := by
  intro pins s σ H Q I h
  refine wpAny_Call_method_late hbase hfew hline rfl (thn (ho pins s σ H _ I h) fun v s1 ⟨x, H1, I1, r1, ty, q1⟩ => ?_)
  obtain ⟨h1, h2⟩ := tyV_is I1 r1 ty
  refine ⟨T, id, pa, slot, hty, h1, h2, ?_⟩
  have hA := ha cpos pins s1 σ H1 _ I1 q1
  rw [hs] at hA ⊢
  refine Calls.callWith_builtin (by show (false || (backTo cpos (starEach es X.env)).any (·.1)) = false; rw [hplain] <;> rfl) (Calls.evalArgs_plain ?_)
  exact thn hA fun us s2 ⟨vs, H2, I2, r2, q2⟩ => hm pins s2 σ H2 x vs v us Q I2 r1 r2 q2
/- xs.append(e), list.index on a module's tuple .. are MtR facts of 06m -/
end
end L2

namespace L2
open PySem PySem.Spec PyProof.Rows

def MtM (X : Cx) (id : String) (r : V → List V → Hp → VK → Prop) : Prop :=
  ∀ (pins : List (Addr × Obj)) (s : Shared) (σ : St) (H : Hp) (x : V) (xs : List V) (v : Value) (us : List Value) (Q : VK), Inv X pins σ H s → RelV x v → Vals xs us → r x xs H Q →
    wpAny (model X.prog X.w) X.A (call (.builtin id) (v :: us)) (EP X pins σ Q) X.xe s

/-! ### lists of values -/
theorem Vals.one : ∀ {x : V} {us : List Value}, Vals [x] us → ∃ u, us = [u] ∧ RelV x u
  | _, _, .cons r .nil => ⟨_, rfl, r⟩
theorem Vals.two : ∀ {x y : V} {us : List Value}, Vals [x, y] us → ∃ u v, us = [u, v] ∧ RelV x u ∧ RelV y v
  | _, _, _, .cons r (.cons q .nil) => ⟨_, _, rfl, r, q⟩
theorem Vals.eraseIdx : ∀ {xs : List V} {us : List Value} (i : Nat), Vals xs us → Vals (xs.eraseIdx i) (us.eraseIdx i)
  | _, _, _, .nil => .nil
  | _, _, 0, .cons _ t => t
  | _, _, i + 1, .cons r t => .cons r (Vals.eraseIdx i t)
theorem len_erase {α : Type} : ∀ (l : List α) (i : Nat), (l.eraseIdx i).length ≤ l.length
  | [], _ => Nat.le_refl _
  | _ :: _, 0 => Nat.le_succ _
  | _ :: r, i + 1 => Nat.succ_le_succ (len_erase r i)

section
variable {X : Cx} {pins : List (Addr × Obj)} {σ : St} {H : Hp} {s : Shared} {l b : Addr} {xs ys zs : List V}

/-! ### the two steps: a tracked list is rewritten, a new list is laid -/
theorem Inv.lset {its its' : List Value} {n : Nat} {f : Array Value → Array Value} {t' : Nat} (I : Inv X pins σ H s) (hH : H l = some (.lst xs))
    (e : s.heap.get? l = some { cls := .type "list", data := .seq its.toArray n }) (hf : f its.toArray = its'.toArray) (hv : Vals ys its') (hz : ys.length ≤ sizeLine) :
    Inv X pins σ (upd H l (.lst ys)) { s with heap := s.heap.update l (Obj.mapSeq f), toks := t' } := by
  have q := PySem.IsL.update e f
  rw [hf] at q
  refine I.write (x := l) (e := l) (by rw [hH]; exact trivial) (.inl rfl) (fun b' u hb hu => (Heap.get?_update_other s.heap (Obj.mapSeq f) (Ne.symm hb)).trans hu) ⟨_, q⟩ ?_
  exact ⟨hz, its', _, hv, q⟩
theorem Inv.lnew {its : List Value} {t' : Nat} (I : Inv X pins σ H s) (hv : Vals ys its) (hz : ys.length ≤ sizeLine) :
    Inv X pins σ (upd H s.heap.objs.size (.lst ys)) { s with heap := s.heap.push { cls := .type "list", data := .seq its.toArray }, toks := t' } :=
  I.laid (fun _ _ q => Heap.get?_push_of_some _ q) (Nat.le_refl _) ⟨hz, its, 0, hv, Heap.get?_push_size _ rfl⟩
theorem Inv.fresh (I : Inv X pins σ H s) : H s.heap.objs.size = none := I.hok.fresh (Nat.le_refl _)
theorem Inv.lstM (I : Inv X pins σ H s) (hH : H l = some (.lst xs)) : xs.length ≤ sizeLine ∧ ∃ (its : List Value) (n : Nat), Vals xs its ∧ xs.length = its.length ∧ s.heap.get? l = some { cls := .type "list", data := .seq its.toArray n } := by
  obtain ⟨z, its, n, r, e⟩ := I.hok l _ hH
  exact ⟨z, its, n, r, r.length, e⟩

end

section
variable {X : Cx}

/-! ### methods -/
def rAppend : V → List V → Hp → VK → Prop := fun x vs H Q => ∃ l xs y, x = .ref l ∧ vs = [y] ∧ H l = some (.lst xs) ∧ xs.length < sizeLine ∧ Q .non (upd H l (.lst (xs ++ [y])))
theorem mt_append : MtM X "list.append" rAppend := by
  intro pins s σ H x vs v us Q I rx rv h
  obtain ⟨l, xs, y, rfl, rfl, hH, hz, q⟩ := h
  cases rx
  obtain ⟨u, rfl, ru⟩ := rv.one
  obtain ⟨z, its, n, r, hl, e⟩ := I.lstM hH
  refine call_meets F.slot_list_append ⟨_, e, rfl⟩ F.entry_list_append (F.args_list_append_2 _ _) (PySem.list_append l its.toArray n u (by rw [List.size_toArray]; omega)) ⟨e, ?_⟩
  refine ⟨.non, _, I.lset (its' := its ++ [u]) hH e (by simp) (r.append (.cons ru .nil)) ?_, rfl, q⟩
  rw [List.length_append, List.length_singleton]
  omega



def rPopAt : V → List V → Hp → VK → Prop := fun x vs H Q => ∃ l xs i k y, x = .ref l ∧ vs = [.int i] ∧ H l = some (.lst xs) ∧ -(2 ^ 63) ≤ i ∧ i < 2 ^ 63 ∧ seqIndex? i xs.length = some k ∧ xs[k]? = some y ∧ Q y (upd H l (.lst (xs.eraseIdx k)))
theorem mt_popAt : MtM X "list.pop" rPopAt := by
  intro pins s σ H x vs v us Q I rx rv h
  obtain ⟨l, xs, i, k, y, rfl, rfl, hH, h1, h2, hk, hy, q⟩ := h
  cases rx
  obtain ⟨u, rfl, ru⟩ := rv.one
  obtain ⟨t, rfl⟩ := ru
  obtain ⟨z, its, n, r, hl, e⟩ := I.lstM hH
  obtain ⟨w, hw, rw'⟩ := r.get hy
  refine call_meets F.slot_list_pop ⟨_, e, rfl⟩ F.entry_list_pop (F.args_list_pop_2 _ _)
    (MeetsSeq.list_pop_at l its.toArray n i t k w (fitsIndex_both h1 h2) (by rw [List.size_toArray, ← hl]; exact hk) (by rw [← Array.getElem?_toList]; exact hw) (by rw [List.size_toArray]; omega)) ⟨e, ?_⟩
  refine ⟨y, _, I.lset (its' := its.eraseIdx k) hH e ?_ (r.eraseIdx k) ?_, rw', q⟩
  · show its.toArray.eraseIdxIfInBounds k = (its.eraseIdx k).toArray
    rw [List.eraseIdxIfInBounds_toArray]
  · have := len_erase xs k
    omega



/-! ### list + list, list += list, list * int -/
def rCat : R2 := fun x y H Q => ∃ l b xs zs, x = .ref l ∧ y = .ref b ∧ H l = some (.lst xs) ∧ H b = some (.lst zs) ∧ xs.length + zs.length ≤ sizeLine ∧ ∀ p, H p = none → Q (.ref p) (upd H p (.lst (xs ++ zs)))
theorem op_cat : OpR X (binaryOp .Add) rCat := by
  intro pins s σ H x y v u Q I rx ry h
  obtain ⟨l, b, xs, zs, rfl, rfl, hH, hB, hz, q⟩ := h
  cases rx
  cases ry
  obtain ⟨z, its, n, r, hl, e⟩ := I.lstM hH
  obtain ⟨z2, its2, n2, r2, hl2, e2⟩ := I.lstM hB
  refine PySem.P.add_list e e2 ?_ (by rw [List.size_toArray, List.size_toArray]; omega)
  have ea : its.toArray ++ its2.toArray = (its ++ its2).toArray := by simp
  rw [ea]
  exact ⟨.ref _, _, I.lnew (t' := s.toks) (r.append r2) (by rw [List.length_append]; omega), rfl, q _ I.fresh⟩

/-! ### del xs[i] -/
end

/-! ### xs[a:b] = ys -/
section
variable {prog : Program} {w : World} {A : Around} {E : Value → Shared → Prop} {s : Shared}
end

section
variable {X : Cx}
end
end L2

namespace Att
open PySem PySem.W PySem.Calls PyProof.Rows

/-! ### the script -/
theorem ints_of_wellAll {P : Params} {h : Heap} : ∀ (ns : List Int) (vs : List Value), WellAll P h vs (ns.map WData.int) → IntsAre vs ns := by
  intro ns
  induction ns with
  | nil =>
    intro vs w
    rw [List.map_nil] at w
    cases w
    exact .nil
  | cons n ns ih =>
    intro vs w
    rw [List.map_cons] at w
    cases w with
    | cons a b =>
      cases a
      exact .cons _ _ (ih _ b)

theorem script_of {l : OpenLaw} {n : Nat} (hn : l.most = some n) {P : Params} {h : Heap} {args : List WData} {vals : List Value}
    (hpre : l.row.toRowW.claim.pre args = true) (hwl : WellAll P h vals args) :
    ∃ a vs ns, vals = [Value.ref a] ∧ args = [WData.list (ns.map WData.int)] ∧ h.get? a = some { cls := .type "list", data := .seq vs.toArray } ∧ IntsAre vs ns ∧ ns.length ≤ n := by
  have hsh : WShape.hasAll [] args [.list .int] = true := (pre_splitW hpre).1
  have hc : l.pre.holds [] { args := args } = true := (pre_splitW hpre).2
  obtain ⟨d, r, rfl, h1, h2⟩ := hasAllW_cons hsh
  obtain rfl := hasAllW_nil h2
  obtain ⟨xs, rfl, h3⟩ := hasW_list h1
  obtain ⟨ns, rfl⟩ := items_int h3
  have hlen : ns.length ≤ n := by
    unfold OpenLaw.pre at hc
    have h4 : (WTm.not (.lt (.lit (.int (n : Int))) (.len (.arg 0)))).holds [] { args := [.list (ns.map .int)] } = true := by
      have h4 := (holds_andW hc).1
      rw [hn] at h4
      exact h4
    have h5 := condW_of h4 (w_not (w_lt w_lit (w_len_list (w_arg rfl))))
    rw [List.length_map] at h5
    refine Nat.le_of_not_lt fun q => ?_
    have q' : (n : Int) < ((ns.length : Nat) : Int) := by omega
    first
      | (rw [decide_eq_true q'] at h5; exact absurd h5 (by decide))
      | (simp at h5; omega)
  cases hwl with
  | cons w1 w2 =>
    cases w2
    cases w1 with
    | list ho hall => exact ⟨_, _, ns, rfl, rfl, ho, ints_of_wellAll ns _ hall, hlen⟩

theorem post_true (l : OpenLaw) (args : List WData) : l.row.toRowW.claim.post args (.bool true) args = true :=
  postW_of (r := l.row.toRowW) (X := (true == true))
    (show WShape.has [] (.bool true) .bool = true by first | rfl | decide | simp [WShape.has, WShape.arms, WShape.armsAll])
    (show (WTm.eq .res (.lit (.bool true))).value [] { args := args, res := some (.bool true), after := args } = some (.bool (true == true)) from w_eq_bool (w_res rfl) w_lit) rfl

/-! ### the attachment: holds_open's last premise (the goal 'hc' behind k_head) from a wpAny of the law's body -/

/-- the same from a codeAny of the CALL (for a layer whose function contracts speak of calls) -/
theorem attach_call {l : OpenLaw} {n : Nat} {q : Program} {loose : List Str} {XP : (Str → Option Value) → Heap → Prop} {YP : World → Heap → Prop} {d : DefRec}
    (hn : l.most = some n) (hdf : d.params.defaults = [])
    (call : ∀ (w : World) (s₀ s₁ : Shared) (mg mb : Str → Option Value) (fa : Addr) (o : Obj) (pm cd doc : Value) (a : Addr) (vs : List Value) (ns : List Int),
      Ground q loose [] XP w s₀ mg mb s₁.heap → YP w s₁.heap →
      s₁.heap.get? fa = some o → o.data = .func (docDef d.name d.params d.body d.scope pm cd doc) → s₁.heap.CodeRec cd d.name → mg d.name = some (.ref fa) →
      s₁.heap.get? a = some { cls := .type "list", data := .seq vs.toArray } → IntsAre vs ns → ns.length ≤ n → s₁.gens = #[] →
      codeAny (model l.prog w) callerA (.call (.ref fa) ⟨[.ref a], []⟩) (fun r s' => r = .ok (.ret (.bool true)) ∧ OldK s₁.heap s'.heap ∧ s'.os = s₁.os ∧ AllBare s'.gens) s₁) :
    WalkO q loose XP YP l.row.toRowW d [] (fun f vs => PySem.call f vs) := by
  intro w s₀ s₁ mg mb G Y fa o pm cd doc dV kV ho hd hcd hD hmg hg args vals as hpre hlay hrd hwl hlo
  obtain rfl : dV = .none := Dflts.none hD hdf
  obtain rfl : kV = .none := Dflts.noKw hD
  obtain ⟨a, vs, ns, rfl, rfl, hobj, hints, hlen⟩ := script_of hn hpre hwl
  refine enter_call (codeAny_mono (call w s₀ s₁ mg mb fa o pm cd doc a vs ns G Y ho (fd_plain hd) hcd hmg hobj hints hlen hg) fun r s' hq => ?_)
  obtain ⟨rfl, h2, h3, h4⟩ := hq
  exact ⟨.inl ⟨.bool true, .bool true, [], rfl, fun _ => rfl, .bool true, post_true l _, fun _ => ⟨List.Pairwise.nil, fun _ hm => (nomatch hm)⟩⟩, h2, h3, h4⟩


/-! ### rules over ANY heap (no ledger) from facts about the written part K: the library's own take a ledger (News) for what they write -/
section
variable {prog : Program} {w : World} {A : Around} {E : Value → Shared → Prop} {s : Shared} {K : Frag}





/-! the whole heap as the ledger: makes every rule that writes through a ledger a rule over any heap -/

end
end Att

namespace L2
open PySem PySem.Spec PyProof.Rows

theorem vals_ints : ∀ {vs : List Value} {ns : List Int}, IntsAre vs ns → Vals (ns.map V.int) vs
  | _, _, .nil => .nil
  | _, _, .cons n t h => .cons ⟨t, rfl⟩ (vals_ints h)

/-- nothing is tracked but the script, known to the object (or it is an object of the module) -/
def Only (H : Hp) : Prop := ∀ b, H b = none ∨ ∃ o xs, H b = some (.frz o (.lst xs))

/-- THE HEAD: the law's promise, at the heap behind the top. F, the promise of the law's def, may use that base is part of the heap (so K.In base, base.Ns mainGlobals mg stand in Mod) -/
theorem law_call {P : Program} {w : World} {K : PySem.W.Frag} {mg mb : Str → Option Value} {CX : CXT} {k : Nat} {fa a : Addr} {fd : FuncData} {x : Str} {sp : Sp} {s₁ : Shared} {vs : List Value} {ns : List Int}
    (KX : K.In s₁.heap) (hns : s₁.heap.Ns mainGlobals mg) (hb : s₁.heap.Ns builtinsNs mb) (hbb : ∀ x : Str, x ≠ "__name__" → mb x = bootBuiltins x) (hlim : s₁.heap.NoLimit) (hg : s₁.gens = #[])
    (ha : s₁.heap.get? a = some { cls := .type "list", data := .seq vs.toArray }) (hi : IntsAre vs ns) (hl : ns.length ≤ sizeLine) (hr : Room k callerA)
    (F : ∀ base : Heap, K.In base → base.Ns mainGlobals mg → FnOk P w K mg base CX k fa fd [x] sp) (hbind : ∀ (s : Shared) (u : Value), BindsTo s fd ⟨[u], []⟩ [(x, u)])
    (hsp : ∀ H : Hp, Only H → SqL K H a (ns.map V.int) → sp [.ref a] H (fun v _ => v = .bl true) fun _ _ _ => False)
    (hCX : ∀ H e s', CX [] H s₁ (fun _ _ _ => False) e s' → False) :
    codeAny (model P w) callerA (.call (.ref fa) ⟨[.ref a], []⟩) (fun r s' => r = .ok (.ret (.bool true)) ∧ OldK s₁.heap s'.heap ∧ s'.os = s₁.os ∧ AllBare s'.gens) s₁ := by
  have rv := vals_ints hi
  have lenV := hi.length
  -- from an abstract heap in which nothing but the script may be tracked
  have core : ∀ H : Hp, Only H → SqL K H a (ns.map V.int) → HOk P w H s₁.heap → (∀ b, H b ≠ none → b = a) → (H a ≠ none → K.lookup a = none) →
      codeAny (model P w) callerA (.call (.ref fa) ⟨[.ref a], []⟩) (fun r s' => r = .ok (.ret (.bool true)) ∧ OldK s₁.heap s'.heap ∧ s'.os = s₁.os ∧ AllBare s'.gens) s₁ := by
    intro H hO hS hok hA hK
    have base_of : ∀ {b : Addr} {o : Obj}, s₁.heap.get? b = some o → H b = none → (hidT s₁.heap H).get? b = some o := fun e n => hidT_get e n
    have noA : ∀ {b : Addr} {o : Obj} {es : Array DictEntry} {ep : Nat}, s₁.heap.get? b = some o → o.data = .dict es ep → H b = none := fun {b o es ep} e d => by
      cases q : H b with
      | none => rfl
      | some u =>
        have e' : b = a := hA b (by rw [q]; simp)
        subst e'
        rw [ha] at e; cases e
        have d' : Data.seq vs.toArray _ = Data.dict es ep := d
        cases d'
    have nsK : ∀ {b : Addr} {m : Str → Option Value}, s₁.heap.Ns b m → (hidT s₁.heap H).Ns b m := fun {b m} ⟨o, es, ep, e, d, r⟩ => ⟨o, es, ep, base_of e (noA e d), d, r⟩
    have hKb : K.In (hidT s₁.heap H) := fun b o e => base_of (KX b o e) (by
      cases q : H b with
      | none => rfl
      | some u =>
        have e' : b = a := hA b (by rw [q]; simp)
        subst e'
        rw [hK (by rw [q]; simp)] at e; cases e)
    have hM : Mod K mg (hidT s₁.heap H) := ⟨hKb, nsK hns, ⟨mb, nsK hb, hbb⟩, let ⟨mc, h1, h2⟩ := hlim; ⟨mc, nsK h1, h2⟩⟩
    have e0 : Env0 P w K mg (hidT s₁.heap H) callerA [] s₁ H := ⟨rfl, hM, fun b o e => of_hidT e, Nat.le_of_eq (hidT_size _ _), trivial, fun b hb => absurd (show b ∈ ([] : List Addr) from hb) (by simp), hok, .of_eq hg⟩
    refine codeAny_mono ((F _ hKb (nsK hns)).run callerA [] s₁ H ⟨[.ref a], []⟩ [.ref a] [.ref a] _ _ hr e0 (hbind s₁ (.ref a)) (.cons rfl .nil) (hsp H hO hS)) fun r s' h => ?_
    cases r with
    | error e => exact (hCX H e s' h).elim
    | ok fl =>
      cases fl with
      | next => exact False.elim h
      | brk => exact False.elim h
      | cont => exact False.elim h
      | ret u =>
        obtain ⟨v, H', os, bare, un, hok', r', q⟩ := h
        have q' : v = .bl true := q
        subst q'
        obtain rfl : u = Value.bool true := r'
        refine ⟨rfl, OldK.of_keep fun b o e => ?_, os, bare⟩
        cases q : H b with
        | none => exact un.keep b o e q (by intro z; exact absurd (show b ∈ ([] : List Addr) from z) (by simp)) (by simp)
        | some u =>
          rcases hO b with z | ⟨ob, xs, z⟩
          · rw [q] at z; cases z
          · have z2 := un.frzs b ob _ z
            obtain ⟨e1, _⟩ := hok b _ z
            obtain ⟨e2, _⟩ := hok' b _ z2
            rw [e] at e1; cases e1
            exact e2
  cases hk : K.lookup a with
  | some o =>
    -- the script is one of the module's own objects
    have e := KX a o hk
    rw [ha] at e
    cases e
    refine core (fun _ => none) (fun _ => .inl rfl) (.inr ⟨_, vs.toArray, _, hk, rfl, rfl, rfl, by rw [List.size_toArray, lenV]; exact hl, by simpa using rv⟩) (fun b u z => by have z' : (none : Option HO) = some u := z; cases z') (fun b z => absurd rfl z) fun z => absurd rfl z
  | none =>
    refine core (fun b => if b = a then some (.frz { cls := .type "list", data := .seq vs.toArray } (.lst (ns.map V.int))) else none) (fun b => ?_) (.inl (.inr ⟨{ cls := .type "list", data := .seq vs.toArray }, if_pos rfl⟩)) (fun b u z => ?_) (fun b z => ?_) fun _ => hk
    · by_cases hb : b = a
      · exact .inr ⟨_, _, if_pos hb⟩
      · exact .inl (if_neg hb)
    · by_cases hb : b = a
      · have z' := (if_pos hb).symm.trans z
        cases z'
        subst hb
        exact ⟨ha, by rw [List.length_map]; exact hl, vs, _, rv, ha⟩
      · have z' := (if_neg hb).symm.trans z
        cases z'
    · by_cases hb : b = a
      · exact hb
      · exact absurd (if_neg hb) z
end L2

namespace L2
open PySem PySem.Spec PyProof.Rows


/-- the goal that k_head leaves (case hc), from the law's promise. F gives the function object fd (K's own) once, then the promise over every base -/
theorem walk_of {l : PySem.W.OpenLaw} {n k : Nat} {q : Program} {loose : List Str} {XP : (Str → Option Value) → Heap → Prop} {YP : World → Heap → Prop} {d : DefRec} {K : Params → PySem.W.Frag} {CX : World → CXT} {sp : World → Sp} {x : Str}
    (hn : l.most = some n) (hn2 : n ≤ sizeLine) (hdf : d.params.defaults = []) (hr : Room k callerA)
    (hY : ∀ (w : World) (h : Heap), YP w h → (K w.params).In h)
    (F : ∀ (w : World) (mg : Str → Option Value) (fa : Addr) (h : Heap), (K w.params).In h → h.Ns mainGlobals mg → mg d.name = some (.ref fa) →
      ∃ fd : FuncData, (∀ (s : Shared) (u : Value), BindsTo s fd ⟨[u], []⟩ [(x, u)]) ∧
        ∀ base : Heap, (K w.params).In base → base.Ns mainGlobals mg → FnOk l.prog w (K w.params) mg base (CX w) k fa fd [x] (sp w))
    (hsp : ∀ (w : World) (H : Hp) (a : Addr) (ns : List Int), ns.length ≤ n → Only H → SqL (K w.params) H a (ns.map V.int) → sp w [.ref a] H (fun v _ => v = .bl true) fun _ _ _ => False)
    (hCX : ∀ (w : World) (H : Hp) (s : Shared) (e : Value) (s' : Shared), CX w [] H s (fun _ _ _ => False) e s' → False) :
    PySem.W.WalkO q loose XP YP l.row.toRowW d [] (fun f vs => PySem.call f vs) := by
  refine Att.attach_call hn hdf fun w s₀ s₁ mg mb fa o pm cd doc a vs ns G Y ho hd hcd hmg hobj hints hlen hg => ?_
  have KX := hY w _ Y
  obtain ⟨fd, hb, hF⟩ := F w mg fa _ KX G.T.g hmg
  exact law_call KX G.T.g G.T.b G.T.builtins G.T.nolimit hg hobj hints (Nat.le_trans hlen hn2) hr hF hb (fun H hO hS => hsp w H a ns hlen hO hS) fun H e s' => hCX w H s₁ e s'
end L2

/- THE LAST THEOREM (shape; LID, My.* are yours):
   My.Adr: a structure of the addresses that your layer names (classes, functions); My.Txt K t: a structure (Prop) of the equations over K;
   My.txt_mk : {K} {implicit addresses ..} (e1 : nsIn K mainGlobals "law" = some (some (.ref f))) (e2 : K.lookup f = some ⟨oc, od, .func (fnOf "law" "law" params body scope dV kV doc pm an cdv ct), sl⟩) (e3 : codeIn K cdv "law" = true) .. : ∃ t, My.Txt K t

set_option maxRecDepth 100000 in
set_option maxHeartbeats 0 in
theorem PySem.Challenge.cw_LID_holds : PySem.Challenge.rw_LID.Holds := by
  w_on; o_law; k_head; (case hw => w_witness2)
  k_fill
  refine L2.walk_of (l := PySem.Challenge.rw_LID) (n := 63) (k := 40) (x := "script") (CX := fun w => ..) (sp := fun _ => My.sp_law) rfl (by decide) rfl ⟨rfl, by decide, by decide⟩ (fun w h Y => PySem.W.kIn_of Y) ?F ?S ?C
  case F =>
    intro w mg fa h KX G hmg
    have T : ∃ t, My.Txt (L2.KOf KX) t := by
      dsimp only [L2.KOf]                          -- K must stand as «<heap const> w.params» for k_is
      refine' My.txt_mk ?e1 ?e2 ?e3 ..
      (case e1 => PySem.W.k_is)                    -- in the order: a name -> its address -> its object -> its parts
      (case e2 => PySem.W.k_is)
      ..
    obtain ⟨t, T⟩ := T
    have e0 := hmg.symm.trans (PySem.W.mg_of KX G T.law)
    cases e0                                       -- fa is the law's own address
    exact ⟨_, fun s u => .of_eq rfl, fun base kb nb => My.law_fn T kb nb⟩     -- if «.of_eq rfl» comes too early: refine' ⟨_, ?b, fun base kb nb => My.law_fn T kb nb⟩; exact fun s u => .of_eq rfl
  case S => exact fun w H a ns hl hO hS => ..
  case C => exact ..
(the tactic k_is has no namespace: write k_is) -/

/-! SHORT WORDS over the layer: a def of the text, its body, what a loop and a test want. -/
namespace L2
open PySem PySem.Spec PyProof.Rows

/-! ### the text by places -/
/-- the j-th statement of a class's body -/
def inClass (s : Stmt) (j : Nat) : Stmt := match s with
  | .ClassDef _ _ _ body _ _ _ _ _ _ _ => body.getD j (.Pass ⟨0, 0, 0, 0⟩)
  | _ => .Pass ⟨0, 0, 0, 0⟩
def defArgs (s : Stmt) : Arguments := match s with
  | .FunctionDef _ a _ _ _ _ _ _ _ _ => a
  | _ => { posonlyargs := [], args := [], vararg := none, kwonlyargs := [], kw_defaults := [], kwarg := none, defaults := [] }
def defBody (s : Stmt) : List Stmt := match s with
  | .FunctionDef _ _ b _ _ _ _ _ _ _ => b
  | _ => []
def defScope (s : Stmt) : Scope := match s with
  | .FunctionDef _ _ _ _ _ _ sc _ _ _ => sc
  | _ => { kind := .function, names := [], isGenerator := false, isCoroutine := false }

/-! ### no exception leaves a def -/
abbrev CX0 : CXT := fun _ _ _ _ _ _ => False
abbrev E0 : XK := fun _ _ _ => False
theorem pass0 {X : Cx} : Passes CX0 X E0 := fun _ _ _ _ _ _ _ h => h.elim

/-! ### a def (or method) of the text as it stands behind the top -/
structure Fun (K : PySem.W.Frag) (x qual : Str) (st : Stmt) (f : Addr) (fd : FuncData) : Prop where
  ex : ∃ (oc : Value) (od : Option Addr) (kV doc pm : Value) (an : Option Addr) (cdv ct : Value) (osl : Array (Option Value)),
    fd = PySem.W.fnOf x qual (defArgs st) (defBody st) (defScope st) .none kV doc pm an cdv ct ∧ K.lookup f = some ⟨oc, od, .func fd, osl⟩ ∧ PySem.W.codeIn K cdv qual = true
  kp : PySem.W.keepIn K (.ref f) = true
section
variable {P : Program} {w : World} {K : PySem.W.Frag} {mg : Str → Option Value} {base : Heap}
/-- THE RULE for a def: its body as a term of rules, and the reading of that term -/
theorem Fun.ok {x qual : Str} {st : Stmt} {f : Addr} {fd : FuncData} {N ps : List Str} {k : Nat} {sp : Sp} (F : Fun K x qual st f fd) (S : FnScope N ps (defScope st)) (len : ∀ vs H Q E, sp vs H Q E → vs.length = ps.length)
    (hbody : ∀ (cdv : Value) (A : Around) (outer : List Env) (s : Shared) (H : Hp) (vs : List V) (Q : VK) (E : XK), Room k (A.deeper (envOfC qual (defScope st) s.heap.objs.size f cdv)) → sp vs H Q E →
      ∃ t, PSs (cxOf CX0 P w K mg base N qual (defScope st) f cdv A outer s H E).nox (defBody st) t ∧ t { nx := fun _ H' => Q .non H', rt := Q } (start N vs) H) : FnOk P w K mg base CX0 (k + 1) f fd ps sp := by
  obtain ⟨oc, od, kV, doc, pm, an, cdv, ct, osl, rfl, lk, hcd⟩ := F.ex
  refine fn_of lk hcd S len fun A outer s H vs Q E hr hsp => ?_
  obtain ⟨t, h, q⟩ := hbody cdv A outer s H vs Q E hr hsp
  exact ⟨t, h.nox, q⟩
/-- how its arguments bind (no defaults): h is «fun _ _ _ _ _ _ us hl => match us, hl with | [_, _], _ => rfl», one _ a parameter -/
theorem Fun.binds {x qual : Str} {st : Stmt} {f : Addr} {fd : FuncData} {ps : List Str} (F : Fun K x qual st f fd)
    (h : ∀ (kV doc pm : Value) (an : Option Addr) (cdv ct : Value) (us : List Value), us.length = ps.length → bindArgs (PySem.W.fnOf x qual (defArgs st) (defBody st) (defScope st) .none kV doc pm an cdv ct) ⟨us, []⟩ = pure (ps.zip us)) : Binds K fd ps [] := by
  obtain ⟨oc, od, kV, doc, pm, an, cdv, ct, osl, rfl, lk, hcd⟩ := F.ex
  exact .all (h kV doc pm an cdv ct)
theorem fun_mk {x qual : Str} {st : Stmt} {f : Addr} {oc : Value} {od an : Option Addr} {osl : Array (Option Value)} {kV doc pm cdv ct : Value} (l : K.lookup f = some ⟨oc, od, .func (PySem.W.fnOf x qual (defArgs st) (defBody st) (defScope st) .none kV doc pm an cdv ct), osl⟩)
    (c : PySem.W.codeIn K cdv qual = true) (k : PySem.W.keepIn K (.ref f) = true) : Fun K x qual st f (PySem.W.fnOf x qual (defArgs st) (defBody st) (defScope st) .none kV doc pm an cdv ct) := ⟨⟨oc, od, kV, doc, pm, an, cdv, ct, osl, rfl, l, c⟩, k⟩
end

/-! ### expressions in short: the name that stands in the i-th slot -/
section
variable {X : Cx}
theorem pv (i : Nat) {x : Str} {pos : Pos} (hN : X.N[i]? = some x := by rfl) (hv : Vis X.env.scope x := by first | exact Or.inl rfl | exact Or.inr (Or.inl rfl) | exact Or.inr (Or.inr rfl)) (hd : (x == ("__debug__" : Str)) = false := by decide)
    (hcd : (x == ("__classdict__" : Str)) = false := by decide) : PE X (.Name x pos) (tVar i) := pe_var hN hv hd hcd
end

/-! ### tests -/
theorem iteF {A B : Prop} (h : B) : if false = true then A else B := by
  rw [if_neg Bool.false_ne_true]
  exact h
theorem iteT {A B : Prop} (h : A) : if true = true then A else B := by
  rw [if_pos rfl]
  exact h

/-! ### heaps -/
/-- all that was tracked is as it was -/
def Same (H H' : Hp) : Prop := ∀ b o, H b = some o → H' b = some o
theorem Same.refl (H : Hp) : Same H H := fun _ _ h => h
theorem Same.trans {H H1 H2 : Hp} (a : Same H H1) (b : Same H1 H2) : Same H H2 := fun c o h => b c o (a c o h)
theorem Same.free {H H' : Hp} (e : Same H H') {l : Addr} (h : H' l = Option.none) : H l = Option.none := by
  cases q : H l with
  | none => rfl
  | some o =>
    rw [e l o q] at h
    cases h
theorem Same.seq {K : PySem.W.Frag} {H H' : Hp} {a : Addr} {xs : List V} (e : Same H H') (h : SqL K H a xs) : SqL K H' a xs := by
  rcases h with (h | ⟨o, h⟩) | h
  · exact .inl (.inl (e _ _ h))
  · exact .inl (.inr ⟨o, e _ _ h⟩)
  · exact .inr h

end L2

section
set_option Elab.async false
set_option linter.all false
set_option maxRecDepth 100000
set_option maxHeartbeats 5000000
namespace Ex
open PySem PySem.Spec PyProof.Rows PySem.W

/-- a built-in exception class B above own ones, as far as an own __init__ needs it; the __new__ may be that of a class above B -/
structure XB (B ini : String) (up : List Value) : Prop where
  mroIs : mroOf (.type B) = pure up
  hasB : up.contains (.type B) = true
  noAttr : up.contains (.type "AttributeError") = false
  noName : up.contains (.type "NameError") = false
  slot : Slot B "__init__" ini
  entry : entryFor table ini = some Builtin.«BaseException.__init__»
  split : splitId ini = some (B, "__init__")
  kind : builtinKind ini = some .slot
  row : Manifest.signature? ini = some ⟨.positional, "*", B, .self, [⟨"args", .varPos, false⟩]⟩
  star : (B != "*") = true
theorem XB.of {B nw ini : String} {up : List Value} (f : ExcBaseFacts B nw ini up) : XB B ini up := ⟨f.mroIs, f.hasB, f.noAttr, f.noName, f.init, f.initEntry, f.initSplit, f.initKind, f.initRow, f.noStar⟩
theorem key_slot : Slot "KeyError" "__init__" "KeyError.__init__" := by
  apply Slot.of (owner := "KeyError") (n := "__init__")
  case hl => rw [typeLookup_type, builtinLookup_eq_fast]; kernel_rfl
  all_goals first | decide +kernel | exact .inl (by decide +kernel) | exact .inr (by decide +kernel) | (rw [isSubtype_type]; kernel_rfl)
theorem xb_key : XB "KeyError" "KeyError.__init__" [.type "KeyError", .type "LookupError", .type "Exception", .type "BaseException", .type "object"] := by
  refine ⟨?_, ?_, ?_, ?_, key_slot, ?_, ?_, ?_, ?_, ?_⟩
  case refine_1 => rw [mroOf_type]; kernel_rfl
  case refine_5 =>
    apply entryFor_alias (id' := "BaseException.__init__")
    all_goals first | decide +kernel | (rw [fastTable_eq_tree]; kernel_rfl) | rfl
  all_goals first | decide +kernel | kernel_rfl

/-- what type.__call__ makes of a class of the text: the exception without anything, and the tuple of its arguments -/
def rawExc (h : Heap) (C : Addr) (as : List Value) : Heap :=
  (h.push { cls := .type "tuple", data := .seq as.toArray }).push { cls := .ref C, data := .fields #[.ref h.objs.size, .none, .none, .none, .bool false, .none] }
theorem rawExc_keeps {h : Heap} {C : Addr} {as : List Value} : ∀ b o, h.get? b = some o → (rawExc h C as).get? b = some o := fun b o e => Heap.get?_push_of_some _ (Heap.get?_push_of_some _ e)
theorem rawExc_at {h : Heap} {C : Addr} {as : List Value} : (rawExc h C as).get? (h.objs.size + 1) = some { cls := .ref C, data := .fields #[.ref h.objs.size, .none, .none, .none, .bool false, .none] } :=
  Heap.get?_push_at (by rw [Heap.size_push]) rfl
section
variable {prog : Program} {w : World} {A : Around} {E : Value → Shared → Prop} {h : Heap} {g : Array GenState} {d : Drawn} {t : Nat} {os : OsState} {nm qn : Str} {C N : Addr} {bs tl up un : List Value} {hd : Bool} {sn : List Str} {sub : List Value} {ab : Bool} {col : Option Bool}
  {dd : Option Addr} {j0 j1 j2 j3 j5 : Option Value} {B D nw ini iniD : String} {K : Frag} {fI : Addr} {as : List Value}

/-- BaseException.__new__ for a class of the text -/
theorem new_run {R : Result → Shared → Prop} (fn : ExcBaseFacts D nw iniD un) (hD : up.contains (.type D) = true) (F : XB B ini up) (T : OwnTail h up tl) (hC : h.get? C = some (excClassObj nm qn C N bs tl hd sn sub ab col dd j0 j1 j2 j3 j5 nw))
    (hl : as.length ≤ sizeLine) (q : R (.ok (.ret (.ref (h.objs.size + 1)))) ⟨rawExc h C as, g, d, t, os⟩) : codeAny (model prog w) A (.builtin nw ⟨.ref C :: as, []⟩) R ⟨h, g, d, t, os⟩ := by
  have isIn : ∀ {n : String} {b : Bool}, up.contains (.type n) = b → (Value.ref C :: tl).contains (.type n) = b := fun {n b} e => by rw [List.contains_cons, T.hasType e]; exact Bool.false_or _
  have c1 := isIn hD; have c2 := isIn F.noAttr; have c3 := isIn F.noName; have ends := fn.ends
  apply codeAny_builtinAt fn.entry
  delta Builtin.«BaseException.__new__»
  apply PySem.wpAt_bind
  change PySem.wpAt _ _ _ (stack >>= _) _ _ _
  apply PySem.wpAt_bind; apply PySem.wpAt_stack; intro p below; apply PySem.wpAt_of_wpAny
  wp_walk
  apply PySem.wpAt_of_wpAny
  rw [fn.owner]
  repeat (first
    | (with_reducible apply wpAny_madeHere_exc fn.canon hC)
    | (with_reducible apply wpAny_loadPart_at hC)
    | (with_reducible apply wpAny_isSubtype_exc hC; first | rw [c1] | rw [c2] | rw [c3])
    | wp_step)
  change R _ _
  rw [Heap.size_push]
  exact q

/-- C(..) of such a class; iv: its __init__, of the text or a built-in one -/
theorem call_own {Q : Value → Shared → Prop} {iv : Value} (fn : ExcBaseFacts D nw iniD un) (hD : up.contains (.type D) = true) (F : XB B ini up) (T : OwnTail h up tl) (X : K.In h) (hC : h.get? C = some (excClassObj nm qn C N bs tl hd sn sub ab col dd j0 j1 j2 j3 j5 nw))
    (at_ : findIn K (.ref C) "__init__" = some (some iv)) (bd : Looks (model prog w) (rawExc h C as) (bindSpecial iv (.ref (h.objs.size + 1))) (iv, [.ref (h.objs.size + 1)])) (hl : as.length ≤ sizeLine)
    (q : wpAny (model prog w) (A.under (.builtin "type.__call__" ⟨.ref C :: as, []⟩)) (call iv (.ref (h.objs.size + 1) :: as)) (fun r s' => r = .none ∧ Q (.ref (h.objs.size + 1)) s') E ⟨rawExc h C as, g, d, t, os⟩) :
    wpAny (model prog w) A (call (.ref C) as) Q E ⟨h, g, d, t, os⟩ := by
  have look := tc_lookup; have bnd := tc_bind (.ref C)
  have tyC : (⟨h, g, d, t, os⟩ : Shared).TypeIs (.ref C) "type" := ⟨_, hC, rfl⟩
  have X' : K.In (rawExc h C as) := X.keeps rawExc_keeps
  have hC' := rawExc_keeps (as := as) (C := C) _ _ hC
  have self : (Value.ref C :: tl).contains (.ref C) = true := by rw [List.contains_cons, beq_self_eq_true]; exact Bool.true_or _
  apply wpAny_call; apply codeAny_of_tree
  change wpAny _ _ (callAny (.ref C) _) _ _ _
  repeat (any_goals (first | assumption | (with_reducible apply wpAny_loadPart_at hC) | wp_step))
  constructor
  · rfl
  apply codeAny_call_builtin_at (Code.quiet_builtin _ (by decide +kernel)) entry_typeCall
  apply wpAny_check_type_call_sub hC
  repeat (first | (with_reducible apply wpAny_loadPart_at hC) | (with_reducible apply wpAny_madeBy_exc hC) | wp_step)
  apply codeAny_call_builtin_code (Code.quiet_builtin _ fn.quiet)
  apply wpAny_check_new_subU fn hD T hC
  apply new_run fn hD F T hC hl
  change wpAny _ _ _ _ _ _
  delta isInstance
  repeat (first | (with_reducible apply wpAny_loadPart_at rawExc_at) | (with_reducible apply wpAny_isSubtype_exc hC'; rw [self]) | wp_step)
  change wpAny _ _ (typeLookup (.ref C) _) _ _ _
  apply (looks_findIn X' at_).here (s := ⟨_, g, d, t, os⟩)
  apply wpAny_holding; apply wpAny_bind
  apply bd.here (s := ⟨_, g, d, t, os⟩)
  apply wpAny_bind
  apply wpAny_mono q
  · rintro r s' ⟨rfl, k⟩
    wp_walk
    exact k
  · exact fun _ _ z => z
end
end Ex
end

section
set_option Elab.async false
set_option linter.all false
set_option maxRecDepth 100000
set_option maxHeartbeats 5000000
namespace Ex
open PySem PySem.Spec PyProof.Rows PySem.W PySem.Calls Builtin Builtin.ObjectAttr

/-- what is read of an own exception class -/
structure XC (K : Frag) (C : Addr) : Prop where
  ga : findIn K (.ref C) "__getattribute__" = some (some (.builtin "BaseException.__getattribute__"))
  gt : findIn K (.ref C) "__getattr__" = some none
  sa : findIn K (.ref C) "__setattr__" = some (some (.builtin "object.__setattr__"))
  be : mroIn K C (.type "BaseException") = some true
  ob : mroIn K C (.type "object") = some true
  pass : ∃ cd, clsIn K C = some cd ∧ cd.hasDict = true ∧ ∀ self, refuseLoop self "__setattr__" cd.mro = pure ()
  ca : findIn K (.ref C) "__class__" = some (some (.builtin "object.__class__"))
  cg : specialIn K (.builtin "object.__class__") "__get__" = some (some (.builtin "getset_descriptor.__get__"))
  ct : takesIn K (.builtin "object.__class__") = some true
  kc : kitCls K (.ref C) (.ref C) = some true

section
variable {prog : Program} {w : World} {A : Around} {E : Value → Shared → Prop} {s : Shared} {K : Frag} {x C : Addr} {ox : Obj} {od : Option Obj} {n : Str} {ex fl : Bool} {tk : Tok}
/-- BaseException.__getattribute__ is object's -/
theorem xby {Q : Value → Shared → Prop} (X : K.In s.heap) (I : InstAt s.heap x ox C od) (c : XC K C)
    (k : wpAny (model prog w) A.in1 (Builtin.«object.__getattribute__» ⟨[.ref x, .str n tk], []⟩) (fun r s' => ∃ v, r = .done (.ret v) ∧ wpAny (model prog w) A (handedOut v) Q E s') (fun _ _ => False) s) :
    wpAny (model prog w) A (getAttrBy (.ref x) (.str n tk) fl ex) Q E s := by
  have noObj : (Value.builtin "BaseException.__getattribute__" == Value.builtin "object.__getattribute__") = false := by decide +kernel
  have SL := PySem.F.attr_ValueError.ga
  have hook : Looks (model prog w) s.heap (hookBefore (.ref C)) none := looks_hook X (mc := .ref C) (show findIn K (.ref C) "__getattr__" = some none from c.gt)
  apply wpAny_holding; apply wpAny_bind; apply I.type.here; apply wpAny_bind; apply (looks_findIn X c.ga).here
  dsimp only
  rw [noObj, Bool.and_false, if_neg Bool.false_ne_true]
  apply wpAny_bind; apply hook.here; apply wpAny_bind; apply wpAny_attempt; apply wpAny_holding
  unfold callGetattribute
  rw [show (ex && onTheHeap (Value.builtin "BaseException.__getattribute__")) = false from Bool.and_false ex, if_neg Bool.false_ne_true]
  unfold boundAndCalled
  rw [SL.bind]
  apply wpAny_bind; apply wpAny_pure
  change wpAny _ _ (call (.builtin "BaseException.__getattribute__") [.ref x, .str n tk]) _ _ _
  apply wpAny_call; apply codeAny_call_builtin SL.plain PySem.F.entry_bexc_ga
  apply @check_slot (model prog w) A.in1 _ s "BaseException.__getattribute__" "BaseException" "__getattribute__" (.ref x) [.str n tk] []
  · decide +kernel
  · decide +kernel
  · exact I.type.andThen (looks_mroIn X c.be)
  · exact PySem.F.args_bexc_ga _ _
  · exact wpAny_mono k (fun r s' ⟨v, e, z⟩ => by subst e; exact z) fun _ _ z => z.elim

theorem xclass {Q : Option Value → Shared → Prop} (X : K.In s.heap) (I : InstAt s.heap x ox C od) (c : XC K C) (q : Q (some (.ref C)) { s with toks := s.toks + 1 }) : wpAny (model prog w) A (getAttr? (.ref x) "__class__") Q E s := by
  obtain ⟨cd, hc, _, _⟩ := c.pass
  have fnd : findObj K C od "__class__" = some (.bind (.builtin "getset_descriptor.__get__") (.builtin "object.__class__")) := by
    unfold findObj
    rw [hc, Option.bind_some, c.ca, Option.bind_some]; dsimp only
    rw [c.cg, Option.bind_some]; dsimp only
    rw [c.ct, Option.bind_some]
  apply wpAny_bind; apply wpAny_mkText; apply wpAny_bind; apply wpAny_attempt
  apply xby (s := { s with toks := s.toks + 1 }) X I c
  delta Builtin.«object.__getattribute__»
  apply wpAny_bind; apply wpAny_pure; apply wpAny_bind; apply wpAny_pure
  apply wpAny_bind; apply I.type.here (s := { s with toks := s.toks + 1 })
  apply wpAny_bind; apply (looks_find X I fnd).here (s := { s with toks := s.toks + 1 })
  change wpAny _ _ (holding [_] (call (.builtin "getset_descriptor.__get__") [.builtin "object.__class__", .ref x, .ref C]) >>= ret) _ _ _
  apply wpAny_bind; apply wpAny_holding; apply wpAny_call
  exact class_get (s := { s with toks := s.toks + 1 }) (ox := ox) (od := od) X I c.ob (wpAny_pure ⟨_, rfl, handed_on rfl (wpAny_pure q)⟩)
end
/-- isinstance -/
theorem kitx_exc {K : Frag} {x C : Addr} (c : XC K C) : KitX K (.ref x) (.ref C) (fun h => ∃ ox od, InstAt h x ox C od) where
  ty := fun _ _ _ ⟨_, _, I⟩ => I.type
  it := fun _ _ X _ => (kit_cls X c.kc).2.1
  ne := fun h tp _ _ _ _ X e => by
    obtain ⟨cd, hc, _⟩ := c.pass
    cases z : (Value.ref C == Value.ref tp) with
    | false => rfl
    | true =>
      cases beq_iff_eq.mp z
      unfold clsIn at hc
      split at hc
      · rename_i a
        cases (X _ _ a).symm.trans e
      · cases hc
  ca := fun X ⟨_, _, I⟩ k => xclass X I c k
end Ex
end

section
set_option Elab.async false
set_option linter.all false
set_option maxRecDepth 100000
set_option maxHeartbeats 5000000
namespace Ex
open PySem PySem.Spec PyProof.Rows PySem.W PySem.Calls Builtin Builtin.ObjectAttr
section
variable {prog : Program} {w : World} {A : Around} {E : Value → Shared → Prop} {s : Shared} {K : Frag} {x C : Addr} {ox : Obj} {od : Option Obj} {n : Str} {v : Value}
/-- Base.__init__(e, ..) lays the tuple of arguments anew -/
theorem xinit {B ini : String} {up : List Value} {Q : Value → Shared → Prop} {vs : Array Value} {as : List Value} {t0 : Addr} (F : XB B ini up) (X : K.In s.heap) (I : InstAt s.heap x ox C od) (c : XC K C) (sub : mroIn K C (.type B) = some true) (hd : ox.data = .fields vs) (v0 : vs[0]? = some (.ref t0)) (few : as.length ≤ sizeLine)
    (k : ∀ h', (∀ b o, b ≠ x → s.heap.get? b = some o → h'.get? b = some o) → h'.get? x = some { ox with data := .fields (vs.setIfInBounds 0 (.ref s.heap.objs.size)) } → Q .none { s with heap := h' }) : wpAny (model prog w) A (call (.builtin ini) (.ref x :: as)) Q E s := by
  have isB : Looks (model prog w) s.heap (isInstance (.ref x) (.type B)) true := I.type.andThen (looks_mroIn X sub)
  obtain ⟨cd, hc, _, _⟩ := c.pass
  have lc := looks_clsIn (M := model prog w) X hc
  have hx := I.at_; have cl := I.cls
  obtain ⟨h, g, d, t, os⟩ := s
  obtain ⟨p1, p2, p3, p4⟩ := ox
  dsimp only at cl hd hx isB k
  subst cl hd
  have pos : 0 < vs.size := (Array.getElem?_eq_some_iff.mp v0).1
  have hx2 := Heap.get?_push_of_some { cls := .type "tuple", data := .seq as.toArray } hx
  have anyArgs : ∀ (a b : String) (m : Nat), Bind.check ⟨.positional, "*", B, .self, [⟨"args", .varPos, false⟩]⟩ a b m (List.map (·.fst) ({ pos := Value.ref x :: as } : Args).kw) = pure () := fun _ _ _ => check_star_args _ _ _ _ _ _
  have last : Q .none ⟨(h.push { cls := .type "tuple", data := .seq as.toArray }).update x (Obj.mapFields (·.setIfInBounds 0 (.ref h.objs.size))), g, d, t, os⟩ := k _ (fun b o ne e => by rw [Heap.get?_update_other _ _ (Ne.symm ne)]; exact Heap.get?_push_of_some _ e) (Heap.get?_update_self _ hx2 rfl)
  have notStar := F.star
  apply wpAny_call; apply codeAny_call_builtin F.slot.plain F.entry
  simp only [F.kind, F.split, F.row, checkBuiltinCall]
  apply wpAny_bind; apply isB.here (s := ⟨h, g, d, t, os⟩)
  rw [show (!true) = false from rfl, if_neg Bool.false_ne_true]
  repeat (first | apply wpAny_onRaise | (rw [anyArgs]; apply wpAny_pure) | (apply wpAny_bind; apply lc.here (s := ⟨h, g, d, t, os⟩)) | wp_step)
  rw [v0]
  apply wpAny_pure; apply wpAny_bind
  apply wpAny_setField hx2 rfl pos
  dsimp only
  repeat (first | exact last | wp_step)
end
end Ex
end

section
set_option Elab.async false
set_option linter.all false
set_option maxRecDepth 100000
set_option maxHeartbeats 5000000
namespace Ex
open PySem PySem.Spec PyProof.Rows PySem.W PySem.Calls

/-! ## tracebacks: what an exception leaves behind in each frame that it passes -/
/-- e has no entry yet, or the entry at T, whose mark of flight is m -/
def Fly (h : Heap) (e : Addr) (m : Value) : Option Addr → Prop
  | none => ∃ oe vs, h.get? e = some oe ∧ oe.data = .fields vs ∧ vs[1]? = some .none
  | some T => ∃ oe vs oT ts, h.get? e = some oe ∧ oe.data = .fields vs ∧ vs[1]? = some (.ref T) ∧ T ≠ e ∧ h.get? T = some oT ∧ oT.data = .fields ts ∧ ts[3]? = some m
/-- what such a step leaves of the heap; fr: the frames, tb: the entry that was there -/
structure Step (fr : List Addr) (e : Addr) (tb : Option Addr) (h h' : Heap) : Prop where
  keep : ∀ b o, h.get? b = some o → b ≠ e → tb ≠ some b → b ∉ fr → h'.get? b = some o
  slot : ∀ b o, h.get? b = some o → b ≠ e → tb ≠ some b → ∃ sl, h'.get? b = some { o with slots := sl }
  exc : ∀ oe vs, h.get? e = some oe → oe.data = .fields vs → ∃ vs' : Array Value, h'.get? e = some { oe with data := .fields vs' } ∧ vs'[0]? = vs[0]? ∧ vs'.size = vs.size
  there : ∀ b o, h.get? b = some o → ∃ o', h'.get? b = some o'
theorem mapF {o : Obj} {vs : Array Value} (hd : o.data = .fields vs) (f : Array Value → Array Value) : o.mapFields f = { o with data := .fields (f vs) } := by
  cases o with
  | mk c d dt sl => cases hd; rfl
/-- a record after one of its fields was set -/
theorem set_rec {h : Heap} {a : Addr} {o : Obj} {vs : Array Value} (e : h.get? a = some o) (hd : o.data = .fields vs) (i : Nat) (v : Value) :
    (h.update a (Obj.mapFields (·.setIfInBounds i v))).get? a = some { o with data := .fields (vs.setIfInBounds i v) } := by
  rw [← mapF hd (·.setIfInBounds i v)]
  exact Heap.get?_update_self _ e (Obj.isFreed_of_fields (Obj.data_mapFields hd _))

section
variable {M : Model} {A : Around} {E : Value → Shared → Prop} {s : Shared} {env : Env} {outer : List Env} {base : Heap} {L e : Addr}
/-- a new entry is laid and hung at e -/
theorem lay_entry {oe : Obj} {vs : Array Value} {hd0 : Value} {more : Bool} {Q : Unit → Shared → Prop} (fr : A.frames = some (env :: outer)) (ff : s.heap.FunFrames base (env :: outer)) (at_ : env.frame = some L) (he : s.heap.get? e = some oe) (hd : oe.data = .fields vs) (two : 1 < vs.size)
    (k : ∀ h' T, Step (L2.frs (env :: outer)) e none s.heap h' → s.heap.objs.size ≤ T → Fly h' e (rawInt L) (some T) → Q () { s with heap := h' }) :
    wpAny M A (do let fo ← frameOf env; let pl ← entryPlaceOf L more; let en ← EntryCells.newEntry hd0 fo .none (rawInt L) .none pl; setField (.ref e) 1 en) Q E s := by
  have eNo : e ∉ L2.frs (env :: outer) := fun m => let ⟨_, o, ho, no⟩ := ff.mem m; no vs (by rw [he] at ho; cases ho; exact hd)
  apply wpAny_bind; apply wpAny_frameOf_fun fr ff at_
  rintro h1 ⟨sz, same, sl1⟩
  apply wpAny_bind; apply wpAny_entryPlaceOf; intro pl isPl
  delta EntryCells.newEntry newFields
  apply wpAny_bind; apply wpAny_newObj_type _ (isPl.sizeOk5 _ _ _ _ _)
  generalize eN : ({ cls := .type "traceback", dict := none, data := .fields ([hd0, .ref L, .none, rawInt L, .none] ++ (if pl.isEmpty then List.replicate 6 Value.none else pl)).toArray } : Obj) = en
  have e1 : h1.get? e = some oe := (same e eNo).trans he
  have ne : h1.objs.size ≠ e := fun z => absurd (Heap.lt_size e1) (by rw [z]; exact Nat.lt_irrefl _)
  have e2 := set_rec (Heap.get?_push_of_some en e1) hd 1 (.ref h1.objs.size)
  have oth : ∀ b o, b ≠ e → h1.get? b = some o → ((h1.push en).update e (Obj.mapFields (·.setIfInBounds 1 (.ref h1.objs.size)))).get? b = some o := fun b o nb z => by
    rw [Heap.get?_update_other _ _ (Ne.symm nb)]; exact Heap.get?_push_of_some en z
  have tbAt : ((h1.push en).update e (Obj.mapFields (·.setIfInBounds 1 (.ref h1.objs.size)))).get? h1.objs.size = some en := by
    rw [Heap.get?_update_other _ _ (Ne.symm ne)]; exact Heap.get?_push_size h1 (by rw [← eN]; rfl)
  apply wpAny_setField (Heap.get?_push_of_some en e1) hd two
  apply k _ h1.objs.size
  · constructor
    · exact fun b o z nb _ nf => oth b o nb ((same b nf).trans z)
    · intro b o z nb _
      obtain ⟨sl, z'⟩ := sl1 b o z
      exact ⟨sl, oth b _ nb z'⟩
    · intro oe' vs' z zd
      cases he.symm.trans z
      cases hd.symm.trans zd
      exact ⟨_, e2, Array.getElem?_setIfInBounds_ne (by decide), Array.size_setIfInBounds⟩
    · intro b o z
      by_cases nb : b = e
      · rw [nb]; exact ⟨_, e2⟩
      · obtain ⟨sl, z'⟩ := sl1 b o z
        exact ⟨_, oth b _ nb z'⟩
  · rw [sz]; exact Nat.le_refl _
  · refine ⟨_, _, _, _, e2, rfl, by simp [two], ne, tbAt, by rw [← eN], ?_⟩
    rcases isPl with z | ⟨_, _, _, _, _, _, _, z⟩ <;> subst z <;> rfl

/-- noteFrame: the exception passes the frame of env -/
theorem note_fly {tb : Option Addr} {Q : Unit → Shared → Prop} (fr : A.frames = some (env :: outer)) (ff : s.heap.FunFrames base (env :: outer)) (at_ : env.frame = some L) (F : Fly s.heap e .none tb) (two : ∀ oe vs, s.heap.get? e = some oe → oe.data = .fields vs → 1 < vs.size)
    (k : ∀ h' T, Step (L2.frs (env :: outer)) e tb s.heap h' → s.heap.objs.size ≤ T → Fly h' e (rawInt L) (some T) → Q () { s with heap := h' }) : wpAny M A (noteFrame (.ref e) env) Q E s := by
  unfold noteFrame
  rw [at_]
  dsimp only
  cases tb with
  | none =>
    obtain ⟨oe, vs, he, hd, v1⟩ := F
    apply wpAny_bind; apply wpAny_field he hd v1
    rw [if_neg (show ¬ ((Value.none != Value.none) = true) by decide)]
    exact lay_entry fr ff at_ he hd (two _ _ he hd) k
  | some T =>
    obtain ⟨oe, vs, oT, ts, he, hd, v1, nT, hT, hdT, t3⟩ := F
    have oth : ∀ b, b ≠ T → (s.heap.update T (Obj.mapFields (·.setIfInBounds 3 .none))).get? b = s.heap.get? b := fun b z => Heap.get?_update_other _ _ (Ne.symm z)
    have noT : ∀ b o, s.heap.get? b = some o → (∀ vs, o.data ≠ .fields vs) → b ≠ T := fun b o z no q => by subst q; cases hT.symm.trans z; exact no ts hdT
    apply wpAny_bind; apply wpAny_field he hd v1
    rw [if_pos (show (Value.ref T != Value.none) = true by rfl)]
    apply wpAny_bind; apply wpAny_field hT hdT t3
    rw [if_neg (show ¬ ((Value.none == rawInt L) = true) by intro z; cases beq_iff_eq.mp z)]
    apply wpAny_bind; apply wpAny_setField hT hdT (Array.getElem?_eq_some_iff.mp t3).1
    apply lay_entry (s := { s with heap := s.heap.update T (Obj.mapFields (·.setIfInBounds 3 .none)) }) fr (ff.of_keeps fun b o z no => ⟨o, (oth b (noT b o z no)).trans z, rfl⟩) at_ ((oth e (Ne.symm nT)).trans he) hd (two _ _ he hd)
    intro h' T' S le F'
    apply k h' T' _ (by rw [Heap.size_after_update] at le; exact le) F'
    have via : ∀ b, some T ≠ some b → b ≠ T := fun b z q => z (by rw [q])
    constructor
    · exact fun b o z nb nt nf => S.keep b o ((oth b (via b nt)).trans z) nb (by intro q; cases q) nf
    · exact fun b o z nb nt => S.slot b o ((oth b (via b nt)).trans z) nb (by intro q; cases q)
    · exact fun oe' vs' z zd => S.exc oe' vs' ((oth e (Ne.symm nT)).trans z) zd
    · intro b o z
      by_cases q : b = T
      · rw [q]; exact S.there T _ (set_rec hT hdT 3 .none)
      · exact S.there b o ((oth b q).trans z)
/-- setFlight: it lands -/
theorem land_fly {T : Addr} {m : Value} {Q : Unit → Shared → Prop} (F : Fly s.heap e m (some T))
    (k : ∀ h', (∀ b, b ≠ T → h'.get? b = s.heap.get? b) → Fly h' e .none (some T) → Q () { s with heap := h' }) : wpAny M A (setFlight (.ref e) none) Q E s := by
  obtain ⟨oe, vs, oT, ts, he, hd, v1, nT, hT, hdT, t3⟩ := F
  have l3 : 3 < ts.size := (Array.getElem?_eq_some_iff.mp t3).1
  have oth : ∀ b, b ≠ T → (s.heap.update T (Obj.mapFields (·.setIfInBounds 3 .none))).get? b = s.heap.get? b := fun b z => Heap.get?_update_other _ _ (Ne.symm z)
  unfold setFlight
  apply wpAny_bind; apply wpAny_field he hd v1
  rw [if_pos (show (Value.ref T != Value.none) = true by rfl)]
  apply wpAny_setField hT hdT l3
  exact k _ oth ⟨oe, vs, _, _, (oth e (Ne.symm nT)).trans he, hd, v1, nT, set_rec hT hdT 3 .none, rfl, by simp [l3]⟩
end
end Ex
end

section
set_option Elab.async false
set_option linter.all false
set_option maxRecDepth 100000
set_option maxHeartbeats 5000000
namespace L2
open PySem PySem.Spec PyProof.Rows Ex

/-! ## exceptions on the abstract heap -/
def ExO (C e : Addr) (dd : Option Addr) (fr : Bool) : HO := .ext fun h => ∃ oe vs t0, h.get? e = some oe ∧ oe.cls = .ref C ∧ oe.dict = dd ∧ oe.data = .fields vs ∧ vs[0]? = some (.ref t0) ∧ 1 < vs.size ∧ (fr = true → vs[1]? = some .none)
def ExD (d : Addr) (fs : List (Str × V)) : HO := .ext fun h => ∃ mA, h.Ns1 d mA ∧ (∀ f, RelO (fs.lookup f) (mA f)) ∧ PySem.Within mA (fs.map (·.1))

section
variable {P : Program} {w : World} {H : Hp} {h : Heap} {e C d : Addr} {dd : Option Addr} {fr : Bool} {fs : List (Str × V)}
theorem exo_mk {oe : Obj} {vs : Array Value} {t0 : Addr} (he : h.get? e = some oe) (hc : oe.cls = .ref C) (hdd : oe.dict = dd) (hd : oe.data = .fields vs) (h0 : vs[0]? = some (.ref t0)) (hs : 1 < vs.size) (hf : fr = true → vs[1]? = some .none) :
    ObjOk P w H h e (ExO C e dd fr) :=
  ⟨⟨oe, vs, t0, he, hc, hdd, hd, h0, hs, hf⟩, ⟨oe, he⟩, fun _ _ ⟨oe, vs, t0, he, r⟩ k => ⟨oe, vs, t0, k _ he, r⟩⟩
theorem exo_get (ok : HOk P w H h) (q : H e = some (ExO C e dd fr)) : ∃ oe vs t0, h.get? e = some oe ∧ oe.cls = .ref C ∧ oe.dict = dd ∧ oe.data = .fields vs ∧ vs[0]? = some (.ref t0) ∧ 1 < vs.size ∧ (fr = true → vs[1]? = some .none) := (ok _ _ q).1
theorem exd_get (ok : HOk P w H h) (q : H d = some (ExD d fs)) : ∃ mA, h.Ns1 d mA ∧ (∀ f, RelO (fs.lookup f) (mA f)) ∧ PySem.Within mA (fs.map (·.1)) := (ok _ _ q).1
end

/-- an exception that flies through the code of X -/
structure Thr (X : Cx) (pins : List (Addr × Obj)) (H : Hp) (s : Shared) (e C : Addr) : Prop where
  ex : ∃ dd, H e = some (ExO C e dd false)
  lo : X.s₀.heap.objs.size ≤ e
  tr : ∃ tb, Fly s.heap e .none tb ∧ ∀ T, tb = some T → H T = none ∧ X.s₀.heap.objs.size ≤ T ∧ ∀ p ∈ X.pn ++ pins, p.1 ≠ T
abbrev XKS := St → XK
/-- what is wanted of exceptions there -/
def XOk (X : Cx) (EE : XKS) : Prop := ∀ (pins : List (Addr × Obj)) (σ : St) (H : Hp) (s : Shared) (e C : Addr), Inv X pins σ H s → Thr X pins H s e C → EE σ (.ref C) (some e) H → X.xe (.ref e) s
/-- an exception behind a call -/
def CXe (P : Program) (w : World) : CXT := fun outer H s E ev s' => ∃ e C H', ev = .ref e ∧ s'.os = s.os ∧ AllBare s'.gens ∧ Un (frs outer) [] H H' s.heap s'.heap ∧ HOk P w H' s'.heap ∧
  (∃ dd, H' e = some (ExO C e dd false)) ∧ s.heap.objs.size ≤ e ∧ (∃ tb, Fly s'.heap e .none tb ∧ ∀ T, tb = some T → H' T = none ∧ s.heap.objs.size ≤ T) ∧ E (.ref C) (some e) H'

/-- from a callee into the body that called -/
theorem pass_of {X : Cx} {EE : XKS} (hX : XOk X EE) {pins : List (Addr × Obj)} {σ : St} {H : Hp} {s s' : Shared} {ev : Value} (I : Inv X pins σ H s) (h : CXe X.prog X.w X.stack H s (EE σ) ev s') : X.xe ev s' := by
  obtain ⟨e, C, H', rfl, os, bare, un, hok, ex, lo, ⟨tb, F, hT⟩, q⟩ := h
  have I' : Inv X pins σ H' s' := I.call' (ch := []) os un hok bare fun b z => absurd z (by simp)
  refine hX pins σ H' s' e C I' ⟨ex, Nat.le_trans I.sz lo, tb, F, fun T z => ⟨(hT T z).1, Nat.le_trans I.sz (hT T z).2, fun p hp => ?_⟩⟩ q
  have lt := Heap.lt_size (I.pin p hp).1
  have := (hT T z).2
  exact Nat.ne_of_lt (Nat.lt_of_lt_of_le lt this)

section
variable {P : Program} {w : World} {K : PySem.W.Frag} {mg : Str → Option Value} {base : Heap} {N : List Str} {qual : Str} {scope : Scope} {f : Addr} {cd : Value} {A : Around} {outer : List Env} {s : Shared} {H : Hp} {E : XK}
/-- an exception leaves a def -/
theorem xok_fn : XOk (cxOf (CXe P w) P w K mg base N qual scope f cd A outer s H E) (fun _ => E) := by
  intro pins σ H1 s1 e C I T q
  obtain ⟨⟨dd, ex⟩, lo, tb, F, hT⟩ := T
  show wpAny (model P w) (A.deeper (envOfC qual scope s.heap.objs.size f cd)) (leaving (envOfC qual scope s.heap.objs.size f cd) (.ref e)) (fun _ s'' => CXe P w outer H s E (.ref e) s'') (fun e' s'' => CXe P w outer H s E e' s'') s1
  have hfr : (A.deeper (envOfC qual scope s.heap.objs.size f cd)).frames = some (envOfC qual scope s.heap.objs.size f cd :: outer) := I.ok.frames
  have hl : s1.heap.FunFrames base (envOfC qual scope s.heap.objs.size f cd :: outer) := I.stack
  obtain ⟨oe, vs, t0, he, hc, hdd, hd, h0, hsz, _⟩ := exo_get I.hok ex
  have s0 : ∀ b o, s.heap.get? b = some o → b ≠ e ∧ tb ≠ some b ∧ b ≠ s.heap.objs.size := fun b o z => by
    have lt := Heap.lt_size z
    refine ⟨Nat.ne_of_lt (Nat.lt_of_lt_of_le lt lo), fun y => ?_, Nat.ne_of_lt lt⟩
    exact Nat.lt_irrefl _ (Nat.lt_of_lt_of_le lt (hT b y).2.1)
  unfold leaving
  refine wpAny_bind (note_fly (L := s.heap.objs.size) hfr hl rfl F (fun oe' vs' a b => by rw [he] at a; cases a; rw [hd] at b; cases b; exact hsz) fun h' T' S hle FF => ?_)
  refine land_fly (s := { s1 with heap := h' }) FF fun h'' oth F2 => ?_
  have szs : s.heap.objs.size ≤ s1.heap.objs.size := I.sz
  have hT' : ∀ b o, s1.heap.get? b = some o → b ≠ T' := fun b o z => Nat.ne_of_lt (Nat.lt_of_lt_of_le (Heap.lt_size z) hle)
  have fresh : H1 T' = none := I.hok.fresh hle
  have keep : ∀ b o, s1.heap.get? b = some o → b ≠ e → tb ≠ some b → b ∉ frs (envOfC qual scope s.heap.objs.size f cd :: outer) → h''.get? b = some o := fun b o z a1 a2 a3 => (oth b (hT' b o z)).trans (S.keep b o z a1 a2 a3)
  have frsub : ∀ b, b ∈ frs (envOfC qual scope s.heap.objs.size f cd :: outer) → b = s.heap.objs.size ∨ b ∈ frs outer := fun b hb => by
    unfold frs at hb ⊢
    rw [List.filterMap_cons] at hb
    rcases List.mem_cons.mp hb with z | z
    · exact .inl z
    · exact .inr z
  have tracked : ∀ b u, H1 b = some u → b ∉ frs (envOfC qual scope s.heap.objs.size f cd :: outer) := fun b u z hb => by
    have n : H1 b = none := I.stkFree b hb
    rw [z] at n
    cases n
  refine ⟨e, C, H1, rfl, I.os, I.bare, ⟨fun b o z n hb hx => ?_, fun b o z n hb hx => ?_, I.base.free, fun b o z hx => ?_, I.base.tups, I.base.frzs, I.base.tbls⟩, fun b u z => ?_, ⟨dd, ex⟩, lo, ⟨some T', F2, fun T z => ?_⟩, q⟩
  · obtain ⟨a1, a2, a3⟩ := s0 b o z
    exact keep b o (I.base.keep b o z n hb hx) a1 a2 fun y => (frsub b y).elim a3 hb
  · obtain ⟨a1, a2, a3⟩ := s0 b o z
    obtain ⟨sl, e1⟩ := I.base.slot b o z n hb hx
    obtain ⟨sl2, e2⟩ := S.slot b _ e1 a1 a2
    exact ⟨sl2, (oth b (hT' b _ e1)).trans e2⟩
  · obtain ⟨o', e1⟩ := I.base.there b o z hx
    obtain ⟨o2, e2⟩ := S.there b o' e1
    exact ⟨o2, (oth b (hT' b _ e1)).trans e2⟩
  · by_cases hb : b = e
    · subst hb
      rw [ex] at z
      cases z
      obtain ⟨vs', e1, e2, e3⟩ := S.exc oe vs he hd
      exact exo_mk ((oth b (hT' b _ he)).trans e1) hc hdd rfl (by rw [e2]; exact h0) (by rw [e3]; exact hsz) fun z => nomatch z
    · refine (I.hok b u z).stay (fun c v hcv r => ?_) (fun _ r => r) fun _ _ r => r
      have ne : c ≠ e := by
        rcases hcv with rfl | hcv
        · exact hb
        · exact ne_of hcv ex (by intro y; cases y)
      have tr : ∃ u', H1 c = some u' := by
        rcases hcv with rfl | hcv
        · exact ⟨_, z⟩
        · exact ⟨_, hcv⟩
      obtain ⟨u', hu'⟩ := tr
      exact keep c v r ne (fun y => by have := (hT c y).1; rw [hu'] at this; cases this) (tracked c u' hu')
  · cases z
    exact ⟨fresh, Nat.le_trans szs hle⟩
end
end L2
end

section
set_option Elab.async false
set_option linter.all false
set_option maxRecDepth 100000
set_option maxHeartbeats 5000000
namespace Ex
open PySem PySem.Spec PyProof.Rows PySem.W PySem.Calls Builtin Builtin.ObjectAttr
/-- an exception that can be raised: its object, without a traceback, its class -/
def CanRaise (K : Frag) (h : Heap) (e : Addr) : Prop := ∃ oe vs C oC, h.get? e = some oe ∧ oe.cls = .ref C ∧ mroIn K C (.type "BaseException") = some true ∧ K.lookup C = some oC ∧ oC.cls = .type "type" ∧ oe.data = .fields vs ∧ vs[1]? = some .none
theorem raise_x {M : Model} {A : Around} {E : Value → Shared → Prop} {s : Shared} {env : Env} {K : Frag} {x : Sem Value} {Q : Flow → Shared → Prop} (calm : A.handled = none)
    (k : wpAny M A x (fun v s' => ∃ e, v = .ref e ∧ K.In s'.heap ∧ CanRaise K s'.heap e ∧ E v s') E s) : wpAny M A (raiseStmt env (some x) none) Q E s := by
  delta raiseStmt
  apply wpAny_bind; apply wpAny_mono k _ fun _ _ z => z
  rintro v ⟨h, g, d, t, os⟩ ⟨e, rfl, X, ⟨⟨c1, c2, c3, c4⟩, vs, C, ⟨d1, d2, d3, d4⟩, he, hc, sub, hC, ht, hd, v1⟩, last⟩
  dsimp only at X he hc hd ht
  subst hc hd ht
  have LS := looks_mroIn (M := M) X sub
  have hC' := X _ _ hC
  repeat (first | (with_reducible apply wpAny_loadPart_at hC') | (with_reducible apply wpAny_loadPart_at he) | (with_reducible apply LS.here (s := ⟨h, g, d, t, os⟩)) | rw [v1] | wp_step)
  exact wpAny_raiseNew_none calm last
end Ex
end

section
set_option Elab.async false
set_option linter.all false
set_option maxRecDepth 100000
set_option maxHeartbeats 5000000
namespace L2
open PySem PySem.Spec PyProof.Rows Ex

/-! ## attributes of exceptions -/

section
variable {X : Cx} {o e value : Expr} {f : Str} {pos pos' tpos : Pos} {ta tv : TE}
theorem exc_inst {K : PySem.W.Frag} {P : Program} {w : World} {H : Hp} {h : Heap} {a C : Addr} {dd : Option Addr} {fr : Bool} (ok : HOk P w H h) (q : H a = some (ExO C a dd fr)) (hdd : ∀ d, dd = some d → ∃ o, h.get? d = some o) :
    ∃ ox od, PySem.W.InstAt h a ox C od ∧ ox.dict = dd ∧ (∀ d, dd = some d → ∃ o, od = some o ∧ h.get? d = some o) := by
  obtain ⟨oe, vs, t0, he, hc, hd, hda, _⟩ := exo_get ok q
  have hn : PySem.W.notCls oe = true := by unfold PySem.W.notCls; rw [hda]
  cases dd with
  | none => exact ⟨oe, none, ⟨he, hc, hn, by rw [hd]; trivial⟩, hd, fun d z => nomatch z⟩
  | some d =>
    obtain ⟨o, ho⟩ := hdd d rfl
    exact ⟨oe, some o, ⟨he, hc, hn, by rw [hd]; exact ho⟩, hd, fun d' z => by cases z; exact ⟨o, rfl, ho⟩⟩
end
end L2
end

section
set_option Elab.async false
set_option linter.all false
set_option maxRecDepth 100000
set_option maxHeartbeats 5000000
namespace L2
open PySem PySem.Spec PyProof.Rows Ex

/-! ## an exception is made -/
/-- a new exception of the class at C lies at e -/
structure RawAt (h h' : Heap) (e C : Addr) : Prop where
  keeps : ∀ c u, h.get? c = some u → h'.get? c = some u
  le : h.objs.size ≤ e
  obj : ∃ t0, h'.get? e = some { cls := .ref C, data := .fields #[.ref t0, .none, .none, .none, .bool false, .none] }
/-- C(rest) of one without -/
def XMk0 (K : PySem.W.Frag) (C : Addr) : Prop := ∀ (prog : Program) (w : World) (A : Around) (E : Value → Shared → Prop) (s : Shared) (rest : List Value) (Q : Value → Shared → Prop), K.In s.heap → rest.length ≤ sizeLine →
  (∀ h' e, RawAt s.heap h' e C → Q (.ref e) { s with heap := h' }) → wpAny (model prog w) A (call (.ref C) rest) Q E s
structure XK0 (K : PySem.W.Frag) (C : Addr) : Prop where
  xc : XC K C
  mt : ∃ oC, K.lookup C = some oC ∧ oC.cls = .type "type"
  kp : PySem.W.keepIn K (.ref C) = true

section
variable {X : Cx} {k : Nat} {fI C : Addr} {fd : FuncData} {ps : List Str} {sp : Sp} {dvs : List V} {ds : List Value} {x : Str} {p pos cpos apos : Pos} {e : Expr} {es : List Expr} {t : TA} {EE : XKS}

theorem Inv.exc {pins : List (Addr × Obj)} {σ : St} {H : Hp} {s : Shared} {h' : Heap} {a : Addr} (I : Inv X pins σ H s) (m : RawAt s.heap h' a C) (fr : Bool) :
    Inv X pins σ (upd H a (ExO C a none fr)) { s with heap := h' } := by
  obtain ⟨t0, he⟩ := m.obj
  exact I.laid (a := a) (o := ExO C a none fr) (t' := s.toks) m.keeps m.le (exo_mk he rfl rfl rfl rfl (by simp) fun _ => rfl)


/-- an exception that was just made is thrown -/
theorem throw_new {pins : List (Addr × Obj)} {σ : St} {H : Hp} {s : Shared} {a : Addr} {dd : Option Addr} (hX : XOk X EE) (I : Inv X pins σ H s) (hle : X.s₀.heap.objs.size ≤ a) (ea : H a = some (ExO C a dd true)) (q : EE σ (.ref C) (some a) (upd H a (ExO C a dd false))) : X.xe (.ref a) s := by
  obtain ⟨oe, vs, t0, he, hc, hd, hda, h0, hsz, hfr⟩ := exo_get I.hok ea
  have I' : Inv X pins σ (upd H a (ExO C a dd false)) s := I.write (x := a) (e := a) (t' := s.toks) (h' := s.heap) (by rw [ea]; exact True.intro) (.inl rfl) (fun b u _ z => z) ⟨_, he⟩ (exo_mk he hc hd hda h0 hsz fun z => nomatch z)
  exact hX pins σ _ s a C I' ⟨⟨dd, upd_same⟩, hle, none, ⟨oe, vs, he, hda, hfr rfl⟩, fun T z => nomatch z⟩ q

def tRaise0 (C : Addr) (EE : XKS) (t : TA) : TS := fun _ σ H => t σ H fun vs H1 => vs.length ≤ 1000 ∧ ∀ a, H1 a = none → EE σ (.ref C) (some a) (upd H1 a (ExO C a none false))

theorem raise_at {Q : Flow → Shared → Prop} {s : Shared} {xe : Expr} {pos : Pos} (hh : X.A.handled = none)
    (h : wpAny (model X.prog X.w) X.A (eval xe X.env) (fun v s₁ => ∃ e, v = .ref e ∧ X.K.In s₁.heap ∧ CanRaise X.K s₁.heap e ∧ X.xe v s₁) X.xe s) :
    wpAny (model X.prog X.w) X.A (exec (.Raise (some xe) none pos) X.env) Q X.xe s := by
  rw [arm_exec_Raise]
  first
    | exact wpAny_bind (wpAny_standAt (raise_x hh (wpAny_bind (wpAny_mono h (fun v s₁ h₁ => wpAny_bind (wpAny_standAt (wpAny_pure h₁))) fun _ _ x => x))))
    | (simp only [evalOpt, Option.map]; exact wpAny_bind (wpAny_standAt (raise_x hh (wpAny_bind (wpAny_mono h (fun v s₁ h₁ => wpAny_bind (wpAny_standAt (wpAny_pure h₁))) fun _ _ x => x)))))
    | (show wpAny _ _ (do standAt pos; raiseStmt X.env (some (do let v ← eval xe X.env; standAt pos; pure v)) none) Q X.xe s; exact wpAny_bind (wpAny_standAt (raise_x hh (wpAny_bind (wpAny_mono h (fun v s₁ h₁ => wpAny_bind (wpAny_standAt (wpAny_pure h₁))) fun _ _ x => x)))))

theorem ps_raise0 (hX : XOk X EE) (hc : X.calm = true) (M : XMk0 X.K C) (Z : XK0 X.K C) (hg : Gl X x) (hm : X.mg x = some (.ref C))
    (ha : PA X (e :: es) t) (hdb : (x == ("__debug__" : Str)) = false := by decide) (he : starEach (e :: es) X.env = (false, eval e X.env) :: starEach es X.env := by rfl) (hpl : (backTo cpos (starEach es X.env)).any (·.1) = false := by rfl) :
    PS X (.Raise (some (.Call (.Name x p) (e :: es) [] cpos)) none pos) (tRaise0 C EE t) := by
  intro pins s σ H D I h
  refine raise_at (I.ok.hd hc) (wpAny_Call_Name_kw (ld_glob I hg hm ?_ hdb))
  refine PySem.W.callWith_K (h₀ := X.base) I.ok.mod.kin Z.kp (thn (ha cpos pins s σ H _ I h) fun us s1 ⟨vs, H1, I1, r, hlen, q⟩ => ⟨I1.kIn, ?_⟩) he hpl
  refine M X.prog X.w X.A X.xe s1 us _ I1.kIn (by rw [← r.length, sizeLine_eq]; omega) fun h' a m => ?_
  have I2 := I1.exc m true
  obtain ⟨t0, h1⟩ := m.obj
  obtain ⟨oC, m1, m2⟩ := Z.mt
  refine ⟨a, rfl, I2.kIn, ⟨_, _, C, oC, h1, rfl, Z.xc.be, m1, m2, rfl, rfl⟩, throw_new (dd := none) hX I2 (Nat.le_trans I1.sz m.le) upd_same ?_⟩
  rw [upd_upd]
  exact q a (I1.hok.fresh m.le)
end
end L2
end

section
set_option Elab.async false
set_option linter.all false
set_option maxRecDepth 100000
set_option maxHeartbeats 5000000
namespace L2
open PySem PySem.Spec PyProof.Rows Ex

/-! ## own exception classes, read off the text's own objects -/
/-- an own exception class at C: up the built-in classes above its own ones, nw the __new__ that it has -/
def exCls (K : PySem.W.Frag) (C : Addr) (up : List Value) (nw : String) : Bool := (K.lookup C).any fun o => o.cls == .type "type" && o.slots.size == 6 && o.slots.toList[4]? == some (some (.builtin nw)) &&
  match o.data with
  | .cls cd => cd.mro.head? == some (.ref C) && !cd.hasDel && cd.hasDict && PySem.W.tailIn K up cd.mro.tail && PySem.W.nsOkIn K cd.ns
  | _ => false
theorem six_slots {l : List (Option Value)} {v : Option Value} (h : l.length = 6) (q : l[4]? = some v) : ∃ a b c d e, l = [a, b, c, d, v, e] := by
  match l, h with
  | [a, b, c, d, x, e], _ =>
    cases q
    exact ⟨a, b, c, d, e, rfl⟩
/-- its object and class, in the form that the rules for built-in bases take -/
theorem exCls_at {K : PySem.W.Frag} {C : Addr} {up : List Value} {nw : String} (q : exCls K C up nw = true) :
    ∃ tl N nm qn bs sn sub ab col dd j0 j1 j2 j3 j5, K.lookup C = some (excClassObj nm qn C N bs tl true sn sub ab col dd j0 j1 j2 j3 j5 nw) ∧ PySem.W.tailIn K up tl = true ∧ PySem.W.nsOkIn K N = true := by
  unfold exCls at q
  cases z : K.lookup C with
  | none => rw [z] at q; cases q
  | some o =>
    rw [z] at q
    cases o with
    | mk oc od oda osl =>
      simp only [Option.any_some, Bool.and_eq_true, beq_iff_eq] at q
      obtain ⟨⟨⟨rfl, sz⟩, s4⟩, q⟩ := q
      cases oda with
      | cls cd =>
        cases cd with
        | mk nm bs mro N qn hasD sn sub ab col del =>
          simp only [Bool.not_eq_true', Bool.and_eq_true, beq_iff_eq] at q
          obtain ⟨⟨⟨⟨hm, rfl⟩, rfl⟩, ht⟩, hn⟩ := q
          cases mro with
          | nil => cases hm
          | cons a tl =>
            cases hm
            obtain ⟨l⟩ := osl
            obtain ⟨a, b, c, d, e, rfl⟩ := six_slots (by simpa using sz) (by simpa using s4)
            exact ⟨tl, N, nm, qn, bs, sn, sub, ab, col, od, a, b, c, d, e, rfl, ht, hn⟩
      | _ => cases q
section
variable {K : PySem.W.Frag} {C fI : Addr} {B D nw iniD ini : String} {un up : List Value}
theorem xmk0_of (fn : ExcBaseFacts D nw iniD un) (hD : up.contains (.type D) = true) (F : XB B ini up) (q : exCls K C up nw = true) (c : XC K C) (sub : PySem.W.mroIn K C (.type B) = some true) (at_ : PySem.W.findIn K (.ref C) "__init__" = some (some (.builtin ini))) : XMk0 K C := by
  rintro prog w A E ⟨h, g, d, t, os⟩ as Q X few k
  obtain ⟨tl, N, nm, qn, bs, sn, sub', ab, col, dd, j0, j1, j2, j3, j5, hC, ht, hn⟩ := exCls_at q
  apply call_own fn hD F (PySem.W.tail_of_in X ht) X (X _ _ hC) at_ (PySem.W.Looks.of_pure (F.slot.bind _)) few
  have X' : K.In (rawExc h C as) := X.keeps rawExc_keeps
  apply xinit (s := ⟨rawExc h C as, g, d, t, os⟩) F X' (od := none) ⟨rawExc_at, rfl, rfl, trivial⟩ c sub rfl rfl few
  intro h' kp hx
  refine ⟨rfl, k h' _ ⟨fun b o e => kp b o ?_ (rawExc_keeps b o e), Nat.le_succ _, _, hx⟩⟩
  exact Nat.ne_of_lt (Nat.lt_succ_of_lt (Heap.lt_size e))
/-- a store in an exception is refused by none of the classes above -/
theorem stores {self : Value} (ok : refuseLoop self "__setattr__" up = pure ()) : ∀ {l : List Value}, PySem.W.tailIn K up l = true → refuseLoop self "__setattr__" l = pure ()
  | [], e => by
    have z : up = [] := beq_iff_eq.mp e
    rw [← z]; exact ok
  | v :: r, e => by
    unfold PySem.W.tailIn at e
    cases z : ((v :: r) == up) with
    | true => rw [beq_iff_eq.mp z]; exact ok
    | false =>
      rw [z, Bool.false_or] at e
      cases v with
      | ref a =>
        dsimp only at e
        split at e
        · rw [Bool.and_eq_true] at e
          rw [refuseLoop_ref]
          exact stores ok e.2
        · cases e
      | _ => cases e
theorem xk0_of (ok : ∀ self, refuseLoop self "__setattr__" up = pure ()) (q : exCls K C up nw = true)
    (ga : PySem.W.findIn K (.ref C) "__getattribute__" = some (some (.builtin "BaseException.__getattribute__"))) (gt : PySem.W.findIn K (.ref C) "__getattr__" = some none) (sa : PySem.W.findIn K (.ref C) "__setattr__" = some (some (.builtin "object.__setattr__")))
    (be : PySem.W.mroIn K C (.type "BaseException") = some true) (ob : PySem.W.mroIn K C (.type "object") = some true) (ca : PySem.W.findIn K (.ref C) "__class__" = some (some (.builtin "object.__class__")))
    (cg : PySem.W.specialIn K (.builtin "object.__class__") "__get__" = some (some (.builtin "getset_descriptor.__get__"))) (ct : PySem.W.takesIn K (.builtin "object.__class__") = some true) (kc : PySem.W.kitCls K (.ref C) (.ref C) = some true) (kp : PySem.W.keepIn K (.ref C) = true) : XK0 K C := by
  obtain ⟨tl, N, nm, qn, bs, sn, sub, ab, col, dd, j0, j1, j2, j3, j5, hC, ht, hn⟩ := exCls_at q
  exact ⟨⟨ga, gt, sa, be, ob, ⟨_, by unfold PySem.W.clsIn; rw [hC], rfl, fun self => by rw [refuseLoop_ref]; exact stores (ok self) ht⟩, ca, cg, ct, kc⟩, ⟨_, hC, rfl⟩, kp⟩
end
end L2
end

section
set_option Elab.async false
set_option linter.all false
set_option maxRecDepth 100000
set_option maxHeartbeats 5000000
namespace L2
open PySem PySem.Spec PyProof.Rows Ex

/-! ## isinstance -/
def ExAt (H : Hp) (a C : Addr) : Prop := ∃ fr, H a = some (ExO C a none fr) ∨ ∃ d fs, H a = some (ExO C a (some d) fr) ∧ H d = some (ExD d fs)
def clsV : V → Option Value
  | .ref a => some (.ref a)
  | .ty n => some (.type n)
  | _ => none
theorem clsV_rel {c : V} {cv u : Value} (h : clsV c = some cv) (r : RelV c u) : u = cv := by
  cases c <;> first | (cases h; exact r) | cases h
/-- the type of a value, exceptions too -/
def TyX (K : PySem.W.Frag) (H : Hp) (x : V) (t : Value) : Prop := TyOf K H x t ∨ ∃ a C, x = .ref a ∧ t = .ref C ∧ ExAt H a C ∧ XC K C
section
variable {X : Cx}
theorem ExAt.inst {P : Program} {w : World} {H : Hp} {h : Heap} {a C : Addr} (ok : HOk P w H h) (q : ExAt H a C) : ∃ ox od, PySem.W.InstAt h a ox C od := by
  obtain ⟨fr, q | ⟨d, fs, q, q2⟩⟩ := q
  · obtain ⟨ox, od, I, _⟩ := exc_inst (K := []) ok q fun d z => nomatch z
    exact ⟨ox, od, I⟩
  · obtain ⟨mA, hn, _⟩ := exd_get ok q2
    obtain ⟨ox, od, I, _⟩ := exc_inst (K := []) ok q fun d' z => by cases z; exact let ⟨o, _, _, z, _⟩ := hn; ⟨o, z⟩
    exact ⟨ox, od, I⟩
theorem call_isinst : CallR X (.builtin "isinstance") (fun xs H Q => ∃ x c t cv b, xs = [x, c] ∧ clsV c = some cv ∧ TyX X.K H x t ∧ PySem.W.kitOne X.K t cv = some b ∧ Q (.bl b) H) := by
  intro pins s σ H xs us Q I r h
  obtain ⟨x, c, t, cv, b, rfl, hc, ty, e, q⟩ := h
  obtain ⟨u, u2, rfl, rx, rc⟩ := Vals.two r
  cases clsV_rel hc rc
  rcases ty with ty | ⟨a, C, rfl, rfl, ea, c⟩
  · exact isinst_ok I rx ty e fun tk => ⟨.bl b, H, I.tok _, rfl, q⟩
  · obtain rfl : u = Value.ref a := rx
    exact PySem.W.kia_one (kitx_exc c) I.kIn (ea.inst I.hok) e (fun z => nomatch z) fun tk => ⟨.bl b, H, I.tok _, rfl, q⟩

/-! ## Base.__init__(self, ..) of an exception -/
structure XIn (K : PySem.W.Frag) (b : V) (B initId : String) : Prop where
  get : (∃ D, b = .ref D ∧ PySem.W.specialIn K (.ref D) "__getattribute__" = some (some (.builtin "type.__getattribute__")) ∧ PySem.W.readsIn K D (.type "type") = true ∧ PySem.W.findCls K (.ref D) (.type "type") "__init__" = some (.val (.builtin initId))) ∨
    (∃ T, b = .ty T ∧ typeOf (.type T) = pure (.type "type") ∧ Manifest.isStub T = false ∧ PySem.W.findCls K (.type T) (.type "type") "__init__" = some (.val (.builtin initId)))
  hh : PySem.W.handedIn (.builtin initId) = true
  base : ∃ bmB, XB B initId bmB

/-! ## a name goes -/
theorem goes_ok {M : Model} {A : Around} {E : Value → Shared → Prop} {pins : List (Addr × Obj)} {σ : St} {H : Hp} {s : Shared} {i : Nat} {n : Str} {pos : Pos} {Q : Unit → Shared → Prop} (I : Inv X pins σ H s) (hN : X.N.Nodup) (hi : X.N[i]? = some n) (hl : X.env.scope.names.lookup n = some .local)
    (h : ∀ s', Inv X pins (σ.set i none) H s' → Q () s') : wpAny M A (do bindName X.env n .none; unbindBehindTheSuite X.env n pos) Q E s := by
  obtain ⟨m, hn, hlk⟩ := id I.loc
  have hcls : (X.env.scope.kind == .class || (X.env.scope.kind == .module && X.env.locals != X.env.globals)) = false := by rw [I.ok.kind]; rfl
  have cne := I.cne
  refine wpAny_nameGoes_keeps hl hn hcls fun h' v hn' hs => ?_
  obtain ⟨oL, _, _, hoL, _⟩ := id hn
  have tracked : HOk X.prog X.w H h' := fun b ob e => by
    refine (I.hok b ob e).stay (fun c w' hc q => (hs.2 c ?_).trans q) (fun _ q => q) fun _ _ q => q
    rintro rfl
    have hfree := I.free
    rcases hc with rfl | hc
    · rw [hfree] at e; cases e
    · rw [hfree] at hc; cases hc
  refine h _ ⟨I.ok, I.os, I.bare, ⟨fun b o e n hb hx => ?_, fun b o e n hb hx => ?_, I.base.free, fun b o e hx => ?_, I.base.tups, I.base.frzs, I.base.tbls⟩, ⟨_, hn', fun j y v' e1 e2 e3 => ?_⟩, fun y c e => ?_, I.free, I.freeC, fun p hp => ?_, tracked, by simpa using I.len⟩
  · exact (hs.2 b (Nat.ne_of_lt (Nat.lt_of_lt_of_le (Heap.lt_size e) I.ok.above))).trans (I.base.keep b o e n hb hx)
  · obtain ⟨sl, e1⟩ := I.base.slot b o e n hb hx
    exact ⟨sl, (hs.2 b (Nat.ne_of_lt (Nat.lt_of_lt_of_le (Heap.lt_size e) I.ok.above))).trans e1⟩
  · obtain ⟨o', e1⟩ := I.base.there b o e hx
    exact ⟨o', (hs.2 b (Nat.ne_of_lt (Nat.lt_of_lt_of_le (Heap.lt_size e) I.ok.above))).trans e1⟩
  · have hiσ : i < σ.length := by rw [I.len]; exact (List.getElem?_eq_some_iff.mp hi).1
    by_cases hj : j = i
    · subst hj
      rw [List.getElem?_set_self hiσ] at e2
      cases e2
    · rw [List.getElem?_set_ne (Ne.symm hj)] at e2
      obtain ⟨u', r', q⟩ := hlk j y v' e1 e2 e3
      refine ⟨u', r', ?_⟩
      rcases q with ⟨k, e⟩ | ⟨k, c, e, z⟩
      · refine .inl ⟨k, ?_⟩
        have : y ≠ n := fun e => hj (nodup_ix hN e1 (e ▸ hi))
        simp [this, e]
      · exact .inr ⟨k, c, e, z.sameBut hs (cne y c e)⟩
  · obtain ⟨w', z⟩ := I.cell y c e
    exact ⟨w', z.sameBut hs (cne y c e)⟩
  · obtain ⟨e, n, ne, nf, d⟩ := I.pin p hp
    exact ⟨(hs.2 p.1 ne).trans e, n, ne, nf, d⟩
end
end L2
end

section
set_option Elab.async false
set_option linter.all false
set_option maxRecDepth 100000
set_option maxHeartbeats 5000000
namespace Ex
open PySem PySem.Spec PyProof.Rows PySem.W PySem.Calls Builtin Builtin.ObjectAttr

def matchIn (K : Frag) (C : Addr) : List Value → Option Bool
  | [] => some false
  | c :: r => if kitExc K c = true then (match subIn K (.ref C) c, matchIn K C r with
      | some a, some b => some (a || b)
      | _, _ => none) else none
where kitExc (K : Frag) (c : Value) : Bool := kitCls K c c == some true && subIn K c (.type "BaseException") == some true
section
variable {M : Model} {A : Around} {E : Value → Shared → Prop} {s : Shared} {K : Frag}
theorem kitExc_of {c : Value} {h : Heap} (X : K.In h) (q : matchIn.kitExc K c = true) : Looks M h (isExcClass c) true := by
  unfold matchIn.kitExc at q
  rw [Bool.and_eq_true] at q
  exact (kit_cls X (beq_iff_eq.mp q.1)).2.1.andThen (looks_subIn X (beq_iff_eq.mp q.2))
theorem loop_pass {β : Type} {l : List Value} {b : β} {f : Value → β → Sem (ForInStep β)} {Q : β → Shared → Prop} (hf : ∀ c ∈ l, ∀ R : ForInStep β → Shared → Prop, R (.yield b) s → wpAny M A (f c b) R E s) (h : Q b s) : wpAny M A (forIn l b f) Q E s := by
  induction l with
  | nil => exact wpAny_pure h
  | cons c r ih =>
    rw [List.forIn_cons]
    refine wpAny_bind (hf c (List.mem_cons_self ..) _ ?_)
    exact ih fun c' hc' => hf c' (List.mem_cons_of_mem _ hc')
theorem sub_loop {C : Addr} {cs : List Value} {b : Bool} {Q : Option Bool × Unit → Shared → Prop} (X : K.In s.heap) (q : matchIn K C cs = some b) (h : Q (if b then (some true, ()) else (none, ())) s) :
    wpAny M A (forIn cs ((none, ()) : Option Bool × Unit) fun c __s => do
      let __do_lift ← isSubtype (.ref C) c
      if __do_lift = true then pure (ForInStep.done (some true, ())) else pure (ForInStep.yield (none, ()))) Q E s := by
  induction cs generalizing b with
  | nil => cases q; exact wpAny_pure h
  | cons c r ih =>
    unfold matchIn at q
    split at q
    · split at q
      · rename_i a b' e1 e2
        cases q
        rw [List.forIn_cons]
        refine wpAny_bind (wpAny_bind ((looks_subIn X e1).here ?_))
        cases a with
        | true => exact wpAny_pure (wpAny_pure h)
        | false =>
          refine wpAny_pure ?_
          exact ih e2 (by simpa using h)
      · cases q
    · cases q
theorem exc_all {C : Addr} : ∀ {cs : List Value} {b : Bool}, matchIn K C cs = some b → ∀ c ∈ cs, matchIn.kitExc K c = true
  | [], _, _, c, hc => nomatch hc
  | c :: r, b, q, c', hc => by
    unfold matchIn at q
    split at q
    · rename_i hk
      split at q
      · rename_i a b' e1 e2
        cases hc with
        | head => exact hk
        | tail _ m => exact exc_all e2 c' m
      · cases q
    · cases q
theorem matches_tup {e C p : Addr} {cs : List Value} {b : Bool} {Q : Bool → Shared → Prop} (X : K.In s.heap) (hty : Looks M s.heap (typeOf (.ref e)) (.ref C)) (hp : IsTup s.heap p cs.toArray) (q : matchIn K C cs = some b) (h : Q b s) :
    wpAny M A (excMatches (.ref e) (.ref p)) Q E s := by
  obtain ⟨o, ho, hc, n, hd⟩ := hp
  unfold excMatches
  refine wpAny_bind (wpAny_isInstance (T := "tuple") ⟨o, ho, hc⟩ (b := true) (by rw [isSubtype_type]; kernel_rfl) ?_)
  have hs : seqItems? (.ref p) = seqItems? (.ref p) := rfl
  obtain ⟨oc, odi, oda, osl⟩ := o
  dsimp only at hc hd
  subst hc hd
  have e0 : ((some cs.toArray).getD #[]).toList = cs := by simp
  rw [if_pos rfl]
  refine wpAny_bind (m := seqItems? (.ref p)) (wpAny_mono (Q := fun r s' => r = some cs.toArray ∧ s' = s) (E := E) ?_ (fun r s' hr => ?_) fun _ _ x => x)
  · unfold seqItems?
    obtain ⟨h0, g, d, t, os⟩ := s
    repeat (first | with_reducible refine wpAny_loadPart_at ho ?_ | exact ⟨rfl, rfl⟩ | wp_step)
  obtain ⟨rfl, rfl⟩ := hr
  refine wpAny_bind (wpAny_pure ?_)
  rw [e0]
  dsimp only
  refine wpAny_bind (loop_pass (fun c hc R hR => ?_) ?_)
  · refine wpAny_bind ((kitExc_of X (exc_all q c hc)).here ?_)
    exact wpAny_pure hR
  refine wpAny_bind (hty.here (wpAny_bind (sub_loop X q ?_)))
  cases b <;> exact wpAny_pure h
end
end Ex
end

section
set_option Elab.async false
set_option linter.all false
set_option maxRecDepth 100000
set_option maxHeartbeats 5000000
namespace L2
open PySem PySem.Spec PyProof.Rows Ex

/-! ## try, except (A, B, ..) as n -/
/-- the context of a try's body -/
abbrev Cx.body (X : Cx) (E' : Value → Shared → Prop) (pn' : List (Addr × Obj)) : Cx := { X with xe := E', pn := pn' }
/-- the context of an except suite in which e is handled; no exception leaves it -/
abbrev Cx.hand (X : Cx) (e : Value) (E' : Value → Shared → Prop) : Cx := { X with A := X.A.mark (some e), calm := false, xe := E' }
section
variable {X : Cx} {pins : List (Addr × Obj)} {σ : St} {H : Hp} {s : Shared}
theorem Inv.tob (I : Inv X pins σ H s) (E' : Value → Shared → Prop) : Inv (X.body E' (X.pn ++ pins)) [] σ H s :=
  ⟨⟨I.ok.mod, I.ok.kind, I.ok.glob, I.ok.blt, I.ok.above, I.ok.inj, I.ok.has, I.ok.cab, I.ok.hd, I.ok.frames, I.ok.stk, I.ok.exf, I.ok.bs, I.ok.bsz, I.ok.noex, I.ok.exfs, I.ok.funs, I.ok.frf⟩, I.os, I.bare, I.base, I.loc, I.cell, I.free, I.freeC,
    fun p hp => I.pin p (by simpa using hp), I.hok, I.len⟩
theorem Inv.ofb {pins' : List (Addr × Obj)} {E' : Value → Shared → Prop} (I : Inv (X.body E' (X.pn ++ pins)) pins' σ H s) : Inv X pins σ H s :=
  ⟨⟨I.ok.mod, I.ok.kind, I.ok.glob, I.ok.blt, I.ok.above, I.ok.inj, I.ok.has, I.ok.cab, I.ok.hd, I.ok.frames, I.ok.stk, I.ok.exf, I.ok.bs, I.ok.bsz, I.ok.noex, I.ok.exfs, I.ok.funs, I.ok.frf⟩, I.os, I.bare, I.base, I.loc, I.cell, I.free, I.freeC,
    fun p hp => I.pin p (List.mem_append_left _ hp), I.hok, I.len⟩
theorem Inv.toh (I : Inv X pins σ H s) (e : Value) (E' : Value → Shared → Prop) : Inv (X.hand e E') pins σ H s :=
  ⟨⟨I.ok.mod, I.ok.kind, I.ok.glob, I.ok.blt, I.ok.above, I.ok.inj, I.ok.has, I.ok.cab, (fun z => nomatch z), I.ok.frames, I.ok.stk, I.ok.exf, I.ok.bs, I.ok.bsz, I.ok.noex, I.ok.exfs, I.ok.funs, I.ok.frf⟩, I.os, I.bare, I.base, I.loc, I.cell, I.free, I.freeC, I.pin, I.hok, I.len⟩
theorem Inv.ofh {e : Value} {E' : Value → Shared → Prop} (I : Inv (X.hand e E') pins σ H s) (hd : X.calm = true → X.A.handled = none) : Inv X pins σ H s :=
  ⟨⟨I.ok.mod, I.ok.kind, I.ok.glob, I.ok.blt, I.ok.above, I.ok.inj, I.ok.has, I.ok.cab, hd, I.ok.frames, I.ok.stk, I.ok.exf, I.ok.bs, I.ok.bsz, I.ok.noex, I.ok.exfs, I.ok.funs, I.ok.frf⟩, I.os, I.bare, I.base, I.loc, I.cell, I.free, I.freeC, I.pin, I.hok, I.len⟩

/-- an exception is noted and lands: the state behind it -/
theorem Inv.landed {e C T' : Addr} {tb : Option Addr} {h' h'' : Heap} (I : Inv X pins σ H s) (ex : ∃ dd, H e = some (ExO C e dd false)) (hT : ∀ T, tb = some T → H T = none ∧ X.s₀.heap.objs.size ≤ T ∧ ∀ p ∈ X.pn ++ pins, p.1 ≠ T)
    (tbd : ∀ T, tb = some T → ∃ oT ts, s.heap.get? T = some oT ∧ oT.data = .fields ts) (S : Step (frs X.stack) e tb s.heap h') (hle : s.heap.objs.size ≤ T') (oth : ∀ b, b ≠ T' → h''.get? b = h'.get? b) : Inv X pins σ H { s with heap := h'' } := by
  obtain ⟨dd, ex⟩ := ex
  obtain ⟨oe, vs, t0, he, hc, hdd, hd, h0, hsz, _⟩ := exo_get I.hok ex
  have hT' : ∀ b o, s.heap.get? b = some o → b ≠ T' := fun b o z => Nat.ne_of_lt (Nat.lt_of_lt_of_le (Heap.lt_size z) hle)
  have keep : ∀ b o, s.heap.get? b = some o → b ≠ e → tb ≠ some b → b ∉ frs X.stack → h''.get? b = some o := fun b o z a1 a2 a3 => (oth b (hT' b o z)).trans (S.keep b o z a1 a2 a3)
  have tracked : ∀ b u, H b = some u → b ∉ frs X.stack := fun b u z hb => by
    have n := I.stkFree b hb
    rw [z] at n
    cases n
  have ne : ∀ b, H b = none → b ≠ e := fun b z y => by rw [y, ex] at z; cases z
  refine I.call' (s' := { s with heap := h'' }) (ch := tb.toList) rfl ⟨fun b o z n hb hx => ?_, fun b o z n hb hx => ?_, fun b o z n _ => n, fun b o z _ => ?_, fun _ _ z => z, fun _ _ _ z => z, fun b ps z => ⟨#[], by rw [z]; simp⟩⟩ (fun b u z => ?_) I.bare fun b hb => ?_
  · exact keep b o z (ne b n) (fun y => hx (by rw [y]; simp)) hb
  · obtain ⟨sl, e1⟩ := S.slot b o z (ne b n) (fun y => hx (by rw [y]; simp))
    exact ⟨sl, (oth b (hT' b o z)).trans e1⟩
  · obtain ⟨o2, e2⟩ := S.there b o z
    exact ⟨o2, (oth b (hT' b o z)).trans e2⟩
  · by_cases hb : b = e
    · subst hb
      rw [ex] at z
      cases z
      obtain ⟨vs', e1, e2, e3⟩ := S.exc oe vs he hd
      exact exo_mk ((oth b (hT' b _ he)).trans e1) hc hdd rfl (by rw [e2]; exact h0) (by rw [e3]; exact hsz) fun z => nomatch z
    · refine (I.hok b u z).stay (fun c v hcv r => ?_) (fun _ r => r) fun _ _ r => r
      have ne2 : c ≠ e := by
        rcases hcv with rfl | hcv
        · exact hb
        · exact ne_of hcv ex (by intro y; cases y)
      have tr : ∃ u', H c = some u' := by
        rcases hcv with rfl | hcv
        · exact ⟨_, z⟩
        · exact ⟨_, hcv⟩
      obtain ⟨u', hu'⟩ := tr
      exact keep c v r ne2 (fun y => by have := (hT c y).1; rw [hu'] at this; cases this) (tracked c u' hu')
  · cases tb with
    | none => simp at hb
    | some T =>
      have : b = T := by simpa using hb
      subst this
      obtain ⟨a1, a2, a3⟩ := hT b rfl
      obtain ⟨oT, ts, g1, g2⟩ := tbd b rfl
      refine ⟨.inr a2, fun y => ?_, fun x c hx y => ?_, a3⟩
      · obtain ⟨m, ⟨o, es, ep, ho, hd', _⟩, _⟩ := I.loc
        rw [y, ho] at g1
        cases g1
        rw [hd'] at g2
        cases g2
      · obtain ⟨v, o, ho, hd'⟩ := I.cell x c hx
        rw [y, g1] at ho
        cases ho
        rw [hd'] at g2
        cases g2
/-- names of classes, at a state that is not changed -/
def PN (X : Cx) (es : List Expr) (us : List Value) : Prop :=
  ∀ (A : Around) (E : Value → Shared → Prop) (pos : Pos) (pins : List (Addr × Obj)) (σ : St) (H : Hp) (s : Shared) (Q : List Value → Shared → Prop), Inv X pins σ H s → Q us s → wpAny (model X.prog X.w) A (spliced (backTo pos (starEach es X.env))) Q E s
theorem pn_nil : PN X [] [] := fun _ _ _ _ _ _ _ _ _ h => Calls.spliced_nil h
theorem pn_cons {x : Str} {p : Pos} {es : List Expr} {u : Value} {us : List Value} (hg : Gl X x) (hm : X.mg x = some u) (hr : PN X es us) (hd : (x == ("__debug__" : Str)) = false := by decide)
    (hs : starEach (.Name x p :: es) X.env = (false, eval (.Name x p) X.env) :: starEach es X.env := by rfl) : PN X (.Name x p :: es) (u :: us) := by
  intro A E pos pins σ H s Q I h
  rw [hs]
  show wpAny _ _ (spliced ((false, eval (.Name x p) X.env) :: backTo pos (starEach es X.env))) _ _ s
  refine Calls.spliced_cons (Calls.Name_function_global I.ok.kind hg (Calls.loadGlobal_global (by rw [I.ok.glob]; exact I.mod.glob.keeps I.bk) hm ?_) hd)
  exact hr A E pos pins σ H s _ I h

section
variable {X : Cx}
def tTry (K : PySem.W.Frag) (cs : List Value) (i : Nat) (tb : XKS → TS) (ts : TS) : TS := fun D σ H =>
  tb (fun σ' cls ea H' => ∃ a C, cls = .ref C ∧ ea = some a ∧ matchIn K C cs = some true ∧
    ts { nx := fun σ'' H'' => D.nx (σ''.set i none) H'', rt := D.rt, bk := fun σ'' H'' => D.bk (σ''.set i none) H'', ct := fun σ'' H'' => D.ct (σ''.set i none) H'' } (σ'.set i (some (.ref a))) H') D σ H
theorem ps_try {body suite : List Stmt} {b₀ : Stmt} {n : Str} {i : Nat} {es : List Expr} {cs : List Value} {k1 p1 hpos pos} {tb : XKS → TS} {ts : TS} (hst : X.stack = X.env :: X.outer ∧ X.env.frame = some X.env.locals)
    (hN : X.N.Nodup) (hi : X.N[i]? = some n) (hl : X.env.scope.names.lookup n = some .local) (hes : PN X es cs) (hcs : cs.length ≤ 1000)
    (hb : ∀ E' pn' EE, XOk (X.body E' pn') EE → PSs (X.body E' pn') body (tb EE)) (hs : ∀ a, PSs (X.hand (.ref a) fun _ _ => False) (b₀ :: suite) ts) :
    PS X (.Try body [.ExceptHandler (some (.Tuple es k1 p1)) (some n) (b₀ :: suite) hpos] [] [] pos) (tTry X.K cs i tb ts) := by
  intro pins s σ H D I h
  refine wpAny_Try_except ?_
  have fin : ∀ {f : Flow} {s1 : Shared}, SP X pins D f s1 → (match f with | .next => wpAny (model X.prog X.w) X.A (execs [] X.env) (SP X pins D) X.xe s1 | f => SP X pins D f s1) := fun {f s1} hsp => by
    cases f <;> first | exact hsp | exact wpAny_execs_nil hsp
  refine wpAny_mono (hb _ (X.pn ++ pins) _ ?_ [] s σ H D (I.tob _) h) (fun f s1 hsp => fin ?_) fun e s1 z => z
  · -- what is wanted of exceptions
    intro pins' σ' H' s' e C I' T q
    obtain ⟨ex, lo, tb', F, hT⟩ := T
    have I1 : Inv X pins σ' H' s' := I'.ofb
    have hT1 : ∀ T, tb' = some T → H' T = none ∧ X.s₀.heap.objs.size ≤ T ∧ ∀ p ∈ X.pn ++ pins, p.1 ≠ T := fun T z => ⟨(hT T z).1, (hT T z).2.1, fun p hp => (hT T z).2.2 p (List.mem_append_left _ hp)⟩
    have tbd : ∀ T, tb' = some T → ∃ oT ts, s'.heap.get? T = some oT ∧ oT.data = .fields ts := fun T z => by
      subst z
      obtain ⟨_, _, oT, ts, _, _, _, _, g1, g2, _⟩ := F
      exact ⟨oT, ts, g1, g2⟩
    obtain ⟨dd, ex'⟩ := id ex
    obtain ⟨oe, vs, t0, he, hc, hdd, hd, h0, hsz, _⟩ := exo_get I1.hok ex'
    have hfr : X.A.frames = some (X.env :: X.outer) := by rw [I1.ok.frames, hst.1]
    have hfl : s'.heap.FunFrames X.base (X.env :: X.outer) := by rw [← hst.1]; exact I1.stack
    show wpAny (model X.prog X.w) X.A (noteFrame (.ref e) X.env) _ X.xe s'
    refine note_fly (L := X.env.locals) hfr hfl hst.2 F (fun oe' vs' a b => by rw [he] at a; cases a; rw [hd] at b; cases b; exact hsz) fun h' T' S hle FF => ?_
    refine land_fly (s := { s' with heap := h' }) FF fun h'' oth F2 => ?_
    have I2 : Inv X pins σ' H' { s' with heap := h'' } := I1.landed ex hT1 tbd (by rw [hst.1]; exact S) hle oth
    obtain ⟨a, C', ec, ea, hm, hk⟩ := q
    cases ec
    cases ea
    obtain ⟨oe2, vs2, t2, he2, hc2, _⟩ := exo_get I2.hok ex'
    refine wpAny_handleBy_cons (codeAny_handlers_test ?_) (by intro q; cases q)
    refine wpAny_Tuple_spliced (hes _ _ _ pins σ' H' _ _ I2 ⟨by rw [sizeLine_eq]; omega, ?_⟩)
    -- the tuple of classes is laid
    have I3 : Inv X pins σ' H' { s' with heap := h''.push { cls := .type "tuple", data := .seq cs.toArray } } := I2.kept (t' := s'.toks) fun b u z => Heap.get?_push_of_some _ z
    have he3 := Heap.get?_push_of_some { cls := .type "tuple", data := .seq cs.toArray } he2
    have F3 : Fly (h''.push { cls := .type "tuple", data := .seq cs.toArray }) e .none (some T') := by
      obtain ⟨o1, v1, o2, v2, g1, g2, g3, g4, g5, g6, g7⟩ := F2
      exact ⟨o1, v1, o2, v2, Heap.get?_push_of_some _ g1, g2, g3, g4, Heap.get?_push_of_some _ g5, g6, g7⟩
    have LT : PySem.W.Looks (model X.prog X.w) (h''.push { cls := .type "tuple", data := .seq cs.toArray }) (typeOf (.ref e)) (.ref C) := hc2 ▸ (PySem.W.Looks.ld he3).andThen .now
    refine matches_tup (s := { s' with heap := h''.push { cls := .type "tuple", data := .seq cs.toArray } }) I3.kIn LT ⟨_, Heap.get?_push_size _ rfl, rfl, _, rfl⟩ hm ?_
    apply codeAny_handlers_suite_as
    refine land_fly (s := { s' with heap := h''.push { cls := .type "tuple", data := .seq cs.toArray } }) F3 fun h4 oth4 F4 => ?_
    have I4 : Inv X pins σ' H' { s' with heap := h4 } := by
      refine I3.turned (t' := s'.toks) (fun b o hb z => (oth4 b hb).trans z) (I1.hok.fresh hle) (Nat.ne_of_gt (Nat.lt_of_lt_of_le I1.lt hle)) (.inr (Nat.le_trans I1.sz hle)) (fun x c hx => ?_) fun p hp => ?_
      · obtain ⟨v, o, ho, _⟩ := I1.cell x c hx
        exact Nat.ne_of_lt (Nat.lt_of_lt_of_le (Heap.lt_size ho) hle)
      · exact Nat.ne_of_lt (Nat.lt_of_lt_of_le (Heap.lt_size (I1.pin p hp).1) hle)
    refine store_ok (s := { s' with heap := h4 }) I4 hN hi (.inl hl) (v := .ref e) rfl (fun s5 I5 => ?_) (.inr hl)
    refine wpAny_mono (PSs.nox (X := X.hand (.ref e) _) (hs e) pins s5 _ _ _ (I5.toh _ _) hk) (fun f s6 hsp => ?_) fun x s6 z => z
    show wpAny _ _ _ _ _ _
    cases f with
    | next =>
      obtain ⟨σ6, H6, J, z⟩ := hsp
      exact goes_ok (J.ofh I.ok.hd) hN hi hl fun s7 I7 => ⟨_, _, I7, z⟩
    | brk =>
      obtain ⟨σ6, H6, J, z⟩ := hsp
      exact goes_ok (J.ofh I.ok.hd) hN hi hl fun s7 I7 => ⟨_, _, I7, z⟩
    | cont =>
      obtain ⟨σ6, H6, J, z⟩ := hsp
      exact goes_ok (J.ofh I.ok.hd) hN hi hl fun s7 I7 => ⟨_, _, I7, z⟩
    | ret u =>
      obtain ⟨v, σ6, H6, J, rv, z⟩ := hsp
      exact goes_ok (J.ofh I.ok.hd) hN hi hl fun s7 I7 => ⟨v, _, _, I7, rv, z⟩
  · cases f with
    | next => obtain ⟨σ6, H6, J, z⟩ := hsp; exact ⟨σ6, H6, J.ofb, z⟩
    | brk => obtain ⟨σ6, H6, J, z⟩ := hsp; exact ⟨σ6, H6, J.ofb, z⟩
    | cont => obtain ⟨σ6, H6, J, z⟩ := hsp; exact ⟨σ6, H6, J.ofb, z⟩
    | ret u => obtain ⟨v, σ6, H6, J, rv, z⟩ := hsp; exact ⟨v, σ6, H6, J.ofb, rv, z⟩
end
end
end L2
end

section
set_option Elab.async false
set_option linter.all false
set_option maxRecDepth 100000
set_option maxHeartbeats 5000000
namespace L2
open PySem PySem.Spec PyProof.Rows Ex

/-! ## list comprehensions -/
/-- the cells that a comprehension takes along -/
structure Clo (env : Env) (scope : Scope) (cl : List (Str × Addr)) : Prop where
  clos : closureFor scope env = pure cl
  sub : ∀ x c, cl.lookup x = some c → env.cells.lookup x = some c
  has : ∀ x, (x, NameKind.free) ∈ scope.names → ∃ c, cl.lookup x = some c
theorem lookup_mem {α : Type} {x : Str} {c : α} : ∀ {l : List (Str × α)}, l.lookup x = some c → (x, c) ∈ l
  | [], h => by simp at h
  | (y, d) :: r, h => by
    rw [List.lookup_cons] at h
    split at h
    · rename_i q
      cases h
      rw [beq_iff_eq.mp q]
      exact List.mem_cons_self ..
    · exact List.mem_cons_of_mem _ (lookup_mem h)
theorem mem_lookup {α : Type} {x : Str} {c : α} : ∀ {l : List (Str × α)}, (x, c) ∈ l → ∃ d, l.lookup x = some d
  | [], h => nomatch h
  | (y, d) :: r, h => by
    rw [List.lookup_cons]
    split
    · exact ⟨d, rfl⟩
    · rename_i q
      rcases List.mem_cons.mp h with z | z
      · cases z; simp at q
      · exact mem_lookup z
theorem clo_of {env : Env} {scope : Scope} (h : ∀ x, (x, NameKind.free) ∈ scope.names → ∃ c, env.cells.lookup x = some c) : ∃ cl, Clo env scope cl := by
  have go : ∀ (names : List (Str × NameKind)) (cs : List (Str × Addr)), (∀ x, (x, NameKind.free) ∈ names → ∃ c, env.cells.lookup x = some c) →
      ∃ cl, (forIn (m := Sem) names cs fun x r => (match x with | (name, kind) => if (kind == NameKind.free) = true then do let a ← cellOf env name; pure (ForInStep.yield ((name, a) :: r)) else pure (ForInStep.yield r))) = pure cl ∧
        (∀ y c, (y, c) ∈ cl → (y, c) ∈ cs ∨ env.cells.lookup y = some c) ∧ (∀ y c, (y, c) ∈ cs → (y, c) ∈ cl) ∧ (∀ y, (y, NameKind.free) ∈ names → ∃ c, (y, c) ∈ cl) := by
    intro names
    induction names with
    | nil => intro cs _; exact ⟨cs, rfl, fun _ _ z => .inl z, fun _ _ z => z, fun _ z => nomatch z⟩
    | cons p r ih =>
      intro cs hh
      obtain ⟨y, k⟩ := p
      by_cases hk : k = .free
      · subst hk
        obtain ⟨c, hc⟩ := hh y (List.mem_cons_self ..)
        obtain ⟨cl, e, h1, h2, h3⟩ := ih ((y, c) :: cs) fun x hx => hh x (List.mem_cons_of_mem _ hx)
        refine ⟨cl, ?_, fun z d hz => ?_, fun z d hz => h2 z d (List.mem_cons_of_mem _ hz), fun z hz => ?_⟩
        · have ec : cellOf env y = pure c := by simp only [cellOf, hc]
          rw [List.forIn_cons]
          simp only [beq_self_eq_true, if_true, ec, pure_bind]
          exact e
        · rcases h1 z d hz with q | q
          · rcases List.mem_cons.mp q with q | q
            · cases q; exact .inr hc
            · exact .inl q
          · exact .inr q
        · rcases List.mem_cons.mp hz with q | q
          · cases q; exact ⟨c, h2 _ _ (List.mem_cons_self ..)⟩
          · exact h3 z q
      · obtain ⟨cl, e, h1, h2, h3⟩ := ih cs fun x hx => hh x (List.mem_cons_of_mem _ hx)
        refine ⟨cl, ?_, h1, h2, fun z hz => ?_⟩
        · rw [List.forIn_cons]
          have : (k == NameKind.free) = false := by simpa using hk
          simp only [this, Bool.false_eq_true, if_false, pure_bind]
          exact e
        · rcases List.mem_cons.mp hz with q | q
          · cases q; exact absurd rfl hk
          · exact h3 z q
  obtain ⟨cl, e, h1, h2, h3⟩ := go scope.names [] h
  refine ⟨cl, ?_, fun x c hx => ?_, fun x hx => ?_⟩
  · unfold closureFor
    first
      | exact e
      | (show (forIn (m := Sem) scope.names ([] : List (Str × Addr)) _ >>= fun r => pure r) = pure cl; rw [bind_pure]; exact e)
      | (rw [bind_pure]; exact e)
      | (trace_state; fail "x")
  · exact (h1 x c (lookup_mem hx)).elim (fun z => nomatch z) id
  · obtain ⟨c, hc⟩ := h3 x hx
    exact mem_lookup hc
end L2
end

section
set_option Elab.async false
set_option linter.all false
set_option maxRecDepth 100000
set_option maxHeartbeats 5000000
namespace Ex
open PySem PySem.Spec PyProof.Rows
/-- what a turn of a comprehension does with an item -/
abbrev Turned (M : Model) (A : Around) (env : Env) (tg : Expr) (it : Value) (ifs : List Expr) (el : Expr) (acc : Value) (N : Value → Shared → Prop) (next : Shared → Prop) (v : Value) (s : Shared) : Prop :=
  wpAny M A (letOwnedTupleGo tg it v) (fun _ a => wpAny M A (assign tg env v) (fun _ b =>
    wpAny M A (forIn ifs true fun c r => if r = true then do let ok ← isTrue c env (eval c env); pure (ForInStep.yield ok) else pure (ForInStep.yield r)) (fun yes c =>
      if yes = true then wpAny M A (eval el env) (fun y d => wpAny M A (call (.builtin "list.append") [acc, y]) (fun _ => next) N d) N c else next c) N b) N a) N s
theorem comp_loop {prog : Program} {w : World} {A : Around} {R : Result → Shared → Prop} {s : Shared} {el tg src : Expr} {ifs : List Expr} {sc : Scope} {pos : Pos} {it acc : Value} {env : Env} (J : Nat → Shared → Prop) (n : Nat) (start : J n s)
    (turn : ∀ n s, J n s → wpAny (model prog w) A (pyNext it) (fun r a => match r with
      | none => R (.ok .next) a
      | some v => Turned (model prog w) A env tg it ifs el acc (notedBy (model prog w) A env fun x => R (.error x)) (fun b => ∃ m, m < n ∧ J m b) v a) (notedBy (model prog w) A env fun x => R (.error x)) s) :
    codeAny (model prog w) A (.compLoop (.ListComp el [⟨tg, src, ifs, 0⟩] sc pos) 0 it acc env) R s := by
  apply codeAny_loop rfl J _ n start
  intro n s j
  change wpAny _ A (Sem.onRaise (compTurn (.ListComp el [⟨tg, src, ifs, 0⟩] sc pos) 0 it acc env) fun x => do noteFrame x env; theTreesLotGoes x) _ _ s
  apply wpAny_noted; rw [compTurn_list]
  apply wpAny_bind; apply wpAny_standAt; apply wpAny_bind; apply wpAny_mono (turn n s j) _ fun _ _ z => z
  intro r a k
  cases r with
  | none => exact wpAny_pure k
  | some v =>
    apply wpAny_bind; apply wpAny_mono k _ fun _ _ z => z; intro _ b k
    apply wpAny_bind; apply wpAny_mono k _ fun _ _ z => z; intro _ c k
    apply wpAny_bind; apply wpAny_mono k _ fun _ _ z => z; intro yes d k
    cases yes
    · exact wpAny_pure (And.intro rfl k)
    · apply wpAny_bind; apply wpAny_bind; apply wpAny_mono k _ fun _ _ z => z; intro y e k
      apply wpAny_bind; apply wpAny_mono k _ fun _ _ z => z; intro _ f k
      exact wpAny_pure (wpAny_pure (And.intro rfl k))
end Ex
namespace L2
open PySem PySem.Spec PyProof.Rows Ex

/-- the context of a comprehension's block -/
abbrev Cx.blk (X : Cx) (Nc : List Str) (scope : Scope) (cl : List (Str × Addr)) (C : Addr) (s3 : Shared) (H3 : Hp) (fp : List Addr) (pn' : List (Addr × Obj)) (E' : Value → Shared → Prop) : Cx :=
  { X with N := Nc, s₀ := s3, H₀ := H3, env := compEnvC scope cl C X.env, outer := X.stack, ex := fp, fn := fun _ => false, pn := pn', xe := E' }
def compσ (fr : List Nat) (own : Nat) (σ : St) : St := List.replicate own none ++ fr.map fun j => (σ[j]?).join
/-- the names of a block: its own ones first, then those it takes along, with their slots outside -/
structure BlkN (X : Cx) (scope : Scope) (Nc : List Str) (own : Nat) (fr : List Nat) : Prop where
  len : Nc.length = own + fr.length
  free : ∀ (k j : Nat) (x : Str), fr[k]? = some j → Nc[own + k]? = some x → X.N[j]? = some x ∧ (X.env.scope.names.lookup x = some .cell ∨ X.env.scope.names.lookup x = some .free) ∧ scope.names.lookup x = some .free
  kind : scope.kind = .function
  nocell : ∀ y ∈ scope.names, y.2 ≠ .cell
  names : ∀ x ∈ scope.names, x.2 = .local → scope.names.lookup x.1 = some .local
  frees : ∀ x, (x, NameKind.free) ∈ scope.names → X.env.scope.names.lookup x = some .cell ∨ X.env.scope.names.lookup x = some .free
def PTs (X : Cx) (ifs : List Expr) (t : TT) : Prop :=
  ∀ (pins : List (Addr × Obj)) (s : Shared) (σ : St) (H : Hp) (Q : Bool → Hp → Prop), Inv X pins σ H s → t σ H Q →
    wpAny (model X.prog X.w) X.A (forIn ifs true fun c r => if r = true then do let ok ← isTrue c X.env (eval c X.env); pure (ForInStep.yield ok) else pure (ForInStep.yield r)) (TP X pins σ Q) X.xe s
theorem pts_one {X : Cx} {c : Expr} {t : TT} (h : PT X c t) : PTs X [c] t := fun pins s σ H Q I q => wpAny_tests_one (h pins s σ H Q I q)
def tLC (fr : List Nat) (own : Nat) (wi : TI) (g : TG) (tc : TT) (te : TE) : TE := fun σ H Q => wi σ H fun J H1 => ∀ D, H1 D = none → ∃ W : Nat → Nat → List V → Hp → Prop, (∃ m, W 0 m [] (upd H1 D (.lst []))) ∧
  ∀ i m ys H2, H2 D = some (.lst ys) → W i m ys H2 → (J.stop i H2 ∧ Q (.ref D) H2) ∨ (J.go i H2 ∧ ys.length < sizeLine ∧ ∀ x H3, J.yld i H2 x H3 → g x (compσ fr own σ) H3 fun σ4 H4 => tc σ4 H4 fun b H5 =>
    if b = true then te σ4 H5 fun y H6 => H6 D = some (.lst ys) ∧ ∃ m', m' < m ∧ W (i + 1) m' (ys ++ [y]) (upd H6 D (.lst (ys ++ [y]))) else H5 D = some (.lst ys) ∧ ∃ m', m' < m ∧ W (i + 1) m' ys H5)

theorem relabel_kind {scope : Scope} {env : Env} {x : Str} (hn : ∀ y ∈ scope.names, y.2 ≠ .cell) {k : NameKind} (h : (relabel scope env).names.lookup x = some k) (hk : k = .cell ∨ k = .free) : (x, NameKind.free) ∈ scope.names := by
  have m := lookup_mem h
  obtain ⟨⟨y, k'⟩, hy, e⟩ := List.mem_map.mp m
  dsimp only at e
  split at e
  · rename_i q
    rw [Bool.and_eq_true, Bool.and_eq_true] at q
    have q11 := beq_iff_eq.mp q.1.1
    cases e
    rw [q11] at hy
    exact hy
  · cases e
    rcases hk with rfl | rfl
    · exact absurd rfl (hn _ hy)
    · exact hy
theorem relabel_free {scope : Scope} {env : Env} {x : Str} (h : scope.names.lookup x = some .free) : (relabel scope env).names.lookup x = some .cell ∨ (relabel scope env).names.lookup x = some .free := by
  unfold relabel
  dsimp only
  generalize scope.names = l at h
  induction l with
  | nil => simp at h
  | cons p r ih =>
    obtain ⟨y, k⟩ := p
    rw [List.lookup_cons] at h
    rw [List.map_cons, ]
    split at h
    · rename_i q
      cases h
      dsimp only
      split
      · rw [List.lookup_cons, q]; exact .inl rfl
      · rw [List.lookup_cons, q]; exact .inr rfl
    · rename_i q
      dsimp only
      split
      · rw [List.lookup_cons, q]; exact ih h
      · rw [List.lookup_cons, q]; exact ih h
end L2
end

section
set_option Elab.async false
set_option linter.all false
set_option maxRecDepth 100000
set_option maxHeartbeats 5000000
namespace L2
open PySem PySem.Spec PyProof.Rows Ex
section
variable {X : Cx} {pins : List (Addr × Obj)} {σ : St} {H : Hp} {s : Shared}

/-- the block's start -/
theorem Inv.block {scope : Scope} {Nc : List Str} {own : Nat} {fr : List Nat} {cl : List (Str × Addr)} {fp : List Addr} {h₁ : Heap} {t' : Nat} {E' : Value → Shared → Prop} (I : Inv X pins σ H s) (B : BlkN X scope Nc own fr) (cl0 : Clo X.env scope cl)
    (hfp : ∀ b ∈ fp, FpOk X pins H b ∧ ∃ o, s.heap.get? b = some o) (hns : h₁.Ns s.heap.objs.size (fun _ => none)) (keep : ∀ b o, s.heap.get? b = some o → h₁.get? b = some o) :
    Inv (X.blk Nc scope cl s.heap.objs.size s H fp (X.pn ++ pins) E') [] (compσ fr own σ) H { s with heap := h₁, toks := t' } := by
  have lt : ∀ b ∈ fp, b < s.heap.objs.size := fun b hb => let ⟨_, _, e⟩ := hfp b hb; Heap.lt_size e
  have celllt : ∀ x c, X.env.cells.lookup x = some c → c < s.heap.objs.size := fun x c e => let ⟨_, _, e, _⟩ := I.cell x c e; Heap.lt_size e
  refine ⟨⟨I.ok.mod, B.kind, I.ok.glob, I.ok.blt, Nat.le_refl _, fun x y c h1 h2 => I.ok.inj x y c (cl0.sub x c h1) (cl0.sub y c h2), fun x hx => ?_, (fun x c z => nomatch z), I.ok.hd, I.ok.frames, .inl rfl, fun b hb => ?_, I.bs, Nat.le_trans I.ok.bsz I.sz, fun b o e hb => ?_, fun b hb => ?_, I.stack, I.stkFree⟩,
    rfl, I.bare, Un.kept keep, ⟨_, hns, fun i x v e1 e2 e3 => ?_⟩, fun x c e => ?_, I.hok.fresh (Nat.le_refl _), fun x c e => I.freeC x c (cl0.sub x c e), fun p hp => ?_, I.hok.kept keep, ?_⟩
  · rcases hx with hx | hx
    · exact cl0.has x (relabel_kind B.nocell hx (.inl rfl))
    · exact cl0.has x (relabel_kind B.nocell hx (.inr rfl))
  · exact ⟨Nat.ne_of_lt (lt b hb), fun x c e z => (hfp b hb).1.2.2.2.2.1 x c (cl0.sub x c e) z⟩
  · -- a base object is no iterator of ours
    have e0 := I.ok.bs b o e
    rcases (hfp b hb).1.2.2.2.1 with z | z
    · exact I.ok.noex b o e z
    · exact absurd (Nat.lt_of_lt_of_le (Nat.lt_of_lt_of_le (Heap.lt_size e) I.ok.bsz) z) (Nat.lt_irrefl _)
  · intro z
    rcases List.mem_cons.mp (I.stkSub b z) with z | z
    · exact (hfp b hb).1.2.1 z
    · exact (hfp b hb).1.2.2.1 z
  · -- a slot
    unfold compσ at e2
    by_cases hi : i < own
    · rw [List.getElem?_append_left (by simpa using hi), List.getElem?_replicate, if_pos hi] at e2
      cases e2
    · have hge : own ≤ i := Nat.le_of_not_lt hi
      rw [List.getElem?_append_right (by simpa using hge), List.length_replicate, List.getElem?_map] at e2
      cases hj : fr[i - own]? with
      | none => rw [hj] at e2; cases e2
      | some j =>
        rw [hj] at e2
        have e2' : (σ[j]?).join = some v := by simpa using e2
        have e4 : σ[j]? = some (some v) := by
          cases q : σ[j]? with
          | none => rw [q] at e2'; cases e2'
          | some o => rw [q] at e2'; have : o = some v := e2'; rw [this]
        have e5 : Nc[own + (i - own)]? = some x := by rw [Nat.add_sub_cancel' hge]; exact e1
        obtain ⟨n1, n2, n3⟩ := B.free (i - own) j x hj e5
        obtain ⟨m, hn, hl⟩ := I.loc
        have vis : Vis X.env.scope x := n2.elim (fun z => .inr (.inl z)) fun z => .inr (.inr z)
        obtain ⟨u, r, l⟩ := hl j x v n1 e4 vis
        refine ⟨u, r, .inr ⟨relabel_free n3, ?_⟩⟩
        rcases l with ⟨k, _⟩ | ⟨_, c, hc, hcell⟩
        · rcases n2 with n2 | n2
          · have k' : X.env.scope.names.lookup x = some .local := k
            rw [n2] at k'; cases k'
          · have k' : X.env.scope.names.lookup x = some .local := k
            rw [n2] at k'; cases k'
        · obtain ⟨c', hc'⟩ := cl0.has x (lookup_mem n3)
          have e6 := cl0.sub x c' hc'
          rw [hc] at e6
          cases e6
          obtain ⟨o, ho, hd⟩ := hcell
          exact ⟨c, hc', o, keep _ _ ho, hd⟩
  · obtain ⟨v, o, ho, hd⟩ := I.cell x c (cl0.sub x c e)
    exact ⟨v, o, keep _ _ ho, hd⟩
  · have hp' : p ∈ X.pn ++ pins := by simpa using hp
    obtain ⟨e, n, ne, nf, d⟩ := I.pin p hp'
    refine ⟨keep _ _ e, n, Nat.ne_of_lt (Heap.lt_size e), fun z => ?_, d⟩
    rcases List.mem_cons.mp (I.stkSub p.1 z) with z | z
    · exact ne z
    · exact nf z
  · show (compσ fr own σ).length = Nc.length
    unfold compσ
    rw [List.length_append, List.length_replicate, List.length_map, B.len]

/-- the block's end -/
theorem Inv.unblock {scope : Scope} {Nc : List Str} {cl : List (Str × Addr)} {fp : List Addr} {E' : Value → Shared → Prop} {pins' : List (Addr × Obj)} {σ' : St} {H' : Hp} {s' : Shared} {h' : Heap} (I : Inv X pins σ H s) (hfp : ∀ b ∈ fp, FpOk X pins H b)
    (J : Inv (X.blk Nc scope cl s.heap.objs.size s H fp (X.pn ++ pins) E') pins' σ' H' s') (sb : Heap.SameBut s.heap.objs.size s'.heap h') : Inv X pins σ H' { s' with heap := h' } := by
  have ne : ∀ b o, s.heap.get? b = some o → b ≠ s.heap.objs.size := fun b o e => Nat.ne_of_lt (Heap.lt_size e)
  have hC : H' s.heap.objs.size = none := J.free
  refine I.call' (s' := { s' with heap := h' }) (ch := fp) J.os ⟨fun b o e n hb hx => ?_, fun b o e n hb hx => ?_, J.base.free, fun b o e hx => ?_, J.base.tups, J.base.frzs, J.base.tbls⟩ (fun b u e => ?_) J.bare fun b hb => ?_
  · exact (sb.2 b (ne b o e)).trans (J.base.keep b o e n hb hx)
  · obtain ⟨sl, z⟩ := J.base.slot b o e n hb hx
    exact ⟨sl, (sb.2 b (ne b o e)).trans z⟩
  · obtain ⟨o', z⟩ := J.base.there b o e hx
    exact ⟨o', (sb.2 b (ne b o e)).trans z⟩
  · refine (J.hok b u e).stay (fun c v hc q => (sb.2 c ?_).trans q) (fun _ q => q) fun _ _ q => q
    rintro rfl
    rcases hc with rfl | hc
    · rw [hC] at e; cases e
    · rw [hC] at hc; cases hc
  · obtain ⟨f0, f1, f2, f3, f4, f5⟩ := hfp b hb
    exact ⟨f3, f1, f4, f5⟩

/-- the targets are the block's own names -/
def OwnG (own : Nat) (g : TG) : Prop := ∀ (x : V) (σ : St) (H : Hp) (Q : St → Hp → Prop), g x σ H Q → g x σ H fun σ' H' => Q σ' H' ∧ ∀ k, own ≤ k → σ'[k]? = σ[k]?
theorem own_name {own i : Nat} (h : i < own) : OwnG own (gName i) := fun x σ H Q q => ⟨q, fun k hk => List.getElem?_set_ne (by omega)⟩
end
end L2
end

section
set_option Elab.async false
set_option linter.all false
set_option maxRecDepth 100000
set_option maxHeartbeats 5000000
namespace L2
open PySem PySem.Spec PyProof.Rows Ex
section
variable {X : Cx} {pins : List (Addr × Obj)} {σ : St} {H : Hp} {s : Shared}
/-- a list comprehension, whatever is done with its list ahead of the end of its block -/
theorem lc_core {elt tg iter : Expr} {ifs : List Expr} {scope : Scope} {pos fpos : Pos} {Nc : List Str} {own : Nat} {fr : List Nat} {wi : TI} {g : TG} {tc : TT} {te : TE} {use : Option (Value → Sem Unit)} {QQ : Value → Shared → Prop} {Q : VK} (hc : X.calm = true) (B : BlkN X scope Nc own fr) (hi : PI X tg iter wi) (hog : OwnG own g)
    (hg : ∀ cl C s3 H3 fp pn', PG (X.blk Nc scope cl C s3 H3 fp pn' fun _ _ => False) tg g) (ht : ∀ cl C s3 H3 fp pn', PTs (X.blk Nc scope cl C s3 H3 fp pn' fun _ _ => False) ifs tc) (he : ∀ cl C s3 H3 fp pn', PE (X.blk Nc scope cl C s3 H3 fp pn' fun _ _ => False) elt te)
    (hs : ∀ x, foldedSetIterable iter X.env x = pure x) (I : Inv X pins σ H s) (h : tLC fr own wi g tc te σ H Q)
    (fin : ∀ (D C : Addr) (H3 : Hp) (s4 : Shared), (∃ m, s4.heap.Ns C m) → FpOk X pins H3 C → (∀ h', Heap.SameBut C s4.heap h' → Inv X pins σ H3 { s4 with heap := h' }) → Q (.ref D) H3 → compPost (model X.prog X.w) X.A X.xe use QQ (.ref D) C (.ok .next) s4) :
    wpAny (model X.prog X.w) X.A (comprehension (.ListComp elt [⟨tg, iter, ifs, 0⟩] scope pos) scope X.env fpos (newList []) false (eval iter X.env) use) QQ X.xe s := by
  obtain ⟨cl, cl0⟩ := clo_of (env := X.env) (scope := scope) fun x hx => I.ok.has x (B.frees x hx)
  apply wpAny_comprehension_free rfl hs cl0.clos B.kind B.names
  apply wpAny_mono (hi pins s σ H _ I h) _ fun _ _ e => e
  intro xv s1 h1
  apply wpAny_mono h1 _ fun _ _ e => e
  intro itv s2 h2
  obtain ⟨it, fp, tn, J, H2, rfl, I2, T, st2, f2, q⟩ := h2
  refine wpAny_newObj_type (wpAny_newFunctionEnv B.nocell (by intro y hy; simp at hy) (fun h₁ hns₁ hsb₁ => ?_) B.kind)
  have hD : H2 s2.heap.objs.size = none := I2.hok.fresh (Nat.le_refl _)
  obtain ⟨W, ⟨m0, w0⟩, turn⟩ := q s2.heap.objs.size hD
  have I3 : Inv X pins σ (upd H2 s2.heap.objs.size (.lst [])) { s2 with heap := s2.heap.push { cls := .type "list", dict := none, data := .seq ([] : List Value).toArray } } :=
    I2.laid (t' := s2.toks) (fun b u e => Heap.get?_push_of_some _ e) (Nat.le_refl _) ⟨Nat.zero_le _, [], 0, .nil, Heap.get?_push_size _ rfl⟩
  have fpne : ∀ b ∈ fp, b ≠ s2.heap.objs.size := fun b hb => let ⟨o, e, _⟩ := T.obj _ _ st2 b hb; Nat.ne_of_lt (Heap.lt_size e)
  have f3 : ∀ b ∈ fp, FpOk X pins (upd H2 s2.heap.objs.size (.lst [])) b := fun b hb => ⟨by rw [upd_ne (fpne b hb)]; exact (f2 b hb).1, (f2 b hb).2⟩
  have keep : ∀ b o, (s2.heap.push { cls := .type "list", dict := none, data := .seq ([] : List Value).toArray }).get? b = some o → h₁.get? b = some o := fun b o e =>
    (hsb₁.2 b (Nat.ne_of_lt (Heap.lt_size e))).trans (Heap.get?_push_of_some _ e)
  have IY := I3.block (h₁ := h₁) (t' := s2.toks + ([] : List (Str × Value)).length) (E' := fun _ _ => False) B cl0 (fun b hb => ⟨f3 b hb, let ⟨o, e, _⟩ := T.obj _ _ st2 b hb; ⟨o, Heap.get?_push_of_some _ e⟩⟩) hns₁ keep
  have st1 : tn 0 h₁ := T.keep _ _ _ st2 fun b hb o e => keep b o (Heap.get?_push_of_some _ e)
  have fY : ∀ {H' : Hp}, (∀ b ∈ fp, H' b = none) → ∀ b ∈ fp, FpOk (X.blk Nc scope cl (s2.heap.push { cls := .type "list", dict := none, data := .seq ([] : List Value).toArray }).objs.size { s2 with heap := s2.heap.push { cls := .type "list", dict := none, data := .seq ([] : List Value).toArray } } (upd H2 s2.heap.objs.size (.lst [])) fp (X.pn ++ pins) fun _ _ => False) [] H' b := fun hn b hb =>
    ⟨hn b hb, (IY.ok.exf b hb).1, IY.ok.exfs b hb, .inl hb, (IY.ok.exf b hb).2, fun p hp => (f2 b hb).2.2.2.2.2 p (by simpa using hp)⟩
  have loop : codeAny (model X.prog X.w) X.A (.compLoop (.ListComp elt [⟨tg, iter, ifs, 0⟩] scope pos) 0 (.ref it) (.ref s2.heap.objs.size) (compEnvC scope cl (s2.heap.push { cls := .type "list", dict := none, data := .seq ([] : List Value).toArray }).objs.size X.env))
      (compPost (model X.prog X.w) X.A X.xe use QQ (.ref s2.heap.objs.size) (s2.heap.push { cls := .type "list", dict := none, data := .seq ([] : List Value).toArray }).objs.size) { s2 with heap := h₁, toks := s2.toks + ([] : List (Str × Value)).length } := by
    refine comp_loop (fun n s' => ∃ i ys H', Inv (X.blk Nc scope cl (s2.heap.push { cls := .type "list", dict := none, data := .seq ([] : List Value).toArray }).objs.size { s2 with heap := s2.heap.push { cls := .type "list", dict := none, data := .seq ([] : List Value).toArray } } (upd H2 s2.heap.objs.size (.lst [])) fp (X.pn ++ pins) fun _ _ => False) [] (compσ fr own σ) H' s' ∧ tn i s'.heap ∧ (∀ b ∈ fp, H' b = none) ∧ H' s2.heap.objs.size = some (.lst ys) ∧ W i n ys H')
      m0 ⟨0, [], _, IY, st1, fun b hb => (f3 b hb).1, upd_same, w0⟩ ?_
    rintro n s3 ⟨i, ys, H3, J3, st3, fr3, e3, w3⟩
    rcases turn i n ys H3 e3 w3 with ⟨stop, qn⟩ | ⟨go, hlen, step⟩
    · refine thn (T.done (X.blk Nc scope cl (s2.heap.push { cls := .type "list", dict := none, data := .seq ([] : List Value).toArray }).objs.size { s2 with heap := s2.heap.push { cls := .type "list", dict := none, data := .seq ([] : List Value).toArray } } (upd H2 s2.heap.objs.size (.lst [])) fp (X.pn ++ pins) fun _ _ => False) rfl rfl rfl hc i [] s3 _ H3 _ J3 (fY fr3) st3 stop) fun r s4 ⟨hr, J4⟩ => ?_
      subst hr
      obtain ⟨m, hn, _⟩ := J4.loc
      exact fin _ _ H3 s4 ⟨m, hn⟩ (I3.fpOk (Nat.le_refl _) J4.free) (fun h' sb => I3.unblock f3 J4 sb) qn
    · refine thn (T.item (X.blk Nc scope cl (s2.heap.push { cls := .type "list", dict := none, data := .seq ([] : List Value).toArray }).objs.size { s2 with heap := s2.heap.push { cls := .type "list", dict := none, data := .seq ([] : List Value).toArray } } (upd H2 s2.heap.objs.size (.lst [])) fp (X.pn ++ pins) fun _ _ => False) rfl rfl rfl hc i [] s3 _ H3 _ J3 (fY fr3) st3 go) fun r s4 ⟨u, hr, h4⟩ => ?_
      subst hr
      refine thn h4 fun _ s5 ⟨x, H5, J5, r5, y5, st5, fr5⟩ => ?_
      have J5' := J5.pinned (fY fr5) (T.obj _ _ st5)
      have lift : ∀ {α : Type} {m : Sem α} {Q' : α → Shared → Prop} {E' : Value → Shared → Prop} {s' : Shared}, wpAny (model X.prog X.w) X.A m Q' (fun _ _ => False) s' → wpAny (model X.prog X.w) X.A m Q' E' s' := fun h => wpAny_mono h (fun _ _ z => z) fun _ _ z => z.elim
      refine lift (thn (hg _ _ _ _ _ _ _ s5 _ H5 x u _ J5' r5 (hog _ _ _ _ (step x H5 y5))) fun _ s6 ⟨σ6, H6, J6, q6, hσ6⟩ => ?_)
      refine lift (thn (ht _ _ _ _ _ _ _ s6 σ6 H6 _ J6 q6) fun b s7 ⟨H7, J7, q7⟩ => ?_)
      have back : ∀ {H8 : Hp} {s8 : Shared} {ys' : List V} {m' : Nat}, Inv (X.blk Nc scope cl (s2.heap.push { cls := .type "list", dict := none, data := .seq ([] : List Value).toArray }).objs.size { s2 with heap := s2.heap.push { cls := .type "list", dict := none, data := .seq ([] : List Value).toArray } } (upd H2 s2.heap.objs.size (.lst [])) fp (X.pn ++ pins) fun _ _ => False) ([] ++ pinsAt fp s5.heap) σ6 H8 s8 → H8 s2.heap.objs.size = some (.lst ys') → m' < n → W (i + 1) m' ys' H8 →
          ∃ m, m < n ∧ ∃ i ys H', Inv (X.blk Nc scope cl (s2.heap.push { cls := .type "list", dict := none, data := .seq ([] : List Value).toArray }).objs.size { s2 with heap := s2.heap.push { cls := .type "list", dict := none, data := .seq ([] : List Value).toArray } } (upd H2 s2.heap.objs.size (.lst [])) fp (X.pn ++ pins) fun _ _ => False) [] (compσ fr own σ) H' s8 ∧ tn i s8.heap ∧ (∀ b ∈ fp, H' b = none) ∧ H' s2.heap.objs.size = some (.lst ys) ∧ W i m ys H' := fun {H8 s8 ys' m'} J8 e8 hm w8 => by
        refine ⟨m', hm, i + 1, ys', H8, ?_, T.keep _ _ _ st5 fun b hb o e => (J8.pin (b, o) (List.mem_append_right _ (List.mem_append_right _ (mem_pinsAt hb e)))).1, fun b hb => ?_, e8, w8⟩
        · refine (Inv.unpinned (pins := []) J8).weak ?_ fun j v' z => ?_
          · rw [IY.len]; exact J8.len.symm
          · by_cases hj : j < own
            · unfold compσ at z
              rw [List.getElem?_append_left (by simpa using hj), List.getElem?_replicate, if_pos hj] at z
              cases z
            · rw [hσ6 j (Nat.le_of_not_lt hj)]; exact z
        · obtain ⟨o, e, d⟩ := T.obj _ _ st5 b hb
          exact (J8.pin (b, o) (List.mem_append_right _ (List.mem_append_right _ (mem_pinsAt hb e)))).2.1
      cases b with
      | false =>
        obtain ⟨e7, m', hm, w7⟩ := (show H7 s2.heap.objs.size = some (.lst ys) ∧ ∃ m', m' < n ∧ W (i + 1) m' ys H7 from by simpa using q7)
        exact back J7 e7 hm w7
      | true =>
        have q7' : te σ6 H7 fun y H6 => H6 s2.heap.objs.size = some (.lst ys) ∧ ∃ m', m' < n ∧ W (i + 1) m' (ys ++ [y]) (upd H6 s2.heap.objs.size (.lst (ys ++ [y]))) := by simpa using q7
        refine lift (thn (he _ _ _ _ _ _ _ s7 σ6 H7 _ J7 q7') fun v s8 ⟨y, H8, J8, r8, e8, m', hm, w8⟩ => ?_)
        refine lift (thn (mt_append _ s8 σ6 H8 (.ref s2.heap.objs.size) [y] (.ref s2.heap.objs.size) [v] (fun _ H9 => H9 = upd H8 s2.heap.objs.size (.lst (ys ++ [y]))) J8 rfl (.cons r8 .nil) ⟨_, ys, y, rfl, rfl, e8, hlen, rfl⟩) fun _ s9 ⟨_, H9, J9, _, e9⟩ => ?_)
        subst e9
        exact back J9 upd_same hm w8
  exact codeAny_compStart_list loop (T.self _ _ _ _ _ st1 loop)
theorem pe_lc {elt tg iter : Expr} {ifs : List Expr} {scope : Scope} {pos : Pos} {Nc : List Str} {own : Nat} {fr : List Nat} {wi : TI} {g : TG} {tc : TT} {te : TE} (hc : X.calm = true) (B : BlkN X scope Nc own fr) (hi : PI X tg iter wi) (hog : OwnG own g)
    (hg : ∀ cl C s3 H3 fp pn', PG (X.blk Nc scope cl C s3 H3 fp pn' fun _ _ => False) tg g) (ht : ∀ cl C s3 H3 fp pn', PTs (X.blk Nc scope cl C s3 H3 fp pn' fun _ _ => False) ifs tc) (he : ∀ cl C s3 H3 fp pn', PE (X.blk Nc scope cl C s3 H3 fp pn' fun _ _ => False) elt te)
    (hs : ∀ x, foldedSetIterable iter X.env x = pure x := by intro _; rfl) : PE X (.ListComp elt [⟨tg, iter, ifs, 0⟩] scope pos) (tLC fr own wi g tc te) := by
  intro pins s σ H Q I h
  rw [eval_ListComp]
  exact lc_core (QQ := EP X pins σ Q) hc B hi hog hg ht he hs I h fun L C H3 s4 hn f unb q => let ⟨m, hm⟩ := hn; ⟨m, hm, fun h' sb => ⟨.ref L, H3, unb h' sb, rfl, q⟩⟩
end
end L2
end

section
set_option Elab.async false
set_option linter.all false
set_option maxRecDepth 100000
set_option maxHeartbeats 5000000
namespace L2
open PySem PySem.Spec PyProof.Rows Ex

section
variable {X : Cx}
/-! ## list.count, list.index of flat values -/
theorem count_eqU {y : V} : ∀ {xs : List V} {us : List Value}, Vals xs us → xs.all flatV = true → us.countP (eqU y) = xs.countP fun z => eqV z y
  | _, _, .nil, _ => rfl
  | _, _, .cons r t, h => by
    have h := Bool.and_eq_true_iff.mp ((List.all_cons ..).symm.trans h)
    rw [List.countP_cons, List.countP_cons, count_eqU t h.2, eqU_of r h.1]
def rCount : V → List V → Hp → VK → Prop := fun x vs H Q => ∃ l xs y, x = .ref l ∧ vs = [y] ∧ H l = some (.lst xs) ∧ flatV y = true ∧ xs.all flatV = true ∧ Q (.int (xs.countP fun z => eqV z y)) H
theorem mt_count : MtR X "list.count" rCount := by
  intro pins s σ H x vs v us Q I rx rv h
  obtain ⟨l, xs, y, rfl, rfl, hH, fy, fx, q⟩ := h
  cases rx
  obtain ⟨u, rfl, ru⟩ := rv.one
  obtain ⟨z, its, n, r, hl, e⟩ := I.lstM hH
  refine call_meets (s := s) F.slot_list_count (show s.TypeIs (.ref l) "list" from ⟨_, e, rfl⟩) F.entry_list_count (F.args_list_count_2 _ _) (SeqAt.list_countAt l its.toArray n none #[] u (eqU y)) ?_
  refine ⟨e, fun w hw => mem_eqAt ru fy r fx w (by simpa using hw), ?_⟩
  refine ⟨.int (xs.countP fun z => eqV z y), H, I.tok _, ⟨s.toks, ?_⟩, q⟩
  rw [← count_eqU r fx]
def rIndex : V → List V → Hp → VK → Prop := fun x vs H Q => ∃ l xs y j, x = .ref l ∧ vs = [y] ∧ H l = some (.lst xs) ∧ flatV y = true ∧ xs.all flatV = true ∧ (∃ w, xs[j]? = some w ∧ eqV w y = true) ∧ (∀ (m : Nat) w, m < j → xs[m]? = some w → eqV w y = false) ∧ j < 1000 ∧ Q (.int j) H
theorem eqU_at {y : V} {xs : List V} {us : List Value} (r : Vals xs us) (f : xs.all flatV = true) {m : Nat} {w : V} (h : xs[m]? = some w) : ∃ hm : m < us.length, eqU y us[m] = eqV w y := by
  obtain ⟨u, hu, ru⟩ := r.get h
  obtain ⟨hm, e⟩ := List.getElem?_eq_some_iff.mp hu
  exact ⟨hm, by rw [e]; exact eqU_of ru (List.all_eq_true.mp f w (List.mem_of_getElem? h))⟩
theorem mt_index : MtR X "list.index" rIndex := by
  intro pins s σ H x vs v us Q I rx rv h
  obtain ⟨l, xs, y, j, rfl, rfl, hH, fy, fx, ⟨w, hw, hit⟩, no, small, q⟩ := h
  cases rx
  obtain ⟨u, rfl, ru⟩ := rv.one
  obtain ⟨z, its, n, r, hl, e⟩ := I.lstM hH
  obtain ⟨hj, ej⟩ := eqU_at (y := y) r fx hw
  refine call_meets (s := s) F.slot_list_index (show s.TypeIs (.ref l) "list" from ⟨_, e, rfl⟩) F.entry_list_index (F.args_list_index_2 _ _) (SeqAt.list_indexAt l its.toArray n none #[] u (eqU y) j (by simpa using hj) (by omega) (by simpa [hit] using ej) ?_) ?_
  case refine_2 => exact ⟨e, fun w hw => mem_eqAt ru fy r fx w (by simpa using hw), .int j, H, I.tok _, ⟨s.toks, rfl⟩, q⟩
  case refine_1 =>
    intro m hm lt
    have hm' : m < xs.length := by rw [r.length]; simpa using hm
    obtain ⟨_, em⟩ := eqU_at (y := y) r fx (List.getElem?_eq_getElem hm')
    have := no m _ lt (List.getElem?_eq_getElem hm')
    simpa [this] using em

/-! ## all of a list of truths -/

/-! ## repr of plain data -/
mutual
/-- the data that a value is, on the abstract heap -/
inductive DatV (H : Hp) : V → PyData → Prop
  | non : DatV H .non .none
  | bl (b : Bool) : DatV H (.bl b) (.bool b)
  | int (i : Int) : DatV H (.int i) (.int i)
  | str (x : Str) : DatV H (.str x) (.str x)
  | lst {a : Addr} {xs : List V} {ds : List PyData} : H a = some (.lst xs) → DatsV H xs ds → DatV H (.ref a) (.list ds)
  | tup {a : Addr} {xs : List V} {ds : List PyData} : H a = some (.tup xs) → DatsV H xs ds → DatV H (.ref a) (.tuple ds)
inductive DatsV (H : Hp) : List V → List PyData → Prop
  | nil : DatsV H [] []
  | cons {x : V} {d : PyData} {xs : List V} {ds : List PyData} : DatV H x d → DatsV H xs ds → DatsV H (x :: xs) (d :: ds)
end
mutual
theorem DatV.reads {P : Program} {w : World} {H : Hp} {h : Heap} (ok : HOk P w H h) : ∀ {x : V} {d : PyData} {u : Value}, DatV H x d → RelV x u → ∃ as, Reads h u d as
  | _, _, _, .non, r => by cases r; exact ⟨_, .none⟩
  | _, _, _, .bl b, r => by cases r; exact ⟨_, .bool b⟩
  | _, _, _, .int i, r => by obtain ⟨t, rfl⟩ := r; exact ⟨_, .int i t⟩
  | _, _, _, .str x, r => by obtain ⟨t, rfl⟩ := r; exact ⟨_, .str x t⟩
  | _, _, _, .lst e D, r => by
    cases r
    obtain ⟨_, its, n, rv, q⟩ := ok _ _ e
    obtain ⟨as, R⟩ := DatsV.reads ok D rv
    exact ⟨_, .list q rfl rfl R⟩
  | _, _, _, .tup e D, r => by
    cases r
    obtain ⟨_, its, rv, o, q, c, n, d⟩ := ok _ _ e
    obtain ⟨as, R⟩ := DatsV.reads ok D rv
    exact ⟨_, .tuple q c d R⟩
theorem DatsV.reads {P : Program} {w : World} {H : Hp} {h : Heap} (ok : HOk P w H h) : ∀ {xs : List V} {ds : List PyData} {us : List Value}, DatsV H xs ds → Vals xs us → ∃ as, ReadsAll h us ds as
  | _, _, _, .nil, r => by cases r; exact ⟨_, .nil⟩
  | _, _, _, .cons a b, r => by
    cases r with
    | cons r1 r2 =>
      obtain ⟨_, R1⟩ := DatV.reads ok a r1
      obtain ⟨_, R2⟩ := DatsV.reads ok b r2
      exact ⟨_, .cons R1 R2⟩
end
end
end L2
end

section
set_option Elab.async false
set_option linter.all false
set_option maxRecDepth 100000
set_option maxHeartbeats 5000000
namespace Ex
open PySem PySem.Spec PyProof.Rows PySem.Calls Builtin.SmallTypes

/-! ## what zip draws from -/

section
variable {prog : Program} {w : World} {A : Around} {E : Value → Shared → Prop} {s : Shared} {z TI TO i1 i2 : Addr} {f1 f2 : List Addr} {xs ys : Array Value} {S1 S2 : Nat → Heap → Prop}
end
end Ex
end

section
set_option Elab.async false
set_option linter.all false
set_option maxRecDepth 100000
set_option maxHeartbeats 5000000
namespace L2
open PySem PySem.Spec PyProof.Rows Ex

/-! ## zip of a list and a tuple -/
section
variable {X : Cx} {pins : List (Addr × Obj)} {σ : St} {H : Hp} {s : Shared} {h' : Heap} {fp : List Addr}
end
end L2
namespace Ex
open PySem PySem.Spec PyProof.Rows PySem.Calls Builtin.SmallTypes
section
variable {prog : Program} {w : World} {A : Around} {E : Value → Shared → Prop} {s : Shared} {z TI TO i1 i2 l1 : Addr} {f2 : List Addr} {xs : Array Value}
end
end Ex
end

section
set_option Elab.async false
set_option linter.all false
set_option maxRecDepth 100000
set_option maxHeartbeats 5000000
namespace Ex
open PySem PySem.Spec PyProof.Rows PySem.Calls Builtin.SmallTypes
/-! the objects of a zip over a list and a tuple, one behind the other -/
end Ex
end

section
set_option Elab.async false
set_option linter.all false
set_option maxRecDepth 100000
set_option maxHeartbeats 5000000
namespace L2
open PySem PySem.Spec PyProof.Rows Ex
section
variable {X : Cx}
end
end L2
end

section
set_option Elab.async false
set_option linter.all false
set_option maxRecDepth 100000
set_option maxHeartbeats 5000000
namespace L2
open PySem PySem.Spec PyProof.Rows Ex
section
variable {X : Cx}
/-! ## plain data: equal or not -/
def rEqD : R2 := fun x y H Q => ∃ d e, DatV H x d ∧ DatV H y e ∧ SeqAt.shaped d = true ∧ SeqAt.shaped e = true ∧ Q (.bl (PyData.eqv d e)) H
def rNeD : R2 := fun x y H Q => ∃ d e, DatV H x d ∧ DatV H y e ∧ SeqAt.shaped d = true ∧ SeqAt.shaped e = true ∧ Q (.bl (!PyData.eqv d e)) H
theorem op_eq_dat {k : Nat} (hr : Room k X.A) : OpR X (compareOp .Eq) rEqD := by
  intro pins s σ H x y v u Q I rx ry h
  obtain ⟨d, e, hd, he, sd, se, q⟩ := h
  obtain ⟨as, ra⟩ := hd.reads I.hok rx
  obtain ⟨bs, rb⟩ := he.reads I.hok ry
  exact SeqAt.compareEq_shaped ra rb sd se hr.units ⟨.bl _, H, I, rfl, q⟩
theorem op_ne_dat {k : Nat} (hr : Room k X.A) : OpR X (compareOp .NotEq) rNeD := by
  intro pins s σ H x y v u Q I rx ry h
  obtain ⟨d, e, hd, he, sd, se, q⟩ := h
  obtain ⟨as, ra⟩ := hd.reads I.hok rx
  obtain ⟨bs, rb⟩ := he.reads I.hok ry
  exact SeqAt.compareNe_shaped ra rb sd se hr.units ⟨.bl _, H, I, rfl, q⟩
/-! ## any of a list of truths -/
end
/-! ## enumerate of a list -/
section
variable {X : Cx}
end
end L2
end

section
set_option Elab.async false
set_option linter.all false
set_option maxRecDepth 100000
set_option maxHeartbeats 5000000
namespace L2
open PySem PySem.Spec PyProof.Rows Ex
section
variable {X : Cx}
/-! ## the least and the greatest of a list of ints -/
/-! ## sorted, of fewer than 64 ints -/
theorem vals_of_ints : ∀ {us : List Value} {ns : List Int}, IntsAre us ns → Vals (ns.map V.int) us
  | _, _, .nil => .nil
  | _, _, .cons n t r => .cons ⟨t, rfl⟩ (vals_of_ints r)
theorem call_sorted_ints : CallR X (.builtin "sorted") (fun xs H Q => ∃ (p : Addr) (ns : List Int), xs = [.ref p] ∧ SqL X.K H p (ns.map V.int) ∧ ns.length < 64 ∧ ∀ (l : Addr) (ns' : List Int), H l = none → ns'.Perm ns → ns'.Pairwise (· ≤ ·) → Q (.ref l) (upd H l (.lst (ns'.map V.int)))) := by
  intro pins s σ H xs us Q I r h
  obtain ⟨p, ns, rfl, hS, hn, q⟩ := h
  obtain ⟨u, rfl, ru⟩ := r.one
  cases ru
  obtain ⟨its, rv, pl, hz⟩ := I.list hS
  have hl := rv.length
  rw [List.length_map] at hl
  apply sorted_ints pl.isList (intsAre_of rv) (by omega)
  intro out ns' ia pm pw
  obtain ⟨e, he⟩ := sortedAll_at s.heap its out
  have fr : H (s.heap.objs.size + 1) = none := I.hok.fresh (Nat.le_succ _)
  refine ⟨.ref (s.heap.objs.size + 1), upd H (s.heap.objs.size + 1) (.lst (ns'.map V.int)), I.laid (t' := s.toks) (fun b o z => sortedAll_old z) (Nat.le_succ _) ?_, rfl, q _ ns' fr pm pw⟩
  refine ⟨?_, out.toList, e, vals_of_ints ia, he⟩
  rw [List.length_map, pm.length_eq]
  have z : (64 : Nat) ≤ sizeLine := by decide
  omega
/-! ## range with a step -/
end
section
variable {X : Cx} {tg : Expr}
/-! ## slices of lists with a step -/
end
end L2
end

section
set_option Elab.async false
set_option linter.all false
set_option maxRecDepth 100000
set_option maxHeartbeats 5000000
namespace L2
open PySem PySem.Spec PyProof.Rows Ex
/-! ## isinstance of plain data -/
def rIs (K : PySem.W.Frag) : List V → Hp → VK → Prop := fun xs H Q => ∃ x c t cv b, xs = [x, c] ∧ clsV c = some cv ∧ TyX K H x t ∧ PySem.W.kitOne K t cv = some b ∧ Q (.bl b) H
theorem same_upd {H : Hp} {p : Addr} {o : HO} (h : H p = none) : Same H (upd H p o) := fun b u e => by rw [upd_ne (ne_of_none e h)]; exact e
/-! ## loops over enumerate, and over a stepped range -/
/-! ## comprehensions without a test, over a list or a tuple that stays, each item by a promise that keeps what was -/
end L2
end

section
set_option Elab.async false
set_option linter.all false
set_option maxRecDepth 100000
set_option maxHeartbeats 5000000
namespace Ex
open PySem PySem.Spec PyProof.Rows PySem.Calls Builtin.SmallTypes
section
variable {prog : Program} {w : World} {A : Around} {E : Value → Shared → Prop} {s : Shared}
end
end Ex
namespace L2
open PySem PySem.Spec PyProof.Rows Ex
section
variable {X : Cx} {pos : Pos}
end
end L2
end

section
set_option Elab.async false
set_option linter.all false
set_option maxRecDepth 100000
set_option maxHeartbeats 5000000
namespace L2
open PySem PySem.Spec PyProof.Rows Ex
/-! ## a op b op c op d, as a test -/
section
variable {X : Cx} {a b c d : Expr} {ta tb tc td : TE} {pos : Pos}
end
end L2
end

section
set_option Elab.async false
set_option linter.all false
set_option maxRecDepth 100000
set_option maxHeartbeats 5000000
namespace Dv
open PySem L2 Ex

/-- the classes of the program -/
inductive Cn where
  | PointError | NoPoints | NoBox | NoAsks | NoRun | NoText | NoTurn | NoTree | NoTop | NotServed | NoRow | NoPoint | NoName | NoKey | NoBack | TooMany | Points | Grower | Search | Turner | Desk
  deriving DecidableEq
class KC where
  K : PySem.W.Frag
  cls : Cn → Addr
variable [KC]

/-- plain values -/
inductive D where
  | non | bl (b : Bool) | int (i : Int) | str (x : Str)
  | lst (xs : List D) | tup (xs : List D) | dic (ks vs : List D) | scr (ns : List Int) | ins (C : Cn) (ns : List Str) (vs : List D) | obj (C : Cn) (ns : List Str) (vs : List D)

mutual
/-- a value stands for data, on a part of the abstract heap -/
inductive Rp (R : Hp) : V → D → Prop
  | non : Rp R .non .non
  | bl (b : Bool) : Rp R (.bl b) (.bl b)
  | int (i : Int) : Rp R (.int i) (.int i)
  | str (x : Str) : Rp R (.str x) (.str x)
  | lst {a : Addr} {xs : List V} {ds : List D} : R a = some (.lst xs) → Rps R xs ds → Rp R (.ref a) (.lst ds)
  | tup {a : Addr} {xs : List V} {ds : List D} : R a = some (.tup xs) → Rps R xs ds → Rp R (.ref a) (.tup ds)
  | dnil {a : Addr} : R a = some (.dK []) → Rp R (.ref a) (.dic [] [])
  | scr {a : Addr} {ns : List Int} : SqL KC.K R a (ns.map V.int) → Rp R (.ref a) (.scr ns)
  | exc0 {a : Addr} {C : Cn} : R a = some (ExO (KC.cls C) a none false) → Rp R (.ref a) (.ins C [] [])
  | exc {a d : Addr} {C : Cn} {fs : List (Str × V)} {ds : List D} : R a = some (ExO (KC.cls C) a (some d) false) → R d = some (ExD d fs) → Rps R (fs.map (·.2)) ds → Rp R (.ref a) (.ins C (fs.map (·.1)) ds)
  | obj {a dx : Addr} {C : Cn} {fs : List (Str × V)} {ds : List D} : R a = some (.ins (KC.cls C) dx fs) → Rps R (fs.map (·.2)) ds → Rp R (.ref a) (.obj C (fs.map (·.1)) ds)
inductive Rps (R : Hp) : List V → List D → Prop
  | nil : Rps R [] []
  | cons {x : V} {d : D} {xs : List V} {ds : List D} : Rp R x d → Rps R xs ds → Rps R (x :: xs) (d :: ds)
end
mutual
theorem Rp.sm {H H' : Hp} (s : Same H H') : ∀ {x : V} {d : D}, Rp H x d → Rp H' x d
  | _, _, .non => .non
  | _, _, .bl b => .bl b
  | _, _, .int i => .int i
  | _, _, .str x => .str x
  | _, _, .lst e h => .lst (s _ _ e) (Rps.sm s h)
  | _, _, .tup e h => .tup (s _ _ e) (Rps.sm s h)
  | _, _, .dnil e => .dnil (s _ _ e)
  | _, _, .scr e => .scr (s.seq e)
  | _, _, .exc0 e => .exc0 (s _ _ e)
  | _, _, .exc e e' h => .exc (s _ _ e) (s _ _ e') (Rps.sm s h)
  | _, _, .obj e h => .obj (s _ _ e) (Rps.sm s h)
theorem Rps.sm {H H' : Hp} (s : Same H H') : ∀ {xs : List V} {ds : List D}, Rps H xs ds → Rps H' xs ds
  | _, _, .nil => .nil
  | _, _, .cons a b => .cons (Rp.sm s a) (Rps.sm s b)
end
section
variable {R : Hp}
theorem Rps.len : ∀ {xs : List V} {ds : List D}, Rps R xs ds → xs.length = ds.length
  | _, _, .nil => rfl
  | _, _, .cons _ h => congrArg Nat.succ (Rps.len h)
theorem Rps.at : ∀ {xs : List V} {ds : List D} {i : Nat} {x : V}, Rps R xs ds → xs[i]? = some x → ∃ d, ds[i]? = some d ∧ Rp R x d
  | _, _, _, _, .nil, e => by simp at e
  | _, _, 0, _, .cons r _, e => by simp at e; subst e; exact ⟨_, rfl, r⟩
  | _, _, i + 1, x, .cons _ t, e => by
    obtain ⟨u, h1, h2⟩ := Rps.at (i := i) (x := x) t (by simpa using e)
    exact ⟨u, by simpa using h1, h2⟩
theorem Rps.ta {xs : List V} {ds : List D} {i : Nat} {d : D} (h : Rps R xs ds) (e : ds[i]? = some d) : ∃ x, xs[i]? = some x ∧ Rp R x d := by
  have lt : i < xs.length := by rw [h.len]; exact (List.getElem?_eq_some_iff.mp e).1
  obtain ⟨d', e', r⟩ := h.at (List.getElem?_eq_getElem lt)
  rw [e] at e'; cases e'
  exact ⟨_, List.getElem?_eq_getElem lt, r⟩
theorem Rps.app : ∀ {xs ys : List V} {ds es : List D}, Rps R xs ds → Rps R ys es → Rps R (xs ++ ys) (ds ++ es)
  | _, _, _, _, .nil, h => h
  | _, _, _, _, .cons a b, h => .cons a (Rps.app b h)
theorem Rps.take : ∀ {xs : List V} {ds : List D} (n : Nat), Rps R xs ds → Rps R (xs.take n) (ds.take n)
  | _, _, 0, _ => .nil
  | _, _, _ + 1, .nil => .nil
  | _, _, n + 1, .cons a b => .cons a (Rps.take n b)
theorem Rps.drop : ∀ {xs : List V} {ds : List D} (n : Nat), Rps R xs ds → Rps R (xs.drop n) (ds.drop n)
  | _, _, 0, h => h
  | _, _, _ + 1, .nil => .nil
  | _, _, n + 1, .cons _ b => Rps.drop n b
theorem Rps.set {x : V} {d : D} (r : Rp R x d) : ∀ {xs : List V} {ds : List D} (n : Nat), Rps R xs ds → Rps R (xs.set n x) (ds.set n d)
  | _, _, _, .nil => .nil
  | _, _, 0, .cons _ b => .cons r b
  | _, _, n + 1, .cons a b => .cons a (Rps.set r n b)
theorem Rps.ints : ∀ ns : List Int, Rps R (ns.map V.int) (ns.map D.int)
  | [] => .nil
  | n :: r => .cons (.int n) (Rps.ints r)
theorem Rps.ints_inv : ∀ {ns : List Int} {xs : List V}, Rps R xs (ns.map D.int) → xs = ns.map V.int
  | [], _, .nil => rfl
  | _ :: _, _, .cons (.int _) b => by rw [Rps.ints_inv b]; rfl
end

/-! slots: frozen, own (its list is the name's alone), or one of the arguments that are changed in place -/
inductive Kd where
  | frz | own | io (k : Nat)
  deriving DecidableEq
abbrev Sl := Option (Kd × D)
abbrev En := List Sl
/-- what an expression hands on: a value; a new list; the name of a list -/
inductive RV where
  | val (d : D) | new (d : D) | var (i : Nat)

def OwR (R H : Hp) (v : V) (d : D) : Prop := ∃ a xs ds, v = .ref a ∧ R a = none ∧ H a = some (.lst xs) ∧ d = .lst ds ∧ Rps R xs ds
def SlR (ios : List Addr) (R H : Hp) (v : V) : Kd × D → Prop
  | (.frz, d) => Rp R v d
  | (.own, d) => OwR R H v d
  | (.io k, d) => OwR R H v d ∧ ∃ a, ios[k]? = some a ∧ v = .ref a
def owned : Kd → Bool
  | .frz => false
  | _ => true
/-- the addresses of the lists that are changed in place -/
def Ow (σ : St) (Γ : En) (b : Addr) : Prop := ∃ (i : Nat) (k : Kd) (d : D), Γ[i]? = some (some (k, d)) ∧ owned k = true ∧ σ[i]? = some (some (.ref b))
structure ER (ios : List Addr) (R H : Hp) (σ : St) (Γ : En) : Prop where
  sub : Same R H
  len : σ.length = Γ.length
  sl : ∀ (i : Nat) (s : Kd × D), Γ[i]? = some (some s) → ∃ v, σ[i]? = some (some v) ∧ SlR ios R H v s
  dj : ∀ (i j : Nat) (k l : Kd) (d e : D) (b : Addr), Γ[i]? = some (some (k, d)) → owned k = true → Γ[j]? = some (some (l, e)) → owned l = true → σ[i]? = some (some (.ref b)) → σ[j]? = some (some (.ref b)) → i = j
/-- from one state to a later one -/
structure Go (O : Addr → Prop) (R H : Hp) (O' : Addr → Prop) (R' H' : Hp) : Prop where
  rr : Same R R'
  hh : ∀ b o, H b = some o → ¬ O b → H' b = some o
  no : ∀ b o, H b = some o → ¬ O b → R b = none → R' b = none
  oo : ∀ b, O' b → O b ∨ H b = none
  th : ∀ b o, H b = some o → ∃ o', H' b = some o'
theorem Go.refl {O : Addr → Prop} {R H : Hp} : Go O R H O R H := ⟨Same.refl _, fun _ _ h _ => h, fun _ _ _ _ h => h, fun _ h => .inl h, fun _ o h => ⟨o, h⟩⟩
theorem Go.trans {O O1 O2 : Addr → Prop} {R H R1 H1 R2 H2 : Hp} (g : Go O R H O1 R1 H1) (k : Go O1 R1 H1 O2 R2 H2) : Go O R H O2 R2 H2 := by
  have nO : ∀ b o, H b = some o → ¬ O b → ¬ O1 b := fun b o h n z => (g.oo b z).elim n fun q => by rw [h] at q; cases q
  refine ⟨g.rr.trans k.rr, fun b o h n => k.hh b o (g.hh b o h n) (nO b o h n), fun b o h n r => k.no b o (g.hh b o h n) (nO b o h n) (g.no b o h n r), fun b z => ?_, fun b o h => let ⟨o1, h1⟩ := g.th b o h; k.th b o1 h1⟩
  rcases k.oo b z with q | q
  · exact g.oo b q
  · by_cases hO : O b
    · exact .inl hO
    · cases e : H b with
      | none => exact .inr rfl
      | some o => rw [g.hh b o e hO] at q; cases q
end Dv
end

section
set_option Elab.async false
set_option linter.all false
set_option maxRecDepth 100000
set_option maxHeartbeats 5000000
namespace Dv
open PySem L2 Ex
variable [KC]
/-- an exception: its class, its values -/
structure Xc where
  C : Cn
  fs : List (Str × D)
inductive Res (α : Type) where
  | ok (a : α) (Γ : En) | ex (x : Xc) (Γ : En) | st
abbrev M (α : Type) := En → Res α
def M.pure {α : Type} (a : α) : M α := fun Γ => .ok a Γ
def M.bind {α β : Type} (f : M α) (g : α → M β) : M β := fun Γ => match f Γ with
  | .ok a Γ' => g a Γ'
  | .ex x Γ' => .ex x Γ'
  | .st => .st
def M.st {α : Type} : M α := fun _ => .st
def M.ofO {α : Type} : Option α → M α
  | some a => M.pure a
  | none => M.st
def wpM {α : Type} (r : Res α) (K : α → En → Prop) (E : Xc → En → Prop) : Prop := match r with
  | .ok a Γ => K a Γ
  | .ex x Γ => E x Γ
  | .st => False
theorem wpM_bind {α β : Type} {f : M α} {g : α → M β} {Γ : En} {K : β → En → Prop} {E : Xc → En → Prop} : wpM (M.bind f g Γ) K E = wpM (f Γ) (fun a Γ' => wpM (g a Γ') K E) E := by
  unfold M.bind wpM
  cases f Γ <;> rfl
theorem wpM_mono {α : Type} {r : Res α} {K K' : α → En → Prop} {E E' : Xc → En → Prop} (h : wpM r K E) (hK : ∀ a Γ, K a Γ → K' a Γ) (hE : ∀ x Γ, E x Γ → E' x Γ) : wpM r K' E' := by
  cases r with
  | ok a Γ => exact hK _ _ h
  | ex x Γ => exact hE _ _ h
  | st => exact h
theorem wpM_ofO {α : Type} {o : Option α} {Γ : En} {K : α → En → Prop} {E : Xc → En → Prop} (h : wpM (M.ofO o Γ) K E) : ∃ a, o = some a ∧ K a Γ := by
  cases o with
  | none => exact False.elim h
  | some a => exact ⟨a, rfl, h⟩

/-- nothing is changed, things are laid -/
structure Al (R H R' H' : Hp) : Prop where
  sub : Same R' H'
  rr : Same R R'
  hh : Same H H'
  no : ∀ b o, H b = some o → R b = none → R' b = none
theorem Al.refl {R H : Hp} (s : Same R H) : Al R H R H := ⟨s, Same.refl _, Same.refl _, fun _ _ _ h => h⟩
theorem Al.go {O : Addr → Prop} {R H R' H' : Hp} (a : Al R H R' H') : Go O R H O R' H' := ⟨a.rr, fun b o h _ => a.hh b o h, fun b o h _ r => a.no b o h r, fun _ h => .inl h, fun b o h => ⟨o, a.hh b o h⟩⟩
theorem ER.ow {ios : List Addr} {R H : Hp} {σ : St} {Γ : En} (e : ER ios R H σ Γ) {b : Addr} (o : Ow σ Γ b) : R b = none ∧ ∃ xs, H b = some (.lst xs) := by
  obtain ⟨i, k, d, h1, h2, h3⟩ := o
  obtain ⟨v, hv, s⟩ := e.sl i _ h1
  rw [h3] at hv
  cases hv
  cases k with
  | frz => cases h2
  | own => obtain ⟨a, xs, ds, e1, e2, e3, _⟩ := s; cases e1; exact ⟨e2, xs, e3⟩
  | io n => obtain ⟨⟨a, xs, ds, e1, e2, e3, _⟩, _⟩ := s; cases e1; exact ⟨e2, xs, e3⟩
theorem OwR.mono {R H R' H' : Hp} {v : V} {d : D} (h : OwR R H v d) (rr : Same R R') (k : ∀ a xs, v = .ref a → H a = some (.lst xs) → R a = none → H' a = some (.lst xs) ∧ R' a = none) : OwR R' H' v d := by
  obtain ⟨a, xs, ds, rfl, h1, h2, rfl, h3⟩ := h
  obtain ⟨k1, k2⟩ := k a xs rfl h2 h1
  exact ⟨a, xs, ds, rfl, k2, k1, rfl, h3.sm rr⟩
theorem SlR.mono {ios : List Addr} {R H R' H' : Hp} {v : V} {s : Kd × D} (h : SlR ios R H v s) (rr : Same R R') (k : owned s.1 = true → ∀ a xs, v = .ref a → H a = some (.lst xs) → R a = none → H' a = some (.lst xs) ∧ R' a = none) : SlR ios R' H' v s := by
  obtain ⟨kd, d⟩ := s
  cases kd with
  | frz => exact Rp.sm rr h
  | own => exact OwR.mono h rr (k rfl)
  | io n => exact ⟨OwR.mono h.1 rr (k rfl), h.2⟩
theorem ER.al {ios : List Addr} {R H R' H' : Hp} {σ : St} {Γ : En} (e : ER ios R H σ Γ) (a : Al R H R' H') : ER ios R' H' σ Γ where
  sub := a.sub
  len := e.len
  sl := fun i s h => let ⟨v, hv, q⟩ := e.sl i s h; ⟨v, hv, q.mono a.rr fun _ b xs _ h1 h2 => ⟨a.hh _ _ h1, a.no _ _ h1 h2⟩⟩
  dj := e.dj
/-- the end of an expression -/
structure EPo (ios : List Addr) (R H : Hp) (σ : St) (Γ : En) (R' H' : Hp) (Γ' : En) : Prop where
  er : ER ios R' H' σ Γ'
  go : Go (Ow σ Γ) R H (Ow σ Γ') R' H'
  sh : ∀ b, Ow σ Γ' b → Ow σ Γ b
section
variable {ios : List Addr} {R H R1 H1 R2 H2 : Hp} {σ : St} {Γ Γ1 Γ2 : En}
theorem EPo.refl (e : ER ios R H σ Γ) : EPo ios R H σ Γ R H Γ := ⟨e, Go.refl, fun _ h => h⟩
theorem EPo.trans (a : EPo ios R H σ Γ R1 H1 Γ1) (b : EPo ios R1 H1 σ Γ1 R2 H2 Γ2) : EPo ios R H σ Γ R2 H2 Γ2 := ⟨b.er, a.go.trans b.go, fun c h => a.sh c (b.sh c h)⟩
theorem EPo.al (a : EPo ios R H σ Γ R1 H1 Γ1) (b : Al R1 H1 R2 H2) : EPo ios R H σ Γ R2 H2 Γ1 := ⟨a.er.al b, a.go.trans b.go, a.sh⟩
/-- how a result stands; H is the heap at the start -/
def RvR (R H H' : Hp) (σ : St) (x : V) : RV → Prop
  | .val d => Rp R x d
  | .new d => OwR R H' x d ∧ ∃ a, x = .ref a ∧ H a = none
  | .var i => σ[i]? = some (some x)
theorem RvR.go {rv : RV} {x : V} (e : ER ios R H σ Γ) (a : EPo ios R H σ Γ R1 H1 Γ1) (h : RvR R1 H H1 σ x rv) (b : Go (Ow σ Γ1) R1 H1 (Ow σ Γ2) R2 H2) : RvR R2 H H2 σ x rv := by
  cases rv with
  | val d => exact Rp.sm b.rr h
  | var i => exact h
  | new d =>
    obtain ⟨h1, p, hp, hn⟩ := h
    refine ⟨h1.mono b.rr fun q xs e1 e2 e3 => ?_, p, hp, hn⟩
    have : ¬ Ow σ Γ1 q := fun z => by
      have hq : q = p := by rw [hp] at e1; exact (V.ref.inj e1).symm
      obtain ⟨_, xs, e4⟩ := e.ow (a.sh q z)
      rw [hq, hn] at e4; cases e4
    exact ⟨b.hh _ _ e2 this, b.no _ _ e2 this e3⟩
/-- what is looked at -/
def Pk (R H : Hp) (x : V) (d : D) : Prop := Rp R x d ∨ ∃ a xs ds, x = .ref a ∧ H a = some (.lst xs) ∧ d = .lst ds ∧ Rps R xs ds
theorem Pk.lst {ds : List D} {x : V} (s : Same R H) (h : Pk R H x (.lst ds)) : ∃ a xs, x = .ref a ∧ H a = some (.lst xs) ∧ Rps R xs ds := by
  rcases h with h | ⟨a, xs, ds', rfl, h1, h2, h3⟩
  · cases h with | lst e q => exact ⟨_, _, rfl, s _ _ e, q⟩
  · cases h2; exact ⟨a, xs, rfl, h1, h3⟩
theorem Pk.hv {d : D} {x : V} (s : Same R H) (h : Pk R H x d) : Rp H x d := by
  rcases h with h | ⟨a, xs, ds', rfl, h1, rfl, h3⟩
  · exact h.sm s
  · exact .lst h1 (h3.sm s)
theorem Pk.int {i : Int} {x : V} (h : Pk R H x (.int i)) : x = .int i := by
  rcases h with h | ⟨a, xs, ds', rfl, h1, h2, h3⟩
  · cases h; rfl
  · cases h2
theorem Pk.bl {i : Bool} {x : V} (h : Pk R H x (.bl i)) : x = .bl i := by
  rcases h with h | ⟨a, xs, ds', rfl, h1, h2, h3⟩
  · cases h; rfl
  · cases h2
theorem Pk.str {i : Str} {x : V} (h : Pk R H x (.str i)) : x = .str i := by
  rcases h with h | ⟨a, xs, ds', rfl, h1, h2, h3⟩
  · cases h; rfl
  · cases h2
theorem Pk.tup {ds : List D} {x : V} (h : Pk R H x (.tup ds)) : ∃ a xs, x = .ref a ∧ R a = some (.tup xs) ∧ Rps R xs ds := by
  rcases h with h | ⟨a, xs, ds', rfl, h1, h2, h3⟩
  · cases h with | tup e q => exact ⟨_, _, rfl, e, q⟩
  · cases h2
end
def peek : RV → M D
  | .val d => M.pure d
  | .new d => M.pure d
  | .var i => fun Γ => match Γ[i]? with
    | some (some (_, d)) => .ok d Γ
    | _ => .st
def mat : RV → M D
  | .val d => M.pure d
  | .new d => M.pure d
  | .var i => fun Γ => match Γ[i]? with
    | some (some (_, d)) => .ok d (Γ.set i (some (.frz, d)))
    | _ => .st
section
variable {ios : List Addr} {R H R1 H1 R2 H2 : Hp} {σ : St} {Γ Γ1 Γ2 : En}
theorem SlR.pk {v : V} {s : Kd × D} (h : SlR ios R H v s) : Pk R H v s.2 := by
  obtain ⟨kd, d⟩ := s
  cases kd with
  | frz => exact .inl h
  | own => obtain ⟨a, xs, ds, h1, _, h2, h3, h4⟩ := h; exact .inr ⟨a, xs, ds, h1, h2, h3, h4⟩
  | io n => obtain ⟨⟨a, xs, ds, h1, _, h2, h3, h4⟩, _⟩ := h; exact .inr ⟨a, xs, ds, h1, h2, h3, h4⟩
theorem peek_ok {rv : RV} {x : V} {K : D → En → Prop} {E : Xc → En → Prop} (e : ER ios R1 H1 σ Γ1) (h : RvR R1 H H1 σ x rv) (k : wpM (peek rv Γ1) K E) : ∃ d, Pk R1 H1 x d ∧ K d Γ1 := by
  cases rv with
  | val d => exact ⟨d, .inl h, k⟩
  | new d =>
    obtain ⟨⟨a, xs, ds, h1, _, h2, h3, h4⟩, _⟩ := h
    exact ⟨d, .inr ⟨a, xs, ds, h1, h2, h3, h4⟩, k⟩
  | var i =>
    unfold peek at k
    dsimp only at k
    split at k
    · rename_i q
      obtain ⟨v, hv, s⟩ := e.sl i _ q
      have h : σ[i]? = some (some x) := h
      rw [h] at hv
      cases hv
      exact ⟨_, s.pk, k⟩
    · exact False.elim k
/-- a part more that stays -/
def ext (R H : Hp) (a : Addr) : Hp := fun b => if b = a then H a else R b
theorem ext_same {R H : Hp} {a : Addr} (h : R a = none) : Same R (ext R H a) := fun b o e => by
  unfold ext
  split
  · rename_i z; rw [z, h] at e; cases e
  · exact e
theorem ext_at {R H : Hp} {a : Addr} : ext R H a a = H a := by unfold ext; rw [if_pos rfl]
theorem ext_ne {R H : Hp} {a b : Addr} (h : b ≠ a) : ext R H a b = R b := by unfold ext; rw [if_neg h]
theorem ext_sub {R H : Hp} {a : Addr} (s : Same R H) : Same (ext R H a) H := fun b o e => by
  unfold ext at e
  split at e
  · rename_i z; rw [z]; exact e
  · exact s b o e
theorem ow_set {i : Nat} {d : D} {b : Addr} (h : Ow σ (Γ.set i (some (.frz, d))) b) : Ow σ Γ b ∧ ¬ (σ[i]? = some (some (.ref b)) ∧ ∀ j k d, Γ[j]? = some (some (k, d)) → owned k = true → σ[j]? = some (some (.ref b)) → j = i) := by
  obtain ⟨j, k, e, h1, h2, h3⟩ := h
  by_cases hj : j = i
  · subst hj
    by_cases hl : j < Γ.length
    · rw [List.getElem?_set_self hl] at h1; cases h1; cases h2
    · rw [List.getElem?_eq_none (by rw [List.length_set]; omega)] at h1; cases h1
  · rw [List.getElem?_set_ne (Ne.symm hj)] at h1
    exact ⟨⟨j, k, e, h1, h2, h3⟩, fun ⟨_, z⟩ => hj (z j k e h1 h2 h3)⟩
/-- a name's list stays as it is from here on -/
theorem ER.freeze {i : Nat} {k : Kd} {d : D} {x : V} (e : ER ios R H σ Γ) (hi : Γ[i]? = some (some (k, d))) (hx : σ[i]? = some (some x)) : ∃ R', EPo ios R H σ Γ R' H (Γ.set i (some (.frz, d))) ∧ Rp R' x d := by
  obtain ⟨v, hv, s⟩ := e.sl i _ hi
  rw [hx] at hv
  cases hv
  have hlt : i < Γ.length := (List.getElem?_eq_some_iff.mp hi).1
  by_cases hk : owned k = true
  · obtain ⟨a, xs, ds, rfl, h1, h2, rfl, h3⟩ : OwR R H x d := by
      cases k with
      | frz => cases hk
      | own => exact s
      | io n => exact s.1
    have inj : ∀ j l z, Γ[j]? = some (some (l, z)) → owned l = true → σ[j]? = some (some (.ref a)) → j = i := fun j l z q1 q2 q3 => (e.dj i j k l _ z a hi hk q1 q2 hx q3).symm
    have rr : Same R (ext R H a) := ext_same h1
    refine ⟨ext R H a, ⟨⟨ext_sub e.sub, by rw [List.length_set]; exact e.len, fun j t hj => ?_, fun j j' l l' z z' b q1 q2 q3 q4 q5 q6 => ?_⟩, ⟨rr, fun _ _ h _ => h, fun b o hb nb rb => ?_, fun b z => .inl (ow_set z).1, fun b o h => ⟨o, h⟩⟩, fun b z => (ow_set z).1⟩, .lst (by rw [ext_at]; exact h2) (h3.sm rr)⟩
    · by_cases hji : j = i
      · subst hji
        rw [List.getElem?_set_self hlt] at hj
        cases hj
        exact ⟨_, hx, .lst (by rw [ext_at]; exact h2) (h3.sm rr)⟩
      · rw [List.getElem?_set_ne (Ne.symm hji)] at hj
        obtain ⟨v, hv, q⟩ := e.sl j t hj
        refine ⟨v, hv, q.mono rr fun ho b ys eb hb rb => ⟨hb, ?_⟩⟩
        rw [ext_ne]
        · exact rb
        · rintro rfl
          subst eb
          exact hji (inj j t.1 t.2 hj ho hv)
    · have g1 : Γ[j]? = some (some (l, z)) := by
        by_cases hji : j = i
        · subst hji; rw [List.getElem?_set_self hlt] at q1; cases q1; cases q2
        · rwa [List.getElem?_set_ne (Ne.symm hji)] at q1
      have g2 : Γ[j']? = some (some (l', z')) := by
        by_cases hji : j' = i
        · subst hji; rw [List.getElem?_set_self hlt] at q3; cases q3; cases q4
        · rwa [List.getElem?_set_ne (Ne.symm hji)] at q3
      exact e.dj j j' l l' z z' b g1 q2 g2 q4 q5 q6
    · rw [ext_ne]
      · exact rb
      · rintro rfl
        exact nb ⟨i, k, _, hi, hk, hx⟩
  · have hk : k = .frz := by cases k <;> first | rfl | exact absurd rfl hk
    subst hk
    have : Γ.set i (some (.frz, d)) = Γ := by
      apply List.ext_getElem?
      intro j
      by_cases hj : j = i
      · subst hj; rw [List.getElem?_set_self hlt, hi]
      · rw [List.getElem?_set_ne (Ne.symm hj)]
    rw [this]
    exact ⟨R, EPo.refl e, s⟩
theorem mat_ok {rv : RV} {x : V} {K : D → En → Prop} {E : Xc → En → Prop} (e : ER ios R H σ Γ) (a : EPo ios R H σ Γ R1 H1 Γ1) (h : RvR R1 H H1 σ x rv) (k : wpM (mat rv Γ1) K E) : ∃ d Γ2 R2, EPo ios R H σ Γ R2 H1 Γ2 ∧ Same R1 R2 ∧ Rp R2 x d ∧ K d Γ2 := by
  cases rv with
  | val d => exact ⟨d, Γ1, R1, a, Same.refl _, h, k⟩
  | new d =>
    obtain ⟨⟨p, xs, ds, rfl, h1, h2, rfl, h3⟩, q, hq, hn⟩ := h
    cases hq
    have rr : Same R1 (ext R1 H1 p) := ext_same h1
    have nO : ¬ Ow σ Γ p := fun z => by obtain ⟨_, xs, e4⟩ := e.ow z; rw [hn] at e4; cases e4
    refine ⟨_, Γ1, ext R1 H1 p, ⟨⟨ext_sub a.er.sub, a.er.len, fun j t hj => ?_, a.er.dj⟩, ⟨a.go.rr.trans rr, a.go.hh, fun b o hb nb rb => ?_, a.go.oo, a.go.th⟩, a.sh⟩, rr, .lst (by rw [ext_at]; exact h2) (h3.sm rr), k⟩
    · obtain ⟨v, hv, s⟩ := a.er.sl j t hj
      refine ⟨v, hv, s.mono rr fun ho b ys eb hb rb => ⟨hb, ?_⟩⟩
      rw [ext_ne]
      · exact rb
      · rintro rfl
        subst eb
        exact nO (a.sh _ ⟨j, t.1, t.2, hj, ho, hv⟩)
    · rw [ext_ne]
      · exact a.go.no b o hb nb rb
      · rintro rfl
        rw [hn] at hb; cases hb
  | var i =>
    unfold mat at k
    dsimp only at k
    split at k
    · rename_i q
      obtain ⟨R', f, r⟩ := a.er.freeze q h
      exact ⟨_, _, R', a.trans f, f.go.rr, r, k⟩
    · exact False.elim k
end
end Dv
end

section
set_option Elab.async false
set_option linter.all false
set_option maxRecDepth 100000
set_option maxHeartbeats 5000000
namespace Dv
open PySem L2 Ex
variable [KC]
/-- an exception that flies: its object, its values; H0 the heap at the start -/
def XcR (R H0 H : Hp) (e : Addr) (x : Xc) : Prop := R e = none ∧ H0 e = none ∧ ((x.fs = [] ∧ H e = some (ExO (KC.cls x.C) e none false)) ∨
  ∃ d fs, H e = some (ExO (KC.cls x.C) e (some d) false) ∧ H d = some (ExD d fs) ∧ R d = none ∧ H0 d = none ∧ fs.map (·.1) = x.fs.map (·.1) ∧ Rps R (fs.map (·.2)) (x.fs.map (·.2)))
theorem XcR.back {R H0 H1 H : Hp} {e : Addr} {x : Xc} (b : ∀ a, H1 a = none → H0 a = none) (h : XcR R H1 H e x) : XcR R H0 H e x := by
  obtain ⟨h1, h2, h3⟩ := h
  refine ⟨h1, b _ h2, h3.imp id fun ⟨d, fs, a1, a2, a3, a4, a5⟩ => ⟨d, fs, a1, a2, a3, b _ a4, a5⟩⟩
theorem EPo.since {ios : List Addr} {R H R' H' : Hp} {σ : St} {Γ Γ' : En} (h : EPo ios R H σ Γ R' H' Γ') : ∀ b, H' b = none → H b = none := fun b hb => by
  cases q : H b with
  | none => rfl
  | some o =>
    obtain ⟨o', z⟩ := h.go.th b o q
    rw [hb] at z; cases z
def EXP (EE : XKS) (ios : List Addr) (R H : Hp) (σ : St) (Γ : En) : Xc → En → Prop := fun x Γ' => ∀ e H' R', EPo ios R H σ Γ R' H' Γ' → XcR R' H H' e x → EE σ (.ref (KC.cls x.C)) (some e) H'
theorem EXP.trans {EE : XKS} {ios : List Addr} {R H R1 H1 : Hp} {σ : St} {Γ Γ1 : En} (a : EPo ios R H σ Γ R1 H1 Γ1) {x : Xc} {Γ' : En} (h : EXP EE ios R H σ Γ x Γ') : EXP EE ios R1 H1 σ Γ1 x Γ' := fun e H' R' b q => h e H' R' (a.trans b) (q.back a.since)
def RdE (EE : XKS) (ios : List Addr) (t : TE) (f : M RV) : Prop := ∀ σ H R Γ Q, ER ios R H σ Γ →
  wpM (f Γ) (fun rv Γ' => ∀ x H' R', EPo ios R H σ Γ R' H' Γ' → RvR R' H H' σ x rv → Q x H') (EXP EE ios R H σ Γ) → t σ H Q
def RdT (EE : XKS) (ios : List Addr) (t : TT) (f : M Bool) : Prop := ∀ σ H R Γ Q, ER ios R H σ Γ →
  wpM (f Γ) (fun b Γ' => ∀ H' R', EPo ios R H σ Γ R' H' Γ' → Q b H') (EXP EE ios R H σ Γ) → t σ H Q
def VE (X : Cx) (EE : XKS) (ios : List Addr) (e : Expr) (f : M RV) : Prop := ∃ t, PE X e t ∧ RdE EE ios t f
def VT (X : Cx) (EE : XKS) (ios : List Addr) (e : Expr) (f : M Bool) : Prop := ∃ t, PT X e t ∧ RdT EE ios t f
def VW (X : Cx) (EE : XKS) (ios : List Addr) (e : Expr) (f : M Bool) : Prop := ∃ t, PW X e t ∧ RdT EE ios t f
/-- arguments: values, and names of lists -/
def ArR (R : Hp) (σ : St) (x : V) : RV → Prop
  | .val d => Rp R x d
  | .new _ => False
  | .var i => σ[i]? = some (some x)
inductive ArsR (R : Hp) (σ : St) : List V → List RV → Prop where
  | nil : ArsR R σ [] []
  | cons {x : V} {rv : RV} {xs : List V} {rvs : List RV} : ArR R σ x rv → ArsR R σ xs rvs → ArsR R σ (x :: xs) (rv :: rvs)
theorem ArR.sm {R R' : Hp} {σ : St} (s : Same R R') {x : V} {rv : RV} (h : ArR R σ x rv) : ArR R' σ x rv := by
  cases rv with
  | val d => exact Rp.sm s h
  | new d => exact h
  | var i => exact h
theorem ArsR.sm {R R' : Hp} {σ : St} (s : Same R R') : ∀ {xs : List V} {rvs : List RV}, ArsR R σ xs rvs → ArsR R' σ xs rvs
  | _, _, .nil => .nil
  | _, _, .cons a b => .cons (a.sm s) (b.sm s)
theorem ArR.rv {R H H' : Hp} {σ : St} {x : V} {rv : RV} (h : ArR R σ x rv) : RvR R H H' σ x rv := by
  cases rv with
  | val d => exact h
  | new d => exact h.elim
  | var i => exact h
def RdA (EE : XKS) (ios : List Addr) (t : TA) (f : M (List RV)) : Prop := ∀ σ H R Γ Q, ER ios R H σ Γ →
  wpM (f Γ) (fun rvs Γ' => ∀ xs H' R', EPo ios R H σ Γ R' H' Γ' → ArsR R' σ xs rvs → Q xs H') (EXP EE ios R H σ Γ) → t σ H Q
def VA (X : Cx) (EE : XKS) (ios : List Addr) (es : List Expr) (f : M (List RV)) : Prop := ∃ t, PA X es t ∧ RdA EE ios t f

section
variable {X : Cx} {EE : XKS} {ios : List Addr} {e a b c : Expr} {f g k : M RV} {pos : Pos}
def vName (i : Nat) : M RV := fun Γ => match Γ[i]? with
  | some (some (.frz, d)) => .ok (.val d) Γ
  | some (some _) => .ok (.var i) Γ
  | _ => .st
theorem ve_name {i : Nat} (h : PE X e (tVar i)) : VE X EE ios e (vName i) := by
  refine ⟨_, h, fun σ H R Γ Q er w => ?_⟩
  unfold vName at w
  split at w
  · rename_i q
    obtain ⟨v, hv, s⟩ := er.sl i _ q
    exact ⟨v, hv, w v H R (EPo.refl er) s⟩
  · rename_i q
    obtain ⟨v, hv, s⟩ := er.sl i _ q
    exact ⟨v, hv, w v H R (EPo.refl er) hv⟩
  · exact False.elim w
theorem ve_cst {v : V} {d : D} (h : PE X e (tC v)) (r : ∀ R, Rp R v d) : VE X EE ios e (M.pure (.val d)) :=
  ⟨_, h, fun σ H R Γ Q er w => w v H R (EPo.refl er) (r R)⟩
theorem ve_int {i : Int} {j : Nat} : VE X EE ios (.Constant (.int i) j pos) (M.pure (.val (.int i))) := ve_cst pe_int fun _ => .int i
theorem ve_bl {i : Bool} {j : Nat} : VE X EE ios (.Constant (.bool i) j pos) (M.pure (.val (.bl i))) := ve_cst pe_bl fun _ => .bl i
theorem ve_non {j : Nat} : VE X EE ios (.Constant .none j pos) (M.pure (.val .non)) := ve_cst pe_non fun _ => .non
theorem ve_str {i : Str} {j : Nat} : VE X EE ios (.Constant (.str i) j pos) (M.pure (.val (.str i))) := ve_cst pe_str fun _ => .str i
/-- how a result of plain work stands -/
def RvA (R H H' : Hp) (z : V) : RV → Prop
  | .val d => Rp R z d
  | .new d => OwR R H' z d ∧ ∃ a, z = .ref a ∧ H a = none
  | .var _ => False
theorem RvA.rv {R H0 H H' : Hp} {σ : St} {z : V} {rv : RV} (h : RvA R H H' z rv) (s : ∀ b, H b = none → H0 b = none) : RvR R H0 H' σ z rv := by
  cases rv with
  | val d => exact h
  | new d => obtain ⟨h1, a, h2, h3⟩ := h; exact ⟨h1, a, h2, s _ h3⟩
  | var i => exact h.elim
theorem EPo.back {R H R' H' : Hp} {σ : St} {Γ Γ' : En} (er : ER ios R H σ Γ) (h : EPo ios R H σ Γ R' H' Γ') : ∀ b, H' b = none → H b = none := fun b hb => by
  cases q : H b with
  | none => rfl
  | some o =>
    obtain ⟨o', z⟩ := h.go.th b o q
    rw [hb] at z; cases z
end
end Dv
end

section
set_option Elab.async false
set_option linter.all false
set_option maxRecDepth 100000
set_option maxHeartbeats 5000000
namespace Dv
open PySem L2 Ex
variable [KC]
section
variable {X : Cx} {EE : XKS} {ios : List Addr} {e a b c : Expr} {f g k : M RV} {pos : Pos} {ta tb tc t : TE} {r r' : R2}
/-! two operands -/
def OpV (r : R2) (g : D → D → Option RV) : Prop := ∀ R H x y d e rv (Q : VK), Same R H → Pk R H x d → Pk R H y e → g d e = some rv → (∀ z H' R', Al R H R' H' → RvA R' H H' z rv → Q z H') → r x y H Q
def op2 (o : D → D → Option RV) (f g : M RV) : M RV := M.bind f fun x => M.bind g fun y => M.bind (peek x) fun d => M.bind (peek y) fun e => M.ofO (o d e)
theorem rd_op {o : D → D → Option RV} (ho : OpV r o) (ha : RdE EE ios ta f) (hb : RdE EE ios tb g) : RdE EE ios (tOp r ta tb) (op2 o f g) := by
  intro σ H R Γ Q er w
  unfold op2 at w
  rw [wpM_bind] at w
  refine ha σ H R Γ _ er (wpM_mono w (fun rx Γ1 w x H1 R1 p1 hx => ?_) fun _ _ z => z)
  rw [wpM_bind] at w
  refine hb σ H1 R1 Γ1 _ p1.er (wpM_mono w (fun ry Γ2 w y H2 R2 p2 hy => ?_) fun _ _ z => EXP.trans p1 z)
  rw [wpM_bind] at w
  obtain ⟨d, pd, w⟩ := peek_ok p2.er (hx.go er p1 p2.go) w
  rw [wpM_bind] at w
  obtain ⟨e, pe, w⟩ := peek_ok p2.er hy w
  obtain ⟨rv, hg, w⟩ := wpM_ofO w
  exact ho R2 H2 x y d e rv Q p2.er.sub pd pe hg fun z H' R' al ra => w z H' R' ((p1.trans p2).al al) (ra.rv ((p1.trans p2).back er))
theorem ve_op {op : Operator} {o : D → D → Option RV} (h : OpR X (binaryOp op) r) (ho : OpV r o) (ha : VE X EE ios a f) (hb : VE X EE ios b g) : VE X EE ios (.BinOp a op b pos) (op2 o f g) :=
  let ⟨_, h1, h2⟩ := ha; let ⟨_, h3, h4⟩ := hb; ⟨_, pe_op h h1 h3, rd_op ho h2 h4⟩
theorem ve_cmp {op : CmpOp} {o : D → D → Option RV} (h : OpR X (compareOp op) r) (ho : OpV r o) (ha : VE X EE ios a f) (hb : VE X EE ios b g) (hm : behindInMarks op b = false) : VE X EE ios (.Compare a [op] [b] pos) (op2 o f g) :=
  let ⟨_, h1, h2⟩ := ha; let ⟨_, h3, h4⟩ := hb; ⟨_, pe_cmpR h h1 h3 hm, rd_op ho h2 h4⟩
def asB (rv : RV) : M Bool := match rv with
  | .val (.bl b) => M.pure b
  | _ => M.st
theorem rd_test (h : RdE EE ios t f) : RdT EE ios (tTest t) (M.bind f asB) := by
  intro σ H R Γ Q er w
  rw [wpM_bind] at w
  refine h σ H R Γ _ er (wpM_mono w (fun rv Γ1 w x H1 R1 p1 hx => ?_) fun _ _ z => z)
  unfold asB at w
  split at w
  · cases hx; exact ⟨_, rfl, w H1 R1 p1⟩
  · exact False.elim w
theorem vt_cmp {op : CmpOp} {o : D → D → Option RV} (h : OpR X (compareOp op) r) (ho : OpV r o) (ha : VE X EE ios a f) (hb : VE X EE ios b g) (hm : behindInMarks op b = false) : VT X EE ios (.Compare a [op] [b] pos) (M.bind (op2 o f g) asB) :=
  let ⟨_, h1, h2⟩ := ha; let ⟨_, h3, h4⟩ := hb; ⟨_, pt_cmpR h h1 h3 hm, rd_test (rd_op ho h2 h4)⟩
theorem vt_val (ha : VE X EE ios e f) (he : ∀ whole, isTrue e X.env whole = (do let v ← whole; standAt e.pos; holding [v] (truthy v)) := by intro _; rfl) : VT X EE ios e (M.bind f asB) :=
  let ⟨_, h1, h2⟩ := ha; ⟨_, pt_val h1 he, rd_test h2⟩
/-! a op b op c -/
def op3 (o o' : D → D → Option RV) (f g k : M RV) : M RV := M.bind f fun x => M.bind g fun y => M.bind (peek x) fun d => M.bind (peek y) fun e => M.bind (M.bind (M.ofO (o d e)) asB) fun q =>
  if q then M.bind k fun z => M.bind (peek y) fun e' => M.bind (peek z) fun u => M.ofO (o' e' u) else M.pure (.val (.bl false))
theorem rd_chain {o o' : D → D → Option RV} (ho : OpV r o) (ho' : OpV r' o') (ha : RdE EE ios ta f) (hb : RdE EE ios tb g) (hc : RdE EE ios tc k) : RdE EE ios (tChain r r' ta tb tc) (op3 o o' f g k) := by
  intro σ H R Γ Q er w
  unfold op3 at w
  rw [wpM_bind] at w
  refine ha σ H R Γ _ er (wpM_mono w (fun rx Γ1 w x H1 R1 p1 hx => ?_) fun _ _ z => z)
  rw [wpM_bind] at w
  refine hb σ H1 R1 Γ1 _ p1.er (wpM_mono w (fun ry Γ2 w y H2 R2 p2 hy => ?_) fun _ _ z => EXP.trans p1 z)
  have p12 := p1.trans p2
  rw [wpM_bind] at w
  obtain ⟨d, pd, w⟩ := peek_ok p2.er (hx.go er p1 p2.go) w
  rw [wpM_bind] at w
  obtain ⟨e, pe, w⟩ := peek_ok p2.er hy w
  rw [wpM_bind, wpM_bind] at w
  obtain ⟨rv, hg, w⟩ := wpM_ofO w
  refine ho R2 H2 x y d e rv _ p2.er.sub pd pe hg fun z H3 R3 al ra => ?_
  unfold asB at w
  split at w
  · rename_i q
    cases ra
    refine ⟨q, rfl, ?_⟩
    have w : wpM ((if q = true then M.bind k fun z => M.bind (peek ry) fun e' => M.bind (peek z) fun u => M.ofO (o' e' u) else M.pure (.val (.bl false))) Γ2) _ _ := w
    cases q with
    | false => exact iteF (w (.bl false) H3 R3 (p12.al al) (.bl false))
    | true =>
      refine iteT ?_
      simp only [if_true] at w
      rw [wpM_bind] at w
      have p13 := p12.al al
      refine hc σ H3 R3 Γ2 _ p13.er (wpM_mono w (fun rz Γ4 w z H4 R4 p4 hz => ?_) fun _ _ z => EXP.trans p13 z)
      rw [wpM_bind] at w
      have hy3 : RvR R3 H1 H3 σ y ry := hy.go p1.er p2 al.go
      obtain ⟨e', pe', w⟩ := peek_ok p4.er (hy3.go p1.er (p2.al al) p4.go) w
      rw [wpM_bind] at w
      obtain ⟨u, pu, w⟩ := peek_ok p4.er hz w
      obtain ⟨rv, hg', w⟩ := wpM_ofO w
      exact ho' R4 H4 y z e' u rv Q p4.er.sub pe' pu hg' fun v H' R' al' ra' => w v H' R' ((p13.trans p4).al al') (ra'.rv ((p13.trans p4).back er))
  · exact False.elim w
theorem ve_chain {op op' : CmpOp} {o o' : D → D → Option RV} (h : OpR X (compareOp op) r) (h' : OpR X (compareOp op') r') (ho : OpV r o) (ho' : OpV r' o') (ha : VE X EE ios a f) (hb : VE X EE ios b g) (hc : VE X EE ios c k)
    (hm : lastMarks [op, op'] [b, c] = false := by with_unfolding_all rfl) : VE X EE ios (.Compare a [op, op'] [b, c] pos) (op3 o o' f g k) :=
  let ⟨_, h1, h2⟩ := ha; let ⟨_, h3, h4⟩ := hb; let ⟨_, h5, h6⟩ := hc; ⟨_, pe_chain h h' h1 h3 h5 hm, rd_chain ho ho' h2 h4 h6⟩
/-! tests -/
variable {p q : M Bool}
def ngM (p : M Bool) : M Bool := M.bind p fun b => M.pure (!b)
def andM (p q : M Bool) : M Bool := M.bind p fun b => if b then q else M.pure false
def orM (p q : M Bool) : M Bool := M.bind p fun b => if b then M.pure true else q
theorem rd_not {t : TT} (h : RdT EE ios t p) : RdT EE ios (tNot t) (ngM p) := by
  intro σ H R Γ Q er w
  unfold ngM at w
  rw [wpM_bind] at w
  exact h σ H R Γ _ er (wpM_mono w (fun b Γ1 w H1 R1 p1 => w H1 R1 p1) fun _ _ z => z)
theorem rd_and {t u : TT} (h : RdT EE ios t p) (h' : RdT EE ios u q) : RdT EE ios (tAnd t u) (andM p q) := by
  intro σ H R Γ Q er w
  unfold andM at w
  rw [wpM_bind] at w
  refine h σ H R Γ _ er (wpM_mono w (fun b Γ1 w H1 R1 p1 => ?_) fun _ _ z => z)
  cases b with
  | false => exact iteF (w H1 R1 p1)
  | true => exact iteT (h' σ H1 R1 Γ1 _ p1.er (wpM_mono w (fun b Γ2 w H2 R2 p2 => w H2 R2 (p1.trans p2)) fun _ _ z => EXP.trans p1 z))
theorem rd_or {t u : TT} (h : RdT EE ios t p) (h' : RdT EE ios u q) : RdT EE ios (tOr t u) (orM p q) := by
  intro σ H R Γ Q er w
  unfold orM at w
  rw [wpM_bind] at w
  refine h σ H R Γ _ er (wpM_mono w (fun b Γ1 w H1 R1 p1 => ?_) fun _ _ z => z)
  cases b with
  | true => exact iteT (w H1 R1 p1)
  | false => exact iteF (h' σ H1 R1 Γ1 _ p1.er (wpM_mono w (fun b Γ2 w H2 R2 p2 => w H2 R2 (p1.trans p2)) fun _ _ z => EXP.trans p1 z))
theorem vt_not (h : VT X EE ios a p) : VT X EE ios (.UnaryOp .Not a pos) (ngM p) := let ⟨_, h1, h2⟩ := h; ⟨_, pt_not h1, rd_not h2⟩
theorem vw_and1 (h : VT X EE ios a p) : VW X EE ios (.BoolOp .And [a] pos) p := let ⟨_, h1, h2⟩ := h; ⟨_, pw_and1 h1, h2⟩
theorem vw_or1 (h : VT X EE ios a p) : VW X EE ios (.BoolOp .Or [a] pos) p := let ⟨_, h1, h2⟩ := h; ⟨_, pw_or1 h1, h2⟩
theorem vw_and {rest : List Expr} (h : VT X EE ios a p) (h' : VW X EE ios (.BoolOp .And (b :: rest) pos) q) : VW X EE ios (.BoolOp .And (a :: b :: rest) pos) (andM p q) := let ⟨_, h1, h2⟩ := h; let ⟨_, h3, h4⟩ := h'; ⟨_, pw_and h1 h3, rd_and h2 h4⟩
theorem vw_or {rest : List Expr} (h : VT X EE ios a p) (h' : VW X EE ios (.BoolOp .Or (b :: rest) pos) q) : VW X EE ios (.BoolOp .Or (a :: b :: rest) pos) (orM p q) := let ⟨_, h1, h2⟩ := h; let ⟨_, h3, h4⟩ := h'; ⟨_, pw_or h1 h3, rd_or h2 h4⟩
theorem vt_bool (h : VW X EE ios a p) : VT X EE ios a p := let ⟨_, h1, h2⟩ := h; ⟨_, PW.pt h1, h2⟩
/-! truths as values -/
def valB (p : M Bool) : M RV := M.bind p fun b => M.pure (.val (.bl b))
def andV (f g : M RV) : M RV := M.bind (M.bind f asB) fun b => if b then g else M.pure (.val (.bl false))
def orV (f g : M RV) : M RV := M.bind (M.bind f asB) fun b => if b then M.pure (.val (.bl true)) else g
theorem rv_later {R0 H0 R H R' H' : Hp} {σ : St} {Γ0 Γ Γ' : En} {x : V} {rv : RV} (er : ER ios R0 H0 σ Γ0) (p1 : EPo ios R0 H0 σ Γ0 R H Γ) (h : RvR R' H H' σ x rv) : RvR R' H0 H' σ x rv := by
  cases rv with
  | val d => exact h
  | new d => obtain ⟨h1, a, h2, h3⟩ := h; exact ⟨h1, a, h2, p1.back er _ h3⟩
  | var i => exact h
theorem ve_one {op : BoolOp} (h : VE X EE ios a f) : VE X EE ios (.BoolOp op [a] pos) f := let ⟨_, h1, h2⟩ := h; ⟨_, pe_one h1, h2⟩
theorem ve_and {rest : List Expr} (h : VE X EE ios a f) (h' : VE X EE ios (.BoolOp .And (b :: rest) pos) g) : VE X EE ios (.BoolOp .And (a :: b :: rest) pos) (andV f g) := by
  obtain ⟨_, h1, h2⟩ := h
  obtain ⟨_, h3, h4⟩ := h'
  refine ⟨_, pe_and h1 h3, fun σ H R Γ Q er w => ?_⟩
  unfold andV at w
  rw [wpM_bind] at w
  refine h2 σ H R Γ _ er (wpM_mono (by rw [wpM_bind] at w; exact w) (fun rv Γ1 w x H1 R1 p1 hx => ?_) fun _ _ z => z)
  unfold asB at w
  split at w
  · rename_i q
    cases hx
    refine ⟨_, rfl, ?_⟩
    cases q with
    | false => exact iteF (w (.bl false) H1 R1 p1 (.bl false))
    | true => exact iteT (h4 σ H1 R1 Γ1 _ p1.er (wpM_mono w (fun rv Γ2 w y H2 R2 p2 hy => w y H2 R2 (p1.trans p2) (rv_later (Γ' := Γ2) er p1 hy)) fun _ _ z => EXP.trans p1 z))
  · exact False.elim w
theorem ve_not (h : VE X EE ios a f) : VE X EE ios (.UnaryOp .Not a pos) (valB (ngM (M.bind f asB))) := by
  obtain ⟨_, h1, h2⟩ := h
  refine ⟨_, pe_not h1, fun σ H R Γ Q er w => ?_⟩
  unfold valB ngM at w
  rw [wpM_bind, wpM_bind, wpM_bind] at w
  refine h2 σ H R Γ _ er (wpM_mono w (fun rv Γ1 w x H1 R1 p1 hx => ?_) fun _ _ z => z)
  unfold asB at w
  split at w
  · cases hx
    exact ⟨_, rfl, w _ H1 R1 p1 (.bl _)⟩
  · exact False.elim w
def iteM (p : M Bool) (f g : M RV) : M RV := M.bind p fun b => if b then f else g
theorem ve_ite (hc : VT X EE ios c p) (h : VE X EE ios a f) (h' : VE X EE ios b g) : VE X EE ios (.IfExp c a b pos) (iteM p f g) := by
  obtain ⟨_, h0, h0'⟩ := hc
  obtain ⟨_, h1, h2⟩ := h
  obtain ⟨_, h3, h4⟩ := h'
  refine ⟨_, pe_ifExp h0 h1 h3, fun σ H R Γ Q er w => ?_⟩
  unfold iteM at w
  rw [wpM_bind] at w
  refine h0' σ H R Γ _ er (wpM_mono w (fun b Γ1 w H1 R1 p1 => ?_) fun _ _ z => z)
  cases b with
  | true => exact iteT (h2 σ H1 R1 Γ1 _ p1.er (wpM_mono w (fun rv Γ2 w y H2 R2 p2 hy => w y H2 R2 (p1.trans p2) (rv_later (Γ' := Γ2) er p1 hy)) fun _ _ z => EXP.trans p1 z))
  | false => exact iteF (h4 σ H1 R1 Γ1 _ p1.er (wpM_mono w (fun rv Γ2 w y H2 R2 p2 hy => w y H2 R2 (p1.trans p2) (rv_later (Γ' := Γ2) er p1 hy)) fun _ _ z => EXP.trans p1 z))
end
end Dv
end

section
set_option Elab.async false
set_option linter.all false
set_option maxRecDepth 100000
set_option maxHeartbeats 5000000
namespace Dv
open PySem L2 Ex
variable [KC]
/-! data as the library has it -/
mutual
def D.py : D → PyData
  | .non => .none
  | .bl b => .bool b
  | .int i => .int i
  | .str x => .str x
  | .lst xs => .list (D.pys xs)
  | .tup xs => .tuple (D.pys xs)
  | .dic _ _ => .dict []
  | .scr _ => .dict []
  | .ins _ _ _ => .dict []
  | .obj _ _ _ => .dict []
def D.pys : List D → List PyData
  | [] => []
  | x :: r => x.py :: D.pys r
end
mutual
theorem Rp.dat {H : Hp} : ∀ {x : V} {d : D}, Rp H x d → d.py.canLay0 = true → DatV H x d.py
  | _, _, .non, _ => .non
  | _, _, .bl b, _ => .bl b
  | _, _, .int i, _ => .int i
  | _, _, .str x, _ => .str x
  | _, _, .lst e h, p => .lst e (Rps.dat h (by simpa [D.py, PyData.canLay0] using p))
  | _, _, .tup e h, p => .tup e (Rps.dat h (by simpa [D.py, PyData.canLay0] using p))
  | _, _, .dnil e, p => by simp [D.py, PyData.canLay0] at p
  | _, _, .scr e, p => by simp [D.py, PyData.canLay0] at p
  | _, _, .exc0 e, p => by simp [D.py, PyData.canLay0] at p
  | _, _, .exc e e' h, p => by simp [D.py, PyData.canLay0] at p
  | _, _, .obj e h, p => by simp [D.py, PyData.canLay0] at p
theorem Rps.dat {H : Hp} : ∀ {xs : List V} {ds : List D}, Rps H xs ds → PyData.canLayAll0 (D.pys ds) = true → DatsV H xs (D.pys ds)
  | _, _, .nil, _ => .nil
  | _, _, .cons a b, p => by
    have p := Bool.and_eq_true_iff.mp (show (PyData.canLay0 _ && PyData.canLayAll0 _) = true from by simpa only [D.pys, PyData.canLayAll0] using p)
    exact .cons (Rp.dat a p.1) (Rps.dat b p.2)
end
/-- == of plain data -/
def eqB (d e : D) : Bool := PyData.eqv d.py e.py
def eqOk (d : D) : Bool := SeqAt.shaped d.py
theorem canLay_of {d : D} (h : eqOk d = true) : d.py.canLay0 = true := SeqAt.canLay_of_shaped h
def eqO (d e : D) : Option RV := if eqOk d && eqOk e then some (.val (.bl (eqB d e))) else none
def neO (d e : D) : Option RV := if eqOk d && eqOk e then some (.val (.bl (!eqB d e))) else none
section
variable {K : PySem.W.Frag}
theorem opv_eq : OpV rEqD eqO := by
  intro R H x y d e rv Q s px py hg q
  unfold eqO at hg
  split at hg
  · rename_i c
    rw [Bool.and_eq_true] at c
    cases hg
    exact ⟨d.py, e.py, (px.hv s).dat (canLay_of c.1), (py.hv s).dat (canLay_of c.2), c.1, c.2, q _ H R (Al.refl s) (.bl _)⟩
  · cases hg
theorem opv_ne : OpV rNeD neO := by
  intro R H x y d e rv Q s px py hg q
  unfold neO at hg
  split at hg
  · rename_i c
    rw [Bool.and_eq_true] at c
    cases hg
    exact ⟨d.py, e.py, (px.hv s).dat (canLay_of c.1), (py.hv s).dat (canLay_of c.2), c.1, c.2, q _ H R (Al.refl s) (.bl _)⟩
  · cases hg
/-! == of texts needs nothing more -/
def eqO2 : D → D → Option RV
  | .str x, .str y => some (.val (.bl (decide (x = y))))
  | d, e => eqO d e
def neO2 : D → D → Option RV
  | .str x, .str y => some (.val (.bl (!decide (x = y))))
  | d, e => neO d e
def rEq2 : R2 := fun x y H Q => rEqD x y H Q ∨ rEq x y H Q
def rNe2 : R2 := fun x y H Q => rNeD x y H Q ∨ rNe x y H Q
omit [KC] in
theorem op_eq2 {X : Cx} {k : Nat} (hr : Room k X.A) : OpR X (compareOp .Eq) rEq2 := (op_eq_dat hr).or op_eq
omit [KC] in
theorem op_ne2 {X : Cx} {k : Nat} (hr : Room k X.A) : OpR X (compareOp .NotEq) rNe2 := (op_ne_dat hr).or op_ne
omit [KC] in
theorem str_dec (x y : Str) : decide (V.str x = V.str y) = decide (x = y) := by
  by_cases h : x = y
  · subst h; simp
  · simp [h]
theorem opv_eq2 : OpV rEq2 eqO2 := by
  intro R H x y d e rv Q s px py hg q
  unfold eqO2 at hg
  split at hg
  · cases hg
    cases px.str
    cases py.str
    refine .inr ⟨rfl, ?_⟩
    rw [str_dec]
    exact q _ H R (Al.refl s) (.bl _)
  · exact .inl (opv_eq R H x y _ _ rv Q s px py hg q)
theorem opv_ne2 : OpV rNe2 neO2 := by
  intro R H x y d e rv Q s px py hg q
  unfold neO2 at hg
  split at hg
  · cases hg
    cases px.str
    cases py.str
    refine .inr ⟨rfl, ?_⟩
    rw [str_dec]
    exact q _ H R (Al.refl s) (.bl _)
  · exact .inl (opv_ne R H x y _ _ rv Q s px py hg q)
/-! numbers -/
def intO (g : Int → Int → D) (d e : D) : Option RV := match d, e with
  | .int i, .int j => some (.val (g i j))
  | _, _ => none
def intC (C : Int → Int → Bool) (g : Int → Int → D) (d e : D) : Option RV := match d, e with
  | .int i, .int j => if C i j then some (.val (g i j)) else none
  | _, _ => none
theorem opv_int {g : Int → Int → V} {g' : Int → Int → D} (h : ∀ R i j, Rp R (g i j) (g' i j)) : OpV (rI0 g) (intO g') := by
  intro R H x y d e rv Q s px py hg q
  unfold intO at hg
  split at hg
  · cases hg
    exact ⟨_, _, px.int, py.int, q _ H R (Al.refl s) (h R _ _)⟩
  · cases hg
theorem opv_intC {C : Int → Int → Prop} {C' : Int → Int → Bool} {g : Int → Int → V} {g' : Int → Int → D} (hC : ∀ i j, C' i j = true → C i j) (h : ∀ R i j, Rp R (g i j) (g' i j)) : OpV (rI C g) (intC C' g') := by
  intro R H x y d e rv Q s px py hg q
  unfold intC at hg
  split at hg
  · split at hg
    · rename_i c
      cases hg
      exact ⟨_, _, px.int, py.int, hC _ _ c, q _ H R (Al.refl s) (h R _ _)⟩
    · cases hg
  · cases hg
/-- decided, but not by running it -/
noncomputable def cd (p : Prop) : Bool := @decide p (Classical.propDecidable p)
omit [KC] in
theorem cd_t {p : Prop} (h : p) : cd p = true := by unfold cd; exact @decide_eq_true p (Classical.propDecidable p) h
omit [KC] in
theorem of_cd {p : Prop} (h : cd p = true) : p := by unfold cd at h; exact @of_decide_eq_true p (Classical.propDecidable p) h
abbrev ltO := intO fun i j => .bl (decide (i < j))
abbrev leO := intO fun i j => .bl (decide (i ≤ j))
abbrev gtO := intO fun i j => .bl (decide (j < i))
noncomputable abbrev modO := intC (fun _ j => cd (0 < j)) fun i j => .int (i % j)
noncomputable abbrev fdivO := intC (fun _ j => cd (0 < j ∧ j < 1073741824)) fun i j => .int (i / j)
noncomputable abbrev powO := intC (fun i j => cd (0 ≤ j ∧ j ≤ 1000000 ∧ i.natAbs < 2 ^ 64)) fun i j => .int (i ^ j.toNat)
theorem opv_lt : OpV (rI0 fun i j => .bl (decide (i < j))) ltO := opv_int fun _ _ _ => .bl _
theorem opv_le : OpV (rI0 fun i j => .bl (decide (i ≤ j))) leO := opv_int fun _ _ _ => .bl _
theorem opv_gt : OpV (rI0 fun i j => .bl (decide (j < i))) gtO := opv_int fun _ _ _ => .bl _
theorem opv_mod : OpV (rI (fun _ j => 0 < j) fun i j => .int (i % j)) modO := opv_intC (fun _ _ h => of_cd h) fun _ _ _ => .int _
theorem opv_fdiv : OpV (rI CDiv fun i j => .int (i / j)) fdivO := opv_intC (fun _ _ h => of_cd h) fun _ _ _ => .int _
theorem opv_pow : OpV (rI CPow fun i j => .int (i ^ j.toNat)) powO := opv_intC (fun _ _ h => of_cd h) fun _ _ _ => .int _
/-! new lists -/
theorem al_new {R H : Hp} {p : Addr} {xs : List V} {ds : List D} (s : Same R H) (hp : H p = none) (h : Rps R xs ds) : Al R H R (upd H p (.lst xs)) ∧ RvA R H (upd H p (.lst xs)) (.ref p) (.new (.lst ds)) :=
  ⟨⟨s.trans (same_upd hp), Same.refl _, same_upd hp, fun _ _ _ z => z⟩, ⟨p, xs, ds, rfl, s.free hp, upd_same, rfl, h⟩, p, rfl, hp⟩
theorem al_tup {R H : Hp} {p : Addr} {xs : List V} {ds : List D} (s : Same R H) (hp : H p = none) (h : Rps R xs ds) : Al R H (upd R p (.tup xs)) (upd H p (.tup xs)) ∧ RvA (upd R p (.tup xs)) H (upd H p (.tup xs)) (.ref p) (.val (.tup ds)) := by
  have hr : R p = none := s.free hp
  refine ⟨⟨fun b o e => ?_, same_upd hr, same_upd hp, fun b o e r => ?_⟩, .tup upd_same (h.sm (same_upd hr))⟩
  · by_cases hb : b = p
    · subst hb; rw [upd_same] at e ⊢; exact e
    · rw [upd_ne hb] at e ⊢; exact s b o e
  · rw [upd_ne (ne_of_none e hp)]; exact r
/-! + -/
def addO (d e : D) : Option RV := match d, e with
  | .int i, .int j => some (.val (.int (i + j)))
  | .lst xs, .lst ys => if xs.length + ys.length ≤ sizeLine then some (.new (.lst (xs ++ ys))) else none
  | .str i, .str j => if i.length + j.length ≤ sizeLine then some (.val (.str (i ++ j))) else none
  | _, _ => none
def rAdd3 : R2 := fun x y H Q => rI0 (fun i j => .int (i + j)) x y H Q ∨ (rCat x y H Q ∨ (∃ i j, x = .str i ∧ y = .str j ∧ i.length + j.length ≤ sizeLine ∧ Q (.str (i ++ j)) H))
theorem op_add3 {X : Cx} : OpR X (binaryOp .Add) rAdd3 := op_add.or (op_cat.or op_add_str)
theorem opv_add : OpV rAdd3 addO := by
  intro R H x y d e rv Q s px py hg q
  unfold addO at hg
  split at hg
  · cases hg
    exact .inl ⟨_, _, px.int, py.int, q _ H R (Al.refl s) (.int _)⟩
  · split at hg
    · rename_i c
      cases hg
      obtain ⟨a, xs, rfl, h1, h2⟩ := px.lst s
      obtain ⟨b, ys, rfl, h3, h4⟩ := py.lst s
      refine .inr (.inl ⟨a, b, xs, ys, rfl, rfl, h1, h3, by rw [h2.len, h4.len]; exact c, fun p hp => ?_⟩)
      obtain ⟨al, rv⟩ := al_new s hp (h2.app h4)
      exact q _ _ _ al rv
    · cases hg
  · split at hg
    · rename_i c
      cases hg
      exact .inr (.inr ⟨_, _, px.str, py.str, c, q _ H R (Al.refl s) (.str _)⟩)
    · cases hg
  · cases hg
/-! * -/
noncomputable def mulOk (i j : Int) : Bool := cd (CMul i j)
noncomputable def mulO (d e : D) : Option RV := match d, e with
  | .int i, .int j => if mulOk i j then some (.val (.int (i * j))) else none
  | _, _ => none
theorem mulOk_ok {i j : Int} (h : mulOk i j = true) : CMul i j := of_cd h
theorem opv_mul : OpV (rI CMul fun i j => .int (i * j)) mulO := by
  intro R H x y d e rv Q s px py hg q
  unfold mulO at hg
  split at hg
  · split at hg
    · rename_i c
      cases hg
      exact ⟨_, _, px.int, py.int, mulOk_ok c, q _ H R (Al.refl s) (.int _)⟩
    · cases hg
  · cases hg
/-! is None -/
def isNone : D → Bool
  | .non => true
  | _ => false
theorem Pk.isNone {R H : Hp} {x : V} {d : D} (h : Pk R H x d) : decide (x = .non) = isNone d := by
  rcases h with h | ⟨a, xs, ds, rfl, _, rfl, _⟩
  · cases h <;> first | rfl | exact decide_eq_false (fun z => nomatch z)
  · exact decide_eq_false (fun z => nomatch z)
def isO (d e : D) : Option RV := match e with
  | .non => some (.val (.bl (isNone d)))
  | _ => none
def isntO (d e : D) : Option RV := match e with
  | .non => some (.val (.bl (!isNone d)))
  | _ => none
theorem Pk.nonv {R H : Hp} {x : V} (h : Pk R H x .non) : x = .non := by
  rcases h with h | ⟨a, xs, ds, rfl, _, h2, _⟩
  · cases h; rfl
  · cases h2
theorem opv_is : OpV (fun x y H Q => y = .non ∧ Q (.bl (decide (x = .non))) H) isO := by
  intro R H x y d e rv Q s px py hg q
  unfold isO at hg
  split at hg
  · cases hg
    refine ⟨py.nonv, ?_⟩
    rw [px.isNone]
    exact q _ H R (Al.refl s) (.bl _)
  · cases hg
theorem opv_isnt : OpV (fun x y H Q => y = .non ∧ Q (.bl (!decide (x = .non))) H) isntO := by
  intro R H x y d e rv Q s px py hg q
  unfold isntO at hg
  split at hg
  · cases hg
    refine ⟨py.nonv, ?_⟩
    rw [px.isNone]
    exact q _ H R (Al.refl s) (.bl _)
  · cases hg
/-! in, of flat things -/
def flatD : D → Bool
  | .non => true
  | .bl _ => true
  | .int _ => true
  | .str _ => true
  | _ => false
def eqF : D → D → Bool
  | .non, .non => true
  | .bl a, .bl b => a == b
  | .bl a, .int b => (if a then 1 else 0) == b
  | .int a, .bl b => a == (if b then 1 else 0)
  | .int a, .int b => a == b
  | .str a, .str b => a == b
  | _, _ => false
theorem Rp.flat {R : Hp} {x : V} {d : D} (h : Rp R x d) : flatV x = flatD d := by cases h <;> rfl
theorem Rp.eqf {R : Hp} {x y : V} {d e : D} (h : Rp R x d) (h' : Rp R y e) : eqV x y = eqF d e := by cases h <;> cases h' <;> rfl
theorem Rps.flats {R : Hp} : ∀ {xs : List V} {ds : List D}, Rps R xs ds → xs.all flatV = ds.all flatD
  | _, _, .nil => rfl
  | _, _, .cons a b => by rw [List.all_cons, List.all_cons, a.flat, Rps.flats b]
theorem Rps.inf {R : Hp} {x : V} {d : D} (h : Rp R x d) : ∀ {xs : List V} {ds : List D}, Rps R xs ds → inV x xs = ds.any (fun e => eqF e d)
  | _, _, .nil => rfl
  | _, _, .cons a b => by
    show (eqV _ x || inV x _) = _
    rw [List.any_cons, a.eqf h, Rps.inf h b]
def seqD : D → Option (List D)
  | .lst xs => some xs
  | .tup xs => some xs
  | _ => none
def inO (neg : Bool) (d e : D) : Option RV := match seqD e with
  | some xs => if flatD d && xs.all flatD then some (.val (.bl (if neg then !xs.any (fun e => eqF e d) else xs.any (fun e => eqF e d)))) else none
  | none => none
theorem Pk.seq {R H : Hp} {x : V} {d : D} {ds : List D} (s : Same R H) (h : Pk R H x d) (e : seqD d = some ds) : ∃ p xs, x = .ref p ∧ (SqL K H p xs ∨ SqT K H p xs) ∧ Rps R xs ds := by
  cases d <;> first | (cases e; done) | skip
  · cases e; obtain ⟨a, xs, rfl, h1, h2⟩ := h.lst s; exact ⟨a, xs, rfl, .inl (SqL.of h1), h2⟩
  · cases e; obtain ⟨a, xs, rfl, h1, h2⟩ := h.tup; exact ⟨a, xs, rfl, .inr (SqT.of (s _ _ h1)), h2⟩
theorem opv_in {neg : Bool} : OpV (rIn K neg) (inO neg) := by
  intro R H x y d e rv Q s px py hg q
  unfold inO at hg
  split at hg
  · rename_i ds hs
    split at hg
    · rename_i c
      rw [Bool.and_eq_true] at c
      cases hg
      obtain ⟨p, xs, rfl, h1, h2⟩ := py.seq (K := K) s hs
      have px' := px.hv s
      have h2' := h2.sm s
      refine ⟨p, xs, rfl, h1, by rw [px'.flat]; exact c.1, by rw [h2'.flats]; exact c.2, ?_⟩
      rw [Rps.inf px' h2']
      exact q _ H R (Al.refl s) (.bl _)
    · cases hg
  · cases hg
end
end Dv
end

section
set_option Elab.async false
set_option linter.all false
set_option maxRecDepth 100000
set_option maxHeartbeats 5000000
namespace Dv
open PySem L2 Ex
variable [KC]
section
variable {X : Cx} {EE : XKS} {ios : List Addr} {e a b c : Expr} {es : List Expr} {f g k : M RV} {fs : M (List RV)} {pos : Pos} {ta tb tc t : TE} {r r' : R2}
/-! arguments -/
def argM (f : M RV) : M RV := M.bind f fun rv => match rv with
  | .var i => M.pure (.var i)
  | rv => M.bind (mat rv) fun d => M.pure (.val d)
def consM (f : M RV) (g : M (List RV)) : M (List RV) := M.bind (argM f) fun x => M.bind g fun xs => M.pure (x :: xs)
theorem rd_arg (h : RdE EE ios t f) {σ : St} {H R : Hp} {Γ : En} {Q : VK} (er : ER ios R H σ Γ)
    (w : wpM (argM f Γ) (fun rv Γ' => ∀ x H' R', EPo ios R H σ Γ R' H' Γ' → ArR R' σ x rv → Q x H') (EXP EE ios R H σ Γ)) : t σ H Q := by
  unfold argM at w
  rw [wpM_bind] at w
  refine h σ H R Γ _ er (wpM_mono w (fun rv Γ1 w x H1 R1 p1 hx => ?_) fun _ _ z => z)
  cases rv with
  | var i => exact w x H1 R1 p1 hx
  | val d =>
    rw [wpM_bind] at w
    obtain ⟨d, Γ2, R2, e2, _, r2, w⟩ := mat_ok er p1 hx w
    exact w x H1 R2 e2 r2
  | new d =>
    rw [wpM_bind] at w
    obtain ⟨d, Γ2, R2, e2, _, r2, w⟩ := mat_ok er p1 hx w
    exact w x H1 R2 e2 r2
theorem va_nil : VA X EE ios [] (M.pure []) := ⟨_, pa_nil, fun σ H R Γ Q er w => w [] H R (EPo.refl er) .nil⟩
theorem rd_cons {u : TA} (h : RdE EE ios t f) (h' : RdA EE ios u fs) : RdA EE ios (tCons t u) (consM f fs) := by
  intro σ H R Γ Q er w
  unfold consM at w
  rw [wpM_bind] at w
  refine rd_arg h er (wpM_mono w (fun rv Γ1 w x H1 R1 p1 hx => ?_) fun _ _ z => z)
  rw [wpM_bind] at w
  refine h' σ H1 R1 Γ1 _ p1.er (wpM_mono w (fun rvs Γ2 w xs H2 R2 p2 hxs => ?_) fun _ _ z => EXP.trans p1 z)
  exact w (x :: xs) H2 R2 (p1.trans p2) (.cons (hx.sm p2.go.rr) hxs)
theorem va_cons (ha : VE X EE ios e f) (hr : VA X EE ios es fs) (hs : starEach (e :: es) X.env = (false, eval e X.env) :: starEach es X.env := by rfl) : VA X EE ios (e :: es) (consM f fs) :=
  let ⟨_, h1, h2⟩ := ha; let ⟨_, h3, h4⟩ := hr; ⟨_, pa_cons h1 h3 hs, rd_cons h2 h4⟩
def matAll : List RV → M (List D)
  | [] => M.pure []
  | rv :: r => M.bind (mat rv) fun d => M.bind (matAll r) fun ds => M.pure (d :: ds)
def peekAll : List RV → M (List D)
  | [] => M.pure []
  | rv :: r => M.bind (peek rv) fun d => M.bind (peekAll r) fun ds => M.pure (d :: ds)
inductive Pks (R H : Hp) : List V → List D → Prop where
  | nil : Pks R H [] []
  | cons {x : V} {d : D} {xs : List V} {ds : List D} : Pk R H x d → Pks R H xs ds → Pks R H (x :: xs) (d :: ds)
theorem peekAll_ok {R H : Hp} {σ : St} {Γ : En} (er : ER ios R H σ Γ) : ∀ {xs : List V} {rvs : List RV} {K : List D → En → Prop} {E : Xc → En → Prop}, ArsR R σ xs rvs → wpM (peekAll rvs Γ) K E → ∃ ds, Pks R H xs ds ∧ K ds Γ
  | _, _, K, E, .nil, w => ⟨[], .nil, w⟩
  | _, _, K, E, .cons a b, w => by
    unfold peekAll at w
    rw [wpM_bind] at w
    obtain ⟨d, pd, w⟩ := peek_ok (H := H) er a.rv w
    rw [wpM_bind] at w
    obtain ⟨ds, pds, w⟩ := peekAll_ok er b w
    exact ⟨d :: ds, .cons pd pds, w⟩
theorem matAll_ok {R0 H0 H : Hp} {σ : St} {Γ0 : En} (er : ER ios R0 H0 σ Γ0) : ∀ {xs : List V} {rvs : List RV} {R : Hp} {Γ : En} {K : List D → En → Prop} {E : Xc → En → Prop}, EPo ios R0 H0 σ Γ0 R H Γ → ArsR R σ xs rvs → wpM (matAll rvs Γ) K E →
    ∃ ds Γ' R', EPo ios R0 H0 σ Γ0 R' H Γ' ∧ Same R R' ∧ Rps R' xs ds ∧ K ds Γ'
  | _, _, R, Γ, K, E, p, .nil, w => ⟨[], Γ, R, p, Same.refl _, .nil, w⟩
  | _, _, R, Γ, K, E, p, .cons a b, w => by
    unfold matAll at w
    rw [wpM_bind] at w
    obtain ⟨d, Γ1, R1, p1, s1, r1, w⟩ := mat_ok er p a.rv w
    rw [wpM_bind] at w
    obtain ⟨ds, Γ2, R2, p2, s2, r2, w⟩ := matAll_ok er p1 (b.sm s1) w
    exact ⟨d :: ds, Γ2, R2, p2, s1.trans s2, .cons (r1.sm s2) r2, w⟩
/-! displays -/
def lstM (fs : M (List RV)) : M RV := M.bind fs fun rvs => M.bind (matAll rvs) fun ds => if ds.length ≤ sizeLine then M.pure (.new (.lst ds)) else M.st
def tupM (fs : M (List RV)) : M RV := M.bind fs fun rvs => M.bind (matAll rvs) fun ds => if ds.length ≤ sizeLine then M.pure (.val (.tup ds)) else M.st
theorem ve_lst (h : VA X EE ios es fs) : VE X EE ios (.List es pos) (lstM fs) := by
  obtain ⟨t, h1, h2⟩ := h
  refine ⟨_, pe_lst h1, fun σ H R Γ Q er w => ?_⟩
  unfold lstM at w
  rw [wpM_bind] at w
  refine h2 σ H R Γ _ er (wpM_mono w (fun rvs Γ1 w xs H1 R1 p1 hx => ?_) fun _ _ z => z)
  rw [wpM_bind] at w
  obtain ⟨ds, Γ2, R2, p2, s2, r2, w⟩ := matAll_ok er p1 hx w
  split at w
  · rename_i c
    refine ⟨by rw [r2.len]; exact c, fun p hp => ?_⟩
    obtain ⟨al, rv⟩ := al_new p2.er.sub hp r2
    exact w _ _ _ (p2.al al) (rv.rv (p2.back er))
  · exact False.elim w
theorem ve_tup {k1 : Nat} (h : VA X EE ios es fs) : VE X EE ios (.Tuple es k1 pos) (tupM fs) := by
  obtain ⟨t, h1, h2⟩ := h
  refine ⟨_, pe_tup h1, fun σ H R Γ Q er w => ?_⟩
  unfold tupM at w
  rw [wpM_bind] at w
  refine h2 σ H R Γ _ er (wpM_mono w (fun rvs Γ1 w xs H1 R1 p1 hx => ?_) fun _ _ z => z)
  rw [wpM_bind] at w
  obtain ⟨ds, Γ2, R2, p2, s2, r2, w⟩ := matAll_ok er p1 hx w
  split at w
  · rename_i c
    refine ⟨by rw [r2.len]; exact c, fun p hp => ?_⟩
    obtain ⟨al, rv⟩ := al_tup p2.er.sub hp r2
    exact w _ _ _ (p2.al al) (rv.rv (p2.back er))
  · exact False.elim w
/-! built-in functions -/
def CallV (r : List V → Hp → VK → Prop) (g : List D → Option RV) : Prop := ∀ R H xs ds rv (Q : VK), Same R H → Pks R H xs ds → g ds = some rv → (∀ z H' R', Al R H R' H' → RvA R' H H' z rv → Q z H') → r xs H Q
def callM (g : List D → Option RV) (fs : M (List RV)) : M RV := M.bind fs fun rvs => M.bind (peekAll rvs) fun ds => M.ofO (g ds)
theorem ve_blt {r : List V → Hp → VK → Prop} {g : List D → Option RV} {e0 : Expr} (hp : ∀ t, PA X es t → PE X e0 (tCB r t)) (hv : CallV r g) (ha : VA X EE ios es fs) : VE X EE ios e0 (callM g fs) := by
  obtain ⟨t, h1, h2⟩ := ha
  refine ⟨_, hp t h1, fun σ H R Γ Q er w => ?_⟩
  unfold callM at w
  rw [wpM_bind] at w
  refine h2 σ H R Γ _ er (wpM_mono w (fun rvs Γ1 w xs H1 R1 p1 hx => ?_) fun _ _ z => z)
  rw [wpM_bind] at w
  obtain ⟨ds, pd, w⟩ := peekAll_ok p1.er hx w
  obtain ⟨rv, hg, w⟩ := wpM_ofO w
  exact hv R1 H1 xs ds rv Q p1.er.sub pd hg fun z H' R' al ra => w z H' R' (p1.al al) (ra.rv (p1.back er))
theorem Pks.one {R H : Hp} {xs : List V} {d : D} (h : Pks R H xs [d]) : ∃ x, xs = [x] ∧ Pk R H x d := by
  cases h with | cons a b => cases b; exact ⟨_, rfl, a⟩
theorem Pks.two {R H : Hp} {xs : List V} {d e : D} (h : Pks R H xs [d, e]) : ∃ x y, xs = [x, y] ∧ Pk R H x d ∧ Pk R H y e := by
  cases h with | cons a b => obtain ⟨y, rfl, q⟩ := b.one; exact ⟨_, _, rfl, a, q⟩
/-! len -/
def lenO : List D → Option RV
  | [.lst xs] => some (.val (.int xs.length))
  | [.tup xs] => some (.val (.int xs.length))
  | [.scr xs] => some (.val (.int xs.length))
  | [.str z] => if z.length ≤ sizeLine then some (.val (.int z.length)) else none
  | _ => none
def rLen (K : PySem.W.Frag) : List V → Hp → VK → Prop := fun xs H Q => (∃ p ys, xs = [.ref p] ∧ (SqL K H p ys ∨ SqT K H p ys) ∧ Q (.int ys.length) H) ∨ (∃ z, xs = [.str z] ∧ z.length ≤ sizeLine ∧ Q (.int z.length) H)
theorem call_len2 : CallR X (.builtin "len") (rLen X.K) := call_len_seq.or call_len_str
theorem callv_len : CallV (rLen KC.K) lenO := by
  intro R H xs ds rv Q s px hg q
  unfold lenO at hg
  split at hg
  · cases hg
    obtain ⟨x, rfl, p⟩ := px.one
    obtain ⟨a, ys, rfl, h1, h2⟩ := p.lst s
    refine .inl ⟨a, ys, rfl, .inl (SqL.of h1), ?_⟩
    rw [h2.len]
    exact q _ H R (Al.refl s) (.int _)
  · cases hg
    obtain ⟨x, rfl, p⟩ := px.one
    obtain ⟨a, ys, rfl, h1, h2⟩ := p.tup
    refine .inl ⟨a, ys, rfl, .inr (SqT.of (s _ _ h1)), ?_⟩
    rw [h2.len]
    exact q _ H R (Al.refl s) (.int _)
  · cases hg
    obtain ⟨x, rfl, p⟩ := px.one
    rcases p with p | ⟨_, _, _, _, _, z, _⟩
    · cases p with
      | scr h1 =>
        refine .inl ⟨_, _, rfl, .inl (s.seq h1), ?_⟩
        rw [List.length_map]
        exact q _ H R (Al.refl s) (.int _)
    · cases z
  · split at hg
    · rename_i c
      cases hg
      obtain ⟨x, rfl, p⟩ := px.one
      cases p.str
      exact .inr ⟨_, rfl, c, q _ H R (Al.refl s) (.int _)⟩
    · cases hg
  · cases hg
/-! abs, min, max of two, int -/
def absO : List D → Option RV
  | [.int i] => some (.val (.int (if i < 0 then -i else i)))
  | _ => none
def max2O : List D → Option RV
  | [.int i, .int j] => some (.val (.int (if j > i then j else i)))
  | _ => none
def min2O : List D → Option RV
  | [.int i, .int j] => some (.val (.int (if j < i then j else i)))
  | _ => none
theorem callv_max2 : CallV (fun xs H Q => ∃ i j, xs = [.int i, .int j] ∧ Q (.int (if j > i then j else i)) H) max2O := by
  intro R H xs ds rv Q s px hg q
  unfold max2O at hg
  split at hg
  · cases hg
    obtain ⟨x, y, rfl, p, p'⟩ := px.two
    exact ⟨_, _, by rw [p.int, p'.int], q _ H R (Al.refl s) (.int _)⟩
  · cases hg
theorem callv_min2 : CallV (fun xs H Q => ∃ i j, xs = [.int i, .int j] ∧ Q (.int (if j < i then j else i)) H) min2O := by
  intro R H xs ds rv Q s px hg q
  unfold min2O at hg
  split at hg
  · cases hg
    obtain ⟨x, y, rfl, p, p'⟩ := px.two
    exact ⟨_, _, by rw [p.int, p'.int], q _ H R (Al.refl s) (.int _)⟩
  · cases hg
def intO1 : List D → Option RV
  | [.int i] => some (.val (.int i))
  | [.bl k] => some (.val (.int (if k then 1 else 0)))
  | _ => none
theorem callv_int : CallV (fun xs H Q => (∃ i, xs = [.int i] ∧ Q (.int i) H) ∨ ∃ k, xs = [.bl k] ∧ Q (.int (if k then 1 else 0)) H) intO1 := by
  intro R H xs ds rv Q s px hg q
  unfold intO1 at hg
  split at hg
  · cases hg
    obtain ⟨x, rfl, p⟩ := px.one
    exact .inl ⟨_, by rw [p.int], q _ H R (Al.refl s) (.int _)⟩
  · cases hg
    obtain ⟨x, rfl, p⟩ := px.one
    exact .inr ⟨_, by rw [p.bl], q _ H R (Al.refl s) (.int _)⟩
  · cases hg
/-! list(..), tuple(..) -/
def listO : List D → Option RV
  | [.lst xs] => some (.new (.lst xs))
  | [.tup xs] => some (.new (.lst xs))
  | _ => none
/-! all, any -/
/-! sorted, min, max of ints -/
def asIs : List D → Option (List Int)
  | [] => some []
  | .int b :: r => (asIs r).map (b :: ·)
  | _ => none
omit [KC] in
theorem asIs_eq : ∀ {ds : List D} {bs : List Int}, asIs ds = some bs → ds = bs.map D.int
  | [], bs, h => by cases h; rfl
  | d :: r, bs, h => by
    cases d <;> first | (cases h; done) | skip
    rename_i b
    have h : (asIs r).map (b :: ·) = some bs := h
    cases q : asIs r with
    | none => rw [q] at h; cases h
    | some l => rw [q] at h; cases h; rw [List.map_cons, ← asIs_eq q]
omit [KC] in
theorem asIs_map (bs : List Int) : asIs (bs.map D.int) = some bs := by
  induction bs with
  | nil => rfl
  | cons b r ih => show (asIs (r.map D.int)).map (b :: ·) = _; rw [ih]; rfl
def srt (ns : List Int) : List Int := ns.mergeSort (fun a b => decide (a ≤ b))
omit [KC] in
theorem srt_perm (ns : List Int) : (srt ns).Perm ns := List.mergeSort_perm ..
omit [KC] in
theorem srt_pw (ns : List Int) : (srt ns).Pairwise (· ≤ ·) := by
  have h := List.pairwise_mergeSort (le := fun a b : Int => decide (a ≤ b)) (fun a b c h1 h2 => decide_eq_true (Int.le_trans (of_decide_eq_true h1) (of_decide_eq_true h2))) (fun a b => by
    rcases Int.le_total a b with h | h
    · rw [decide_eq_true h]; rfl
    · rw [decide_eq_true h, Bool.or_true]) ns
  exact h.imp fun h => of_decide_eq_true h
omit [KC] in
theorem srt_uniq : ∀ {xs ys : List Int}, xs.Perm ys → xs.Pairwise (· ≤ ·) → ys.Pairwise (· ≤ ·) → xs = ys := fun p h1 h2 => List.Perm.eq_of_pairwise (fun _ _ _ _ h h' => Int.le_antisymm h h') h1 h2 p
def sortedO : List D → Option RV
  | [.lst ds] => (asIs ds).bind fun ns => if ns.length < 64 then some (.new (.lst ((srt ns).map D.int))) else none
  | _ => none
theorem callv_sorted {K : PySem.W.Frag} : CallV (fun xs H Q => ∃ (p : Addr) (ns : List Int), xs = [.ref p] ∧ SqL K H p (ns.map V.int) ∧ ns.length < 64 ∧ ∀ (l : Addr) (ns' : List Int), H l = none → ns'.Perm ns → ns'.Pairwise (· ≤ ·) → Q (.ref l) (upd H l (.lst (ns'.map V.int)))) sortedO := by
  intro R H xs ds rv Q s px hg q
  unfold sortedO at hg
  split at hg
  · rename_i l
    cases h : asIs l with
    | none => rw [h] at hg; cases hg
    | some ns =>
      rw [h] at hg
      have hg : (if ns.length < 64 then some (RV.new (.lst ((srt ns).map D.int))) else none) = some rv := hg
      split at hg
      · rename_i c
        cases hg
        obtain ⟨x, rfl, p⟩ := px.one
        obtain ⟨a, ys, rfl, h1, h2⟩ := p.lst s
        rw [asIs_eq h] at h2
        rw [h2.ints_inv] at h1
        refine ⟨a, ns, rfl, SqL.of h1, c, fun l ns' hl pm pw => ?_⟩
        have e : ns' = srt ns := srt_uniq (pm.trans (srt_perm ns).symm) pw (srt_pw ns)
        obtain ⟨al, rv⟩ := al_new s hl (Rps.ints (R := R) (srt ns))
        rw [e]
        exact q _ _ _ al rv
      · cases hg
  · cases hg
end
end Dv
end

section
set_option Elab.async false
set_option linter.all false
set_option maxRecDepth 100000
set_option maxHeartbeats 5000000
namespace Dv
open PySem L2 Ex
variable [KC]
section
variable {X : Cx} {EE : XKS} {ios : List Addr} {e a b c : Expr} {es : List Expr} {f g k : M RV} {fs : M (List RV)} {pos : Pos} {ta tb tc t : TE} {r r' : R2} {K : PySem.W.Frag}
/-! items -/
def idxO (d e : D) : Option RV := match d, e with
  | .lst xs, .int i => (atI xs i).map .val
  | .tup xs, .int i => (atI xs i).map .val
  | .scr ns, .int i => (atI ns i).map fun n => .val (.int n)
  | .str z, .int i => if z.length ≤ sizeLine then (atI z.cps.toList i).map fun c => .val (.str ⟨#[c]⟩) else none
  | _, _ => none
theorem Rps.atI {R : Hp} {xs : List V} {ds : List D} {i : Int} {d : D} (h : Rps R xs ds) (e : L2.atI ds i = some d) : ∃ x, L2.atI xs i = some x ∧ Rp R x d := by
  unfold L2.atI at e ⊢
  rw [h.len]
  cases q : ixN ds.length i with
  | none => rw [q] at e; cases e
  | some j =>
    rw [q] at e
    exact h.ta e
theorem atI_map {α β : Type} (f : α → β) (xs : List α) (i : Int) : L2.atI (xs.map f) i = (L2.atI xs i).map f := by
  unfold L2.atI
  rw [List.length_map]
  cases ixN xs.length i with
  | none => rfl
  | some j => simp
theorem opv_idx : OpV (rIx KC.K) idxO := by
  intro R H x y d e rv Q s px py hg q
  unfold idxO at hg
  split at hg
  · rename_i ds i
    cases h : L2.atI ds i with
    | none => rw [h] at hg; cases hg
    | some d =>
      rw [h] at hg
      cases hg
      obtain ⟨a, xs, rfl, h1, h2⟩ := px.lst s
      obtain ⟨v, hv, rv⟩ := h2.atI h
      exact .inl ⟨a, xs, i, v, rfl, py.int, SqL.of h1, hv, q _ H R (Al.refl s) rv⟩
  · rename_i ds i
    cases h : L2.atI ds i with
    | none => rw [h] at hg; cases hg
    | some d =>
      rw [h] at hg
      cases hg
      obtain ⟨a, xs, rfl, h1, h2⟩ := px.tup
      obtain ⟨v, hv, rv⟩ := h2.atI h
      exact .inr (.inl ⟨a, xs, i, v, rfl, py.int, SqT.of (s _ _ h1), hv, q _ H R (Al.refl s) rv⟩)
  · rename_i ns i
    cases h : L2.atI ns i with
    | none => rw [h] at hg; cases hg
    | some n =>
      rw [h] at hg
      cases hg
      rcases px with px | ⟨_, _, _, _, _, z, _⟩
      · cases px with
        | scr h1 => exact .inl ⟨_, _, i, .int n, rfl, py.int, s.seq h1, by rw [atI_map, h]; rfl, q _ H R (Al.refl s) (.int n)⟩
      · cases z
  · rename_i z i
    split at hg
    · rename_i c
      cases h : L2.atI z.cps.toList i with
      | none => rw [h] at hg; cases hg
      | some n =>
        rw [h] at hg
        cases hg
        exact .inr (.inr ⟨z, i, n, px.str, py.int, c, h, q _ H R (Al.refl s) (.str _)⟩)
    · cases hg
  · cases hg
theorem ve_ix (ha : VE X EE ios a f) (hb : VE X EE ios b g) (hs : PlainIx b := by intro _ _; rfl) (hK : X.K = KC.K := by rfl) : VE X EE ios (.Subscript a b pos) (op2 idxO f g) :=
  let ⟨_, h1, h2⟩ := ha; let ⟨_, h3, h4⟩ := hb; ⟨_, pe_ix ix_seq h1 h3 hs, rd_op (by rw [hK]; exact opv_idx) h2 h4⟩
/-! slices -/
def cutL {α : Type} (xs : List α) (lo hi : Option Int) : List α := (xs.drop (HT.sIx xs.length 0 lo)).take (HT.sIx xs.length xs.length hi - HT.sIx xs.length 0 lo)
def cutO (d : D) (lo hi : Option Int) : Option RV := match d with
  | .lst xs => some (.new (.lst (cutL xs lo hi)))
  | .scr ns => some (.new (.lst ((cutL ns lo hi).map D.int)))
  | _ => none
def RdO (EE : XKS) (ios : List Addr) (t : TO) (f : M (Option Int)) : Prop := ∀ σ H R Γ Q, ER ios R H σ Γ →
  wpM (f Γ) (fun o Γ' => ∀ H' R', EPo ios R H σ Γ R' H' Γ' → Q o H') (EXP EE ios R H σ Γ) → t σ H Q
def VO (X : Cx) (EE : XKS) (ios : List Addr) (e : Option Expr) (f : M (Option Int)) : Prop := ∃ t, PO X e t ∧ RdO EE ios t f
theorem vo_none : VO X EE ios none (M.pure none) := ⟨_, po_none, fun σ H R Γ Q er w => w H R (EPo.refl er)⟩
def asI (rv : RV) : M (Option Int) := match rv with
  | .val (.int i) => M.pure (some i)
  | _ => M.st
theorem vo_some (h : VE X EE ios e f) : VO X EE ios (some e) (M.bind f asI) := by
  obtain ⟨t, h1, h2⟩ := h
  refine ⟨_, po_some h1, fun σ H R Γ Q er w => ?_⟩
  rw [wpM_bind] at w
  refine h2 σ H R Γ _ er (wpM_mono w (fun rv Γ1 w x H1 R1 p1 hx => ?_) fun _ _ z => z)
  unfold asI at w
  split at w
  · cases hx; exact ⟨_, rfl, w H1 R1 p1⟩
  · exact False.elim w
def slcM (o : D → Option Int → Option Int → Option RV) (f : M RV) (lo hi : M (Option Int)) : M RV := M.bind f fun x => M.bind lo fun l => M.bind hi fun u => M.bind (peek x) fun d => M.ofO (o d l u)
theorem Rps.cut {R : Hp} {xs : List V} {ds : List D} (h : Rps R xs ds) (lo hi : Option Int) : Rps R (cutV xs lo hi) (cutL ds lo hi) := by
  unfold cutV cutL
  rw [h.len]
  exact (h.drop _).take _
theorem cut_map {α β : Type} (f : α → β) (xs : List α) (lo hi : Option Int) : (cutL xs lo hi).map f = cutL (xs.map f) lo hi := by
  unfold cutL
  rw [List.length_map, List.map_take, List.map_drop]
theorem ve_slc {lo hi : Option Expr} {l u : M (Option Int)} {p2 : Pos} (ha : VE X EE ios a f) (hl : VO X EE ios lo l) (hu : VO X EE ios hi u) (hK : X.K = KC.K := by rfl) : VE X EE ios (.Subscript a (.Slice lo hi none p2) pos) (slcM cutO f l u) := by
  obtain ⟨t1, h1, h2⟩ := ha
  obtain ⟨t2, h3, h4⟩ := hl
  obtain ⟨t3, h5, h6⟩ := hu
  refine ⟨_, pe_slice sl_list h1 h3 h5, fun σ H R Γ Q er w => ?_⟩
  unfold slcM at w
  rw [wpM_bind] at w
  refine h2 σ H R Γ _ er (wpM_mono w (fun rx Γ1 w x H1 R1 p1 hx => ?_) fun _ _ z => z)
  rw [wpM_bind] at w
  refine h4 σ H1 R1 Γ1 _ p1.er (wpM_mono w (fun l Γ2 w H2 R2 p2 => ?_) fun _ _ z => EXP.trans p1 z)
  rw [wpM_bind] at w
  have p12 := p1.trans p2
  refine h6 σ H2 R2 Γ2 _ p2.er (wpM_mono w (fun u Γ3 w H3 R3 p3 => ?_) fun _ _ z => EXP.trans p12 z)
  have p13 := p12.trans p3
  rw [wpM_bind] at w
  obtain ⟨d, pd, w⟩ := peek_ok p3.er (hx.go er p1 (p2.trans p3).go) w
  obtain ⟨rv, hg, w⟩ := wpM_ofO w
  unfold cutO at hg
  split at hg
  · cases hg
    obtain ⟨a, xs, rfl, h1, h2⟩ := pd.lst p3.er.sub
    refine ⟨a, xs, rfl, SqL.of h1, fun p hp => ?_⟩
    obtain ⟨al, rv⟩ := al_new p3.er.sub hp (h2.cut l u)
    exact w _ _ _ (p13.al al) (rv.rv (p13.back er))
  · cases hg
    rcases pd with pd | ⟨_, _, _, _, _, z, _⟩
    · cases pd with
      | scr h1 =>
        refine ⟨_, _, rfl, by rw [hK]; exact p3.er.sub.seq h1, fun p hp => ?_⟩
        rw [show cutV = cutL from rfl, ← cut_map]
        obtain ⟨al, rv⟩ := al_new p3.er.sub hp (Rps.ints (R := R3) _)
        exact w _ _ _ (p13.al al) (rv.rv (p13.back er))
    · cases z
  · cases hg
/-! one operand -/
def op1 (o : D → Option RV) (f : M RV) : M RV := M.bind f fun x => M.bind (peek x) fun d => M.ofO (o d)
def negO : D → Option RV
  | .int i => some (.val (.int (-i)))
  | _ => none
theorem ve_neg (ha : VE X EE ios a f) : VE X EE ios (.UnaryOp .USub a pos) (op1 negO f) := by
  obtain ⟨t, h1, h2⟩ := ha
  refine ⟨_, pe_un un_neg h1, fun σ H R Γ Q er w => ?_⟩
  unfold op1 at w
  rw [wpM_bind] at w
  refine h2 σ H R Γ _ er (wpM_mono w (fun rx Γ1 w x H1 R1 p1 hx => ?_) fun _ _ z => z)
  rw [wpM_bind] at w
  obtain ⟨d, pd, w⟩ := peek_ok p1.er hx w
  obtain ⟨rv, hg, w⟩ := wpM_ofO w
  unfold negO at hg
  split at hg
  · cases hg
    exact ⟨_, pd.int, w _ H1 R1 p1 (.int _)⟩
  · cases hg
/-! isinstance -/
def tyN : D → String
  | .non => "NoneType"
  | .bl _ => "bool"
  | .int _ => "int"
  | .str _ => "str"
  | .lst _ => "list"
  | .tup _ => "tuple"
  | .dic _ _ => "dict"
  | .scr _ => "list"
  | .ins _ _ _ => "object"
  | .obj _ _ _ => "object"
/-- no script, no object of an own class -/
def plain : D → Bool
  | .scr _ => false
  | .ins _ _ _ => false
  | .obj _ _ _ => false
  | _ => true
theorem Rp.ty {H : Hp} {x : V} {d : D} (h : Rp H x d) (ns : plain d = true) : TyOf K H x (.type (tyN d)) := by
  cases h with
  | non => exact .non
  | bl b => exact .bl b
  | int i => exact .int i
  | str x => exact .str x
  | lst e _ => exact .lst e
  | tup e _ => exact .tup e
  | dnil e => exact .dK e
  | scr e => cases ns
  | exc0 e => cases ns
  | exc e _ _ => cases ns
  | obj e _ => cases ns
inductive Ty where
  | int | bool | str | list | tuple | dict
def Ty.nm : Ty → String
  | .int => "int"
  | .bool => "bool"
  | .str => "str"
  | .list => "list"
  | .tuple => "tuple"
  | .dict => "dict"
def isTy : Ty → D → Bool
  | .int, .bl _ => true
  | .bool, .bl _ => true
  | .int, .int _ => true
  | .str, .str _ => true
  | .list, .lst _ => true
  | .list, .scr _ => true
  | .tuple, .tup _ => true
  | .dict, .dic _ _ => true
  | _, _ => false
theorem kit_ty (K : PySem.W.Frag) (d : D) (hd : plain d = true) (T : Ty) : PySem.W.kitOne K (.type (tyN d)) (.type T.nm) = some (isTy T d) := by
  cases T <;> cases d <;> first | kernel_rfl | cases hd
def isiO (T : Ty) : D → Option RV
  | .scr _ => none
  | .ins _ _ _ => none
  | .obj _ _ _ => none
  | d => some (.val (.bl (isTy T d)))
def isiM (T : Ty) (f : M RV) : M RV := M.bind (argM f) fun x => M.bind (peek x) fun d => M.ofO (isiO T d)
theorem ve_isi {T : Ty} {e0 : Expr} (hp : ∀ t, PE X a t → PE X e0 (tCB (rIs X.K) (tCons t (tCons (tC (.ty T.nm)) tNil)))) (ha : VE X EE ios a f) : VE X EE ios e0 (isiM T f) := by
  obtain ⟨t, h1, h2⟩ := ha
  refine ⟨_, hp t h1, fun σ H R Γ Q er w => ?_⟩
  unfold isiM at w
  rw [wpM_bind] at w
  refine rd_arg h2 er (wpM_mono w (fun rx Γ1 w x H1 R1 p1 hx => ?_) fun _ _ z => z)
  rw [wpM_bind] at w
  obtain ⟨d, pd, w⟩ := peek_ok (H := H) p1.er hx.rv w
  have hv := pd.hv p1.er.sub
  obtain ⟨rv, hg, w⟩ := wpM_ofO w
  have ns : plain d = true := by cases d <;> first | rfl | cases hg
  have hg : rv = .val (.bl (isTy T d)) := by cases d <;> first | (cases hg; done) | exact (Option.some.inj hg).symm
  subst hg
  exact ⟨x, .ty T.nm, _, _, _, rfl, rfl, .inl (hv.ty ns), kit_ty X.K d ns T, w _ H1 R1 p1 (.bl _)⟩
/-! repr -/
/-! a list that is a name's own is changed -/
theorem ER.mut {R H : Hp} {σ : St} {Γ : En} {i : Nat} {kd : Kd} {ds ds' : List D} {x : V} (er : ER ios R H σ Γ) (hi : Γ[i]? = some (some (kd, .lst ds))) (ho : owned kd = true) (hx : σ[i]? = some (some x)) :
    ∃ p xs, x = .ref p ∧ H p = some (.lst xs) ∧ Rps R xs ds ∧ ∀ xs', Rps R xs' ds' → EPo ios R H σ Γ R (upd H p (.lst xs')) (Γ.set i (some (kd, .lst ds'))) := by
  obtain ⟨v, hv, s⟩ := er.sl i _ hi
  rw [hx] at hv
  cases hv
  have hlt : i < Γ.length := (List.getElem?_eq_some_iff.mp hi).1
  obtain ⟨⟨a, xs, ds0, rfl, h1, h2, h3, h4⟩, hio⟩ : OwR R H x (.lst ds) ∧ ∀ n, kd = .io n → ∃ a, ios[n]? = some a ∧ x = .ref a := by
    cases kd with
    | frz => cases ho
    | own => exact ⟨s, fun _ z => nomatch z⟩
    | io n => exact ⟨s.1, fun m z => by cases z; exact s.2⟩
  cases h3
  have inj : ∀ j l z, Γ[j]? = some (some (l, z)) → owned l = true → σ[j]? = some (some (.ref a)) → j = i := fun j l z q1 q2 q3 => (er.dj i j kd l _ z a hi ho q1 q2 hx q3).symm
  have ow' : ∀ b, Ow σ (Γ.set i (some (kd, .lst ds'))) b → Ow σ Γ b := by
    rintro b ⟨j, l, z, q1, q2, q3⟩
    by_cases hj : j = i
    · subst hj
      rw [List.getElem?_set_self hlt] at q1
      cases q1
      exact ⟨j, kd, _, hi, ho, q3⟩
    · rw [List.getElem?_set_ne (Ne.symm hj)] at q1
      exact ⟨j, l, z, q1, q2, q3⟩
  refine ⟨a, xs, rfl, h2, h4, fun xs' h5 => ⟨⟨fun b o e => ?_, by rw [List.length_set]; exact er.len, fun j t hj => ?_, fun j j' l l' z z' b q1 q2 q3 q4 q5 q6 => ?_⟩, ⟨Same.refl _, fun b o h n => ?_, fun _ _ _ _ z => z, fun b z => .inl (ow' b z), fun b o h => ?_⟩, ow'⟩⟩
  · rw [upd_ne]
    · exact er.sub b o e
    · rintro rfl; rw [h1] at e; cases e
  · by_cases hji : j = i
    · subst hji
      rw [List.getElem?_set_self hlt] at hj
      cases hj
      refine ⟨_, hx, ?_⟩
      have z : OwR R (upd H a (.lst xs')) (.ref a) (.lst ds') := ⟨a, xs', ds', rfl, h1, upd_same, rfl, h5⟩
      cases kd with
      | frz => cases ho
      | own => exact z
      | io n => exact ⟨z, hio n rfl⟩
    · rw [List.getElem?_set_ne (Ne.symm hji)] at hj
      obtain ⟨v, hv, q⟩ := er.sl j t hj
      refine ⟨v, hv, q.mono (Same.refl _) fun ho' b ys eb hb rb => ⟨?_, rb⟩⟩
      rw [upd_ne]
      · exact hb
      · rintro rfl
        subst eb
        exact hji (inj j t.1 t.2 hj ho' hv)
  · have g : ∀ {j : Nat} {l : Kd} {z : D}, (Γ.set i (some (kd, .lst ds')))[j]? = some (some (l, z)) → ∃ z', Γ[j]? = some (some (l, z')) := by
      intro j l z q
      by_cases hji : j = i
      · subst hji; rw [List.getElem?_set_self hlt] at q; cases q; exact ⟨_, hi⟩
      · rw [List.getElem?_set_ne (Ne.symm hji)] at q; exact ⟨z, q⟩
    obtain ⟨z1, g1⟩ := g q1
    obtain ⟨z2, g2⟩ := g q3
    exact er.dj j j' l l' z1 z2 b g1 q2 g2 q4 q5 q6
  · rw [upd_ne]
    · exact h
    · rintro rfl; exact n ⟨i, kd, _, hi, ho, hx⟩
  · by_cases hb : b = a
    · subst hb; exact ⟨_, upd_same⟩
    · exact ⟨o, by rw [upd_ne hb]; exact h⟩
/-- a method that changes a list: what it makes of it, what it hands back -/
def MetV (r : V → List V → Hp → VK → Prop) (g : List D → List D → Option (List D × D)) : Prop := ∀ R H p xs ds ys es ds' res (Q : VK), Same R H → R p = none → H p = some (.lst xs) → Rps R xs ds → Rps R ys es → g ds es = some (ds', res) →
  (∀ xs' z, Rps R xs' ds' → Rp R z res → Q z (upd H p (.lst xs'))) → r (.ref p) ys H Q
def recv (i : Nat) : M Unit := fun Γ => match Γ[i]? with
  | some (some (kd, .lst _)) => if owned kd then .ok () Γ else .st
  | _ => .st
def metGo (i : Nat) (g : List D → List D → Option (List D × D)) (es : List D) : M RV := fun Γ => match Γ[i]? with
  | some (some (kd, .lst ds)) => if owned kd then match g ds es with
    | some (ds', res) => .ok (.val res) (Γ.set i (some (kd, .lst ds')))
    | none => .st else .st
  | _ => .st
def metM (i : Nat) (g : List D → List D → Option (List D × D)) (fs : M (List RV)) : M RV := M.bind (recv i) fun _ => M.bind fs fun rvs => M.bind (matAll rvs) fun es => metGo i g es
theorem tyV_lst {H : Hp} {p : Addr} {xs : List V} (h : H p = some (.lst xs)) : tyV K "list" (.ref p) H := .inl ⟨rfl, _, SqL.of h⟩
theorem recv_ok {i : Nat} {σ : St} {H R : Hp} {Γ : En} {K' : Unit → En → Prop} {E : Xc → En → Prop} (er : ER ios R H σ Γ) (w : wpM (recv i Γ) K' E) : ∃ p xs, σ[i]? = some (some (.ref p)) ∧ H p = some (.lst xs) ∧ K' () Γ := by
  unfold recv at w
  split at w
  · rename_i kd ds q
    split at w
    · rename_i ho
      obtain ⟨v, hv, s⟩ := er.sl i _ q
      obtain ⟨p, xs, rfl, h2, _⟩ := er.mut (ds' := ds) q ho hv
      exact ⟨p, xs, hv, h2, w⟩
    · exact False.elim w
  · exact False.elim w
theorem metGo_ok {i : Nat} {r : V → List V → Hp → VK → Prop} {g : List D → List D → Option (List D × D)} (hv : MetV r g) {R0 H0 R H : Hp} {σ : St} {Γ0 Γ : En} {p : Addr} {ys : List V} {es : List D} {Q : VK} {E : Xc → En → Prop} (p1 : EPo ios R0 H0 σ Γ0 R H Γ)
    (hσ : σ[i]? = some (some (.ref p))) (hys : Rps R ys es) (w : wpM (metGo i g es Γ) (fun rv Γ' => ∀ x H' R', EPo ios R0 H0 σ Γ0 R' H' Γ' → RvR R' H0 H' σ x rv → Q x H') E) : r (.ref p) ys H Q := by
  unfold metGo at w
  split at w
  · rename_i kd ds q
    split at w
    · rename_i ho
      split at w
      · rename_i ds' res hg
        obtain ⟨p', xs, e, h2, h3, k⟩ := p1.er.mut (ds' := ds') q ho hσ
        cases e
        have hr : R p = none := (p1.er.ow ⟨i, kd, _, q, ho, hσ⟩).1
        exact hv R H p xs ds ys es ds' res Q p1.er.sub hr h2 h3 hys hg fun xs' z hxs hz => w z _ R (p1.trans (k xs' hxs)) hz
      · exact False.elim w
    · exact False.elim w
  · exact False.elim w
theorem ve_met {i : Nat} {r : V → List V → Hp → VK → Prop} {g : List D → List D → Option (List D × D)} {e0 : Expr} (hp : ∀ t, PA X es t → PE X e0 (tBM X.K "list" r (tVar i) t)) (hv : MetV r g) (ha : VA X EE ios es fs) : VE X EE ios e0 (metM i g fs) := by
  obtain ⟨t, h1, h2⟩ := ha
  refine ⟨_, hp t h1, fun σ H R Γ Q er w => ?_⟩
  unfold metM at w
  rw [wpM_bind] at w
  obtain ⟨p, xs0, hσ, h0, w⟩ := recv_ok er w
  have ty := tyV_lst (K := X.K) h0
  refine ⟨_, hσ, ty, ?_⟩
  rw [wpM_bind] at w
  refine h2 σ H R Γ _ er (wpM_mono w (fun rvs Γ1 w xs H1 R1 p1 hx => ?_) fun _ _ z => z)
  rw [wpM_bind] at w
  obtain ⟨ds, Γ2, R2, p2, s2, r2, w⟩ := matAll_ok er p1 hx w
  exact metGo_ok hv p2 hσ r2 w
def appendG (ds es : List D) : Option (List D × D) := match es with
  | [d] => if ds.length < sizeLine then some (ds ++ [d], .non) else none
  | _ => none
theorem metv_append : MetV rAppend appendG := by
  intro R H p xs ds ys es ds' res Q s hr hp hx hy hg q
  unfold appendG at hg
  split at hg
  · split at hg
    · rename_i c
      cases hg
      cases hy with
      | cons h1 h2 =>
        cases h2
        exact ⟨p, xs, _, rfl, rfl, hp, by rw [hx.len]; exact c, q _ _ (hx.app (.cons h1 .nil)) .non⟩
    · cases hg
  · cases hg
noncomputable def popAtG (ds es : List D) : Option (List D × D) := match es with
  | [.int i] => if cd (0 ≤ i ∧ i < 2 ^ 63) then (ds[i.toNat]?).map fun d => (ds.eraseIdx i.toNat, d) else none
  | _ => none
theorem Rps.erase {R : Hp} : ∀ {xs : List V} {ds : List D} (n : Nat), Rps R xs ds → Rps R (xs.eraseIdx n) (ds.eraseIdx n)
  | _, _, _, .nil => .nil
  | _, _, 0, .cons _ b => b
  | _, _, n + 1, .cons a b => .cons a (Rps.erase n b)
end
end Dv
end

section
set_option Elab.async false
set_option linter.all false
set_option maxRecDepth 100000
set_option maxHeartbeats 5000000
namespace Dv
open PySem L2 Ex
variable [KC]
/-- how a statement ends -/
inductive Fl where
  | nx | ret (rv : RV) | brk | cont
structure SPo (ios : List Addr) (R H : Hp) (σ : St) (Γ : En) (R' H' : Hp) (σ' : St) (Γ' : En) : Prop where
  er : ER ios R' H' σ' Γ'
  go : Go (Ow σ Γ) R H (Ow σ' Γ') R' H'
section
variable {ios : List Addr} {R H R1 H1 R2 H2 : Hp} {σ σ1 σ2 : St} {Γ Γ1 Γ2 : En}
theorem SPo.refl (e : ER ios R H σ Γ) : SPo ios R H σ Γ R H σ Γ := ⟨e, Go.refl⟩
theorem SPo.trans (a : SPo ios R H σ Γ R1 H1 σ1 Γ1) (b : SPo ios R1 H1 σ1 Γ1 R2 H2 σ2 Γ2) : SPo ios R H σ Γ R2 H2 σ2 Γ2 := ⟨b.er, a.go.trans b.go⟩
theorem EPo.spo (a : EPo ios R H σ Γ R1 H1 Γ1) : SPo ios R H σ Γ R1 H1 σ Γ1 := ⟨a.er, a.go⟩
theorem SPo.back (h : SPo ios R H σ Γ R1 H1 σ1 Γ1) : ∀ b, H1 b = none → H b = none := fun b hb => by
  cases q : H b with
  | none => rfl
  | some o => obtain ⟨o', z⟩ := h.go.th b o q; rw [hb] at z; cases z
theorem rv_since {R' H' : Hp} {σ' : St} {x : V} {rv : RV} (p1 : ∀ b, H1 b = none → H b = none) (h : RvR R' H1 H' σ' x rv) : RvR R' H H' σ' x rv := by
  cases rv with
  | val d => exact h
  | new d => obtain ⟨h1, a, h2, h3⟩ := h; exact ⟨h1, a, h2, p1 _ h3⟩
  | var i => exact h
end
def EXS (EE : XKS) (ios : List Addr) (R H : Hp) (σ : St) (Γ : En) : Xc → En → Prop := fun x Γ' => ∀ e σ' H' R', SPo ios R H σ Γ R' H' σ' Γ' → XcR R' H H' e x → EE σ' (.ref (KC.cls x.C)) (some e) H'
theorem EXS.exp {EE : XKS} {ios : List Addr} {R H : Hp} {σ : St} {Γ : En} {x : Xc} {Γ' : En} (h : EXS EE ios R H σ Γ x Γ') : EXP EE ios R H σ Γ x Γ' := fun e H' R' p q => h e σ H' R' p.spo q
theorem EXS.trans {EE : XKS} {ios : List Addr} {R H R1 H1 : Hp} {σ σ1 : St} {Γ Γ1 : En} (a : SPo ios R H σ Γ R1 H1 σ1 Γ1) {x : Xc} {Γ' : En} (h : EXS EE ios R H σ Γ x Γ') : EXS EE ios R1 H1 σ1 Γ1 x Γ' := fun e σ' H' R' b q => h e σ' H' R' (a.trans b) (q.back a.back)
def FlK (ios : List Addr) (R H : Hp) (σ : St) (Γ : En) (D : Ends) : Fl → En → Prop := fun fl Γ' => ∀ σ' H' R', SPo ios R H σ Γ R' H' σ' Γ' → match fl with
  | .nx => D.nx σ' H'
  | .brk => D.bk σ' H'
  | .cont => D.ct σ' H'
  | .ret rv => ∀ x, RvR R' H H' σ' x rv → D.rt x H'
def RdS (EE : XKS) (ios : List Addr) (t : TS) (f : M Fl) : Prop := ∀ σ H R Γ D, ER ios R H σ Γ → wpM (f Γ) (FlK ios R H σ Γ D) (EXS EE ios R H σ Γ) → t D σ H
def VS (X : Cx) (EE : XKS) (ios : List Addr) (st : Stmt) (f : M Fl) : Prop := ∃ t, PS X st t ∧ RdS EE ios t f
def VSs (X : Cx) (EE : XKS) (ios : List Addr) (st : List Stmt) (f : M Fl) : Prop := ∃ t, PSs X st t ∧ RdS EE ios t f
section
variable {X : Cx} {EE : XKS} {ios : List Addr} {e a b c : Expr} {es : List Expr} {f g k : M RV} {fs : M (List RV)} {p : M Bool} {s s' : M Fl} {st : Stmt} {sts sts' : List Stmt} {pos : Pos}
theorem vss_nil : VSs X EE ios [] (M.pure .nx) := ⟨_, pss_nil, fun σ H R Γ D er w => w σ H R (SPo.refl er)⟩
def seqM (f g : M Fl) : M Fl := M.bind f fun fl => match fl with
  | .nx => g
  | fl => M.pure fl
theorem vss_cons (h : VS X EE ios st s) (h' : VSs X EE ios sts s') : VSs X EE ios (st :: sts) (seqM s s') := by
  obtain ⟨t, h1, h2⟩ := h
  obtain ⟨u, h3, h4⟩ := h'
  refine ⟨_, pss_cons h1 h3, fun σ H R Γ D er w => ?_⟩
  unfold seqM at w
  rw [wpM_bind] at w
  refine h2 σ H R Γ _ er (wpM_mono w (fun fl Γ1 w σ1 H1 R1 p1 => ?_) fun _ _ z => z)
  cases fl with
  | nx =>
    refine h4 σ1 H1 R1 Γ1 D p1.er (wpM_mono w (fun fl Γ2 w σ2 H2 R2 p2 => ?_) fun _ _ z => EXS.trans p1 z)
    have := w σ2 H2 R2 (p1.trans p2)
    cases fl with
    | nx => exact this
    | brk => exact this
    | cont => exact this
    | ret rv => exact fun x hx => this x (rv_since p1.back hx)
  | brk => exact w σ1 H1 R1 p1
  | cont => exact w σ1 H1 R1 p1
  | ret rv => exact w σ1 H1 R1 p1
theorem vss_one (h : VS X EE ios st s) : VSs X EE ios [st] s := let ⟨_, h1, h2⟩ := h; ⟨_, pss_one h1, h2⟩
def dropM (f : M RV) : M Fl := M.bind f fun _ => M.pure .nx
theorem vs_expr (h : VE X EE ios e f) (hs : swapsWith e none pos.line X.env = pure false := by rfl) : VS X EE ios (.Expr e pos) (dropM f) := by
  obtain ⟨t, h1, h2⟩ := h
  refine ⟨_, ps_expr h1 hs, fun σ H R Γ D er w => ?_⟩
  unfold dropM at w
  rw [wpM_bind] at w
  exact h2 σ H R Γ _ er (wpM_mono w (fun rv Γ1 w x H1 R1 p1 hx => w σ H1 R1 p1.spo) fun _ _ z => z.exp)
def retM (f : M RV) : M Fl := M.bind f fun rv => M.pure (.ret rv)
theorem vs_ret (h : VE X EE ios e f) : VS X EE ios (.Return (some e) pos) (retM f) := by
  obtain ⟨t, h1, h2⟩ := h
  refine ⟨_, ps_ret h1, fun σ H R Γ D er w => ?_⟩
  unfold retM at w
  rw [wpM_bind] at w
  exact h2 σ H R Γ _ er (wpM_mono w (fun rv Γ1 w x H1 R1 p1 hx => w σ H1 R1 p1.spo x hx) fun _ _ z => z.exp)
def ifM (p : M Bool) (s s' : M Fl) : M Fl := M.bind p fun b => if b then s else s'
theorem vs_if (hc : VT X EE ios c p) (h : VSs X EE ios sts s) (h' : VSs X EE ios sts' s') : VS X EE ios (.If c sts sts' pos) (ifM p s s') := by
  obtain ⟨_, h0, h0'⟩ := hc
  obtain ⟨t, h1, h2⟩ := h
  obtain ⟨u, h3, h4⟩ := h'
  refine ⟨_, ps_if h0 h1 h3, fun σ H R Γ D er w => ?_⟩
  unfold ifM at w
  rw [wpM_bind] at w
  refine h0' σ H R Γ _ er (wpM_mono w (fun b Γ1 w H1 R1 p1 => ?_) fun _ _ z => z.exp)
  have go : ∀ fl Γ2, FlK ios R H σ Γ D fl Γ2 → FlK ios R1 H1 σ Γ1 D fl Γ2 := fun fl Γ2 w σ2 H2 R2 p2 => by
    have := w σ2 H2 R2 (p1.spo.trans p2)
    cases fl with
    | nx => exact this
    | brk => exact this
    | cont => exact this
    | ret rv => exact fun x hx => this x (rv_since p1.spo.back hx)
  cases b with
  | true => exact iteT (h2 σ H1 R1 Γ1 D p1.er (wpM_mono w go fun _ _ z => EXS.trans p1.spo z))
  | false => exact iteF (h4 σ H1 R1 Γ1 D p1.er (wpM_mono w go fun _ _ z => EXS.trans p1.spo z))
/-! stores -/
def setS (i : Nat) (s : Kd × D) : M Unit := fun Γ => .ok () (Γ.set i (some s))
theorem ow_setn {σ : St} {Γ : En} {i : Nat} {x : V} {s : Kd × D} {b : Addr} (h : Ow (σ.set i (some x)) (Γ.set i (some s)) b) : Ow σ Γ b ∨ (owned s.1 = true ∧ x = .ref b) := by
  obtain ⟨j, k, d, h1, h2, h3⟩ := h
  by_cases hj : j = i
  · subst hj
    have l1 : j < Γ.length := by have := (List.getElem?_eq_some_iff.mp h1).1; rwa [List.length_set] at this
    have l2 : j < σ.length := by have := (List.getElem?_eq_some_iff.mp h3).1; rwa [List.length_set] at this
    rw [List.getElem?_set_self l1] at h1
    rw [List.getElem?_set_self l2] at h3
    cases h1
    cases h3
    exact .inr ⟨h2, rfl⟩
  · rw [List.getElem?_set_ne (Ne.symm hj)] at h1 h3
    exact .inl ⟨j, k, d, h1, h2, h3⟩
/-- a name is stored -/
theorem SPo.set {R H R1 H1 : Hp} {σ : St} {Γ Γ1 : En} {i : Nat} {x : V} {s : Kd × D} (er : ER ios R H σ Γ) (p1 : EPo ios R H σ Γ R1 H1 Γ1) (hs : SlR ios R1 H1 x s) (hn : owned s.1 = true → ∀ a, x = .ref a → H a = none) :
    SPo ios R H σ Γ R1 H1 (σ.set i (some x)) (Γ1.set i (some s)) := by
  have hfresh : owned s.1 = true → ∀ a, x = .ref a → ¬ Ow σ Γ1 a := fun ho a ea z => by
    obtain ⟨_, xs, q⟩ := er.ow (p1.sh a z)
    rw [hn ho a ea] at q; cases q
  refine ⟨⟨p1.er.sub, by rw [List.length_set, List.length_set]; exact p1.er.len, fun j t hj => ?_, fun j j' l l' d d' b q1 q2 q3 q4 q5 q6 => ?_⟩, ⟨p1.go.rr, p1.go.hh, p1.go.no, fun b z => ?_, p1.go.th⟩⟩
  · by_cases hji : j = i
    · subst hji
      have l1 : j < Γ1.length := by have := (List.getElem?_eq_some_iff.mp hj).1; rwa [List.length_set] at this
      rw [List.getElem?_set_self l1] at hj
      cases hj
      exact ⟨x, by rw [List.getElem?_set_self (by rw [p1.er.len]; exact l1)], hs⟩
    · rw [List.getElem?_set_ne (Ne.symm hji)] at hj ⊢
      exact p1.er.sl j t hj
  · by_cases h1 : j = i
    · by_cases h2 : j' = i
      · rw [h1, h2]
      · subst h1
        have l1 : j < Γ1.length := by have := (List.getElem?_eq_some_iff.mp q1).1; rwa [List.length_set] at this
        rw [List.getElem?_set_self l1] at q1
        rw [List.getElem?_set_self (by rw [p1.er.len]; exact l1)] at q5
        rw [List.getElem?_set_ne (Ne.symm h2)] at q3 q6
        cases q1; cases q5
        exact absurd ⟨j', l', d', q3, q4, q6⟩ (hfresh q2 b rfl)
    · by_cases h2 : j' = i
      · subst h2
        have l1 : j' < Γ1.length := by have := (List.getElem?_eq_some_iff.mp q3).1; rwa [List.length_set] at this
        rw [List.getElem?_set_self l1] at q3
        rw [List.getElem?_set_self (by rw [p1.er.len]; exact l1)] at q6
        rw [List.getElem?_set_ne (Ne.symm h1)] at q1 q5
        cases q3; cases q6
        exact absurd ⟨j, l, d, q1, q2, q5⟩ (hfresh q4 b rfl)
      · rw [List.getElem?_set_ne (Ne.symm h1)] at q1 q5
        rw [List.getElem?_set_ne (Ne.symm h2)] at q3 q6
        exact p1.er.dj j j' l l' d d' b q1 q2 q3 q4 q5 q6
  · rcases ow_setn z with z | ⟨ho, rfl⟩
    · exact .inl (p1.sh b z)
    · exact .inr (hn ho b rfl)
def asgM (i : Nat) (f : M RV) : M Fl := M.bind f fun rv => M.bind (match rv with
  | .new d => setS i (.own, d)
  | .val d => setS i (.frz, d)
  | .var j => M.bind (mat (.var j)) fun d => setS i (.frz, d)) fun _ => M.pure .nx
theorem rd_asg {t : TE} {i : Nat} (h : RdE EE ios t f) : RdS EE ios (tAsg t (gName i)) (asgM i f) := by
  intro σ H R Γ D er w
  unfold asgM at w
  rw [wpM_bind] at w
  refine h σ H R Γ _ er (wpM_mono w (fun rv Γ1 w x H1 R1 p1 hx => ?_) fun _ _ z => z.exp)
  show D.nx (σ.set i (some x)) H1
  rw [wpM_bind] at w
  cases rv with
  | val d => exact w _ H1 R1 (SPo.set er p1 (s := (.frz, d)) hx fun z => by cases z)
  | new d =>
    obtain ⟨h1, a, h2, h3⟩ := hx
    exact w _ H1 R1 (SPo.set er p1 (s := (.own, d)) h1 fun _ b eb => by rw [h2] at eb; cases eb; exact h3)
  | var j =>
    rw [wpM_bind] at w
    obtain ⟨d, Γ2, R2, p2, _, r2, w⟩ := mat_ok er p1 hx w
    exact w _ H1 R2 (SPo.set er p2 (s := (.frz, d)) r2 fun z => by cases z)
theorem vs_set {i : Nat} {x : Str} {pos' : Pos} (hN : X.N.Nodup) (hi : X.N[i]? = some x) (hx : Loc X.env.scope x) (he : VE X EE ios e f) (hs : swapsWith e (some (.Name x pos')) pos.line X.env = pure false := by rfl) (hf : X.fn x = true ∨ X.env.scope.names.lookup x = some .local := by first | exact .inl rfl | exact .inr rfl | assumption) :
    VS X EE ios (.Assign [.Name x pos'] e pos) (asgM i f) := let ⟨_, h1, h2⟩ := he; ⟨_, ps_set hN hi hx h1 hs hf, rd_asg h2⟩
/-! targets that take a plain value -/
def NoX : Xc → En → Prop := fun _ _ => False
def RdG (ios : List Addr) (n : Nat) (g : TG) (m : D → M Unit) : Prop := ∀ σ H R Γ v d (Q : St → Hp → Prop), ER ios R H σ Γ → Rp R v d →
  wpM (m d Γ) (fun _ Γ' => ∀ σ' H' R', SPo ios R H σ Γ R' H' σ' Γ' → (∀ k, n ≤ k → σ'[k]? = σ[k]?) → Same R R' → Q σ' H') NoX → g v σ H Q
def RdGs (ios : List Addr) (n : Nat) (g : TGs) (m : List D → M Unit) : Prop := ∀ σ H R Γ vs ds (Q : St → Hp → Prop), ER ios R H σ Γ → Rps R vs ds →
  wpM (m ds Γ) (fun _ Γ' => ∀ σ' H' R', SPo ios R H σ Γ R' H' σ' Γ' → (∀ k, n ≤ k → σ'[k]? = σ[k]?) → Same R R' → Q σ' H') NoX → g vs σ H Q
def gN (i : Nat) (d : D) : M Unit := setS i (.frz, d)
theorem rd_gname {i n : Nat} (h : i < n) : RdG ios n (gName i) (gN i) := fun σ H R Γ v d Q er hv w =>
  w _ H R (SPo.set er (EPo.refl er) (s := (.frz, d)) hv fun z => by cases z) (fun k hk => List.getElem?_set_ne (by omega)) (Same.refl _)
def gs0 : List D → M Unit
  | [] => M.pure ()
  | _ => M.st
def gsC (m : D → M Unit) (ms : List D → M Unit) : List D → M Unit
  | d :: r => M.bind (m d) fun _ => ms r
  | [] => M.st
theorem rd_gnil {n : Nat} : RdGs ios n gNil gs0 := fun σ H R Γ vs ds Q er hv w => by
  cases hv with
  | nil => exact ⟨rfl, w σ H R (SPo.refl er) (fun _ _ => rfl) (Same.refl _)⟩
  | cons _ _ => exact False.elim w
theorem rd_gcons {n : Nat} {g : TG} {gs : TGs} {m : D → M Unit} {ms : List D → M Unit} (h : RdG ios n g m) (h' : RdGs ios n gs ms) : RdGs ios n (gCons g gs) (gsC m ms) := fun σ H R Γ vs ds Q er hv w => by
  cases hv with
  | nil => exact False.elim w
  | cons h1 h2 =>
    refine ⟨_, _, rfl, ?_⟩
    unfold gsC at w
    rw [wpM_bind] at w
    refine h σ H R Γ _ _ _ er h1 (wpM_mono w (fun _ Γ1 w σ1 H1 R1 p1 k1 s1 => ?_) fun _ _ z => z)
    exact h' σ1 H1 R1 Γ1 _ _ _ p1.er (h2.sm s1) (wpM_mono w (fun _ Γ2 w σ2 H2 R2 p2 k2 s2 => w σ2 H2 R2 (p1.trans p2) (fun k hk => (k2 k hk).trans (k1 k hk)) (s1.trans s2)) fun _ _ z => z)
def gT (n : Nat) (ms : List D → M Unit) : D → M Unit
  | .tup ds => if ds.length = n then ms ds else M.st
  | _ => M.st
theorem rd_gtup {n m : Nat} {K : PySem.W.Frag} {gs : TGs} {ms : List D → M Unit} (h : RdGs ios n gs ms) : RdG ios n (gTup K m gs) (gT m ms) := fun σ H R Γ v d Q er hv w => by
  unfold gT at w
  split at w
  · split at w
    · rename_i c
      cases hv with
      | tup e q => exact ⟨_, _, rfl, SqT.of (er.sub _ _ e), by rw [q.len]; exact c, h σ H R Γ _ _ Q er q w⟩
    · exact False.elim w
  · exact False.elim w
def g2 (ms : List D → M Unit) : D → M Unit
  | .lst [x, y] => ms [x, y]
  | _ => M.st
/-- a target = e, the value laid still -/
def noX (m : M Unit) : M Unit := fun Γ => match m Γ with
  | .ok a Γ' => .ok a Γ'
  | _ => .st
def asgG (m : D → M Unit) (f : M RV) : M Fl := M.bind f fun rv => M.bind (mat rv) fun d => M.bind (noX (m d)) fun _ => M.pure .nx
theorem wp_noX {m : M Unit} {Γ : En} {K : Unit → En → Prop} {E : Xc → En → Prop} (h : wpM (noX m Γ) K E) : wpM (m Γ) K NoX := by
  unfold noX at h
  cases q : m Γ with
  | ok a Γ' => rw [q] at h; exact h
  | ex x Γ' => rw [q] at h; exact False.elim h
  | st => rw [q] at h; exact False.elim h
theorem rd_asgG {t : TE} {g : TG} {m : D → M Unit} {n : Nat} (h : RdE EE ios t f) (hg : RdG ios n g m) : RdS EE ios (tAsg t g) (asgG m f) := by
  intro σ H R Γ D er w
  unfold asgG at w
  rw [wpM_bind] at w
  refine h σ H R Γ _ er (wpM_mono w (fun rv Γ1 w x H1 R1 p1 hx => ?_) fun _ _ z => z.exp)
  rw [wpM_bind] at w
  obtain ⟨d, Γ2, R2, p2, _, r2, w⟩ := mat_ok er p1 hx w
  rw [wpM_bind] at w
  exact hg σ H1 R2 Γ2 x d _ p2.er r2 (wpM_mono (wp_noX w) (fun _ Γ3 w σ3 H3 R3 p3 _ _ => w σ3 H3 R3 (p2.spo.trans p3)) fun _ _ z => z)
theorem vs_asg {tg : Expr} {g : TG} {m : D → M Unit} {n : Nat} (he : VE X EE ios e f) (hr : RdG ios n g m) (hp : ∀ t, PE X e t → PS X (.Assign [tg] e pos) (tAsg t g)) : VS X EE ios (.Assign [tg] e pos) (asgG m f) :=
  let ⟨_, h1, h2⟩ := he; ⟨_, hp _ h1, rd_asgG h2 hr⟩
/-! an item of a list that is a name's own -/
def setAt (j : Nat) (d di : D) : M Unit := fun Γ => match Γ[j]?, di with
  | some (some (kd, .lst ds)), .int i => if owned kd then match ixN ds.length i with
    | some k => .ok () (Γ.set j (some (kd, .lst (ds.set k d))))
    | none => .st else .st
  | _, _ => .st
def gS (j : Nat) (fi : M RV) (d : D) : M Unit := M.bind (recv j) fun _ => M.bind fi fun ri => M.bind (peek ri) fun di => setAt j d di
theorem rd_gsub {j n : Nat} {ti : TE} {fi : M RV} (hi : RdE EE ios ti fi) : RdG ios n (gSub (tVar j) ti rSetL) (gS j fi) := fun σ H R Γ v d Q er hv w => by
  unfold gS at w
  rw [wpM_bind] at w
  obtain ⟨p, _, hσ, _, w⟩ := recv_ok er w
  refine ⟨_, hσ, ?_⟩
  rw [wpM_bind] at w
  refine hi σ H R Γ _ er (wpM_mono w (fun ri Γ1 w y H1 R1 p1 hy => ?_) fun _ _ z => z.elim)
  rw [wpM_bind] at w
  obtain ⟨di, pd, w⟩ := peek_ok p1.er hy w
  unfold setAt at w
  split at w
  · rename_i kd ds i q
    split at w
    · rename_i ho
      split at w
      · rename_i k hk
        obtain ⟨p', xs, e, h2, h3, m⟩ := p1.er.mut (ds' := ds.set k d) q ho hσ
        cases e
        exact ⟨p, xs, i, k, rfl, pd.int, h2, by rw [h3.len]; exact hk, w σ _ R1 (p1.trans (m _ (h3.set (hv.sm p1.go.rr) k))).spo (fun _ _ => rfl) p1.go.rr⟩
      · exact False.elim w
    · exact False.elim w
  · exact False.elim w
/-! what a loop goes over -/
def ItR (J : It) (R0 : Hp) (items : List D) : Prop := ∀ (i : Nat) (H R : Hp), Same R0 R → Same R H →
  (∀ d, items[i]? = some d → J.go i H ∧ ∀ x H', J.yld i H x H' → ∃ R', Al R H R' H' ∧ Rp R' x d) ∧ (items.length ≤ i → J.stop i H)
def RdI (EE : XKS) (ios : List Addr) (wi : TI) (f : M (List D)) : Prop := ∀ σ H R Γ Rk, ER ios R H σ Γ →
  wpM (f Γ) (fun items Γ' => ∀ J H' R', EPo ios R H σ Γ R' H' Γ' → ItR J R' items → Rk J H') (EXP EE ios R H σ Γ) → wi σ H Rk
def VI (X : Cx) (EE : XKS) (ios : List Addr) (tg iter : Expr) (f : M (List D)) : Prop := ∃ wi, PI X tg iter wi ∧ RdI EE ios wi f
variable {tg : Expr}
def lstI (f : M RV) : M (List D) := M.bind f fun rv => M.bind (mat rv) fun d => match d with
  | .lst ds => M.pure ds
  | .scr ns => M.pure (ns.map D.int)
  | _ => M.st
def tupI (f : M RV) : M (List D) := M.bind f fun rv => M.bind (mat rv) fun d => match d with
  | .tup ds => M.pure ds
  | _ => M.st
theorem itl_ok {K : PySem.W.Frag} {R0 : Hp} {a : Addr} {xs : List V} {ds : List D} (h : ∀ H, Same R0 H → SqL K H a xs) (r : Rps R0 xs ds) : ItR (Itl K a) R0 ds := by
  intro i H R s1 s2
  have s := s1.trans s2
  refine ⟨fun d hd => ?_, fun hl => ⟨xs, h H s, by rw [r.len]; exact hl⟩⟩
  obtain ⟨x, hx, rx⟩ := r.ta hd
  refine ⟨⟨xs, x, h H s, hx⟩, fun y H' hy => ?_⟩
  obtain ⟨rfl, hy⟩ := hy
  have := hy xs (h _ s)
  rw [hx] at this
  cases this
  exact ⟨R, Al.refl s2, rx.sm s1⟩
theorem vi_list (h : VE X EE ios e f) (hK : X.K = KC.K := by rfl) : VI X EE ios tg e (lstI f) := by
  obtain ⟨t, h1, h2⟩ := h
  refine ⟨_, pi_list h1, fun σ H R Γ Rk er w => ?_⟩
  unfold lstI at w
  rw [wpM_bind] at w
  refine h2 σ H R Γ _ er (wpM_mono w (fun rv Γ1 w x H1 R1 p1 hx => ?_) fun _ _ z => z)
  rw [wpM_bind] at w
  obtain ⟨d, Γ2, R2, p2, _, r2, w⟩ := mat_ok er p1 hx w
  split at w
  · cases r2 with
    | lst e q => exact ⟨_, rfl, ⟨_, SqL.of (p2.er.sub _ _ e)⟩, w _ H1 R2 p2 (itl_ok (fun H s => SqL.of (s _ _ e)) q)⟩
  · cases r2 with
    | scr e => exact ⟨_, rfl, ⟨_, by rw [hK]; exact p2.er.sub.seq e⟩, w _ H1 R2 p2 (itl_ok (fun H s => by rw [hK]; exact s.seq e) (Rps.ints _))⟩
  · exact False.elim w
/-- lo, lo + 1, .. -/
def upI (lo : Int) (n : Nat) : List D := (List.range n).map fun (i : Nat) => D.int (lo + i)
theorem itr_ok {R0 : Hp} {lo : Int} {n : Nat} : ItR (Itr lo n) R0 (upI lo n) := by
  intro i H R s1 s2
  refine ⟨fun d hd => ?_, fun hl => show n ≤ i by simpa [upI] using hl⟩
  unfold upI at hd
  rw [List.getElem?_map] at hd
  cases q : (List.range n)[i]? with
  | none => rw [q] at hd; cases hd
  | some j =>
    rw [q] at hd
    cases hd
    obtain ⟨h1, h2⟩ := List.getElem?_eq_some_iff.mp q
    rw [List.getElem_range] at h2
    subst h2
    refine ⟨show i < n by simpa using h1, fun x H' hx => ?_⟩
    obtain ⟨rfl, rfl⟩ := hx
    exact ⟨R, Al.refl s2, .int _⟩
noncomputable def small (j : Int) : Bool := cd (-(2 ^ 62) ≤ j ∧ j < 2 ^ 62)
noncomputable def rng1 (fs : M (List RV)) : M (List D) := M.bind fs fun rvs => match rvs with
  | [.val (.int j)] => if small j then M.pure (upI 0 j.toNat) else M.st
  | _ => M.st
noncomputable def rng2 (fs : M (List RV)) : M (List D) := M.bind fs fun rvs => match rvs with
  | [.val (.int i), .val (.int j)] => if small i && small j then M.pure (upI i (j - i).toNat) else M.st
  | _ => M.st
theorem vi_rng1 {e0 : Expr} (hp : ∀ t, PA X es t → PI X tg e0 (iRng1 t)) (ha : VA X EE ios es fs) : VI X EE ios tg e0 (rng1 fs) := by
  obtain ⟨t, h1, h2⟩ := ha
  refine ⟨_, hp t h1, fun σ H R Γ Rk er w => ?_⟩
  unfold rng1 at w
  rw [wpM_bind] at w
  refine h2 σ H R Γ _ er (wpM_mono w (fun rvs Γ1 w xs H1 R1 p1 hx => ?_) fun _ _ z => z)
  split at w
  · split at w
    · rename_i c
      have c := of_cd c
      cases hx with
      | cons a b =>
        cases b
        cases a
        exact ⟨_, rfl, c.1, c.2, w _ H1 R1 p1 itr_ok⟩
    · exact False.elim w
  · exact False.elim w
/-- (0, x), (1, y), .. -/
def numI (ds : List D) : List D := ds.zipIdx.map fun p => D.tup [.int p.2, p.1]
def enuI (fs : M (List RV)) : M (List D) := M.bind fs fun rvs => M.bind (matAll rvs) fun ds => match ds with
  | [.lst ds] => M.pure (numI ds)
  | _ => M.st
end
end Dv
end

section
set_option Elab.async false
set_option linter.all false
set_option maxRecDepth 100000
set_option maxHeartbeats 5000000
namespace Dv
open PySem L2 Ex
variable [KC]
section
variable {X : Cx} {EE : XKS} {ios : List Addr} {e a b c iter tg : Expr} {es : List Expr} {f g k : M RV} {fs : M (List RV)} {p : M Bool} {s s' : M Fl} {st : Stmt} {sts sts' : List Stmt} {pos : Pos}
theorem wpM_ok {α : Type} {a : α} {Γ : En} {K : α → En → Prop} {E : Xc → En → Prop} (h : K a Γ) : wpM (.ok a Γ) K E := h
theorem wpM_ko {α : Type} {a : α} {Γ : En} {K : α → En → Prop} {E : Xc → En → Prop} (h : wpM (.ok a Γ) K E) : K a Γ := h
/-! for -/
def turnM (m : D → M Unit) (body : M Fl) (rest : M Fl) (d : D) : M Fl := M.bind (noX (m d)) fun _ => M.bind body fun fl => match fl with
  | .nx => rest
  | .cont => rest
  | .brk => M.pure .nx
  | .ret rv => M.pure (.ret rv)
def loopM (m : D → M Unit) (body : M Fl) : List D → M Fl
  | [] => M.pure .nx
  | d :: r => turnM m body (loopM m body r) d
def forM (items : M (List D)) (m : D → M Unit) (body : M Fl) : M Fl := M.bind items fun ds => loopM m body ds
theorem rd_for {wi : TI} {gt : TG} {tb : TS} {items : M (List D)} {m : D → M Unit} {n : Nat} (hi : RdI EE ios wi items) (hg : RdG ios n gt m) (hb : RdS EE ios tb s) : RdS EE ios (tFor wi gt tb) (forM items m s) := by
  intro σ H R Γ D er w
  unfold forM at w
  rw [wpM_bind] at w
  refine hi σ H R Γ _ er (wpM_mono w (fun ds Γ1 w J H1 R1 p1 hJ => ?_) fun _ _ z => z.exp)
  refine ⟨fun i m' σ2 H2 => m' = ds.length - i ∧ i ≤ ds.length ∧ ∃ R2 Γ2, SPo ios R H σ Γ R2 H2 σ2 Γ2 ∧ Same R1 R2 ∧ wpM (loopM m s (ds.drop i) Γ2) (FlK ios R H σ Γ D) (EXS EE ios R H σ Γ), ⟨ds.length, rfl, Nat.zero_le _, R1, Γ1, p1.spo, Same.refl _, w⟩, ?_⟩
  rintro i m' σ2 H2 ⟨rfl, hi', R2, Γ2, p2, s2, w⟩
  obtain ⟨go, stop⟩ := hJ i H2 R2 s2 p2.er.sub
  by_cases hlt : i < ds.length
  · have hd : ds[i]? = some ds[i] := List.getElem?_eq_getElem hlt
    obtain ⟨g1, g2⟩ := go _ hd
    rw [List.drop_eq_getElem_cons hlt] at w
    have w : wpM (turnM m s (loopM m s (ds.drop (i + 1))) ds[i] Γ2) (FlK ios R H σ Γ D) (EXS EE ios R H σ Γ) := w
    unfold turnM at w
    rw [wpM_bind] at w
    refine .inr ⟨g1, fun σ3 H3 => ∃ R3 Γ3, SPo ios R H σ Γ R3 H3 σ3 Γ3 ∧ Same R1 R3 ∧ wpM (loopM m s (ds.drop (i + 1)) Γ3) (FlK ios R H σ Γ D) (EXS EE ios R H σ Γ), ?_, fun x H3 hx => ?_⟩
    · rintro σ3 H3 ⟨R3, Γ3, q1, q2, q3⟩
      exact ⟨_, by omega, rfl, hlt, R3, Γ3, q1, q2, q3⟩
    · obtain ⟨R3, al, rx⟩ := g2 x H3 hx
      have er3 : ER ios R3 H3 σ2 Γ2 := p2.er.al al
      have p3 : SPo ios R H σ Γ R3 H3 σ2 Γ2 := ⟨er3, p2.go.trans al.go⟩
      refine hg σ2 H3 R3 Γ2 x _ _ er3 rx (wpM_mono (wp_noX w) (fun _ Γ4 w σ4 H4 R4 p4 _ s4 => ?_) fun _ _ z => z)
      rw [wpM_bind] at w
      have p34 := p3.trans p4
      refine hb σ4 H4 R4 Γ4 _ p4.er (wpM_mono w (fun fl Γ5 w σ5 H5 R5 p5 => ?_) fun _ _ z => EXS.trans p34 z)
      have p35 := p34.trans p5
      have s5 : Same R1 R5 := ((s2.trans al.rr).trans s4).trans p5.go.rr
      cases fl with
      | nx => exact ⟨R5, Γ5, p35, s5, w⟩
      | cont => exact ⟨R5, Γ5, p35, s5, w⟩
      | brk => exact w σ5 H5 R5 p35
      | ret rv => exact fun y hy => w σ5 H5 R5 p35 y (rv_since p34.back hy)
  · have e : ds.drop i = [] := List.drop_eq_nil_of_le (by omega)
    rw [e] at w
    exact .inl ⟨stop (by omega), w σ2 H2 R2 p2⟩
theorem vs_for {gt : TG} {items : M (List D)} {m : D → M Unit} {n : Nat} (hi : VI X EE ios tg iter items) (hr : RdG ios n gt m) (hb : VSs X EE ios sts s)
    (hps : ∀ wi tb, PI X tg iter wi → PSs X sts tb → PS X (.For tg iter sts [] pos) (tFor wi gt tb)) : VS X EE ios (.For tg iter sts [] pos) (forM items m s) :=
  let ⟨_, h1, h2⟩ := hi; let ⟨_, h3, h4⟩ := hb; ⟨_, hps _ _ h1 h3, rd_for h2 hr h4⟩
/-! while -/
def whileM (p : M Bool) (body : M Fl) : Nat → M Fl
  | 0 => M.st
  | n + 1 => M.bind p fun b => if b then M.bind body fun fl => match fl with
    | .nx => whileM p body n
    | .cont => whileM p body n
    | .brk => M.pure .nx
    | .ret rv => M.pure (.ret rv) else M.pure .nx
theorem rd_while {tc : TT} {tb : TS} (hc : RdT EE ios tc p) (hb : RdS EE ios tb s) (n : Nat) : RdS EE ios (tWhile tc tb) (whileM p s n) := by
  intro σ H R Γ D er w
  refine ⟨fun n' σ2 H2 => ∃ R2 Γ2, SPo ios R H σ Γ R2 H2 σ2 Γ2 ∧ wpM (whileM p s n' Γ2) (FlK ios R H σ Γ D) (EXS EE ios R H σ Γ), ⟨n, R, Γ, SPo.refl er, w⟩, ?_⟩
  rintro n' σ2 H2 ⟨R2, Γ2, p2, w⟩
  cases n' with
  | zero => exact False.elim w
  | succ n' =>
    unfold whileM at w
    rw [wpM_bind] at w
    refine hc σ2 H2 R2 Γ2 _ p2.er (wpM_mono w (fun b Γ3 w H3 R3 p3 => ?_) fun _ _ z => (EXS.trans p2 z).exp)
    have p23 := p2.trans p3.spo
    cases b with
    | false => exact iteF (w σ2 H3 R3 p23)
    | true =>
      refine iteT ⟨fun σ4 H4 => ∃ R4 Γ4, SPo ios R H σ Γ R4 H4 σ4 Γ4 ∧ wpM (whileM p s n' Γ4) (FlK ios R H σ Γ D) (EXS EE ios R H σ Γ), fun σ4 H4 q => ⟨n', Nat.lt_succ_self _, q⟩, ?_⟩
      simp only [if_true] at w
      rw [wpM_bind] at w
      refine hb σ2 H3 R3 Γ3 _ p3.er (wpM_mono w (fun fl Γ5 w σ5 H5 R5 p5 => ?_) fun _ _ z => EXS.trans p23 z)
      have p25 := p23.trans p5
      cases fl with
      | nx => exact ⟨R5, Γ5, p25, w⟩
      | cont => exact ⟨R5, Γ5, p25, w⟩
      | brk => exact w σ5 H5 R5 p25
      | ret rv => exact fun y hy => w σ5 H5 R5 p25 y (rv_since p23.back hy)
theorem vs_while {n : Nat} (hc : VT X EE ios c p) (hb : VSs X EE ios sts s) (hp : PassesOwn (model X.prog X.w) X.A X.env X.xe := by exact PassesOwn.never) : VS X EE ios (.While c sts [] pos) (whileM p s n) :=
  let ⟨_, h1, h2⟩ := hc; let ⟨_, h3, h4⟩ := hb; ⟨_, ps_while hp h1 h3, rd_while h2 h4 n⟩
/-! comprehensions -/
def blkG (fr : List Nat) (own : Nat) (Γ : En) : En := List.replicate own none ++ fr.map fun j => (Γ[j]?).join
def unblk : List Nat → Nat → En → En → En
  | [], _, Γ, _ => Γ
  | j :: r, k, Γ, Γb => unblk r (k + 1) (Γ.set j (Γb[k]?).join) Γb
theorem blk_lt {α : Type} {fr : List Nat} {own : Nat} {L : List (Option α)} {i : Nat} (h : i < own) : (List.replicate own (none : Option α) ++ fr.map fun j => (L[j]?).join)[i]? = some none := by
  rw [List.getElem?_append_left (by rw [List.length_replicate]; exact h), List.getElem?_replicate, if_pos h]
theorem blk_ge {α : Type} {fr : List Nat} {own : Nat} {L : List (Option α)} {i : Nat} (h : own ≤ i) : (List.replicate own (none : Option α) ++ fr.map fun j => (L[j]?).join)[i]? = (fr[i - own]?).map fun j => (L[j]?).join := by
  rw [List.getElem?_append_right (by rw [List.length_replicate]; exact h), List.length_replicate, List.getElem?_map]
theorem join_some {α : Type} {o : Option (Option α)} {a : α} (h : o.join = some a) : o = some (some a) := by
  cases o with
  | none => cases h
  | some o => cases o with
    | none => cases h
    | some b => cases h; rfl
theorem blkG_some {fr : List Nat} {own i : Nat} {Γ : En} {s : Kd × D} (h : (blkG fr own Γ)[i]? = some (some s)) : own ≤ i ∧ ∃ j, fr[i - own]? = some j ∧ Γ[j]? = some (some s) := by
  unfold blkG at h
  by_cases hi : i < own
  · rw [blk_lt hi] at h; cases h
  · rw [blk_ge (by omega)] at h
    cases q : fr[i - own]? with
    | none => rw [q] at h; cases h
    | some j =>
      rw [q] at h
      exact ⟨by omega, j, rfl, join_some (Option.some.inj h)⟩
theorem comp_at {fr : List Nat} {own i j : Nat} {σ : St} {v : V} (hi : own ≤ i) (hj : fr[i - own]? = some j) (hv : σ[j]? = some (some v)) : (compσ fr own σ)[i]? = some (some v) := by
  unfold compσ
  rw [blk_ge hi, hj]
  show some ((σ[j]?).join) = _
  rw [hv]; rfl
theorem comp_some {fr : List Nat} {own i j : Nat} {σ : St} {v : V} (hi : own ≤ i) (hj : fr[i - own]? = some j) (h : (compσ fr own σ)[i]? = some (some v)) : σ[j]? = some (some v) := by
  unfold compσ at h
  rw [blk_ge hi, hj] at h
  exact join_some (Option.some.inj h)
theorem nodup_inj {fr : List Nat} (hn : fr.Nodup) {i j x : Nat} (h1 : fr[i]? = some x) (h2 : fr[j]? = some x) : i = j := by
  obtain ⟨l1, e1⟩ := List.getElem?_eq_some_iff.mp h1
  obtain ⟨l2, e2⟩ := List.getElem?_eq_some_iff.mp h2
  exact (List.getElem_inj hn).mp (e1.trans e2.symm)
/-- into the block -/
theorem ER.blk {R H : Hp} {σ : St} {Γ : En} {fr : List Nat} {own : Nat} (er : ER ios R H σ Γ) (hn : fr.Nodup) : ER ios R H (compσ fr own σ) (blkG fr own Γ) where
  sub := er.sub
  len := by unfold compσ blkG; simp
  sl := fun i s h => by
    obtain ⟨hi, j, hj, hs⟩ := blkG_some h
    obtain ⟨v, hv, q⟩ := er.sl j s hs
    exact ⟨v, comp_at hi hj hv, q⟩
  dj := fun i j k l d e b q1 q2 q3 q4 q5 q6 => by
    obtain ⟨hi, i', hi', s1⟩ := blkG_some q1
    obtain ⟨hj, j', hj', s2⟩ := blkG_some q3
    have := er.dj i' j' k l d e b s1 q2 s2 q4 (comp_some hi hi' q5) (comp_some hj hj' q6)
    subst this
    have := nodup_inj hn hi' hj'
    omega
theorem Ow.blk {σ : St} {Γ : En} {fr : List Nat} {own : Nat} {b : Addr} (h : Ow (compσ fr own σ) (blkG fr own Γ) b) : Ow σ Γ b := by
  obtain ⟨i, k, d, h1, h2, h3⟩ := h
  obtain ⟨hi, j, hj, hs⟩ := blkG_some h1
  exact ⟨j, k, d, hs, h2, comp_some hi hj h3⟩
theorem unblk_len : ∀ {fr : List Nat} {k : Nat} {Γ Γb : En}, (unblk fr k Γ Γb).length = Γ.length
  | [], _, _, _ => rfl
  | j :: r, k, Γ, Γb => by unfold unblk; rw [unblk_len, List.length_set]
theorem unblk_out : ∀ {fr : List Nat} {k j : Nat} {Γ Γb : En}, j ∉ fr → (unblk fr k Γ Γb)[j]? = Γ[j]?
  | [], _, _, _, _, _ => rfl
  | i :: r, k, j, Γ, Γb, h => by
    unfold unblk
    rw [unblk_out (fun z => h (List.mem_cons_of_mem _ z)), List.getElem?_set_ne (fun z => h (by rw [z]; exact List.mem_cons_self ..))]
theorem unblk_in : ∀ {fr : List Nat} {k i j : Nat} {Γ Γb : En}, fr.Nodup → fr[i]? = some j → j < Γ.length → (unblk fr k Γ Γb)[j]? = some (Γb[k + i]?).join
  | [], _, _, _, _, _, _, h, _ => by simp at h
  | x :: r, k, 0, j, Γ, Γb, hn, h, hl => by
    simp at h
    subst h
    unfold unblk
    rw [unblk_out (List.nodup_cons.mp hn).1, List.getElem?_set_self hl]
    rfl
  | x :: r, k, i + 1, j, Γ, Γb, hn, h, hl => by
    unfold unblk
    rw [unblk_in (List.nodup_cons.mp hn).2 (by simpa using h) (by rw [List.length_set]; exact hl)]
    rw [show k + 1 + i = k + (i + 1) by omega]
/-- out of the block: σb is the block's, its later slots as they were -/
theorem EPo.unblk {R H R1 H1 : Hp} {σ σb : St} {Γ Γb : En} {fr : List Nat} {own : Nat} (er : ER ios R H σ Γ) (hn : fr.Nodup) (p : SPo ios R H (compσ fr own σ) (blkG fr own Γ) R1 H1 σb Γb) (keep : ∀ k, own ≤ k → σb[k]? = (compσ fr own σ)[k]?)
    (sh : ∀ b, Ow σb Γb b → Ow (compσ fr own σ) (blkG fr own Γ) b) : EPo ios R H σ Γ R1 H1 (Dv.unblk fr own Γ Γb) := by
  have slot : ∀ (j : Nat) (s : Kd × D), (Dv.unblk fr own Γ Γb)[j]? = some (some s) → (j ∉ fr ∧ Γ[j]? = some (some s)) ∨ ∃ i, fr[i]? = some j ∧ Γb[own + i]? = some (some s) ∧ σb[own + i]? = some ((σ[j]?).join) := by
    intro j s h
    by_cases hj : j ∈ fr
    · obtain ⟨i, hi, e⟩ := List.getElem_of_mem hj
      have hi' : fr[i]? = some j := by rw [List.getElem?_eq_getElem hi, e]
      have hl : j < Γ.length := by have := (List.getElem?_eq_some_iff.mp h).1; rwa [unblk_len] at this
      rw [unblk_in hn hi' hl] at h
      refine .inr ⟨i, hi', join_some (Option.some.inj h), ?_⟩
      rw [keep _ (by omega)]
      unfold compσ
      rw [blk_ge (by omega), show own + i - own = i by omega, hi']
      rfl
    · rw [unblk_out hj] at h
      exact .inl ⟨hj, h⟩
  have inside : ∀ (i j : Nat) (k : Kd) (d : D) (b : Addr), fr[i]? = some j → Γb[own + i]? = some (some (k, d)) → owned k = true → σb[own + i]? = some ((σ[j]?).join) → σ[j]? = some (some (.ref b)) → ∃ j0 k0 d0, j0 ∈ fr ∧ Γ[j0]? = some (some (k0, d0)) ∧ owned k0 = true ∧ σ[j0]? = some (some (.ref b)) := by
    intro i j k d b hi q h2 e h3
    have e : σb[own + i]? = some (some (.ref b)) := by rw [e, h3]; rfl
    obtain ⟨i0, k0, d0, g1, g2, g3⟩ := sh b ⟨own + i, k, d, q, h2, e⟩
    obtain ⟨hi0, j0, hj0, hs0⟩ := blkG_some g1
    exact ⟨j0, k0, d0, List.mem_of_getElem? hj0, hs0, g2, comp_some hi0 hj0 g3⟩
  have sh' : ∀ b, Ow σ (Dv.unblk fr own Γ Γb) b → Ow σ Γ b := by
    rintro b ⟨j, k, d, h1, h2, h3⟩
    rcases slot j _ h1 with ⟨_, q⟩ | ⟨i, hi, q, e⟩
    · exact ⟨j, k, d, q, h2, h3⟩
    · obtain ⟨j0, k0, d0, _, g1, g2, g3⟩ := inside i j k d b hi q h2 e h3
      exact ⟨j0, k0, d0, g1, g2, g3⟩
  have out : ∀ (j : Nat) (k : Kd) (d : D) (b : Addr), j ∉ fr → Γ[j]? = some (some (k, d)) → owned k = true → σ[j]? = some (some (.ref b)) → ¬ Ow (compσ fr own σ) (blkG fr own Γ) b := by
    rintro j k d b hj h1 h2 h3 ⟨i0, k0, d0, g1, g2, g3⟩
    obtain ⟨hi0, j0, hj0, hs0⟩ := blkG_some g1
    have := er.dj j j0 k k0 d d0 b h1 h2 hs0 g2 h3 (comp_some hi0 hj0 g3)
    subst this
    exact hj (List.mem_of_getElem? hj0)
  refine ⟨⟨p.er.sub, by rw [unblk_len]; exact er.len, fun j t hj => ?_, fun j j' l l' d d' b q1 q2 q3 q4 q5 q6 => ?_⟩, ⟨p.go.rr, fun b o h n => p.go.hh b o h fun z => n z.blk, fun b o h n r => p.go.no b o h (fun z => n z.blk) r, fun b z => .inl (sh' b z), p.go.th⟩, sh'⟩
  · rcases slot j t hj with ⟨hf, q⟩ | ⟨i, hi, q, e⟩
    · obtain ⟨v, hv, q'⟩ := er.sl j t q
      refine ⟨v, hv, q'.mono p.go.rr fun ho b ys eb hb rb => ?_⟩
      subst eb
      have := out j t.1 t.2 b hf q ho hv
      exact ⟨p.go.hh b _ hb this, p.go.no b _ hb this rb⟩
    · obtain ⟨v, hv, q'⟩ := p.er.sl _ t q
      rw [e] at hv
      exact ⟨v, join_some (Option.some.inj hv), q'⟩
  · rcases slot j _ q1 with ⟨hf, g1⟩ | ⟨i, hi, g1, e1⟩
    · rcases slot j' _ q3 with ⟨hf', g3⟩ | ⟨i', hi', g3, e3⟩
      · exact er.dj j j' l l' d d' b g1 q2 g3 q4 q5 q6
      · obtain ⟨j0, k0, d0, m0, z1, z2, z3⟩ := inside i' j' l' d' b hi' g3 q4 e3 q6
        have := er.dj j j0 l k0 d d0 b g1 q2 z1 z2 q5 z3
        subst this
        exact absurd m0 hf
    · rcases slot j' _ q3 with ⟨hf', g3⟩ | ⟨i', hi', g3, e3⟩
      · obtain ⟨j0, k0, d0, m0, z1, z2, z3⟩ := inside i j l d b hi g1 q2 e1 q5
        have := er.dj j' j0 l' k0 d' d0 b g3 q4 z1 z2 q6 z3
        subst this
        exact absurd m0 hf'
      · have := p.er.dj (own + i) (own + i') l l' d d' b g1 q2 g3 q4 (by rw [e1, q5]; rfl) (by rw [e3, q6]; rfl)
        have : i = i' := by omega
        subst this
        rw [hi] at hi'
        exact Option.some.inj hi'
/-- what a store of the block's own names keeps -/
def GKeep (n : Nat) (m : D → M Unit) : Prop := ∀ d Γ Γ', m d Γ = .ok () Γ' → (∀ k, n ≤ k → Γ'[k]? = Γ[k]?) ∧ ∀ i s, i < n → Γ'[i]? = some (some s) → Γ[i]? = some (some s) ∨ s.1 = .frz
theorem gk_name {i n : Nat} (h : i < n) : GKeep n (gN i) := fun d Γ Γ' e => by
  cases e
  refine ⟨fun k hk => List.getElem?_set_ne (by omega), fun j s hj q => ?_⟩
  by_cases hji : j = i
  · subst hji
    have l1 : j < Γ.length := by have := (List.getElem?_eq_some_iff.mp q).1; rwa [List.length_set] at this
    rw [List.getElem?_set_self l1] at q
    cases q
    exact .inr rfl
  · rw [List.getElem?_set_ne (Ne.symm hji)] at q
    exact .inl q
/-- one item of a comprehension, in the block -/
def eltM (m : D → M Unit) (p : M Bool) (f : M RV) (d : D) : M (Option D) := M.bind (noX (m d)) fun _ => M.bind p fun b => if b then M.bind f fun rv => M.bind (mat rv) fun y => M.pure (some y) else M.pure none
def lcM (fr : List Nat) (own : Nat) (m : D → M Unit) (p : M Bool) (f : M RV) : List D → M (List D)
  | [] => M.pure []
  | d :: r => fun Γ => match eltM m p f d (blkG fr own Γ) with
    | .ok y Γb => match lcM fr own m p f r (unblk fr own Γ Γb) with
      | .ok ys Γ' => .ok (y.toList ++ ys) Γ'
      | _ => .st
    | _ => .st
def compM (items : M (List D)) (fr : List Nat) (own : Nat) (m : D → M Unit) (p : M Bool) (f : M RV) : M RV := M.bind items fun ds => if ds.length < sizeLine then M.bind (lcM fr own m p f ds) fun ys => M.pure (.new (.lst ys)) else M.st
abbrev EN : XKS := fun _ _ _ _ => False
theorem rd_lc {wi : TI} {gt : TG} {tc : TT} {te : TE} {items : M (List D)} {m : D → M Unit} {fr : List Nat} {own : Nat} (hn : fr.Nodup) (hi : RdI EE ios wi items) (hg : RdG ios own gt m) (hk : GKeep own m) (hc : RdT EN ios tc p) (he : RdE EN ios te f) : RdE EE ios (tLC fr own wi gt tc te) (compM items fr own m p f) := by
  intro σ H R Γ Q er w
  unfold compM at w
  rw [wpM_bind] at w
  refine hi σ H R Γ _ er (wpM_mono w (fun ds Γ1 w J H1 R1 p1 hJ => ?_) fun _ _ z => z)
  split at w
  · rename_i hsz
    rw [wpM_bind] at w
    intro A hA
    have hRA : R1 A = none := p1.er.sub.free hA
    have alA : Al R1 H1 R1 (upd H1 A (.lst [])) := ⟨p1.er.sub.trans (same_upd hA), Same.refl _, same_upd hA, fun _ _ _ z => z⟩
    refine ⟨fun i n ys H2 => n = ds.length - i ∧ i ≤ ds.length ∧ ∃ R2 Γ2 ys2 L, EPo ios R H σ Γ R2 H2 Γ2 ∧ Same R1 R2 ∧ R2 A = none ∧ Rps R2 ys ys2 ∧ ys.length ≤ i ∧ lcM fr own m p f (ds.drop i) Γ2 = L ∧ wpM L (fun zs Γ' => ∀ x H' R', EPo ios R H σ Γ R' H' Γ' → RvR R' H H' σ x (.new (.lst (ys2 ++ zs))) → Q x H') (EXP EE ios R H σ Γ), ⟨ds.length, rfl, Nat.zero_le _, R1, Γ1, [], _, p1.al alA, Same.refl _, hRA, .nil, by simp, rfl, w⟩, ?_⟩
    rintro i n ys H2 hA2 ⟨rfl, hi', R2, Γ2, ys2, L, p2, s2, hRA2, hys, hyl, rfl, w⟩
    obtain ⟨go, stop⟩ := hJ i H2 R2 s2 p2.er.sub
    have nOA : ¬ Ow σ Γ A := fun z => by
      obtain ⟨_, xs, q⟩ := er.ow z
      rw [p1.back er A hA] at q; cases q
    by_cases hlt : i < ds.length
    · have hd : ds[i]? = some ds[i] := List.getElem?_eq_getElem hlt
      obtain ⟨g1, g2⟩ := go _ hd
      rw [List.drop_eq_getElem_cons hlt] at w
      refine .inr ⟨g1, by omega, fun x H3 hx => ?_⟩
      obtain ⟨R3, al, rx⟩ := g2 x H3 hx
      unfold lcM at w
      have p3 : EPo ios R H σ Γ R3 H3 Γ2 := p2.al al
      have hA3 : H3 A = some (.lst ys) := al.hh _ _ hA2
      have hRA3 : R3 A = none := al.no _ _ hA2 hRA2
      have erb : ER ios R3 H3 (compσ fr own σ) (blkG fr own Γ2) := p3.er.blk hn
      have nOAb : ¬ Ow (compσ fr own σ) (blkG fr own Γ2) A := fun z => nOA (p3.sh A z.blk)
      -- the element's run, and what comes behind it
      have run : wpM (eltM m p f ds[i] (blkG fr own Γ2)) (fun y Γb => wpM (lcM fr own m p f (ds.drop (i + 1)) (Dv.unblk fr own Γ2 Γb)) (fun zs Γ' => ∀ x H' R', EPo ios R H σ Γ R' H' Γ' → RvR R' H H' σ x (.new (.lst (ys2 ++ (y.toList ++ zs)))) → Q x H') (fun _ _ => False)) NoX := by
        cases q : eltM m p f ds[i] (blkG fr own Γ2) with
        | ok y Γb =>
          rw [q] at w
          dsimp only at w
          show wpM (lcM fr own m p f (ds.drop (i + 1)) (Dv.unblk fr own Γ2 Γb)) _ _
          cases q' : lcM fr own m p f (ds.drop (i + 1)) (Dv.unblk fr own Γ2 Γb) with
          | ok zs Γ' => rw [q'] at w; exact w
          | ex _ _ => rw [q'] at w; exact False.elim w
          | st => rw [q'] at w; exact False.elim w
        | ex _ _ => rw [q] at w; exact False.elim w
        | st => rw [q] at w; exact False.elim w
      unfold eltM at run
      rw [wpM_bind] at run
      cases hm : m ds[i] (blkG fr own Γ2) with
      | ex _ _ => have := wp_noX run; rw [hm] at this; exact this.elim
      | st => have := wp_noX run; rw [hm] at this; exact this.elim
      | ok u Γ4 =>
        obtain ⟨k1, k2⟩ := hk _ _ _ hm
        have wm := wp_noX run
        rw [hm] at wm
        refine hg (compσ fr own σ) H3 R3 (blkG fr own Γ2) x _ _ erb rx ?_
        rw [hm]
        refine wpM_ok fun σ4 H4 R4 p4 keep s4 => ?_
        have w := wpM_ko wm
        rw [wpM_bind] at w
        have base4 : ∀ b, Ow σ4 Γ4 b → Ow (compσ fr own σ) (blkG fr own Γ2) b := by
          rintro b ⟨j, k, d, h1, h2, h3⟩
          by_cases hj : own ≤ j
          · rw [k1 j hj] at h1
            rw [keep j hj] at h3
            exact ⟨j, k, d, h1, h2, h3⟩
          · rcases k2 j (k, d) (by omega) h1 with z | z
            · unfold blkG at z; rw [blk_lt (by omega)] at z; cases z
            · cases z; cases h2
        refine hc σ4 H4 R4 Γ4 _ p4.er (wpM_mono w (fun b Γ6 w H6 R6 p6 => ?_) fun _ _ z => z.elim)
        have p46 : SPo ios R3 H3 (compσ fr own σ) (blkG fr own Γ2) R6 H6 σ4 Γ6 := p4.trans p6.spo
        have sh6 : ∀ b, Ow σ4 Γ6 b → Ow (compσ fr own σ) (blkG fr own Γ2) b := fun b z => base4 b (p6.sh b z)
        have hA6 : H6 A = some (.lst ys) := p46.go.hh _ _ hA3 nOAb
        have hRA6 : R6 A = none := p46.go.no _ _ hA3 nOAb hRA3
        cases b with
        | false =>
          simp only [Bool.false_eq_true, if_false] at w ⊢
          have pu : EPo ios R3 H3 σ Γ2 R6 H6 (Dv.unblk fr own Γ2 Γ6) := EPo.unblk p3.er hn p46 keep sh6
          refine ⟨hA6, _, Nat.sub_lt_sub_left hlt (Nat.lt_succ_self i), rfl, hlt, R6, _, ys2, _, p3.trans pu, (s2.trans al.rr).trans p46.go.rr, hRA6, hys.sm (al.rr.trans p46.go.rr), by omega, rfl, ?_⟩
          exact wpM_mono w (fun zs Γ' w x H' R' p q => w x H' R' p q) fun _ _ z => z.elim
        | true =>
          simp only [if_true] at w ⊢
          rw [wpM_bind] at w
          refine he σ4 H6 R6 Γ6 _ p6.er (wpM_mono w (fun rv Γ7 w y H7 R7 p7 hy => ?_) fun _ _ z => z.elim)
          rw [wpM_bind] at w
          obtain ⟨dy, Γ8, R8, p8, s8, ry, w⟩ := mat_ok p6.er p7 hy w
          have p48 : SPo ios R3 H3 (compσ fr own σ) (blkG fr own Γ2) R8 H7 σ4 Γ8 := p46.trans p8.spo
          have sh8 : ∀ b, Ow σ4 Γ8 b → Ow (compσ fr own σ) (blkG fr own Γ2) b := fun b z => sh6 b (p8.sh b z)
          have pu : EPo ios R3 H3 σ Γ2 R8 H7 (Dv.unblk fr own Γ2 Γ8) := EPo.unblk p3.er hn p48 keep sh8
          have hA7 : H7 A = some (.lst ys) := p48.go.hh _ _ hA3 nOAb
          have hRA8 : R8 A = none := p48.go.no _ _ hA3 nOAb hRA3
          have p38 := p3.trans pu
          have nO8 : ¬ Ow σ (Dv.unblk fr own Γ2 Γ8) A := fun z => nOA (p38.sh A z)
          have pA : EPo ios R H σ Γ R8 (upd H7 A (.lst (ys ++ [y]))) (Dv.unblk fr own Γ2 Γ8) := by
            have up : ∀ b, b ≠ A → upd H7 A (.lst (ys ++ [y])) b = H7 b := fun b hb => upd_ne hb
            refine ⟨⟨fun b o q => ?_, p38.er.len, fun j t hj => ?_, p38.er.dj⟩, ⟨p38.go.rr, fun b o q n => ?_, p38.go.no, p38.go.oo, fun b o q => ?_⟩, p38.sh⟩
            · rw [up b (fun z => by rw [z, hRA8] at q; cases q)]; exact p38.er.sub b o q
            · obtain ⟨v, hv, q⟩ := p38.er.sl j t hj
              refine ⟨v, hv, q.mono (Same.refl _) fun ho b zs eb hb rb => ⟨?_, rb⟩⟩
              rw [up b]
              · exact hb
              · rintro rfl; subst eb; exact nO8 ⟨j, t.1, t.2, hj, ho, hv⟩
            · rw [up b (fun z => by rw [z, p1.back er A hA] at q; cases q)]; exact p38.go.hh b o q n
            · by_cases hb : b = A
              · subst hb; exact ⟨_, upd_same⟩
              · rw [up b hb]; exact p38.go.th b o q
          refine ⟨hA7, _, Nat.sub_lt_sub_left hlt (Nat.lt_succ_self i), rfl, hlt, R8, _, ys2 ++ [dy], _, pA, ((s2.trans al.rr).trans p46.go.rr).trans p8.go.rr, hRA8, (hys.sm ((al.rr.trans p46.go.rr).trans p8.go.rr)).app (.cons ry .nil), by rw [List.length_append]; simp; omega, rfl, ?_⟩
          refine wpM_mono w (fun zs Γ' w x H' R' p q => w x H' R' p ?_) fun _ _ z => z.elim
          simpa using q
    · have e : ds.drop i = [] := List.drop_eq_nil_of_le (by omega)
      rw [e] at w
      refine .inl ⟨stop (by omega), w _ H2 R2 p2 ⟨⟨A, ys, ys2, rfl, hRA2, hA2, by simp, hys⟩, A, rfl, p1.back er A hA⟩⟩
  · exact False.elim w
end
end Dv
end

section
set_option Elab.async false
set_option linter.all false
set_option maxRecDepth 100000
set_option maxHeartbeats 5000000
namespace Dv
open PySem L2 Ex
variable [KC]
section
variable {X : Cx} {EE : XKS} {ios : List Addr} {e a b c iter tg elt : Expr} {es ifs : List Expr} {f g k : M RV} {fs : M (List RV)} {p : M Bool} {s s' : M Fl} {st : Stmt} {sts sts' : List Stmt} {pos : Pos}
/-! comprehensions -/
def tOfE (EE : XKS) (ios : List Addr) (f : M RV) : TE := fun σ H Q => ∃ R Γ, ER ios R H σ Γ ∧ wpM (f Γ) (fun rv Γ' => ∀ x H' R', EPo ios R H σ Γ R' H' Γ' → RvR R' H H' σ x rv → Q x H') (EXP EE ios R H σ Γ)
def tOfT (EE : XKS) (ios : List Addr) (f : M Bool) : TT := fun σ H Q => ∃ R Γ, ER ios R H σ Γ ∧ wpM (f Γ) (fun b Γ' => ∀ H' R', EPo ios R H σ Γ R' H' Γ' → Q b H') (EXP EE ios R H σ Γ)
theorem VE.pe (h : VE X EE ios e f) : PE X e (tOfE EE ios f) := let ⟨_, h1, h2⟩ := h; fun pins s σ H Q I ⟨R, Γ, er, w⟩ => h1 pins s σ H Q I (h2 σ H R Γ Q er w)
theorem VT.pt (h : VT X EE ios e p) : PT X e (tOfT EE ios p) := let ⟨_, h1, h2⟩ := h; fun pins s σ H Q I ⟨R, Γ, er, w⟩ => h1 pins s σ H Q I (h2 σ H R Γ Q er w)
def VTs (X : Cx) (EE : XKS) (ios : List Addr) (ifs : List Expr) (p : M Bool) : Prop := PTs X ifs (tOfT EE ios p)
theorem vts_one (h : VT X EE ios c p) : VTs X EE ios [c] p := pts_one h.pt
abbrev blkX (X : Cx) (Nc : List Str) (scope : Scope) (cl : List (Str × Addr)) (C : Addr) (s3 : Shared) (H3 : Hp) (fp : List Addr) (pn' : List (Addr × Obj)) : Cx := X.blk Nc scope cl C s3 H3 fp pn' fun _ _ => False
theorem ve_lc {scope : Scope} {Nc : List Str} {own : Nat} {fr : List Nat} {gt : TG} {items : M (List D)} {m : D → M Unit} (hc : X.calm = true) (B : BlkN X scope Nc own fr) (hn : fr.Nodup) (hi : VI X EE ios tg iter items) (hog : OwnG own gt)
    (hg : ∀ cl C s3 H3 fp pn', PG (blkX X Nc scope cl C s3 H3 fp pn') tg gt) (hr : RdG ios own gt m) (hk : GKeep own m) (ht : ∀ cl C s3 H3 fp pn', VTs (blkX X Nc scope cl C s3 H3 fp pn') EN ios ifs p) (he : ∀ cl C s3 H3 fp pn', VE (blkX X Nc scope cl C s3 H3 fp pn') EN ios elt f)
    (hs : ∀ x, foldedSetIterable iter X.env x = pure x := by intro _; rfl) : VE X EE ios (.ListComp elt [⟨tg, iter, ifs, 0⟩] scope pos) (compM items fr own m p f) :=
  let ⟨_, h1, h2⟩ := hi
  ⟨_, pe_lc hc B h1 hog hg ht (fun cl C s3 H3 fp pn' => (he cl C s3 H3 fp pn').pe) hs, rd_lc hn h2 hr hk (fun σ H R Γ Q er w => ⟨R, Γ, er, w⟩) (fun σ H R Γ Q er w => ⟨R, Γ, er, w⟩)⟩
/-! what a def hands back -/
inductive Rt where
  | val (d : D) | new (d : D)
def Rt.rv : Rt → RV
  | .val d => .val d
  | .new d => .new d
def RtK (R H : Hp) (r : Option Rt) (Q : VK) : Prop := match r with
  | some r => ∀ x H' R', Al R H R' H' → RvA R' H H' x r.rv → Q x H'
  | none => False
/-- a def that changes nothing -/
def spP (G : List D → Option Rt) : Sp := fun vs H Q _ => ∃ R ds, Same R H ∧ Rps R vs ds ∧ RtK R H (G ds) Q
def gam (N : List Str) (ds : List D) : En := ds.map (fun d => some (.frz, d)) ++ List.replicate (N.length - ds.length) none
def finR : Res Fl → Option Rt
  | .ok .nx _ => some (.val .non)
  | .ok (.ret (.val d)) _ => some (.val d)
  | .ok (.ret (.new d)) _ => some (.new d)
  | .ok (.ret (.var i)) Γ => match Γ[i]? with
    | some (some (.own, d)) => some (.new d)
    | some (some (.frz, d)) => some (.val d)
    | _ => none
  | _ => none
theorem gam_at {N : List Str} {ds : List D} {i : Nat} {t : Kd × D} (h : (gam N ds)[i]? = some (some t)) : ∃ d, ds[i]? = some d ∧ t = (.frz, d) := by
  unfold gam at h
  by_cases hi : i < ds.length
  · rw [List.getElem?_append_left (by rw [List.length_map]; exact hi), List.getElem?_map, List.getElem?_eq_getElem hi] at h
    cases h
    exact ⟨_, List.getElem?_eq_getElem hi, rfl⟩
  · rw [List.getElem?_append_right (by rw [List.length_map]; omega), List.getElem?_replicate] at h
    split at h <;> cases h
theorem start_at {N : List Str} {vs : List V} {i : Nat} {v : V} (h : vs[i]? = some v) : (L2.start N vs)[i]? = some (some v) := by
  unfold L2.start
  have hi := (List.getElem?_eq_some_iff.mp h).1
  rw [List.getElem?_append_left (by rw [List.length_map]; exact hi), List.getElem?_map, h]
  rfl
theorem er_start {N : List Str} {R H : Hp} {vs : List V} {ds : List D} (s : Same R H) (h : Rps R vs ds) : ER [] R H (L2.start N vs) (gam N ds) where
  sub := s
  len := by unfold L2.start gam; simp [h.len]
  sl := fun i t q => by
    obtain ⟨d, hd, rfl⟩ := gam_at q
    obtain ⟨x, hx, rx⟩ := h.ta hd
    exact ⟨x, start_at hx, rx⟩
  dj := fun i j k l d e b q1 q2 _ _ _ _ => by
    obtain ⟨_, _, z⟩ := gam_at q1
    cases z; cases q2
theorem no_ow {N : List Str} {σ : St} {ds : List D} {b : Addr} : ¬ Ow σ (gam N ds) b := by
  rintro ⟨i, k, d, q1, q2, _⟩
  obtain ⟨_, _, z⟩ := gam_at q1
  cases z; cases q2
theorem SPo.al {N : List Str} {R H R' H' : Hp} {σ σ' : St} {ds : List D} {Γ' : En} (p : SPo ios R H σ (gam N ds) R' H' σ' Γ') : Al R H R' H' := ⟨p.er.sub, p.go.rr, fun b o h => p.go.hh b o h no_ow, fun b o h r => p.go.no b o h no_ow r⟩
theorem fn_pure {P : Program} {w : World} {K : PySem.W.Frag} {mg : Str → Option Value} {base : Heap} {x qual : Str} {fa : Addr} {fd : FuncData} {N ps : List Str} {k : Nat} {G : List D → Option Rt} {bm : M Fl} (F : Fun K x qual st fa fd) (S : FnScope N ps (defScope st))
    (hb : ∀ (cdv : Value) (A : Around) (outer : List Env) (s : Shared) (H : Hp) (E : XK), Room k (A.deeper (PyProof.Rows.envOfC qual (defScope st) s.heap.objs.size fa cdv)) → VSs (cxOf CX0 P w K mg base N qual (defScope st) fa cdv A outer s H E).nox EN [] (defBody st) bm)
    (h : ∀ ds r, G ds = some r → ds.length = ps.length ∧ finR (bm (gam N ds)) = some r) : FnOk P w K mg base CX0 (k + 1) fa fd ps (spP G) := by
  refine F.ok S (fun vs H Q E q => ?_) (fun cdv A outer s H vs Q E hr q => ?_)
  · obtain ⟨R, ds, _, h2, h3⟩ := q
    cases e : G ds with
    | none => rw [e] at h3; exact h3.elim
    | some r => rw [h2.len]; exact (h ds r e).1
  · obtain ⟨R, ds, h1, h2, h3⟩ := q
    cases e : G ds with
    | none => rw [e] at h3; exact h3.elim
    | some r =>
      rw [e] at h3
      obtain ⟨t, b1, b2⟩ := hb cdv A outer s H E hr
      refine ⟨t, b1, b2 _ H R _ _ (er_start h1 h2) ?_⟩
      have fin := (h ds r e).2
      cases q : bm (gam N ds) with
      | st => rw [q] at fin; cases fin
      | ex _ _ => rw [q] at fin; cases fin
      | ok fl Γ' =>
        rw [q] at fin
        refine wpM_ok fun σ' H' R' p => ?_
        cases fl with
        | brk => cases fin
        | cont => cases fin
        | nx => cases fin; exact h3 .non H' R' p.al .non
        | ret rv =>
          intro y hy
          cases rv with
          | val d => cases fin; exact h3 y H' R' p.al hy
          | new d => cases fin; exact h3 y H' R' p.al hy
          | var i =>
            have fin : (match Γ'[i]? with
              | some (some (.own, d)) => some (Rt.new d)
              | some (some (.frz, d)) => some (.val d)
              | _ => none) = some r := fin
            split at fin
            · rename_i d hs
              cases fin
              obtain ⟨v, hv, sl⟩ := p.er.sl i _ hs
              have hy : σ'[i]? = some (some y) := hy
              rw [hy] at hv
              cases hv
              obtain ⟨a, xs, ds', rfl, r1, r2, r3, r4⟩ := sl
              refine h3 _ H' R' p.al ⟨⟨a, xs, ds', rfl, r1, r2, r3, r4⟩, a, rfl, ?_⟩
              exact (p.go.oo a ⟨i, .own, d, hs, rfl, hy⟩).elim (fun z => absurd z no_ow) id
            · rename_i d hs
              cases fin
              obtain ⟨v, hv, sl⟩ := p.er.sl i _ hs
              have hy : σ'[i]? = some (some y) := hy
              rw [hy] at hv
              cases hv
              exact h3 _ H' R' p.al sl
            · cases fin
/-! a call of such a def -/
mutual
def immD : D → Bool
  | .non => true
  | .bl _ => true
  | .int _ => true
  | .str _ => true
  | .tup xs => immDs xs
  | _ => false
def immDs : List D → Bool
  | [] => true
  | d :: r => immD d && immDs r
end
def immR : Rt → Bool
  | .val d => immD d
  | .new (.lst ds) => immDs ds
  | .new _ => false
def isVar : RV → Bool
  | .var _ => true
  | _ => false
mutual
theorem Rp.less {R R' : Hp} (h : ∀ b xs, R b = some (.tup xs) → R' b = some (.tup xs)) : ∀ {x : V} {d : D}, Rp R x d → immD d = true → Rp R' x d
  | _, _, .non, _ => .non
  | _, _, .bl b, _ => .bl b
  | _, _, .int i, _ => .int i
  | _, _, .str x, _ => .str x
  | _, _, .lst _ _, z => by simp [immD] at z
  | _, _, .tup e q, z => .tup (h _ _ e) (Rps.less h q (by simpa [immD] using z))
  | _, _, .dnil _, z => by simp [immD] at z
  | _, _, .scr _, z => by simp [immD] at z
  | _, _, .exc0 _, z => by simp [immD] at z
  | _, _, .exc _ _ _, z => by simp [immD] at z
  | _, _, .obj _ _, z => by simp [immD] at z
theorem Rps.less {R R' : Hp} (h : ∀ b xs, R b = some (.tup xs) → R' b = some (.tup xs)) : ∀ {xs : List V} {ds : List D}, Rps R xs ds → immDs ds = true → Rps R' xs ds
  | _, _, .nil, _ => .nil
  | _, _, .cons a b, z => by
    have z := Bool.and_eq_true_iff.mp (show (immD _ && immDs _) = true from by simpa only [immDs] using z)
    exact .cons (Rp.less h a z.1) (Rps.less h b z.2)
end
def callP (G : List D → Option Rt) (fs : M (List RV)) : M RV := M.bind fs fun rvs => M.bind (peekAll rvs) fun ds => match G ds with
  | some r => if rvs.any isVar && !immR r then M.bind (matAll rvs) fun ds' => M.ofO ((G ds').map Rt.rv) else M.pure r.rv
  | none => M.st
open Classical in
/-- lent for the time of a call -/
noncomputable def lent (O : Addr → Prop) (R H : Hp) : Hp := fun b => if O b then H b else R b
theorem lent_sub {O : Addr → Prop} {R H : Hp} (s : Same R H) : Same (lent O R H) H := fun b o e => by
  unfold lent at e
  split at e
  · exact e
  · exact s b o e
theorem lent_same {O : Addr → Prop} {R H : Hp} (h : ∀ b, O b → R b = none) : Same R (lent O R H) := fun b o e => by
  unfold lent
  split
  · rename_i z; rw [h b z] at e; cases e
  · exact e
theorem Pks.lent {R H : Hp} {σ : St} {Γ : En} (er : ER ios R H σ Γ) : ∀ {xs : List V} {rvs : List RV} {ds : List D}, ArsR R σ xs rvs → Pks R H xs ds → peekAll rvs Γ = .ok ds Γ → Rps (lent (Ow σ Γ) R H) xs ds := by
  have ss : Same R (Dv.lent (Ow σ Γ) R H) := lent_same fun b z => (er.ow z).1
  intro xs rvs
  induction rvs generalizing xs with
  | nil => intro ds h1 h2 _; cases h1; cases h2; exact .nil
  | cons rv r ih =>
    intro ds h1 h2 h3
    cases h1 with
    | cons a b =>
      cases h2 with
      | cons c d =>
        unfold peekAll M.bind at h3
        cases q : peek rv Γ with
        | ex _ _ => rw [q] at h3; cases h3
        | st => rw [q] at h3; cases h3
        | ok d0 Γ0 =>
          have e0 : Γ0 = Γ := by
            cases rv with
            | val _ => cases q; rfl
            | new _ => cases q; rfl
            | var i => unfold peek at q; dsimp only at q; split at q <;> cases q; rfl
          subst e0
          rw [q] at h3
          dsimp only at h3
          cases q2 : peekAll r Γ0 with
          | ex _ _ => rw [q2] at h3; cases h3
          | st => rw [q2] at h3; cases h3
          | ok ds0 Γ1 =>
            rw [q2] at h3
            cases h3
            refine .cons ?_ (ih b d q2)
            cases rv with
            | val d' => cases q; exact Rp.sm ss a
            | new d' => exact a.elim
            | var i =>
              unfold peek at q
              dsimp only at q
              split at q
              · rename_i kd d' hs
                cases q
                obtain ⟨v, hv, sl⟩ := er.sl i _ hs
                have a : σ[i]? = some (some _) := a
                rw [a] at hv
                cases hv
                cases kd with
                | frz => exact Rp.sm ss sl
                | own =>
                  obtain ⟨ad, ys, es, rfl, r1, r2, rfl, r4⟩ := sl
                  refine .lst ?_ (r4.sm ss)
                  unfold Dv.lent
                  rw [if_pos ⟨i, .own, _, hs, rfl, a⟩]
                  exact r2
                | io n =>
                  obtain ⟨⟨ad, ys, es, rfl, r1, r2, rfl, r4⟩, _⟩ := sl
                  refine .lst ?_ (r4.sm ss)
                  unfold Dv.lent
                  rw [if_pos ⟨i, .io n, _, hs, rfl, a⟩]
                  exact r2
              · cases q
theorem peekAll_same {Γ Γ' : En} : ∀ {rvs : List RV} {ds : List D}, peekAll rvs Γ = .ok ds Γ' → Γ' = Γ := by
  intro rvs
  induction rvs with
  | nil => intro ds h; cases h; rfl
  | cons rv r ih =>
    intro ds h
    unfold peekAll M.bind at h
    cases q : peek rv Γ with
    | ex _ _ => rw [q] at h; cases h
    | st => rw [q] at h; cases h
    | ok d0 Γ0 =>
      have e0 : Γ0 = Γ := by
        cases rv with
        | val _ => cases q; rfl
        | new _ => cases q; rfl
        | var i => unfold peek at q; dsimp only at q; split at q <;> cases q; rfl
      subst e0
      rw [q] at h
      dsimp only at h
      cases q2 : peekAll r Γ0 with
      | ex _ _ => rw [q2] at h; cases h
      | st => rw [q2] at h; cases h
      | ok ds0 Γ1 => rw [q2] at h; cases h; exact ih q2
theorem ars_novar {R : Hp} {σ : St} {Γ : En} : ∀ {xs : List V} {rvs : List RV} {ds : List D}, ArsR R σ xs rvs → rvs.any isVar = false → peekAll rvs Γ = .ok ds Γ → Rps R xs ds := by
  intro xs rvs
  induction rvs generalizing xs with
  | nil => intro ds h1 _ h3; cases h1; cases h3; exact .nil
  | cons rv r ih =>
    intro ds h1 h2 h3
    rw [List.any_cons, Bool.or_eq_false_iff] at h2
    cases h1 with
    | cons a b =>
      cases rv with
      | var i => cases h2.1
      | new d => exact a.elim
      | val d =>
        have h3 : M.bind (peekAll r) (fun ds => M.pure (d :: ds)) Γ = .ok ds Γ := h3
        unfold M.bind at h3
        cases q2 : peekAll r Γ with
        | ex _ _ => rw [q2] at h3; cases h3
        | st => rw [q2] at h3; cases h3
        | ok ds0 Γ1 =>
          have := peekAll_same q2
          subst this
          rw [q2] at h3
          cases h3
          exact .cons a (ih b h2.2 q2)
theorem peek_noex {Γ Γ' : En} {x : Xc} : ∀ {rvs : List RV}, peekAll rvs Γ ≠ .ex x Γ' := by
  intro rvs
  induction rvs with
  | nil => intro h; cases h
  | cons rv r ih =>
    intro h
    unfold peekAll M.bind at h
    cases q : peek rv Γ with
    | ex _ _ =>
      cases rv with
      | val _ => cases q
      | new _ => cases q
      | var i => unfold peek at q; dsimp only at q; split at q <;> cases q
    | st => rw [q] at h; cases h
    | ok d0 Γ0 =>
      have e0 : Γ0 = Γ := by
        cases rv with
        | val _ => cases q; rfl
        | new _ => cases q; rfl
        | var i => unfold peek at q; dsimp only at q; split at q <;> cases q; rfl
      subst e0
      rw [q] at h
      dsimp only at h
      cases q2 : peekAll r Γ0 with
      | ex _ _ => exact ih (by rw [q2] at h; cases h; exact q2)
      | st => rw [q2] at h; cases h
      | ok ds0 Γ1 => rw [q2] at h; cases h
theorem peekAll_is {rvs : List RV} {Γ : En} {K : List D → En → Prop} {E : Xc → En → Prop} (w : wpM (peekAll rvs Γ) K E) : ∃ ds, peekAll rvs Γ = .ok ds Γ ∧ K ds Γ := by
  cases q : peekAll rvs Γ with
  | ex _ _ => exact absurd q peek_noex
  | st => rw [q] at w; exact False.elim w
  | ok ds Γ' =>
    have := peekAll_same q
    subst this
    rw [q] at w
    exact ⟨ds, rfl, w⟩
open Classical in
noncomputable def unlent (O : Addr → Prop) (R : Hp) : Hp := fun b => if O b then none else R b
theorem ve_callP {G : List D → Option Rt} {e0 : Expr} (hp : ∀ t, PA X es t → PE X e0 (tCall (spP G) [] E0 t)) (ha : VA X EE ios es fs) : VE X EE ios e0 (callP G fs) := by
  obtain ⟨t, h1, h2⟩ := ha
  refine ⟨_, hp t h1, fun σ H R Γ Q er w => ?_⟩
  unfold callP at w
  rw [wpM_bind] at w
  refine h2 σ H R Γ _ er (wpM_mono w (fun rvs Γ1 w xs H1 R1 p1 hx => ?_) fun _ _ z => z)
  show spP G (xs ++ []) H1 Q E0
  rw [List.append_nil]
  rw [wpM_bind] at w
  obtain ⟨ds, q, w⟩ := peekAll_is w
  obtain ⟨ds', pk, e⟩ := peekAll_ok (K := fun ds' _ => ds' = ds) (E := fun _ _ => False) p1.er hx (by rw [q]; exact rfl)
  subst e
  cases hG : G ds' with
  | none => rw [hG] at w; exact False.elim w
  | some r =>
    rw [hG] at w
    dsimp only at w
    by_cases hv : rvs.any isVar = true
    · by_cases him : immR r = true
      · rw [hv, him] at w
        have w : ∀ x H' R', EPo ios R H σ Γ R' H' Γ1 → RvR R' H H' σ x r.rv → Q x H' := w
        refine ⟨lent (Ow σ Γ1) R1 H1, ds', lent_sub p1.er.sub, Pks.lent p1.er hx pk q, ?_⟩
        rw [hG]
        intro x H' R' al ra
        have ow : ∀ b, Ow σ Γ1 b → R1 b = none ∧ ∃ xs, H1 b = some (.lst xs) := fun b z => p1.er.ow z
        have un : ∀ b, ¬ Ow σ Γ1 b → unlent (Ow σ Γ1) R' b = R' b := fun b z => by unfold unlent; rw [if_neg z]
        have un' : ∀ b, Ow σ Γ1 b → unlent (Ow σ Γ1) R' b = none := fun b z => by unfold unlent; rw [if_pos z]
        have tup : ∀ b ys, R' b = some (.tup ys) → unlent (Ow σ Γ1) R' b = some (.tup ys) := fun b ys z => by
          rw [un b]
          · exact z
          · intro o
            obtain ⟨_, zs, hz⟩ := ow b o
            have := al.sub _ _ z
            rw [al.hh _ _ hz] at this
            cases this
        have rr : Same R1 (unlent (Ow σ Γ1) R') := fun b o z => by
          have nb : ¬ Ow σ Γ1 b := fun q => by rw [(ow b q).1] at z; cases z
          rw [un b nb]
          apply al.rr
          unfold lent
          rw [if_neg nb]
          exact z
        have no : ∀ b o, H1 b = some o → R1 b = none → unlent (Ow σ Γ1) R' b = none := fun b o hb rb => by
          by_cases nb : Ow σ Γ1 b
          · exact un' b nb
          · rw [un b nb]
            apply al.no b o hb
            unfold lent
            rw [if_neg nb]
            exact rb
        have al' : Al R1 H1 (unlent (Ow σ Γ1) R') H' := ⟨fun b o z => by
          by_cases nb : Ow σ Γ1 b
          · rw [un' b nb] at z; cases z
          · rw [un b nb] at z; exact al.sub b o z, rr, al.hh, no⟩
        refine w x H' _ (p1.al al') ?_
        cases r with
        | val d => exact Rp.less tup ra him
        | new d =>
          cases d with
          | lst zs =>
            obtain ⟨⟨a, ys, ds2, rfl, r1, r2, r3, r4⟩, a', ea, hf⟩ := ra
            cases ea
            cases r3
            refine ⟨⟨a, ys, zs, rfl, ?_, r2, rfl, r4.less tup him⟩, a, rfl, p1.back er a hf⟩
            by_cases nb : Ow σ Γ1 a
            · exact un' a nb
            · rw [un a nb]; exact r1
          | _ => cases him
      · have him : immR r = false := by cases z : immR r <;> simp_all
        rw [hv, him] at w
        have w : wpM (M.bind (matAll rvs) (fun ds' => M.ofO ((G ds').map Rt.rv)) Γ1) _ _ := w
        rw [wpM_bind] at w
        obtain ⟨ds2, Γ2, R2, p2, s2, r2, w⟩ := matAll_ok er p1 hx w
        obtain ⟨rv, hrv, w⟩ := wpM_ofO w
        refine ⟨R2, ds2, p2.er.sub, r2, ?_⟩
        cases hG2 : G ds2 with
        | none => rw [hG2] at hrv; cases hrv
        | some r' =>
          rw [hG2] at hrv
          cases hrv
          exact fun x H' R' al ra => w x H' R' (p2.al al) (ra.rv (p2.back er))
    · have hv : rvs.any isVar = false := by cases z : rvs.any isVar <;> simp_all
      rw [hv] at w
      have w : ∀ x H' R', EPo ios R H σ Γ R' H' Γ1 → RvR R' H H' σ x r.rv → Q x H' := w
      refine ⟨R1, ds', p1.er.sub, ars_novar hx hv q, ?_⟩
      rw [hG]
      exact fun x H' R' al ra => w x H' R' (p1.al al) (ra.rv (p1.back er))
end
end Dv
end

section
set_option Elab.async false
set_option linter.all false
set_option maxRecDepth 100000
set_option maxHeartbeats 5000000
namespace Dv
open PySem L2 Ex
variable [KC]
section
variable {X : Cx} {EE : XKS} {ios : List Addr} {e a b c iter tg elt : Expr} {es ifs : List Expr} {f g k : M RV} {fs : M (List RV)} {p : M Bool} {s s' : M Fl} {st : Stmt} {sts sts' : List Stmt} {pos : Pos}
/-! a def that changes its first argument, a list -/
abbrev GI := List D → List D → Option (Rt × List D)
def spI (G : GI) : Sp := fun vs H Q _ => ∃ R p xs ds0 vs' ds, vs = .ref p :: vs' ∧ Same R H ∧ R p = none ∧ H p = some (.lst xs) ∧ Rps R xs ds0 ∧ Rps R vs' ds ∧ match G ds0 ds with
  | some (r, out) => ∀ x H' R' xs', Same R' H' → Go (· = p) R H (· = p) R' H' → H' p = some (.lst xs') → R' p = none → Rps R' xs' out → RvA R' H H' x r.rv → Q x H'
  | none => False
def gamI (N : List Str) (ds0 ds : List D) : En := some (.io 0, .lst ds0) :: (ds.map (fun d => some (.frz, d)) ++ List.replicate (N.length - (ds.length + 1)) none)
def finI : Res Fl → Option (Rt × List D)
  | .ok fl Γ => match (Γ : List Sl)[(0 : Nat)]? with
    | some (some (.io 0, .lst out)) => (finR (.ok fl Γ)).map fun r => (r, out)
    | _ => none
  | _ => none
theorem gamI_at {N : List Str} {ds0 ds : List D} {i : Nat} {t : Kd × D} (h : (gamI N ds0 ds)[i]? = some (some t)) : (i = 0 ∧ t = (.io 0, .lst ds0)) ∨ ∃ j d, i = j + 1 ∧ ds[j]? = some d ∧ t = (.frz, d) := by
  cases i with
  | zero => cases h; exact .inl ⟨rfl, rfl⟩
  | succ j =>
    have h : (ds.map (fun d => some (Kd.frz, d)) ++ List.replicate (N.length - (ds.length + 1)) none)[j]? = some (some t) := h
    by_cases hj : j < ds.length
    · rw [List.getElem?_append_left (by rw [List.length_map]; exact hj), List.getElem?_map, List.getElem?_eq_getElem hj] at h
      cases h
      exact .inr ⟨j, _, rfl, List.getElem?_eq_getElem hj, rfl⟩
    · rw [List.getElem?_append_right (by rw [List.length_map]; omega), List.getElem?_replicate] at h
      split at h <;> cases h
theorem erI_start {N : List Str} {R H : Hp} {q : Addr} {xs : List V} {ds0 : List D} {vs : List V} {ds : List D} (s : Same R H) (h0 : R q = none) (h1 : H q = some (.lst xs)) (h2 : Rps R xs ds0) (h : Rps R vs ds) : ER [q] R H (L2.start N (.ref q :: vs)) (gamI N ds0 ds) where
  sub := s
  len := by unfold L2.start gamI; simp [h.len]
  sl := fun i t z => by
    rcases gamI_at z with ⟨rfl, rfl⟩ | ⟨j, d, rfl, hd, rfl⟩
    · exact ⟨.ref q, rfl, ⟨q, xs, ds0, rfl, h0, h1, rfl, h2⟩, q, rfl, rfl⟩
    · obtain ⟨x, hx, rx⟩ := h.ta hd
      exact ⟨x, start_at (by simpa using hx), rx⟩
  dj := fun i j k l d e b q1 q2 q3 q4 _ _ => by
    rcases gamI_at q1 with ⟨rfl, z⟩ | ⟨j, d, _, _, z⟩
    · rcases gamI_at q3 with ⟨rfl, _⟩ | ⟨j, d, _, _, z'⟩
      · rfl
      · cases z'; cases q4
    · cases z; cases q2
theorem owI {N : List Str} {q : Addr} {vs : List V} {ds0 ds : List D} {b : Addr} : Ow (L2.start N (.ref q :: vs)) (gamI N ds0 ds) b ↔ b = q := by
  constructor
  · rintro ⟨i, k, d, q1, q2, q3⟩
    rcases gamI_at q1 with ⟨rfl, z⟩ | ⟨j, d, _, _, z⟩
    · have : (L2.start N (.ref q :: vs))[0]? = some (some (.ref q)) := rfl
      rw [this] at q3
      cases q3
      rfl
    · cases z; cases q2
  · rintro rfl
    exact ⟨0, .io 0, .lst ds0, rfl, rfl, rfl⟩
theorem fn_io {P : Program} {w : World} {K : PySem.W.Frag} {mg : Str → Option Value} {base : Heap} {x qual : Str} {fa : Addr} {fd : FuncData} {N ps : List Str} {k : Nat} {G : GI} {bm : M Fl} (F : Fun K x qual st fa fd) (S : FnScope N ps (defScope st))
    (hb : ∀ (cdv : Value) (A : Around) (outer : List Env) (s : Shared) (H : Hp) (E : XK) (q : Addr), Room k (A.deeper (PyProof.Rows.envOfC qual (defScope st) s.heap.objs.size fa cdv)) → VSs (cxOf CX0 P w K mg base N qual (defScope st) fa cdv A outer s H E).nox EN [q] (defBody st) bm)
    (h : ∀ ds0 ds r, G ds0 ds = some r → ds.length + 1 = ps.length ∧ finI (bm (gamI N ds0 ds)) = some r) : FnOk P w K mg base CX0 (k + 1) fa fd ps (spI G) := by
  refine F.ok S (fun vs H Q E q => ?_) (fun cdv A outer s H vs Q E hr q => ?_)
  · obtain ⟨R, q, xs, ds0, vs', ds, rfl, _, _, _, _, h2, h3⟩ := q
    cases e : G ds0 ds with
    | none => rw [e] at h3; exact h3.elim
    | some r => rw [List.length_cons, h2.len]; exact (h ds0 ds r e).1
  · obtain ⟨R, q, xs, ds0, vs', ds, rfl, s1, r0, hq, hxs, h2, h3⟩ := q
    cases e : G ds0 ds with
    | none => rw [e] at h3; exact h3.elim
    | some ro =>
      obtain ⟨r, out⟩ := ro
      rw [e] at h3
      obtain ⟨t, b1, b2⟩ := hb cdv A outer s H E q hr
      refine ⟨t, b1, b2 _ H R _ _ (erI_start s1 r0 hq hxs h2) ?_⟩
      have fin := (h ds0 ds _ e).2
      cases q0 : bm (gamI N ds0 ds) with
      | st => rw [q0] at fin; cases fin
      | ex _ _ => rw [q0] at fin; cases fin
      | ok fl Γ' =>
        rw [q0] at fin
        refine wpM_ok fun σ' H' R' pp => ?_
        unfold finI at fin
        dsimp only at fin
        split at fin
        · rename_i out' hs0
          obtain ⟨v0, hv0, ⟨a0, xs', ds', e0, r1, r2, r3, r4⟩, a1, i1, i2⟩ := pp.er.sl 0 _ hs0
          cases i1
          rw [i2] at e0
          cases e0
          cases r3
          rw [i2] at hv0
          have go : Go (· = q) R H (· = q) R' H' := ⟨pp.go.rr, fun b o z n => pp.go.hh b o z fun y => n (owI.mp y), fun b o z n r => pp.go.no b o z (fun y => n (owI.mp y)) r, fun b z => .inl z, pp.go.th⟩
          have fin' : ∀ {r'}, finR (.ok fl Γ') = some r' → r' = r ∧ out' = out := fun z => by rw [z] at fin; cases fin; exact ⟨rfl, rfl⟩
          have use : ∀ y r', finR (.ok fl Γ') = some r' → RvA R' H H' y r'.rv → Q y H' := fun y r' z ra => by
            obtain ⟨rfl, rfl⟩ := fin' z
            exact h3 y H' R' xs' pp.er.sub go r2 r1 r4 ra
          cases fl with
          | brk => cases fin
          | cont => cases fin
          | nx => exact use .non _ rfl .non
          | ret rv =>
            intro y hy
            cases rv with
            | val d => exact use y _ rfl hy
            | new d => exact use y _ rfl hy
            | var i =>
              have hy : σ'[i]? = some (some y) := hy
              cases hsi : Γ'[i]? with
              | none => have : finR (.ok (.ret (.var i)) Γ') = none := by show (match Γ'[i]? with | some (some (.own, d)) => some (Rt.new d) | some (some (.frz, d)) => some (.val d) | _ => none) = none; rw [hsi]
                        rw [this] at fin; cases fin
              | some o =>
                cases o with
                | none => have : finR (.ok (.ret (.var i)) Γ') = none := by show (match Γ'[i]? with | some (some (.own, d)) => some (Rt.new d) | some (some (.frz, d)) => some (.val d) | _ => none) = none; rw [hsi]
                          rw [this] at fin; cases fin
                | some sd =>
                  obtain ⟨kd, d⟩ := sd
                  obtain ⟨v, hv, sl⟩ := pp.er.sl i _ hsi
                  rw [hy] at hv
                  cases hv
                  cases kd with
                  | io n => have : finR (.ok (.ret (.var i)) Γ') = none := by show (match Γ'[i]? with | some (some (.own, d)) => some (Rt.new d) | some (some (.frz, d)) => some (.val d) | _ => none) = none; rw [hsi]
                            rw [this] at fin; cases fin
                  | frz => exact use y (.val d) (by show (match Γ'[i]? with | some (some (.own, d)) => some (Rt.new d) | some (some (.frz, d)) => some (.val d) | _ => none) = _; rw [hsi]) sl
                  | own =>
                    obtain ⟨a, ys, ds2, rfl, t1, t2, t3, t4⟩ := sl
                    refine use _ (.new d) (by show (match Γ'[i]? with | some (some (.own, d)) => some (Rt.new d) | some (some (.frz, d)) => some (.val d) | _ => none) = _; rw [hsi]) ⟨⟨a, ys, ds2, rfl, t1, t2, t3, t4⟩, a, rfl, ?_⟩
                    rcases pp.go.oo a ⟨i, .own, d, hsi, rfl, hy⟩ with z | z
                    · have := owI.mp z
                      subst this
                      have := pp.er.dj i 0 .own (.io 0) d _ a hsi rfl hs0 rfl hy hv0
                      subst this
                      rw [hs0] at hsi
                      cases hsi
                    · exact z
        · cases fin
/-! a call of such a def -/
def goI (i : Nat) (G : GI) (ds : List D) : M RV := fun Γ => match Γ[i]? with
  | some (some (kd, .lst ds0)) => if owned kd then match G ds0 ds with
    | some (r, out) => .ok r.rv (Γ.set i (some (kd, .lst out)))
    | none => .st else .st
  | _ => .st
def callI (G : GI) (fs : M (List RV)) : M RV := M.bind fs fun rvs => match rvs with
  | .var i :: r => M.bind (matAll r) fun ds => goI i G ds
  | _ => M.st
theorem ve_callI {G : GI} {e0 : Expr} (hp : ∀ t, PA X es t → PE X e0 (tCall (spI G) [] E0 t)) (ha : VA X EE ios es fs) : VE X EE ios e0 (callI G fs) := by
  obtain ⟨t, h1, h2⟩ := ha
  refine ⟨_, hp t h1, fun σ H R Γ Q er w => ?_⟩
  unfold callI at w
  rw [wpM_bind] at w
  refine h2 σ H R Γ _ er (wpM_mono w (fun rvs Γ1 w xs H1 R1 p1 hx => ?_) fun _ _ z => z)
  show spI G (xs ++ []) H1 Q E0
  rw [List.append_nil]
  split at w
  · rename_i i r
    cases hx with
    | cons hx hr =>
      rw [wpM_bind] at w
      obtain ⟨ds, Γ2, R2, p2, s2, r2, w⟩ := matAll_ok er p1 hr w
      unfold goI at w
      split at w
      · rename_i kd ds0 hi
        split at w
        · rename_i ho
          cases hG : G ds0 ds with
          | none => rw [hG] at w; exact False.elim w
          | some ro =>
            obtain ⟨rt, out⟩ := ro
            rw [hG] at w
            dsimp only at w
            have w := wpM_ko w
            have hx : σ[i]? = some (some _) := hx
            have hlt : i < Γ2.length := (List.getElem?_eq_some_iff.mp hi).1
            obtain ⟨q, ys, rfl, h2, h3, _⟩ := p2.er.mut (ds' := ds0) hi ho hx
            have hr0 : R2 q = none := (p2.er.ow ⟨i, kd, _, hi, ho, hx⟩).1
            refine ⟨R2, q, ys, ds0, _, ds, rfl, p2.er.sub, hr0, h2, h3, r2, ?_⟩
            rw [hG]
            intro x H' R' xs' sub go g1 g2 g3 ra
            have inj : ∀ (j : Nat) (l : Kd) (z : D), Γ2[j]? = some (some (l, z)) → owned l = true → σ[j]? = some (some (.ref q)) → j = i := fun j l z q1 q2 q3 => (p2.er.dj i j kd l _ z q hi ho q1 q2 hx q3).symm
            have ow' : ∀ b, Ow σ (Γ2.set i (some (kd, .lst out))) b → Ow σ Γ2 b := by
              rintro b ⟨j, l, z, q1, q2, q3⟩
              by_cases hj : j = i
              · subst hj
                rw [List.getElem?_set_self hlt] at q1
                cases q1
                exact ⟨j, kd, _, hi, ho, q3⟩
              · rw [List.getElem?_set_ne (Ne.symm hj)] at q1
                exact ⟨j, l, z, q1, q2, q3⟩
            have qo : Ow σ Γ2 q := ⟨i, kd, _, hi, ho, hx⟩
            have er3 : ER ios R' H' σ (Γ2.set i (some (kd, .lst out))) := by
              refine ⟨sub, by rw [List.length_set]; exact p2.er.len, fun j t hj => ?_, fun j j' l l' z z' b q1 q2 q3 q4 q5 q6 => ?_⟩
              · by_cases hji : j = i
                · subst hji
                  rw [List.getElem?_set_self hlt] at hj
                  cases hj
                  obtain ⟨v, hv, sl⟩ := p2.er.sl j _ hi
                  rw [hx] at hv
                  cases hv
                  have z : OwR R' H' (.ref q) (.lst out) := ⟨q, xs', out, rfl, g2, g1, rfl, g3⟩
                  refine ⟨_, hx, ?_⟩
                  cases kd with
                  | frz => cases ho
                  | own => exact z
                  | io n => exact ⟨z, sl.2⟩
                · rw [List.getElem?_set_ne (Ne.symm hji)] at hj
                  obtain ⟨v, hv, sl⟩ := p2.er.sl j t hj
                  refine ⟨v, hv, sl.mono go.rr fun ho' b zs eb hb rb => ?_⟩
                  subst eb
                  have nb : ¬ b = q := by rintro rfl; exact hji (inj j t.1 t.2 hj ho' hv)
                  exact ⟨go.hh b _ hb nb, go.no b _ hb nb rb⟩
              · have g : ∀ {j : Nat} {l : Kd} {z : D}, (Γ2.set i (some (kd, .lst out)))[j]? = some (some (l, z)) → ∃ z', Γ2[j]? = some (some (l, z')) := by
                  intro j l z y
                  by_cases hji : j = i
                  · subst hji; rw [List.getElem?_set_self hlt] at y; cases y; exact ⟨_, hi⟩
                  · rw [List.getElem?_set_ne (Ne.symm hji)] at y; exact ⟨z, y⟩
                obtain ⟨z1, y1⟩ := g q1
                obtain ⟨z2, y2⟩ := g q3
                exact p2.er.dj j j' l l' z1 z2 b y1 q2 y2 q4 q5 q6
            have p3 : EPo ios R2 H1 σ Γ2 R' H' (Γ2.set i (some (kd, .lst out))) := ⟨er3, ⟨go.rr, fun b o hb nb => go.hh b o hb (fun z => nb (by rw [z]; exact qo)), fun b o hb nb rb => go.no b o hb (fun z => nb (by rw [z]; exact qo)) rb, fun b z => .inl (ow' b z), go.th⟩, ow'⟩
            exact w x H' R' (p2.trans p3) (ra.rv (p2.back er))
        · exact False.elim w
      · exact False.elim w
  · exact False.elim w
end
end Dv
end

section
set_option Elab.async false
set_option linter.all false
set_option maxRecDepth 100000
set_option maxHeartbeats 5000000
namespace Dv
open PySem L2 Ex
variable [KC]
/-- a def of the text, as it stands behind the top -/
def At (mg : Str → Option Value) (x : Str) (st : Stmt) : Prop := ∃ f fd, Fun KC.K x x st f fd ∧ mg x = some (.ref f) ∧ PySem.W.keepIn KC.K (.ref f) = true
/-- a def that may be called -/
def Cal (P : Program) (w : World) (mg : Str → Option Value) (base : Heap) (x : Str) (k : Nat) (ps : List Str) (sp : Sp) : Prop := ∃ f fd, FnOk P w KC.K mg base CX0 k f fd ps sp ∧ mg x = some (.ref f) ∧ PySem.W.keepIn KC.K (.ref f) = true ∧ Binds KC.K fd ps []
section
variable {X : Cx} {EE : XKS} {ios : List Addr} {e : Expr} {es : List Expr} {fs : M (List RV)} {x : Str} {k : Nat} {ps : List Str} {p pos : Pos} {st : Stmt}
theorem ve_call {G : List D → Option Rt} (C : Cal X.prog X.w X.mg X.base x k ps (spP G)) (hr : Room k X.A) (hg : Gl X x) (ha : VA X EE ios (e :: es) fs) (hK : X.K = KC.K := by rfl) (hdb : (x == ("__debug__" : Str)) = false := by decide)
    (he : starEach (e :: es) X.env = (false, eval e X.env) :: starEach es X.env := by rfl) (hpl : (backTo pos (starEach es X.env)).any (·.1) = false := by rfl) : VE X EE ios (.Call (.Name x p) (e :: es) [] pos) (callP G fs) := by
  obtain ⟨f, fd, F, hm, hk, hb⟩ := C
  rw [← hK] at F hk hb
  exact ve_callP (fun t h => pe_call F hr hg hm hk hb .nil pass0 h hdb he hpl) ha
theorem ve_callio {G : GI} (C : Cal X.prog X.w X.mg X.base x k ps (spI G)) (hr : Room k X.A) (hg : Gl X x) (ha : VA X EE ios (e :: es) fs) (hK : X.K = KC.K := by rfl) (hdb : (x == ("__debug__" : Str)) = false := by decide)
    (he : starEach (e :: es) X.env = (false, eval e X.env) :: starEach es X.env := by rfl) (hpl : (backTo pos (starEach es X.env)).any (·.1) = false := by rfl) : VE X EE ios (.Call (.Name x p) (e :: es) [] pos) (callI G fs) := by
  obtain ⟨f, fd, F, hm, hk, hb⟩ := C
  rw [← hK] at F hk hb
  exact ve_callI (fun t h => pe_call F hr hg hm hk hb .nil pass0 h hdb he hpl) ha
/-- THE RULE for a def -/
theorem cal_of {P : Program} {w : World} {mg : Str → Option Value} {base : Heap} {N : List Str} {G : List D → Option Rt} {bm : M Fl} (A0 : At mg x st) (S : FnScope N ps (defScope st))
    (bd : ∀ (kV doc pm : Value) (an : Option Addr) (cdv ct : Value) (us : List Value), us.length = ps.length → bindArgs (PySem.W.fnOf x x (defArgs st) (defBody st) (defScope st) .none kV doc pm an cdv ct) ⟨us, []⟩ = pure (ps.zip us))
    (hb : ∀ (fa : Addr) (cdv : Value) (A : Around) (outer : List Env) (s : Shared) (H : Hp) (E : XK), Room k (A.deeper (PyProof.Rows.envOfC x (defScope st) s.heap.objs.size fa cdv)) → VSs (cxOf CX0 P w KC.K mg base N x (defScope st) fa cdv A outer s H E).nox EN [] (defBody st) bm)
    (h : ∀ ds r, G ds = some r → ds.length = ps.length ∧ finR (bm (gam N ds)) = some r) : Cal P w mg base x (k + 1) ps (spP G) :=
  let ⟨f, fd, F, hm, hk⟩ := A0
  ⟨f, fd, fn_pure F S (hb f) h, hm, hk, F.binds bd⟩
theorem cal_io {P : Program} {w : World} {mg : Str → Option Value} {base : Heap} {N : List Str} {G : GI} {bm : M Fl} (A0 : At mg x st) (S : FnScope N ps (defScope st))
    (bd : ∀ (kV doc pm : Value) (an : Option Addr) (cdv ct : Value) (us : List Value), us.length = ps.length → bindArgs (PySem.W.fnOf x x (defArgs st) (defBody st) (defScope st) .none kV doc pm an cdv ct) ⟨us, []⟩ = pure (ps.zip us))
    (hb : ∀ (fa : Addr) (cdv : Value) (A : Around) (outer : List Env) (s : Shared) (H : Hp) (E : XK) (q : Addr), Room k (A.deeper (PyProof.Rows.envOfC x (defScope st) s.heap.objs.size fa cdv)) → VSs (cxOf CX0 P w KC.K mg base N x (defScope st) fa cdv A outer s H E).nox EN [q] (defBody st) bm)
    (h : ∀ ds0 ds r, G ds0 ds = some r → ds.length + 1 = ps.length ∧ finI (bm (gamI N ds0 ds)) = some r) : Cal P w mg base x (k + 1) ps (spI G) :=
  let ⟨f, fd, F, hm, hk⟩ := A0
  ⟨f, fd, fn_io F S (hb f) h, hm, hk, F.binds bd⟩
/-- the block of a comprehension, decided -/
def blkB (sc scope : Scope) (N Nc : List Str) (own : Nat) (fr : List Nat) : Bool :=
  decide (Nc.length = own + fr.length) && decide (scope.kind = .function) && scope.names.all (fun y => decide (y.2 ≠ .cell)) && scope.names.all (fun y => decide (y.2 = .local → scope.names.lookup y.1 = some .local)) &&
  scope.names.all (fun y => decide (y.2 = .free → sc.names.lookup y.1 = some .cell ∨ sc.names.lookup y.1 = some .free)) &&
  (List.range fr.length).all fun k => match fr[k]?, Nc[own + k]? with
    | some j, some x => decide (N[j]? = some x) && decide (sc.names.lookup x = some .cell ∨ sc.names.lookup x = some .free) && decide (scope.names.lookup x = some .free)
    | _, _ => true
omit [KC] in
theorem blk_of {X : Cx} {scope sc : Scope} {N Nc : List Str} {own : Nat} {fr : List Nat} (hs : X.env.scope = sc) (hN : X.N = N) (h : blkB sc scope N Nc own fr = true) : BlkN X scope Nc own fr := by
  subst hs hN
  unfold blkB at h
  simp only [Bool.and_eq_true, decide_eq_true_eq, List.all_eq_true] at h
  obtain ⟨⟨⟨⟨⟨h1, h2⟩, h3⟩, h4⟩, h5⟩, h6⟩ := h
  refine ⟨h1, fun k j x e1 e2 => ?_, h2, h3, h4, fun x hx => h5 _ hx rfl⟩
  have hk : k < fr.length := (List.getElem?_eq_some_iff.mp e1).1
  have z := h6 k (List.mem_range.mpr hk)
  rw [e1, e2] at z
  simp only [Bool.and_eq_true, decide_eq_true_eq] at z
  exact ⟨z.1.1, z.1.2, z.2⟩
end
end Dv
end

section
set_option Elab.async false
set_option linter.all false
set_option maxRecDepth 100000
set_option maxHeartbeats 5000000
namespace Dv
open PySem L2 Ex
variable [KC]
section
variable {X : Cx} {EE : XKS} {ios : List Addr} {e a b c : Expr} {f g k : M RV} {pos p : Pos} {x : Str} {ps : List Str} {kk : Nat}
theorem rd_self : RdE EE ios (tOfE EE ios f) f := fun σ H R Γ Q er w => ⟨R, Γ, er, w⟩
theorem ve_gint {i : Int} (h : ∃ t, X.mg x = some (.int i t)) (hg : Gl X x) (hd : (x == ("__debug__" : Str)) = false := by decide) : VE X EE ios (.Name x pos) (M.pure (.val (.int i))) :=
  let ⟨t, h⟩ := h; ve_cst (pe_glob (v := .int i) hg h ⟨t, rfl⟩ hd) fun _ => .int i
theorem metv_popAt : MetV rPopAt popAtG := by
  intro R H q xs ds ys es ds' res Q s hr hp hx hy hg w
  unfold popAtG at hg
  split at hg
  · rename_i i
    split at hg
    · rename_i cc
      have cc := of_cd cc
      cases h : ds[i.toNat]? with
      | none => rw [h] at hg; cases hg
      | some d =>
        rw [h] at hg
        cases hg
        cases hy with
        | cons h1 h2 =>
          cases h2
          cases h1
          obtain ⟨v, hv, rv⟩ := hx.ta h
          have lt : i.toNat < xs.length := (List.getElem?_eq_some_iff.mp hv).1
          refine ⟨q, xs, i, i.toNat, v, rfl, rfl, hp, by omega, cc.2, seqIndex_of cc.1 (by omega), hv, w _ v (hx.erase _) rv⟩
    · cases hg
  · cases hg
end
end Dv
namespace Dv
open PySem L2 Ex
variable [KC]
theorem cal_zero {P : Program} {w : World} {mg : Str → Option Value} {base : Heap} {x : Str} {st : Stmt} {k : Nat} {ps : List Str} (A0 : At mg x st)
    (bd : ∀ (kV doc pm : Value) (an : Option Addr) (cdv ct : Value) (us : List Value), us.length = ps.length → bindArgs (PySem.W.fnOf x x (defArgs st) (defBody st) (defScope st) .none kV doc pm an cdv ct) ⟨us, []⟩ = pure (ps.zip us)) : Cal P w mg base x k ps (spP fun _ => none) := by
  obtain ⟨f, fd, F, hm, hk⟩ := A0
  exact ⟨f, fd, ⟨fun vs H Q E ⟨_, _, _, _, z⟩ => z.elim, fun A outer s H args us vs Q E hr he hb hv ⟨_, _, _, _, z⟩ => z.elim⟩, hm, hk, F.binds bd⟩
theorem cal_zeroI {P : Program} {w : World} {mg : Str → Option Value} {base : Heap} {x : Str} {st : Stmt} {k : Nat} {ps : List Str} (A0 : At mg x st)
    (bd : ∀ (kV doc pm : Value) (an : Option Addr) (cdv ct : Value) (us : List Value), us.length = ps.length → bindArgs (PySem.W.fnOf x x (defArgs st) (defBody st) (defScope st) .none kV doc pm an cdv ct) ⟨us, []⟩ = pure (ps.zip us)) : Cal P w mg base x k ps (spI fun _ _ => none) := by
  obtain ⟨f, fd, F, hm, hk⟩ := A0
  exact ⟨f, fd, ⟨fun vs H Q E ⟨_, _, _, _, _, _, _, _, _, _, _, _, z⟩ => z.elim, fun A outer s H args us vs Q E hr he hb hv ⟨_, _, _, _, _, _, _, _, _, _, _, _, z⟩ => z.elim⟩, hm, hk, F.binds bd⟩
/-- a def's own run, as its promise -/
def runP (n : Nat) (N : List Str) (bm : M Fl) : List D → Option Rt := fun ds => if ds.length = n then finR (bm (gam N ds)) else none
def runI (n : Nat) (N : List Str) (bm : M Fl) : GI := fun ds0 ds => if ds.length + 1 = n then finI (bm (gamI N ds0 ds)) else none
theorem runP_ok {n : Nat} {N : List Str} {bm : M Fl} {ds : List D} {r : Rt} (h : runP n N bm ds = some r) : ds.length = n ∧ finR (bm (gam N ds)) = some r := by
  unfold runP at h
  split at h
  · rename_i q; exact ⟨q, h⟩
  · cases h
theorem runI_ok {n : Nat} {N : List Str} {bm : M Fl} {ds0 ds : List D} {r : Rt × List D} (h : runI n N bm ds0 ds = some r) : ds.length + 1 = n ∧ finI (bm (gamI N ds0 ds)) = some r := by
  unfold runI at h
  split at h
  · rename_i q; exact ⟨q, h⟩
  · cases h
end Dv
end

section
set_option Elab.async false
set_option linter.all false
set_option maxRecDepth 100000
set_option maxHeartbeats 5000000
/-! how the meanings run: rows for simp -/
namespace Dv
open PySem L2 Ex
section
variable {α β : Type} {Γ Γ' : En} {f g k : M RV} {fs : M (List RV)} {p q : M Bool} {s s' : M Fl} {d : D} {i : Nat}
@[simp] theorem r_pure {a : α} : M.pure a Γ = .ok a Γ := (rfl)
@[simp] theorem r_bind {f : M α} {g : α → M β} : M.bind f g Γ = match f Γ with
  | .ok a Γ' => g a Γ'
  | .ex x Γ' => .ex x Γ'
  | .st => .st := (rfl)
@[simp] theorem r_some {a : α} : M.ofO (some a) Γ = .ok a Γ := (rfl)
@[simp] theorem r_none : (M.ofO none : M α) Γ = .st := (rfl)
@[simp] theorem r_st : (M.st : M α) Γ = .st := (rfl)
@[simp] theorem r_ite {c : Prop} [Decidable c] {f g : M α} : (if c then f else g) Γ = if c then f Γ else g Γ := by split <;> rfl
@[simp] theorem r_name : vName i Γ = match Γ[i]? with
  | some (some (.frz, d)) => .ok (.val d) Γ
  | some (some _) => .ok (.var i) Γ
  | _ => .st := (rfl)
@[simp] theorem r_peekv : peek (.val d) Γ = .ok d Γ := (rfl)
@[simp] theorem r_peekn : peek (.new d) Γ = .ok d Γ := (rfl)
@[simp] theorem r_peeki : peek (.var i) Γ = match Γ[i]? with
  | some (some (_, d)) => .ok d Γ
  | _ => .st := (rfl)
@[simp] theorem r_matv : mat (.val d) Γ = .ok d Γ := (rfl)
@[simp] theorem r_matn : mat (.new d) Γ = .ok d Γ := (rfl)
@[simp] theorem r_mati : mat (.var i) Γ = match Γ[i]? with
  | some (some (_, d)) => .ok d (Γ.set i (some (.frz, d)))
  | _ => .st := (rfl)
@[simp] theorem r_op1 {o : D → Option RV} : op1 o f Γ = M.bind f (fun x => M.bind (peek x) fun d => M.ofO (o d)) Γ := (rfl)
@[simp] theorem r_op2 {o : D → D → Option RV} : op2 o f g Γ = M.bind f (fun x => M.bind g fun y => M.bind (peek x) fun d => M.bind (peek y) fun e => M.ofO (o d e)) Γ := (rfl)
@[simp] theorem r_op3 {o o' : D → D → Option RV} : op3 o o' f g k Γ = M.bind f (fun x => M.bind g fun y => M.bind (peek x) fun d => M.bind (peek y) fun e => M.bind (M.bind (M.ofO (o d e)) asB) fun q =>
  if q then M.bind k fun z => M.bind (peek y) fun e' => M.bind (peek z) fun u => M.ofO (o' e' u) else M.pure (.val (.bl false))) Γ := (rfl)
@[simp] theorem r_asB {b : Bool} : asB (.val (.bl b)) Γ = .ok b Γ := (rfl)
@[simp] theorem r_ng : ngM p Γ = M.bind p (fun b => M.pure (!b)) Γ := (rfl)
@[simp] theorem r_and : andM p q Γ = M.bind p (fun b => if b then q else M.pure false) Γ := (rfl)
@[simp] theorem r_or : orM p q Γ = M.bind p (fun b => if b then M.pure true else q) Γ := (rfl)
@[simp] theorem r_valB : valB p Γ = M.bind p (fun b => M.pure (.val (.bl b))) Γ := (rfl)
@[simp] theorem r_andV : andV f g Γ = M.bind (M.bind f asB) (fun b => if b then g else M.pure (.val (.bl false))) Γ := (rfl)
@[simp] theorem r_orV : orV f g Γ = M.bind (M.bind f asB) (fun b => if b then M.pure (.val (.bl true)) else g) Γ := (rfl)
@[simp] theorem r_iteM : iteM p f g Γ = M.bind p (fun b => if b then f else g) Γ := (rfl)
@[simp] theorem r_arg : argM f Γ = match f Γ with
  | .ok (.var i) Γ' => .ok (.var i) Γ'
  | .ok (.val d) Γ' => .ok (.val d) Γ'
  | .ok (.new d) Γ' => .ok (.val d) Γ'
  | .ex x Γ' => .ex x Γ'
  | .st => .st := by
  unfold argM M.bind
  cases f Γ with
  | ok rv Γ' => cases rv <;> rfl
  | ex _ _ => rfl
  | st => rfl
@[simp] theorem r_cons : consM f fs Γ = M.bind (argM f) (fun x => M.bind fs fun xs => M.pure (x :: xs)) Γ := (rfl)
@[simp] theorem r_mat0 : matAll [] Γ = .ok [] Γ := (rfl)
@[simp] theorem r_mat1 {rv : RV} {r : List RV} : matAll (rv :: r) Γ = M.bind (mat rv) (fun d => M.bind (matAll r) fun ds => M.pure (d :: ds)) Γ := (rfl)
@[simp] theorem r_peek0 : peekAll [] Γ = .ok [] Γ := (rfl)
@[simp] theorem r_peek1 {rv : RV} {r : List RV} : peekAll (rv :: r) Γ = M.bind (peek rv) (fun d => M.bind (peekAll r) fun ds => M.pure (d :: ds)) Γ := (rfl)
@[simp] theorem r_lst : lstM fs Γ = M.bind fs (fun rvs => M.bind (matAll rvs) fun ds => if ds.length ≤ sizeLine then M.pure (.new (.lst ds)) else M.st) Γ := (rfl)
@[simp] theorem r_tup : tupM fs Γ = M.bind fs (fun rvs => M.bind (matAll rvs) fun ds => if ds.length ≤ sizeLine then M.pure (.val (.tup ds)) else M.st) Γ := (rfl)
@[simp] theorem r_blt {g : List D → Option RV} : callM g fs Γ = M.bind fs (fun rvs => M.bind (peekAll rvs) fun ds => M.ofO (g ds)) Γ := (rfl)
@[simp] theorem r_isi {T : Ty} : isiM T f Γ = M.bind (argM f) (fun x => M.bind (peek x) fun d => M.ofO (isiO T d)) Γ := (rfl)
@[simp] theorem r_slc {o : D → Option Int → Option Int → Option RV} {lo hi : M (Option Int)} : slcM o f lo hi Γ = M.bind f (fun x => M.bind lo fun l => M.bind hi fun u => M.bind (peek x) fun d => M.ofO (o d l u)) Γ := (rfl)
@[simp] theorem r_asI {n : Int} : asI (.val (.int n)) Γ = .ok (some n) Γ := (rfl)
@[simp] theorem r_met {m : List D → List D → Option (List D × D)} : metM i m fs Γ = M.bind (recv i) (fun _ => M.bind fs fun rvs => M.bind (matAll rvs) fun es => metGo i m es) Γ := (rfl)
@[simp] theorem r_recv : recv i Γ = match Γ[i]? with
  | some (some (kd, .lst _)) => if owned kd then .ok () Γ else .st
  | _ => .st := (rfl)
@[simp] theorem r_metGo {m : List D → List D → Option (List D × D)} {es : List D} : metGo i m es Γ = match Γ[i]? with
  | some (some (kd, .lst ds)) => if owned kd then match m ds es with
    | some (ds', res) => .ok (.val res) (Γ.set i (some (kd, .lst ds')))
    | none => .st else .st
  | _ => .st := (rfl)
@[simp] theorem r_own : owned .own = true := (rfl)
@[simp] theorem r_io {n : Nat} : owned (.io n) = true := (rfl)
@[simp] theorem r_frz : owned .frz = false := (rfl)
@[simp] theorem r_seq : seqM s s' Γ = match s Γ with
  | .ok .nx Γ' => s' Γ'
  | .ok fl Γ' => .ok fl Γ'
  | .ex x Γ' => .ex x Γ'
  | .st => .st := by
  unfold seqM M.bind
  cases s Γ with
  | ok fl Γ' => cases fl <;> rfl
  | ex _ _ => rfl
  | st => rfl
@[simp] theorem r_drop : dropM f Γ = M.bind f (fun _ => M.pure .nx) Γ := (rfl)
@[simp] theorem r_ret : retM f Γ = M.bind f (fun rv => M.pure (.ret rv)) Γ := (rfl)
@[simp] theorem r_if : ifM p s s' Γ = M.bind p (fun b => if b then s else s') Γ := (rfl)
@[simp] theorem r_asg : asgM i f Γ = match f Γ with
  | .ok (.new d) Γ' => .ok .nx (Γ'.set i (some (.own, d)))
  | .ok (.val d) Γ' => .ok .nx (Γ'.set i (some (.frz, d)))
  | .ok (.var j) Γ' => M.bind (mat (.var j)) (fun d => M.bind (setS i (.frz, d)) fun _ => M.pure .nx) Γ'
  | .ex x Γ' => .ex x Γ'
  | .st => .st := by
  unfold asgM M.bind
  cases f Γ with
  | ok rv Γ' =>
    cases rv with
    | var j => dsimp only [M.bind]; cases mat (.var j) Γ' <;> rfl
    | _ => rfl
  | ex _ _ => rfl
  | st => rfl
@[simp] theorem r_setS {t : Kd × D} : setS i t Γ = .ok () (Γ.set i (some t)) := (rfl)
@[simp] theorem r_asgG {m : D → M Unit} : asgG m f Γ = M.bind f (fun rv => M.bind (mat rv) fun d => M.bind (noX (m d)) fun _ => M.pure .nx) Γ := (rfl)
@[simp] theorem r_noX {m : M Unit} : noX m Γ = match m Γ with
  | .ok a Γ' => .ok a Γ'
  | _ => .st := (rfl)
@[simp] theorem r_gN : gN i d Γ = .ok () (Γ.set i (some (.frz, d))) := (rfl)
@[simp] theorem r_gs0 : gs0 [] Γ = .ok () Γ := (rfl)
@[simp] theorem r_gsC {m : D → M Unit} {ms : List D → M Unit} {r : List D} : gsC m ms (d :: r) Γ = M.bind (m d) (fun _ => ms r) Γ := (rfl)
@[simp] theorem r_gT {n : Nat} {ms : List D → M Unit} {ds : List D} : gT n ms (.tup ds) Γ = (if ds.length = n then ms ds else M.st) Γ := (rfl)
@[simp] theorem r_g2 {ms : List D → M Unit} {x y : D} : g2 ms (.lst [x, y]) Γ = ms [x, y] Γ := (rfl)
@[simp] theorem r_gS {fi : M RV} : gS i fi d Γ = M.bind (recv i) (fun _ => M.bind fi fun ri => M.bind (peek ri) fun di => setAt i d di) Γ := (rfl)
@[simp] theorem r_setAt {n : Int} : setAt i d (.int n) Γ = match Γ[i]? with
  | some (some (kd, .lst ds)) => if owned kd then match ixN ds.length n with
    | some k => .ok () (Γ.set i (some (kd, .lst (ds.set k d))))
    | none => .st else .st
  | _ => .st := by
  unfold setAt
  cases Γ[i]? with
  | none => rfl
  | some o => cases o with
    | none => rfl
    | some t => obtain ⟨kd, d⟩ := t; cases d <;> rfl
@[simp] theorem r_for {items : M (List D)} {m : D → M Unit} : forM items m s Γ = M.bind items (fun ds => loopM m s ds) Γ := (rfl)
@[simp] theorem r_loop0 {m : D → M Unit} : loopM m s [] Γ = .ok .nx Γ := (rfl)
theorem r_loop1 {m : D → M Unit} {r : List D} : loopM m s (d :: r) Γ = match noX (m d) Γ with
  | .ok _ Γ1 => match s Γ1 with
    | .ok .nx Γ2 => loopM m s r Γ2
    | .ok .cont Γ2 => loopM m s r Γ2
    | .ok .brk Γ2 => .ok .nx Γ2
    | .ok (.ret rv) Γ2 => .ok (.ret rv) Γ2
    | .ex x Γ2 => .ex x Γ2
    | .st => .st
  | .ex x Γ1 => .ex x Γ1
  | .st => .st := by
  show turnM m s (loopM m s r) d Γ = _
  unfold turnM M.bind
  cases noX (m d) Γ with
  | ok a Γ1 =>
    dsimp only
    cases s Γ1 with
    | ok fl Γ2 => cases fl <;> rfl
    | ex _ _ => rfl
    | st => rfl
  | ex _ _ => rfl
  | st => rfl
theorem r_while {n : Nat} : whileM p s (n + 1) Γ = match p Γ with
  | .ok true Γ1 => (match s Γ1 with
    | .ok .nx Γ2 => whileM p s n Γ2
    | .ok .cont Γ2 => whileM p s n Γ2
    | .ok .brk Γ2 => .ok .nx Γ2
    | .ok (.ret rv) Γ2 => .ok (.ret rv) Γ2
    | .ex x Γ2 => .ex x Γ2
    | .st => .st)
  | .ok false Γ1 => .ok .nx Γ1
  | .ex x Γ1 => .ex x Γ1
  | .st => .st := by
  show M.bind p _ Γ = _
  unfold M.bind
  cases p Γ with
  | ok b Γ1 =>
    cases b with
    | false => rfl
    | true =>
      show M.bind s _ Γ1 = _
      unfold M.bind
      dsimp only
      cases s Γ1 with
      | ok fl Γ2 => cases fl <;> rfl
      | ex _ _ => rfl
      | st => rfl
  | ex _ _ => rfl
  | st => rfl
@[simp] theorem r_lstI : lstI f Γ = M.bind f (fun rv => M.bind (mat rv) fun d => match d with
  | .lst ds => M.pure ds
  | .scr ns => M.pure (ns.map D.int)
  | _ => M.st) Γ := (rfl)
@[simp] theorem r_tupI : tupI f Γ = M.bind f (fun rv => M.bind (mat rv) fun d => match d with
  | .tup ds => M.pure ds
  | _ => M.st) Γ := (rfl)
@[simp] theorem r_enuI : enuI fs Γ = M.bind fs (fun rvs => M.bind (matAll rvs) fun ds => match ds with
  | [.lst ds] => M.pure (numI ds)
  | _ => M.st) Γ := (rfl)
@[simp] theorem r_rng1 : rng1 fs Γ = M.bind fs (fun rvs => match rvs with
  | [.val (.int j)] => if small j then M.pure (upI 0 j.toNat) else M.st
  | _ => M.st) Γ := (rfl)
@[simp] theorem r_rng2 : rng2 fs Γ = M.bind fs (fun rvs => match rvs with
  | [.val (.int i), .val (.int j)] => if small i && small j then M.pure (upI i (j - i).toNat) else M.st
  | _ => M.st) Γ := (rfl)
@[simp] theorem r_callP {G : List D → Option Rt} : callP G fs Γ = M.bind fs (fun rvs => M.bind (peekAll rvs) fun ds => match G ds with
  | some r => if rvs.any isVar && !immR r then M.bind (matAll rvs) fun ds' => M.ofO ((G ds').map Rt.rv) else M.pure r.rv
  | none => M.st) Γ := (rfl)
@[simp] theorem r_callI {G : GI} : callI G fs Γ = M.bind fs (fun rvs => match rvs with
  | .var i :: r => M.bind (matAll r) fun ds => goI i G ds
  | _ => M.st) Γ := (rfl)
@[simp] theorem r_goI {G : GI} {ds : List D} : goI i G ds Γ = match Γ[i]? with
  | some (some (kd, .lst ds0)) => if owned kd then match G ds0 ds with
    | some (r, out) => .ok r.rv (Γ.set i (some (kd, .lst out)))
    | none => .st else .st
  | _ => .st := (rfl)
@[simp] theorem r_rvv : (Rt.val d).rv = .val d := (rfl)
@[simp] theorem r_rvn : (Rt.new d).rv = .new d := (rfl)
@[simp] theorem r_isv : isVar (.val d) = false := (rfl)
@[simp] theorem r_isn : isVar (.new d) = false := (rfl)
@[simp] theorem r_isi' : isVar (.var i) = true := (rfl)
end
@[simp] theorem modO_int {i j : Int} (h : 0 < j) : modO (.int i) (.int j) = some (.val (.int (i % j))) := by
  show (if cd (0 < j) = true then _ else _) = _
  rw [if_pos (cd_t h)]
@[simp] theorem fdivO_int {i j : Int} (h : 0 < j) (h' : j < 1073741824) : fdivO (.int i) (.int j) = some (.val (.int (i / j))) := by
  show (if cd (0 < j ∧ j < 1073741824) = true then _ else _) = _
  rw [if_pos (cd_t ⟨h, h'⟩)]
@[irreducible] def E18 : Int := 1000000000000000000
theorem pow18 : powO (.int 10) (.int 18) = some (.val (.int E18)) := by
  show (if cd ((0:Int) ≤ 18 ∧ (18:Int) ≤ 1000000 ∧ (10:Int).natAbs < 2 ^ 64) = true then some (RV.val (.int (10 ^ (18:Int).toNat))) else none) = _
  rw [if_pos (cd_t (by decide))]
  have : (10 : Int) ^ (18 : Int).toNat = E18 := by unfold E18; decide +kernel
  rw [this]
@[simp] theorem o_int {g : Int → Int → D} {i j : Int} : intO g (.int i) (.int j) = some (.val (g i j)) := (rfl)
@[simp] theorem o_addI {i j : Int} : addO (.int i) (.int j) = some (.val (.int (i + j))) := (rfl)
@[simp] theorem o_addL {xs ys : List D} (h : xs.length + ys.length ≤ sizeLine) : addO (.lst xs) (.lst ys) = some (.new (.lst (xs ++ ys))) := by
  show (if _ then _ else _) = _
  rw [if_pos h]
@[simp] theorem o_mul {i j : Int} (h : mulOk i j = true) : mulO (.int i) (.int j) = some (.val (.int (i * j))) := by
  show (if _ then _ else _) = _
  rw [if_pos h]
@[simp] theorem o_is {d : D} : isO d .non = some (.val (.bl (isNone d))) := (rfl)
@[simp] theorem o_isnt {d : D} : isntO d .non = some (.val (.bl (!isNone d))) := (rfl)
@[simp] theorem o_nn : isNone .non = true := (rfl)
@[simp] theorem o_nt {xs : List D} : isNone (.tup xs) = false := (rfl)
@[simp] theorem o_nl {xs : List D} : isNone (.lst xs) = false := (rfl)
@[simp] theorem o_ni {i : Int} : isNone (.int i) = false := (rfl)
@[simp] theorem o_lenL {xs : List D} : lenO [.lst xs] = some (.val (.int xs.length)) := (rfl)
@[simp] theorem o_lenT {xs : List D} : lenO [.tup xs] = some (.val (.int xs.length)) := (rfl)
@[simp] theorem o_lenS {xs : List Int} : lenO [.scr xs] = some (.val (.int xs.length)) := (rfl)
@[simp] theorem o_ixL {xs : List D} {i : Int} : idxO (.lst xs) (.int i) = (L2.atI xs i).map .val := (rfl)
@[simp] theorem o_ixT {xs : List D} {i : Int} : idxO (.tup xs) (.int i) = (L2.atI xs i).map .val := (rfl)
@[simp] theorem o_ixS {xs : List Int} {i : Int} : idxO (.scr xs) (.int i) = (L2.atI xs i).map fun n => .val (.int n) := (rfl)
@[simp] theorem o_neg {i : Int} : negO (.int i) = some (.val (.int (-i))) := (rfl)
@[simp] theorem o_cutL {xs : List D} {lo hi : Option Int} : cutO (.lst xs) lo hi = some (.new (.lst (cutL xs lo hi))) := (rfl)
@[simp] theorem o_cutS {xs : List Int} {lo hi : Option Int} : cutO (.scr xs) lo hi = some (.new (.lst ((cutL xs lo hi).map D.int))) := (rfl)
@[simp] theorem o_max {i j : Int} : max2O [.int i, .int j] = some (.val (.int (if j > i then j else i))) := (rfl)
@[simp] theorem o_min {i j : Int} : min2O [.int i, .int j] = some (.val (.int (if j < i then j else i))) := (rfl)
@[simp] theorem o_abs {i : Int} : absO [.int i] = some (.val (.int (if i < 0 then -i else i))) := (rfl)
@[simp] theorem o_int1 {i : Int} : intO1 [.int i] = some (.val (.int i)) := (rfl)
@[simp] theorem o_int2 {k : Bool} : intO1 [.bl k] = some (.val (.int (if k then 1 else 0))) := (rfl)
@[simp] theorem o_list {xs : List D} : listO [.lst xs] = some (.new (.lst xs)) := (rfl)
@[simp] theorem o_isiT {T : Ty} {xs : List D} : isiO T (.tup xs) = some (.val (.bl (isTy T (.tup xs)))) := (rfl)
@[simp] theorem o_isiI {T : Ty} {i : Int} : isiO T (.int i) = some (.val (.bl (isTy T (.int i)))) := (rfl)
@[simp] theorem o_isiN {T : Ty} : isiO T .non = some (.val (.bl (isTy T .non))) := (rfl)
@[simp] theorem o_isiB {T : Ty} {b : Bool} : isiO T (.bl b) = some (.val (.bl (isTy T (.bl b)))) := (rfl)
@[simp] theorem o_isiS {T : Ty} {z : Str} : isiO T (.str z) = some (.val (.bl (isTy T (.str z)))) := (rfl)
@[simp] theorem o_isiL {T : Ty} {xs : List D} : isiO T (.lst xs) = some (.val (.bl (isTy T (.lst xs)))) := (rfl)
@[simp] theorem o_isiD {T : Ty} {xs ys : List D} : isiO T (.dic xs ys) = some (.val (.bl (isTy T (.dic xs ys)))) := (rfl)
@[simp] theorem o_app {ds : List D} {d : D} (h : ds.length < sizeLine) : appendG ds [d] = some (ds ++ [d], .non) := by
  show (if _ then _ else _) = _
  rw [if_pos h]
@[simp] theorem small_t {j : Int} (h : -4611686018427387904 ≤ j ∧ j < 4611686018427387904) : small j = true := cd_t (by omega)
theorem mulOk_l {i j : Int} (h : -18446744073709551616 < i ∧ i < 18446744073709551616) : mulOk i j = true := cd_t (.inl (by omega))
theorem mulOk_r {i j : Int} (h : -18446744073709551616 < j ∧ j < 18446744073709551616) : mulOk i j = true := cd_t (.inr (by omega))
end Dv
namespace Dv
open PySem L2 Ex
/-! loops by what holds between their turns -/
theorem loop_inv {m : D → M Unit} {s : M Fl} (I : Nat → En → Prop) {ds : List D} {Γ : En} (h0 : I 0 Γ)
    (step : ∀ (i : Nat) (d : D) (Γ : En), ds[i]? = some d → I i Γ → ∃ Γ1 Γ2, m d Γ = .ok () Γ1 ∧ (s Γ1 = .ok .nx Γ2 ∨ s Γ1 = .ok .cont Γ2) ∧ I (i + 1) Γ2) : ∃ Γ', loopM m s ds Γ = .ok .nx Γ' ∧ I ds.length Γ' := by
  induction ds generalizing Γ I with
  | nil => exact ⟨Γ, rfl, h0⟩
  | cons d r ih =>
    obtain ⟨Γ1, Γ2, h1, h2, h3⟩ := step 0 d Γ rfl h0
    obtain ⟨Γ', h4, h5⟩ := ih (fun i => I (i + 1)) h3 fun i d Γ hd hi => step (i + 1) d Γ (by simpa using hd) hi
    refine ⟨Γ', ?_, h5⟩
    rw [r_loop1, r_noX, h1]
    rcases h2 with h2 | h2 <;> simp only [h2] <;> exact h4
theorem while_inv {p : M Bool} {s : M Fl} (I : Nat → En → Prop) (Post : En → Prop)
    (step : ∀ m Γ, I m Γ → (∃ Γ1, p Γ = .ok false Γ1 ∧ Post Γ1) ∨ ∃ Γ1 Γ2 m', p Γ = .ok true Γ1 ∧ s Γ1 = .ok .nx Γ2 ∧ m' < m ∧ I m' Γ2) : ∀ (n m : Nat) (Γ : En), m < n → I m Γ → ∃ Γ', whileM p s n Γ = .ok .nx Γ' ∧ Post Γ' := by
  intro n
  induction n with
  | zero => intro m Γ h; omega
  | succ n ih =>
    intro m Γ h hi
    rcases step m Γ hi with ⟨Γ1, h1, h2⟩ | ⟨Γ1, Γ2, m', h1, h2, h3, h4⟩
    · exact ⟨Γ1, by rw [r_while, h1], h2⟩
    · obtain ⟨Γ', h5, h6⟩ := ih m' Γ2 (by omega) h4
      exact ⟨Γ', by rw [r_while, h1]; simp only [h2]; exact h5, h6⟩
end Dv
end

section
set_option Elab.async false
set_option linter.all false
set_option maxRecDepth 100000
set_option maxHeartbeats 5000000
namespace Dv
open PySem L2 Ex
variable [KC]
section
variable {X : Cx} {EE : XKS} {ios : List Addr} {a b c d : Expr} {f g k l : M RV} {pos : Pos} {ta tb tc td : TE} {r r' r'' : R2}
/-! a op b op c op d, as a test -/
def op4 (o o' o'' : D → D → Option RV) (f g k l : M RV) : M Bool := M.bind f fun x => M.bind g fun y => M.bind (peek x) fun d => M.bind (peek y) fun e => M.bind (M.bind (M.ofO (o d e)) asB) fun q =>
  if q then M.bind k fun z => M.bind (peek y) fun e' => M.bind (peek z) fun u => M.bind (M.bind (M.ofO (o' e' u)) asB) fun q' =>
    if q' then M.bind l fun v => M.bind (peek z) fun u' => M.bind (peek v) fun t => M.bind (M.ofO (o'' u' t)) asB else M.pure false
  else M.pure false
end
/-! a list times an int -/
/-! {} -/
section
variable {X : Cx} {EE : XKS} {ios : List Addr} {pos : Pos}
end
/-! a, b = x, y -/
section
variable {X : Cx} {EE : XKS} {ios : List Addr} {fs : M (List RV)} {ta : TA} {i j : Nat} {x y : Str} {a b : Expr} {px py pt pos : Pos} {kt k2 : Nat} {pt2 : Pos}
def parM (i j : Nat) (fs : M (List RV)) : M Fl := M.bind fs fun rvs => M.bind (matAll rvs) fun ds => match ds with
  | [d, e] => M.bind (setS i (.frz, d)) fun _ => M.bind (setS j (.frz, e)) fun _ => M.pure .nx
  | _ => M.st
end
end Dv
end

section
set_option Elab.async false
set_option linter.all false
set_option maxRecDepth 100000
set_option maxHeartbeats 5000000
namespace L2
open PySem PySem.Spec PyProof.Rows Ex
/-! repr of [x, {}], and of a number -/
section
variable {X : Cx}
end
end L2
namespace Dv
open PySem L2 Ex
variable [KC]
end Dv
end

section
set_option Elab.async false
set_option linter.all false
set_option maxRecDepth 100000
set_option maxHeartbeats 5000000
/-! how comprehensions run -/
namespace Dv
open PySem L2 Ex
section
variable {Γ Γ' : En} {f g k l : M RV} {fs : M (List RV)} {p q : M Bool} {d : D} {i j : Nat} {m : D → M Unit} {fr : List Nat} {own : Nat}
@[simp] theorem r_comp {items : M (List D)} : compM items fr own m p f Γ = M.bind items (fun ds => if ds.length < sizeLine then M.bind (lcM fr own m p f ds) fun ys => M.pure (.new (.lst ys)) else M.st) Γ := (rfl)
@[simp] theorem r_elt : eltM m p f d Γ = M.bind (noX (m d)) (fun _ => M.bind p fun b => if b then M.bind f fun rv => M.bind (mat rv) fun y => M.pure (some y) else M.pure none) Γ := (rfl)
@[simp] theorem r_par : parM i j fs Γ = M.bind fs (fun rvs => M.bind (matAll rvs) fun ds => match ds with
  | [d, e] => M.bind (setS i (.frz, d)) fun _ => M.bind (setS j (.frz, e)) fun _ => M.pure .nx
  | _ => M.st) Γ := (rfl)
@[simp] theorem r_op4 {o o' o'' : D → D → Option RV} : op4 o o' o'' f g k l Γ = M.bind f (fun x => M.bind g fun y => M.bind (peek x) fun d => M.bind (peek y) fun e => M.bind (M.bind (M.ofO (o d e)) asB) fun q =>
  if q then M.bind k fun z => M.bind (peek y) fun e' => M.bind (peek z) fun u => M.bind (M.bind (M.ofO (o' e' u)) asB) fun q' =>
    if q' then M.bind l fun v => M.bind (peek z) fun u' => M.bind (peek v) fun t => M.bind (M.ofO (o'' u' t)) asB else M.pure false
  else M.pure false) Γ := (rfl)
theorem lc_eq (F : D → Option D) : ∀ (ds : List D), (∀ d ∈ ds, ∃ Γb, eltM m p f d (blkG fr own Γ) = .ok (F d) Γb ∧ unblk fr own Γ Γb = Γ) → lcM fr own m p f ds Γ = .ok (ds.filterMap F) Γ
  | [], _ => rfl
  | d :: r, h => by
    obtain ⟨Γb, h1, h2⟩ := h d (List.mem_cons_self ..)
    have ih := lc_eq F r fun d hd => h d (List.mem_cons_of_mem _ hd)
    unfold lcM
    rw [h1]
    simp only [h2, ih]
    cases e : F d <;> simp [List.filterMap_cons, e]
theorem lc_map (F : D → D) {ds : List D} (h : ∀ d ∈ ds, ∃ Γb, eltM m p f d (blkG fr own Γ) = .ok (some (F d)) Γb ∧ unblk fr own Γ Γb = Γ) : lcM fr own m p f ds Γ = .ok (ds.map F) Γ := by
  rw [lc_eq (fun d => some (F d)) ds h]
  exact congrArg (fun z => Res.ok z Γ) (by induction ds with
    | nil => rfl
    | cons a r ih => rw [List.filterMap_cons, List.map_cons, ih fun d hd => h d (List.mem_cons_of_mem _ hd)])
end
end Dv
end

section
set_option Elab.async false
set_option linter.all false
set_option maxRecDepth 100000
set_option maxHeartbeats 5000000
namespace L2
open PySem PySem.Spec PyProof.Rows Ex
section
variable {X : Cx} {EE : XKS} {k : Nat} {f : Addr} {fd : FuncData} {ps : List Str} {sp : Sp} {dvs : List V} {ds : List Value} {x : Str} {p pos : Pos} {e : Expr} {es : List Expr} {t : TA}
/-! a call of a def that may raise -/
def tCallX (sp : Sp) (dvs : List V) (EE : XKS) (t : TA) : TE := fun σ H Q => t σ H fun vs H1 => sp (vs ++ dvs) H1 Q (EE σ)
theorem run_fnX {pins : List (Addr × Obj)} {σ : St} {H : Hp} {s : Shared} {Q : VK} {us : List Value} {vs : List V} (F : FnOk X.prog X.w X.K X.mg X.base (CXe X.prog X.w) k f fd ps sp) (hr : Room k X.A) (hb : Binds X.K fd ps ds) (hd : Vals dvs ds) (hX : XOk X EE)
    (I : Inv X pins σ H s) (r : Vals vs us) (h : sp (vs ++ dvs) H Q (EE σ)) : wpAny (model X.prog X.w) X.A (call (.ref f) us) (EP X pins σ Q) X.xe s := by
  have r2 : Vals (vs ++ dvs) (us ++ ds) := r.append hd
  have hl : (us ++ ds).length = ps.length := by rw [← r2.length]; exact F.len _ _ _ _ h
  refine wpAny_call (codeAny_mono (F.run X.A X.stack s H ⟨us, []⟩ (us ++ ds) (vs ++ dvs) Q (EE σ) hr I.env0 (hb s us I.kIn hl) r2 h) fun r s' hq => ?_)
  cases r with
  | error e => exact pass_of hX I hq
  | ok fl =>
    cases fl with
    | ret u => exact I.after hq
    | next => exact False.elim hq
    | brk => exact False.elim hq
    | cont => exact False.elim hq
theorem pe_callX (F : FnOk X.prog X.w X.K X.mg X.base (CXe X.prog X.w) k f fd ps sp) (hr : Room k X.A) (hg : Gl X x) (hm : X.mg x = some (.ref f)) (hk : PySem.W.keepIn X.K (.ref f) = true) (hb : Binds X.K fd ps ds) (hd : Vals dvs ds) (hX : XOk X EE)
    (ha : PA X (e :: es) t) (hdb : (x == ("__debug__" : Str)) = false := by decide) (he : starEach (e :: es) X.env = (false, eval e X.env) :: starEach es X.env := by rfl) (hpl : (backTo pos (starEach es X.env)).any (·.1) = false := by rfl) :
    PE X (.Call (.Name x p) (e :: es) [] pos) (tCallX sp dvs EE t) := by
  intro pins s σ H Q I h
  refine wpAny_Call_Name_kw (ld_glob I hg hm ?_ hdb)
  refine PySem.W.callWith_K (h₀ := X.base) I.ok.mod.kin hk (thn (ha pos pins s σ H _ I h) fun us s1 ⟨vs, H1, I1, r, q⟩ => ⟨I1.kIn, ?_⟩) he hpl
  exact run_fnX F hr hb hd hX I1 r q
theorem xok_none {X : Cx} : XOk X (fun _ _ _ _ => False) := fun _ _ _ _ _ _ _ _ h => h.elim
end
end L2
namespace Dv
open PySem L2 Ex
variable [KC]
section
variable {X : Cx} {EE : XKS} {ios : List Addr} {e a b c : Expr} {es : List Expr} {f g : M RV} {fs : M (List RV)} {p : M Bool} {s s' : M Fl} {st : Stmt} {sts sts' : List Stmt} {pos : Pos}
/-- what a def hands back that may raise -/
inductive Rx where
  | ok (r : Rt) | ex (x : Xc)
def RxK (R H : Hp) (r : Option Rx) (Q : VK) (E : XK) : Prop := match r with
  | some (.ok r) => ∀ x H' R', Al R H R' H' → RvA R' H H' x r.rv → Q x H'
  | some (.ex x) => ∀ e H' R', Al R H R' H' → XcR R' H H' e x → E (.ref (KC.cls x.C)) (some e) H'
  | none => False
def spX (G : List D → Option Rx) : Sp := fun vs H Q E => ∃ R ds, Same R H ∧ Rps R vs ds ∧ RxK R H (G ds) Q E
def finX : Res Fl → Option Rx
  | .ex x _ => some (.ex x)
  | r => (finR r).map .ok
theorem fin_ok {N : List Str} {R H : Hp} {σ : St} {ds : List D} {fl : Fl} {Γ' : En} {r : Rt} {Q : VK} (fin : finR (.ok fl Γ') = some r) (h3 : ∀ x H' R', Al R H R' H' → RvA R' H H' x r.rv → Q x H') : FlK ios R H σ (gam N ds) { nx := fun _ H' => Q .non H', rt := Q } fl Γ' := by
  intro σ' H' R' p
  cases fl with
  | brk => cases fin
  | cont => cases fin
  | nx => cases fin; exact h3 .non H' R' p.al .non
  | ret rv =>
    intro y hy
    cases rv with
    | val d => cases fin; exact h3 y H' R' p.al hy
    | new d => cases fin; exact h3 y H' R' p.al hy
    | var i =>
      have fin : (match Γ'[i]? with
        | some (some (.own, d)) => some (Rt.new d)
        | some (some (.frz, d)) => some (.val d)
        | _ => none) = some r := fin
      split at fin
      · rename_i d hs
        cases fin
        obtain ⟨v, hv, sl⟩ := p.er.sl i _ hs
        have hy : σ'[i]? = some (some y) := hy
        rw [hy] at hv
        cases hv
        obtain ⟨a, xs, ds', rfl, r1, r2, r3, r4⟩ := sl
        refine h3 _ H' R' p.al ⟨⟨a, xs, ds', rfl, r1, r2, r3, r4⟩, a, rfl, ?_⟩
        exact (p.go.oo a ⟨i, .own, d, hs, rfl, hy⟩).elim (fun z => absurd z no_ow) id
      · rename_i d hs
        cases fin
        obtain ⟨v, hv, sl⟩ := p.er.sl i _ hs
        have hy : σ'[i]? = some (some y) := hy
        rw [hy] at hv
        cases hv
        exact h3 _ H' R' p.al sl
      · cases fin
theorem fn_pureX {P : Program} {w : World} {K : PySem.W.Frag} {mg : Str → Option Value} {base : Heap} {x qual : Str} {fa : Addr} {fd : FuncData} {N ps : List Str} {k : Nat} {G : List D → Option Rx} {bm : M Fl} (F : Fun K x qual st fa fd) (S : FnScope N ps (defScope st))
    (hb : ∀ (cdv : Value) (A : Around) (outer : List Env) (s : Shared) (H : Hp) (E : XK), Room k (A.deeper (PyProof.Rows.envOfC qual (defScope st) s.heap.objs.size fa cdv)) → VSs (cxOf (CXe P w) P w K mg base N qual (defScope st) fa cdv A outer s H E) (fun _ => E) [] (defBody st) bm)
    (h : ∀ ds r, G ds = some r → ds.length = ps.length ∧ finX (bm (gam N ds)) = some r) : FnOk P w K mg base (CXe P w) (k + 1) fa fd ps (spX G) := by
  obtain ⟨oc, od, kV, doc, pm, an, cdv, ct, osl, rfl, lk, hcd⟩ := F.ex
  refine fn_of lk hcd S (fun vs H Q E q => ?_) fun A outer s H vs Q E hr q => ?_
  · obtain ⟨R, ds, _, h2, h3⟩ := q
    cases e : G ds with
    | none => rw [e] at h3; exact h3.elim
    | some r => rw [h2.len]; exact (h ds r e).1
  · obtain ⟨R, ds, h1, h2, h3⟩ := q
    cases e : G ds with
    | none => rw [e] at h3; exact h3.elim
    | some r =>
      rw [e] at h3
      obtain ⟨t, b1, b2⟩ := hb cdv A outer s H E hr
      refine ⟨t, b1, b2 _ H R _ _ (er_start h1 h2) ?_⟩
      have fin := (h ds r e).2
      cases q : bm (gam N ds) with
      | st => rw [q] at fin; cases fin
      | ex x Γ' =>
        rw [q] at fin
        cases fin
        exact fun e σ' H' R' p qx => h3 e H' R' p.al qx
      | ok fl Γ' =>
        rw [q] at fin
        have fin : (finR (.ok fl Γ')).map Rx.ok = some r := fin
        cases q2 : finR (.ok fl Γ') with
        | none => rw [q2] at fin; cases fin
        | some r' =>
          rw [q2] at fin
          cases fin
          exact wpM_ok (fin_ok q2 h3)
def M.thr {α : Type} (x : Xc) : M α := fun Γ => .ex x Γ
/-- a call of such a def -/
def callX (G : List D → Option Rx) (fs : M (List RV)) : M RV := M.bind fs fun rvs => M.bind (peekAll rvs) fun ds => match G ds with
  | some (.ok r) => if rvs.any isVar && !immR r then M.bind (matAll rvs) fun ds' => match G ds' with
      | some (.ok r) => M.pure r.rv
      | _ => M.st
    else M.pure r.rv
  | some (.ex x) => M.bind (matAll rvs) fun ds' => match G ds' with
      | some (.ex x) => M.thr x
      | _ => M.st
  | none => M.st
theorem ve_callX' {G : List D → Option Rx} {e0 : Expr} (hp : ∀ t, PA X es t → PE X e0 (tCallX (spX G) [] EE t)) (ha : VA X EE ios es fs) : VE X EE ios e0 (callX G fs) := by
  obtain ⟨t, h1, h2⟩ := ha
  refine ⟨_, hp t h1, fun σ H R Γ Q er w => ?_⟩
  unfold callX at w
  rw [wpM_bind] at w
  refine h2 σ H R Γ _ er (wpM_mono w (fun rvs Γ1 w xs H1 R1 p1 hx => ?_) fun _ _ z => z)
  show spX G (xs ++ []) H1 Q (EE σ)
  rw [List.append_nil]
  rw [wpM_bind] at w
  obtain ⟨ds, q, w⟩ := peekAll_is w
  obtain ⟨ds', pk, e⟩ := peekAll_ok (K := fun ds' _ => ds' = ds) (E := fun _ _ => False) p1.er hx (by rw [q]; exact rfl)
  subst e
  cases hG : G ds' with
  | none => rw [hG] at w; exact False.elim w
  | some rx =>
    rw [hG] at w
    cases rx with
    | ex x =>
      have w : wpM (M.bind (matAll rvs) (fun ds' => match G ds' with
        | some (.ex x) => M.thr x
        | _ => M.st) Γ1) _ _ := w
      rw [wpM_bind] at w
      obtain ⟨ds2, Γ2, R2, p2, s2, r2, w⟩ := matAll_ok er p1 hx w
      refine ⟨R2, ds2, p2.er.sub, r2, ?_⟩
      cases hG2 : G ds2 with
      | none => rw [hG2] at w; exact False.elim w
      | some ry =>
        rw [hG2] at w
        cases ry with
        | ok r => exact False.elim w
        | ex y => exact fun e H' R' al xr => w e H' R' (p2.al al) (xr.back p2.since)
    | ok r =>
      dsimp only at w
      by_cases hv : rvs.any isVar = true
      · by_cases him : immR r = true
        · rw [hv, him] at w
          have w : ∀ x H' R', EPo ios R H σ Γ R' H' Γ1 → RvR R' H H' σ x r.rv → Q x H' := w
          refine ⟨lent (Ow σ Γ1) R1 H1, ds', lent_sub p1.er.sub, Pks.lent p1.er hx pk q, ?_⟩
          rw [hG]
          intro x H' R' al ra
          have ow : ∀ b, Ow σ Γ1 b → R1 b = none ∧ ∃ xs, H1 b = some (.lst xs) := fun b z => p1.er.ow z
          have un : ∀ b, ¬ Ow σ Γ1 b → unlent (Ow σ Γ1) R' b = R' b := fun b z => by unfold unlent; rw [if_neg z]
          have un' : ∀ b, Ow σ Γ1 b → unlent (Ow σ Γ1) R' b = none := fun b z => by unfold unlent; rw [if_pos z]
          have tup : ∀ b ys, R' b = some (.tup ys) → unlent (Ow σ Γ1) R' b = some (.tup ys) := fun b ys z => by
            rw [un b]
            · exact z
            · intro o
              obtain ⟨_, zs, hz⟩ := ow b o
              have := al.sub _ _ z
              rw [al.hh _ _ hz] at this
              cases this
          have rr : Same R1 (unlent (Ow σ Γ1) R') := fun b o z => by
            have nb : ¬ Ow σ Γ1 b := fun q => by rw [(ow b q).1] at z; cases z
            rw [un b nb]
            apply al.rr
            unfold lent
            rw [if_neg nb]
            exact z
          have no : ∀ b o, H1 b = some o → R1 b = none → unlent (Ow σ Γ1) R' b = none := fun b o hb rb => by
            by_cases nb : Ow σ Γ1 b
            · exact un' b nb
            · rw [un b nb]
              apply al.no b o hb
              unfold lent
              rw [if_neg nb]
              exact rb
          have al' : Al R1 H1 (unlent (Ow σ Γ1) R') H' := ⟨fun b o z => by
            by_cases nb : Ow σ Γ1 b
            · rw [un' b nb] at z; cases z
            · rw [un b nb] at z; exact al.sub b o z, rr, al.hh, no⟩
          refine w x H' _ (p1.al al') ?_
          cases r with
          | val d => exact Rp.less tup ra him
          | new d =>
            cases d with
            | lst zs =>
              obtain ⟨⟨a, ys, ds2, rfl, r1, r2, r3, r4⟩, a', ea, hf⟩ := ra
              cases ea
              cases r3
              refine ⟨⟨a, ys, zs, rfl, ?_, r2, rfl, r4.less tup him⟩, a, rfl, p1.back er a hf⟩
              by_cases nb : Ow σ Γ1 a
              · exact un' a nb
              · rw [un a nb]; exact r1
            | _ => cases him
        · have him : immR r = false := by cases z : immR r <;> simp_all
          rw [hv, him] at w
          have w : wpM (M.bind (matAll rvs) (fun ds' => match G ds' with
            | some (.ok r) => M.pure r.rv
            | _ => M.st) Γ1) _ _ := w
          rw [wpM_bind] at w
          obtain ⟨ds2, Γ2, R2, p2, s2, r2, w⟩ := matAll_ok er p1 hx w
          refine ⟨R2, ds2, p2.er.sub, r2, ?_⟩
          cases hG2 : G ds2 with
          | none => rw [hG2] at w; exact False.elim w
          | some r' =>
            rw [hG2] at w
            cases r' with
            | ex y => exact False.elim w
            | ok r' => exact fun x H' R' al ra => w x H' R' (p2.al al) (ra.rv (p2.back er))
      · have hv : rvs.any isVar = false := by cases z : rvs.any isVar <;> simp_all
        rw [hv] at w
        have w : ∀ x H' R', EPo ios R H σ Γ R' H' Γ1 → RvR R' H H' σ x r.rv → Q x H' := w
        refine ⟨R1, ds', p1.er.sub, ars_novar hx hv q, ?_⟩
        rw [hG]
        exact fun x H' R' al ra => w x H' R' (p1.al al) (ra.rv (p1.back er))
/-- a def that may be called and may raise -/
def CalX (P : Program) (w : World) (mg : Str → Option Value) (base : Heap) (x : Str) (k : Nat) (ps : List Str) (sp : Sp) : Prop := ∃ f fd, FnOk P w KC.K mg base (CXe P w) k f fd ps sp ∧ mg x = some (.ref f) ∧ PySem.W.keepIn KC.K (.ref f) = true ∧ Binds KC.K fd ps []
theorem ve_callX {G : List D → Option Rx} {x : Str} {k : Nat} {ps : List Str} {p0 : Pos} (hX : XOk X EE) (C : CalX X.prog X.w X.mg X.base x k ps (spX G)) (hr : Room k X.A) (hg : Gl X x) (ha : VA X EE ios (e :: es) fs) (hK : X.K = KC.K := by rfl) (hdb : (x == ("__debug__" : Str)) = false := by decide)
    (he : starEach (e :: es) X.env = (false, eval e X.env) :: starEach es X.env := by rfl) (hpl : (backTo pos (starEach es X.env)).any (·.1) = false := by rfl) : VE X EE ios (.Call (.Name x p0) (e :: es) [] pos) (callX G fs) := by
  obtain ⟨f, fd, F, hm, hk, hb⟩ := C
  rw [← hK] at F hk hb
  exact ve_callX' (fun t h => pe_callX F hr hg hm hk hb .nil hX h hdb he hpl) ha
theorem calX_of {P : Program} {w : World} {mg : Str → Option Value} {base : Heap} {x : Str} {k : Nat} {N ps : List Str} {G : List D → Option Rx} {bm : M Fl} (A0 : At mg x st) (S : FnScope N ps (defScope st))
    (bd : ∀ (kV doc pm : Value) (an : Option Addr) (cdv ct : Value) (us : List Value), us.length = ps.length → bindArgs (PySem.W.fnOf x x (defArgs st) (defBody st) (defScope st) .none kV doc pm an cdv ct) ⟨us, []⟩ = pure (ps.zip us))
    (hb : ∀ (fa : Addr) (cdv : Value) (A : Around) (outer : List Env) (s : Shared) (H : Hp) (E : XK), Room k (A.deeper (PyProof.Rows.envOfC x (defScope st) s.heap.objs.size fa cdv)) → VSs (cxOf (CXe P w) P w KC.K mg base N x (defScope st) fa cdv A outer s H E) (fun _ => E) [] (defBody st) bm)
    (h : ∀ ds r, G ds = some r → ds.length = ps.length ∧ finX (bm (gam N ds)) = some r) : CalX P w mg base x (k + 1) ps (spX G) :=
  let ⟨f, fd, F, hm, hk⟩ := A0
  ⟨f, fd, fn_pureX F S (hb f) h, hm, hk, F.binds bd⟩
def runX (n : Nat) (N : List Str) (bm : M Fl) : List D → Option Rx := fun ds => if ds.length = n then finX (bm (gam N ds)) else none
theorem runX_ok {n : Nat} {N : List Str} {bm : M Fl} {ds : List D} {r : Rx} (h : runX n N bm ds = some r) : ds.length = n ∧ finX (bm (gam N ds)) = some r := by
  unfold runX at h
  split at h
  · rename_i c; exact ⟨c, h⟩
  · cases h
end
end Dv
end

section
set_option Elab.async false
set_option linter.all false
set_option maxRecDepth 100000
set_option maxHeartbeats 5000000
namespace Dv
open PySem L2 Ex
variable [KC]
section
variable {X : Cx} {EE : XKS} {ios : List Addr} {e a b c : Expr} {es : List Expr} {f g : M RV} {fs : M (List RV)} {p : M Bool} {s s' : M Fl} {st : Stmt} {sts sts' : List Stmt} {pos cpos p0 : Pos} {x : Str}
theorem ArsR.len {R : Hp} {σ : St} : ∀ {xs : List V} {rvs : List RV}, ArsR R σ xs rvs → xs.length = rvs.length
  | _, _, .nil => rfl
  | _, _, .cons _ h => congrArg Nat.succ (ArsR.len h)
/-- a thing is laid that is not data yet -/
theorem al_any {R H : Hp} {p : Addr} {o : HO} (s : Same R H) (hp : H p = none) : Al R H R (upd H p o) :=
  ⟨fun b u e => by rw [upd_ne (ne_of_none (s _ _ e) hp)]; exact s _ _ e, Same.refl _, same_upd hp, fun _ _ _ r => r⟩
/-! raise C('..'), C without an __init__ of its own -/
def raise0M (C : Cn) (fs : M (List RV)) : M Fl := M.bind fs fun rvs => if rvs.length ≤ 1000 then M.thr ⟨C, []⟩ else M.st
theorem vs_raise0 {C : Cn} (hX : XOk X EE) (M0 : XMk0 KC.K (KC.cls C)) (Z : XK0 KC.K (KC.cls C)) (hm : X.mg x = some (.ref (KC.cls C))) (ha : VA X EE ios (e :: es) fs) (hg : Gl X x := by rfl) (hc : X.calm = true := by rfl) (hK : X.K = KC.K := by rfl) (hdb : (x == ("__debug__" : Str)) = false := by decide)
    (he : starEach (e :: es) X.env = (false, eval e X.env) :: starEach es X.env := by rfl) (hpl : (backTo cpos (starEach es X.env)).any (·.1) = false := by rfl) : VS X EE ios (.Raise (some (.Call (.Name x p0) (e :: es) [] cpos)) none pos) (raise0M C fs) := by
  obtain ⟨t, h1, h2⟩ := ha
  refine ⟨_, ps_raise0 hX hc (by rw [hK]; exact M0) (by rw [hK]; exact Z) hg hm h1 hdb he hpl, fun σ H R Γ D er w => ?_⟩
  unfold raise0M at w
  rw [wpM_bind] at w
  refine h2 σ H R Γ _ er (wpM_mono w (fun rvs Γ1 w xs H1 R1 p1 hx => ?_) fun _ _ z => z.exp)
  split at w
  · rename_i hl
    refine ⟨by rw [hx.len]; exact hl, fun a na => ?_⟩
    exact w a σ _ R1 (p1.al (al_any p1.er.sub na)).spo ⟨p1.er.sub.free na, p1.since _ na, .inl ⟨rfl, upd_same⟩⟩
  · exact False.elim w
/-! raise C(..), C with an __init__ of its own -/
def raiseM (C : Cn) (ns : List Str) (fs : M (List RV)) : M Fl := M.bind fs fun rvs => M.bind (matAll rvs) fun ds => if ds.length = ns.length ∧ ds.length ≤ 1000 then M.thr ⟨C, ns.zip ds⟩ else M.st
/-! try .. except (..) as n -/
def tOfS (EE : XKS) (ios : List Addr) (f : M Fl) : TS := fun D σ H => ∃ R Γ, ER ios R H σ Γ ∧ wpM (f Γ) (FlK ios R H σ Γ D) (EXS EE ios R H σ Γ)
theorem VSs.pss (h : VSs X EE ios sts s) : PSs X sts (tOfS EE ios s) := let ⟨_, h1, h2⟩ := h; fun pins s σ H D I ⟨R, Γ, er, w⟩ => h1 pins s σ H D I (h2 σ H R Γ D er w)
def insX (x : Xc) : D := .ins x.C (x.fs.map (·.1)) (x.fs.map (·.2))
def tryM (mt : Cn → Bool) (i : Nat) (body suite : M Fl) : M Fl := fun Γ => match body Γ with
  | .ok fl Γ' => .ok fl Γ'
  | .ex x Γ' => if mt x.C then match suite (Γ'.set i (some (.frz, insX x))) with
      | .ok .nx Γ'' => .ok .nx (Γ''.set i none)
      | _ => .st
    else .st
  | .st => .st
theorem SPo.ext1 {R H R1 H1 : Hp} {σ σ1 : St} {Γ Γ1 : En} {a : Addr} (p : SPo ios R H σ Γ R1 H1 σ1 Γ1) (ra : R1 a = none) (h0 : H a = none) (no : ¬ Ow σ1 Γ1 a) : SPo ios R H σ Γ (ext R1 H1 a) H1 σ1 Γ1 := by
  have rr : Same R1 (ext R1 H1 a) := ext_same ra
  refine ⟨⟨ext_sub p.er.sub, p.er.len, fun j t hj => ?_, p.er.dj⟩, ⟨p.go.rr.trans rr, p.go.hh, fun b o hb nb rb => ?_, p.go.oo, p.go.th⟩⟩
  · obtain ⟨v, hv, s⟩ := p.er.sl j t hj
    refine ⟨v, hv, s.mono rr fun ho b ys eb hb rb => ⟨hb, ?_⟩⟩
    rw [ext_ne]
    · exact rb
    · rintro rfl
      subst eb
      exact no ⟨j, t.1, t.2, hj, ho, hv⟩
  · rw [ext_ne]
    · exact p.go.no b o hb nb rb
    · rintro rfl
      rw [h0] at hb; cases hb
theorem ow_unset {σ : St} {Γ : En} {i : Nat} {b : Addr} (h : Ow (σ.set i none) (Γ.set i none) b) : Ow σ Γ b := by
  obtain ⟨j, k, d, h1, h2, h3⟩ := h
  by_cases hj : j = i
  · subst hj
    rw [List.getElem?_set] at h1
    simp at h1
  · rw [List.getElem?_set_ne (Ne.symm hj)] at h1 h3
    exact ⟨j, k, d, h1, h2, h3⟩
theorem SPo.unset {R H : Hp} {σ : St} {Γ : En} {i : Nat} (er : ER ios R H σ Γ) : SPo ios R H σ Γ R H (σ.set i none) (Γ.set i none) := by
  have ne : ∀ {j : Nat} {t : Kd × D}, (Γ.set i none)[j]? = some (some t) → j ≠ i ∧ Γ[j]? = some (some t) := fun {j t} h => by
    by_cases hj : j = i
    · subst hj
      rw [List.getElem?_set] at h
      simp at h
    · exact ⟨hj, by rwa [List.getElem?_set_ne (Ne.symm hj)] at h⟩
  refine ⟨⟨er.sub, by rw [List.length_set, List.length_set]; exact er.len, fun j t hj => ?_, fun j j' l l' d d' b q1 q2 q3 q4 q5 q6 => ?_⟩, ⟨Same.refl _, fun _ _ h _ => h, fun _ _ _ _ r => r, fun b z => .inl (ow_unset z), fun b o h => ⟨o, h⟩⟩⟩
  · obtain ⟨n1, n2⟩ := ne hj
    obtain ⟨v, hv, s⟩ := er.sl j t n2
    exact ⟨v, by rw [List.getElem?_set_ne (Ne.symm n1)]; exact hv, s⟩
  · obtain ⟨n1, n2⟩ := ne q1
    obtain ⟨m1, m2⟩ := ne q3
    rw [List.getElem?_set_ne (Ne.symm n1)] at q5
    rw [List.getElem?_set_ne (Ne.symm m1)] at q6
    exact er.dj j j' l l' d d' b n2 q2 m2 q4 q5 q6
/-- a caught exception is a thing like others -/
theorem caught {R H R1 H1 : Hp} {σ σ1 : St} {Γ Γ1 : En} {x : Xc} {e : Addr} (p : SPo ios R H σ Γ R1 H1 σ1 Γ1) (h : XcR R1 H H1 e x) : ∃ R2, SPo ios R H σ Γ R2 H1 σ1 Γ1 ∧ Rp R2 (.ref e) (insX x) := by
  obtain ⟨re, h0, h⟩ := h
  have no : ∀ b (o : HO), H1 b = some o → (∀ xs, o ≠ .lst xs) → ¬ Ow σ1 Γ1 b := fun b o hb hn z => by
    obtain ⟨_, xs, q⟩ := p.er.ow z
    rw [hb] at q
    cases q
    exact hn xs rfl
  rcases h with ⟨hf, he⟩ | ⟨d, fs, he, hd, rd, d0, hn, hv⟩
  · refine ⟨ext R1 H1 e, p.ext1 re h0 (no e _ he (by intro xs z; cases z)), ?_⟩
    unfold insX
    rw [hf]
    exact .exc0 (by rw [ext_at]; exact he)
  · have p2 := p.ext1 re h0 (no e _ he (by intro xs z; cases z))
    have s2 : Same R1 (ext R1 H1 e) := ext_same re
    by_cases ed : d = e
    · subst ed
      refine ⟨_, p2, ?_⟩
      unfold insX
      rw [← hn]
      exact .exc (by rw [ext_at]; exact he) (by rw [ext_at]; exact hd) (hv.sm s2)
    · have rd2 : ext R1 H1 e d = none := by rw [ext_ne ed]; exact rd
      have s3 : Same (ext R1 H1 e) (ext (ext R1 H1 e) H1 d) := ext_same rd2
      refine ⟨_, p2.ext1 rd2 d0 (no d _ hd (by intro xs z; cases z)), ?_⟩
      unfold insX
      rw [← hn]
      exact .exc (by rw [ext_ne (Ne.symm ed), ext_at]; exact he) (by rw [ext_at]; exact hd) (hv.sm (s2.trans s3))
theorem rd_try {K : PySem.W.Frag} {cs : List Value} {i : Nat} {tb : XKS → TS} {ts : TS} {mt : Cn → Bool} (hm : ∀ C, mt C = true → matchIn K (KC.cls C) cs = some true) (hb : ∀ EE', RdS EE' ios (tb EE') s) (hs : RdS EN ios ts s') : RdS EE ios (tTry K cs i tb ts) (tryM mt i s s') := by
  intro σ H R Γ D er w
  unfold tryM at w
  refine hb _ σ H R Γ D er ?_
  cases h : s Γ with
  | st => rw [h] at w; exact w
  | ok fl Γ' => rw [h] at w; exact w
  | ex x Γ' =>
    rw [h] at w
    dsimp only at w
    split at w
    · rename_i c
      intro e σ1 H1 R1 p xr
      refine ⟨e, KC.cls x.C, rfl, rfl, hm _ c, ?_⟩
      obtain ⟨R2, p2, rp⟩ := caught p xr
      have p3 : SPo ios R H σ Γ R2 H1 (σ1.set i (some (.ref e))) (Γ'.set i (some (.frz, insX x))) := p2.trans (SPo.set (s := (.frz, insX x)) p2.er (EPo.refl p2.er) rp fun z => nomatch z)
      refine hs _ H1 R2 _ _ p3.er ?_
      cases h2 : s' (Γ'.set i (some (.frz, insX x))) with
      | st => rw [h2] at w; exact w.elim
      | ex _ _ => rw [h2] at w; exact w.elim
      | ok fl Γ2 =>
        rw [h2] at w
        cases fl with
        | nx =>
          intro σ4 H4 R4 p4
          exact w (σ4.set i none) H4 R4 ((p3.trans p4).trans (SPo.unset p4.er))
        | brk => exact w.elim
        | cont => exact w.elim
        | ret _ => exact w.elim
    · exact w.elim
theorem vs_try {i : Nat} {n : Str} {cs : List Value} {k1 p1 hpos} {b0 : Stmt} {suite : List Stmt} {mt : Cn → Bool} (hN : X.N.Nodup) (hi : X.N[i]? = some n) (hl : X.env.scope.names.lookup n = some .local) (hes : PN X es cs) (hcs : cs.length ≤ 1000) (hm : ∀ C, mt C = true → matchIn KC.K (KC.cls C) cs = some true)
    (hb : ∀ E' pn' EE', XOk (X.body E' pn') EE' → VSs (X.body E' pn') EE' ios sts s) (hs : ∀ a, VSs (X.hand (.ref a) fun _ _ => False) EN ios (b0 :: suite) s') (hst : X.stack = X.env :: X.outer ∧ X.env.frame = some X.env.locals := by exact ⟨rfl, rfl⟩) (hK : X.K = KC.K := by rfl) :
    VS X EE ios (.Try sts [.ExceptHandler (some (.Tuple es k1 p1)) (some n) (b0 :: suite) hpos] [] [] pos) (tryM mt i s s') :=
  ⟨_, ps_try hst hN hi hl hes hcs (fun E' pn' EE' ok => (hb E' pn' EE' ok).pss) (fun a => (hs a).pss), rd_try (by rw [hK]; exact hm) (fun EE' σ H R Γ D er w => ⟨R, Γ, er, w⟩) fun σ H R Γ D er w => ⟨R, Γ, er, w⟩⟩
/-! isinstance(x, C) -/
def sub (C T : Cn) : Bool := C == T || (T == .PointError && (match C with
  | .NoPoints | .NoBox | .NoAsks | .NoRun | .NoText | .NoTurn | .NoTree | .NoTop | .NotServed | .NoRow => true
  | _ => false))
def isiXO (L : List Cn) (T : Cn) : D → Option RV
  | .scr _ => none
  | .obj _ _ _ => none
  | .ins C _ _ => if L.contains C then some (.val (.bl (sub C T))) else none
  | _ => some (.val (.bl false))
def isiX (L : List Cn) (T : Cn) (f : M RV) : M RV := M.bind (argM f) fun x => M.bind (peek x) fun d => M.ofO (isiXO L T d)
def tyNs : List String := ["NoneType", "bool", "int", "str", "list", "tuple", "dict"]
/-- what is known of a class that is asked for -/
structure KitX (L : List Cn) (T : Cn) : Prop where
  own : ∀ C, L.contains C = true → PySem.W.kitOne KC.K (.ref (KC.cls C)) (.ref (KC.cls T)) = some (sub C T) ∧ XC KC.K (KC.cls C)
  no : ∀ t ∈ tyNs, PySem.W.kitOne KC.K (.type t) (.ref (KC.cls T)) = some false
theorem tyN_in {d : D} (h : plain d = true) : tyN d ∈ tyNs := by cases d <;> first | (cases h; done) | simp [tyN, tyNs]
theorem ve_isiX {L : List Cn} {T : Cn} {e0 : Expr} (kit : KitX L T) (hp : ∀ t, PE X a t → PE X e0 (tCB (fun xs H Q => ∃ x c t cv b, xs = [x, c] ∧ clsV c = some cv ∧ TyX X.K H x t ∧ PySem.W.kitOne X.K t cv = some b ∧ Q (.bl b) H) (tCons t (tCons (tC (.ref (KC.cls T))) tNil)))) (ha : VE X EE ios a f) (hK : X.K = KC.K := by rfl) : VE X EE ios e0 (isiX L T f) := by
  obtain ⟨t, h1, h2⟩ := ha
  refine ⟨_, hp t h1, fun σ H R Γ Q er w => ?_⟩
  unfold isiX at w
  rw [wpM_bind] at w
  refine rd_arg h2 er (wpM_mono w (fun rx Γ1 w x H1 R1 p1 hx => ?_) fun _ _ z => z)
  rw [wpM_bind] at w
  obtain ⟨d, pd, w⟩ := peek_ok (H := H) p1.er hx.rv w
  have hv := pd.hv p1.er.sub
  obtain ⟨rv, hg, w⟩ := wpM_ofO w
  by_cases pl : plain d = true
  · have hg : rv = .val (.bl false) := by cases d <;> first | (cases pl; done) | exact (Option.some.inj hg).symm
    subst hg
    exact ⟨x, .ref (KC.cls T), _, _, _, rfl, rfl, .inl (hv.ty pl), by rw [hK]; exact kit.no _ (tyN_in pl), w _ H1 R1 p1 (.bl _)⟩
  · cases d with
    | ins C ns vs =>
      unfold isiXO at hg
      dsimp only at hg
      split at hg
      · rename_i hc
        cases hg
        obtain ⟨k1, k2⟩ := kit.own C hc
        have ty : ∃ a, x = .ref a ∧ ExAt H1 a (KC.cls C) := by
          cases hv with
          | exc0 q => exact ⟨_, rfl, false, .inl q⟩
          | exc q q' _ => exact ⟨_, rfl, false, .inr ⟨_, _, q, q'⟩⟩
        obtain ⟨a', rfl, ea⟩ := ty
        exact ⟨.ref a', .ref (KC.cls T), .ref (KC.cls C), _, _, rfl, rfl, .inr ⟨a', KC.cls C, rfl, rfl, ea, by rw [hK]; exact k2⟩, by rw [hK]; exact k1, w _ H1 R1 p1 (.bl _)⟩
      · cases hg
    | scr _ => cases hg
    | obj _ _ _ => cases hg
    | _ => exact absurd rfl pl
end
end Dv
end

section
set_option Elab.async false
set_option linter.all false
set_option maxRecDepth 100000
set_option maxHeartbeats 5000000
namespace L2
open PySem PySem.Spec PyProof.Rows Ex
section
variable {X : Cx}
/-! range(..) as a thing, list(range(..)) -/
end
end L2
namespace Dv
open PySem L2 Ex
variable [KC]
section
variable {X : Cx} {EE : XKS} {ios : List Addr} {e a b c : Expr} {es : List Expr} {f g : M RV} {fs : M (List RV)} {p : M Bool} {pos p0 p1 p2 pos' : Pos}
/-! list(range(..)) -/
/-! slices of tuples -/
/-! t + u -/
/-! methods that only read -/
def MetRV (r : V → List V → Hp → VK → Prop) (g : List D → List D → Option D) : Prop := ∀ R H p xs ds ys es res (Q : VK), Same R H → H p = some (.lst xs) → Rps R xs ds → Rps R ys es → g ds es = some res → (∀ z, Rp R z res → Q z H) → r (.ref p) ys H Q
def recvR (i : Nat) : M Unit := fun Γ => match Γ[i]? with
  | some (some (_, .lst _)) => .ok () Γ
  | _ => .st
def metRGo (i : Nat) (g : List D → List D → Option D) (es : List D) : M RV := fun Γ => match Γ[i]? with
  | some (some (_, .lst ds)) => match g ds es with
    | some r => .ok (.val r) Γ
    | none => .st
  | _ => .st
def metR (i : Nat) (g : List D → List D → Option D) (fs : M (List RV)) : M RV := M.bind (recvR i) fun _ => M.bind fs fun rvs => M.bind (matAll rvs) fun es => metRGo i g es
theorem slot_lst {R H : Hp} {σ : St} {Γ : En} {i : Nat} {kd : Kd} {ds : List D} (er : ER ios R H σ Γ) (q : Γ[i]? = some (some (kd, .lst ds))) : ∃ a xs, σ[i]? = some (some (.ref a)) ∧ H a = some (.lst xs) ∧ Rps R xs ds := by
  obtain ⟨v, hv, s⟩ := er.sl i _ q
  obtain ⟨a, xs, rfl, h1, h2⟩ := s.pk.lst er.sub
  exact ⟨a, xs, hv, h1, h2⟩
theorem ve_metR {i : Nat} {r : V → List V → Hp → VK → Prop} {g : List D → List D → Option D} {e0 : Expr} (hp : ∀ t, PA X es t → PE X e0 (tBM X.K "list" r (tVar i) t)) (hv : MetRV r g) (ha : VA X EE ios es fs) : VE X EE ios e0 (metR i g fs) := by
  obtain ⟨t, h1, h2⟩ := ha
  refine ⟨_, hp t h1, fun σ H R Γ Q er w => ?_⟩
  unfold metR at w
  rw [wpM_bind] at w
  unfold recvR at w
  split at w
  · rename_i kd ds0 q0
    obtain ⟨a, xs0, hσ, ha0, _⟩ := slot_lst er q0
    refine ⟨_, hσ, tyV_lst ha0, ?_⟩
    have w := wpM_ko w
    rw [wpM_bind] at w
    refine h2 σ H R Γ _ er (wpM_mono w (fun rvs Γ1 w ys H1 R1 p1 hx => ?_) fun _ _ z => z)
    rw [wpM_bind] at w
    obtain ⟨es', Γ2, R2, p2, s2, r2, w⟩ := matAll_ok er p1 hx w
    unfold metRGo at w
    split at w
    · rename_i kd' ds q
      split at w
      · rename_i res hg
        obtain ⟨a', xs, hσ', h3, h4⟩ := slot_lst p2.er q
        rw [hσ] at hσ'
        cases hσ'
        exact hv R2 H1 a xs ds ys es' res Q p2.er.sub h3 h4 r2 hg fun z rz => w z H1 R2 p2 rz
      · exact False.elim w
    · exact False.elim w
  · exact False.elim w
def countO (ds es : List D) : Option D := match es with
  | [e] => if flatD e && ds.all flatD then some (.int (ds.countP fun z => eqF z e)) else none
  | _ => none
theorem flat_all {R : Hp} : ∀ {xs : List V} {ds : List D}, Rps R xs ds → xs.all flatV = ds.all flatD
  | _, _, .nil => rfl
  | _, _, .cons a b => by rw [List.all_cons, List.all_cons, a.flat, flat_all b]
theorem count_all {R : Hp} {y : V} {e : D} (r : Rp R y e) : ∀ {xs : List V} {ds : List D}, Rps R xs ds → (xs.countP fun z => eqV z y) = ds.countP fun z => eqF z e
  | _, _, .nil => rfl
  | _, _, .cons a b => by rw [List.countP_cons, List.countP_cons, count_all r b, a.eqf r]
theorem metv_count : MetRV rCount countO := by
  intro R H p xs ds ys es res Q s hp hx hy hg q
  unfold countO at hg
  split at hg
  · split at hg
    · rename_i c
      cases hg
      rw [Bool.and_eq_true] at c
      cases hy with
      | cons r hy =>
        cases hy
        refine ⟨p, xs, _, rfl, rfl, hp, by rw [r.flat]; exact c.1, by rw [flat_all hx]; exact c.2, ?_⟩
        rw [count_all r hx]
        exact q _ (.int _)
    · cases hg
  · cases hg
def indexO (ds es : List D) : Option D := match es with
  | [e] => if flatD e && ds.all flatD && decide (ds.length ≤ 1000) then (ds.findIdx? fun z => eqF z e).map fun j => .int j else none
  | _ => none
theorem metv_index : MetRV rIndex indexO := by
  intro R H p xs ds ys es res Q s hp hx hy hg q
  unfold indexO at hg
  split at hg
  · rename_i e
    split at hg
    · rename_i c
      simp only [Bool.and_eq_true, decide_eq_true_eq] at c
      cases h : ds.findIdx? fun z => eqF z e with
      | none => rw [h] at hg; cases hg
      | some j =>
        rw [h] at hg
        cases hg
        cases hy with
        | cons r hy =>
          cases hy
          obtain ⟨hj, h1, h2⟩ := List.findIdx?_eq_some_iff_getElem.mp h
          have lt : j < xs.length := by rw [hx.len]; exact hj
          have eqa : ∀ (m : Nat) (hm : m < xs.length) (hm' : m < ds.length), eqV xs[m] _ = eqF ds[m] e := fun m hm hm' => by
            obtain ⟨d, e1, e2⟩ := hx.at (List.getElem?_eq_getElem hm)
            rw [List.getElem?_eq_getElem hm'] at e1
            cases e1
            exact e2.eqf r
          refine ⟨p, xs, _, j, rfl, rfl, hp, by rw [r.flat]; exact c.1.1, by rw [flat_all hx]; exact c.1.2, ⟨xs[j], List.getElem?_eq_getElem lt, by rw [eqa j lt hj]; exact h1⟩, fun m w hm hw => ?_, by omega, q _ (.int _)⟩
          have lm : m < xs.length := by omega
          rw [List.getElem?_eq_getElem lm] at hw
          cases hw
          rw [eqa m lm (by omega)]
          simpa using h2 m hm
    · cases hg
  · cases hg
/-! a field of an exception -/
def fldX (L : List Cn) (y : Str) (f : M RV) : M RV := M.bind f fun x => M.bind (mat x) fun d => match d with
  | .ins C ns vs => if L.contains C then M.ofO (((ns.zip vs).lookup y).map .val) else M.st
  | _ => M.st
/-! is True, is False -/
end
end Dv
end

section
set_option Elab.async false
set_option linter.all false
set_option maxRecDepth 100000
set_option maxHeartbeats 5000000
/-! how what may raise runs: rows for simp -/
namespace Dv
open PySem L2 Ex
section
variable {Γ Γ' : En} {f g : M RV} {fs : M (List RV)} {p : M Bool} {s s' : M Fl} {d : D} {i : Nat} {x : Xc} {C T : Cn} {L : List Cn} {y : Str}
@[simp] theorem r_thr {α : Type} : (M.thr x : M α) Γ = .ex x Γ := (rfl)
@[simp] theorem r_callX {G : List D → Option Rx} : callX G fs Γ = M.bind fs (fun rvs => M.bind (peekAll rvs) fun ds => match G ds with
  | some (.ok r) => if rvs.any isVar && !immR r then M.bind (matAll rvs) fun ds' => match G ds' with
      | some (.ok r) => M.pure r.rv
      | _ => M.st
    else M.pure r.rv
  | some (.ex x) => M.bind (matAll rvs) fun ds' => match G ds' with
      | some (.ex x) => M.thr x
      | _ => M.st
  | none => M.st) Γ := (rfl)
@[simp] theorem r_raise0 : raise0M C fs Γ = M.bind fs (fun rvs => if rvs.length ≤ 1000 then M.thr ⟨C, []⟩ else M.st) Γ := (rfl)
@[simp] theorem r_raise {ns : List Str} : raiseM C ns fs Γ = M.bind fs (fun rvs => M.bind (matAll rvs) fun ds => if ds.length = ns.length ∧ ds.length ≤ 1000 then M.thr ⟨C, ns.zip ds⟩ else M.st) Γ := (rfl)
@[simp] theorem r_try {mt : Cn → Bool} : tryM mt i s s' Γ = match s Γ with
  | .ok fl Γ' => .ok fl Γ'
  | .ex x Γ' => if mt x.C then match s' (Γ'.set i (some (.frz, insX x))) with
      | .ok .nx Γ'' => .ok .nx (Γ''.set i none)
      | _ => .st
    else .st
  | .st => .st := (rfl)
@[simp] theorem r_isiX : isiX L T f Γ = M.bind (argM f) (fun x => M.bind (peek x) fun d => M.ofO (isiXO L T d)) Γ := (rfl)
@[simp] theorem r_fldX : fldX L y f Γ = M.bind f (fun x => M.bind (mat x) fun d => match d with
  | .ins C ns vs => if L.contains C then M.ofO (((ns.zip vs).lookup y).map .val) else M.st
  | _ => M.st) Γ := (rfl)
@[simp] theorem r_metR {m : List D → List D → Option D} : metR i m fs Γ = M.bind (recvR i) (fun _ => M.bind fs fun rvs => M.bind (matAll rvs) fun es => metRGo i m es) Γ := (rfl)
@[simp] theorem r_recvR : recvR i Γ = match Γ[i]? with
  | some (some (_, .lst _)) => .ok () Γ
  | _ => .st := (rfl)
@[simp] theorem r_metRGo {m : List D → List D → Option D} {es : List D} : metRGo i m es Γ = match Γ[i]? with
  | some (some (_, .lst ds)) => (match m ds es with
    | some r => .ok (.val r) Γ
    | none => .st)
  | _ => .st := (rfl)
@[simp] theorem f_ex : finX (.ex x Γ) = some (.ex x) := (rfl)
@[simp] theorem f_ok {fl : Fl} : finX (.ok fl Γ) = (finR (.ok fl Γ)).map .ok := (rfl)
end
end Dv
end

section
set_option Elab.async false
set_option linter.all false
set_option maxRecDepth 100000
set_option maxHeartbeats 5000000
namespace L2
open PySem PySem.Spec PyProof.Rows Ex
section
variable {X : Cx} {a b c : Expr} {ta tb tc : TE} {pos : Pos}
end
end L2
namespace Dv
open PySem L2 Ex
variable [KC]
section
variable {X : Cx} {EE : XKS} {ios : List Addr} {a b : Expr} {f g : M RV} {pos : Pos}
end
end Dv
end

section
set_option Elab.async false
set_option linter.all false
set_option maxRecDepth 100000
set_option maxHeartbeats 5000000
/-! repr of data with {} in tuples, and of a str -/
namespace L2
open PySem PySem.Spec PyProof.Rows Ex
section
variable {X : Cx}
end
end L2
namespace Dv
open PySem L2 Ex
variable [KC]
end Dv
end

section
set_option Elab.async false
set_option linter.all false
set_option maxRecDepth 100000
set_option maxHeartbeats 5000000
/-! a method of a list that was just made and that nobody keeps -/
namespace Dv
open PySem L2 Ex
variable [KC]
section
variable {X : Cx} {EE : XKS} {ios : List Addr} {a b : Expr} {es : List Expr} {f g : M RV} {fs : M (List RV)} {pos : Pos}
end
end Dv
end

section
set_option Elab.async false
set_option linter.all false
set_option maxRecDepth 100000
set_option maxHeartbeats 5000000
namespace St
open PySem
/-! the table of a set: its places rise -/
def Rise (xs : Array Nat) : Prop := xs.toList.Pairwise (· < ·)
theorem go_spec (xs : Array Nat) (j : Nat) (hr : Rise xs) : ∀ (fuel lo hi : Nat), hi - lo ≤ fuel → lo ≤ hi → hi ≤ xs.size → (∀ i, i < lo → xs.getD i j < j) → (∀ i, hi ≤ i → i < xs.size → j ≤ xs.getD i j) →
    let p := SetTable.below.go xs j fuel lo hi
    p ≤ xs.size ∧ (∀ i, i < p → xs.getD i j < j) ∧ ∀ i, p ≤ i → i < xs.size → j ≤ xs.getD i j := by
  have mono : ∀ a b, a ≤ b → b < xs.size → xs.getD a j ≤ xs.getD b j := fun a b h hb => by
    rcases Nat.lt_or_ge a b with h1 | h1
    · have := (List.pairwise_iff_getElem.mp hr) a b (by simpa using Nat.lt_trans h1 hb) (by simpa using hb) h1
      simp only [Array.getElem_toList] at this
      rw [Array.getD_eq_getD_getElem?, Array.getD_eq_getD_getElem?, Array.getElem?_eq_getElem hb, Array.getElem?_eq_getElem (Nat.lt_trans h1 hb)]
      exact Nat.le_of_lt this
    · have : a = b := by omega
      subst this; exact Nat.le_refl _
  intro fuel
  induction fuel with
  | zero =>
    intro lo hi h1 h2 h3 h4 h5
    have : lo = hi := by omega
    subst this
    exact ⟨h3, h4, h5⟩
  | succ f ih =>
    intro lo hi h1 h2 h3 h4 h5
    dsimp only
    unfold SetTable.below.go
    by_cases c : lo < hi
    · rw [if_pos c]
      dsimp only
      by_cases c2 : xs.getD ((lo + hi) / 2) j < j
      · rw [if_pos c2]
        exact ih _ _ (by omega) (by omega) h3 (fun i hi' => Nat.lt_of_le_of_lt (mono i _ (by omega) (by omega)) c2) h5
      · rw [if_neg c2]
        exact ih _ _ (by omega) (by omega) (by omega) h4 (fun i hi' hs => Nat.le_trans (Nat.le_of_not_lt c2) (mono _ i hi' hs))
    · rw [if_neg c]
      have : lo = hi := by omega
      subst this
      exact ⟨h3, h4, h5⟩
theorem below_spec {xs : Array Nat} (hr : Rise xs) (j : Nat) : SetTable.below xs j ≤ xs.size ∧ (∀ i, i < SetTable.below xs j → xs.getD i j < j) ∧ ∀ i, SetTable.below xs j ≤ i → i < xs.size → j ≤ xs.getD i j :=
  go_spec xs j hr xs.size 0 xs.size (by omega) (Nat.zero_le _) (Nat.le_refl _) (fun i h => absurd h (Nat.not_lt_zero _)) (fun i h1 h2 => absurd h2 (Nat.not_lt_of_le h1))
theorem getD_of {xs : Array Nat} {i j : Nat} (h : i < xs.size) : xs.getD i j = xs[i] := by
  rw [Array.getD_eq_getD_getElem?, Array.getElem?_eq_getElem h]; rfl
/-- a place that is not taken, laid in: the places rise still -/
theorem rise_insert {xs : Array Nat} (hr : Rise xs) {j : Nat} (hj : xs[SetTable.below xs j]? ≠ some j) : Rise (SetTable.insertAt xs (SetTable.below xs j) j) := by
  obtain ⟨h1, h2, h3⟩ := below_spec hr j
  have hr' := hr
  unfold Rise at hr ⊢
  rw [SetTable.toList_insertAt]
  have hs : (xs.toList.take (SetTable.below xs j) ++ xs.toList.drop (SetTable.below xs j)).Pairwise (· < ·) := by rw [List.take_append_drop]; exact hr
  rw [List.pairwise_append] at hs ⊢
  have lo : ∀ a ∈ xs.toList.take (SetTable.below xs j), a < j := fun a ha => by
    obtain ⟨i, hi, rfl⟩ := List.mem_iff_getElem.mp ha
    have hi' : i < SetTable.below xs j ∧ i < xs.size := by simp at hi; omega
    have := h2 i hi'.1
    rw [getD_of hi'.2] at this
    simpa using this
  have hi : ∀ a ∈ xs.toList.drop (SetTable.below xs j), j < a := fun a ha => by
    obtain ⟨i, hi, rfl⟩ := List.mem_iff_getElem.mp ha
    have hi' : SetTable.below xs j + i < xs.size := by simp at hi; omega
    have hb : SetTable.below xs j < xs.size := by omega
    have l1 := h3 (SetTable.below xs j) (Nat.le_refl _) hb
    rw [getD_of hb] at l1
    have l2 : xs[SetTable.below xs j] ≠ j := fun e => hj (by rw [Array.getElem?_eq_getElem hb, e])
    have l3 := h3 (SetTable.below xs j + i) (Nat.le_add_right _ _) hi'
    rw [getD_of hi'] at l3
    simp only [List.getElem_drop, Array.getElem_toList]
    rcases Nat.eq_zero_or_pos i with z | z
    · subst z
      exact Nat.lt_of_le_of_ne l1 (Ne.symm l2)
    · have := (List.pairwise_iff_getElem.mp hr) (SetTable.below xs j) (SetTable.below xs j + i) (by simpa using hb) (by simpa using hi') (by omega)
      simp only [Array.getElem_toList] at this
      omega
  refine ⟨hs.1, List.pairwise_cons.mpr ⟨hi, hs.2.1⟩, fun a ha b hb => ?_⟩
  rcases List.mem_cons.1 hb with rfl | hb
  · exact lo a ha
  · exact Nat.lt_trans (lo a ha) (hi b hb)
theorem rise_range (n : Nat) : Rise (Array.range n) := by
  unfold Rise
  simp only [Array.toList_range]
  exact List.pairwise_lt_range
theorem no_has (j : Nat) : SetTable.has #[] j = false := by
  unfold SetTable.has
  simp
theorem slot_none {t : SetTable} (hd : t.dummies = #[]) {j : Nat} (h : t.slot j = .empty) : t.place[SetTable.below t.place j]? ≠ some j := by
  unfold SetTable.slot at h
  dsimp only at h
  intro e
  rw [e] at h
  simp at h
theorem slot_not_dummy {t : SetTable} (hd : t.dummies = #[]) (j : Nat) : t.slot j ≠ .dummy := by
  unfold SetTable.slot
  dsimp only
  rw [hd, no_has]
  split
  · intro h; cases h
  · intro h; cases h
theorem probe_go {t : SetTable} (hd : t.dummies = #[]) (f : Nat → Int) (h : Int) : ∀ (n : Nat) (p : SetTable.Probe) (j : Nat) (d : Option Nat), p.dummy = none → SetTable.probe.go t f h n p = some (.empty j d) → d = none ∧ t.slot j = .empty := by
  intro n
  induction n with
  | zero => intro p j d _ e; cases e
  | succ n ih =>
    intro p j d hp e
    unfold SetTable.probe.go at e
    split at e
    · rename_i q
      cases e
      exact ⟨hp, q⟩
    · rename_i q
      exact absurd q (slot_not_dummy hd _)
    · rename_i i q
      split at e
      · cases e
      · refine ih _ j d ?_ e
        unfold SetTable.advance
        split
        · exact hp
        · exact hp
/-- what is kept of a table -/
structure Hon (t : SetTable) (B : Bool) : Prop where
  rise : Rise t.place
  dum : t.dummies = #[]
  led : t.led = !B
theorem Hon.standIn {t : SetTable} {B : Bool} (h : Hon t B) (n : Nat) : Hon (t.standIn n) B := ⟨rise_range n, rfl, h.led⟩
theorem Hon.orStandIn {t : SetTable} {B : Bool} (h : Hon t B) (n : Nat) : Hon (t.orStandIn n) B := by
  unfold SetTable.orStandIn
  split
  · exact h
  · exact h.standIn n
theorem Hon.plain {t : SetTable} {B : Bool} (h : Hon t B) (p : Bool) : Hon { t with plain := p } B := ⟨h.rise, h.dum, h.led⟩
theorem Hon.layNew {t : SetTable} {B : Bool} (h : Hon t B) (es : Array (Int × Value)) (k : Int) (x : Value) : Hon (layNew t es k x).2.1 B := by
  unfold PySem.layNew
  cases q : t.freeSlot k with
  | none => exact h.standIn _
  | some r =>
    obtain ⟨slot, wd⟩ := r
    dsimp only
    refine Hon.orStandIn ?_ _
    have hs : t.slot slot = .empty := by
      unfold SetTable.freeSlot SetTable.probe at q
      split at q
      · rename_i j d e
        obtain ⟨rfl, hs⟩ := probe_go h.dum _ _ _ _ _ _ rfl e
        cases q
        exact hs
      · cases q
    unfold SetTable.put
    dsimp only
    exact ⟨rise_insert h.rise (slot_none h.dum hs), by rw [h.dum, no_has]; rfl, h.led⟩
theorem rise_live (owner : Array (Option Nat)) (n : Nat) : ((((List.range n).filterMap fun j => (owner.getD j none).map (j, ·)).map (·.1)).toArray).toList.Pairwise (· < ·) := by
  have e : (((List.range n).filterMap fun j => (owner.getD j none).map (j, ·)).map (·.1)) = (List.range n).filter fun j => (owner.getD j none).isSome := by
    induction List.range n with
    | nil => rfl
    | cons a r ih =>
      rw [List.filterMap_cons, List.filter_cons]
      cases q : owner.getD a none with
      | none => simpa [q] using ih
      | some b => simpa [q] using ih
  rw [e]
  exact List.Pairwise.sublist List.filter_sublist List.pairwise_lt_range
theorem Hon.relayAll {t : SetTable} {B : Bool} (h : Hon t B) (es : Array (Int × Value)) (n : Nat) : Hon (relayAll t es n).2.1 B := by
  unfold PySem.relayAll
  split
  · rename_i t' order q
    dsimp only
    split
    · unfold SetTable.relaid SetTable.laid at q
      cases r : SetTable.layClean (SetTable.sizeAbove n - 1) (es.map (·.1)) with
      | none => rw [r] at q; cases q
      | some owner =>
        rw [r] at q
        cases q
        exact ⟨rise_live owner _, rfl, h.led⟩
    · exact h.standIn _
  · exact h.standIn _
theorem Hon.fresh (B : Bool) : Hon (.fresh 0 0 (!B)) B := ⟨List.Pairwise.nil, rfl, rfl⟩
end St
end

section
set_option Elab.async false
set_option linter.all false
set_option maxRecDepth 100000
set_option maxHeartbeats 5000000
namespace St
open PySem PyProof.Rows
/-! a set of ints, with its table -/
def kof (e : Int × Value) : Int := match e.2 with
  | .int k _ => k
  | _ => 0
def Good (e : Int × Value) : Prop := ∃ k t, e = (hashInt k, .int k t)
def setO (es : Array (Int × Value)) (ep : Nat) (t : SetTable) : Obj := { cls := .type "set", dict := none, data := .set es ep t, slots := #[] }
def SetH (B : Bool) (h : Heap) (a : Addr) (l : List Int) : Prop := ∃ es ep t, h.get? a = some (setO es ep t) ∧ (∀ e ∈ es.toList, Good e) ∧ (es.toList.map kof).Perm l ∧ Hon t B ∧ t.fits es.size = true
theorem SetH.at {B : Bool} {h h' : Heap} {a : Addr} {l : List Int} (x : SetH B h a l) (k : ∀ o, h.get? a = some o → h'.get? a = some o) : SetH B h' a l := by
  obtain ⟨es, ep, t, e, r⟩ := x
  exact ⟨es, ep, t, k _ e, r⟩
section
variable {prog : Program} {w : World} {A : Around} {E : Value → Shared → Prop} {s : Shared}
theorem good_elems {l : List (Int × Value)} (h : ∀ e ∈ l, Good e) : ElemsOf (intKind prog w) l := fun e he => by
  obtain ⟨k, t, rfl⟩ := h e he
  exact ⟨⟨k, intKind_is _ _ _ _, rfl⟩, rfl⟩
theorem good_is {e : Int × Value} (h : Good e) (k : Int) : (intKind prog w).is k e.2 = decide (kof e = k) := by
  obtain ⟨k', t, rfl⟩ := h
  rw [KeyKind.is_eq_decide (intKind_is prog w k' t) k]
  exact decide_eq_decide.mpr ⟨Eq.symm, Eq.symm⟩
theorem put_get {h : Heap} {a : Addr} {es es' : Array (Int × Value)} {ep : Nat} {t t' : SetTable} (e : h.get? a = some (setO es ep t)) : (h.update a (Obj.putSet es' t')).get? a = some (setO es' (ep + 1) t') :=
  Heap.get?_update_self (Obj.putSet es' t') e rfl
/-- one int is added -/
theorem add_int {B : Bool} {a : Addr} {l : List Int} {k : Int} {tk : Tok} {Q : Bool → Shared → Prop} (hS : SetH B s.heap a l) (hn : l.length + 1 < scanBound)
    (h : ∀ (b : Bool) h', Heap.SameBut a s.heap h' → SetH B h' a (step_dedup l k) → Q b { s with heap := h' }) : wpAny (model prog w) A (setAddHashed a (.int k tk) (hashInt k)) Q E s := by
  obtain ⟨es, ep, t, ho, hg, hp, hh, hf⟩ := hS
  have hel : ElemsOf (intKind prog w) es.toList := good_elems hg
  have hsz : es.size = l.length := by rw [← Array.length_toList, ← hp.length_eq, List.length_map]
  have hb : es.size < scanBound := by omega
  unfold  setAddHashed setAddHashedIn
  refine  wpAny_holding (wpAny_bind ?_)
  refine wpAny_setState_of ho rfl hf ?_
  dsimp only
  rw [byScan_of (knd := intKind prog w) (x := .int k tk) rfl hb hel, if_pos rfl]
  refine wpAny_bind ?_
  unfold setAddByScan
  refine wpAny_bind (wpAny_rule (wpAny_bind ?_))
  refine wpAny_setScan_of (knd := intKind prog w) (k := k) (intKind_is _ _ _ _) ho rfl hf hel ?_
  have hany : l.any (· == k) = true ↔ ∃ e ∈ es.toList, kof e = k := by
    rw [List.any_eq_true]
    constructor
    · rintro ⟨y, hy, e⟩
      rw [← hp.mem_iff, List.mem_map] at hy
      obtain ⟨e', he, rfl⟩ := hy
      exact ⟨e', he, by simpa using e⟩
    · rintro ⟨e, he, hk⟩
      exact ⟨k, hp.mem_iff.mp (List.mem_map.mpr ⟨e, he, hk⟩), by simp⟩
  cases hr : List.findIdx? (fun e => (intKind prog w).is k e.2) es.toList with
  | some j =>
    dsimp only
    obtain ⟨hj, hpj, _⟩ := List.findIdx?_eq_some_iff_getElem.1 hr
    rw [good_is (hg _ (List.getElem_mem hj))] at hpj
    have hin : l.any (· == k) = true := hany.mpr ⟨_, List.getElem_mem hj, of_decide_eq_true hpj⟩
    refine  wpAny_pure (wpAny_pure ?_)
    have := h false s.heap (Heap.SameBut.refl a s.heap) ⟨es, ep, t, ho, hg, by unfold step_dedup; rw [if_pos hin]; exact hp, hh, hf⟩
    exact this
  | none =>
    dsimp only
    have hnot : ¬ l.any (· == k) = true := fun z => by
      obtain ⟨e, he, hk⟩ := hany.mp z
      have := List.findIdx?_eq_none_iff.1 hr e he
      rw [good_is (hg e he), decide_eq_true hk] at this
      cases this
    have hperm := layNew_perm t es (hashInt k) (.int k tk)
    have hfits := layNew_fits t es (hashInt k) (.int k tk)
    have hhon := hh.layNew es (hashInt k) (.int k tk)
    generalize hL : layNew t es (hashInt k) (.int k tk) = L at hperm hfits hhon ⊢
    obtain ⟨es1, t1, wd, gv⟩ := L
    dsimp only at hperm hfits hhon ⊢
    rw  [Array.toList_push] at hperm
    have hg1 : ∀ e ∈ es1.toList, Good e := fun e he => by
      rcases List.mem_append.mp (hperm.mem_iff.mp he) with q | q
      · exact hg e q
      · rw [List.mem_singleton] at q
        exact ⟨k, tk, q⟩
    have hp1 : (es1.toList.map kof).Perm (step_dedup l k) := by
      unfold step_dedup
      rw [if_neg hnot]
      refine (hperm.map kof).trans ?_
      rw [List.map_append]
      exact hp.append (List.Perm.refl _)
    have hsz1 : es1.size = es.size + 1 := by rw [← Array.length_toList, hperm.length_eq, List.length_append, Array.length_toList]; rfl
    have g1 : ∀ t2, (s.heap.update a (Obj.putSet es1 t2)).get? a = some (setO es1 (ep + 1) t2) := fun t2 => put_get ho
    have sb1 : ∀ t2, Heap.SameBut a s.heap (s.heap.update a (Obj.putSet es1 t2)) := fun t2 => Heap.SameBut.update s.heap a _
    have gw : ∀ {m : Sem Unit} {s₁ : Shared} {Q' : Unit → Shared → Prop}, (m = rule "set.scan.the-table-gave-way" ∨ m = pure ()) → Q' () s₁ → wpAny (model prog w) A m Q' E s₁ := fun {m s₁ Q'} hm hq => by
      rcases hm with rfl | rfl
      · exact wpAny_rule hq
      · exact wpAny_pure hq
    refine wpAny_bind (gw (by cases gv; exact .inr rfl; exact .inl rfl) ?_)
    have hv : hashByValue 8 (.int k tk) = pure true := hashByValue_scannable 8 (x := .int k tk) rfl
    rw [hv, ite_self]
    refine wpAny_bind (wpAny_pure ?_)
    rw [if_pos rfl]
    refine wpAny_bind (wpAny_storeSet_of ho rfl ?_ (fits_of_scanBound (by omega)))
    split
    · have p2 := relayAll_perm t1 es1 (SetTable.grown es1.size)
      have fr := relayAll_fits t1 es1 (SetTable.grown es1.size)
      have hr2 := hhon.relayAll es1 (SetTable.grown es1.size)
      generalize relayAll t1 es1 (SetTable.grown es1.size) = Rl at p2 fr hr2 ⊢
      rcases Rl with ⟨es2, t3, g2⟩
      dsimp only at p2 fr hr2 ⊢
      refine wpAny_bind (gw (by cases g2; exact .inr rfl; exact .inl rfl) ?_)
      have z2 : es2.size = es1.size := by rw [← Array.length_toList, p2.length_eq, Array.length_toList]
      refine wpAny_bind (wpAny_storeSet_of (g1 t1) rfl ?_ (fits_of_scanBound (by omega)))
      exact wpAny_pure (wpAny_pure (h true _ ((sb1 t1).trans (Heap.SameBut.update _ a _)) ⟨es2, _, t3, put_get (g1 t1), fun e he => hg1 e (p2.mem_iff.mp he), (p2.map kof).trans hp1, hr2, fr⟩))
    · exact wpAny_pure (wpAny_pure (h true _ (sb1 t1) ⟨es1, _, t1, g1 t1, hg1, hp1, hhon, hfits⟩))
end
end St
end

section
set_option Elab.async false
set_option linter.all false
set_option maxRecDepth 100000
set_option maxHeartbeats 5000000
namespace St
open PySem PyProof.Rows PySem.Spec
section
variable {prog : Program} {w : World} {A : Around} {E : Value → Shared → Prop} {s : Shared}
theorem dd_len : ∀ (l σ : List Int), (l.foldl step_dedup σ).length ≤ σ.length + l.length := length_foldl_step_dedup_le
theorem dd_snoc (l : List Int) (k : Int) : (l ++ [k]).foldl step_dedup [] = step_dedup (l.foldl step_dedup []) k := by rw [List.foldl_append]; rfl
/-- the ints that an iterator gives, added one by one -/
theorem loop_ints {R : Result → Shared → Prop} {I S : Addr} {fp wr : List Addr} {n : Nat} {P : Nat → Value → Prop} {Wt : Nat → Heap → Prop} (W : Walks prog w A.in1 I fp wr n P Wt) (hSf : S ∉ fp) {B : Bool} (ns : List Int) (hl : ns.length = n)
    (hv : ∀ i v, P i v → ∃ t, v = .int (ns.getD i 0) t) (hn : n + 1 < scanBound) : ∀ (k i : Nat) (s : Shared), n - i = k → i ≤ n → Wt i s.heap → SetH B s.heap S ((ns.take i).foldl step_dedup []) →
      (∀ h' tk, (∀ b o, b ∉ S :: wr → s.heap.get? b = some o → h'.get? b = some o) → SetH B h' S (ns.foldl step_dedup []) → R (.ok (.ret .none)) { s with heap := h', toks := tk }) →
      codeAny  (model prog w) A (.builtin "set.update.loop" ⟨[.ref S, .ref I], []⟩) R s := by
  have hSw : S ∉ wr := fun z => hSf (W.sub _ z)
  intro k
  induction k with
  | zero =>
    intro i s hk hi st hS hR
    obtain rfl : i = n := by omega
    refine codeAny_builtin PyProof.Rows.F.entry_set_update_loop ?_
    rw [Around.under_plainId PyProof.Rows.F.plain_set_update_loop _]
    show wpAny _ _ (pyNext (.ref I) >>= _) _ _ _
    refine wpAny_bind (W.done s _ _ st fun h' tk hk => ?_)
    show  wpAny _ _ (ret Value.none) _ _ _
    rw [List.take_of_length_le (Nat.le_of_eq hl)] at hS
    exact wpAny_pure (hR h' tk (fun b o hb e => hk b o (fun z => hb (.tail _ z)) e) (hS.at fun o e => hk _ _ hSw e))
  | succ k ih =>
    intro i s hk hi st hS hR
    have lt : i < n := by omega
    refine codeAny_builtin PyProof.Rows.F.entry_set_update_loop ?_
    rw [Around.under_plainId PyProof.Rows.F.plain_set_update_loop _]
    show wpAny _ _ (pyNext (.ref I) >>= _) _ _ _
    refine wpAny_bind (W.item i s _ _ lt st fun v h1 tk1 hP st1 hk1 => ?_)
    obtain ⟨t, rfl⟩ := hv i v hP
    have hS1 : SetH B h1 S ((ns.take i).foldl step_dedup []) := hS.at fun o e => hk1 _ _ hSw e
    show wpAny _ _ (holding [Value.int (ns.getD i 0) t] (setAdd S (.int (ns.getD i 0) t)) >>= _) _ _ _
    refine  wpAny_bind (wpAny_holding ?_)
    unfold setAdd
    refine  wpAny_holding (wpAny_bind ?_)
    refine (intKind prog w).pyHash (k := ns.getD i 0) (intKind_is _ _ _ _) ?_
    have room : ((ns.take i).foldl step_dedup []).length + 1 < scanBound := by
      have := dd_len (ns.take i) []
      rw [List.length_take] at this
      simp only [List.length_nil] at this
      omega
    refine add_int (s := { s with heap := h1, toks := tk1 + 1 }) hS1 room fun b h2 sb S2 => ?_
    have e1 : ns.take (i + 1) = ns.take i ++ [ns.getD i 0] := by
      rw [List.take_succ_eq_append_getElem (by omega), List.getD_eq_getElem?_getD, List.getElem?_eq_getElem (by omega)]; rfl
    refine wpAny_pure ⟨plainId_quiet PyProof.Rows.F.plain_set_update_loop _, ih (i + 1) _ (by omega) lt (W.frame _ _ _ st1 fun b hb o e => ?_) (by rw [e1, dd_snoc]; exact S2) fun h3 tk3 hk3 S3 => ?_⟩
    · rw [sb.2 b fun z => hSf (by rw [← z]; exact hb)]; exact e
    · refine hR h3 tk3 (fun b o hb e => hk3 b o hb ?_) S3
      rw [sb.2 b fun z => hb (by rw [z]; exact List.mem_cons_self)]
      exact hk1 b o (fun z => hb (.tail _ z)) e
theorem set_new (a : Value) {Q₁ : Value → Shared → Prop} (h : Q₁ (.ref s.heap.objs.size) { s with heap := s.heap.push (setO #[] 0 (.fresh 0 0 (!(w.params.followText "set-order")))) }) :
    codeAny  (model prog w) A (.call (.builtin "set.__new__") ⟨[.type "set", a], []⟩) (wants Q₁ E) s := by
  have self := sub_set_self
  refine codeAny_call_builtin F.plain_set_new F.entry_set_new (by
    rw [F.newCall_set_1 a]
    refine wpAny_pure ?_
    unfold Builtin.«set.__new__»
    unfold Builtin.Frozenset.newClass
    cases s
    dsimp only
    wp_walk
    refine wpAny_askSetting ?_
    refine wpAny_pure ?_
    refine wpAny_bind ?_
    exact wpAny_alloc (wpAny_pure (wpAny_pure h)))
theorem want_ret {Q₁ : Value → Shared → Prop} {R : Result → Shared → Prop} (h : ∀ v s, Q₁ v s → R (.ok (.ret v)) s) (he : ∀ e s, E e s → R (.error e) s) : ∀ r s, wants Q₁ E r s → R r s := by
  intro r s hr
  cases r with
  | error e => exact he e s hr
  | ok f => cases f <;> first | exact h _ _ hr | exact hr.elim
/-- the call of set with one thing: what __init__ does with the new set -/
theorem set_call {l : Addr} {Q : Value → Shared → Prop} {O : Obj} (hO : setO #[] 0 (.fresh 0 0 (!(w.params.followText "set-order"))) = O)
    (h : wpAny (model prog w) A.in1.in1 (Builtin.«set.__init__» ⟨[.ref s.heap.objs.size, .ref l], []⟩) (fun fin s' => match fin with
        | .done f => wants (fun r s2 => r = .none ∧ Q (.ref s.heap.objs.size) s2) E (.ok f) s'
        | .again c' => c'.quiet = true ∧ codeAny (model prog w) A.in1 c' (wants (fun r s2 => r = .none ∧ Q (.ref s.heap.objs.size) s2) E) s')
      (fun e s' => wants (fun r s2 => r = .none ∧ Q (.ref s.heap.objs.size) s2) E (.error e) s') { s with heap := s.heap.push O }) : wpAny (model prog w) A (call (.type "set") [.ref l]) Q E s := by
  obtain ⟨f1, f2, ⟨c, tl, f3⟩, f4, f5, f6, f7⟩ := F.called_set
  have f8 := F.typeCall_set_1 (.ref l)
  have f9 := f7.lookup
  have fa := f7.bind (.ref s.heap.objs.size)
  have made := set_new (prog := prog) (w := w) (A := A.in1) (E := E) (s := s) (.ref l) (Q₁ := fun v s1 => v = .ref s.heap.objs.size ∧ s1 = { s with heap := s.heap.push O }) ⟨rfl, by rw [hO]⟩
  have hT : Shared.TypeIs { s with heap := s.heap.push O } (.ref s.heap.objs.size) "set" := ⟨O, Heap.get?_push_size _ (by rw [← hO]; rfl), by rw [← hO]; rfl⟩
  have ini := codeAny_call_builtin f7.plain F.entry_set_init (check_set_init_1 (M := model prog w) hT h)
  refine wpAny_call (codeAny_of_tree (show wpAny _ _ (callAny (.type "set") _) _ _ _ from wpAny_pure ⟨Code.quiet_builtin _ (by decide +kernel), codeAny_builtin F.entry_type_call (by
    rw [Around.under_plain (weight_type_call_type "set" _ []) rfl]
    repeat (any_goals (first | wp_step | assumption))
    refine codeAny_mono made (want_ret ?_ fun _ _ z => z)
    rintro v s1 ⟨rfl, rfl⟩
    repeat (any_goals (first | wp_step | assumption))
    refine codeAny_mono ini (want_ret ?_ fun _ _ z => z)
    rintro v s2 ⟨rfl, q⟩
    repeat (any_goals (first | wp_step | assumption)))⟩))
/-- set(xs) of a list of ints -/
theorem set_list {l : Addr} {items : Array Value} {ns : List Int} {Q : Value → Shared → Prop} (hh : A.handled = none) (hl : s.heap.IsList l items) (hi : IntsAre items.toList ns) (hn : items.size + 1 < scanBound)
    (h : ∀ (h' : Heap) (tk : Nat), SetH (w.params.followText "set-order") h' s.heap.objs.size (ns.foldl step_dedup []) → (∀ b o, s.heap.get? b = some o → h'.get? b = some o) → Q (.ref s.heap.objs.size) { s with heap := h', toks := tk }) :
    wpAny  (model prog w) A (call (.type "set") [.ref l]) Q E s := by
  have len : ns.length = items.size := by have := IntsAre.length hi; simpa using this.symm
  refine set_call rfl ?_
  generalize w.params.followText "set-order" = B at h ⊢
  obtain ⟨⟨cl, di, da, sl⟩, g, rfl, n, rfl⟩ := hl
  have new : (s.heap.push (setO #[] 0 (.fresh 0 0 (!B)))).get? s.heap.objs.size = some (setO #[] 0 (.fresh 0 0 (!B))) := Heap.get?_push_size _ rfl
  generalize hH : s.heap.push (setO #[] 0 (.fresh 0 0 (!B))) = H at new ⊢
  have up : ∀ b o, s.heap.get? b = some o → H.get? b = some o := fun b o e => by rw [← hH]; exact Heap.get?_push_of_some _ e
  have sz : H.objs.size = s.heap.objs.size + 1 := by rw [← hH]; exact Heap.size_push ..
  have gl := up _ _ g
  have lt : l < s.heap.objs.size := Heap.lt_size g
  have il : H.IsList l items := ⟨_, gl, rfl, n, rfl⟩
  have no := F.sub_list_set
  have no2 := F.sub_list_frozenset
  have no3 : (Value.type "list" == Value.type "dict") = false := by decide
  unfold setO at new
  unfold Builtin.«set.__init__» noKeywords
  unfold Builtin.Frozenset.updateFrom
  generalize hPI : pyIter = PI
  wp_walk
  rw [← hPI]
  refine PySem.wpAny_pyIter_list (s := { s with heap := H }) il ?_
  refine wpAny_bind ?_
  refine wpAny_runValue (loop_ints (Walks.list (by simp [hh]) H.objs.size l (Nat.ne_of_lt (by rw [sz]; exact Nat.lt_succ_of_lt lt)) items) (S := s.heap.objs.size) (B := B) (fun z => ?_) ns len (fun i v hv => IntsAre.int_at hi i v (by rw [Array.getElem?_toList]; exact hv)) hn (items.size - 0) 0 _ rfl (Nat.zero_le _)
    ⟨⟨_, Heap.get?_push_size _ rfl, rfl, rfl⟩, il.push _⟩ ⟨#[], 0, _, Heap.get?_push_of_some _ new, (fun e he => by simp at he), .nil, Hon.fresh B, rfl⟩ fun h' tk hk S' => ?_)
  · rcases List.mem_cons.mp z with z | z
    · rw [sz] at z
      exact absurd z (Nat.ne_of_lt (Nat.lt_succ_self _))
    · exact absurd (List.mem_singleton.mp z) (Nat.ne_of_gt lt)
  · show wpAny _ _ _ _ _ _
    refine wpAny_pure (show wpAny _ _ (ret Value.none) _ _ _ from wpAny_pure ⟨rfl, h h' tk S' fun b o e => hk b o (fun z => ?_) (Heap.get?_push_of_some _ (up b o e))⟩)
    have bl := Heap.lt_size e
    rcases List.mem_cons.mp z with z | z
    · exact absurd z (Nat.ne_of_lt bl)
    · rw [List.mem_singleton, sz] at z
      exact absurd z (Nat.ne_of_lt (Nat.lt_succ_of_lt bl))
end
end St
end

section
set_option Elab.async false
set_option linter.all false
set_option maxRecDepth 100000
set_option maxHeartbeats 5000000
namespace St
open PySem PyProof.Rows PySem.Spec
theorem sl_next : Slot "set_iterator" "__next__" "set_iterator.__next__" :=
  .of (owner := "set_iterator") (n := "__next__") (by rw [typeLookup_type, builtinLookup_eq_fast]; kernel_rfl) (by decide +kernel) (by decide +kernel) (by decide +kernel) (by first | exact .inl (by decide +kernel) | exact .inr (by decide +kernel)) (by rw [isSubtype_type]; kernel_rfl)
theorem sl_iter : Slot "set_iterator" "__iter__" "set_iterator.__iter__" :=
  .of (owner := "set_iterator") (n := "__iter__") (by rw [typeLookup_type, builtinLookup_eq_fast]; kernel_rfl) (by decide +kernel) (by decide +kernel) (by decide +kernel) (by first | exact .inl (by decide +kernel) | exact .inr (by decide +kernel)) (by rw [isSubtype_type]; kernel_rfl)
theorem en_next : entryFor table "set_iterator.__next__" = some Builtin.«set_iterator.__next__» := entryFor_of_tree (by kernel_rfl)
theorem en_iter : entryFor table "set_iterator.__iter__" = some Builtin.«dict_keyiterator.__iter__» := entryFor_alias (id' := "dict_keyiterator.__iter__") (by kernel_rfl) rfl (by decide +kernel) (by kernel_rfl)
theorem en_siter : entryFor table "set.__iter__" = some Builtin.«frozenset.__iter__» := entryFor_alias (id' := "frozenset.__iter__") (by kernel_rfl) rfl (by decide +kernel) (by kernel_rfl)
theorem ar_next (a : Value) : argsOk "set_iterator.__next__" ⟨[a], []⟩ := by unfold argsOk; kernel_rfl
theorem ar_iter (a : Value) : argsOk "set_iterator.__iter__" ⟨[a], []⟩ := by unfold argsOk; kernel_rfl
def itO (f : Value) (i : Nat) (a : Addr) (n ep : Nat) : Obj := { cls := .type "set_iterator", dict := none, data := .fields #[f, .int i 0, .ref a, .int n 0, .int ep 0], slots := #[] }
section
variable {prog : Program} {w : World} {A : Around} {E : Value → Shared → Prop} {s : Shared} {I a : Addr} {es : Array (Int × Value)} {ep i n : Nat} {t : SetTable} {f : Value} {Q : Option Value → Shared → Prop}
/-- StopIteration is raised, and the walk is at its end -/
theorem stops {s : Shared} {I : Addr} {P : Fin → Shared → Prop} (hh : A.handled = none) (hQ : ∀ h', (∀ b o, b ≠ I → s.heap.get? b = some o → h'.get? b = some o) → Q none { s with heap := h' }) :
    wpAny (model prog w) A.in1 (do raiseNew (← newExc (.type "StopIteration") []) : Sem Fin) P (fun e s1 => wpAny (model prog w) A (do if ← isInstance e (.type "StopIteration") then pure none else throw e) Q E s1) s := by
  refine wpAny_bind ?_
  unfold newExc newTuple
  refine wpAny_bind (wpAny_newObj_type (wpAny_bind (m := firstArgMember _ _) (wpAny_of_eq (a := Value.none) (by simp only [firstArgMember]; rfl) (wpAny_newObj_type ?_ (by size_fits)))) (by size_fits))
  exact wpAny_raiseNew_none hh (wpAny_bind (wpAny_isInstance (T := "StopIteration") ⟨_, Heap.get?_push_size _ rfl, rfl⟩ isSubtype_stop (wpAny_pure (hQ _ fun b o _ e => Heap.get?_push_of_some _ (Heap.get?_push_of_some _ e)))))
theorem item_int {slot nxt : Nat} {x : Value} (hI : s.heap.get? I = some (itO (.int slot 0) i a es.size ep)) (ha : s.heap.get? a = some (setO es ep t)) (hf : t.fits es.size = true)
    (hN : ∀ {Q' : Option (Value × Nat) → Shared → Prop} {E'}, Q' (some (x, nxt)) s → wpAny (model prog w) A.in1 (setNext a slot i ep) Q' E' s)
    (hQ : ∀ h', h'.get? I = some (itO (.int nxt 0) (i + 1) a es.size ep) → (∀ b o, b ≠ I → s.heap.get? b = some o → h'.get? b = some o) → Q (some x) { s with heap := h' }) : wpAny (model prog w) A (pyNext (.ref I)) Q E s := by
  have hTy : Shared.TypeIs _ (.ref I) "set_iterator" := ⟨_, hI, rfl⟩
  unfold pyNext
  refine wpAny_bind (wpAny_attempt (wpAny_callSpecial?_slot (name := Str.ofString "__next__") hTy sl_next (wpAny_call_entry sl_next hTy en_next ?_ (ar_next _))))
  show wpAny _ _ (fieldsOf (.ref I) >>= _) _ _ _
  refine wpAny_bind (wpAny_fieldsOf hI rfl ?_)
  show wpAny _ _ (setEntries a >>= _) _ _ _
  refine wpAny_bind (wpAny_setEntries_of ha rfl hf ?_)
  rw [if_neg (by simp)]
  dsimp only
  refine wpAny_bind (hN ?_)
  dsimp only
  refine wpAny_bind (wpAny_setField_rec hI (by simp) fun h1 g1 sb1 => ?_)
  refine wpAny_bind (wpAny_setField_rec g1 (by simp) fun h2 g2 sb2 => ?_)
  exact wpAny_pure ⟨_, rfl, wpAny_pure (hQ h2 g2 fun b o hb e => sb2.extBut b o hb (sb1.extBut b o hb e))⟩
theorem done_int {slot : Nat} (hh : A.handled = none) (hI : s.heap.get? I = some (itO (.int slot 0) i a es.size ep)) (ha : s.heap.get? a = some (setO es ep t)) (hf : t.fits es.size = true)
    (hN : ∀ {Q' : Option (Value × Nat) → Shared → Prop} {E'}, Q' none s → wpAny (model prog w) A.in1 (setNext a slot i ep) Q' E' s)
    (hQ : ∀ h', (∀ b o, b ≠ I → s.heap.get? b = some o → h'.get? b = some o) → Q none { s with heap := h' }) : wpAny (model prog w) A (pyNext (.ref I)) Q E s := by
  have hTy : Shared.TypeIs _ (.ref I) "set_iterator" := ⟨_, hI, rfl⟩
  unfold pyNext
  refine wpAny_bind (wpAny_attempt (wpAny_callSpecial?_slot (name := Str.ofString "__next__") hTy sl_next (wpAny_call_entry sl_next hTy en_next ?_ (ar_next _))))
  show wpAny _ _ (fieldsOf (.ref I) >>= _) _ _ _
  refine wpAny_bind (wpAny_fieldsOf hI rfl ?_)
  show wpAny _ _ (setEntries a >>= _) _ _ _
  refine wpAny_bind (wpAny_setEntries_of ha rfl hf ?_)
  rw [if_neg (by simp)]
  dsimp only
  refine wpAny_bind (hN ?_)
  dsimp only
  refine wpAny_bind (wpAny_setField_rec hI (by simp) fun h1 g1 sb1 => ?_)
  exact stops (I := I) hh fun h' k => hQ h' fun b o hb e => k b o hb (sb1.extBut b o hb e)
theorem item_ref {T : Addr} {ps : Array Value} {c p : Nat} {x : Int × Value} (hI : s.heap.get? I = some (itO (.ref T) i a es.size ep)) (ha : s.heap.get? a = some (setO es ep t)) (hf : t.fits es.size = true)
    (hT : s.heap.get? T = some { cls := .type "tuple", dict := none, data := .seq ps c, slots := #[] }) (hp : ps[i]? = some (.int p 0)) (hx : es[p]? = some x)
    (hQ : ∀ h', h'.get? I = some (itO (.ref T) (i + 1) a es.size ep) → (∀ b o, b ≠ I → s.heap.get? b = some o → h'.get? b = some o) → Q (some x.2) { s with heap := h' }) : wpAny (model prog w) A (pyNext (.ref I)) Q E s := by
  have hTy : Shared.TypeIs _ (.ref I) "set_iterator" := ⟨_, hI, rfl⟩
  unfold pyNext
  refine wpAny_bind (wpAny_attempt (wpAny_callSpecial?_slot (name := Str.ofString "__next__") hTy sl_next (wpAny_call_entry sl_next hTy en_next ?_ (ar_next _))))
  show wpAny _ _ (fieldsOf (.ref I) >>= _) _ _ _
  refine wpAny_bind (wpAny_fieldsOf hI rfl ?_)
  show wpAny _ _ (setEntries a >>= _) _ _ _
  refine wpAny_bind (wpAny_setEntries_of ha rfl hf ?_)
  rw [if_neg (by simp)]
  dsimp only
  refine wpAny_bind (wpAny_seqItems hT rfl ?_)
  simp only [Int.toNat_natCast, hp]
  refine wpAny_bind ?_
  unfold setNextDrawn
  refine wpAny_bind (wpAny_setState_of ha rfl hf ?_)
  dsimp only
  rw [if_neg (by simp)]
  simp  only [Int.toNat_natCast, hx]
  refine wpAny_pure ?_
  refine wpAny_bind (wpAny_setField_rec hI (by simp) fun h1 g1 sb1 => ?_)
  exact wpAny_pure ⟨_, rfl, wpAny_pure (hQ h1 g1 fun b o hb e => sb1.extBut b o hb e)⟩
theorem done_ref {T : Addr} {ps : Array Value} {c : Nat} (hh : A.handled = none) (hI : s.heap.get? I = some (itO (.ref T) i a es.size ep)) (ha : s.heap.get? a = some (setO es ep t)) (hf : t.fits es.size = true)
    (hT : s.heap.get? T = some { cls := .type "tuple", dict := none, data := .seq ps c, slots := #[] }) (hp : ps[i]? = none)
    (hQ : ∀ h', (∀ b o, b ≠ I → s.heap.get? b = some o → h'.get? b = some o) → Q none { s with heap := h' }) : wpAny (model prog w) A (pyNext (.ref I)) Q E s := by
  have hTy : Shared.TypeIs _ (.ref I) "set_iterator" := ⟨_, hI, rfl⟩
  unfold pyNext
  refine wpAny_bind (wpAny_attempt (wpAny_callSpecial?_slot (name := Str.ofString "__next__") hTy sl_next (wpAny_call_entry sl_next hTy en_next ?_ (ar_next _))))
  show wpAny _ _ (fieldsOf (.ref I) >>= _) _ _ _
  refine wpAny_bind (wpAny_fieldsOf hI rfl ?_)
  show wpAny _ _ (setEntries a >>= _) _ _ _
  refine wpAny_bind (wpAny_setEntries_of ha rfl hf ?_)
  rw [if_neg (by simp)]
  dsimp only
  refine wpAny_bind (wpAny_seqItems hT rfl ?_)
  simp only [Int.toNat_natCast, hp]
  refine wpAny_bind (wpAny_setField_rec hI (by simp) fun h1 g1 sb1 => ?_)
  refine wpAny_bind (wpAny_setField_rec g1 (by simp) fun h2 g2 sb2 => ?_)
  exact stops (I := I) hh fun h' k => hQ h' fun b o hb e => k b o hb (sb2.extBut b o hb (sb1.extBut b o hb e))
/-- iter of the iterator is the iterator -/
theorem self_iter {Q : Value → Shared → Prop} (hI : s.heap.get? I = some (itO f i a n ep)) (hQ : Q (.ref I) s) : wpAny (model prog w) A (pyIter (.ref I)) Q E s := by
  have hT : s.TypeIs (.ref I) "set_iterator" := ⟨_, hI, rfl⟩
  refine wpAny_pyIter_slot hT sl_iter (wpAny_call_entry sl_iter hT en_iter ?_ (ar_iter _))
  exact wpAny_pure ⟨_, rfl, "set_iterator", _, hT, sl_next.lookup, hQ⟩
end
end St
end

section
set_option Elab.async false
set_option linter.all false
set_option maxRecDepth 100000
set_option maxHeartbeats 5000000
namespace St
open PySem PyProof.Rows PySem.Spec
/-! the order of a walk -/
theorem cons_erase {α : Type} {l : List α} {i : Nat} (h : i < l.length) : (l[i] :: l.eraseIdx i).Perm l := by
  rw [List.eraseIdx_eq_take_drop_succ]
  refine List.perm_middle.symm.trans ?_
  rw [← List.drop_eq_getElem_cons h, List.take_append_drop]
theorem pick_go {α : Type} (next : Nat → Nat) : ∀ (fuel k : Nat) (left : List α) (out : Array α), fuel = left.length → ((pickOrder.go next fuel k left out).toList).Perm (out.toList ++ left) := by
  intro fuel
  induction fuel with
  | zero =>
    intro k left out h
    have : left = [] := List.length_eq_zero_iff.mp h.symm
    subst this
    unfold pickOrder.go
    simp
  | succ f ih =>
    intro k left out h
    unfold pickOrder.go
    have hlt : next k % left.length < left.length := Nat.mod_lt _ (by omega)
    rw [List.getElem?_eq_getElem hlt]
    dsimp only
    refine (ih (k + 1) _ _ (by rw [List.length_eraseIdx_of_lt hlt]; omega)).trans ?_
    rw [Array.toList_push, List.append_assoc]
    exact List.Perm.append_left _ (cons_erase hlt)
theorem pick_perm {α : Type} (next : Nat → Nat) (xs : Array α) : (pickOrder next xs).toList.Perm xs.toList := by
  have := pick_go next xs.size 0 xs.toList #[] (by simp)
  simpa [pickOrder] using this
section
variable {prog : Program} {w : World} {A : Around} {E : Value → Shared → Prop} {s : Shared} {I a : Addr} {es : Array (Int × Value)} {ep n : Nat} {t : SetTable}
theorem choose_ok {src : Source} {n : Nat} (hn : n ≠ 0) {Q : Nat → Shared → Prop} (h : ∀ i d, i < n → Q i { s with drawn := d }) : wpAny (model prog w) A (choose src n) Q E s := by
  intro Γ p hΓ
  unfold choose
  rw [Sem.wp_choose]
  refine ⟨hn, ?_⟩
  exact h _ _ (Nat.mod_lt _ (Nat.pos_of_ne_zero hn))
theorem draw_ok {α : Type} : ∀ (n : Nat) (xs : List α) (s : Shared) (Q : List α → Shared → Prop), n = xs.length → (∀ l d, l.Perm xs → Q l { s with drawn := d }) → wpAny (model prog w) A (drawOrder n xs) Q E s := by
  intro n
  induction n with
  | zero =>
    intro xs s Q h q
    have : xs = [] := List.length_eq_zero_iff.mp h.symm
    subst this
    unfold drawOrder
    exact wpAny_pure (q [] s.drawn .nil)
  | succ n ih =>
    intro xs s Q h q
    cases xs with
    | nil => cases h
    | cons x r =>
      unfold drawOrder
      refine wpAny_bind (choose_ok (by simp) fun i d hi => ?_)
      rw [List.getElem?_eq_getElem hi]
      dsimp only
      refine wpAny_bind (ih _ _ _ (by rw [List.length_eraseIdx_of_lt hi]; simp at h ⊢; omega) fun l d' pl => ?_)
      exact wpAny_pure (q _ d' ((List.Perm.cons _ pl).trans (cons_erase hi)))
def pos (xs : Array Nat) : Nat → Nat
  | 0 => 0
  | k + 1 => xs.getD k 0 + 1
theorem below_pos {xs : Array Nat} (hr : Rise xs) {i : Nat} (hi : i ≤ xs.size) : SetTable.below xs (pos xs i) = i := by
  obtain ⟨h1, h2, h3⟩ := below_spec hr (pos xs i)
  generalize SetTable.below xs (pos xs i) = p at h1 h2 h3
  cases i with
  | zero =>
    rcases Nat.eq_zero_or_pos p with z | z
    · exact z
    · exact absurd (h2 0 z) (Nat.not_lt_zero _)
  | succ k =>
    have hk : k < xs.size := hi
    have ek : pos xs (k + 1) = xs[k] + 1 := by show xs.getD k 0 + 1 = _; rw [getD_of hk]
    rw [ek] at h2 h3
    have lt : ∀ a b (ha : a < b) (hb : b < xs.size), xs[a] < xs[b] := fun a b ha hb => by
      have := (List.pairwise_iff_getElem.mp hr) a b (by simpa using Nat.lt_trans ha hb) (by simpa using hb) ha
      simpa using this
    have a1 : k < p := Nat.lt_of_not_le fun z => by
      have := h3 k z hk
      rw [getD_of hk] at this
      omega
    have a2 : p ≤ k + 1 := Nat.le_of_not_lt fun z => by
      have l1 := h2 (k + 1) z
      have hk1 : k + 1 < xs.size := by omega
      rw [getD_of hk1] at l1
      have := lt k (k + 1) (Nat.lt_succ_self _) hk1
      omega
    omega
theorem next_text (ha : s.heap.get? a = some (setO es ep t)) (hf : t.fits es.size = true) (hB : w.params.followText "set-order" = true) {slot i : Nat} {Q : Option (Value × Nat) → Shared → Prop}
    (h : Q (((pickOrder (w.params.setOrder a ep) es)[i]?).map fun e => (e.2, slot)) s) : wpAny (model prog w) A (setNext a slot i ep) Q E s := by
  unfold setNext
  refine wpAny_bind (wpAny_setState_of ha rfl hf ?_)
  dsimp only
  refine wpAny_bind ?_
  unfold setsByText
  refine wpAny_bind (wpAny_askSetting (wpAny_pure ?_))
  dsimp only
  rw [show (model prog w).w.params.followText "set-order" = true from hB, if_pos rfl, if_neg (by simp)]
  refine wpAny_bind ?_
  unfold setWalk setsByText
  refine wpAny_bind (wpAny_setState_of ha rfl hf ?_)
  dsimp only
  refine  wpAny_bind (wpAny_bind (wpAny_askSetting (wpAny_pure ?_)))
  dsimp only
  rw [show (model prog w).w.params.followText "set-order" = true from hB, if_pos rfl]
  refine wpAny_bind (wpAny_askSetting (wpAny_pure (wpAny_pure h)))
theorem next_place (ha : s.heap.get? a = some (setO es ep t)) (hf : t.fits es.size = true) (hB : w.params.followText "set-order" = false) (hl : t.led = true) (hd : (!t.plain && decide (es.size > 1)) = false) {slot i : Nat} {Q : Option (Value × Nat) → Shared → Prop}
    (h : Q (match es[SetTable.below t.place slot]?, t.place[SetTable.below t.place slot]? with | some (_, x), some j => some (x, j + 1) | _, _ => none) s) : wpAny (model prog w) A (setNext a slot i ep) Q E s := by
  unfold setNext
  refine wpAny_bind (wpAny_setState_of ha rfl hf ?_)
  dsimp only
  refine wpAny_bind ?_
  unfold setsByText
  refine wpAny_bind (wpAny_askSetting (wpAny_pure ?_))
  dsimp only
  rw [show (model prog w).w.params.followText "set-order" = false from hB, if_neg (by simp)]
  split
  · rename_i z
    have z' : (!t.plain && decide (es.size > 1)) = true := z
    rw [hd] at z'
    cases z'
  · refine wpAny_bind (wpAny_of_eq (a := ()) ?_ ?_)
    · show (if (!t.led && !es.isEmpty) = true then unsupported "set:maker-not-led" else pure ()) = pure ()
      rw [hl]
      rfl
    · exact wpAny_pure h
/-- the walk of a set by slots or by the text's order -/
theorem walks_int (hh : A.handled = none) (hf : t.fits es.size = true) (hne : a ≠ I) {vs : List Value} {fst : Nat → Nat}
    (hi : ∀ (i : Nat) (v : Value), vs[i]? = some v → ∀ {s : Shared} {A' : Around} {Q' : Option (Value × Nat) → Shared → Prop} {E'}, s.heap.get? a = some (setO es ep t) → Q' (some (v, fst (i + 1))) s → wpAny (model prog w) A' (setNext a (fst i) i ep) Q' E' s)
    (hd : ∀ {s : Shared} {A' : Around} {Q' : Option (Value × Nat) → Shared → Prop} {E'}, s.heap.get? a = some (setO es ep t) → Q' none s → wpAny (model prog w) A' (setNext a (fst vs.length) vs.length ep) Q' E' s) :
    Walks prog w A I [I, a] [I] vs.length (fun i v => vs[i]? = some v) (fun i h => h.get? I = some (itO (.int (fst i) 0) i a es.size ep) ∧ h.get? a = some (setO es ep t)) where
  sub  := fun b hb => by simp at hb; simp [hb]
  frame := fun i h h' st k => ⟨k I (by simp) _ st.1, k a (by simp) _ st.2⟩
  item := fun i s Q E hlt st hQ => by
    refine item_int (x := vs[i]) (nxt := fst (i + 1)) st.1 st.2 hf (fun q => hi i _ (List.getElem?_eq_getElem hlt) st.2 q) fun h' g k => ?_
    exact hQ _ h' s.toks (List.getElem?_eq_getElem hlt) ⟨g, k a _ hne st.2⟩ fun b o hb e => k b o (fun z => hb (by simp [z])) e
  done := fun s Q E st hQ => done_int hh st.1 st.2 hf (fun q => hd st.2 q) fun h' k => hQ h' s.toks fun b o hb e => k b o (fun z => hb (by simp [z])) e
  self := fun _ _ _ _ st hQ => self_iter st.1 hQ
theorem walks_ref (hh : A.handled = none) (hf : t.fits es.size = true) (hne : a ≠ I) {T : Addr} (hT : T ≠ I) {ps : List Nat} {c : Nat} {vs : List Value} (hl : ps.length = vs.length)
    (hv : ∀ (i p : Nat), ps[i]? = some p → ∃ x, es[p]? = some x ∧ vs[i]? = some x.2) :
    Walks prog w A I [I, a, T] [I] vs.length (fun i v => vs[i]? = some v) (fun i h => h.get? I = some (itO (.ref T) i a es.size ep) ∧ h.get? a = some (setO es ep t) ∧ h.get? T = some { cls := .type "tuple", dict := none, data := .seq (ps.map fun (p : Nat) => rawInt p).toArray c, slots := #[] }) where
  sub  := fun b hb => by simp at hb; simp [hb]
  frame := fun i h h' st k => ⟨k I (by simp) _ st.1, k a (by simp) _ st.2.1, k T (by simp) _ st.2.2⟩
  item := fun i s Q E hlt st hQ => by
    have hlt' : i < ps.length := by omega
    obtain ⟨x, hx, hvi⟩ := hv i ps[i] (List.getElem?_eq_getElem hlt')
    refine item_ref (p := ps[i]) (x := x) st.1 st.2.1 hf st.2.2 (by simp [List.getElem?_eq_getElem hlt', rawInt]) hx fun h' g k => ?_
    exact hQ _ h' s.toks hvi ⟨g, k a _ hne st.2.1, k T _ hT st.2.2⟩ fun b o hb e => k b o (fun z => hb (by simp [z])) e
  done := fun s Q E st hQ => done_ref hh st.1 st.2.1 hf st.2.2 (by simp [hl]) fun h' k => hQ h' s.toks fun b o hb e => k b o (fun z => hb (by simp [z])) e
  self := fun _ _ _ _ st hQ => self_iter st.1 hQ
end
end St
end

section
set_option Elab.async false
set_option linter.all false
set_option maxRecDepth 100000
set_option maxHeartbeats 5000000
namespace St
open PySem PyProof.Rows PySem.Spec
section
variable {prog : Program} {w : World} {A : Around} {E : Value → Shared → Prop} {s : Shared} {a : Addr} {es : Array (Int × Value)} {ep : Nat} {t : SetTable}
theorem fits_eq (hf : t.fits es.size = true) : t.place.size = es.size := by
  simp  only [SetTable.fits, Bool.and_eq_true, beq_iff_eq, decide_eq_true_eq] at hf
  exact hf.1
/-- iter of a set -/
theorem iter_set {Q : Value → Shared → Prop} (ha : s.heap.get? a = some (setO es ep t)) (hon : Hon t (w.params.followText "set-order")) (hf : t.fits es.size = true) (hz : es.size ≤ sizeLine)
    (h : ∀ (I : Addr) (h' : Heap) (d : Drawn) (fp : List Addr) (vs : List Value) (Wt : Nat → Heap → Prop), s.heap.objs.size ≤ I → (∀ b o, s.heap.get? b = some o → h'.get? b = some o) → (∀ b ∈ fp, b = a ∨ s.heap.objs.size ≤ b) →
      vs.Perm (es.toList.map (·.2)) → (∀ A' : Around, A'.handled = none → Walks prog w A' I fp [I] vs.length (fun i v => vs[i]? = some v) Wt) → Wt 0 h' → Q (.ref I) { s with heap := h', drawn := d }) : wpAny (model prog w) A (pyIter (.ref a)) Q E s := by
  have hT : s.TypeIs (.ref a) "set" := ⟨_, ha, rfl⟩
  have alt : a < s.heap.objs.size := Heap.lt_size ha
  refine wpAny_pyIter_slot hT F.slot_set_iter (wpAny_call_entry F.slot_set_iter hT en_siter ?_ (F.args_set_iter_1 _))
  show wpAny _ _ (Builtin.Frozenset.sizeOf a >>= _) _ _ _
  refine wpAny_bind ?_
  unfold Builtin.Frozenset.sizeOf
  refine wpAny_bind (wpAny_setEntries_of ha rfl hf (wpAny_pure ?_))
  refine wpAny_bind ?_
  unfold setDrawn setsByText
  refine wpAny_bind (wpAny_setState_of ha rfl hf ?_)
  dsimp only
  refine  wpAny_bind (wpAny_bind (wpAny_askSetting (wpAny_pure ?_)))
  dsimp only
  refine wpAny_pure ?_
  have fin : ∀ (f : Value) (h1 : Heap) (d : Drawn), h1.get? a = some (setO es ep t) → s.heap.objs.size ≤ h1.objs.size → (h1.get? h1.objs.size = none → Q (.ref h1.objs.size) { s with heap := h1.push (itO f 0 a es.size ep), drawn := d }) →
      wpAny (model prog w) A.in1 (do ret (← newFields "set_iterator" [f, rawInt 0, .ref a, rawInt es.size, rawInt (← setEpoch a)]) : Sem Fin) (fun r s1 => ∃ v, r = .done (.ret v) ∧ ∃ T' r, s1.TypeIs v T' ∧ typeLookup (.type T') "__next__" = pure (some r) ∧ Q v s1) E { s with heap := h1, drawn := d } := by
    intro f h1 d g le q
    refine wpAny_bind (wpAny_setEpoch_of (s := { s with heap := h1, drawn := d }) g rfl hf ?_)
    refine wpAny_bind (wpAny_newObj_type (wpAny_pure ⟨_, rfl, "set_iterator", _, ⟨_, Heap.get?_push_size _ rfl, rfl⟩, sl_next.lookup, q ?_⟩))
    cases z : h1.get? h1.objs.size with
    | none => rfl
    | some o => exact absurd (Heap.lt_size z) (Nat.lt_irrefl _)
  have ez := fits_eq hf
  cases hB : w.params.followText "set-order" with
  | true =>
    rw [show (model prog w).w.params.followText "set-order" = true from hB, Bool.not_true, Bool.false_and, if_neg (by simp)]
    refine wpAny_bind (wpAny_pure ?_)
    refine fin _ s.heap s.drawn ha (Nat.le_refl _) fun _ => ?_
    have pm := pick_perm (w.params.setOrder a ep) es
    have len : ((pickOrder (w.params.setOrder a ep) es).toList.map (·.2)).length = es.size := by rw [List.length_map, pm.length_eq, Array.length_toList]
    refine h s.heap.objs.size _ s.drawn [s.heap.objs.size, a] ((pickOrder (w.params.setOrder a ep) es).toList.map (·.2)) _ (Nat.le_refl _) (fun b o e => Heap.get?_push_of_some _ e) (fun b hb => ?_) (pm.map _)
      (fun A' hh' => walks_int (fst := fun _ => 0) hh' hf (Nat.ne_of_lt alt) (fun i v hv s A' Q' E' g q => next_text g hf hB ?_) fun {s A' Q' E'} g q => next_text g hf hB ?_) ⟨Heap.get?_push_size _ rfl, Heap.get?_push_of_some _ ha⟩
    · simp only [List.mem_cons, List.not_mem_nil, or_false] at hb
      exact hb.symm.imp id fun z => Nat.le_of_eq z.symm
    · rw [List.getElem?_map, Array.getElem?_toList] at hv
      cases z : (pickOrder (w.params.setOrder a ep) es)[i]? with
      | none => rw [z] at hv; cases hv
      | some e => rw [z] at hv; cases hv; exact q
    · have : (pickOrder (w.params.setOrder a ep) es)[((pickOrder (w.params.setOrder a ep) es).toList.map (·.2)).length]? = none := by simp
      rw [this]; exact q
  | false =>
    rw [show (model prog w).w.params.followText "set-order" = false from hB, Bool.not_false, Bool.true_and]
    have hled : t.led = true := by rw [hon.led, hB]; rfl
    cases hd : (!t.plain && decide (es.size > 1)) with
    | false =>
      split
      · rename_i z
        have z' : (!t.plain && decide (es.size > 1)) = true := z
        rw [hd] at z'; cases z'
      · refine wpAny_bind ?_
        refine wpAny_pure ?_
        refine fin _ s.heap s.drawn ha (Nat.le_refl _) fun _ => ?_
        have len : (es.toList.map (·.2)).length = es.size := by simp
        refine h s.heap.objs.size _ s.drawn [s.heap.objs.size, a] (es.toList.map (·.2)) _ (Nat.le_refl _) (fun b o e => Heap.get?_push_of_some _ e) (fun b hb => ?_) (.refl _)
          (fun A' hh' => walks_int (fst := pos t.place) hh' hf (Nat.ne_of_lt alt) (fun i v hv s A' Q' E' g q => next_place g hf hB hled hd ?_) fun {s A' Q' E'} g q => next_place g hf hB hled hd ?_) ⟨Heap.get?_push_size _ rfl, Heap.get?_push_of_some _ ha⟩
        · simp only [List.mem_cons, List.not_mem_nil, or_false] at hb
          exact hb.symm.imp id fun z => Nat.le_of_eq z.symm
        · have hi : i < es.size := by
            have := (List.getElem?_eq_some_iff.mp hv).1
            rwa [len] at this
          rw [below_pos hon.rise (by omega), Array.getElem?_eq_getElem hi, Array.getElem?_eq_getElem (by omega : i < t.place.size)]
          rw [List.getElem?_map, Array.getElem?_toList, Array.getElem?_eq_getElem hi] at hv
          cases hv
          have e : pos t.place (i + 1) = t.place[i]'(by omega) + 1 := by show t.place.getD i 0 + 1 = _; rw [getD_of (by omega)]
          rw [e] at q
          exact q
        · rw [len, below_pos hon.rise (by omega)]
          have : es[es.size]? = none := by simp
          rw [this]
          exact q
    | true =>
      split
      · refine wpAny_bind (draw_ok _ _ _ _ (by simp) fun l d pl => ?_)
        refine wpAny_bind (wpAny_newObj_type ?_ ?_)
        · have hl : l.length = es.size := by rw [pl.length_eq]; simp
          refine fin _ _ d (Heap.get?_push_of_some _ ha) (by rw [Heap.size_push]; exact Nat.le_succ _) fun _ => ?_
          have inr : ∀ p ∈ l, p < es.size := fun p hp => by simpa using pl.mem_iff.mp hp
          have pv : (l.filterMap fun p => (es[p]?).map (·.2)).Perm (es.toList.map (·.2)) := by
            refine (pl.filterMap _).trans ?_
            have e : (List.range es.size).filterMap (fun p => (es[p]?).map (·.2)) = ((List.range es.size).filterMap fun p => es[p]?).map (·.2) := by rw [List.map_filterMap]
            rw [e, filterMap_getElem?_range]
          have ev : ∀ (l : List Nat), (∀ p ∈ l, p < es.size) → (l.filterMap fun p => (es[p]?).map (·.2)).length = l.length ∧ ∀ (i p : Nat), l[i]? = some p → ∃ x, es[p]? = some x ∧ (l.filterMap fun p => (es[p]?).map (·.2))[i]? = some x.2 := by
            intro l
            induction l with
            | nil => intro _; exact ⟨rfl, fun i p z => by simp at z⟩
            | cons k r ih =>
              intro hk
              obtain ⟨i1, i2⟩ := ih fun p hp => hk p (.tail _ hp)
              have lt := hk k (.head _)
              have e1 : (es[k]?).map (·.2) = some es[k].2 := by rw [Array.getElem?_eq_getElem lt]; rfl
              rw [List.filterMap_cons_some (f := fun p : Nat => (es[p]?).map fun (x : Int × Value) => x.2) e1]
              refine ⟨by simp [i1], fun i p z => ?_⟩
              cases i with
              | zero => simp at z; subst z; exact ⟨es[k], Array.getElem?_eq_getElem lt, rfl⟩
              | succ i => simpa using i2 i p (by simpa using z)
          obtain ⟨v1, v2⟩ := ev l inr
          have sz : (s.heap.push { cls := .type "tuple", dict := none, data := .seq (l.map fun (i : Nat) => rawInt i).toArray }).objs.size = s.heap.objs.size + 1 := Heap.size_push ..
          refine h _ _ d [_, a, s.heap.objs.size] _ _ (by rw [sz]; exact Nat.le_succ _) (fun b o e => Heap.get?_push_of_some _ (Heap.get?_push_of_some _ e)) (fun b hb => ?_) pv
            (fun A' hh' => walks_ref hh' hf (by rw [sz]; exact Nat.ne_of_lt (Nat.lt_succ_of_lt alt)) (T := s.heap.objs.size) (by rw [sz]; exact Nat.ne_of_lt (Nat.lt_succ_self _)) v1.symm v2) ⟨Heap.get?_push_size _ rfl, Heap.get?_push_of_some _ (Heap.get?_push_of_some _ ha), Heap.get?_push_of_some _ (Heap.get?_push_size _ rfl)⟩
          simp  only [List.mem_cons, List.not_mem_nil, or_false] at hb
          rcases hb with z | z | z
          · exact .inr (by rw [z, sz]; exact Nat.le_succ _)
          · exact .inl z
          · exact .inr (Nat.le_of_eq z.symm)
        · show (l.map fun (i : Nat) => rawInt i).toArray.size ≤ sizeLine
          simp only [List.size_toArray, List.length_map, pl.length_eq, List.length_range]
          exact hz
      · rename_i z
        exact absurd hd z
theorem len_set : typeLookup (.type "set") "__len__" = pure (some (.builtin "set.__len__")) := by rw [typeLookup_type, builtinLookup_eq_fast]; kernel_rfl
/-- the items of a set, as a list -/
theorem collect_set {Q : List Value → Shared → Prop} (hh : A.handled = none) (ha : s.heap.get? a = some (setO es ep t)) (hon : Hon t (w.params.followText "set-order")) (hf : t.fits es.size = true) (hz : es.size ≤ sizeLine)
    (h : ∀ (vs : List Value) (h' : Heap) (d : Drawn) (tk : Nat), s.heap.objs.size ≤ h'.objs.size → (∀ b o, s.heap.get? b = some o → h'.get? b = some o) → vs.Perm (es.toList.map (·.2)) → Q vs { s with heap := h', drawn := d, toks := tk }) : wpAny (model prog w) A (collect (.ref a)) Q E s := by
  have start : ∀ {R : Result → Shared → Prop}, wpAny (model prog w) A.in1 (Builtin.List.listExtendWith (.ref s.heap.objs.size) (.ref a) (.ref s.heap.objs.size)) (fun fin s' => match fin with | .done f => R (.ok f) s' | .again c' => c'.quiet = true ∧ codeAny (model prog w) A c' R s') (fun e s' => R (.error e) s') { s with heap := s.heap.push { cls := .type "list", dict := none, data := .seq ([] : List Value).toArray } } →
      codeAny (model prog w) A (.builtin "proto.collect" ⟨[.ref a], []⟩) R s := fun {R} z => codeAny_builtin F.entry_proto_collect (by
    rw [Around.under_plainId F.plain_proto_collect]
    exact show wpAny _ _ (newList [] >>= fun v => again (.builtin "list.__iadd__" ⟨[v, .ref a], []⟩)) _ _ _ from wpAny_bind (wpAny_newObj_type (wpAny_pure ⟨plainId_quiet F.plain_list_iadd _, codeAny_builtin F.entry_list_iadd (by rw [Around.under_plainId F.plain_list_iadd]; exact z)⟩)))
  unfold collect
  refine wpAny_bind (wpAny_runValue (start ?_))
  have alt : a < s.heap.objs.size := Heap.lt_size ha
  generalize hH : s.heap.push { cls := .type "list", dict := none, data := .seq ([] : List Value).toArray } = H
  have g0 : H.get? s.heap.objs.size = some { cls := .type "list", dict := none, data := .seq #[] 0, slots := #[] } := by rw [← hH]; exact Heap.get?_push_size _ rfl
  have up : ∀ b o, s.heap.get? b = some o → H.get? b = some o := fun b o e => by rw [← hH]; exact Heap.get?_push_of_some _ e
  have sz : H.objs.size = s.heap.objs.size + 1 := by rw [← hH]; exact Heap.size_push ..
  have hT : Shared.TypeIs { s with heap := H } (.ref a) "set" := ⟨_, up _ _ ha, rfl⟩
  unfold  Builtin.List.listExtendWith
  refine  wpAny_bind (wpAny_typeOf hT ?_)
  have n1 : Builtin.List.listSameRef (.ref s.heap.objs.size) (.ref a) = false := by
    show (s.heap.objs.size == a) = false
    simpa using Nat.ne_of_gt alt
  have n2 : (Value.type "set" == Value.type "list") = false := by decide
  have n3 : (Value.type "set" == Value.type "tuple") = false := by decide
  rw [n1, n2, n3]
  simp only [Bool.or_false, Bool.false_eq_true, if_false]
  refine wpAny_bind (iter_set (up _ _ ha) hon hf hz fun I h1 d fp vs Wt hI k1 hfp pv W st => ?_)
  have hT1 : Shared.TypeIs { s with heap := h1, drawn := d } (.ref a) "set" := ⟨_, k1 _ _ (up _ _ ha), rfl⟩
  refine  wpAny_bind (wpAny_holding ?_)
  unfold  Builtin.List.listLengthHint
  refine wpAny_bind (wpAny_specialOf hT1 len_set ?_)
  wp_delta
  refine wpAny_bind (wpAny_isInstance (b := true) hT1 (by rw [isSubtype_type]; kernel_rfl) ?_)
  show wpAny _ _ (typeOf (Value.ref a) >>= _) _ _ _
  refine wpAny_bind (wpAny_typeOf hT1 ?_)
  refine wpAny_pure ?_
  rw [if_pos (by decide)]
  refine wpAny_bind (wpAny_rule ?_)
  unfold Builtin.List.listTouch
  have g1 := k1 _ _ g0
  refine  wpAny_bind (wpAny_bind ?_)
  refine PyProof.Rows.listUpdate_at g1 rfl ?_ (Nat.zero_le _) (by simp)
  have g2 := get?_update_seq g1 (fun xs => xs.push Value.none)
  refine PyProof.Rows.listUpdate_at g2 rfl ?_ (by show 1 ≤ sizeLine; decide) (by simp)
  have g3 := get?_update_seq g2 (fun xs => xs.pop)
  have oth : ∀ b o, b ≠ s.heap.objs.size → h1.get? b = some o → ((h1.update s.heap.objs.size (Obj.mapSeq fun xs => xs.push Value.none)).update s.heap.objs.size (Obj.mapSeq fun xs => xs.pop)).get? b = some o := fun b o hb e =>
    (Heap.get?_update_other _ _ (Ne.symm hb)).trans ((Heap.get?_update_other _ _ (Ne.symm hb)).trans e)
  have hSf : s.heap.objs.size ∉ fp := fun z => by
    rcases hfp _ z with e | e
    · exact absurd alt (by rw [e]; exact Nat.lt_irrefl _)
    · exact absurd (show H.objs.size ≤ s.heap.objs.size from e) (by rw [sz]; exact Nat.not_succ_le_self _)
  have W' := W A.in1 hh
  have hn : vs.length ≤ sizeLine := by rw [pv.length_eq]; simpa using hz
  refine wpAny_pure ⟨plainId_quiet F.plain_extend_loop _, codeAny_extend_loopS W'.toS hn _ hSf _ vs.length 0 _ _ _ rfl (Nat.zero_le _) (W'.frame _ _ _ st fun b hb o e => oth b o (fun z => hSf (by rw [← z]; exact hb)) e) g3 (ItemsOf.nil _) fun s' acc c hm g' hacc => ?_⟩
  show wpAny _ _ (load s.heap.objs.size >>= _) _ _ _
  refine wpAny_bind (wpAny_load g' (wpAny_pure ?_))
  have ev : acc.toList = vs := by
    refine List.ext_getElem? fun i => ?_
    cases q : acc[i]? with
    | none =>
      have : acc.size ≤ i := by simpa using q
      rw [hacc.1] at this
      rw [Array.getElem?_toList, q, List.getElem?_eq_none this]
    | some v => rw [Array.getElem?_toList, q, hacc.2 i v q]
  rw [ev]
  obtain ⟨h', g, d', tk, os⟩ := s'
  have e1 := (hm.gens : g = s.gens)
  have e2 : d' = d := hm.drawn
  have e3 : os = s.os := hm.os
  subst e1; subst e2; subst e3
  refine h vs h' d' tk (Nat.le_of_lt (Heap.lt_size g')) (fun b o e => hm.heap b o (fun z => ?_) (oth b o (Nat.ne_of_lt (Heap.lt_size e)) (k1 b o (up b o e)))) pv
  have blt := Heap.lt_size e
  rcases List.mem_cons.mp z with z | z
  · exact absurd blt (by rw [z]; exact Nat.lt_irrefl _)
  · rw [List.mem_singleton] at z
    have : H.objs.size ≤ I := hI
    rw [← z, sz] at this
    exact absurd blt (Nat.not_lt.mpr (Nat.le_of_succ_le this))
def kv : Value → Int
  | .int k _ => k
  | _ => 0
theorem ints_of : ∀ {vs : List Value}, (∀ v ∈ vs, ∃ t, v = .int (kv v) t) → IntsAre vs (vs.map kv)
  | [], _ => .nil
  | v :: r, h => by
    obtain ⟨t, e⟩ := h v (.head _)
    have ih := ints_of (vs := r) fun u hu => h u (.tail _ hu)
    rw [List.map_cons]
    generalize kv v = k at e ⊢
    subst e
    exact .cons k t ih
theorem sorted_at {h : Heap} {a : Addr} {vs : List Value} {n : Nat} (ho : h.get? a = some (seqObj "list" vs.toArray n)) (out : Array Value) : ∃ e, (sortedHeap h a vs out).get? a = some (seqObj "list" out e) := by
  have lt : a < h.objs.size := Heap.lt_size ho
  unfold sortedHeap
  have g1 := get?_update_seq ho fun _ => #[]
  have g2 : (((h.update a (Obj.mapSeq fun _ => #[])).push (seqObj "tuple" vs.toArray 0)).push (seqObj "list" #[] 0)).get? a = some (seqObj "list" #[] (if ((#[] : Array Value).size == vs.toArray.size) = true then n else n + 1)) := by
    rw [Heap.get?_push_ne _ _ _ (by rw [size_push', Heap.size_update]; exact Nat.ne_of_lt (Nat.lt_succ_of_lt lt)), Heap.get?_push_ne _ _ _ (by rw [Heap.size_update]; exact Nat.ne_of_lt lt)]
    exact g1
  exact ⟨_, get?_update_seq g2 fun _ => out⟩
theorem sorted_old {h : Heap} {a b : Addr} {vs : List Value} {out : Array Value} {o : Obj} (hb : b ≠ a) (e : h.get? b = some o) : (sortedHeap h a vs out).get? b = some o := by
  unfold sortedHeap
  rw [Heap.get?_update_other _ _ (Ne.symm hb)]
  exact Heap.get?_push_of_some _ (Heap.get?_push_of_some _ ((Heap.get?_update_other _ _ (Ne.symm hb)).trans e))
/-- sorted(..) of a set of ints -/
theorem sorted_set {l : List Int} {Q : Value → Shared → Prop} (hh : A.handled = none) (hS : SetH (w.params.followText "set-order") s.heap a l) (h64 : l.length < 64)
    (h : ∀ (h' : Heap) (d : Drawn) (tk : Nat) (p : Addr) (out : Array Value) (e : Nat) (ns : List Int), s.heap.objs.size ≤ p → (∀ b o, s.heap.get? b = some o → h'.get? b = some o) → h'.get? p = some { cls := .type "list", dict := none, data := .seq out e, slots := #[] } → IntsAre out.toList ns → ns.Perm l → ns.Pairwise (· ≤ ·) → Q (.ref p) { s with heap := h', drawn := d, toks := tk }) :
    wpAny (model prog w) A (call (.builtin "sorted") [.ref a]) Q E s := by
  obtain ⟨es, ep, t, ha, hg, hp, hon, hf⟩ := hS
  have hsz : es.size = l.length := by rw [← Array.length_toList, ← hp.length_eq, List.length_map]
  have z64 : (64 : Nat) ≤ sizeLine := by decide
  refine Calls.call_function_entry kind_sorted plain_sorted entry_sorted (args_sorted1 _) (show wpAny _ _ (checkCount "sorted" 1 1 1 >>= _) _ _ _ from wpAny_bind (wpAny_pure ?_))
  refine wpAny_bind (collect_set hh ha hon hf (by omega) fun vs h1 d tk le k1 pv => ?_)
  have vl : vs.length = l.length := by rw [pv.length_eq, List.length_map, Array.length_toList, hsz]
  refine wpAny_bind (wpAny_newList ?_ (by omega))
  have good : ∀ v ∈ vs, ∃ t, v = .int (kv v) t := fun v hv => by
    obtain ⟨e, he, rfl⟩ := List.mem_map.mp (pv.mem_iff.mp hv)
    obtain ⟨k, t, rfl⟩ := hg e he
    exact ⟨t, rfl⟩
  have pl : (vs.map kv).Perm l := by
    refine (pv.map kv).trans (List.Perm.trans (.of_eq ?_) hp)
    rw [List.map_map]
    rfl
  show wpAny _ _ _ _ _ { s with heap := h1.push (seqObj "list" vs.toArray 0), drawn := d, toks := tk }
  have hoL : (h1.push (seqObj "list" vs.toArray 0)).get? h1.objs.size = some (seqObj "list" vs.toArray 0) := Heap.get?_push_size _ rfl
  refine wpAny_bind (wpAny_holding (wpAny_call_entry slot_list_sort ⟨_, hoL, rfl⟩ entry_list_sort (list_sort_tree hoL (ints_of good) (by omega) fun out ns' a1 a2 a3 => ⟨_, rfl, ?_⟩) (args_list_sort _)))
  obtain ⟨e, ge⟩ := sorted_at hoL out
  refine wpAny_pure ⟨_, rfl, h _ d tk h1.objs.size out e ns' le (fun b o z => sorted_old (Nat.ne_of_lt (Heap.lt_size (k1 b o z))) (Heap.get?_push_of_some _ (k1 b o z))) ge a1 (a2.trans pl) a3⟩
end
end St
end

section
set_option Elab.async false
set_option linter.all false
set_option maxRecDepth 100000
set_option maxHeartbeats 5000000
namespace L2
open PySem PySem.Spec PyProof.Rows Ex
section
variable {X : Cx}
theorem Inv.drawn {pins : List (Addr × Obj)} {σ : List (Option V)} {H : Hp} {s : Shared} (I : Inv X pins σ H s) (d : Drawn) : Inv X pins σ H { s with drawn := d } := ⟨I.ok, I.os, I.bare, I.base, I.loc, I.cell, I.free, I.freeC, I.pin, I.hok, I.len⟩
/-- a set of ints, as it is made: its members, each once -/
def SetX (X : Cx) (p : Addr) (l : List Int) : HO := .ext fun h => St.SetH (X.w.params.followText "set-order") h p l
def dd (ns : List Int) : List Int := ns.foldl step_dedup []
theorem call_setI (calm : X.calm = true) : CallR X (.type "set") (fun xs H Q => ∃ (p : Addr) (ns : List Int), xs = [.ref p] ∧ SqL X.K H p (ns.map V.int) ∧ ns.length < 64 ∧ ∀ l, H l = none → Q (.ref l) (upd H l (SetX X l (dd ns)))) := by
  intro pins s σ H xs us Q I r h
  obtain ⟨p, ns, rfl, hS, hn, q⟩ := h
  obtain ⟨u, rfl, ru⟩ := r.one
  cases ru
  obtain ⟨its, rv, pl, hz⟩ := I.list hS
  have hl := rv.length
  rw [List.length_map] at hl
  refine St.set_list (I.ok.hd calm) pl.isList (by simpa using intsAre_of rv) (by simp; unfold scanBound; omega) fun h' tk S k => ?_
  have S0 := S
  obtain ⟨es, ep, t, e, _⟩ := S0
  exact ⟨.ref s.heap.objs.size, _, I.laid (t' := tk) (o := SetX X s.heap.objs.size (dd ns)) k (Nat.le_refl _) ⟨S, ⟨_, e⟩, fun h1 h2 x y => x.at y⟩, rfl, q _ (I.hok.fresh (Nat.le_refl _))⟩
theorem call_sorted_set (calm : X.calm = true) : CallR X (.builtin "sorted") (fun xs H Q => ∃ (p : Addr) (l : List Int), xs = [.ref p] ∧ H p = some (SetX X p l) ∧ l.length < 64 ∧ ∀ (q : Addr) (ns : List Int), H q = none → ns.Perm l → ns.Pairwise (· ≤ ·) → Q (.ref q) (upd H q (.lst (ns.map V.int)))) := by
  intro pins s σ H xs us Q I r h
  obtain ⟨p, l, rfl, hp, hn, q⟩ := h
  obtain ⟨u, rfl, ru⟩ := r.one
  cases ru
  obtain ⟨S, _⟩ := I.hok p _ hp
  refine St.sorted_set (I.ok.hd calm) S hn fun h' d tk p' out e ns le k g ia pm pw => ?_
  refine ⟨.ref p', upd H p' (.lst (ns.map V.int)), (I.laid (t' := tk) (o := .lst (ns.map V.int)) k le ⟨?_, out.toList, e, vals_of_ints ia, by simpa using g⟩).drawn d, rfl, q _ ns (I.hok.fresh le) pm pw⟩
  rw [List.length_map, pm.length_eq]
  have z : (64 : Nat) ≤ sizeLine := by decide
  omega
theorem op_isntB : OpR X (compareOp .IsNot) (fun x y H Q => ∃ c d, x = .bl c ∧ y = .bl d ∧ Q (.bl (c != d)) H) := by
  intro pins s σ H x y v u Q I rx ry h
  obtain ⟨c, d, rfl, rfl, q⟩ := h
  cases rx
  cases ry
  exact isnot_bool ⟨.bl _, H, I, rfl, q⟩
theorem call_repr_b : CallR X (.builtin "repr") (fun xs H Q => ∃ b : Bool, xs = [.bl b] ∧ Q (.str (if b then "True" else "False")) H) := by
  intro pins s σ H xs us Q I r h
  obtain ⟨b, rfl, q⟩ := h
  obtain ⟨u, rfl, ru⟩ := r.one
  cases ru
  exact PySem.P.repr_of_bool ⟨.str _, H, I.kept (fun _ _ e => e), ⟨_, rfl⟩, q⟩
theorem dd_le (ns : List Int) : (dd ns).length ≤ ns.length := by
  have := St.dd_len ns []
  simpa [dd] using this
end
end L2
namespace Dv
open PySem L2 Ex
variable [KC]
def ssetO : List D → Option RV
  | [.lst ds] => (asIs ds).bind fun ns => if ns.length < 64 then some (.new (.lst ((srt (dd ns)).map D.int))) else none
  | _ => none
section
variable {X : Cx} {EE : XKS} {ios : List Addr} {e : Expr} {fs : M (List RV)} {pos p0 p1 p2 : Pos}
def isntB (d e : D) : Option RV := match d, e with
  | .bl a, .bl b => some (.val (.bl (a != b)))
  | _, _ => none
theorem opv_isntB : OpV (fun x y H Q => ∃ c d, x = .bl c ∧ y = .bl d ∧ Q (.bl (c != d)) H) isntB := by
  intro R H x y d e rv Q s px py hg q
  unfold isntB at hg
  split at hg
  · cases hg
    exact ⟨_, _, px.bl, py.bl, q _ H R (Al.refl s) (.bl _)⟩
  · cases hg
def reprB : List D → Option RV
  | [.bl b] => some (.val (.str (if b then "True" else "False")))
  | _ => none
theorem callv_reprB : CallV (fun xs H Q => ∃ b : Bool, xs = [.bl b] ∧ Q (.str (if b then "True" else "False")) H) reprB := by
  intro R H xs ds rv Q s px hg q
  unfold reprB at hg
  split at hg
  · cases hg
    obtain ⟨x, rfl, p⟩ := px.one
    exact ⟨_, by rw [p.bl], q _ H R (Al.refl s) (.str _)⟩
  · cases hg
/-- sorted(set(e)) -/
theorem ve_sset (hl : X.mg "sorted" = none) (hg : Gl X "sorted") (hr : X.mg "set" = none) (hg' : Gl X "set") (hc : X.calm = true) (hK : X.K = KC.K) (ha : VA X EE ios [e] fs) (hs : starEach [.Call (.Name "set" p1) [e] [] p2] X.env = [(false, eval (.Call (.Name "set" p1) [e] [] p2) X.env)] := by rfl)
    (he : starEach [e] X.env = [(false, eval e X.env)] := by rfl) : VE X EE ios (.Call (.Name "sorted" p0) [.Call (.Name "set" p1) [e] [] p2] [] pos) (callM ssetO fs) := by
  obtain ⟨t, h1, h2⟩ := ha
  refine ⟨_, pe_callB (call_sorted_set hc) hg hl (by decide +kernel) (pa_cons (pe_callTy (call_setI hc) hg' hr (by decide +kernel) h1 (he := he) (hpl := rfl)) pa_nil (hs := hs)) (he := hs) (hpl := rfl), fun σ H R Γ Q er w => ?_⟩
  unfold callM at w
  rw [wpM_bind] at w
  refine h2 σ H R Γ _ er (wpM_mono w (fun rvs Γ1 w xs H1 R1 p1 hx => ?_) fun _ _ z => z)
  rw [wpM_bind] at w
  obtain ⟨ds, pd, w⟩ := peekAll_ok p1.er hx w
  obtain ⟨rv, hg, w⟩ := wpM_ofO w
  unfold ssetO at hg
  split at hg
  · rename_i l
    cases h : asIs l with
    | none => rw [h] at hg; cases hg
    | some ns =>
      rw [h] at hg
      have hg : (if ns.length < 64 then some (RV.new (.lst ((srt (dd ns)).map D.int))) else none) = some rv := hg
      split at hg
      · rename_i c
        cases hg
        obtain ⟨x, rfl, p⟩ := pd.one
        obtain ⟨a, ys, rfl, g1, g2⟩ := p.lst p1.er.sub
        rw [asIs_eq h] at g2
        rw [g2.ints_inv] at g1
        refine ⟨a, ns, rfl, SqL.of g1, c, fun l hl => ?_⟩
        refine ⟨l, dd ns, rfl, upd_same, Nat.lt_of_le_of_lt (dd_le ns) c, fun q ns' hq pm pw => ?_⟩
        have e : ns' = srt (dd ns) := srt_uniq (pm.trans (srt_perm _).symm) pw (srt_pw _)
        have al0 : Al R1 H1 R1 (upd H1 l (SetX X l (dd ns))) := al_any p1.er.sub hl
        obtain ⟨al, rv⟩ := al_new al0.sub hq (Rps.ints (R := R1) (srt (dd ns)))
        rw [e]
        exact w _ _ _ ((p1.al al0).al al) (rv.rv ((p1.al al0).back er))
      · cases hg
  · cases hg
end
end Dv
end

section
set_option Elab.async false
set_option linter.all false
set_option maxRecDepth 100000
set_option maxHeartbeats 5000000
namespace K15
open PySem L2 Ex Dv
def whileN : Nat := 100000
/-- the exceptions of the text -/
def exL : List Cn := [.NoPoints, .NoBox, .NoAsks, .NoRun, .NoText, .NoTurn, .NoTree, .NoTop, .NotServed, .NoRow, .NoPoint, .NoName, .NoKey, .NoBack, .TooMany]
def mt_PointError_NoPoint_TooMany : Cn → Bool := fun C => ([.NoPoints, .NoBox, .NoAsks, .NoRun, .NoText, .NoTurn, .NoTree, .NoTop, .NotServed, .NoRow, .NoPoint, .TooMany] : List Cn).contains C
noncomputable def bm__law_ahead (G__law_ahead : List D → Option Rt) : M Fl :=
  (seqM (ifM (M.bind (op2 isO (vName 0) (M.pure (.val .non))) asB)
  (retM (lstM (M.pure [])))
  (M.pure .nx))
  (retM (op2 addO (op2 addO (lstM (consM (op2 idxO (vName 0) (M.pure (.val (.int 0)))) (M.pure []))) (callP G__law_ahead (consM (op2 idxO (vName 0) (M.pure (.val (.int 1)))) (M.pure [])))) (callP G__law_ahead (consM (op2 idxO (vName 0) (M.pure (.val (.int 2)))) (M.pure []))))))
noncomputable def bm__law_way  : M Fl :=
  (seqM (asgM 2 (lstM (M.pure [])))
  (seqM (whileM (andM (M.bind (op2 isntO (vName 0) (M.pure (.val .non))) asB) (orM (M.bind (op2 eqO2 (vName 2) (lstM (M.pure []))) asB) (M.bind (op2 neO2 (op2 idxO (vName 2) (op1 negO (M.pure (.val (.int 1))))) (vName 1)) asB)))
  (seqM (dropM (metM 2 appendG (consM (op2 idxO (vName 0) (M.pure (.val (.int 0)))) (M.pure []))))
  (asgM 0 (op2 idxO (lstM (consM (op2 idxO (vName 0) (M.pure (.val (.int 2)))) (consM (op2 idxO (vName 0) (M.pure (.val (.int 1)))) (M.pure [])))) (callM intO1 (consM (op2 ltO (vName 1) (op2 idxO (vName 0) (M.pure (.val (.int 0))))) (M.pure [])))))) whileN)
  (retM (vName 2))))
noncomputable def bm__law_is_top (G__law_way : List D → Option Rt) : M Fl :=
  (seqM (ifM (M.bind (op2 eqO2 (vName 1) (lstM (M.pure []))) asB)
  (retM (M.pure (.val (.bl false))))
  (M.pure .nx))
  (seqM (forM (lstI (vName 1)) (gN 2)
  (seqM (asgM 3 (callP G__law_way (consM (vName 0) (consM (vName 2) (M.pure [])))))
  (ifM (orM (M.bind (op2 neO2 (op2 idxO (vName 3) (op1 negO (M.pure (.val (.int 1))))) (vName 2)) asB) (M.bind (op2 neO2 (compM (lstI (vName 3)) [1] 1 (gN 0) (M.bind (op2 (inO true) (vName 0) (vName 1)) asB) (vName 0)) (lstM (M.pure []))) asB))
  (retM (M.pure (.val (.bl false))))
  (M.pure .nx))))
  (retM (M.pure (.val (.bl true))))))
noncomputable def bm__law_cell_at  : M Fl :=
  (seqM (ifM (M.bind (op2 ltO (vName 1) (callM lenO (consM (vName 0) (M.pure [])))) asB)
  (retM (op2 idxO (vName 0) (vName 1)))
  (M.pure .nx))
  (retM (M.pure (.val (.int 0)))))
noncomputable def bm__law_pool (G__law_cell_at : List D → Option Rt) : M Fl :=
  (seqM (asgM 2 (callP G__law_cell_at (consM (vName 0) (consM (vName 1) (M.pure [])))))
  (seqM (asgM 3 (op2 modO (op2 mulO (op2 addO (op2 addO (op2 addO (op2 modO (vName 2) (M.pure (.val (.int 2147483629)))) (op2 mulO (op2 mulO (M.pure (.val (.int 7919))) (vName 1)) (vName 1))) (op2 mulO (M.pure (.val (.int 104729))) (vName 1))) (M.pure (.val (.int 1)))) (M.pure (.val (.int 48271)))) (M.pure (.val (.int 2147483647)))))
  (seqM (ifM (M.bind (op2 ltO (vName 2) (op2 powO (M.pure (.val (.int 10))) (M.pure (.val (.int 18))))) asB)
  (asgM 2 (M.pure (.val (.int 0))))
  (M.pure .nx))
  (retM (lstM (consM (vName 2) (consM (op2 modO (op2 mulO (vName 3) (vName 3)) (M.pure (.val (.int 2147483629)))) (M.pure []))))))))
noncomputable def bm__law_take  : M Fl :=
  (seqM (ifM (M.bind (op2 gtO (op2 idxO (vName 0) (M.pure (.val (.int 0)))) (M.pure (.val (.int 0)))) asB)
  (seqM (asgM 2 (op2 modO (op2 idxO (vName 0) (M.pure (.val (.int 0)))) (vName 1)))
  (seqM (asgG (gS 0 (M.pure (.val (.int 0)))) (op2 fdivO (op2 idxO (vName 0) (M.pure (.val (.int 0)))) (vName 1)))
  (retM (vName 2))))
  (M.pure .nx))
  (seqM (asgG (gS 0 (M.pure (.val (.int 1)))) (op2 modO (op2 addO (op2 mulO (op2 idxO (vName 0) (M.pure (.val (.int 1)))) (M.pure (.val (.int 48271)))) (M.pure (.val (.int 11)))) (M.pure (.val (.int 2147483647)))))
  (retM (op2 modO (op2 fdivO (op2 modO (op2 mulO (op2 idxO (vName 0) (M.pure (.val (.int 1)))) (op2 idxO (vName 0) (M.pure (.val (.int 1))))) (M.pure (.val (.int 2147483629)))) (M.pure (.val (.int 64)))) (vName 1)))))
noncomputable def bm__law_some_keys (G__law_take : GI) : M Fl :=
  (seqM (asgM 2 (lstM (M.pure [])))
  (seqM (forM (rng1 (consM (vName 1) (M.pure []))) (gN 3)
  (seqM (asgM 4 (callI G__law_take (consM (vName 0) (consM (M.pure (.val (.int 31))) (M.pure [])))))
  (ifM (M.bind (op2 (inO true) (vName 4) (vName 2)) asB)
  (dropM (metM 2 appendG (consM (vName 4) (M.pure []))))
  (M.pure .nx))))
  (retM (callM sortedO (consM (vName 2) (M.pure []))))))
noncomputable def bm__law_tree (G__law_take : GI) (G__law_tree : GI) : M Fl :=
  (seqM (ifM (M.bind (op2 eqO2 (vName 1) (lstM (M.pure []))) asB)
  (retM (M.pure (.val .non)))
  (M.pure .nx))
  (seqM (asgM 2 (callI G__law_take (consM (vName 0) (consM (callM lenO (consM (vName 1) (M.pure []))) (M.pure [])))))
  (retM (tupM (consM (op2 idxO (vName 1) (vName 2)) (consM (callI G__law_tree (consM (vName 0) (consM (slcM cutO (vName 1) (M.pure none) (M.bind (vName 2) asI)) (M.pure [])))) (consM (callI G__law_tree (consM (vName 0) (consM (slcM cutO (vName 1) (M.bind (op2 addO (vName 2) (M.pure (.val (.int 1)))) asI) (M.pure none)) (M.pure [])))) (M.pure []))))))))
noncomputable def bm__law_some_top (G__law_take : GI) (G__law_tree : GI) : M Fl :=
  (seqM (asgM 3 (lstM (M.pure [])))
  (seqM (asgM 4 (lstM (consM (vName 1) (M.pure []))))
  (seqM (whileM (andM (M.bind (op2 neO2 (vName 4) (lstM (M.pure []))) asB) (M.bind (op2 ltO (callM lenO (consM (vName 3) (M.pure []))) (vName 2)) asB))
  (seqM (asgM 5 (metM 4 popAtG (consM (callI G__law_take (consM (vName 0) (consM (callM lenO (consM (vName 4) (M.pure []))) (M.pure [])))) (M.pure []))))
  (ifM (M.bind (op2 isntO (vName 5) (M.pure (.val .non))) asB)
  (seqM (dropM (metM 3 appendG (consM (op2 idxO (vName 5) (M.pure (.val (.int 0)))) (M.pure []))))
  (asgM 4 (op2 addO (vName 4) (lstM (consM (op2 idxO (vName 5) (M.pure (.val (.int 1)))) (consM (op2 idxO (vName 5) (M.pure (.val (.int 2)))) (M.pure [])))))))
  (M.pure .nx))) whileN)
  (retM (callI G__law_tree (consM (vName 0) (consM (callM sortedO (consM (vName 3) (M.pure []))) (M.pure []))))))))
noncomputable def bm__law_kind  : M Fl :=
  (seqM (asgM 1 (lstM (consM (isiX exL .NoPoints (vName 0)) (consM (isiX exL .NoBox (vName 0)) (consM (isiX exL .NoAsks (vName 0)) (consM (isiX exL .NoRun (vName 0)) (M.pure [])))))))
  (seqM (asgM 1 (op2 addO (vName 1) (lstM (consM (isiX exL .NoText (vName 0)) (consM (isiX exL .NoTurn (vName 0)) (consM (isiX exL .NoTree (vName 0)) (M.pure [])))))))
  (seqM (asgM 1 (op2 addO (vName 1) (lstM (consM (isiX exL .NoTop (vName 0)) (consM (isiX exL .NotServed (vName 0)) (consM (isiX exL .NoRow (vName 0)) (M.pure [])))))))
  (seqM (asgM 1 (op2 addO (vName 1) (lstM (consM (isiX exL .NoPoint (vName 0)) (consM (isiX exL .NoName (vName 0)) (consM (isiX exL .NoKey (vName 0)) (M.pure [])))))))
  (seqM (asgM 1 (op2 addO (vName 1) (lstM (consM (isiX exL .NoBack (vName 0)) (consM (isiX exL .TooMany (vName 0)) (M.pure []))))))
  (seqM (ifM (orM (M.bind (op2 neO2 (metR 1 countO (consM (M.pure (.val (.bl true))) (M.pure []))) (M.pure (.val (.int 1)))) asB) (M.bind (op2 neO2 (isiX exL .PointError (vName 0)) (op2 ltO (metR 1 indexO (consM (M.pure (.val (.bl true))) (M.pure []))) (M.pure (.val (.int 10))))) asB))
  (retM (M.pure (.val (.str "odd"))))
  (M.pure .nx))
  (seqM (asgM 2 (lstM (consM (M.pure (.val (.str "points"))) (consM (M.pure (.val (.str "box"))) (consM (M.pure (.val (.str "asks"))) (consM (M.pure (.val (.str "run"))) (consM (M.pure (.val (.str "text"))) (consM (M.pure (.val (.str "turn"))) (consM (M.pure (.val (.str "tree"))) (consM (M.pure (.val (.str "top"))) (consM (M.pure (.val (.str "served"))) (consM (M.pure (.val (.str "row"))) (consM (M.pure (.val (.str "point"))) (consM (M.pure (.val (.str "name"))) (consM (M.pure (.val (.str "key"))) (M.pure []))))))))))))))))
  (retM (op2 idxO (op2 addO (vName 2) (lstM (consM (M.pure (.val (.str "back"))) (consM (M.pure (.val (.str "many"))) (M.pure []))))) (metR 1 indexO (consM (M.pure (.val (.bl true))) (M.pure []))))))))))))
noncomputable def bm_rising (G_rising : List D → Option Rt) : M Fl :=
  (seqM (ifM (M.bind (op2 isO (vName 0) (M.pure (.val .non))) asB)
  (retM (lstM (M.pure [])))
  (M.pure .nx))
  (seqM (asgG (gT 3 (gsC (gN 1) (gsC (gN 2) (gsC (gN 3) gs0)))) (vName 0))
  (retM (op2 addO (op2 addO (callP G_rising (consM (vName 2) (M.pure []))) (lstM (consM (vName 1) (M.pure [])))) (callP G_rising (consM (vName 3) (M.pure [])))))))
noncomputable def bm_hung (G_hung : List D → Option Rt) (G_rising : List D → Option Rt) : M Fl :=
  (seqM (ifM (M.bind (op2 isO (vName 0) (M.pure (.val .non))) asB)
  (retM (op2 idxO (vName 1) (M.pure (.val (.int 0)))))
  (M.pure .nx))
  (seqM (asgG (gT 3 (gsC (gN 2) (gsC (gN 3) (gsC (gN 4) gs0)))) (vName 0))
  (seqM (asgM 5 (op2 addO (callM lenO (consM (callP G_rising (consM (vName 3) (M.pure []))) (M.pure []))) (M.pure (.val (.int 1)))))
  (retM (tupM (consM (vName 2) (consM (callP G_hung (consM (vName 3) (consM (slcM cutO (vName 1) (M.pure none) (M.bind (vName 5) asI)) (M.pure [])))) (consM (callP G_hung (consM (vName 4) (consM (slcM cutO (vName 1) (M.bind (vName 5) asI) (M.pure none)) (M.pure [])))) (M.pure [])))))))))
noncomputable def bm_is_key  : M Fl :=
  (retM (andV (isiM .int (vName 0)) (andV (valB (ngM (M.bind (isiM .bool (vName 0)) asB))) (op3 leO leO (M.pure (.val (.int 0))) (vName 0) (M.pure (.val (.int 30)))))))
noncomputable def bm_is_between (G_is_between : List D → Option Rt) (G_is_key : List D → Option Rt) : M Fl :=
  (seqM (ifM (M.bind (op2 isO (vName 0) (M.pure (.val .non))) asB)
  (retM (M.pure (.val (.bl true))))
  (M.pure .nx))
  (seqM (ifM (orM (ngM (M.bind (isiM .tuple (vName 0)) asB)) (M.bind (op2 neO2 (callM lenO (consM (vName 0) (M.pure []))) (M.pure (.val (.int 3)))) asB))
  (retM (M.pure (.val (.bl false))))
  (M.pure .nx))
  (seqM (asgG (gT 3 (gsC (gN 3) (gsC (gN 4) (gsC (gN 5) gs0)))) (vName 0))
  (retM (andV (callP G_is_key (consM (vName 3) (M.pure []))) (andV (op3 ltO ltO (vName 1) (vName 3) (vName 2)) (andV (callP G_is_between (consM (vName 4) (consM (vName 1) (consM (vName 3) (M.pure []))))) (callP G_is_between (consM (vName 5) (consM (vName 3) (consM (vName 2) (M.pure []))))))))))))
noncomputable def bm_is_tree (G_is_between : List D → Option Rt) : M Fl :=
  (retM (callP G_is_between (consM (vName 0) (consM (op1 negO (M.pure (.val (.int 1)))) (consM (op2 addO (M.pure (.val (.int 30))) (M.pure (.val (.int 1)))) (M.pure []))))))
noncomputable def bm_look_at_tree (G_is_tree : List D → Option Rt) : M Fl :=
  (ifM (ngM (M.bind (callP G_is_tree (consM (vName 0) (M.pure []))) asB))
  (raise0M .NoTree (consM (M.pure (.val (.str "no tree of at most 31 keys in order"))) (M.pure [])))
  (M.pure .nx))
noncomputable def bm_parts_beneath (G_parts_beneath : List D → Option Rt) : M Fl :=
  (seqM (ifM (orM (M.bind (op2 isO (vName 0) (M.pure (.val .non))) asB) (M.bind (op2 (inO true) (op2 idxO (vName 0) (M.pure (.val (.int 0)))) (vName 1)) asB))
  (retM (lstM (consM (vName 0) (M.pure []))))
  (M.pure .nx))
  (retM (op2 addO (callP G_parts_beneath (consM (op2 idxO (vName 0) (M.pure (.val (.int 1)))) (consM (vName 1) (M.pure [])))) (callP G_parts_beneath (consM (op2 idxO (vName 0) (M.pure (.val (.int 2)))) (consM (vName 1) (M.pure [])))))))
noncomputable def bm_is_top (G_is_tree : List D → Option Rt) (G_look_at_tree : List D → Option Rx) (G_parts_beneath : List D → Option Rt) (G_rising : List D → Option Rt) : M Fl :=
  (seqM (dropM (callX G_look_at_tree (consM (vName 0) (M.pure []))))
  (seqM (ifM (orM (M.bind (op2 isO (vName 1) (M.pure (.val .non))) asB) (ngM (M.bind (callP G_is_tree (consM (vName 1) (M.pure []))) asB)))
  (retM (M.pure (.val (.bl false))))
  (M.pure .nx))
  (seqM (asgM 2 (callP G_rising (consM (vName 1) (M.pure []))))
  (retM (op2 eqO2 (callM lenO (consM (callP G_parts_beneath (consM (vName 0) (consM (vName 2) (M.pure [])))) (M.pure []))) (op2 addO (callM lenO (consM (vName 2) (M.pure []))) (M.pure (.val (.int 1)))))))))
noncomputable def bm_turned (G_hung : List D → Option Rt) (G_is_top : List D → Option Rx) (G_parts_beneath : List D → Option Rt) (G_rising : List D → Option Rt) : M Fl :=
  (seqM (ifM (ngM (M.bind (callX G_is_top (consM (vName 0) (consM (vName 1) (M.pure [])))) asB))
  (raise0M .NoTop (consM (M.pure (.val (.str "no top of the tree"))) (M.pure [])))
  (M.pure .nx))
  (retM (callP G_hung (consM (vName 1) (consM (callP G_parts_beneath (consM (vName 0) (consM (callP G_rising (consM (vName 1) (M.pure []))) (M.pure [])))) (M.pure []))))))
noncomputable def bm__law_told (G__law_kind : List D → Option Rt) (G_turned : List D → Option Rx) : M Fl :=
  (seqM (asgM 2 (M.pure (.val .non)))
  (seqM (tryM mt_PointError_NoPoint_TooMany 3
  (dropM (callX G_turned (consM (vName 0) (consM (vName 1) (M.pure [])))))
  (asgM 2 (vName 3)))
  (retM (iteM (M.bind (op2 isO (vName 2) (M.pure (.val .non))) asB) (M.pure (.val (.str "told"))) (callP G__law_kind (consM (vName 2) (M.pure [])))))))
noncomputable def bm_law (G__law_ahead : List D → Option Rt) (G__law_is_top : List D → Option Rt) (G__law_pool : List D → Option Rt) (G__law_some_keys : GI) (G__law_some_top : GI) (G__law_take : GI) (G__law_told : List D → Option Rt) (G__law_tree : GI) (G_is_top : List D → Option Rx) : M Fl :=
  (seqM (forM (rng1 (consM (callM max2O (consM (M.pure (.val (.int 1))) (consM (callM min2O (consM (M.pure (.val (.int 8))) (consM (callM lenO (consM (vName 0) (M.pure []))) (M.pure [])))) (M.pure [])))) (M.pure []))) (gN 1)
  (seqM (asgM 2 (callP G__law_pool (consM (vName 0) (consM (vName 1) (M.pure [])))))
  (seqM (asgM 3 (callI G__law_some_keys (consM (vName 2) (consM (op2 addO (M.pure (.val (.int 1))) (callI G__law_take (consM (vName 2) (consM (M.pure (.val (.int 50))) (M.pure []))))) (M.pure [])))))
  (seqM (asgM 4 (callI G__law_tree (consM (vName 2) (consM (vName 3) (M.pure [])))))
  (seqM (forM (rng1 (consM (M.pure (.val (.int 12))) (M.pure []))) (gN 5)
  (seqM (asgM 6 (callI G__law_some_top (consM (vName 2) (consM (vName 4) (consM (op2 addO (M.pure (.val (.int 1))) (callI G__law_take (consM (vName 2) (consM (M.pure (.val (.int 12))) (M.pure []))))) (M.pure []))))))
  (seqM (asgM 7 (callM sortedO (consM (callP G__law_ahead (consM (vName 6) (M.pure []))) (M.pure []))))
  (seqM (asgM 8 (lstM (consM (vName 7) (consM (slcM cutO (vName 7) (M.bind (M.pure (.val (.int 1))) asI) (M.pure none)) (consM (slcM cutO (vName 7) (M.pure none) (M.bind (op1 negO (M.pure (.val (.int 1)))) asI)) (consM (callM ssetO (consM (op2 addO (vName 7) (lstM (consM (op2 idxO (vName 3) (callI G__law_take (consM (vName 2) (consM (callM lenO (consM (vName 3) (M.pure []))) (M.pure []))))) (M.pure [])))) (M.pure []))) (M.pure [])))))))
  (seqM (asgM 8 (op2 addO (vName 8) (lstM (consM (callM ssetO (consM (op2 addO (vName 7) (lstM (consM (callI G__law_take (consM (vName 2) (consM (M.pure (.val (.int 31))) (M.pure [])))) (M.pure [])))) (M.pure []))) (consM (callI G__law_some_keys (consM (vName 2) (consM (M.pure (.val (.int 3))) (M.pure [])))) (consM (lstM (consM (op2 idxO (vName 3) (op1 negO (M.pure (.val (.int 1))))) (M.pure []))) (consM (lstM (consM (op2 idxO (vName 4) (M.pure (.val (.int 0)))) (M.pure []))) (M.pure []))))))))
  (seqM (asgM 9 (op2 idxO (vName 8) (callI G__law_take (consM (vName 2) (consM (M.pure (.val (.int 8))) (M.pure []))))))
  (seqM (asgM 10 (callI G__law_tree (consM (vName 2) (consM (vName 9) (M.pure [])))))
  (seqM (asgM 11 (callP G__law_is_top (consM (vName 4) (consM (vName 9) (M.pure [])))))
  (seqM (ifM (orM (M.bind (op2 isntB (callX G_is_top (consM (vName 4) (consM (vName 6) (M.pure [])))) (M.pure (.val (.bl true)))) asB) (M.bind (op2 neO2 (callM reprB (consM (callX G_is_top (consM (vName 4) (consM (vName 10) (M.pure [])))) (M.pure []))) (callM reprB (consM (vName 11) (M.pure [])))) asB))
  (retM (M.pure (.val (.bl false))))
  (M.pure .nx))
  (ifM (M.bind (op2 neO2 (callP G__law_told (consM (vName 4) (consM (vName 10) (M.pure [])))) (op2 idxO (lstM (consM (M.pure (.val (.str "top"))) (consM (M.pure (.val (.str "told"))) (M.pure [])))) (callM intO1 (consM (vName 11) (M.pure []))))) asB)
  (retM (M.pure (.val (.bl false))))
  (M.pure .nx)))))))))))
  (seqM (forM (lstI (lstM (consM (M.pure (.val .non)) (consM (M.pure (.val (.bl true))) (consM (M.pure (.val (.int 3))) (consM (lstM (M.pure [])) (consM (tupM (consM (op2 idxO (vName 4) (M.pure (.val (.int 0)))) (M.pure []))) (consM (lstM (consM (op2 idxO (vName 4) (M.pure (.val (.int 0)))) (consM (M.pure (.val .non)) (consM (M.pure (.val .non)) (M.pure []))))) (consM (tupM (consM (M.pure (.val (.bl true))) (consM (M.pure (.val .non)) (consM (M.pure (.val .non)) (M.pure []))))) (consM (M.pure (.val (.str ""))) (consM (tupM (consM (M.pure (.val (.int 31))) (consM (M.pure (.val .non)) (consM (M.pure (.val .non)) (M.pure []))))) (M.pure [])))))))))))) (gN 10)
  (ifM (orM (M.bind (op2 isntB (callX G_is_top (consM (vName 4) (consM (vName 10) (M.pure [])))) (M.pure (.val (.bl false)))) asB) (M.bind (op2 neO2 (callP G__law_told (consM (vName 4) (consM (vName 10) (M.pure [])))) (M.pure (.val (.str "top")))) asB))
  (retM (M.pure (.val (.bl false))))
  (M.pure .nx)))
  (ifM (orM (M.bind (op2 isntB (callX G_is_top (consM (M.pure (.val .non)) (consM (vName 4) (M.pure [])))) (M.pure (.val (.bl false)))) asB) (M.bind (op2 neO2 (callP G__law_told (consM (M.pure (.val .non)) (consM (vName 4) (M.pure [])))) (M.pure (.val (.str "top")))) asB))
  (retM (M.pure (.val (.bl false))))
  (M.pure .nx))))))))
  (retM (M.pure (.val (.bl true)))))
noncomputable def G__law_ahead : Nat → (List D → Option Rt)
  | 0 => fun _ => none
  | n + 1 => runP 1 ["_law_tree_here"] (bm__law_ahead (G__law_ahead n))
noncomputable def G__law_way : List D → Option Rt := runP 2 ["_law_tree_here", "_law_key", "_law_found"] (bm__law_way )
noncomputable def G__law_is_top : List D → Option Rt := runP 2 ["_law_tree_here", "_law_own", "_law_key", "_law_way_here"] (bm__law_is_top G__law_way)
noncomputable def G__law_cell_at : List D → Option Rt := runP 2 ["_law_script", "_law_k"] (bm__law_cell_at )
noncomputable def G__law_pool : List D → Option Rt := runP 2 ["_law_script", "_law_k", "_law_cell", "_law_seed"] (bm__law_pool G__law_cell_at)
noncomputable def G__law_take : GI := runI 2 ["_law_pool_here", "_law_many", "_law_found"] (bm__law_take )
noncomputable def G__law_some_keys : GI := runI 2 ["_law_pool_here", "_law_many", "_law_found", "_law_turn", "_law_key"] (bm__law_some_keys G__law_take)
noncomputable def G__law_tree : Nat → (GI)
  | 0 => fun _ _ => none
  | n + 1 => runI 2 ["_law_pool_here", "_law_keys", "_law_at"] (bm__law_tree G__law_take (G__law_tree n))
noncomputable def G__law_some_top : GI := runI 3 ["_law_pool_here", "_law_tree_here", "_law_many", "_law_found", "_law_border", "_law_node"] (bm__law_some_top G__law_take (G__law_tree 48))
noncomputable def G__law_kind : List D → Option Rt := runP 1 ["_law_error", "_law_kinds", "_law_words"] (bm__law_kind )
noncomputable def G_rising : Nat → (List D → Option Rt)
  | 0 => fun _ => none
  | n + 1 => runP 1 ["tree", "key", "left", "right"] (bm_rising (G_rising n))
noncomputable def G_hung : Nat → (List D → Option Rt)
  | 0 => fun _ => none
  | n + 1 => runP 2 ["top", "parts", "key", "left", "right", "places"] (bm_hung (G_hung n) (G_rising 48))
noncomputable def G_is_key : List D → Option Rt := runP 1 ["thing"] (bm_is_key )
noncomputable def G_is_between : Nat → (List D → Option Rt)
  | 0 => fun _ => none
  | n + 1 => runP 3 ["thing", "low", "high", "key", "left", "right"] (bm_is_between (G_is_between n) G_is_key)
noncomputable def G_is_tree : List D → Option Rt := runP 1 ["thing"] (bm_is_tree (G_is_between 48))
noncomputable def G_look_at_tree : List D → Option Rx := runX 1 ["thing"] (bm_look_at_tree G_is_tree)
noncomputable def G_parts_beneath : Nat → (List D → Option Rt)
  | 0 => fun _ => none
  | n + 1 => runP 2 ["tree", "keys"] (bm_parts_beneath (G_parts_beneath n))
noncomputable def G_is_top : List D → Option Rx := runX 2 ["tree", "thing", "keys"] (bm_is_top G_is_tree G_look_at_tree (G_parts_beneath 48) (G_rising 48))
noncomputable def G_turned : List D → Option Rx := runX 2 ["tree", "top"] (bm_turned (G_hung 48) G_is_top (G_parts_beneath 48) (G_rising 48))
noncomputable def G__law_told : List D → Option Rt := runP 2 ["_law_tree_here", "_law_thing", "_law_caught", "e"] (bm__law_told G__law_kind G_turned)
noncomputable def G_law : List D → Option Rt := runP 1 ["_law_script", "_law_k", "_law_pool_here", "_law_own", "_law_tree_here", "_law_turn", "_law_top", "_law_there", "_law_some", "_law_keys", "_law_thing", "_law_due"] (bm_law (G__law_ahead 48) G__law_is_top G__law_pool G__law_some_keys G__law_some_top G__law_take G__law_told (G__law_tree 48) G_is_top)
end K15
end

section
set_option Elab.async false
set_option linter.all false
set_option maxRecDepth 100000
set_option maxHeartbeats 1000000
/-! trees -/
namespace Tr
open PySem L2 Ex Dv
inductive T where
  | nil | node (k : Int) (l r : T)
  deriving DecidableEq
def T.d : T → D
  | .nil => .non
  | .node k l r => .tup [.int k, l.d, r.d]
def T.ht : T → Nat
  | .nil => 0
  | .node _ l r => max l.ht r.ht + 1
def T.size : T → Nat
  | .nil => 0
  | .node _ l r => l.size + r.size + 1
def T.ino : T → List Int
  | .nil => []
  | .node k l r => l.ino ++ k :: r.ino
def T.pre : T → List Int
  | .nil => []
  | .node k l r => k :: (l.pre ++ r.pre)
abbrev ofI (ns : List Int) : D := .lst (ns.map D.int)
abbrev ofT (ts : List T) : D := .lst (ts.map T.d)
theorem line : 20000 ≤ sizeLine := by decide
theorem ino_len : ∀ t : T, t.ino.length = t.size
  | .nil => rfl
  | .node k l r => by simp [T.ino, T.size, ino_len l, ino_len r]; omega
theorem ht_size : ∀ t : T, t.ht ≤ t.size
  | .nil => Nat.le_refl _
  | .node k l r => by have := ht_size l; have := ht_size r; simp [T.ht, T.size]; omega
/-- keys from 0 to 30, in order, between two bounds -/
def T.B : Int → Int → T → Prop
  | _, _, .nil => True
  | lo, hi, .node k l r => (0 ≤ k ∧ k ≤ 30) ∧ (lo < k ∧ k < hi) ∧ T.B lo k l ∧ T.B k hi r
/-- a rising list between two bounds -/
def Up : Int → Int → List Int → Prop
  | _, _, [] => True
  | lo, hi, k :: r => lo < k ∧ k < hi ∧ Up k hi r
theorem Up.lt {lo hi : Int} : ∀ {ns : List Int}, Up lo hi ns → ∀ k ∈ ns, lo < k ∧ k < hi
  | [], _, k, h => nomatch h
  | n :: r, ⟨h1, h2, h3⟩, k, hk => by
    rcases List.mem_cons.mp hk with rfl | hk
    · exact ⟨h1, h2⟩
    · have := Up.lt h3 k hk; omega
theorem Up.weak {lo lo' hi hi' : Int} (h1 : lo' ≤ lo) (h2 : hi ≤ hi') : ∀ {ns : List Int}, Up lo hi ns → Up lo' hi' ns
  | [], _ => trivial
  | n :: r, ⟨a, b, c⟩ => ⟨by omega, by omega, Up.weak (Int.le_refl n) h2 c⟩
theorem up_app {lo hi k : Int} : ∀ {ns ms : List Int}, Up lo hi (ns ++ k :: ms) ↔ Up lo k ns ∧ lo < k ∧ k < hi ∧ Up k hi ms
  | [], ms => by simp [Up]
  | n :: r, ms => by
    simp only [List.cons_append, Up]
    rw [up_app (lo := n)]
    constructor
    · rintro ⟨a, b, c, d, e, f⟩; exact ⟨⟨a, d, c⟩, by omega, e, f⟩
    · rintro ⟨⟨a, d, c⟩, _, e, f⟩; exact ⟨a, by omega, c, d, e, f⟩
theorem B_iff : ∀ (t : T) (lo hi : Int), t.B lo hi ↔ Up lo hi t.ino ∧ ∀ k ∈ t.ino, 0 ≤ k ∧ k ≤ 30
  | .nil, _, _ => by simp [T.B, Up, T.ino]
  | .node k l r, lo, hi => by
    simp only [T.B, T.ino, up_app, B_iff l, B_iff r]
    constructor
    · rintro ⟨a, ⟨b, c⟩, ⟨d, e⟩, f, g⟩
      refine ⟨⟨d, b, c, f⟩, fun x hx => ?_⟩
      rcases List.mem_append.1 hx with hx | hx
      · exact e x hx
      · rcases List.mem_cons.mp hx with rfl | hx
        · exact a
        · exact g x hx
    · rintro ⟨⟨d, b, c, f⟩, h⟩
      exact ⟨h k (by simp), ⟨b, c⟩, ⟨d, fun x hx => h x (by simp [hx])⟩, f, fun x hx => h x (by simp [hx])⟩
theorem Up.len {lo hi : Int} : ∀ {ns : List Int}, Up lo hi ns → lo < hi → (ns.length : Int) < hi - lo
  | [], _, h => by simp; omega
  | n :: r, ⟨a, b, c⟩, _ => by have := Up.len c b; simp; omega
theorem B_size {t : T} (h : t.B (-1) 31) : t.size ≤ 31 := by
  have := Up.len ((B_iff t _ _).mp h).1 (by omega)
  rw [ino_len] at this; omega
theorem Up.nodup {lo hi : Int} : ∀ {ns : List Int}, Up lo hi ns → ns.Nodup
  | [], _ => List.nodup_nil
  | n :: r, ⟨a, b, c⟩ => List.nodup_cons.mpr ⟨fun z => by have := Up.lt c n z; omega, Up.nodup c⟩
theorem Up.pw {lo hi : Int} : ∀ {ns : List Int}, Up lo hi ns → ns.Pairwise (· < ·)
  | [], _ => .nil
  | n :: r, ⟨a, b, c⟩ => List.pairwise_cons.mpr ⟨fun k hk => (Up.lt c k hk).1, Up.pw c⟩
theorem up_of_pw {lo hi : Int} : ∀ {ns : List Int}, ns.Pairwise (· < ·) → (∀ k ∈ ns, lo < k ∧ k < hi) → Up lo hi ns
  | [], _, _ => trivial
  | n :: r, h, hb => by
    obtain ⟨h1, h2⟩ := List.pairwise_cons.1 h
    exact ⟨(hb n (by simp)).1, (hb n (by simp)).2, up_of_pw h2 fun k hk => ⟨h1 k hk, (hb k (by simp [hk])).2⟩⟩
/-! as data -/
theorem d_lay : ∀ t : T, t.d.py.canLay0 = true
  | .nil => rfl
  | .node k l r => by simp [T.d, D.py, D.pys, PyData.canLay0, PyData.canLayAll0, d_lay l, d_lay r]
theorem d_depth : ∀ t : T, t.d.py.depth = t.ht
  | .nil => rfl
  | .node k l r => by simp [T.d, D.py, D.pys, PyData.depth, PyData.depthAll, d_depth l, d_depth r, T.ht]
theorem pys_map {α : Type} (f : α → D) : ∀ xs : List α, D.pys (xs.map f) = xs.map fun x => (f x).py
  | [] => rfl
  | x :: r => by simp [D.pys, pys_map f r]
theorem lay_all {ds : List PyData} (h : ∀ d ∈ ds, d.canLay0 = true) : PyData.canLayAll0 ds = true := by
  induction ds with
  | nil => rfl
  | cons d r ih => simp [PyData.canLayAll0, h d (by simp), ih fun x hx => h x (by simp [hx])]
theorem depth_all {ds : List PyData} {n : Nat} (h : ∀ d ∈ ds, d.depth ≤ n) : PyData.depthAll ds ≤ n := by
  induction ds with
  | nil => simp [PyData.depthAll]
  | cons d r ih => have := h d (by simp); have := ih fun x hx => h x (by simp [hx]); simp [PyData.depthAll]; omega
theorem eqOk_ts {ts : List T} (h : ∀ t ∈ ts, t.ht ≤ 60) : eqOk (ofT ts) = true := by
  unfold eqOk SeqAt.shaped
  have e : (ofT ts).py = .list (ts.map fun t => t.d.py) := by show PyData.list (D.pys (ts.map T.d)) = _; rw [pys_map]
  rw [e]
  have h1 : PyData.canLayAll0 (ts.map fun t => t.d.py) = true := lay_all fun d hd => by obtain ⟨t, _, rfl⟩ := List.mem_map.mp hd; exact d_lay t
  have h2 : PyData.depthAll (ts.map fun t => t.d.py) ≤ 60 := depth_all fun d hd => by obtain ⟨t, ht, rfl⟩ := List.mem_map.mp hd; rw [d_depth]; exact h t ht
  simp [PyData.canLay0, PyData.depth, h1]; omega
theorem eqOk_is (ns : List Int) : eqOk (ofI ns) = true := by
  unfold eqOk SeqAt.shaped
  have e : (ofI ns).py = .list (ns.map fun t => .int t) := by show PyData.list (D.pys (ns.map D.int)) = _; rw [pys_map]; rfl
  rw [e]
  have h1 : PyData.canLayAll0 (ns.map fun t => .int t) = true := lay_all fun d hd => by obtain ⟨t, _, rfl⟩ := List.mem_map.mp hd; rfl
  have h2 : PyData.depthAll (ns.map fun t => .int t) ≤ 60 := depth_all fun d hd => by obtain ⟨t, ht, rfl⟩ := List.mem_map.mp hd; simp [PyData.depth]
  simp [PyData.canLay0, PyData.depth, h1]; omega
theorem eqB_self {d : D} (h : eqOk d = true) : eqB d d = true := SeqAt.eqv_refl _ (SeqAt.canLay_of_shaped h)
theorem eq2_of {d e : D} (h : ∀ x, d ≠ .str x) : eqO2 d e = eqO d e := by
  unfold eqO2
  split
  · exact absurd rfl (h _)
  · rfl
theorem ne2_of {d e : D} (h : ∀ x, d ≠ .str x) : neO2 d e = neO d e := by
  unfold neO2
  split
  · exact absurd rfl (h _)
  · rfl
theorem neO_self {d : D} (h : eqOk d = true) : neO2 d d = some (.val (.bl false)) := by
  unfold neO2
  split
  · simp
  · unfold neO; rw [h, eqB_self h]; rfl
theorem neO_str (x : Str) : neO2 (.str x) (.str x) = some (.val (.bl false)) := by
  show some (RV.val (.bl (!decide (x = x)))) = _
  simp
theorem eqB_nil (ds : List D) : eqB (.lst ds) (.lst []) = ds.isEmpty := by
  cases ds with
  | nil => rfl
  | cons d r => simp [eqB, D.py, D.pys, PyData.eqv, PyData.eqvAll]
theorem imm_t : ∀ t : T, immD t.d = true
  | .nil => rfl
  | .node k l r => by simp [T.d, immD, immDs, imm_t l, imm_t r]
theorem imm_ts (ts : List T) : immDs (ts.map T.d) = true := by
  induction ts with
  | nil => rfl
  | cons t r ih => simp [immDs, imm_t, ih]
theorem imm_is (ns : List Int) : immDs (ns.map D.int) = true := by
  induction ns with
  | nil => rfl
  | cons t r ih => simp [immDs, immD, ih]
@[simp] theorem immR_t {t : T} : immR (.val t.d) = true := imm_t t
@[simp] theorem immR_ts {ts : List T} : immR (.new (ofT ts)) = true := imm_ts ts
@[simp] theorem immR_is {ns : List Int} : immR (.new (ofI ns)) = true := imm_is ns
@[simp] theorem immR_int {n : Int} : immR (.val (.int n)) = true := rfl
@[simp] theorem immR_bl {n : Bool} : immR (.val (.bl n)) = true := rfl
@[simp] theorem immR_non : immR (.val .non) = true := rfl
end Tr
end

section
set_option Elab.async false
set_option linter.all false
set_option maxRecDepth 100000
set_option maxHeartbeats 1000000
/-! trees that are turned -/
namespace Tr
def parts (S : List Int) : T → List T
  | .nil => [.nil]
  | .node k l r => if k ∈ S then parts S l ++ parts S r else [.node k l r]
def hung : T → List T → T
  | .nil, ps => ps.headD .nil
  | .node k l r, ps => .node k (hung l (ps.take (l.size + 1))) (hung r (ps.drop (l.size + 1)))
def old (S : List Int) : T → T
  | .nil => .nil
  | .node k l r => if k ∈ S then .node k (old S l) (old S r) else .nil
theorem parts_len (S : List Int) : ∀ t : T, (parts S t).length = (old S t).size + 1
  | .nil => rfl
  | .node k l r => by
    unfold parts old
    split
    · rw [List.length_append, parts_len S l, parts_len S r]; simp [T.size]; omega
    · rfl
theorem hung_old (S : List Int) : ∀ t : T, hung (old S t) (parts S t) = t
  | .nil => rfl
  | .node k l r => by
    unfold parts old
    split
    · unfold hung
      rw [← parts_len S l, List.take_left, List.drop_left, hung_old S l, hung_old S r]
    · rfl
/-- keys and parts by turns -/
def il : List Int → List (List Int) → List Int
  | [], p :: _ => p
  | [], [] => []
  | k :: ks, p :: ps => p ++ k :: il ks ps
  | _ :: _, [] => []
theorem il_app {k : Int} {b : List Int} {Q : List (List Int)} : ∀ {a : List Int} {P : List (List Int)}, P.length = a.length + 1 → il (a ++ k :: b) (P ++ Q) = il a P ++ k :: il b Q
  | [], [p], _ => rfl
  | x :: a, p :: P, h => by
    simp only [List.cons_append, il]
    rw [il_app (by simpa using h)]
    simp
theorem hung_ino : ∀ {top : T} {ps : List T}, ps.length = top.size + 1 → (hung top ps).ino = il top.ino (ps.map T.ino)
  | .nil, ps, h => by
    match ps, h with
    | [p], _ => rfl
  | .node k l r, ps, h => by
    simp only [T.size] at h
    unfold hung
    simp only [T.ino]
    rw [hung_ino (top := l) (by rw [List.length_take]; omega), hung_ino (top := r) (by rw [List.length_drop]; omega), ← il_app (by rw [List.length_map, List.length_take, ino_len]; omega), ← List.map_append, List.take_append_drop]
theorem ino_il (S : List Int) (t : T) : t.ino = il (old S t).ino ((parts S t).map T.ino) := by
  rw [← hung_ino (parts_len S t), hung_old]
/-- a top of a tree: its keys are those of the tree's nodes above -/
def TopOf (top t : T) : Prop := (old top.ino t).ino = top.ino
theorem TopOf.len {top t : T} (h : TopOf top t) : (parts top.ino t).length = top.size + 1 := by
  rw [parts_len, ← ino_len, h, ino_len]
theorem mem_il {x : Int} : ∀ {ks : List Int} {ps : List (List Int)}, ps.length = ks.length + 1 → (x ∈ il ks ps ↔ x ∈ ks ∨ ∃ p ∈ ps, x ∈ p)
  | [], [p], _ => by simp [il]
  | k :: ks, p :: ps, h => by
    simp only [il, List.mem_append, List.mem_cons]
    rw [mem_il (by simpa using h)]
    constructor
    · rintro (a | a | a | ⟨q, b, c⟩)
      · exact .inr ⟨p, .inl rfl, a⟩
      · exact .inl (.inl a)
      · exact .inl (.inr a)
      · exact .inr ⟨q, .inr b, c⟩
    · rintro ((a | a) | ⟨q, (rfl | b), c⟩)
      · exact .inr (.inl a)
      · exact .inr (.inr (.inl a))
      · exact .inl c
      · exact .inr (.inr (.inr ⟨q, b, c⟩))
/-! the law's own turning -/
theorem old_congr {S S' : List Int} (h : ∀ x, x ∈ S ↔ x ∈ S') : ∀ t : T, old S t = old S' t
  | .nil => rfl
  | .node k l r => by
    unfold old
    by_cases q : k ∈ S
    · rw [if_pos q, if_pos ((h k).mp q), old_congr h l, old_congr h r]
    · rw [if_neg q, if_neg fun z => q ((h k).mpr z)]
/-! what is met from the root -/
theorem old_sub (S : List Int) : ∀ t : T, (old S t).ino.Sublist t.ino
  | .nil => List.Sublist.refl _
  | .node k l r => by
    unfold old
    split
    · simp only [T.ino]
      exact (old_sub S l).append ((old_sub S r).cons₂ k)
    · exact List.nil_sublist _
theorem old_in {S : List Int} : ∀ {t : T} {x : Int}, x ∈ (old S t).ino → x ∈ S
  | .nil, _, h => nomatch h
  | .node k l r, x, h => by
    unfold old at h
    split at h
    · rename_i q
      simp only [T.ino, List.mem_append, List.mem_cons] at h
      rcases h with h | rfl | h
      · exact old_in h
      · exact q
      · exact old_in h
    · exact nomatch h
theorem old_mono {S S' : List Int} (h : ∀ x ∈ S, x ∈ S') : ∀ {t : T} {x : Int}, x ∈ (old S t).ino → x ∈ (old S' t).ino
  | .nil, _, z => nomatch z
  | .node k l r, x, z => by
    unfold old at z
    split at z
    · rename_i q
      unfold old
      rw [if_pos (h k q)]
      simp only [T.ino, List.mem_append, List.mem_cons] at z ⊢
      rcases z with z | z | z
      · exact .inl (old_mono h z)
      · exact .inr (.inl z)
      · exact .inr (.inr (old_mono h z))
    · exact nomatch z
theorem part_open {S S' : List Int} (h : ∀ x ∈ S, x ∈ S') {k : Int} {a b : T} (hk : k ∈ S') : ∀ {t : T}, .node k a b ∈ parts S t → k ∈ (old S' t).ino ∧ ∀ p, (p = a ∨ p = b) → (∀ x ∈ p.ino, x ∉ S') → p ∈ parts S' t
  | .nil, z => by simp [parts] at z
  | .node c l r, z => by
    unfold parts at z
    split at z
    · rename_i q
      unfold old parts
      rw [if_pos (h c q), if_pos (h c q)]
      simp only [T.ino, List.mem_append, List.mem_cons]
      rcases List.mem_append.mp z with z | z
      · obtain ⟨g1, g2⟩ := part_open h hk z
        exact ⟨.inl g1, fun p e d => .inl (g2 p e d)⟩
      · obtain ⟨g1, g2⟩ := part_open h hk z
        exact ⟨.inr (.inr g1), fun p e d => .inr (g2 p e d)⟩
    · have z : T.node k a b = .node c l r := by simpa using z
      cases z
      unfold old parts
      rw [if_pos hk, if_pos hk]
      refine ⟨by simp [T.ino], fun p e d => ?_⟩
      have self : p ∈ parts S' p := by
        cases p with
        | nil => simp [parts]
        | node c' l' r' =>
          unfold parts
          rw [if_neg (d c' (by simp [T.ino]))]
          simp
      rcases e with rfl | rfl
      · exact List.mem_append_left _ self
      · exact List.mem_append_right _ self
theorem part_keep {S S' : List Int} (h : ∀ x ∈ S, x ∈ S') {p : T} (hp : ∀ x ∈ p.ino, x ∉ S') : ∀ {t : T}, p ∈ parts S t → p ∈ parts S' t
  | .nil, z => by
    have : p = .nil := by simpa [parts] using z
    subst this; simp [parts]
  | .node c l r, z => by
    unfold parts at z
    split at z
    · rename_i q
      unfold parts
      rw [if_pos (h c q)]
      rcases List.mem_append.mp z with z | z
      · exact List.mem_append_left _ (part_keep h hp z)
      · exact List.mem_append_right _ (part_keep h hp z)
    · have z : p = .node c l r := by simpa using z
      subst z
      unfold parts
      rw [if_neg (hp c (by simp [T.ino]))]
      simp
theorem root_out {S : List Int} {k : Int} {a b : T} : ∀ {t : T}, .node k a b ∈ parts S t → k ∉ S
  | .nil, z => by simp [parts] at z
  | .node c l r, z => by
    unfold parts at z
    split at z
    · rcases List.mem_append.mp z with z | z
      · exact root_out z
      · exact root_out z
    · rename_i q
      have z : T.node k a b = .node c l r := by simpa using z
      cases z
      exact q
/-- the walk that draws a top: F the keys met, bd the border -/
structure Walk (t : T) (F : List Int) (bd : List T) : Prop where
  nd : F.Nodup
  met : ∀ x ∈ F, x ∈ (old F t).ino
  fl : (bd.flatMap T.ino).Nodup
  pt : ∀ p ∈ bd, p ∈ parts F t ∧ ∀ x ∈ p.ino, x ∉ F
theorem Walk.start {t : T} (h : t.ino.Nodup) : Walk t [] [t] :=
  ⟨List.nodup_nil, fun _ h => (nomatch h), by simpa using h, fun p hp => by
    have : p = t := by simpa using hp
    subst this
    refine ⟨?_, fun _ _ h => nomatch h⟩
    cases p with
    | nil => simp [parts]
    | node k l r => simp [parts]⟩
theorem erase_perm {α : Type} : ∀ {xs : List α} {i : Nat} {x : α}, xs[i]? = some x → xs.Perm (x :: xs.eraseIdx i)
  | [], _, _, h => by simp at h
  | y :: r, 0, x, h => by simp at h; subst h; exact List.Perm.refl _
  | y :: r, i + 1, x, h => by
    have := erase_perm (xs := r) (i := i) (x := x) (by simpa using h)
    exact (this.cons y).trans (List.Perm.swap x y _)
theorem Walk.drop {t : T} {F : List Int} {bd : List T} {i : Nat} (w : Walk t F bd) (h : bd[i]? = some .nil) : Walk t F (bd.eraseIdx i) := by
  have pm := erase_perm h
  refine ⟨w.nd, w.met, ?_, fun p hp => w.pt p (pm.symm.subset (List.mem_cons_of_mem _ hp))⟩
  have := (pm.flatMap_right T.ino).nodup w.fl
  simpa [T.ino] using this
theorem Walk.step {t : T} {F : List Int} {bd : List T} {i : Nat} {k : Int} {a b : T} (w : Walk t F bd) (h : bd[i]? = some (.node k a b)) : Walk t (F ++ [k]) (bd.eraseIdx i ++ [a, b]) := by
  have pm := erase_perm h
  have hm : T.node k a b ∈ bd := List.mem_of_getElem? h
  obtain ⟨hp, hx⟩ := w.pt _ hm
  have sub : ∀ x ∈ F, x ∈ F ++ [k] := fun x z => by simp [z]
  have hk : k ∉ F := root_out hp
  have fl := (pm.flatMap_right T.ino).nodup w.fl
  have fl : (a.ino ++ (k :: b.ino) ++ (bd.eraseIdx i).flatMap T.ino).Nodup := by simpa [T.ino] using fl
  have out : ∀ p, (p = a ∨ p = b) → ∀ x ∈ p.ino, x ∉ F ++ [k] := fun p e x hxp z => by
    rw [List.append_assoc, List.nodup_append, List.cons_append, List.nodup_cons] at fl
    obtain ⟨n1, ⟨n2, n3⟩, n4⟩ := fl
    rcases List.mem_append.mp z with z | z
    · rcases e with rfl | rfl
      · exact hx x (by simp [T.ino, hxp]) z
      · exact hx x (by simp [T.ino, hxp]) z
    · have z : x = k := by simpa using z
      subst z
      rcases e with rfl | rfl
      · exact n4 x hxp x (by simp) rfl
      · exact n2 (by simp [hxp])
  have op := part_open sub (k := k) (by simp) hp
  refine ⟨?_, fun x z => ?_, ?_, fun p z => ?_⟩
  · rw [List.nodup_append]
    refine ⟨w.nd, by simp, fun x z y z' => ?_⟩
    have e : y = k := by simpa using z'
    intro e'
    rw [e', e] at z
    exact hk z
  · rcases List.mem_append.mp z with z | z
    · exact old_mono sub (w.met x z)
    · have z : x = k := by simpa using z
      subst z
      exact op.1
  · have pp : ((bd.eraseIdx i ++ [a, b]).flatMap T.ino).Perm ((bd.eraseIdx i).flatMap T.ino ++ (a.ino ++ b.ino)) := by simp
    refine pp.symm.nodup ?_
    have q : ((bd.eraseIdx i).flatMap T.ino ++ (a.ino ++ b.ino)).Perm (a.ino ++ (b.ino ++ (bd.eraseIdx i).flatMap T.ino)) := by
      rw [← List.append_assoc a.ino]; exact List.perm_append_comm
    refine q.symm.nodup ?_
    rw [List.append_assoc, List.cons_append] at fl
    exact fl.sublist ((List.Sublist.refl _).append (List.sublist_cons_self ..))
  · rcases List.mem_append.mp z with z | z
    · have hb : p ∈ bd := pm.symm.subset (List.mem_cons_of_mem _ z)
      obtain ⟨h1, h2⟩ := w.pt p hb
      have no : ∀ x ∈ p.ino, x ∉ F ++ [k] := fun x hxp y => by
        rcases List.mem_append.mp y with y | y
        · exact h2 x hxp y
        · have y : x = k := by simpa using y
          subst y
          rw [List.nodup_append] at fl
          exact fl.2.2 x (by simp) x (List.mem_flatMap.mpr ⟨p, z, hxp⟩) rfl
      exact ⟨part_keep sub no h1, no⟩
    · have e : p = a ∨ p = b := by simpa using z
      exact ⟨op.2 p e (out p e), out p e⟩
theorem strict_uniq : ∀ {xs ys : List Int}, xs.Pairwise (· < ·) → ys.Pairwise (· < ·) → (∀ x, x ∈ xs ↔ x ∈ ys) → xs = ys := fun h1 h2 h => by
  have p : List.Perm _ _ := (List.perm_ext_iff_of_nodup (h1.imp fun h => Int.ne_of_lt h) (h2.imp fun h => Int.ne_of_lt h)).mpr h
  exact List.Perm.eq_of_pairwise (le := (· < ·)) (fun a b _ _ x y => absurd x (by omega)) h1 h2 p
/-- what is drawn so is a top, in any form -/
theorem Walk.top {t top : T} {F : List Int} {bd : List T} {lo hi : Int} (w : Walk t F bd) (hb : t.B lo hi) (hs : top.ino.Pairwise (· < ·)) (hm : ∀ x, x ∈ top.ino ↔ x ∈ F) : TopOf top t := by
  unfold TopOf
  rw [old_congr hm]
  refine strict_uniq ((((B_iff t _ _).mp hb).1.pw).sublist (old_sub _ _)) hs fun x => ?_
  rw [hm]
  exact ⟨old_in, w.met x⟩
end Tr
end

section
set_option Elab.async false
set_option linter.all false
set_option maxRecDepth 100000
set_option maxHeartbeats 2000000
namespace K15
open PySem L2 Ex Dv Tr
theorem cd_f {p : Prop} (h : ¬ p) : cd p = false := by cases q : cd p with | false => rfl | true => exact absurd (of_cd q) h
theorem is_key_int (i : Int) : G_is_key [.int i] = some (.val (.bl (decide (0 ≤ i) && decide (i ≤ 30)))) := by
  by_cases h : 0 ≤ i <;> by_cases h' : i ≤ 30 <;> simp [G_is_key, bm_is_key, runP, finR, gam, isTy, h, h']
theorem rising_eq : ∀ (t : T) (n : Nat), t.ht < n → t.size ≤ 1000 → G_rising n [t.d] = some (.new (ofI t.ino))
  | .nil, n + 1, _, _ => by
    simp [G_rising, bm_rising, runP, finR, gam, T.d, T.ino]
  | .node k l r, n + 1, h, hs => by
    have h1 : l.ht < n := by simp [T.ht] at h; omega
    have h2 : r.ht < n := by simp [T.ht] at h; omega
    simp [T.size] at hs
    have i1 := rising_eq l n h1 (by omega)
    have i2 := rising_eq r n h2 (by omega)
    have := line
    have e1 : 1 ≤ sizeLine := by omega
    have e2 : l.size + 1 ≤ sizeLine := by omega
    have e3 : l.size + (1 + r.size) ≤ sizeLine := by omega
    have e4 : l.size + 1 + r.size ≤ sizeLine := by omega
    simp [G_rising, bm_rising, runP, finR, gam, T.d, T.ino, i1, i2, ino_len, e1, e2, e3, e4]
theorem between_eq : ∀ (t : T) (lo hi : Int) (n : Nat), t.ht < n → t.B lo hi → G_is_between n [t.d, .int lo, .int hi] = some (.val (.bl true))
  | .nil, lo, hi, n + 1, _, _ => by
    simp [G_is_between, bm_is_between, runP, finR, gam, T.d]
  | .node k l r, lo, hi, n + 1, h, hb => by
    have h1 : l.ht < n := by simp [T.ht] at h; omega
    have h2 : r.ht < n := by simp [T.ht] at h; omega
    obtain ⟨⟨b1, b2⟩, ⟨b3, b4⟩, b5, b6⟩ := hb
    have i1 := between_eq l lo k n h1 b5
    have i2 := between_eq r k hi n h2 b6
    have q3 : neO2 (.int 3) (.int 3) = some (.val (.bl false)) := neO_self (by decide)
    simp [G_is_between, bm_is_between, runP, finR, gam, T.d, i1, i2, is_key_int, b1, b2, b3, b4, isTy, q3]
theorem is_tree_eq {t : T} (h : t.ht < 48) (hb : t.B (-1) 31) : G_is_tree [t.d] = some (.val (.bl true)) := by
  simp [G_is_tree, bm_is_tree, runP, finR, gam, between_eq t (-1) 31 48 h hb]
theorem look_eq {t : T} (h : t.ht < 48) (hb : t.B (-1) 31) : G_look_at_tree [t.d] = some (.ok (.val .non)) := by
  simp [G_look_at_tree, bm_look_at_tree, runX, finR, gam, is_tree_eq h hb]
theorem any_in (S : List Int) (k : Int) : (S.map D.int).any (fun e => eqF e (.int k)) = decide (k ∈ S) := by
  induction S with
  | nil => rfl
  | cons a r ih =>
    rw [List.map_cons, List.any_cons, ih]
    show ((a == k) || decide (k ∈ r)) = _
    by_cases h : a = k
    · subst h; simp
    · simp [h, Ne.symm h]
theorem flat_ints (S : List Int) : (S.map D.int).all flatD = true := by
  induction S with
  | nil => rfl
  | cons a r ih => rw [List.map_cons, List.all_cons, ih]; rfl
theorem in_ints (neg : Bool) (S : List Int) (k : Int) : inO neg (.int k) (ofI S) = some (.val (.bl (if neg then !decide (k ∈ S) else decide (k ∈ S)))) := by
  show (if flatD (.int k) && (S.map D.int).all flatD then some (RV.val (.bl (if neg then !(S.map D.int).any (fun e => eqF e (.int k)) else (S.map D.int).any (fun e => eqF e (.int k))))) else none) = _
  rw [any_in, flat_ints]
  rfl
theorem atI0 {α : Type} (x : α) (r : List α) : L2.atI (x :: r) 0 = some x := by simp [L2.atI, L2.ixN]
theorem parts_len_le {S : List Int} : ∀ {t : T}, (parts S t).length ≤ t.size + 1
  | .nil => by simp [parts]
  | .node k l r => by
    unfold parts
    split
    · have := parts_len_le (S := S) (t := l); have := parts_len_le (S := S) (t := r); simp [T.size]; omega
    · simp
theorem parts_eq (S : List Int) : ∀ (t : T) (n : Nat), t.ht < n → t.size ≤ 1000 → G_parts_beneath n [t.d, ofI S] = some (.new (ofT (parts S t)))
  | .nil, n + 1, _, _ => by
    have := line
    have e1 : 1 ≤ sizeLine := by omega
    simp [G_parts_beneath, bm_parts_beneath, runP, finR, gam, T.d, parts, e1]
  | .node k l r, n + 1, h, hs => by
    have h1 : l.ht < n := by simp [T.ht] at h; omega
    have h2 : r.ht < n := by simp [T.ht] at h; omega
    simp [T.size] at hs
    have i1 := parts_eq S l n h1 (by omega)
    have i2 := parts_eq S r n h2 (by omega)
    have := line
    have e1 : 1 ≤ sizeLine := by omega
    have := parts_len_le (S := S) (t := l)
    have := parts_len_le (S := S) (t := r)
    have e2 : (parts S l).length + (parts S r).length ≤ sizeLine := by omega
    have a0 : L2.atI [D.int k, l.d, r.d] 0 = some (.int k) := rfl
    have a1 : L2.atI [D.int k, l.d, r.d] 1 = some l.d := rfl
    have a2 : L2.atI [D.int k, l.d, r.d] 2 = some r.d := rfl
    by_cases q : k ∈ S
    · simp [G_parts_beneath, bm_parts_beneath, runP, finR, gam, T.d, parts, e1, i1, i2, a0, a1, a2, in_ints, q, e2]
    · simp [G_parts_beneath, bm_parts_beneath, runP, finR, gam, T.d, parts, e1, i1, i2, a0, a1, a2, in_ints, q, e2]
theorem eqO_int (i j : Int) : eqO2 (.int i) (.int j) = some (.val (.bl (decide (i = j)))) := by
  have : eqB (.int i) (.int j) = decide (i = j) := by show (i == j) = _; by_cases h : i = j <;> simp [h]
  rw [eq2_of (by intro x z; cases z)]
  unfold eqO; rw [this]; rfl
theorem cut_lo {α : Type} (xs : List α) (n : Nat) : cutL xs none (some (n : Int)) = xs.take n := by
  unfold cutL
  rw [HT.sIx_nat]
  simp [HT.sIx]
theorem cut_hi {α : Type} (xs : List α) (n : Nat) : cutL xs (some (n : Int)) none = xs.drop n := by
  unfold cutL
  rw [HT.sIx_nat]
  simp [HT.sIx]
  by_cases h : n ≤ xs.length
  · rw [Nat.min_eq_left h, List.take_of_length_le (by rw [List.length_drop]; omega)]
  · rw [Nat.min_eq_right (by omega), List.drop_eq_nil_of_le (by omega : xs.length ≤ n)]; simp
theorem hung_eq : ∀ (top : T) (ps : List T) (n : Nat), top.ht < n → top.size ≤ 1000 → top.ht < 48 → ps.length = top.size + 1 → G_hung n [top.d, ofT ps] = some (.val (hung top ps).d)
  | .nil, ps, n + 1, _, _, _, hl => by
    match ps, hl with
    | [p], _ =>
      simp [G_hung, bm_hung, runP, finR, gam, T.d, hung, atI0]
  | .node k l r, ps, n + 1, h, hs, h48, hl => by
    have h1 : l.ht < n := by simp [T.ht] at h; omega
    have h2 : r.ht < n := by simp [T.ht] at h; omega
    have h3 : l.ht < 48 := by simp [T.ht] at h48; omega
    have h4 : r.ht < 48 := by simp [T.ht] at h48; omega
    simp [T.size] at hs hl
    have i1 := hung_eq l (ps.take (l.size + 1)) n h1 (by omega) h3 (by rw [List.length_take]; omega)
    have i2 := hung_eq r (ps.drop (l.size + 1)) n h2 (by omega) h4 (by rw [List.length_drop]; omega)
    have := line
    have e1 : 3 ≤ sizeLine := by omega
    have c1 : cutL (ps.map T.d) none (some ((l.size : Int) + 1)) = (ps.map T.d).take (l.size + 1) := by
      have := cut_lo (ps.map T.d) (l.size + 1)
      exact_mod_cast this
    have c2 : cutL (ps.map T.d) (some ((l.size : Int) + 1)) none = (ps.map T.d).drop (l.size + 1) := by
      have := cut_hi (ps.map T.d) (l.size + 1)
      exact_mod_cast this
    simp only [ofT, List.map_take, List.map_drop] at i1 i2
    simp [G_hung, bm_hung, runP, finR, gam, T.d, hung, e1, rising_eq l 48 h3 (by omega), ino_len, c1, c2, i1, i2]
theorem all_in : ∀ {F G : List Int}, F.Nodup → (∀ x ∈ F, x ∈ G) → G.length ≤ F.length → ∀ x ∈ G, x ∈ F
  | [], G, _, _, h, x, hx => by cases G with | nil => cases hx | cons _ _ => simp at h
  | a :: F, G, hn, hs, h, x, hx => by
    rw [List.nodup_cons] at hn
    have ha := hs a (List.mem_cons_self ..)
    by_cases e : x = a
    · rw [e]; exact List.mem_cons_self ..
    · have l1 : (G.erase a).length = G.length - 1 := List.length_erase_of_mem ha
      have lp := List.length_pos_of_mem ha
      refine List.mem_cons_of_mem _ (all_in (G := G.erase a) hn.2 (fun y hy => ?_) (by rw [l1]; simp at h; omega) x ((List.mem_erase_of_ne e).mpr hx))
      exact (List.mem_erase_of_ne (fun z => hn.1 (by rw [← z]; exact hy))).mpr (hs y (List.mem_cons_of_mem _ hy))
theorem top_iff {t top : T} {lo hi lo' hi' : Int} (h2 : t.B lo hi) (h4 : top.B lo' hi') : (parts top.ino t).length = top.size + 1 ↔ TopOf top t := by
  constructor
  · intro h
    rw [parts_len] at h
    have sz : (old top.ino t).ino.length = top.ino.length := by rw [ino_len, ino_len]; omega
    have u1 : t.ino.Pairwise (· < ·) := Up.pw ((B_iff t lo hi).mp h2).1
    have u2 : top.ino.Pairwise (· < ·) := Up.pw ((B_iff top lo' hi').mp h4).1
    have u3 : (old top.ino t).ino.Pairwise (· < ·) := u1.sublist (old_sub _ _)
    have nd : (old top.ino t).ino.Nodup := u3.imp fun h => by omega
    exact strict_uniq u3 u2 fun x => ⟨fun hx => old_in hx, fun hx => all_in nd (fun y hy => old_in hy) (by omega) x hx⟩
  · exact fun h => h.len
theorem is_top_eq {t top : T} (h1 : t.ht < 48) (h2 : t.B (-1) 31) (h3 : top.ht < 48) (h4 : top.B (-1) 31) : G_is_top [t.d, top.d] = some (.ok (.val (.bl (cd (top ≠ .nil ∧ TopOf top t))))) := by
  have s1 := B_size h2
  have s2 := B_size h4
  cases top with
  | nil =>
    have z : cd (T.nil ≠ .nil ∧ TopOf .nil t) = false := cd_f fun h => h.1 rfl
    simp [-ne_eq, z, G_is_top, bm_is_top, runX, finR, gam, look_eq h1 h2, T.d]
  | node k l r =>
    have n1 : isNone (T.node k l r).d = false := rfl
    have iff := top_iff h2 h4
    generalize hg : T.node k l r = top at *
    have nn : top ≠ .nil := by rw [← hg]; intro z; cases z
    have e := eqO_int ((parts top.ino t).length : Int) ((top.size : Int) + 1)
    by_cases q : TopOf top t
    · have : ((parts top.ino t).length : Int) = (top.size : Int) + 1 := by have := iff.mpr q; omega
      rw [decide_eq_true this] at e
      rw [cd_t ⟨nn, q⟩]
      simp [G_is_top, bm_is_top, runX, finR, gam, look_eq h1 h2, is_tree_eq h3 h4, rising_eq top 48 h3 (by omega), parts_eq top.ino t 48 h1 (by omega), n1, e, ino_len]
    · have : ¬ ((parts top.ino t).length : Int) = (top.size : Int) + 1 := fun z => q (iff.mp (by omega))
      rw [decide_eq_false this] at e
      rw [cd_f fun h => q h.2]
      simp [G_is_top, bm_is_top, runX, finR, gam, look_eq h1 h2, is_tree_eq h3 h4, rising_eq top 48 h3 (by omega), parts_eq top.ino t 48 h1 (by omega), n1, e, ino_len]
theorem turned_eq {t top : T} (h1 : t.ht < 48) (h2 : t.B (-1) 31) (h3 : top.ht < 48) (h4 : top.B (-1) 31) (h5 : top ≠ .nil) (h6 : TopOf top t) : G_turned [t.d, top.d] = some (.ok (.val (hung top (parts top.ino t)).d)) := by
  have s1 := B_size h2
  have s2 := B_size h4
  have it := is_top_eq h1 h2 h3 h4
  rw [cd_t ⟨h5, h6⟩] at it
  simp [G_turned, bm_turned, runX, finR, gam, it, rising_eq top 48 h3 (by omega), parts_eq top.ino t 48 h1 (by omega), hung_eq top (parts top.ino t) 48 h3 (by omega) h3 h6.len]
theorem ahead_eq : ∀ (t : T) (n : Nat), t.ht < n → t.size ≤ 1000 → G__law_ahead n [t.d] = some (.new (ofI t.pre))
  | .nil, n + 1, _, _ => by
    simp [G__law_ahead, bm__law_ahead, runP, finR, gam, T.d, T.pre]
  | .node k l r, n + 1, h, hs => by
    have h1 : l.ht < n := by simp [T.ht] at h; omega
    have h2 : r.ht < n := by simp [T.ht] at h; omega
    simp [T.size] at hs
    have i1 := ahead_eq l n h1 (by omega)
    have i2 := ahead_eq r n h2 (by omega)
    have := line
    have pl : ∀ t : T, t.pre.length = t.size := fun t => by
      induction t with
      | nil => rfl
      | node k l r a b => simp [T.pre, T.size, a, b]
    have e1 : 1 ≤ sizeLine := by omega
    have e2 : 1 + l.size ≤ sizeLine := by omega
    have e2' : l.size + 1 ≤ sizeLine := by omega
    have e3 : l.size + 1 + r.size ≤ sizeLine := by omega
    have e4 : 1 + l.size + r.size ≤ sizeLine := by omega
    have a0 : L2.atI [D.int k, l.d, r.d] 0 = some (.int k) := rfl
    have a1 : L2.atI [D.int k, l.d, r.d] 1 = some l.d := rfl
    have a2 : L2.atI [D.int k, l.d, r.d] 2 = some r.d := rfl
    simp [G__law_ahead, bm__law_ahead, runP, finR, gam, T.d, T.pre, i1, i2, a0, a1, a2, pl, e1, e2, e2', e3, e4]
abbrev pl (c s : Int) : List D := [.int c, .int s]
def Sd (s : Int) : Prop := 0 ≤ s ∧ s < 2147483648
theorem at20 (a b : D) : L2.atI [a, b] 0 = some a := rfl
theorem at21 (a b : D) : L2.atI [a, b] 1 = some b := rfl
theorem ix20 : L2.ixN 2 0 = some 0 := rfl
theorem ix21 : L2.ixN 2 1 = some 1 := rfl
theorem take_ex {c s m : Int} (h : Sd s) (hm : 0 < m) (hm2 : m < 1073741824) : ∃ x c' s', G__law_take (pl c s) [.int m] = some (.val (.int x), pl c' s') ∧ (0 ≤ x ∧ x < m) ∧ Sd s' := by
  obtain ⟨h1, h2⟩ := h
  have m1 := mulOk_l (i := s) (j := 48271) (by omega)
  by_cases hc : 0 < c
  · refine ⟨c % m, c / m, s, ?_, ⟨Int.emod_nonneg _ (by omega), Int.emod_lt_of_pos _ hm⟩, h1, h2⟩
    simp [G__law_take, bm__law_take, runI, finI, finR, gamI, at20, at21, ix20, ix21, hc, hm, hm2]
  · have q1 : 0 ≤ (s * 48271 + 11) % 2147483647 := Int.emod_nonneg _ (by decide)
    have q2 : (s * 48271 + 11) % 2147483647 < 2147483647 := Int.emod_lt_of_pos _ (by decide)
    have m2 := mulOk_l (i := (s * 48271 + 11) % 2147483647) (j := (s * 48271 + 11) % 2147483647) (by omega)
    refine ⟨(s * 48271 + 11) % 2147483647 * ((s * 48271 + 11) % 2147483647) % 2147483629 / 64 % m, c, (s * 48271 + 11) % 2147483647, ?_, ⟨Int.emod_nonneg _ (by omega), Int.emod_lt_of_pos _ hm⟩, q1, by omega⟩
    simp [G__law_take, bm__law_take, runI, finI, finR, gamI, at20, at21, ix20, ix21, hc, hm, hm2, m1, m2]
theorem cell_ex (ns : List Int) (k : Nat) (hk : k < 100) : ∃ c, G__law_cell_at [.scr ns, .int k] = some (.val (.int c)) := by
  by_cases h : k < ns.length
  · refine ⟨ns[k], ?_⟩
    have a : L2.atI ns (k : Int) = some ns[k] := atI_nat (List.getElem?_eq_getElem h)
    simp [G__law_cell_at, bm__law_cell_at, runP, finR, gam, a, h]
  · refine ⟨0, ?_⟩
    simp [G__law_cell_at, bm__law_cell_at, runP, finR, gam, h]
theorem pool_ex (ns : List Int) (k : Nat) (hk : k < 100) : ∃ c s, G__law_pool [.scr ns, .int k] = some (.new (.lst (pl c s))) ∧ Sd s := by
  obtain ⟨c, hc⟩ := cell_ex ns k hk
  have q1 : 0 ≤ c % 2147483629 := Int.emod_nonneg _ (by decide)
  have q2 : c % 2147483629 < 2147483629 := Int.emod_lt_of_pos _ (by decide)
  have k1 := mulOk_l (i := 7919) (j := k) (by omega)
  have k2 : mulOk (7919 * (k : Int)) k = true := mulOk_l (by omega)
  have k3 := mulOk_l (i := 104729) (j := k) (by omega)
  have hkk : (k : Int) * k ≤ 10000 := by
    have : k * k ≤ 100 * 100 := Nat.mul_le_mul (by omega) (by omega)
    exact_mod_cast this
  have hk0 : 0 ≤ (k : Int) * k := by exact_mod_cast Nat.zero_le (k * k)
  have e1 : 7919 * (k : Int) * k = 7919 * ((k : Int) * k) := by rw [Int.mul_assoc]
  have k4 : mulOk (c % 2147483629 + 7919 * (k : Int) * k + 104729 * k + 1) 48271 = true := mulOk_l (by omega)
  generalize hs : (c % 2147483629 + 7919 * (k : Int) * k + 104729 * k + 1) * 48271 % 2147483647 = s
  have s1 : 0 ≤ s := by rw [← hs]; exact Int.emod_nonneg _ (by decide)
  have s2 : s < 2147483647 := by rw [← hs]; exact Int.emod_lt_of_pos _ (by decide)
  have k5 : mulOk s s = true := mulOk_l (by omega)
  have ln := line
  have l2 : 2 ≤ sizeLine := by omega
  by_cases hd : c < E18
  · refine ⟨0, s * s % 2147483629, ?_, Int.emod_nonneg _ (by decide), Int.lt_trans (Int.emod_lt_of_pos _ (by decide)) (by decide)⟩
    simp [G__law_pool, bm__law_pool, runP, finR, gam, hc, pow18, k1, k2, k3, k4, hs, k5, hd, l2]
  · refine ⟨c, s * s % 2147483629, ?_, Int.emod_nonneg _ (by decide), Int.lt_trans (Int.emod_lt_of_pos _ (by decide)) (by decide)⟩
    simp [G__law_pool, bm__law_pool, runP, finR, gam, hc, pow18, k1, k2, k3, k4, hs, k5, hd, l2]
theorem up_len (lo : Int) (n : Nat) : (upI lo n).length = n := by simp [upI]
theorem up_at {lo : Int} {n i : Nat} {d : D} (h : (upI lo n)[i]? = some d) : d = .int (lo + i) ∧ i < n := by
  unfold upI at h
  rw [List.getElem?_map] at h
  cases q : (List.range n)[i]? with
  | none => rw [q] at h; cases h
  | some j =>
    rw [q] at h
    cases h
    obtain ⟨h1, h2⟩ := List.getElem?_eq_some_iff.mp q
    rw [List.getElem_range] at h2
    subst h2
    exact ⟨rfl, by simpa using h1⟩
theorem srt_mem (ns : List Int) (x : Int) : x ∈ srt ns ↔ x ∈ ns := (srt_perm ns).mem_iff
theorem srt_lt {ns : List Int} (h : ns.Nodup) : (srt ns).Pairwise (· < ·) := by
  have h1 := srt_pw ns
  have h2 : (srt ns).Pairwise (· ≠ ·) := (srt_perm ns).symm.nodup h
  exact (h1.and h2).imp fun ⟨a, b⟩ => by omega
theorem sorted_is {ns : List Int} (h : ns.length < 64) : sortedO [ofI ns] = some (.new (ofI (srt ns))) := by
  show (asIs (ns.map D.int)).bind _ = _
  rw [asIs_map]
  show (if ns.length < 64 then _ else _) = _
  rw [if_pos h]
theorem atI_mp {α β : Type} (f : α → β) (xs : List α) (i : Int) : L2.atI (xs.map f) i = (L2.atI xs i).map f := by
  unfold L2.atI
  rw [List.length_map]
  cases ixN xs.length i with
  | none => rfl
  | some j => simp
theorem eqO_nil (ns : List Int) : eqO2 (ofI ns) (.lst []) = some (.val (.bl ns.isEmpty)) := by
  rw [eq2_of (by intro x z; cases z)]
  unfold eqO
  rw [eqOk_is, show eqOk (.lst []) = true from eqOk_is [], eqB_nil]
  simp
theorem tree_ex : ∀ (n : Nat) (ks : List Int) (c s : Int), ks.length < n → ks.length ≤ 100 → Sd s → ∃ t c' s', G__law_tree n (pl c s) [ofI ks] = some (.val (T.d t), pl c' s') ∧ Sd s' ∧ t.ino = ks
  | 0, ks, c, s, h, _, _ => by omega
  | n + 1, ks, c, s, h, hs, hd => by
    have ln := line
    have e0 : 0 ≤ sizeLine := by omega
    have e3 : 3 ≤ sizeLine := by omega
    cases ks with
    | nil =>
      have q := eqO_nil []
      refine ⟨.nil, c, s, ?_, hd, rfl⟩
      simp [G__law_tree, bm__law_tree, runI, finI, finR, gamI, e0, q, T.d]
    | cons k0 kr =>
      have q := eqO_nil (k0 :: kr)
      obtain ⟨x, c1, s1, hx, hx1, hs1⟩ := take_ex (c := c) (m := ((k0 :: kr).length : Nat)) hd (by simp only [List.length_cons]; omega) (by simp only [List.length_cons] at hs ⊢; omega)
      obtain ⟨i, rfl⟩ : ∃ i : Nat, x = i := ⟨x.toNat, by omega⟩
      have hi : i < (k0 :: kr).length := by omega
      generalize hks : k0 :: kr = ks at *
      have cl : cutL (ks.map D.int) none (some (i : Int)) = (ks.take i).map D.int := by rw [cut_lo, List.map_take]
      have ch : cutL (ks.map D.int) (some ((i : Int) + 1)) none = (ks.drop (i + 1)).map D.int := by
        have := cut_hi (ks.map D.int) (i + 1)
        rw [List.map_drop]; exact_mod_cast this
      have a : L2.atI (ks.map D.int) (i : Int) = some (.int ks[i]) := by rw [atI_mp, atI_nat (List.getElem?_eq_getElem hi)]; rfl
      obtain ⟨l, c2, s2, h2, hs2, l2⟩ := tree_ex n (ks.take i) c1 s1 (by rw [List.length_take]; omega) (by rw [List.length_take]; omega) hs1
      obtain ⟨r, c3, s3, h3, hs3, l3⟩ := tree_ex n (ks.drop (i + 1)) c2 s2 (by rw [List.length_drop]; omega) (by rw [List.length_drop]; omega) hs2
      have ne : ks.isEmpty = false := by rw [← hks]; rfl
      rw [ne] at q
      refine ⟨.node ks[i] l r, c3, s3, ?_, hs3, ?_⟩
      · simp only [ofI] at h2 h3
        rw [← cl] at h2
        rw [← ch] at h3
        simp [G__law_tree, bm__law_tree, runI, finI, finR, gamI, e0, e3, q, hx, a, h2, h3, T.d]
      · simp only [T.ino, l2, l3]
        rw [← List.drop_eq_getElem_cons hi, List.take_append_drop]
end K15
end

section
set_option Elab.async false
set_option linter.all false
set_option maxRecDepth 100000
set_option maxHeartbeats 2000000
namespace K15
open PySem L2 Ex Dv Tr
/-- the way to a key, or to the last one met -/
def way (k : Int) : T → List Int
  | .nil => []
  | .node x l r => x :: (if x = k then [] else if k < x then way k l else way k r)
theorem way_len (k : Int) : ∀ t : T, (way k t).length ≤ t.ht
  | .nil => by simp [way, T.ht]
  | .node x l r => by
    have := way_len k l
    have := way_len k r
    simp only [way, T.ht, List.length_cons]
    split
    · simp
    · split <;> omega
noncomputable def wayC : M Bool := andM (M.bind (op2 isntO (vName 0) (M.pure (.val .non))) asB) (orM (M.bind (op2 eqO2 (vName 2) (lstM (M.pure []))) asB) (M.bind (op2 neO2 (op2 idxO (vName 2) (op1 negO (M.pure (.val (.int 1))))) (vName 1)) asB))
noncomputable def wayS : M Fl := seqM (dropM (metM 2 appendG (consM (op2 idxO (vName 0) (M.pure (.val (.int 0)))) (M.pure []))))
  (asgM 0 (op2 idxO (lstM (consM (op2 idxO (vName 0) (M.pure (.val (.int 2)))) (consM (op2 idxO (vName 0) (M.pure (.val (.int 1)))) (M.pure [])))) (callM intO1 (consM (op2 ltO (vName 1) (op2 idxO (vName 0) (M.pure (.val (.int 0))))) (M.pure [])))))
theorem neO_int (i j : Int) : neO2 (.int i) (.int j) = some (.val (.bl (!decide (i = j)))) := by
  have : eqB (.int i) (.int j) = decide (i = j) := by show (i == j) = _; by_cases h : i = j <;> simp [h]
  rw [ne2_of (fun _ => by simp)]
  unfold neO
  rw [this]
  rfl
theorem at_last {xs : List Int} {x : Int} : L2.atI ((xs ++ [x]).map D.int) (-1) = some (.int x) := by
  have e : L2.ixN ((xs ++ [x]).map D.int).length (-1) = some xs.length := by
    have l : ((xs ++ [x]).map D.int).length = xs.length + 1 := by simp
    rw [l]
    unfold L2.ixN
    simp
    omega
  unfold L2.atI
  rw [e]
  simp
theorem way_loop (k : Int) : ∀ (t : T) (F : List Int) (n : Nat), t.ht < n → (F = [] ∨ ∃ F' x, F = F' ++ [x] ∧ x ≠ k) → F.length + t.ht < 1000 →
    ∃ Γ0, whileM wayC wayS n [some (.frz, t.d), some (.frz, .int k), some (.own, ofI F)] = .ok .nx [Γ0, some (.frz, .int k), some (.own, ofI (F ++ way k t))]
  | .nil, F, n + 1, _, hF, _ => by
    refine ⟨some (.frz, .non), ?_⟩
    rw [r_while]
    simp [wayC, T.d, way]
  | .node x l r, F, n + 1, hn, hF, hl => by
    have ln := line
    have h1 : l.ht < n := by simp [T.ht] at hn; omega
    have h2 : r.ht < n := by simp [T.ht] at hn; omega
    simp [T.ht] at hl
    have s0 : 0 ≤ sizeLine := by omega
    have s2 : 2 ≤ sizeLine := by omega
    have sF : F.length < sizeLine := by omega
    have a0 : L2.atI [D.int x, l.d, r.d] 0 = some (.int x) := rfl
    have a1 : L2.atI [D.int x, l.d, r.d] 1 = some l.d := rfl
    have a2 : L2.atI [D.int x, l.d, r.d] 2 = some r.d := rfl
    have b0 : L2.atI [r.d, l.d] 0 = some r.d := rfl
    have b1 : L2.atI [r.d, l.d] 1 = some l.d := rfl
    have c : wayC [some (.frz, (T.node x l r).d), some (.frz, .int k), some (.own, ofI F)] = .ok true [some (.frz, (T.node x l r).d), some (.frz, .int k), some (.own, ofI F)] := by
      rcases hF with rfl | ⟨F', y, rfl, hy⟩
      · have e : eqO2 (ofI []) (.lst []) = some (.val (.bl true)) := eqO_nil []
        simp [wayC, T.d, s0, e]
      · have e := eqO_nil (F' ++ [y])
        have e : eqO2 (ofI (F' ++ [y])) (.lst []) = some (.val (.bl false)) := by rw [e]; simp
        have nl := neO_int y k
        rw [decide_eq_false hy] at nl
        have al := at_last (xs := F') (x := y)
        generalize F' ++ [y] = G at *
        simp [wayC, T.d, s0, e, al, nl]
    have step : ∃ c', wayS [some (.frz, (T.node x l r).d), some (.frz, .int k), some (.own, ofI F)] = .ok .nx [some (.frz, (if k < x then l else r).d), some (.frz, .int k), some (.own, ofI (F ++ [x]))] ∧ c' = () := by
      refine ⟨(), ?_, rfl⟩
      by_cases q : k < x <;> simp [wayS, T.d, a0, a1, a2, sF, s2, q, b0, b1]
    obtain ⟨_, step, _⟩ := step
    by_cases e : x = k
    · subst e
      have : n ≠ 0 := by omega
      obtain ⟨m, rfl⟩ : ∃ m, n = m + 1 := ⟨n - 1, by omega⟩
      refine ⟨some (.frz, r.d), ?_⟩
      rw [r_while, c]
      simp only [step]
      rw [r_while]
      have e1 := eqO_nil (F ++ [x])
      have e1 : eqO2 (ofI (F ++ [x])) (.lst []) = some (.val (.bl false)) := by rw [e1]; simp
      have nl := neO_int x x
      rw [decide_eq_true rfl] at nl
      have al := at_last (xs := F) (x := x)
      have w : way x (.node x l r) = [x] := by simp [way]
      rw [w]
      generalize F ++ [x] = G at *
      simp only [Int.lt_irrefl, if_false]
      cases r with
      | nil => simp [wayC, T.d]
      | node _ _ _ => simp [wayC, T.d, s0, e1, al, nl]
    · have w : way k (.node x l r) = x :: way k (if k < x then l else r) := by
        rw [way, if_neg e]
        split <;> rfl
      have hsub : (if k < x then l else r).ht < n ∧ (F ++ [x]).length + (if k < x then l else r).ht < 1000 := by
        simp  only [List.length_append, List.length_singleton]
        split <;> omega
      obtain ⟨Γ0, ih⟩ : ∃ Γ0, whileM wayC wayS n [some (.frz, (if k < x then l else r).d), some (.frz, .int k), some (.own, ofI (F ++ [x]))] = .ok .nx [Γ0, some (.frz, .int k), some (.own, ofI ((F ++ [x]) ++ way k (if k < x then l else r)))] := by
        by_cases q : k < x
        · rw [if_pos q] at hsub ⊢
          exact way_loop k l (F ++ [x]) n hsub.1 (.inr ⟨F, x, rfl, e⟩) hsub.2
        · rw [if_neg q] at hsub ⊢
          exact way_loop k r (F ++ [x]) n hsub.1 (.inr ⟨F, x, rfl, e⟩) hsub.2
      refine ⟨Γ0, ?_⟩
      rw [r_while, c]
      simp only [step]
      rw [ih, w]
      simp
theorem way_eq (k : Int) {t : T} (h : t.ht < 500) : G__law_way [t.d, .int k] = some (.new (ofI (way k t))) := by
  have ln := line
  have s0 : 0 ≤ sizeLine := by omega
  obtain ⟨Γ0, hw⟩ := way_loop k t [] whileN (by unfold whileN; omega) (.inl rfl) (by simp; omega)
  have e : bm__law_way = seqM (asgM 2 (lstM (M.pure []))) (seqM (whileM wayC wayS whileN) (retM (vName 2))) := rfl
  have hw : whileM wayC wayS whileN [some (.frz, t.d), some (.frz, .int k), some (.own, .lst [])] = .ok .nx [Γ0, some (.frz, .int k), some (.own, ofI (way k t))] := by rw [List.nil_append] at hw; exact hw
  unfold G__law_way
  rw [e]
  simp [runP, finR, gam, s0, hw]
/-! a key is in the top part just where all on its way are in S -/
theorem old_way {S : List Int} {k : Int} : ∀ {t : T} {lo hi : Int}, t.B lo hi → (k ∈ (old S t).ino ↔ k ∈ t.ino ∧ ∀ x ∈ way k t, x ∈ S)
  | .nil, _, _, _ => by simp [old, T.ino]
  | .node x l r, lo, hi, hb => by
    obtain ⟨⟨b1, b2⟩, ⟨b3, b4⟩, b5, b6⟩ := hb
    have i1 := old_way (S := S) (k := k) b5
    have i2 := old_way (S := S) (k := k) b6
    have l1 : ∀ y ∈ l.ino, y < x := fun y hy => (Up.lt ((B_iff l _ _).mp b5).1 y hy).2
    have r1 : ∀ y ∈ r.ino, x < y := fun y hy => (Up.lt ((B_iff r _ _).mp b6).1 y hy).1
    unfold old
    by_cases hx : x ∈ S
    · rw [if_pos hx]
      simp only [T.ino, List.mem_append, List.mem_cons, way]
      by_cases e : x = k
      · subst e
        simp [hx]
      · rw [if_neg e]
        by_cases q : k < x
        · rw [if_pos q]
          have n1 : k ∉ (old S r).ino := fun z => by have := r1 k ((old_sub S r).mem z); omega
          have n2 : k ∉ r.ino := fun z => by have := r1 k z; omega
          constructor
          · rintro (z | z | z)
            · exact ⟨.inl (i1.mp z).1, fun y hy => hy.elim (fun h => h ▸ hx) ((i1.mp z).2 y)⟩
            · exact absurd z.symm e
            · exact absurd z n1
          · rintro ⟨z | z | z, h⟩
            · exact .inl (i1.mpr ⟨z, fun y hy => h y (.inr hy)⟩)
            · exact absurd z.symm e
            · exact absurd z n2
        · rw [if_neg q]
          have n1 : k ∉ (old S l).ino := fun z => by have := l1 k ((old_sub S l).mem z); omega
          have n2 : k ∉ l.ino := fun z => by have := l1 k z; omega
          constructor
          · rintro (z | z | z)
            · exact absurd z n1
            · exact absurd z.symm e
            · exact ⟨.inr (.inr (i2.mp z).1), fun y hy => hy.elim (fun h => h ▸ hx) ((i2.mp z).2 y)⟩
          · rintro ⟨z | z | z, h⟩
            · exact absurd z n2
            · exact absurd z.symm e
            · exact .inr (.inr (i2.mpr ⟨z, fun y hy => h y (.inr hy)⟩))
    · rw [if_neg hx]
      simp only [T.ino, List.not_mem_nil, false_iff]
      rintro ⟨_, h⟩
      exact hx (h x (by simp [way]))
theorem way_last {k : Int} : ∀ {t : T} {lo hi : Int}, t.B lo hi → (k ∈ t.ino ↔ (way k t).getLast? = some k)
  | .nil, _, _, _ => by simp [way, T.ino]
  | .node x l r, lo, hi, hb => by
    obtain ⟨⟨b1, b2⟩, ⟨b3, b4⟩, b5, b6⟩ := hb
    have l1 : ∀ y ∈ l.ino, y < x := fun y hy => (Up.lt ((B_iff l _ _).mp b5).1 y hy).2
    have r1 : ∀ y ∈ r.ino, x < y := fun y hy => (Up.lt ((B_iff r _ _).mp b6).1 y hy).1
    simp only [T.ino, List.mem_append, List.mem_cons, way]
    by_cases e : x = k
    · subst e; simp
    · rw [if_neg e]
      by_cases q : k < x
      · rw [if_pos q]
        have n2 : k ∉ r.ino := fun z => by have := r1 k z; omega
        have i1 := way_last (k := k) b5
        cases hw : way k l with
        | nil =>
          rw [hw] at i1
          simp at i1
          simp [i1, n2, Ne.symm e, e]
        | cons y ys =>
          rw [hw] at i1
          rw [List.getLast?_cons_cons]
          rw [← i1]
          simp [n2, Ne.symm e]
      · rw [if_neg q]
        have n2 : k ∉ l.ino := fun z => by have := l1 k z; omega
        have i1 := way_last (k := k) b6
        cases hw : way k r with
        | nil =>
          rw [hw] at i1
          simp at i1
          simp [i1, n2, Ne.symm e, e]
        | cons y ys =>
          rw [hw] at i1
          rw [List.getLast?_cons_cons]
          rw [← i1]
          simp [n2, Ne.symm e]
/-- a top, said by ways -/
theorem top_way {t top : T} {lo hi lo' hi' : Int} (h2 : t.B lo hi) (h4 : top.B lo' hi') : TopOf top t ↔ ∀ k ∈ top.ino, k ∈ t.ino ∧ ∀ x ∈ way k t, x ∈ top.ino := by
  constructor
  · intro h k hk
    have h' : (old top.ino t).ino = top.ino := h
    rw [← h'] at hk
    exact (old_way h2).mp hk
  · intro h
    have u1 : t.ino.Pairwise (· < ·) := Up.pw ((B_iff t lo hi).mp h2).1
    have u2 : top.ino.Pairwise (· < ·) := Up.pw ((B_iff top lo' hi').mp h4).1
    exact strict_uniq (u1.sublist (old_sub _ _)) u2 fun x => ⟨fun hx => old_in hx, fun hx => (old_way h2).mpr (h x hx)⟩
end K15
end

section
set_option Elab.async false
set_option linter.all false
set_option maxRecDepth 100000
set_option maxHeartbeats 2000000
namespace K15
open PySem L2 Ex Dv Tr
theorem B_ht {t : T} (h : t.B (-1) 31) : t.ht < 48 := by have := B_size h; have := ht_size t; omega
/-! things that are nearly trees -/
inductive Q where
  | nil | odd (o : D) | node (k : D) (l r : Q)
def Q.d : Q → D
  | .nil => .non
  | .odd o => o
  | .node k l r => .tup [k, l.d, r.d]
/-- nothing that may be a node -/
def oddB : D → Bool
  | .tup xs => xs.length != 3
  | .non => false
  | .scr _ => false
  | .ins _ _ _ => false
  | .obj _ _ _ => false
  | _ => true
def keyK : D → Bool
  | .int _ => true
  | .bl _ => true
  | .str _ => true
  | .non => true
  | _ => false
def Q.ok : Q → Prop
  | .nil => True
  | .odd o => oddB o = true
  | .node k l r => keyK k = true ∧ l.ok ∧ r.ok
def Q.ht : Q → Nat
  | .nil => 0
  | .odd _ => 0
  | .node _ l r => max l.ht r.ht + 1
/-- is it a tree with keys between two bounds -/
def Q.B (lo hi : Int) : Q → Bool
  | .nil => true
  | .odd _ => false
  | .node (.int k) l r => decide (0 ≤ k) && decide (k ≤ 30) && decide (lo < k) && decide (k < hi) && l.B lo k && r.B k hi
  | .node _ _ _ => false
theorem key_eq {d : D} (h : keyK d = true) : G_is_key [d] = some (.val (.bl (match d with
  | .int k => decide (0 ≤ k) && decide (k ≤ 30)
  | _ => false))) := by
  cases d with
  | int k => exact is_key_int k
  | bl b => simp [G_is_key, bm_is_key, runP, finR, gam, isTy]
  | str x => simp [G_is_key, bm_is_key, runP, finR, gam, isTy]
  | non => simp [G_is_key, bm_is_key, runP, finR, gam, isTy]
  | lst _ => cases h
  | tup _ => cases h
  | dic _ _ => cases h
  | scr _ => cases h
  | ins _ _ _ => cases h
  | obj _ _ _ => cases h
theorem no_str (z : Str) : isNone (.str z) = false := rfl
theorem no_tup (z : List D) : isNone (.tup z) = false := rfl
theorem no_int (z : Int) : isNone (.int z) = false := rfl
theorem no_lst (z : List D) : isNone (.lst z) = false := rfl
theorem no_bl (z : Bool) : isNone (.bl z) = false := rfl
theorem no_dic (z y : List D) : isNone (.dic z y) = false := rfl
theorem btw_odd {o : D} (h : oddB o = true) (n : Nat) (lo hi : D) : G_is_between (n + 1) [o, lo, hi] = some (.val (.bl false)) := by
  cases o with
  | tup xs =>
    have hl : xs.length ≠ 3 := by simpa [oddB] using h
    have q3 := neO_int xs.length 3
    rw [decide_eq_false (by omega)] at q3
    simp [G_is_between, bm_is_between, runP, finR, gam, isTy, no_tup, q3]
  | bl b => simp [G_is_between, bm_is_between, runP, finR, gam, isTy, no_bl]
  | int b => simp [G_is_between, bm_is_between, runP, finR, gam, isTy, no_int]
  | str b => simp [G_is_between, bm_is_between, runP, finR, gam, isTy, no_str]
  | lst b => simp [G_is_between, bm_is_between, runP, finR, gam, isTy, no_lst]
  | dic a b => simp [G_is_between, bm_is_between, runP, finR, gam, isTy, no_dic]
  | non => cases h
  | scr _ => cases h
  | ins _ _ _ => cases h
  | obj _ _ _ => cases h
theorem between_Q : ∀ (q : Q) (lo hi : Int) (n : Nat), q.ht < n → q.ok → G_is_between n [q.d, .int lo, .int hi] = some (.val (.bl (q.B lo hi)))
  | .nil, lo, hi, n + 1, _, _ => by simp [G_is_between, bm_is_between, runP, finR, gam, Q.d, Q.B]
  | .odd o, lo, hi, n + 1, _, h => by rw [Q.d, btw_odd h n]; rfl
  | .node k l r, lo, hi, n + 1, hh, ho => by
    obtain ⟨hk, ol, orr⟩ := ho
    have h1 : l.ht < n := by simp [Q.ht] at hh; omega
    have h2 : r.ht < n := by simp [Q.ht] at hh; omega
    have q3 : neO2 (.int 3) (.int 3) = some (.val (.bl false)) := neO_self (by decide)
    have kq := key_eq hk
    cases k with
    | int k =>
      have i1 := between_Q l lo k n h1 ol
      have i2 := between_Q r k hi n h2 orr
      have kq : G_is_key [.int k] = some (.val (.bl (decide (0 ≤ k) && decide (k ≤ 30)))) := kq
      by_cases a0 : 0 ≤ k <;> by_cases a1 : k ≤ 30 <;> by_cases a2 : lo < k <;> by_cases a3 : k < hi <;> cases b1 : l.B lo k <;>
        simp [G_is_between, bm_is_between, runP, finR, gam, isTy, Q.d, Q.B, q3, kq, i1, i2, a0, a1, a2, a3, b1]
    | bl b => simp [G_is_between, bm_is_between, runP, finR, gam, isTy, Q.d, Q.B, q3, kq]
    | str b => simp [G_is_between, bm_is_between, runP, finR, gam, isTy, Q.d, Q.B, q3, kq]
    | non => simp [G_is_between, bm_is_between, runP, finR, gam, isTy, Q.d, Q.B, q3, kq]
    | lst _ => cases hk
    | tup _ => cases hk
    | dic _ _ => cases hk
    | scr _ => cases hk
    | ins _ _ _ => cases hk
    | obj _ _ _ => cases hk
theorem tree_Q {q : Q} (h : q.ht < 48) (ho : q.ok) : G_is_tree [q.d] = some (.val (.bl (q.B (-1) 31))) := by
  have := between_Q q (-1) 31 48 h ho
  generalize hG : G_is_between 48 = G at this
  simp [G_is_tree, bm_is_tree, runP, finR, gam, hG, this]
/-- a thing that is a tree is one -/
theorem Q.tree : ∀ {q : Q} {lo hi : Int}, q.B lo hi = true → ∃ t : T, t.B lo hi ∧ q.d = t.d
  | .nil, _, _, _ => ⟨.nil, trivial, rfl⟩
  | .odd _, _, _, h => by cases h
  | .node (.int k) l r, lo, hi, h => by
    simp only [Q.B, Bool.and_eq_true, decide_eq_true_eq] at h
    obtain ⟨⟨⟨⟨⟨a, b⟩, c⟩, d⟩, e⟩, f⟩ := h
    obtain ⟨t1, h1, e1⟩ := Q.tree e
    obtain ⟨t2, h2, e2⟩ := Q.tree f
    exact ⟨.node k t1 t2, ⟨⟨a, b⟩, ⟨c, d⟩, h1, h2⟩, by simp [Q.d, T.d, e1, e2]⟩
  | .node (.bl _) _ _, _, _, h => by cases h
  | .node (.str _) _ _, _, _, h => by cases h
  | .node .non _ _, _, _, h => by cases h
  | .node (.lst _) _ _, _, _, h => by cases h
  | .node (.tup _) _ _, _, _, h => by cases h
  | .node (.dic _ _) _ _, _, _, h => by cases h
  | .node (.scr _) _ _, _, _, h => by cases h
  | .node (.ins _ _ _) _ _, _, _, h => by cases h
  | .node (.obj _ _ _) _ _, _, _, h => by cases h
end K15
end

section
set_option Elab.async false
set_option linter.all false
set_option maxRecDepth 100000
set_option maxHeartbeats 2000000
namespace K15
open PySem L2 Ex Dv Tr
theorem neO_nil (ns : List Int) : neO2 (ofI ns) (.lst []) = some (.val (.bl (!ns.isEmpty))) := by
  rw [ne2_of (fun _ => by simp)]
  unfold neO
  rw [eqOk_is, show eqOk (.lst []) = true from eqOk_is [], eqB_nil]
  simp
/-- those that are not in S -/
def outF (S : List Int) : D → Option D
  | .int k => if k ∈ S then none else some (.int k)
  | _ => none
theorem out_is (S : List Int) : ∀ W : List Int, (W.map D.int).filterMap (outF S) = (W.filter fun k => decide (k ∉ S)).map D.int
  | [] => rfl
  | a :: r => by
    rw [List.map_cons, List.filterMap_cons, List.filter_cons, out_is S r]
    by_cases h : a ∈ S <;> simp [outF, h]
theorem out_lc {S W : List Int} {x0 x2 x3 : Sl} : lcM [1] 1 (gN 0) (M.bind (op2 (inO true) (vName 0) (vName 1)) asB) (vName 0) (W.map D.int) [x0, some (.frz, ofI S), x2, x3] = .ok ((W.filter fun k => decide (k ∉ S)).map D.int) [x0, some (.frz, ofI S), x2, x3] := by
  rw [← out_is]
  refine lc_eq (outF S) (W.map D.int) fun d hd => ?_
  obtain ⟨k, hk, rfl⟩ := List.mem_map.mp hd
  refine ⟨[some (.frz, .int k), some (.frz, ofI S)], ?_, rfl⟩
  have e := in_ints true S k
  by_cases h : k ∈ S <;> simp [blkG, outF, h, e]
noncomputable def itS : M Fl := (seqM (asgM 3 (callP G__law_way (consM (vName 0) (consM (vName 2) (M.pure [])))))
  (ifM (orM (M.bind (op2 neO2 (op2 idxO (vName 3) (op1 negO (M.pure (.val (.int 1))))) (vName 2)) asB) (M.bind (op2 neO2 (compM (lstI (vName 3)) [1] 1 (gN 0) (M.bind (op2 (inO true) (vName 0) (vName 1)) asB) (vName 0)) (lstM (M.pure []))) asB))
  (retM (M.pure (.val (.bl false))))
  (M.pure .nx)))
theorem last_split {W : List Int} (h : W ≠ []) : ∃ F x, W = F ++ [x] := ⟨W.dropLast, W.getLast h, (List.dropLast_concat_getLast h).symm⟩
theorem cd_iff {p q : Prop} (h : p ↔ q) : cd p = cd q := congrArg cd (propext h)
theorem way_some {k : Int} {t : T} (h : t ≠ .nil) : way k t ≠ [] := by
  cases t with
  | nil => exact absurd rfl h
  | node x l r => intro z; simp [way] at z
theorem it_step {t : T} {S : List Int} {k : Int} {x3 : Sl} (hb : t.B (-1) 31) (hn : t ≠ .nil) : ∃ y3, itS [some (.frz, t.d), some (.frz, ofI S), some (.frz, .int k), x3] = .ok (if cd (k ∈ t.ino ∧ ∀ x ∈ way k t, x ∈ S) then .nx else .ret (.val (.bl false))) [some (.frz, t.d), some (.frz, ofI S), some (.frz, .int k), y3] := by
  have ln := line
  have s0 : 0 ≤ sizeLine := by omega
  have w := way_eq k (t := t) (by have := B_ht hb; omega)
  have wl := way_last (k := k) hb
  have wn := way_len k t
  have hh := B_ht hb
  have ne := way_some (k := k) hn
  generalize way k t = W at *
  obtain ⟨F, x, hF⟩ := last_split ne
  have al := at_last (xs := F) (x := x)
  rw [← hF] at al
  have nl := neO_int x k
  have gl : W.getLast? = some x := by rw [hF]; simp
  rw [gl] at wl
  by_cases q : x = k
  · have i : k ∈ t.ino := wl.mpr (by rw [q])
    rw [decide_eq_true q] at nl
    have oc := out_lc (S := S) (W := W) (x0 := some (.frz, t.d)) (x2 := some (.frz, .int k)) (x3 := some (.frz, ofI W))
    have nn := neO_nil (W.filter fun k => decide (k ∉ S))
    have sl : W.length < sizeLine := by omega
    by_cases z : ∀ y ∈ W, y ∈ S
    · have : (W.filter fun k => decide (k ∉ S)) = [] := List.filter_eq_nil_iff.mpr fun a ha => by simp [z a ha]
      rw [this] at oc nn
      rw [cd_t ⟨i, z⟩]
      exact ⟨_, by simp [itS, w, s0, al, nl, oc, nn, sl]; rfl⟩
    · have : (W.filter fun k => decide (k ∉ S)).isEmpty = false := by
        cases r : (W.filter fun k => decide (k ∉ S)) with
        | nil => exact absurd (fun y hy => by have := List.filter_eq_nil_iff.mp r y hy; simpa using this) z
        | cons _ _ => rfl
      rw [this] at nn
      rw [cd_f fun y => z y.2]
      generalize (W.filter fun k => decide (k ∉ S)) = L at *
      exact ⟨_, by simp [itS, w, s0, al, nl, oc, nn, sl]; rfl⟩
  · have n : k ∉ t.ino := fun z => q (by have := wl.mp z; injection this)
    rw [decide_eq_false q] at nl
    rw [cd_f fun y => n y.1]
    exact ⟨_, by simp [itS, w, s0, al, nl]; rfl⟩
theorem it_loop {t : T} {S : List Int} (hb : t.B (-1) 31) (hn : t ≠ .nil) : ∀ (ks : List Int) (x2 x3 : Sl), ∃ Γ', loopM (gN 2) itS (ks.map D.int) [some (.frz, t.d), some (.frz, ofI S), x2, x3] = .ok (if cd (∀ k ∈ ks, k ∈ t.ino ∧ ∀ x ∈ way k t, x ∈ S) then .nx else .ret (.val (.bl false))) Γ'
  | [], x2, x3 => ⟨_, by rw [cd_t (fun k hk => by cases hk)]; rfl⟩
  | k :: ks, x2, x3 => by
    obtain ⟨y3, hs⟩ := it_step (S := S) (k := k) (x3 := x3) hb hn
    obtain ⟨Γ', ih⟩ := it_loop (S := S) hb hn ks (some (.frz, .int k)) y3
    rw [List.map_cons, r_loop1]
    by_cases z : k ∈ t.ino ∧ ∀ x ∈ way k t, x ∈ S
    · rw [cd_t z] at hs
      refine ⟨Γ', ?_⟩
      have e : (∀ j ∈ k :: ks, j ∈ t.ino ∧ ∀ x ∈ way j t, x ∈ S) ↔ (∀ j ∈ ks, j ∈ t.ino ∧ ∀ x ∈ way j t, x ∈ S) := by
        rw [List.forall_mem_cons]; exact ⟨fun h => h.2, fun h => ⟨z, h⟩⟩
      rw [cd_iff e, ← ih]
      simp only [r_noX, r_gN, List.set_cons_succ, List.set_cons_zero, hs, if_true]
    · rw [cd_f z] at hs
      rw [cd_f fun h => z (h k (List.mem_cons_self ..))]
      refine ⟨[some (.frz, t.d), some (.frz, ofI S), some (.frz, .int k), y3], ?_⟩
      simp only [r_noX, r_gN, List.set_cons_succ, List.set_cons_zero, hs]
      rfl
theorem law_top_eq {t u : T} (hb : t.B (-1) 31) (hn : t ≠ .nil) (hu : u.B (-1) 31) : G__law_is_top [t.d, ofI u.ino] = some (.val (.bl (cd (u ≠ .nil ∧ TopOf u t)))) := by
  have ln := line
  have s0 : 0 ≤ sizeLine := by omega
  have e := eqO_nil u.ino
  have e0 : bm__law_is_top G__law_way = (seqM (ifM (M.bind (op2 eqO2 (vName 1) (lstM (M.pure []))) asB)
    (retM (M.pure (.val (.bl false))))
    (M.pure .nx))
    (seqM (forM (lstI (vName 1)) (gN 2) itS)
    (retM (M.pure (.val (.bl true)))))) := rfl
  unfold G__law_is_top
  rw [e0]
  obtain ⟨Γ', hl⟩ := it_loop (S := u.ino) hb hn u.ino none none
  rw [← cd_iff (top_way hb hu)] at hl
  cases u with
  | nil =>
    rw [cd_f fun h => h.1 rfl]
    simp [T.ino] at e ⊢
    simp [runP, finR, gam, e, s0]
  | node k l r =>
    have : (T.node k l r).ino.isEmpty = false := by simp [T.ino]
    rw [this] at e
    generalize hU : T.node k l r = u at *
    have ne : u ≠ .nil := by rw [← hU]; intro z; cases z
    by_cases q : TopOf u t
    · rw [cd_t q] at hl
      rw [cd_t ⟨ne, q⟩]
      simp [runP, finR, gam, e, s0, hl]
    · rw [cd_f q] at hl
      rw [cd_f fun h => q h.2]
      simp [runP, finR, gam, e, s0, hl]
end K15
end

section
set_option Elab.async false
set_option linter.all false
set_option maxRecDepth 100000
set_option maxHeartbeats 2000000
namespace K15
open PySem L2 Ex Dv Tr
theorem is_top_non {t : T} (h : t.B (-1) 31) : G_is_top [t.d, .non] = some (.ok (.val (.bl false))) := by
  simp [G_is_top, bm_is_top, runX, finR, gam, look_eq (B_ht h) h]
theorem is_top_Q {t : T} (h : t.B (-1) 31) {q : Q} (hq : q.ht < 48) (ho : q.ok) (hb : q.B (-1) 31 = false) : G_is_top [t.d, q.d] = some (.ok (.val (.bl false))) := by
  have e := tree_Q hq ho
  rw [hb] at e
  cases hd : q.d with
  | non => exact is_top_non h
  | _ =>
    rw [hd] at e
    simp [G_is_top, bm_is_top, runX, finR, gam, look_eq (B_ht h) h, e, isNone]
theorem kind_top : G__law_kind [.ins .NoTop [] []] = some (.val (.str "top")) := by
  have ln := line
  have s1 : 1 ≤ sizeLine := by omega
  have s2 : 2 ≤ sizeLine := by omega
  have s3 : 3 ≤ sizeLine := by omega
  have s4 : 4 ≤ sizeLine := by omega
  have s7 : 7 ≤ sizeLine := by omega
  have s10 : 10 ≤ sizeLine := by omega
  have s13 : 13 ≤ sizeLine := by omega
  have s15 : 15 ≤ sizeLine := by omega
  have i : ∀ T, isiXO exL T (.ins .NoTop [] []) = some (.val (.bl (sub .NoTop T))) := fun T => rfl
  have f : ∀ b : Bool, flatD (.bl b) = true := fun b => rfl
  have n1 : neO2 (.int 1) (.int 1) = some (.val (.bl false)) := neO_self (by decide)
  have n2 : neO2 (.bl true) (.bl true) = some (.val (.bl false)) := neO_self (by decide)
  have b1 : ∀ b : Bool, eqF (.bl b) (.bl true) = b := fun b => by cases b <;> rfl
  simp [G__law_kind, bm__law_kind, runP, finR, gam, i, sub, s1, s2, s3, s4, s7, s10, s13, s15, countO, indexO, f, n1, n2, b1, List.findIdx?_cons]
  rfl
theorem told_top {a d : D} (h : G_is_top [a, d] = some (.ok (.val (.bl false)))) : G__law_told [a, d] = some (.val (.str "top")) := by
  have k := kind_top
  have z : mt_PointError_NoPoint_TooMany .NoTop = true := by decide
  have e : G_turned [a, d] = some (.ex ⟨.NoTop, []⟩) := by simp [G_turned, bm_turned, runX, finR, gam, h]
  simp [G__law_told, bm__law_told, runP, finR, gam, e, z, insX, k, isNone]
theorem told_told {a d : D} {v : Rt} (h : G_turned [a, d] = some (.ok v)) : G__law_told [a, d] = some (.val (.str "told")) := by
  simp [G__law_told, bm__law_told, runP, finR, gam, h, isNone]
/-- what the law asks of one thing -/
theorem told_eq {t u : T} (hb : t.B (-1) 31) (hu : u.B (-1) 31) : G__law_told [t.d, u.d] = some (.val (.str (if cd (u ≠ .nil ∧ TopOf u t) then "told" else "top"))) := by
  have e := is_top_eq (B_ht hb) hb (B_ht hu) hu
  by_cases q : u ≠ .nil ∧ TopOf u t
  · rw [cd_t q]
    exact told_told (turned_eq (B_ht hb) hb (B_ht hu) hu q.1 q.2)
  · rw [cd_f q] at e ⊢
    exact told_top e
theorem top_of_nil {u : T} (hu : u.B (-1) 31) : G_is_top [.non, u.d] = some (.ok (.val (.bl false))) := by
  have e := is_top_eq (t := .nil) (top := u) (by decide) (by trivial) (B_ht hu) hu
  rw [cd_f fun q => by
    obtain ⟨q1, q2⟩ := q
    unfold TopOf at q2
    cases u with
    | nil => exact q1 rfl
    | node k l r => simp [old, T.ino] at q2] at e
  exact e
end K15
end

section
set_option Elab.async false
set_option linter.all false
set_option maxRecDepth 100000
set_option maxHeartbeats 2000000
namespace K15
open PySem L2 Ex Dv Tr
theorem parts_ht {S : List Int} : ∀ {t p : T}, p ∈ parts S t → p.ht ≤ t.ht ∧ p.size ≤ t.size
  | .nil, p, h => by
    have : p = .nil := by simpa [parts] using h
    subst this; exact ⟨Nat.le_refl _, Nat.le_refl _⟩
  | .node k l r, p, h => by
    unfold parts at h
    split at h
    · rcases List.mem_append.1 h with h | h
      · have := parts_ht h; simp [T.ht, T.size]; omega
      · have := parts_ht h; simp [T.ht, T.size]; omega
    · have : p = .node k l r := by simpa using h
      subst this; exact ⟨Nat.le_refl _, Nat.le_refl _⟩
theorem sub_len : ∀ {F G : List Int}, F.Nodup → (∀ x ∈ F, x ∈ G) → F.length ≤ G.length
  | [], _, _, _ => Nat.zero_le _
  | x :: F, G, h, hs => by
    obtain ⟨h1, h2⟩ := List.nodup_cons.mp h
    have hx : x ∈ G := hs x (by simp)
    have := sub_len (F := F) (G := G.erase x) h2 fun y hy => (List.mem_erase_of_ne fun e => by subst e; exact h1 hy).mpr (hs y (by simp [hy]))
    rw [List.length_erase_of_mem hx] at this
    have : 0 < G.length := List.length_pos_of_mem hx
    simp; omega
theorem walk_len {t : T} {F : List Int} {bd : List T} (w : Walk t F bd) : F.length ≤ t.size := by
  rw [← ino_len]
  exact sub_len w.nd fun x hx => (old_sub F t).subset (w.met x hx)
theorem neT_nil (ts : List T) (h : ∀ t ∈ ts, t.ht ≤ 60) : neO2 (ofT ts) (.lst []) = some (.val (.bl (!ts.isEmpty))) := by
  rw [ne2_of (by intro x z; cases z)]
  unfold neO
  rw [eqOk_ts h, show eqOk (.lst []) = true from eqOk_is [], eqB_nil]
  simp
theorem popAt_ok {ds : List D} {i : Nat} {d : D} (h : ds[i]? = some d) (hi : i < 1000000) : popAtG ds [.int i] = some (ds.eraseIdx i, d) := by
  simp only [popAtG, Int.toNat_natCast, h]
  rw [cd_t ⟨by omega, by omega⟩]
  rfl
theorem erase_map {α β : Type} (f : α → β) : ∀ (xs : List α) (i : Nat), (xs.map f).eraseIdx i = (xs.eraseIdx i).map f
  | [], _ => rfl
  | _ :: _, 0 => rfl
  | x :: r, i + 1 => by simp [erase_map f r i]
theorem some_top_ex {t : T} {c s : Int} {m : Nat} (hb : t.B (-1) 31) (hn : t ≠ .nil) (hd : Sd s) (hm : 1 ≤ m) : ∃ top c' s', G__law_some_top (pl c s) [t.d, .int m] = some (.val (T.d top), pl c' s') ∧ Sd s' ∧ TopOf top t ∧ top ≠ .nil ∧ top.B (-1) 31 := by
  have ln := line
  have e0 : 0 ≤ sizeLine := by omega
  have e1 : 1 ≤ sizeLine := by omega
  have e2 : 2 ≤ sizeLine := by omega
  have ts := B_size hb
  have th := ht_size t
  have nd : t.ino.Nodup := ((B_iff t _ _).mp hb).1.nodup
  obtain ⟨Γ', hl, c', s', F, bd, x, rfl, hs, hw, hF⟩ := while_inv
    (p := andM (M.bind (op2 neO2 (vName 4) (lstM (M.pure []))) asB) (M.bind (op2 ltO (callM lenO (consM (vName 3) (M.pure []))) (vName 2)) asB))
    (s := seqM (asgM 5 (metM 4 popAtG (consM (callI G__law_take (consM (vName 0) (consM (callM lenO (consM (vName 4) (M.pure []))) (M.pure [])))) (M.pure []))))
      (ifM (M.bind (op2 isntO (vName 5) (M.pure (.val .non))) asB)
      (seqM (dropM (metM 3 appendG (consM (op2 idxO (vName 5) (M.pure (.val (.int 0)))) (M.pure []))))
      (asgM 4 (op2 addO (vName 4) (lstM (consM (op2 idxO (vName 5) (M.pure (.val (.int 1)))) (consM (op2 idxO (vName 5) (M.pure (.val (.int 2)))) (M.pure [])))))))
      (M.pure .nx)))
    (fun μ Γ => ∃ (c s : Int) (F : List Int) (bd : List T) (x : Sl), Γ = [some (.io 0, .lst (pl c s)), some (.frz, t.d), some (.frz, .int m), some (.own, ofI F), some (.own, ofT bd), x] ∧ Sd s ∧ Walk t F bd ∧ (F ≠ [] ∨ bd = [t]) ∧ μ = 3 * (bd.flatMap T.ino).length + bd.length ∧ μ ≤ 200)
    (fun Γ => ∃ (c s : Int) (F : List Int) (bd : List T) (x : Sl), Γ = [some (.io 0, .lst (pl c s)), some (.frz, t.d), some (.frz, .int m), some (.own, ofI F), some (.own, ofT bd), x] ∧ Sd s ∧ Walk t F bd ∧ F ≠ [])
    (by
      rintro μ Γ ⟨c, s, F, bd, x, rfl, hs, hw, hF, rfl, hmu⟩
      have hbl : bd.length ≤ 1000 := by omega
      have bh : ∀ p ∈ bd, p.ht ≤ 60 := fun p hp => by have := (parts_ht (hw.pt p hp).1).1; omega
      have nn := neT_nil bd bh
      have fl := walk_len hw
      have fs : F.length < sizeLine := by omega
      by_cases hbd : bd = []
      · subst hbd
        refine .inl ⟨[some (.io 0, .lst (pl c s)), some (.frz, t.d), some (.frz, .int m), some (.own, ofI F), some (.own, ofT []), x], ?_, c, s, F, [], x, rfl, hs, hw, hF.elim id (fun z => by cases z)⟩
        simp at nn
        simp [e0, nn]
      · have nb : bd.isEmpty = false := by cases bd with | nil => exact absurd rfl hbd | cons _ _ => rfl
        rw [nb] at nn
        by_cases hlt : F.length < m
        · have fll : (bd.flatMap T.ino).length ≤ t.size := by
            rw [← ino_len]
            refine sub_len hw.fl fun y hy => ?_
            obtain ⟨p, hp, hyp⟩ := List.mem_flatMap.mp hy
            have := (hw.pt p hp).1
            rw [ino_il F t]
            exact (mem_il (by rw [List.length_map, parts_len, ino_len])).mpr (.inr ⟨p.ino, List.mem_map_of_mem this, hyp⟩)
          have bl : bd.length ≤ 1000 := by
            exact hbl
          have b0 : 0 < bd.length := List.length_pos_iff.mpr hbd
          obtain ⟨x1, c1, s1, hx, hx1, hs1⟩ := take_ex (c := c) (m := (bd.length : Nat)) hs (by omega) (by omega)
          obtain ⟨i, rfl⟩ : ∃ i : Nat, x1 = i := ⟨x1.toNat, by omega⟩
          have hi : i < bd.length := by omega
          have gi : bd[i]? = some bd[i] := List.getElem?_eq_getElem hi
          have pa : popAtG (bd.map T.d) [.int i] = some ((bd.eraseIdx i).map T.d, bd[i].d) := by
            have := popAt_ok (ds := bd.map T.d) (i := i) (d := bd[i].d) (by rw [List.getElem?_map, gi]; rfl) (by omega)
            rw [this, erase_map]
          have le := List.length_eraseIdx_of_lt hi
          have pm := erase_perm gi
          have pf := (pm.flatMap_right T.ino).length_eq
          rw [List.flatMap_cons, List.length_append] at pf
          refine .inr ?_
          cases hq : bd[i] with
          | nil =>
            rw [hq] at pa pf gi
            refine ⟨[some (.io 0, .lst (pl c s)), some (.frz, t.d), some (.frz, .int m), some (.own, ofI F), some (.own, ofT bd), x], [some (.io 0, .lst (pl c1 s1)), some (.frz, t.d), some (.frz, .int m), some (.own, ofI F), some (.own, ofT (bd.eraseIdx i)), some (.frz, .non)], _, ?_, ?_, ?_, c1, s1, F, bd.eraseIdx i, _, rfl, hs1, hw.drop gi, ?_, rfl, ?_⟩
            · simp [e0, nn, hlt]
            · simp [hx, pa, T.d]
            · simp only [T.ino, List.length_nil] at pf
              omega
            · rcases hF with z | z
              · exact .inl z
              · subst z
                have : i = 0 := (by simpa using hi)
                subst this
                simp at hq
                exact absurd hq hn
            · simp only [T.ino, List.length_nil] at pf
              omega
          | node k a b =>
            rw [hq] at pa pf gi
            have a0 : L2.atI [D.int k, a.d, b.d] 0 = some (.int k) := rfl
            have a1 : L2.atI [D.int k, a.d, b.d] 1 = some a.d := rfl
            have a2 : L2.atI [D.int k, a.d, b.d] 2 = some b.d := rfl
            have e3 : (bd.eraseIdx i).length + 2 ≤ sizeLine := by omega
            refine ⟨[some (.io 0, .lst (pl c s)), some (.frz, t.d), some (.frz, .int m), some (.own, ofI F), some (.own, ofT bd), x], [some (.io 0, .lst (pl c1 s1)), some (.frz, t.d), some (.frz, .int m), some (.own, ofI (F ++ [k])), some (.own, ofT (bd.eraseIdx i ++ [a, b])), some (.frz, .tup [.int k, a.d, b.d])], _, ?_, ?_, ?_, c1, s1, F ++ [k], bd.eraseIdx i ++ [a, b], _, rfl, hs1, hw.step gi, .inl (by simp), rfl, ?_⟩
            · simp [e0, nn, hlt]
            · simp [hx, pa, T.d, a0, a1, a2, fs, e2, e3]
            · simp only [T.ino, List.length_append, List.length_cons] at pf
              simp only [List.flatMap_append, List.flatMap_cons, List.flatMap_nil, List.length_append, List.length_cons, List.length_nil, List.append_nil]
              omega
            · simp only [T.ino, List.length_append, List.length_cons] at pf
              simp only [List.flatMap_append, List.flatMap_cons, List.flatMap_nil, List.length_append, List.length_cons, List.length_nil, List.append_nil]
              omega
        · refine .inl ⟨[some (.io 0, .lst (pl c s)), some (.frz, t.d), some (.frz, .int m), some (.own, ofI F), some (.own, ofT bd), x], ?_, c, s, F, bd, x, rfl, hs, hw, ?_⟩
          · simp [e0, nn, hlt]
          · intro z; subst z; simp at hlt; omega)
    whileN (3 * ([t].flatMap T.ino).length + [t].length) [some (.io 0, .lst (pl c s)), some (.frz, t.d), some (.frz, .int m), some (.own, .lst []), some (.own, .lst [t.d]), none] (by
      simp [ino_len, whileN]; omega) ⟨c, s, [], [t], none, rfl, hd, Walk.start nd, .inr rfl, rfl, by simp [ino_len]; omega⟩
  have fl := walk_len hw
  obtain ⟨top, c2, s2, h2, hs2, ti⟩ := tree_ex 48 (srt F) c' s' (by rw [(srt_perm F).length_eq]; omega) (by rw [(srt_perm F).length_eq]; omega) hs
  have mm : ∀ x, x ∈ top.ino ↔ x ∈ F := fun x => by rw [ti]; exact srt_mem F x
  have up : ∀ x ∈ top.ino, x ∈ t.ino := fun x hx => (old_sub F t).subset (hw.met x ((mm x).mp hx))
  have tb := (B_iff t _ _).mp hb
  refine ⟨top, c2, s2, ?_, hs2, hw.top hb (by rw [ti]; exact srt_lt hw.nd) mm, ?_, (B_iff top _ _).mpr ⟨up_of_pw (by rw [ti]; exact srt_lt hw.nd) fun x hx => tb.1.lt x (up x hx), fun x hx => tb.2 x (up x hx)⟩⟩
  · simp [G__law_some_top, bm__law_some_top, runI, finI, finR, gamI, e0, e1, hl, sorted_is (show F.length < 64 by omega), h2]
  · intro z
    subst z
    obtain ⟨y, hy⟩ := List.exists_mem_of_ne_nil F hF
    exact nomatch (mm y).mpr hy
end K15
end

section
set_option Elab.async false
set_option linter.all false
set_option maxRecDepth 100000
set_option maxHeartbeats 2000000
namespace K15
open PySem L2 Ex Dv Tr
theorem some_keys_ex {c s : Int} {m : Nat} (h : Sd s) (h1 : 1 ≤ m) (h2 : m ≤ 60) : ∃ ks c' s', G__law_some_keys (pl c s) [.int m] = some (.new (ofI ks), pl c' s') ∧ Sd s' ∧ Up (-1) 31 ks ∧ ks ≠ [] := by
  have ln := line
  have e0 : 0 ≤ sizeLine := by omega
  obtain ⟨Γ', hl, c', s', F, t, k, rfl, hs, hn, hb, hlen, hne⟩ := loop_inv (m := gN 3) (s := seqM (asgM 4 (callI G__law_take (consM (vName 0) (consM (M.pure (.val (.int 31))) (M.pure [])))))
      (ifM (M.bind (op2 (inO true) (vName 4) (vName 2)) asB) (dropM (metM 2 appendG (consM (vName 4) (M.pure [])))) (M.pure .nx)))
    (fun i Γ => ∃ (c s : Int) (F : List Int) (t k : Sl), Γ = [some (.io 0, .lst (pl c s)), some (.frz, .int m), some (.own, ofI F), t, k] ∧ Sd s ∧ F.Nodup ∧ (∀ x ∈ F, 0 ≤ x ∧ x ≤ 30) ∧ F.length ≤ i ∧ (1 ≤ i → F ≠ []))
    (ds := upI 0 m) (Γ := [some (.io 0, .lst (pl c s)), some (.frz, .int m), some (.own, .lst []), none, none])
    ⟨c, s, [], none, none, rfl, h, List.nodup_nil, fun _ z => (nomatch z), by simp, fun z => by omega⟩ (by
      rintro i d Γ hd ⟨c, s, F, t, k, rfl, hs, hn, hb, hlen, hne⟩
      obtain ⟨rfl, hi⟩ := up_at hd
      obtain ⟨x, c1, s1, hx, hx1, hs1⟩ := take_ex (c := c) (m := 31) hs (by omega) (by omega)
      by_cases q : x ∈ F
      · refine ⟨_, [some (.io 0, .lst (pl c1 s1)), some (.frz, .int m), some (.own, ofI F), some (.frz, .int (0 + i)), some (.frz, .int x)], rfl, .inl ?_, c1, s1, F, _, _, rfl, hs1, hn, hb, by omega, fun _ => List.ne_nil_of_mem q⟩
        simp [hx, in_ints, q]
      · have e1 : F.length < sizeLine := by omega
        refine ⟨_, [some (.io 0, .lst (pl c1 s1)), some (.frz, .int m), some (.own, ofI (F ++ [x])), some (.frz, .int (0 + i)), some (.frz, .int x)], rfl, .inl ?_, c1, s1, F ++ [x], _, _, rfl, hs1, ?_, ?_, by simp; omega, fun _ => by simp⟩
        · simp [hx, in_ints, q, e1]
        · rw [List.nodup_append]
          exact ⟨hn, by simp, fun a ha b hb' e => by simp at hb'; subst hb'; subst e; exact q ha⟩
        · intro y hy
          rcases List.mem_append.mp hy with hy | hy
          · exact hb y hy
          · simp at hy; subst hy; omega)
  rw [up_len] at hlen hne
  refine ⟨srt F, c', s', ?_, hs, up_of_pw (srt_lt hn) fun x hx => ?_, ?_⟩
  · have sm : small (m : Int) = true := small_t (by omega)
    simp [G__law_some_keys, bm__law_some_keys, runI, finI, finR, gamI, e0, sm, hl, sorted_is (show F.length < 64 by omega)]
  · have := hb x ((srt_mem F x).mp hx); omega
  · intro z
    have := (srt_perm F).length_eq
    rw [z] at this
    exact hne h1 (List.eq_nil_of_length_eq_zero this.symm)
theorem seq_ok {s s' : M Fl} {Γ Γ1 : En} {r : Res Fl} (h : s Γ = .ok .nx Γ1) (h' : s' Γ1 = r) : seqM s s' Γ = r := by rw [r_seq, h]; exact h'
theorem old_all {S : List Int} : ∀ {t : T}, (∀ x ∈ t.ino, x ∈ S) → old S t = t
  | .nil, _ => rfl
  | .node k l r, h => by
    unfold old
    rw [if_pos (h k (by simp [T.ino])), old_all (t := l) fun x hx => h x (by simp [T.ino, hx]), old_all (t := r) fun x hx => h x (by simp [T.ino, hx])]
theorem top_self (t : T) : TopOf t t := by unfold TopOf; rw [old_all fun x hx => hx]
end K15
end

section
set_option Elab.async false
set_option linter.all false
set_option maxRecDepth 100000
set_option maxHeartbeats 4000000
namespace K15
open PySem L2 Ex Dv Tr
noncomputable def s1 : M Fl := (asgM 2 (callP G__law_pool (consM (vName 0) (consM (vName 1) (M.pure [])))))
noncomputable def s2 : M Fl := (asgM 3 (callI G__law_some_keys (consM (vName 2) (consM (op2 addO (M.pure (.val (.int 1))) (callI G__law_take (consM (vName 2) (consM (M.pure (.val (.int 50))) (M.pure []))))) (M.pure [])))))
noncomputable def s3 : M Fl := (asgM 4 (callI (G__law_tree 48) (consM (vName 2) (consM (vName 3) (M.pure [])))))
noncomputable def bs4_1 : M Fl := (asgM 6 (callI G__law_some_top (consM (vName 2) (consM (vName 4) (consM (op2 addO (M.pure (.val (.int 1))) (callI G__law_take (consM (vName 2) (consM (M.pure (.val (.int 12))) (M.pure []))))) (M.pure []))))))
noncomputable def bs4_2 : M Fl := (asgM 7 (callM sortedO (consM (callP (G__law_ahead 48) (consM (vName 6) (M.pure []))) (M.pure []))))
noncomputable def bs4_3 : M Fl := (asgM 8 (lstM (consM (vName 7) (consM (slcM cutO (vName 7) (M.bind (M.pure (.val (.int 1))) asI) (M.pure none)) (consM (slcM cutO (vName 7) (M.pure none) (M.bind (op1 negO (M.pure (.val (.int 1)))) asI)) (consM (callM ssetO (consM (op2 addO (vName 7) (lstM (consM (op2 idxO (vName 3) (callI G__law_take (consM (vName 2) (consM (callM lenO (consM (vName 3) (M.pure []))) (M.pure []))))) (M.pure [])))) (M.pure []))) (M.pure [])))))))
noncomputable def bs4_4 : M Fl := (asgM 8 (op2 addO (vName 8) (lstM (consM (callM ssetO (consM (op2 addO (vName 7) (lstM (consM (callI G__law_take (consM (vName 2) (consM (M.pure (.val (.int 31))) (M.pure [])))) (M.pure [])))) (M.pure []))) (consM (callI G__law_some_keys (consM (vName 2) (consM (M.pure (.val (.int 3))) (M.pure [])))) (consM (lstM (consM (op2 idxO (vName 3) (op1 negO (M.pure (.val (.int 1))))) (M.pure []))) (consM (lstM (consM (op2 idxO (vName 4) (M.pure (.val (.int 0)))) (M.pure []))) (M.pure []))))))))
noncomputable def bs4_5 : M Fl := (asgM 9 (op2 idxO (vName 8) (callI G__law_take (consM (vName 2) (consM (M.pure (.val (.int 8))) (M.pure []))))))
noncomputable def bs4_6 : M Fl := (asgM 10 (callI (G__law_tree 48) (consM (vName 2) (consM (vName 9) (M.pure [])))))
noncomputable def bs4_7 : M Fl := (asgM 11 (callP G__law_is_top (consM (vName 4) (consM (vName 9) (M.pure [])))))
noncomputable def bs4_8 : M Fl := (ifM (orM (M.bind (op2 isntB (callX G_is_top (consM (vName 4) (consM (vName 6) (M.pure [])))) (M.pure (.val (.bl true)))) asB) (M.bind (op2 neO2 (callM reprB (consM (callX G_is_top (consM (vName 4) (consM (vName 10) (M.pure [])))) (M.pure []))) (callM reprB (consM (vName 11) (M.pure [])))) asB)) (retM (M.pure (.val (.bl false)))) (M.pure .nx))
noncomputable def bs4_9 : M Fl := (ifM (M.bind (op2 neO2 (callP G__law_told (consM (vName 4) (consM (vName 10) (M.pure [])))) (op2 idxO (lstM (consM (M.pure (.val (.str "top"))) (consM (M.pure (.val (.str "told"))) (M.pure [])))) (callM intO1 (consM (vName 11) (M.pure []))))) asB) (retM (M.pure (.val (.bl false)))) (M.pure .nx))
noncomputable def bs4 : M Fl := (seqM bs4_1 (seqM bs4_2 (seqM bs4_3 (seqM bs4_4 (seqM bs4_5 (seqM bs4_6 (seqM bs4_7 (seqM bs4_8 bs4_9))))))))
noncomputable def s4 : M Fl := (forM (rng1 (consM (M.pure (.val (.int 12))) (M.pure []))) (gN 5) bs4)
noncomputable def bs5_ : M Fl := (ifM (orM (M.bind (op2 isntB (callX G_is_top (consM (vName 4) (consM (vName 10) (M.pure [])))) (M.pure (.val (.bl false)))) asB) (M.bind (op2 neO2 (callP G__law_told (consM (vName 4) (consM (vName 10) (M.pure [])))) (M.pure (.val (.str "top")))) asB)) (retM (M.pure (.val (.bl false)))) (M.pure .nx))
noncomputable def bs5 : M Fl := bs5_
noncomputable def s5 : M Fl := (forM (lstI (lstM (consM (M.pure (.val .non)) (consM (M.pure (.val (.bl true))) (consM (M.pure (.val (.int 3))) (consM (lstM (M.pure [])) (consM (tupM (consM (op2 idxO (vName 4) (M.pure (.val (.int 0)))) (M.pure []))) (consM (lstM (consM (op2 idxO (vName 4) (M.pure (.val (.int 0)))) (consM (M.pure (.val .non)) (consM (M.pure (.val .non)) (M.pure []))))) (consM (tupM (consM (M.pure (.val (.bl true))) (consM (M.pure (.val .non)) (consM (M.pure (.val .non)) (M.pure []))))) (consM (M.pure (.val (.str ""))) (consM (tupM (consM (M.pure (.val (.int 31))) (consM (M.pure (.val .non)) (consM (M.pure (.val .non)) (M.pure []))))) (M.pure [])))))))))))) (gN 10) bs5)
noncomputable def s6 : M Fl := (ifM (orM (M.bind (op2 isntB (callX G_is_top (consM (M.pure (.val .non)) (consM (vName 4) (M.pure [])))) (M.pure (.val (.bl false)))) asB) (M.bind (op2 neO2 (callP G__law_told (consM (M.pure (.val .non)) (consM (vName 4) (M.pure [])))) (M.pure (.val (.str "top")))) asB)) (retM (M.pure (.val (.bl false)))) (M.pure .nx))
noncomputable def lawB : M Fl := (seqM s1 (seqM s2 (seqM s3 (seqM s4 (seqM s5 s6)))))
theorem law_e : bm_law (G__law_ahead 48) G__law_is_top G__law_pool G__law_some_keys G__law_some_top G__law_take G__law_told (G__law_tree 48) G_is_top = (seqM (forM (rng1 (consM (callM max2O (consM (M.pure (.val (.int 1))) (consM (callM min2O (consM (M.pure (.val (.int 8))) (consM (callM lenO (consM (vName 0) (M.pure []))) (M.pure [])))) (M.pure [])))) (M.pure []))) (gN 1) lawB) (retM (M.pure (.val (.bl true))))) := rfl
end K15
end

section
set_option Elab.async false
set_option linter.all false
set_option maxRecDepth 100000
set_option maxHeartbeats 4000000
namespace K15
open PySem L2 Ex Dv Tr
theorem step_mem (σ : List Int) (v x : Int) : x ∈ PyProof.Rows.step_dedup σ v ↔ x ∈ σ ∨ x = v := by
  unfold PyProof.Rows.step_dedup
  split
  · rename_i h
    rw [List.any_eq_true] at h
    obtain ⟨y, hy, e⟩ := h
    have e : y = v := by simpa using e
    subst e
    exact ⟨.inl, fun z => z.elim id fun e => by rw [e]; exact hy⟩
  · simp
theorem step_nodup {σ : List Int} (h : σ.Nodup) (v : Int) : (PyProof.Rows.step_dedup σ v).Nodup := by
  unfold PyProof.Rows.step_dedup
  split
  · exact h
  · rename_i q
    rw [List.nodup_append]
    refine ⟨h, by simp, fun a ha b hb e => ?_⟩
    rw [List.mem_singleton] at hb
    subst hb
    subst e
    exact q (List.any_eq_true.mpr ⟨a, ha, by simp⟩)
theorem fold_dd : ∀ (ns σ : List Int), σ.Nodup → (ns.foldl PyProof.Rows.step_dedup σ).Nodup ∧ ∀ x, x ∈ ns.foldl PyProof.Rows.step_dedup σ ↔ x ∈ σ ∨ x ∈ ns
  | [], σ, h => ⟨h, fun x => by simp⟩
  | v :: r, σ, h => by
    obtain ⟨a, b⟩ := fold_dd r _ (step_nodup h v)
    refine ⟨a, fun x => ?_⟩
    rw [List.foldl_cons, b x, step_mem, List.mem_cons, or_assoc]
theorem dd_mem (ns : List Int) (x : Int) : x ∈ dd ns ↔ x ∈ ns := by
  have := (fold_dd ns [] List.nodup_nil).2 x
  simpa [dd] using this
theorem dd_nd (ns : List Int) : (dd ns).Nodup := (fold_dd ns [] List.nodup_nil).1
theorem up_sset {ns : List Int} (h : ∀ x ∈ ns, -1 < x ∧ x < 31) : Up (-1) 31 (srt (dd ns)) := up_of_pw (srt_lt (dd_nd ns)) fun x hx => h x ((dd_mem ns x).mp ((srt_mem _ x).mp hx))
theorem sset_is {ns : List Int} (h : ns.length < 64) : ssetO [ofI ns] = some (.new (ofI (srt (dd ns)))) := by
  show (asIs (ns.map D.int)).bind _ = _
  rw [asIs_map]
  show (if ns.length < 64 then _ else _) = _
  rw [if_pos h]
theorem cut_last {α : Type} (xs : List α) : cutL xs none (some (-1)) = xs.dropLast := by
  unfold cutL
  simp only [HT.sIx]
  rw [if_pos (by omega), List.dropLast_eq_take]
  simp
  congr 1
  omega
theorem up_drop {lo hi : Int} {ns : List Int} (n : Nat) (h : Up lo hi ns) : Up lo hi (ns.drop n) := up_of_pw (List.Pairwise.sublist (List.drop_sublist _ _) h.pw) fun x hx => h.lt x (List.mem_of_mem_drop hx)
theorem up_dl {lo hi : Int} {ns : List Int} (h : Up lo hi ns) : Up lo hi ns.dropLast := up_of_pw (List.Pairwise.sublist (List.dropLast_sublist _) h.pw) fun x hx => h.lt x ((List.dropLast_sublist _).mem hx)
theorem up_one {lo hi k : Int} (h : lo < k ∧ k < hi) : Up lo hi [k] := up_of_pw (by simp) fun x hx => by rw [List.mem_singleton.mp hx]; exact h
theorem pre_perm : ∀ t : T, t.pre.Perm t.ino
  | .nil => .nil
  | .node k l r => by
    show (k :: (l.pre ++ r.pre)).Perm (l.ino ++ k :: r.ino)
    exact (List.Perm.cons k ((pre_perm l).append (pre_perm r))).trans List.perm_middle.symm
theorem srt_pre {t : T} (h : t.B (-1) 31) : srt t.pre = t.ino :=
  srt_uniq ((srt_perm _).trans (pre_perm t)) (srt_pw _) (((B_iff t _ _).mp h).1.pw.imp fun h => Int.le_of_lt h)
abbrev lE (ns : List Int) (k c s : Int) (ks : List Int) (t : T) (x5 x6 x7 x8 x9 x10 x11 : Sl) : En :=
  [some (.frz, .scr ns), some (.frz, .int k), some (.own, .lst (pl c s)), some (.frz, ofI ks), some (.frz, t.d), x5, x6, x7, x8, x9, x10, x11]
theorem draw_ex {ns : List Int} {k : Nat} (hk : k < 100) {x2 x3 x4 x5 x6 x7 x8 x9 x10 x11 : Sl} : ∃ (c s : Int) (ks : List Int) (t : T),
    s1 [some (.frz, .scr ns), some (.frz, .int k), x2, x3, x4, x5, x6, x7, x8, x9, x10, x11] = .ok .nx [some (.frz, .scr ns), some (.frz, .int k), some (.own, .lst (pl c s)), x3, x4, x5, x6, x7, x8, x9, x10, x11] ∧
    ∃ (c2 s2' : Int), s2 [some (.frz, .scr ns), some (.frz, .int k), some (.own, .lst (pl c s)), x3, x4, x5, x6, x7, x8, x9, x10, x11] = .ok .nx [some (.frz, .scr ns), some (.frz, .int k), some (.own, .lst (pl c2 s2')), some (.own, ofI ks), x4, x5, x6, x7, x8, x9, x10, x11] ∧
    ∃ (c3 s3' : Int), s3 [some (.frz, .scr ns), some (.frz, .int k), some (.own, .lst (pl c2 s2')), some (.own, ofI ks), x4, x5, x6, x7, x8, x9, x10, x11] = .ok .nx (lE ns k c3 s3' ks t x5 x6 x7 x8 x9 x10 x11) ∧ Sd s3' ∧ t.B (-1) 31 ∧ t.ino = ks ∧ ks ≠ [] := by
  obtain ⟨c, s, hp, hs⟩ := pool_ex ns k hk
  obtain ⟨x, c1, s1', hx, hx1, hs1⟩ := take_ex (c := c) (m := 50) hs (by omega) (by omega)
  obtain ⟨m, hm⟩ : ∃ m : Nat, 1 + x = m := ⟨(1 + x).toNat, by omega⟩
  obtain ⟨ks, c2, s2', hks, hs2, up, kn⟩ := some_keys_ex (c := c1) (m := m) hs1 (by omega) (by omega)
  have kl : ks.length ≤ 31 := by have := Up.len up (by omega); omega
  obtain ⟨t, c3, s3', ht, hs3, ti⟩ := tree_ex 48 ks c2 s2' (by omega) (by omega) hs2
  have tb : t.B (-1) 31 := (B_iff t _ _).mpr (by rw [ti]; exact ⟨up, fun y hy => by have := Up.lt up y hy; omega⟩)
  rw [← hm] at hks
  exact ⟨c, s, ks, t, by simp [s1, hp], c2, s2', by simp [s2, hx, hks], c3, s3', by simp [s3, ht], hs3, tb, ti, kn⟩
section
variable {ns ks : List Int} {k c s : Int} {t : T} {x5 x6 x7 x8 x9 x10 x11 : Sl}
/-- a top, and its keys in order -/
theorem p12 (hb : t.B (-1) 31) (hn : t ≠ .nil) (hd : Sd s) : ∃ (c' s' : Int) (u : T), bs4_1 (lE ns k c s ks t x5 x6 x7 x8 x9 x10 x11) = .ok .nx (lE ns k c' s' ks t x5 (some (.frz, u.d)) x7 x8 x9 x10 x11) ∧
    bs4_2 (lE ns k c' s' ks t x5 (some (.frz, u.d)) x7 x8 x9 x10 x11) = .ok .nx (lE ns k c' s' ks t x5 (some (.frz, u.d)) (some (.own, ofI u.ino)) x8 x9 x10 x11) ∧ Sd s' ∧ TopOf u t ∧ u ≠ .nil ∧ u.B (-1) 31 := by
  obtain ⟨x, c1, s1', hx, hx1, hs1⟩ := take_ex (c := c) (m := 12) hd (by omega) (by omega)
  obtain ⟨m, hm⟩ : ∃ m : Nat, 1 + x = m := ⟨(1 + x).toNat, by omega⟩
  obtain ⟨u, c2, s2', hu, hs2, ho, un, ub⟩ := some_top_ex (t := t) (c := c1) (m := m) hb hn hs1 (by omega)
  have us := B_size ub
  have ah := ahead_eq u 48 (B_ht ub) (by omega)
  have pl' : u.pre.length < 64 := by
    have : u.pre.length = u.size := by rw [(pre_perm u).length_eq, ino_len]
    omega
  have so := sorted_is pl'
  rw [srt_pre ub] at so
  rw [← hm] at hu
  exact ⟨c2, s2', u, by simp [bs4_1, hx, hu], by simp [bs4_2, ah, so], hs2, ho, un, ub⟩
/-- the eight lists of keys -/
theorem p34 (hb : t.B (-1) 31) (ti : t.ino = ks) (kn : ks ≠ []) (hd : Sd s) {u : T} (ub : u.B (-1) 31) : ∃ (c1 s1' c2 s2' : Int) (th a1 a2 a3 b0 b1 b2 b3 : List Int) (y7 : Sl), bs4_3 (lE ns k c s ks t x5 x6 (some (.own, ofI u.ino)) x8 x9 x10 x11) = .ok .nx (lE ns k c1 s1' ks t x5 x6 (some (.frz, ofI u.ino)) (some (.own, .lst [ofI th, ofI a1, ofI a2, ofI a3])) x9 x10 x11) ∧
    bs4_4 (lE ns k c1 s1' ks t x5 x6 (some (.frz, ofI u.ino)) (some (.own, .lst [ofI th, ofI a1, ofI a2, ofI a3])) x9 x10 x11) = .ok .nx (lE ns k c2 s2' ks t x5 x6 y7 (some (.own, .lst [ofI th, ofI a1, ofI a2, ofI a3, ofI b0, ofI b1, ofI b2, ofI b3])) x9 x10 x11) ∧ Sd s2' ∧
    ∀ l ∈ [th, a1, a2, a3, b0, b1, b2, b3], Up (-1) 31 l := by
  have ln := line
  have e1 : 1 ≤ sizeLine := by omega
  have e4 : 4 ≤ sizeLine := by omega
  have up := ((B_iff u _ _).mp ub).1
  have us := B_size ub
  have ul : u.ino.length ≤ 31 := by rw [ino_len]; exact us
  have tup := ((B_iff t _ _).mp hb).1
  rw [ti] at tup
  have kl : ks.length ≤ 31 := by rw [← ti, ino_len]; exact B_size hb
  have kp : 0 < ks.length := List.length_pos_iff.mpr kn
  obtain ⟨x, c1, s1', hx, hx1, hs1⟩ := take_ex (c := c) (m := (ks.length : Int)) hd (by omega) (by omega)
  obtain ⟨n, hn⟩ : ∃ n : Nat, x = n := ⟨x.toNat, by omega⟩
  have nlt : n < ks.length := by omega
  have ix : L2.atI (ks.map D.int) x = some (.int ks[n]) := by
    rw [atI_mp, hn]
    simp [L2.atI, L2.ixN, nlt]
  have in1 := tup.lt ks[n] (List.getElem_mem nlt)
  generalize ks[n] = v1 at *
  obtain ⟨y, c2, s2', hy, hy1, hs2⟩ := take_ex (c := c1) (m := 31) hs1 (by omega) (by omega)
  obtain ⟨ks3, c3, s3', hk3, hs3, up3, _⟩ := some_keys_ex (c := c2) (m := 3) hs2 (by omega) (by omega)
  obtain ⟨F, z, hF⟩ := last_split kn
  have al := at_last (xs := F) (x := z)
  rw [← hF] at al
  have inz := tup.lt z (by rw [hF]; simp)
  have ad : ∀ v : Int, addO (ofI u.ino) (.lst [.int v]) = some (.new (ofI (u.ino ++ [v]))) := fun v => by rw [o_addL (by simp; omega)]; simp
  have ss : ∀ v : Int, ssetO [ofI (u.ino ++ [v])] = some (.new (ofI (srt (dd (u.ino ++ [v]))))) := fun v => sset_is (by simp; omega)
  have upS : ∀ v : Int, -1 < v ∧ v < 31 → Up (-1) 31 (srt (dd (u.ino ++ [v]))) := fun v hv => up_sset fun q hq => by
    rcases List.mem_append.1 hq with hq | hq
    · exact up.lt q hq
    · rw [List.mem_singleton.mp hq]; exact hv
  cases t with
  | nil => exact absurd ti.symm kn
  | node k0 l0 r0 =>
    have ink := tup.lt k0 (by rw [← ti]; simp [T.ino])
    have id0 : idxO (T.node k0 l0 r0).d (.int 0) = some (.val (.int k0)) := rfl
    have q1 : cutL (u.ino.map D.int) (some 1) none = (u.ino.drop 1).map D.int := by rw [List.map_drop]; exact cut_hi _ 1
    have q2 : cutL (u.ino.map D.int) none (some (-1)) = u.ino.dropLast.map D.int := by rw [cut_last, List.map_dropLast]
    have u1 := upS v1 in1
    have u2 := upS y (by omega)
    have s1e := ss v1
    have s2e := ss y
    generalize hT : T.node k0 l0 r0 = t at *
    generalize srt (dd (u.ino ++ [v1])) = L1 at *
    generalize srt (dd (u.ino ++ [y])) = L2 at *
    refine ⟨c1, s1', c3, s3', u.ino, u.ino.drop 1, u.ino.dropLast, L1, L2, ks3, [z], [k0], some (.frz, ofI u.ino), ?_, ?_, hs3, ?_⟩
    · simp [-o_addL, -List.map_drop, -List.map_dropLast, bs4_3, e1, e4, q1, q2, hx, ix, ad, s1e]
    · have hk3 : G__law_some_keys (pl c2 s2') [.int 3] = some (.new (ofI ks3), pl c3 s3') := hk3
      have ad2 : addO (.lst [ofI u.ino, ofI (u.ino.drop 1), ofI u.ino.dropLast, ofI L1]) (.lst [ofI L2, ofI ks3, .lst [.int z], .lst [.int k0]]) = some (.new (.lst [ofI u.ino, ofI (u.ino.drop 1), ofI u.ino.dropLast, ofI L1, ofI L2, ofI ks3, ofI [z], ofI [k0]])) := o_addL (by simp; omega)
      generalize u.ino.drop 1 = A1 at *
      generalize u.ino.dropLast = A2 at *
      simp [-o_addL, bs4_4, e1, e4, hy, ad, s2e, hk3, al, id0, ad2]
    · intro l hl
      simp only [List.mem_cons, List.not_mem_nil, or_false] at hl
      rcases hl with rfl | rfl | rfl | rfl | rfl | rfl | rfl | rfl
      · exact up
      · exact up_drop 1 up
      · exact up_dl up
      · exact u1
      · exact u2
      · exact up3
      · exact up_one inz
      · exact up_one ink
theorem pick8 {ls : List (List Int)} (hl : ls.length = 8) {x : Int} (h : 0 ≤ x ∧ x < 8) : ∃ l ∈ ls, L2.atI (ls.map ofI) x = some (ofI l) := by
  obtain ⟨n, rfl⟩ : ∃ n : Nat, x = n := ⟨x.toNat, by omega⟩
  have nlt : n < ls.length := by omega
  refine ⟨ls[n], List.getElem_mem nlt, ?_⟩
  rw [atI_mp]
  simp [L2.atI, L2.ixN, nlt]
theorem lay_top : (D.str "top").py.canLay0 = true := by decide +kernel
/-- one turn -/
theorem turn_ok (hb : t.B (-1) 31) (ti : t.ino = ks) (kn : ks ≠ []) (hd : Sd s) : ∃ (c' s' : Int) (y6 y7 y8 y9 y10 y11 : Sl), bs4 (lE ns k c s ks t x5 x6 x7 x8 x9 x10 x11) = .ok .nx (lE ns k c' s' ks t x5 y6 y7 y8 y9 y10 y11) ∧ Sd s' := by
  have ln := line
  have e2 : 2 ≤ sizeLine := by omega
  have hn : t ≠ .nil := fun z => kn (by rw [← ti, z]; rfl)
  obtain ⟨c1, s1', u, h1, h2, hs1, tu, un, ub⟩ := p12 (ns := ns) (ks := ks) (k := k) (c := c) (x5 := x5) (x6 := x6) (x7 := x7) (x8 := x8) (x9 := x9) (x10 := x10) (x11 := x11) hb hn hd
  obtain ⟨c2, s2', c3, s3', th, a1, a2, a3, b0, b1, b2, b3, y7, h3, h4, hs3, ups⟩ := p34 (ns := ns) (ks := ks) (k := k) (c := c1) (x5 := x5) (x6 := some (.frz, u.d)) (x8 := x8) (x9 := x9) (x10 := x10) (x11 := x11) hb ti kn hs1 ub
  obtain ⟨x, c4, s4', hx, hx1, hs4⟩ := take_ex (c := c3) (m := 8) hs3 (by omega) (by omega)
  obtain ⟨l, hl, hp⟩ := pick8 (ls := [th, a1, a2, a3, b0, b1, b2, b3]) rfl hx1
  have hp : L2.atI [ofI th, ofI a1, ofI a2, ofI a3, ofI b0, ofI b1, ofI b2, ofI b3] x = some (ofI l) := hp
  have upl := ups l hl
  generalize [ofI th, ofI a1, ofI a2, ofI a3, ofI b0, ofI b1, ofI b2, ofI b3] = Ls at *
  have h5 : ∃ y8, bs4_5 (lE ns k c3 s3' ks t x5 (some (.frz, u.d)) y7 (some (.own, .lst Ls)) x9 x10 x11) = .ok .nx (lE ns k c4 s4' ks t x5 (some (.frz, u.d)) y7 y8 (some (.frz, ofI l)) x10 x11) := ⟨_, by simp [bs4_5, hx, hp]; rfl⟩
  obtain ⟨y8, h5⟩ := h5
  have ll : l.length ≤ 31 := by have := Up.len upl (by omega); omega
  obtain ⟨v, c5, s5', hv, hs5, vi⟩ := tree_ex 48 l c4 s4' (by omega) (by omega) hs4
  have vb : v.B (-1) 31 := (B_iff v _ _).mpr (by rw [vi]; exact ⟨upl, fun y hy => by have := Up.lt upl y hy; omega⟩)
  have h6 : bs4_6 (lE ns k c4 s4' ks t x5 (some (.frz, u.d)) y7 y8 (some (.frz, ofI l)) x10 x11) = .ok .nx (lE ns k c5 s5' ks t x5 (some (.frz, u.d)) y7 y8 (some (.frz, ofI l)) (some (.frz, v.d)) x11) := by simp [bs4_6, hv]
  have lt := law_top_eq hb hn vb
  rw [vi] at lt
  have it := is_top_eq (B_ht hb) hb (B_ht vb) vb
  have iu := is_top_eq (B_ht hb) hb (B_ht ub) ub
  rw [cd_t ⟨un, tu⟩] at iu
  have to := told_eq hb vb
  generalize cd (v ≠ .nil ∧ TopOf v t) = b at *
  have h7 : bs4_7 (lE ns k c5 s5' ks t x5 (some (.frz, u.d)) y7 y8 (some (.frz, ofI l)) (some (.frz, v.d)) x11) = .ok .nx (lE ns k c5 s5' ks t x5 (some (.frz, u.d)) y7 y8 (some (.frz, ofI l)) (some (.frz, v.d)) (some (.frz, .bl b))) := by simp [bs4_7, lt]
  have h8 : bs4_8 (lE ns k c5 s5' ks t x5 (some (.frz, u.d)) y7 y8 (some (.frz, ofI l)) (some (.frz, v.d)) (some (.frz, .bl b))) = .ok .nx (lE ns k c5 s5' ks t x5 (some (.frz, u.d)) y7 y8 (some (.frz, ofI l)) (some (.frz, v.d)) (some (.frz, .bl b))) := by
    have nz := neO_str (if b then "True" else "False")
    generalize hz : (if b = true then ("True" : Str) else "False") = z at *
    have rb : reprB [.bl b] = some (.val (.str z)) := by rw [← hz]; rfl
    simp [bs4_8, iu, it, isntB, rb, nz]
  have h9 : bs4_9 (lE ns k c5 s5' ks t x5 (some (.frz, u.d)) y7 y8 (some (.frz, ofI l)) (some (.frz, v.d)) (some (.frz, .bl b))) = .ok .nx (lE ns k c5 s5' ks t x5 (some (.frz, u.d)) y7 y8 (some (.frz, ofI l)) (some (.frz, v.d)) (some (.frz, .bl b))) := by
    have i0 : L2.atI [D.str "top", D.str "told"] 0 = some (.str "top") := rfl
    have i1 : L2.atI [D.str "top", D.str "told"] 1 = some (.str "told") := rfl
    have n0 := neO_str "top"
    have n1 := neO_str "told"
    cases b <;> simp at to <;> simp [bs4_9, to, e2, i0, i1, n0, n1]
  exact ⟨c5, s5', _, _, _, _, _, _, seq_ok h1 (seq_ok h2 (seq_ok h3 (seq_ok h4 (seq_ok h5 (seq_ok h6 (seq_ok h7 (seq_ok h8 h9))))))), hs5⟩
theorem s4_ok (hb : t.B (-1) 31) (ti : t.ino = ks) (kn : ks ≠ []) (hd : Sd s) : ∃ (c' s' : Int) (y5 y6 y7 y8 y9 y10 y11 : Sl), s4 (lE ns k c s ks t x5 x6 x7 x8 x9 x10 x11) = .ok .nx (lE ns k c' s' ks t y5 y6 y7 y8 y9 y10 y11) ∧ Sd s' := by
  obtain ⟨Γ', hl, c', s', y5, y6, y7, y8, y9, y10, y11, rfl, hs'⟩ := loop_inv (m := gN 5) (s := bs4)
    (fun _ Γ => ∃ (c s : Int) (y5 y6 y7 y8 y9 y10 y11 : Sl), Γ = lE ns k c s ks t y5 y6 y7 y8 y9 y10 y11 ∧ Sd s)
    (ds := upI 0 12) (Γ := lE ns k c s ks t x5 x6 x7 x8 x9 x10 x11) ⟨c, s, x5, x6, x7, x8, x9, x10, x11, rfl, hd⟩ (by
      rintro i d Γ hd ⟨c, s, y5, y6, y7, y8, y9, y10, y11, rfl, hs⟩
      obtain ⟨c', s', z6, z7, z8, z9, z10, z11, hz, hs'⟩ := turn_ok (ns := ns) (k := k) (ks := ks) (c := c) (x5 := some (.frz, d)) (x6 := y6) (x7 := y7) (x8 := y8) (x9 := y9) (x10 := y10) (x11 := y11) hb ti kn hs
      exact ⟨_, _, rfl, .inl hz, c', s', some (.frz, d), z6, z7, z8, z9, z10, z11, rfl, hs'⟩)
  have sm : small 12 = true := small_t (by omega)
  exact ⟨c', s', y5, y6, y7, y8, y9, y10, y11, by simp [s4, sm, hl], hs'⟩
theorem odd_step {d : D} (h : G_is_top [t.d, d] = some (.ok (.val (.bl false)))) : bs5 (lE ns k c s ks t x5 x6 x7 x8 x9 (some (.frz, d)) x11) = .ok .nx (lE ns k c s ks t x5 x6 x7 x8 x9 (some (.frz, d)) x11) := by
  have to := told_top h
  have n0 := neO_str "top"
  simp [bs5, bs5_, h, to, isntB, n0]
theorem s5_ok (hb : t.B (-1) 31) (ti : t.ino = ks) (kn : ks ≠ []) : ∃ y10, s5 (lE ns k c s ks t x5 x6 x7 x8 x9 x10 x11) = .ok .nx (lE ns k c s ks t x5 x6 x7 x8 x9 y10 x11) := by
  have ln := line
  have e0 : 0 ≤ sizeLine := by omega
  have e1 : 1 ≤ sizeLine := by omega
  have e3 : 3 ≤ sizeLine := by omega
  have e9 : 9 ≤ sizeLine := by omega
  obtain ⟨k0, id0⟩ : ∃ k0, idxO t.d (.int 0) = some (.val (.int k0)) := by
    cases t with
    | nil => exact absurd ti.symm kn
    | node k0 l0 r0 => exact ⟨k0, rfl⟩
  have key : ∀ d ∈ [D.non, .bl true, .int 3, .lst [], .tup [.int k0], .lst [.int k0, .non, .non], .tup [.bl true, .non, .non], .str "", .tup [.int 31, .non, .non]], G_is_top [t.d, d] = some (.ok (.val (.bl false))) := by
    intro d hd
    simp only [List.mem_cons, List.not_mem_nil, or_false] at hd
    rcases hd with rfl | rfl | rfl | rfl | rfl | rfl | rfl | rfl | rfl
    · exact is_top_non hb
    · exact is_top_Q (q := .odd (.bl true)) hb (by decide) rfl rfl
    · exact is_top_Q (q := .odd (.int 3)) hb (by decide) rfl rfl
    · exact is_top_Q (q := .odd (.lst [])) hb (by decide) rfl rfl
    · exact is_top_Q (q := .odd (.tup [.int k0])) hb (by simp [Q.ht]) rfl rfl
    · exact is_top_Q (q := .odd (.lst [.int k0, .non, .non])) hb (by simp [Q.ht]) rfl rfl
    · exact is_top_Q (q := .node (.bl true) .nil .nil) hb (by decide) (by simp [Q.ok, keyK]) rfl
    · exact is_top_Q (q := .odd (.str "")) hb (by decide) rfl rfl
    · exact is_top_Q (q := .node (.int 31) .nil .nil) hb (by decide) (by simp [Q.ok, keyK]) (by decide)
  generalize hL : [D.non, .bl true, .int 3, .lst [], .tup [.int k0], .lst [.int k0, .non, .non], .tup [.bl true, .non, .non], .str "", .tup [.int 31, .non, .non]] = L at key
  obtain ⟨Γ', hl, y10, rfl⟩ := loop_inv (m := gN 10) (s := bs5) (fun _ Γ => ∃ y10, Γ = lE ns k c s ks t x5 x6 x7 x8 x9 y10 x11)
    (ds := L) (Γ := lE ns k c s ks t x5 x6 x7 x8 x9 x10 x11) ⟨x10, rfl⟩ (by
      rintro i d Γ hd ⟨y10, rfl⟩
      exact ⟨_, _, rfl, .inl (odd_step (key d (List.mem_of_getElem? hd))), some (.frz, d), rfl⟩)
  refine ⟨y10, ?_⟩
  simp [s5, e0, e1, e3, e9, id0]
  rw [hL]
  exact hl
theorem s6_ok (hb : t.B (-1) 31) : s6 (lE ns k c s ks t x5 x6 x7 x8 x9 x10 x11) = .ok .nx (lE ns k c s ks t x5 x6 x7 x8 x9 x10 x11) := by
  have it := top_of_nil hb
  have to := told_top it
  have n0 := neO_str "top"
  simp [s6, it, to, isntB, n0]
end
theorem lawB_ok {ns : List Int} {k : Nat} (hk : k < 100) {x2 x3 x4 x5 x6 x7 x8 x9 x10 x11 : Sl} : ∃ y2 y3 y4 y5 y6 y7 y8 y9 y10 y11, lawB [some (.frz, .scr ns), some (.frz, .int k), x2, x3, x4, x5, x6, x7, x8, x9, x10, x11] = .ok .nx [some (.frz, .scr ns), some (.frz, .int k), y2, y3, y4, y5, y6, y7, y8, y9, y10, y11] := by
  obtain ⟨c, s, ks, t, h1, c2, s2', h2, c3, s3', h3, hs3, tb, ti, kn⟩ := draw_ex (ns := ns) hk (x2 := x2) (x3 := x3) (x4 := x4) (x5 := x5) (x6 := x6) (x7 := x7) (x8 := x8) (x9 := x9) (x10 := x10) (x11 := x11)
  obtain ⟨c4, s4', y5, y6, y7, y8, y9, y10, y11, h4, hs4⟩ := s4_ok (ns := ns) (k := (k : Int)) (x5 := x5) (x6 := x6) (x7 := x7) (x8 := x8) (x9 := x9) (x10 := x10) (x11 := x11) tb ti kn hs3 (c := c3)
  obtain ⟨z10, h5⟩ := s5_ok (ns := ns) (k := (k : Int)) (c := c4) (s := s4') (x5 := y5) (x6 := y6) (x7 := y7) (x8 := y8) (x9 := y9) (x10 := y10) (x11 := y11) tb ti kn
  exact ⟨_, _, _, _, _, _, _, _, _, _, seq_ok h1 (seq_ok h2 (seq_ok h3 (seq_ok h4 (seq_ok h5 (s6_ok tb)))))⟩
end K15
end

section
set_option Elab.async false
set_option linter.all false
set_option maxRecDepth 100000
set_option maxHeartbeats 4000000
namespace K15
open PySem L2 Ex Dv Tr
theorem law_eq (ns : List Int) (h : ns.length ≤ 63) : G_law [.scr ns] = some (.val (.bl true)) := by
  generalize hn : (if (ns.length : Int) < 8 then (ns.length : Int) else 8) = n1
  generalize hn2 : (if n1 > 1 then n1 else 1) = n2
  have b1 : 0 ≤ n1 ∧ n1 ≤ 8 := by rw [← hn]; split <;> omega
  have b2 : 1 ≤ n2 ∧ n2 ≤ 8 := by rw [← hn2]; split <;> omega
  have sm : small n2 = true := small_t (by omega)
  obtain ⟨Γ', hl, y1, y2, y3, y4, y5, y6, y7, y8, y9, y10, y11, rfl⟩ := loop_inv (m := gN 1) (s := lawB)
    (fun _ Γ => ∃ (y1 y2 y3 y4 y5 y6 y7 y8 y9 y10 y11 : Sl), Γ = [some (.frz, .scr ns), y1, y2, y3, y4, y5, y6, y7, y8, y9, y10, y11])
    (ds := upI 0 n2.toNat) (Γ := [some (.frz, .scr ns), none, none, none, none, none, none, none, none, none, none, none])
    ⟨none, none, none, none, none, none, none, none, none, none, none, rfl⟩ (by
      rintro i d Γ hd ⟨y1, y2, y3, y4, y5, y6, y7, y8, y9, y10, y11, rfl⟩
      obtain ⟨rfl, hi⟩ := up_at hd
      obtain ⟨z2, z3, z4, z5, z6, z7, z8, z9, z10, z11, hz⟩ := lawB_ok (ns := ns) (k := i) (x2 := y2) (x3 := y3) (x4 := y4) (x5 := y5) (x6 := y6) (x7 := y7) (x8 := y8) (x9 := y9) (x10 := y10) (x11 := y11) (by omega)
      exact ⟨_, _, rfl, .inl (by simpa using hz), some (.frz, .int i), z2, z3, z4, z5, z6, z7, z8, z9, z10, z11, rfl⟩)
  unfold G_law
  rw [law_e]
  simp [runP, finR, gam, hn, hn2, sm, hl]
end K15
end

section
set_option Elab.async false
set_option maxRecDepth 100000
namespace Hd
open PySem PySem.W PyProof.Rows
/-- the top's run, on the tree, to its end -/
def runT (tb : String → Option Builtin) (p : Program) (w : World) (m : Nat) (an : Option Value) : Nat → SharedT → Thread → Option SharedT
  | 0, _, _ => none
  | k + 1, x, y => match through y with
    | true => some x
    | false => match stepOk m an y with
      | false => none
      | true => match stepT (denote tb) p w x y with
        | some (x', y') => runT tb p w m an k x' y'
        | none => none
theorem runT_of {tb : String → Option Builtin} {p : Program} {w : World} {m : Nat} {an : Option Value} : ∀ {k : Nat} {x r : SharedT} {y : Thread}, runT tb p w m an k x y = some r → topRun tb p w m an k x.abs y = some r.abs
  | 0, _, _, _, h => by cases h
  | k + 1, x, r, y, h => by
    unfold runT at h
    unfold topRun
    cases c1 : through y with
    | true => rw [c1] at h; cases h; rfl
    | false =>
      rw [c1] at h
      cases c2 : stepOk m an y with
      | false => rw [c2] at h; cases h
      | true =>
        rw [c2] at h
        cases c3 : stepT (denote tb) p w x y with
        | none => rw [c3] at h; cases h
        | some z => obtain ⟨x2, y2⟩ := z; rw [c3] at h; rw [stepT_spec c3]; exact runT_of h
/-- the same by the quick forms -/
noncomputable def runQ (tb : String → Option Builtin) (p : Program) (w : World) (m : Nat) (an : Option Value) : Nat → SharedT → Thread → Option SharedT
  | 0, _, _ => none
  | k + 1, x, y => match through y with
    | true => some x
    | false => match Fast.tw6613529449190102663 m an y with
      | false => none
      | true => match Fast.tw10156331382660048174 (Fast.tw11892475500146522536 tb) p w x y with
        | some (x', y') => runQ tb p w m an k x' y'
        | none => none
theorem runQ_eq {tb : String → Option Builtin} {p : Program} {w : World} {m : Nat} {an : Option Value} : ∀ (k : Nat) (x : SharedT) (y : Thread), runT tb p w m an k x y = runQ tb p w m an k x y
  | 0, _, _ => rfl
  | k + 1, x, y => by
    unfold runT runQ
    rw [← Fast.te6613529449190102663, ← Fast.te10156331382660048174, ← Fast.te11892475500146522536]
    split
    · rfl
    · split
      · rfl
      · split
        · exact runQ_eq k _ _
        · rfl
noncomputable def bootT (P : Params) (os : OsState) : SharedT :=
  ⟨(.node (boot_o_0 P) (.node (boot_o_1 P) (.node (boot_o_3 P) (.node (boot_o_7 P) .nil .nil) .nil) (.node (boot_o_5 P) (.node (boot_o_9 P) .nil .nil) .nil)) (.node (boot_o_2 P) (.node (boot_o_4 P) (.node (boot_o_8 P) .nil .nil) .nil) (.node (boot_o_6 P) (.node (boot_o_10 P) .nil .nil) .nil))), 11, (boot_heap P).life, Array.mk [], boot_drawn, boot_toks, os⟩
theorem bootT_abs (P : Params) (os : OsState) : (bootT P os).abs = ⟨boot_heap P, Array.mk [], boot_drawn, boot_toks, os⟩ := by kernel_rfl
/-! from the run to what the head asks -/
theorem left_of {p r : Program} {keep : List Nat} {R : WRecords} {K : Params → Frag} {as : List Addr} {N : Nat} (ep : p = r) (e0 : opening p = plainProg p.main.scope.names) (hN : Nat.ble 600 N = true) (f : ∀ s, fenceModules? p s = some s)
    (run : ∀ (w : World) (os : OsState), (runQ Fast.tw14364793385576792824 r w 11 (some (.ref 6)) N (bootT w.params os) (topStub r)).map (fun s => ((staticsOk (importedModules r.main.body) (boot_heap w.params) s.abs.heap && namesBound r s.abs.heap && gensDone s.abs && laidKept (boot_heap w.params) s.abs.heap),
      Fast.tw4187177175401517315 (view r keep) [] (importedModules r.main.body) (fun s => xlAt (view r keep) [] s && recOk R s) true s.abs, as.map s.abs.heap.get?)) = some (true, openGood (view r keep) [], (K w.params).map fun x => some x.2)) :
    LeftO p (view p keep) [] (fun s => xlAt (view p keep) [] s && recOk R s) (fun s => as.map s.heap.get?) (fun w => (K w.params).map fun x => some x.2) N := by
  subst ep
  intro w
  obtain ⟨⟨h, gs, d, k, os⟩, e, e'⟩ := Option.map_eq_some_iff.mp (boot_open e0 hN f w)
  obtain ⟨rfl, rfl, rfl, rfl⟩ : h = boot_heap w.params ∧ gs = Array.mk [] ∧ d = boot_drawn ∧ k = boot_toks := by simpa using e'
  obtain ⟨s, h1, h2⟩ := Option.map_eq_some_iff.mp (run w os)
  rw [← Fast.te14364793385576792824, ← runQ_eq] at h1
  have h1 := runT_of h1
  rw [bootT_abs] at h1
  rw [← Fast.te4187177175401517315] at h2
  obtain ⟨l1, l2, l3⟩ : _ ∧ _ ∧ _ := by simpa only [Prod.mk.injEq] using h2
  have z : ((boot_heap w.params).isNs mainGlobals && (Array.mk [] : Array GenState).size == 0, (boot_heap w.params).objs.size, (boot_heap w.params).nsMap mainGlobals "__annotations__") = (true, 11, some (.ref 6)) := by kernel_rfl
  obtain ⟨z1, z2, z3⟩ : _ ∧ _ ∧ _ := by simpa only [Prod.mk.injEq] using z
  have t : topFrom treeTable p w N ⟨boot_heap w.params, Array.mk [], boot_drawn, boot_toks, os⟩ = some s.abs := by
    unfold topFrom
    dsimp only
    rw [z1, z2, z3, h1]
    show (match staticsOk (importedModules p.main.body) (boot_heap w.params) s.abs.heap && namesBound p s.abs.heap && gensDone s.abs && laidKept (boot_heap w.params) s.abs.heap with | true => _ | false => _) = _
    rw [l1]
  unfold openEnds
  rw [e]
  show ((topFrom treeTable p w N _).map _) = _
  rw [t]
  exact congrArg some (Prod.ext l2 (by exact l3))
/-! what is written of the heap -/
abbrev vS (s : Str) (t : Tok) : Value := .str s t
abbrev vI (i : Int) (t : Tok) : Value := .int i t
abbrev de (s : Str) (t : Tok) (v : Value) : Str × Tok × Value := (s, t, v)
abbrev dO (P : Params) (l : List (Str × Tok × Value)) (n : Nat) : Obj := { cls := .type "dict", data := .dict (l.map fun x => ⟨PyData.keyHash P x.1, .str x.1 x.2.1, x.2.2⟩).toArray n }
abbrev dN (P : Params) (l : List (Str × Tok × Value)) (n : Nat) : Obj := { cls := .none, data := .dict (l.map fun x => ⟨PyData.keyHash P x.1, .str x.1 x.2.1, x.2.2⟩).toArray n }
abbrev fO (x q : Str) (st : Stmt) (dV pm : Value) (cd : Addr) : Obj := { cls := .type "function", data := .func (fnOf x q (L2.defArgs st) (L2.defBody st) (L2.defScope st) dV .none .none pm none (.ref cd) .none) }
abbrev kO (x q : Str) (t : Tok) (a b : Int) (l : List Value) : Obj := { cls := .type "code", data := .fields (.str x t :: .str q (t + 1) :: .str "/claim/cut.py" (t + 2) :: .int a 0 :: .int b 0 :: l).toArray }
abbrev cO (x : Str) (bs mr : List Value) (ns : Addr) (sb : List Value) (sl : Array (Option Value)) : Obj := { cls := .type "type", data := .cls { name := x, bases := bs, mro := mr, ns := ns, qualname := x, subclasses := sb }, slots := sl }
end Hd
end

section
set_option Elab.async false
set_option linter.all false
set_option maxRecDepth 100000
set_option maxHeartbeats 5000000
namespace K15
open PySem L2 Ex Dv
variable [KC]
def top (i : Nat) : Stmt := PySem.Challenge.pw_thirdpoint_k15_tops_looked_at.main.body.getD i (.Pass ⟨0, 0, 0, 0⟩)
structure Nm (mg : Str → Option Value) : Prop where
  b_bool : mg "bool" = none
  b_int : mg "int" = none
  b_isinstance : mg "isinstance" = none
  b_len : mg "len" = none
  b_max : mg "max" = none
  b_min : mg "min" = none
  b_range : mg "range" = none
  b_repr : mg "repr" = none
  b_set : mg "set" = none
  b_sorted : mg "sorted" = none
  b_tuple : mg "tuple" = none
  c_LAST_KEY : ∃ t, mg "LAST_KEY" = some (.int 30 t)
  n_NoAsks : mg "NoAsks" = some (.ref (KC.cls .NoAsks))
  n_NoBack : mg "NoBack" = some (.ref (KC.cls .NoBack))
  n_NoBox : mg "NoBox" = some (.ref (KC.cls .NoBox))
  n_NoKey : mg "NoKey" = some (.ref (KC.cls .NoKey))
  n_NoName : mg "NoName" = some (.ref (KC.cls .NoName))
  n_NoPoint : mg "NoPoint" = some (.ref (KC.cls .NoPoint))
  n_NoPoints : mg "NoPoints" = some (.ref (KC.cls .NoPoints))
  n_NoRow : mg "NoRow" = some (.ref (KC.cls .NoRow))
  n_NoRun : mg "NoRun" = some (.ref (KC.cls .NoRun))
  n_NoText : mg "NoText" = some (.ref (KC.cls .NoText))
  n_NoTop : mg "NoTop" = some (.ref (KC.cls .NoTop))
  n_NoTree : mg "NoTree" = some (.ref (KC.cls .NoTree))
  n_NoTurn : mg "NoTurn" = some (.ref (KC.cls .NoTurn))
  n_NotServed : mg "NotServed" = some (.ref (KC.cls .NotServed))
  n_PointError : mg "PointError" = some (.ref (KC.cls .PointError))
  n_TooMany : mg "TooMany" = some (.ref (KC.cls .TooMany))
  m_NoTop : XMk0 KC.K (KC.cls .NoTop)
  z_NoTop : XK0 KC.K (KC.cls .NoTop)
  m_NoTree : XMk0 KC.K (KC.cls .NoTree)
  z_NoTree : XK0 KC.K (KC.cls .NoTree)
  k_NoAsks : KitX exL .NoAsks
  k_NoBack : KitX exL .NoBack
  k_NoBox : KitX exL .NoBox
  k_NoKey : KitX exL .NoKey
  k_NoName : KitX exL .NoName
  k_NoPoint : KitX exL .NoPoint
  k_NoPoints : KitX exL .NoPoints
  k_NoRow : KitX exL .NoRow
  k_NoRun : KitX exL .NoRun
  k_NoText : KitX exL .NoText
  k_NoTop : KitX exL .NoTop
  k_NoTree : KitX exL .NoTree
  k_NoTurn : KitX exL .NoTurn
  k_NotServed : KitX exL .NotServed
  k_PointError : KitX exL .PointError
  k_TooMany : KitX exL .TooMany
  t_PointError_NoPoint_TooMany : ∀ C, mt_PointError_NoPoint_TooMany C = true → matchIn KC.K (KC.cls C) [.ref (KC.cls .PointError), .ref (KC.cls .NoPoint), .ref (KC.cls .TooMany)] = some true
abbrev s__law_ahead : Stmt := top 36
abbrev s__law_way : Stmt := top 39
abbrev s__law_is_top : Stmt := top 42
abbrev s__law_cell_at : Stmt := top 31
abbrev s__law_pool : Stmt := top 32
abbrev s__law_take : Stmt := top 33
abbrev s__law_some_keys : Stmt := top 34
abbrev s__law_tree : Stmt := top 35
abbrev s__law_some_top : Stmt := top 40
abbrev s__law_kind : Stmt := top 41
abbrev s_rising : Stmt := top 24
abbrev s_hung : Stmt := top 28
abbrev s_is_key : Stmt := top 19
abbrev s_is_between : Stmt := top 21
abbrev s_is_tree : Stmt := top 22
abbrev s_look_at_tree : Stmt := top 23
abbrev s_parts_beneath : Stmt := top 26
abbrev s_is_top : Stmt := top 27
abbrev s_turned : Stmt := top 29
abbrev s__law_told : Stmt := top 43
abbrev s_law : Stmt := top 44
section
variable {P : Program} {w : World} {mg : Str → Option Value} {base : Heap}
theorem sc__law_ahead : FnScope ["_law_tree_here"] ["_law_tree_here"] (defScope s__law_ahead) := ⟨rfl, rfl, rfl, by decide +kernel, rfl, by decide +kernel, by decide +kernel⟩
theorem vs__law_ahead {fa : Addr} {cdv : Value} {A : Around} {outer : List Env} {s : Shared} {H : Hp} {E : XK} {k : Nat} {ios : List Addr} (M : Nm mg) {G__law_ahead : List D → Option Rt} {k__law_ahead : Nat} (C__law_ahead : Cal P w mg base "_law_ahead" k__law_ahead ["_law_tree_here"] (spP G__law_ahead)) (L__law_ahead : k__law_ahead ≤ k) (hr : Room k (A.deeper (PyProof.Rows.envOfC "_law_ahead" (defScope s__law_ahead) s.heap.objs.size fa cdv))) :
    VSs (cxOf CX0 P w KC.K mg base ["_law_tree_here"] "_law_ahead" (defScope s__law_ahead) fa cdv A outer s H E).nox EN ios (defBody s__law_ahead) (bm__law_ahead G__law_ahead) :=
  (vss_cons (vs_if (vt_cmp op_isN opv_is (ve_name (pv 0)) ve_non (nomark _))
      (vss_one (vs_ret (ve_lst va_nil)))
      vss_nil)
      (vss_one (vs_ret (ve_op op_add3 opv_add (ve_op op_add3 opv_add (ve_lst (va_cons (ve_ix (ve_name (pv 0)) ve_int) va_nil)) (ve_call C__law_ahead (hr.mono L__law_ahead) rfl (va_cons (ve_ix (ve_name (pv 0)) ve_int) va_nil))) (ve_call C__law_ahead (hr.mono L__law_ahead) rfl (va_cons (ve_ix (ve_name (pv 0)) ve_int) va_nil))))))
theorem sc__law_way : FnScope ["_law_tree_here", "_law_key", "_law_found"] ["_law_tree_here", "_law_key"] (defScope s__law_way) := ⟨rfl, rfl, rfl, by decide +kernel, rfl, by decide +kernel, by decide +kernel⟩
theorem vs__law_way {fa : Addr} {cdv : Value} {A : Around} {outer : List Env} {s : Shared} {H : Hp} {E : XK} {k : Nat} {ios : List Addr} (M : Nm mg)  (hr : Room k (A.deeper (PyProof.Rows.envOfC "_law_way" (defScope s__law_way) s.heap.objs.size fa cdv))) :
    VSs (cxOf CX0 P w KC.K mg base ["_law_tree_here", "_law_key", "_law_found"] "_law_way" (defScope s__law_way) fa cdv A outer s H E).nox EN ios (defBody s__law_way) (bm__law_way ) :=
  (vss_cons (vs_set (i := 2) sc__law_way.nd rfl (by first | exact Or.inl rfl | exact Or.inr rfl) (ve_lst va_nil))
      (vss_cons (vs_while (n := whileN) (vt_bool (vw_and (vt_cmp op_notN opv_isnt (ve_name (pv 0)) ve_non (nomark _)) (vw_and1 (vt_bool (vw_or (vt_cmp (op_eq2 hr) opv_eq2 (ve_name (pv 2)) (ve_lst va_nil) (nomark _)) (vw_or1 (vt_cmp (op_ne2 hr) opv_ne2 (ve_ix (ve_name (pv 2)) (ve_neg ve_int)) (ve_name (pv 1)) (nomark _))))))))
      (vss_cons (vs_expr (ve_met (fun _ ha => pe_bm PySem.F.plainAttrs_list PySem.F.slot_list_append PySem.F.type_list_append mt_append (pv 2) ha) metv_append (va_cons (ve_ix (ve_name (pv 0)) ve_int) va_nil)))
      (vss_one (vs_set (i := 0) sc__law_way.nd rfl (by first | exact Or.inl rfl | exact Or.inr rfl) (ve_ix (ve_lst (va_cons (ve_ix (ve_name (pv 0)) ve_int) (va_cons (ve_ix (ve_name (pv 0)) ve_int) va_nil))) (ve_blt (fun _ ha => pe_callTy call_int1 rfl M.b_int (by decide +kernel) ha) callv_int (va_cons (ve_cmp op_lt opv_lt (ve_name (pv 1)) (ve_ix (ve_name (pv 0)) ve_int) (nomark _)) va_nil)))))))
      (vss_one (vs_ret (ve_name (pv 2))))))
theorem sc__law_is_top : FnScope ["_law_tree_here", "_law_own", "_law_key", "_law_way_here"] ["_law_tree_here", "_law_own"] (defScope s__law_is_top) := ⟨rfl, rfl, rfl, by decide +kernel, rfl, by decide +kernel, by decide +kernel⟩
theorem vs__law_is_top {fa : Addr} {cdv : Value} {A : Around} {outer : List Env} {s : Shared} {H : Hp} {E : XK} {k : Nat} {ios : List Addr} (M : Nm mg) {G__law_way : List D → Option Rt} {k__law_way : Nat} (C__law_way : Cal P w mg base "_law_way" k__law_way ["_law_tree_here", "_law_key"] (spP G__law_way)) (L__law_way : k__law_way ≤ k) (hr : Room k (A.deeper (PyProof.Rows.envOfC "_law_is_top" (defScope s__law_is_top) s.heap.objs.size fa cdv))) :
    VSs (cxOf CX0 P w KC.K mg base ["_law_tree_here", "_law_own", "_law_key", "_law_way_here"] "_law_is_top" (defScope s__law_is_top) fa cdv A outer s H E).nox EN ios (defBody s__law_is_top) (bm__law_is_top G__law_way) :=
  (vss_cons (vs_if (vt_cmp (op_eq2 hr) opv_eq2 (ve_name (pv 1)) (ve_lst va_nil) (nomark _))
      (vss_one (vs_ret ve_bl))
      vss_nil)
      (vss_cons (vs_for (n := 4) (vi_list (ve_name (pv 1))) (rd_gname (by decide))
      (vss_cons (vs_set (i := 3) sc__law_is_top.nd rfl (by first | exact Or.inl rfl | exact Or.inr rfl) (ve_call C__law_way (hr.mono L__law_way) rfl (va_cons (ve_name (pv 0)) (va_cons (ve_name (pv 2)) va_nil))))
      (vss_one (vs_if (vt_bool (vw_or (vt_cmp (op_ne2 hr) opv_ne2 (ve_ix (ve_name (pv 3)) (ve_neg ve_int)) (ve_name (pv 2)) (nomark _)) (vw_or1 (vt_cmp (op_ne2 hr) opv_ne2 (ve_lc rfl (blk_of (Nc := ["_law_one", "_law_own"]) (own := 1) (fr := [1]) (sc := defScope s__law_is_top) (N := ["_law_tree_here", "_law_own", "_law_key", "_law_way_here"]) rfl rfl (by decide +kernel)) (by decide) (vi_list (ve_name (pv 3))) (own_name (by decide)) (fun _ _ _ _ _ _ => (pg_name (i := 0) (show (["_law_one", "_law_own"] : List Str).Nodup by decide +kernel) rfl (by first | exact Or.inl rfl | exact Or.inr rfl))) (rd_gname (by decide)) (gk_name (by decide)) (fun _ _ _ _ _ _ => vts_one (vt_cmp op_notIn_seq opv_in (ve_name (pv 0)) (ve_name (pv 1)) rfl)) (fun _ _ _ _ _ _ => (ve_name (pv 0)))) (ve_lst va_nil) (nomark _)))))
      (vss_one (vs_ret ve_bl))
      vss_nil))) (fun _ _ h1 h2 => ps_for PassesOwn.never rfl h1 (pg_name (i := 2) sc__law_is_top.nd rfl (by first | exact Or.inl rfl | exact Or.inr rfl)) h2))
      (vss_one (vs_ret ve_bl))))
theorem sc__law_cell_at : FnScope ["_law_script", "_law_k"] ["_law_script", "_law_k"] (defScope s__law_cell_at) := ⟨rfl, rfl, rfl, by decide +kernel, rfl, by decide +kernel, by decide +kernel⟩
theorem vs__law_cell_at {fa : Addr} {cdv : Value} {A : Around} {outer : List Env} {s : Shared} {H : Hp} {E : XK} {k : Nat} {ios : List Addr} (M : Nm mg)  (hr : Room k (A.deeper (PyProof.Rows.envOfC "_law_cell_at" (defScope s__law_cell_at) s.heap.objs.size fa cdv))) :
    VSs (cxOf CX0 P w KC.K mg base ["_law_script", "_law_k"] "_law_cell_at" (defScope s__law_cell_at) fa cdv A outer s H E).nox EN ios (defBody s__law_cell_at) (bm__law_cell_at ) :=
  (vss_cons (vs_if (vt_cmp op_lt opv_lt (ve_name (pv 1)) (ve_blt (fun _ ha => pe_callB call_len2 rfl M.b_len PySem.boot_len ha) callv_len (va_cons (ve_name (pv 0)) va_nil)) (nomark _))
      (vss_one (vs_ret (ve_ix (ve_name (pv 0)) (ve_name (pv 1)))))
      vss_nil)
      (vss_one (vs_ret ve_int)))
theorem sc__law_pool : FnScope ["_law_script", "_law_k", "_law_cell", "_law_seed"] ["_law_script", "_law_k"] (defScope s__law_pool) := ⟨rfl, rfl, rfl, by decide +kernel, rfl, by decide +kernel, by decide +kernel⟩
theorem vs__law_pool {fa : Addr} {cdv : Value} {A : Around} {outer : List Env} {s : Shared} {H : Hp} {E : XK} {k : Nat} {ios : List Addr} (M : Nm mg) {G__law_cell_at : List D → Option Rt} {k__law_cell_at : Nat} (C__law_cell_at : Cal P w mg base "_law_cell_at" k__law_cell_at ["_law_script", "_law_k"] (spP G__law_cell_at)) (L__law_cell_at : k__law_cell_at ≤ k) (hr : Room k (A.deeper (PyProof.Rows.envOfC "_law_pool" (defScope s__law_pool) s.heap.objs.size fa cdv))) :
    VSs (cxOf CX0 P w KC.K mg base ["_law_script", "_law_k", "_law_cell", "_law_seed"] "_law_pool" (defScope s__law_pool) fa cdv A outer s H E).nox EN ios (defBody s__law_pool) (bm__law_pool G__law_cell_at) :=
  (vss_cons (vs_set (i := 2) sc__law_pool.nd rfl (by first | exact Or.inl rfl | exact Or.inr rfl) (ve_call C__law_cell_at (hr.mono L__law_cell_at) rfl (va_cons (ve_name (pv 0)) (va_cons (ve_name (pv 1)) va_nil))))
      (vss_cons (vs_set (i := 3) sc__law_pool.nd rfl (by first | exact Or.inl rfl | exact Or.inr rfl) (ve_op op_mod opv_mod (ve_op op_mul opv_mul (ve_op op_add3 opv_add (ve_op op_add3 opv_add (ve_op op_add3 opv_add (ve_op op_mod opv_mod (ve_name (pv 2)) ve_int) (ve_op op_mul opv_mul (ve_op op_mul opv_mul ve_int (ve_name (pv 1))) (ve_name (pv 1)))) (ve_op op_mul opv_mul ve_int (ve_name (pv 1)))) ve_int) ve_int) ve_int))
      (vss_cons (vs_if (vt_cmp op_lt opv_lt (ve_name (pv 2)) (ve_op op_pow opv_pow ve_int ve_int) (nomark _))
      (vss_one (vs_set (i := 2) sc__law_pool.nd rfl (by first | exact Or.inl rfl | exact Or.inr rfl) ve_int))
      vss_nil)
      (vss_one (vs_ret (ve_lst (va_cons (ve_name (pv 2)) (va_cons (ve_op op_mod opv_mod (ve_op op_mul opv_mul (ve_name (pv 3)) (ve_name (pv 3))) ve_int) va_nil))))))))
theorem sc__law_take : FnScope ["_law_pool_here", "_law_many", "_law_found"] ["_law_pool_here", "_law_many"] (defScope s__law_take) := ⟨rfl, rfl, rfl, by decide +kernel, rfl, by decide +kernel, by decide +kernel⟩
theorem vs__law_take {fa : Addr} {cdv : Value} {A : Around} {outer : List Env} {s : Shared} {H : Hp} {E : XK} {k : Nat} {ios : List Addr} (M : Nm mg)  (hr : Room k (A.deeper (PyProof.Rows.envOfC "_law_take" (defScope s__law_take) s.heap.objs.size fa cdv))) :
    VSs (cxOf CX0 P w KC.K mg base ["_law_pool_here", "_law_many", "_law_found"] "_law_take" (defScope s__law_take) fa cdv A outer s H E).nox EN ios (defBody s__law_take) (bm__law_take ) :=
  (vss_cons (vs_if (vt_cmp op_gt opv_gt (ve_ix (ve_name (pv 0)) ve_int) ve_int (nomark _))
      (vss_cons (vs_set (i := 2) sc__law_take.nd rfl (by first | exact Or.inl rfl | exact Or.inr rfl) (ve_op op_mod opv_mod (ve_ix (ve_name (pv 0)) ve_int) (ve_name (pv 1))))
      (vss_cons (vs_asg (n := 0) (ve_op op_fdiv opv_fdiv (ve_ix (ve_name (pv 0)) ve_int) (ve_name (pv 1))) (rd_gsub (EE := EN) rd_self) (fun _ h => ps_asg h (pg_sub (pv 0) (VE.pe (EE := EN) ve_int) set_list)))
      (vss_one (vs_ret (ve_name (pv 2))))))
      vss_nil)
      (vss_cons (vs_asg (n := 0) (ve_op op_mod opv_mod (ve_op op_add3 opv_add (ve_op op_mul opv_mul (ve_ix (ve_name (pv 0)) ve_int) ve_int) ve_int) ve_int) (rd_gsub (EE := EN) rd_self) (fun _ h => ps_asg h (pg_sub (pv 0) (VE.pe (EE := EN) ve_int) set_list)))
      (vss_one (vs_ret (ve_op op_mod opv_mod (ve_op op_fdiv opv_fdiv (ve_op op_mod opv_mod (ve_op op_mul opv_mul (ve_ix (ve_name (pv 0)) ve_int) (ve_ix (ve_name (pv 0)) ve_int)) ve_int) ve_int) (ve_name (pv 1)))))))
theorem sc__law_some_keys : FnScope ["_law_pool_here", "_law_many", "_law_found", "_law_turn", "_law_key"] ["_law_pool_here", "_law_many"] (defScope s__law_some_keys) := ⟨rfl, rfl, rfl, by decide +kernel, rfl, by decide +kernel, by decide +kernel⟩
theorem vs__law_some_keys {fa : Addr} {cdv : Value} {A : Around} {outer : List Env} {s : Shared} {H : Hp} {E : XK} {k : Nat} {ios : List Addr} (M : Nm mg) {G__law_take : GI} {k__law_take : Nat} (C__law_take : Cal P w mg base "_law_take" k__law_take ["_law_pool_here", "_law_many"] (spI G__law_take)) (L__law_take : k__law_take ≤ k) (hr : Room k (A.deeper (PyProof.Rows.envOfC "_law_some_keys" (defScope s__law_some_keys) s.heap.objs.size fa cdv))) :
    VSs (cxOf CX0 P w KC.K mg base ["_law_pool_here", "_law_many", "_law_found", "_law_turn", "_law_key"] "_law_some_keys" (defScope s__law_some_keys) fa cdv A outer s H E).nox EN ios (defBody s__law_some_keys) (bm__law_some_keys G__law_take) :=
  (vss_cons (vs_set (i := 2) sc__law_some_keys.nd rfl (by first | exact Or.inl rfl | exact Or.inr rfl) (ve_lst va_nil))
      (vss_cons (vs_for (n := 5) (vi_rng1 (fun _ ha => pi_range1 rfl M.b_range ha) (va_cons (ve_name (pv 1)) va_nil)) (rd_gname (by decide))
      (vss_cons (vs_set (i := 4) sc__law_some_keys.nd rfl (by first | exact Or.inl rfl | exact Or.inr rfl) (ve_callio C__law_take (hr.mono L__law_take) rfl (va_cons (ve_name (pv 0)) (va_cons ve_int va_nil))))
      (vss_one (vs_if (vt_cmp op_notIn_seq opv_in (ve_name (pv 4)) (ve_name (pv 2)) rfl)
      (vss_one (vs_expr (ve_met (fun _ ha => pe_bm PySem.F.plainAttrs_list PySem.F.slot_list_append PySem.F.type_list_append mt_append (pv 2) ha) metv_append (va_cons (ve_name (pv 4)) va_nil))))
      vss_nil))) (fun _ _ h1 h2 => ps_for PassesOwn.never rfl h1 (pg_name (i := 3) sc__law_some_keys.nd rfl (by first | exact Or.inl rfl | exact Or.inr rfl)) h2))
      (vss_one (vs_ret (ve_blt (fun _ ha => pe_callB call_sorted_ints rfl M.b_sorted (by decide +kernel) ha) callv_sorted (va_cons (ve_name (pv 2)) va_nil))))))
theorem sc__law_tree : FnScope ["_law_pool_here", "_law_keys", "_law_at"] ["_law_pool_here", "_law_keys"] (defScope s__law_tree) := ⟨rfl, rfl, rfl, by decide +kernel, rfl, by decide +kernel, by decide +kernel⟩
theorem vs__law_tree {fa : Addr} {cdv : Value} {A : Around} {outer : List Env} {s : Shared} {H : Hp} {E : XK} {k : Nat} {ios : List Addr} (M : Nm mg) {G__law_take : GI} {k__law_take : Nat} (C__law_take : Cal P w mg base "_law_take" k__law_take ["_law_pool_here", "_law_many"] (spI G__law_take)) (L__law_take : k__law_take ≤ k) {G__law_tree : GI} {k__law_tree : Nat} (C__law_tree : Cal P w mg base "_law_tree" k__law_tree ["_law_pool_here", "_law_keys"] (spI G__law_tree)) (L__law_tree : k__law_tree ≤ k) (hr : Room k (A.deeper (PyProof.Rows.envOfC "_law_tree" (defScope s__law_tree) s.heap.objs.size fa cdv))) :
    VSs (cxOf CX0 P w KC.K mg base ["_law_pool_here", "_law_keys", "_law_at"] "_law_tree" (defScope s__law_tree) fa cdv A outer s H E).nox EN ios (defBody s__law_tree) (bm__law_tree G__law_take G__law_tree) :=
  (vss_cons (vs_if (vt_cmp (op_eq2 hr) opv_eq2 (ve_name (pv 1)) (ve_lst va_nil) (nomark _))
      (vss_one (vs_ret ve_non))
      vss_nil)
      (vss_cons (vs_set (i := 2) sc__law_tree.nd rfl (by first | exact Or.inl rfl | exact Or.inr rfl) (ve_callio C__law_take (hr.mono L__law_take) rfl (va_cons (ve_name (pv 0)) (va_cons (ve_blt (fun _ ha => pe_callB call_len2 rfl M.b_len PySem.boot_len ha) callv_len (va_cons (ve_name (pv 1)) va_nil)) va_nil))))
      (vss_one (vs_ret (ve_tup (va_cons (ve_ix (ve_name (pv 1)) (ve_name (pv 2))) (va_cons (ve_callio C__law_tree (hr.mono L__law_tree) rfl (va_cons (ve_name (pv 0)) (va_cons (ve_slc (ve_name (pv 1)) vo_none (vo_some (ve_name (pv 2)))) va_nil))) (va_cons (ve_callio C__law_tree (hr.mono L__law_tree) rfl (va_cons (ve_name (pv 0)) (va_cons (ve_slc (ve_name (pv 1)) (vo_some (ve_op op_add3 opv_add (ve_name (pv 2)) ve_int)) vo_none) va_nil))) va_nil))))))))
theorem sc__law_some_top : FnScope ["_law_pool_here", "_law_tree_here", "_law_many", "_law_found", "_law_border", "_law_node"] ["_law_pool_here", "_law_tree_here", "_law_many"] (defScope s__law_some_top) := ⟨rfl, rfl, rfl, by decide +kernel, rfl, by decide +kernel, by decide +kernel⟩
theorem vs__law_some_top {fa : Addr} {cdv : Value} {A : Around} {outer : List Env} {s : Shared} {H : Hp} {E : XK} {k : Nat} {ios : List Addr} (M : Nm mg) {G__law_take : GI} {k__law_take : Nat} (C__law_take : Cal P w mg base "_law_take" k__law_take ["_law_pool_here", "_law_many"] (spI G__law_take)) (L__law_take : k__law_take ≤ k) {G__law_tree : GI} {k__law_tree : Nat} (C__law_tree : Cal P w mg base "_law_tree" k__law_tree ["_law_pool_here", "_law_keys"] (spI G__law_tree)) (L__law_tree : k__law_tree ≤ k) (hr : Room k (A.deeper (PyProof.Rows.envOfC "_law_some_top" (defScope s__law_some_top) s.heap.objs.size fa cdv))) :
    VSs (cxOf CX0 P w KC.K mg base ["_law_pool_here", "_law_tree_here", "_law_many", "_law_found", "_law_border", "_law_node"] "_law_some_top" (defScope s__law_some_top) fa cdv A outer s H E).nox EN ios (defBody s__law_some_top) (bm__law_some_top G__law_take G__law_tree) :=
  (vss_cons (vs_set (i := 3) sc__law_some_top.nd rfl (by first | exact Or.inl rfl | exact Or.inr rfl) (ve_lst va_nil))
      (vss_cons (vs_set (i := 4) sc__law_some_top.nd rfl (by first | exact Or.inl rfl | exact Or.inr rfl) (ve_lst (va_cons (ve_name (pv 1)) va_nil)))
      (vss_cons (vs_while (n := whileN) (vt_bool (vw_and (vt_cmp (op_ne2 hr) opv_ne2 (ve_name (pv 4)) (ve_lst va_nil) (nomark _)) (vw_and1 (vt_cmp op_lt opv_lt (ve_blt (fun _ ha => pe_callB call_len2 rfl M.b_len PySem.boot_len ha) callv_len (va_cons (ve_name (pv 3)) va_nil)) (ve_name (pv 2)) (nomark _)))))
      (vss_cons (vs_set (i := 5) sc__law_some_top.nd rfl (by first | exact Or.inl rfl | exact Or.inr rfl) (ve_met (fun _ ha => pe_bm PySem.F.plainAttrs_list PySem.F.slot_list_pop PySem.F.type_list_pop mt_popAt (pv 4) ha) metv_popAt (va_cons (ve_callio C__law_take (hr.mono L__law_take) rfl (va_cons (ve_name (pv 0)) (va_cons (ve_blt (fun _ ha => pe_callB call_len2 rfl M.b_len PySem.boot_len ha) callv_len (va_cons (ve_name (pv 4)) va_nil)) va_nil))) va_nil)))
      (vss_one (vs_if (vt_cmp op_notN opv_isnt (ve_name (pv 5)) ve_non (nomark _))
      (vss_cons (vs_expr (ve_met (fun _ ha => pe_bm PySem.F.plainAttrs_list PySem.F.slot_list_append PySem.F.type_list_append mt_append (pv 3) ha) metv_append (va_cons (ve_ix (ve_name (pv 5)) ve_int) va_nil)))
      (vss_one (vs_set (i := 4) sc__law_some_top.nd rfl (by first | exact Or.inl rfl | exact Or.inr rfl) (ve_op op_add3 opv_add (ve_name (pv 4)) (ve_lst (va_cons (ve_ix (ve_name (pv 5)) ve_int) (va_cons (ve_ix (ve_name (pv 5)) ve_int) va_nil)))))))
      vss_nil))))
      (vss_one (vs_ret (ve_callio C__law_tree (hr.mono L__law_tree) rfl (va_cons (ve_name (pv 0)) (va_cons (ve_blt (fun _ ha => pe_callB call_sorted_ints rfl M.b_sorted (by decide +kernel) ha) callv_sorted (va_cons (ve_name (pv 3)) va_nil)) va_nil))))))))
theorem sc__law_kind : FnScope ["_law_error", "_law_kinds", "_law_words"] ["_law_error"] (defScope s__law_kind) := ⟨rfl, rfl, rfl, by decide +kernel, rfl, by decide +kernel, by decide +kernel⟩
theorem vs__law_kind {fa : Addr} {cdv : Value} {A : Around} {outer : List Env} {s : Shared} {H : Hp} {E : XK} {k : Nat} {ios : List Addr} (M : Nm mg)  (hr : Room k (A.deeper (PyProof.Rows.envOfC "_law_kind" (defScope s__law_kind) s.heap.objs.size fa cdv))) :
    VSs (cxOf CX0 P w KC.K mg base ["_law_error", "_law_kinds", "_law_words"] "_law_kind" (defScope s__law_kind) fa cdv A outer s H E).nox EN ios (defBody s__law_kind) (bm__law_kind ) :=
  (vss_cons (vs_set (i := 1) sc__law_kind.nd rfl (by first | exact Or.inl rfl | exact Or.inr rfl) (ve_lst (va_cons (ve_isiX M.k_NoPoints (fun _ ha => pe_callB call_isinst rfl M.b_isinstance (by decide +kernel) (pa_cons ha (pa_cons (pe_glob (v := .ref (KC.cls .NoPoints)) rfl M.n_NoPoints rfl) pa_nil))) (ve_name (pv 0))) (va_cons (ve_isiX M.k_NoBox (fun _ ha => pe_callB call_isinst rfl M.b_isinstance (by decide +kernel) (pa_cons ha (pa_cons (pe_glob (v := .ref (KC.cls .NoBox)) rfl M.n_NoBox rfl) pa_nil))) (ve_name (pv 0))) (va_cons (ve_isiX M.k_NoAsks (fun _ ha => pe_callB call_isinst rfl M.b_isinstance (by decide +kernel) (pa_cons ha (pa_cons (pe_glob (v := .ref (KC.cls .NoAsks)) rfl M.n_NoAsks rfl) pa_nil))) (ve_name (pv 0))) (va_cons (ve_isiX M.k_NoRun (fun _ ha => pe_callB call_isinst rfl M.b_isinstance (by decide +kernel) (pa_cons ha (pa_cons (pe_glob (v := .ref (KC.cls .NoRun)) rfl M.n_NoRun rfl) pa_nil))) (ve_name (pv 0))) va_nil))))))
      (vss_cons (vs_set (i := 1) sc__law_kind.nd rfl (by first | exact Or.inl rfl | exact Or.inr rfl) (ve_op op_add3 opv_add (ve_name (pv 1)) (ve_lst (va_cons (ve_isiX M.k_NoText (fun _ ha => pe_callB call_isinst rfl M.b_isinstance (by decide +kernel) (pa_cons ha (pa_cons (pe_glob (v := .ref (KC.cls .NoText)) rfl M.n_NoText rfl) pa_nil))) (ve_name (pv 0))) (va_cons (ve_isiX M.k_NoTurn (fun _ ha => pe_callB call_isinst rfl M.b_isinstance (by decide +kernel) (pa_cons ha (pa_cons (pe_glob (v := .ref (KC.cls .NoTurn)) rfl M.n_NoTurn rfl) pa_nil))) (ve_name (pv 0))) (va_cons (ve_isiX M.k_NoTree (fun _ ha => pe_callB call_isinst rfl M.b_isinstance (by decide +kernel) (pa_cons ha (pa_cons (pe_glob (v := .ref (KC.cls .NoTree)) rfl M.n_NoTree rfl) pa_nil))) (ve_name (pv 0))) va_nil))))))
      (vss_cons (vs_set (i := 1) sc__law_kind.nd rfl (by first | exact Or.inl rfl | exact Or.inr rfl) (ve_op op_add3 opv_add (ve_name (pv 1)) (ve_lst (va_cons (ve_isiX M.k_NoTop (fun _ ha => pe_callB call_isinst rfl M.b_isinstance (by decide +kernel) (pa_cons ha (pa_cons (pe_glob (v := .ref (KC.cls .NoTop)) rfl M.n_NoTop rfl) pa_nil))) (ve_name (pv 0))) (va_cons (ve_isiX M.k_NotServed (fun _ ha => pe_callB call_isinst rfl M.b_isinstance (by decide +kernel) (pa_cons ha (pa_cons (pe_glob (v := .ref (KC.cls .NotServed)) rfl M.n_NotServed rfl) pa_nil))) (ve_name (pv 0))) (va_cons (ve_isiX M.k_NoRow (fun _ ha => pe_callB call_isinst rfl M.b_isinstance (by decide +kernel) (pa_cons ha (pa_cons (pe_glob (v := .ref (KC.cls .NoRow)) rfl M.n_NoRow rfl) pa_nil))) (ve_name (pv 0))) va_nil))))))
      (vss_cons (vs_set (i := 1) sc__law_kind.nd rfl (by first | exact Or.inl rfl | exact Or.inr rfl) (ve_op op_add3 opv_add (ve_name (pv 1)) (ve_lst (va_cons (ve_isiX M.k_NoPoint (fun _ ha => pe_callB call_isinst rfl M.b_isinstance (by decide +kernel) (pa_cons ha (pa_cons (pe_glob (v := .ref (KC.cls .NoPoint)) rfl M.n_NoPoint rfl) pa_nil))) (ve_name (pv 0))) (va_cons (ve_isiX M.k_NoName (fun _ ha => pe_callB call_isinst rfl M.b_isinstance (by decide +kernel) (pa_cons ha (pa_cons (pe_glob (v := .ref (KC.cls .NoName)) rfl M.n_NoName rfl) pa_nil))) (ve_name (pv 0))) (va_cons (ve_isiX M.k_NoKey (fun _ ha => pe_callB call_isinst rfl M.b_isinstance (by decide +kernel) (pa_cons ha (pa_cons (pe_glob (v := .ref (KC.cls .NoKey)) rfl M.n_NoKey rfl) pa_nil))) (ve_name (pv 0))) va_nil))))))
      (vss_cons (vs_set (i := 1) sc__law_kind.nd rfl (by first | exact Or.inl rfl | exact Or.inr rfl) (ve_op op_add3 opv_add (ve_name (pv 1)) (ve_lst (va_cons (ve_isiX M.k_NoBack (fun _ ha => pe_callB call_isinst rfl M.b_isinstance (by decide +kernel) (pa_cons ha (pa_cons (pe_glob (v := .ref (KC.cls .NoBack)) rfl M.n_NoBack rfl) pa_nil))) (ve_name (pv 0))) (va_cons (ve_isiX M.k_TooMany (fun _ ha => pe_callB call_isinst rfl M.b_isinstance (by decide +kernel) (pa_cons ha (pa_cons (pe_glob (v := .ref (KC.cls .TooMany)) rfl M.n_TooMany rfl) pa_nil))) (ve_name (pv 0))) va_nil)))))
      (vss_cons (vs_if (vt_bool (vw_or (vt_cmp (op_ne2 hr) opv_ne2 (ve_metR (fun _ ha => pe_bm PySem.F.plainAttrs_list PySem.F.slot_list_count PySem.F.type_list_count mt_count (pv 1) ha) metv_count (va_cons ve_bl va_nil)) ve_int (nomark _)) (vw_or1 (vt_cmp (op_ne2 hr) opv_ne2 (ve_isiX M.k_PointError (fun _ ha => pe_callB call_isinst rfl M.b_isinstance (by decide +kernel) (pa_cons ha (pa_cons (pe_glob (v := .ref (KC.cls .PointError)) rfl M.n_PointError rfl) pa_nil))) (ve_name (pv 0))) (ve_cmp op_lt opv_lt (ve_metR (fun _ ha => pe_bm PySem.F.plainAttrs_list PySem.F.slot_list_index PySem.F.type_list_index mt_index (pv 1) ha) metv_index (va_cons ve_bl va_nil)) ve_int (nomark _)) (nomark _)))))
      (vss_one (vs_ret ve_str))
      vss_nil)
      (vss_cons (vs_set (i := 2) sc__law_kind.nd rfl (by first | exact Or.inl rfl | exact Or.inr rfl) (ve_lst (va_cons ve_str (va_cons ve_str (va_cons ve_str (va_cons ve_str (va_cons ve_str (va_cons ve_str (va_cons ve_str (va_cons ve_str (va_cons ve_str (va_cons ve_str (va_cons ve_str (va_cons ve_str (va_cons ve_str va_nil)))))))))))))))
      (vss_one (vs_ret (ve_ix (ve_op op_add3 opv_add (ve_name (pv 2)) (ve_lst (va_cons ve_str (va_cons ve_str va_nil)))) (ve_metR (fun _ ha => pe_bm PySem.F.plainAttrs_list PySem.F.slot_list_index PySem.F.type_list_index mt_index (pv 1) ha) metv_index (va_cons ve_bl va_nil))))))))))))
theorem sc_rising : FnScope ["tree", "key", "left", "right"] ["tree"] (defScope s_rising) := ⟨rfl, rfl, rfl, by decide +kernel, rfl, by decide +kernel, by decide +kernel⟩
theorem vs_rising {fa : Addr} {cdv : Value} {A : Around} {outer : List Env} {s : Shared} {H : Hp} {E : XK} {k : Nat} {ios : List Addr} (M : Nm mg) {G_rising : List D → Option Rt} {k_rising : Nat} (C_rising : Cal P w mg base "rising" k_rising ["tree"] (spP G_rising)) (L_rising : k_rising ≤ k) (hr : Room k (A.deeper (PyProof.Rows.envOfC "rising" (defScope s_rising) s.heap.objs.size fa cdv))) :
    VSs (cxOf CX0 P w KC.K mg base ["tree", "key", "left", "right"] "rising" (defScope s_rising) fa cdv A outer s H E).nox EN ios (defBody s_rising) (bm_rising G_rising) :=
  (vss_cons (vs_if (vt_cmp op_isN opv_is (ve_name (pv 0)) ve_non (nomark _))
      (vss_one (vs_ret (ve_lst va_nil)))
      vss_nil)
      (vss_cons (vs_asg (n := 4) (ve_name (pv 0)) (rd_gtup (rd_gcons (rd_gname (by decide)) (rd_gcons (rd_gname (by decide)) (rd_gcons (rd_gname (by decide)) rd_gnil)))) (fun _ h => ps_asg h (pg_tup rfl (pgs_cons (pg_name (i := 1) sc_rising.nd rfl (by first | exact Or.inl rfl | exact Or.inr rfl)) (pgs_cons (pg_name (i := 2) sc_rising.nd rfl (by first | exact Or.inl rfl | exact Or.inr rfl)) (pgs_cons (pg_name (i := 3) sc_rising.nd rfl (by first | exact Or.inl rfl | exact Or.inr rfl)) pgs_nil))))))
      (vss_one (vs_ret (ve_op op_add3 opv_add (ve_op op_add3 opv_add (ve_call C_rising (hr.mono L_rising) rfl (va_cons (ve_name (pv 2)) va_nil)) (ve_lst (va_cons (ve_name (pv 1)) va_nil))) (ve_call C_rising (hr.mono L_rising) rfl (va_cons (ve_name (pv 3)) va_nil)))))))
theorem sc_hung : FnScope ["top", "parts", "key", "left", "right", "places"] ["top", "parts"] (defScope s_hung) := ⟨rfl, rfl, rfl, by decide +kernel, rfl, by decide +kernel, by decide +kernel⟩
theorem vs_hung {fa : Addr} {cdv : Value} {A : Around} {outer : List Env} {s : Shared} {H : Hp} {E : XK} {k : Nat} {ios : List Addr} (M : Nm mg) {G_hung : List D → Option Rt} {k_hung : Nat} (C_hung : Cal P w mg base "hung" k_hung ["top", "parts"] (spP G_hung)) (L_hung : k_hung ≤ k) {G_rising : List D → Option Rt} {k_rising : Nat} (C_rising : Cal P w mg base "rising" k_rising ["tree"] (spP G_rising)) (L_rising : k_rising ≤ k) (hr : Room k (A.deeper (PyProof.Rows.envOfC "hung" (defScope s_hung) s.heap.objs.size fa cdv))) :
    VSs (cxOf CX0 P w KC.K mg base ["top", "parts", "key", "left", "right", "places"] "hung" (defScope s_hung) fa cdv A outer s H E).nox EN ios (defBody s_hung) (bm_hung G_hung G_rising) :=
  (vss_cons (vs_if (vt_cmp op_isN opv_is (ve_name (pv 0)) ve_non (nomark _))
      (vss_one (vs_ret (ve_ix (ve_name (pv 1)) ve_int)))
      vss_nil)
      (vss_cons (vs_asg (n := 6) (ve_name (pv 0)) (rd_gtup (rd_gcons (rd_gname (by decide)) (rd_gcons (rd_gname (by decide)) (rd_gcons (rd_gname (by decide)) rd_gnil)))) (fun _ h => ps_asg h (pg_tup rfl (pgs_cons (pg_name (i := 2) sc_hung.nd rfl (by first | exact Or.inl rfl | exact Or.inr rfl)) (pgs_cons (pg_name (i := 3) sc_hung.nd rfl (by first | exact Or.inl rfl | exact Or.inr rfl)) (pgs_cons (pg_name (i := 4) sc_hung.nd rfl (by first | exact Or.inl rfl | exact Or.inr rfl)) pgs_nil))))))
      (vss_cons (vs_set (i := 5) sc_hung.nd rfl (by first | exact Or.inl rfl | exact Or.inr rfl) (ve_op op_add3 opv_add (ve_blt (fun _ ha => pe_callB call_len2 rfl M.b_len PySem.boot_len ha) callv_len (va_cons (ve_call C_rising (hr.mono L_rising) rfl (va_cons (ve_name (pv 3)) va_nil)) va_nil)) ve_int))
      (vss_one (vs_ret (ve_tup (va_cons (ve_name (pv 2)) (va_cons (ve_call C_hung (hr.mono L_hung) rfl (va_cons (ve_name (pv 3)) (va_cons (ve_slc (ve_name (pv 1)) vo_none (vo_some (ve_name (pv 5)))) va_nil))) (va_cons (ve_call C_hung (hr.mono L_hung) rfl (va_cons (ve_name (pv 4)) (va_cons (ve_slc (ve_name (pv 1)) (vo_some (ve_name (pv 5))) vo_none) va_nil))) va_nil)))))))))
theorem sc_is_key : FnScope ["thing"] ["thing"] (defScope s_is_key) := ⟨rfl, rfl, rfl, by decide +kernel, rfl, by decide +kernel, by decide +kernel⟩
theorem vs_is_key {fa : Addr} {cdv : Value} {A : Around} {outer : List Env} {s : Shared} {H : Hp} {E : XK} {k : Nat} {ios : List Addr} (M : Nm mg)  (hr : Room k (A.deeper (PyProof.Rows.envOfC "is_key" (defScope s_is_key) s.heap.objs.size fa cdv))) :
    VSs (cxOf CX0 P w KC.K mg base ["thing"] "is_key" (defScope s_is_key) fa cdv A outer s H E).nox EN ios (defBody s_is_key) (bm_is_key ) :=
  (vss_one (vs_ret (ve_and (ve_isi (T := .int) (fun _ ha => pe_callB call_isinst rfl M.b_isinstance (by decide +kernel) (pa_cons ha (pa_cons (pe_bltn (v := .ty "int") (u := .type "int") rfl M.b_int (by decide +kernel) rfl) pa_nil))) (ve_name (pv 0))) (ve_and (ve_not (ve_isi (T := .bool) (fun _ ha => pe_callB call_isinst rfl M.b_isinstance (by decide +kernel) (pa_cons ha (pa_cons (pe_bltn (v := .ty "bool") (u := .type "bool") rfl M.b_bool (by decide +kernel) rfl) pa_nil))) (ve_name (pv 0)))) (ve_one (ve_chain op_le op_le opv_le opv_le ve_int (ve_name (pv 0)) (ve_gint M.c_LAST_KEY rfl)))))))
theorem sc_is_between : FnScope ["thing", "low", "high", "key", "left", "right"] ["thing", "low", "high"] (defScope s_is_between) := ⟨rfl, rfl, rfl, by decide +kernel, rfl, by decide +kernel, by decide +kernel⟩
theorem vs_is_between {fa : Addr} {cdv : Value} {A : Around} {outer : List Env} {s : Shared} {H : Hp} {E : XK} {k : Nat} {ios : List Addr} (M : Nm mg) {G_is_between : List D → Option Rt} {k_is_between : Nat} (C_is_between : Cal P w mg base "is_between" k_is_between ["thing", "low", "high"] (spP G_is_between)) (L_is_between : k_is_between ≤ k) {G_is_key : List D → Option Rt} {k_is_key : Nat} (C_is_key : Cal P w mg base "is_key" k_is_key ["thing"] (spP G_is_key)) (L_is_key : k_is_key ≤ k) (hr : Room k (A.deeper (PyProof.Rows.envOfC "is_between" (defScope s_is_between) s.heap.objs.size fa cdv))) :
    VSs (cxOf CX0 P w KC.K mg base ["thing", "low", "high", "key", "left", "right"] "is_between" (defScope s_is_between) fa cdv A outer s H E).nox EN ios (defBody s_is_between) (bm_is_between G_is_between G_is_key) :=
  (vss_cons (vs_if (vt_cmp op_isN opv_is (ve_name (pv 0)) ve_non (nomark _))
      (vss_one (vs_ret ve_bl))
      vss_nil)
      (vss_cons (vs_if (vt_bool (vw_or (vt_not (vt_val (ve_isi (T := .tuple) (fun _ ha => pe_callB call_isinst rfl M.b_isinstance (by decide +kernel) (pa_cons ha (pa_cons (pe_bltn (v := .ty "tuple") (u := .type "tuple") rfl M.b_tuple (by decide +kernel) rfl) pa_nil))) (ve_name (pv 0))))) (vw_or1 (vt_cmp (op_ne2 hr) opv_ne2 (ve_blt (fun _ ha => pe_callB call_len2 rfl M.b_len PySem.boot_len ha) callv_len (va_cons (ve_name (pv 0)) va_nil)) ve_int (nomark _)))))
      (vss_one (vs_ret ve_bl))
      vss_nil)
      (vss_cons (vs_asg (n := 6) (ve_name (pv 0)) (rd_gtup (rd_gcons (rd_gname (by decide)) (rd_gcons (rd_gname (by decide)) (rd_gcons (rd_gname (by decide)) rd_gnil)))) (fun _ h => ps_asg h (pg_tup rfl (pgs_cons (pg_name (i := 3) sc_is_between.nd rfl (by first | exact Or.inl rfl | exact Or.inr rfl)) (pgs_cons (pg_name (i := 4) sc_is_between.nd rfl (by first | exact Or.inl rfl | exact Or.inr rfl)) (pgs_cons (pg_name (i := 5) sc_is_between.nd rfl (by first | exact Or.inl rfl | exact Or.inr rfl)) pgs_nil))))))
      (vss_one (vs_ret (ve_and (ve_call C_is_key (hr.mono L_is_key) rfl (va_cons (ve_name (pv 3)) va_nil)) (ve_and (ve_chain op_lt op_lt opv_lt opv_lt (ve_name (pv 1)) (ve_name (pv 3)) (ve_name (pv 2))) (ve_and (ve_call C_is_between (hr.mono L_is_between) rfl (va_cons (ve_name (pv 4)) (va_cons (ve_name (pv 1)) (va_cons (ve_name (pv 3)) va_nil)))) (ve_one (ve_call C_is_between (hr.mono L_is_between) rfl (va_cons (ve_name (pv 5)) (va_cons (ve_name (pv 3)) (va_cons (ve_name (pv 2)) va_nil)))))))))))))
theorem sc_is_tree : FnScope ["thing"] ["thing"] (defScope s_is_tree) := ⟨rfl, rfl, rfl, by decide +kernel, rfl, by decide +kernel, by decide +kernel⟩
theorem vs_is_tree {fa : Addr} {cdv : Value} {A : Around} {outer : List Env} {s : Shared} {H : Hp} {E : XK} {k : Nat} {ios : List Addr} (M : Nm mg) {G_is_between : List D → Option Rt} {k_is_between : Nat} (C_is_between : Cal P w mg base "is_between" k_is_between ["thing", "low", "high"] (spP G_is_between)) (L_is_between : k_is_between ≤ k) (hr : Room k (A.deeper (PyProof.Rows.envOfC "is_tree" (defScope s_is_tree) s.heap.objs.size fa cdv))) :
    VSs (cxOf CX0 P w KC.K mg base ["thing"] "is_tree" (defScope s_is_tree) fa cdv A outer s H E).nox EN ios (defBody s_is_tree) (bm_is_tree G_is_between) :=
  (vss_one (vs_ret (ve_call C_is_between (hr.mono L_is_between) rfl (va_cons (ve_name (pv 0)) (va_cons (ve_neg ve_int) (va_cons (ve_op op_add3 opv_add (ve_gint M.c_LAST_KEY rfl) ve_int) va_nil))))))
theorem sc_look_at_tree : FnScope ["thing"] ["thing"] (defScope s_look_at_tree) := ⟨rfl, rfl, rfl, by decide +kernel, rfl, by decide +kernel, by decide +kernel⟩
theorem vs_look_at_tree {fa : Addr} {cdv : Value} {A : Around} {outer : List Env} {s : Shared} {H : Hp} {E : XK} {k : Nat} {ios : List Addr} (M : Nm mg) {G_is_tree : List D → Option Rt} {k_is_tree : Nat} (C_is_tree : Cal P w mg base "is_tree" k_is_tree ["thing"] (spP G_is_tree)) (L_is_tree : k_is_tree ≤ k) (hr : Room k (A.deeper (PyProof.Rows.envOfC "look_at_tree" (defScope s_look_at_tree) s.heap.objs.size fa cdv))) (hk2 : 2 ≤ k) :
    VSs (cxOf (CXe P w) P w KC.K mg base ["thing"] "look_at_tree" (defScope s_look_at_tree) fa cdv A outer s H E) (fun _ => E) ios (defBody s_look_at_tree) (bm_look_at_tree G_is_tree) :=
  (vss_one (vs_if (vt_not (vt_val (ve_call C_is_tree (hr.mono L_is_tree) rfl (va_cons (ve_name (pv 0)) va_nil))))
      (vss_one (vs_raise0 xok_fn M.m_NoTree M.z_NoTree M.n_NoTree (va_cons ve_str va_nil)))
      vss_nil))
theorem sc_parts_beneath : FnScope ["tree", "keys"] ["tree", "keys"] (defScope s_parts_beneath) := ⟨rfl, rfl, rfl, by decide +kernel, rfl, by decide +kernel, by decide +kernel⟩
theorem vs_parts_beneath {fa : Addr} {cdv : Value} {A : Around} {outer : List Env} {s : Shared} {H : Hp} {E : XK} {k : Nat} {ios : List Addr} (M : Nm mg) {G_parts_beneath : List D → Option Rt} {k_parts_beneath : Nat} (C_parts_beneath : Cal P w mg base "parts_beneath" k_parts_beneath ["tree", "keys"] (spP G_parts_beneath)) (L_parts_beneath : k_parts_beneath ≤ k) (hr : Room k (A.deeper (PyProof.Rows.envOfC "parts_beneath" (defScope s_parts_beneath) s.heap.objs.size fa cdv))) :
    VSs (cxOf CX0 P w KC.K mg base ["tree", "keys"] "parts_beneath" (defScope s_parts_beneath) fa cdv A outer s H E).nox EN ios (defBody s_parts_beneath) (bm_parts_beneath G_parts_beneath) :=
  (vss_cons (vs_if (vt_bool (vw_or (vt_cmp op_isN opv_is (ve_name (pv 0)) ve_non (nomark _)) (vw_or1 (vt_cmp op_notIn_seq opv_in (ve_ix (ve_name (pv 0)) ve_int) (ve_name (pv 1)) rfl))))
      (vss_one (vs_ret (ve_lst (va_cons (ve_name (pv 0)) va_nil))))
      vss_nil)
      (vss_one (vs_ret (ve_op op_add3 opv_add (ve_call C_parts_beneath (hr.mono L_parts_beneath) rfl (va_cons (ve_ix (ve_name (pv 0)) ve_int) (va_cons (ve_name (pv 1)) va_nil))) (ve_call C_parts_beneath (hr.mono L_parts_beneath) rfl (va_cons (ve_ix (ve_name (pv 0)) ve_int) (va_cons (ve_name (pv 1)) va_nil)))))))
theorem sc_is_top : FnScope ["tree", "thing", "keys"] ["tree", "thing"] (defScope s_is_top) := ⟨rfl, rfl, rfl, by decide +kernel, rfl, by decide +kernel, by decide +kernel⟩
theorem vs_is_top {fa : Addr} {cdv : Value} {A : Around} {outer : List Env} {s : Shared} {H : Hp} {E : XK} {k : Nat} {ios : List Addr} (M : Nm mg) {G_is_tree : List D → Option Rt} {k_is_tree : Nat} (C_is_tree : Cal P w mg base "is_tree" k_is_tree ["thing"] (spP G_is_tree)) (L_is_tree : k_is_tree ≤ k) {G_look_at_tree : List D → Option Rx} {k_look_at_tree : Nat} (C_look_at_tree : CalX P w mg base "look_at_tree" k_look_at_tree ["thing"] (spX G_look_at_tree)) (L_look_at_tree : k_look_at_tree ≤ k) {G_parts_beneath : List D → Option Rt} {k_parts_beneath : Nat} (C_parts_beneath : Cal P w mg base "parts_beneath" k_parts_beneath ["tree", "keys"] (spP G_parts_beneath)) (L_parts_beneath : k_parts_beneath ≤ k) {G_rising : List D → Option Rt} {k_rising : Nat} (C_rising : Cal P w mg base "rising" k_rising ["tree"] (spP G_rising)) (L_rising : k_rising ≤ k) (hr : Room k (A.deeper (PyProof.Rows.envOfC "is_top" (defScope s_is_top) s.heap.objs.size fa cdv))) (hk2 : 2 ≤ k) :
    VSs (cxOf (CXe P w) P w KC.K mg base ["tree", "thing", "keys"] "is_top" (defScope s_is_top) fa cdv A outer s H E) (fun _ => E) ios (defBody s_is_top) (bm_is_top G_is_tree G_look_at_tree G_parts_beneath G_rising) :=
  (vss_cons (vs_expr (ve_callX xok_fn C_look_at_tree (hr.mono L_look_at_tree) rfl (va_cons (ve_name (pv 0)) va_nil)))
      (vss_cons (vs_if (vt_bool (vw_or (vt_cmp op_isN opv_is (ve_name (pv 1)) ve_non (nomark _)) (vw_or1 (vt_not (vt_val (ve_call C_is_tree (hr.mono L_is_tree) rfl (va_cons (ve_name (pv 1)) va_nil)))))))
      (vss_one (vs_ret ve_bl))
      vss_nil)
      (vss_cons (vs_set (i := 2) sc_is_top.nd rfl (by first | exact Or.inl rfl | exact Or.inr rfl) (ve_call C_rising (hr.mono L_rising) rfl (va_cons (ve_name (pv 1)) va_nil)))
      (vss_one (vs_ret (ve_cmp (op_eq2 hr) opv_eq2 (ve_blt (fun _ ha => pe_callB call_len2 rfl M.b_len PySem.boot_len ha) callv_len (va_cons (ve_call C_parts_beneath (hr.mono L_parts_beneath) rfl (va_cons (ve_name (pv 0)) (va_cons (ve_name (pv 2)) va_nil))) va_nil)) (ve_op op_add3 opv_add (ve_blt (fun _ ha => pe_callB call_len2 rfl M.b_len PySem.boot_len ha) callv_len (va_cons (ve_name (pv 2)) va_nil)) ve_int) (nomark _)))))))
theorem sc_turned : FnScope ["tree", "top"] ["tree", "top"] (defScope s_turned) := ⟨rfl, rfl, rfl, by decide +kernel, rfl, by decide +kernel, by decide +kernel⟩
theorem vs_turned {fa : Addr} {cdv : Value} {A : Around} {outer : List Env} {s : Shared} {H : Hp} {E : XK} {k : Nat} {ios : List Addr} (M : Nm mg) {G_hung : List D → Option Rt} {k_hung : Nat} (C_hung : Cal P w mg base "hung" k_hung ["top", "parts"] (spP G_hung)) (L_hung : k_hung ≤ k) {G_is_top : List D → Option Rx} {k_is_top : Nat} (C_is_top : CalX P w mg base "is_top" k_is_top ["tree", "thing"] (spX G_is_top)) (L_is_top : k_is_top ≤ k) {G_parts_beneath : List D → Option Rt} {k_parts_beneath : Nat} (C_parts_beneath : Cal P w mg base "parts_beneath" k_parts_beneath ["tree", "keys"] (spP G_parts_beneath)) (L_parts_beneath : k_parts_beneath ≤ k) {G_rising : List D → Option Rt} {k_rising : Nat} (C_rising : Cal P w mg base "rising" k_rising ["tree"] (spP G_rising)) (L_rising : k_rising ≤ k) (hr : Room k (A.deeper (PyProof.Rows.envOfC "turned" (defScope s_turned) s.heap.objs.size fa cdv))) (hk2 : 2 ≤ k) :
    VSs (cxOf (CXe P w) P w KC.K mg base ["tree", "top"] "turned" (defScope s_turned) fa cdv A outer s H E) (fun _ => E) ios (defBody s_turned) (bm_turned G_hung G_is_top G_parts_beneath G_rising) :=
  (vss_cons (vs_if (vt_not (vt_val (ve_callX xok_fn C_is_top (hr.mono L_is_top) rfl (va_cons (ve_name (pv 0)) (va_cons (ve_name (pv 1)) va_nil)))))
      (vss_one (vs_raise0 xok_fn M.m_NoTop M.z_NoTop M.n_NoTop (va_cons ve_str va_nil)))
      vss_nil)
      (vss_one (vs_ret (ve_call C_hung (hr.mono L_hung) rfl (va_cons (ve_name (pv 1)) (va_cons (ve_call C_parts_beneath (hr.mono L_parts_beneath) rfl (va_cons (ve_name (pv 0)) (va_cons (ve_call C_rising (hr.mono L_rising) rfl (va_cons (ve_name (pv 1)) va_nil)) va_nil))) va_nil))))))
theorem sc__law_told : FnScope ["_law_tree_here", "_law_thing", "_law_caught", "e"] ["_law_tree_here", "_law_thing"] (defScope s__law_told) := ⟨rfl, rfl, rfl, by decide +kernel, rfl, by decide +kernel, by decide +kernel⟩
theorem vs__law_told {fa : Addr} {cdv : Value} {A : Around} {outer : List Env} {s : Shared} {H : Hp} {E : XK} {k : Nat} {ios : List Addr} (M : Nm mg) {G__law_kind : List D → Option Rt} {k__law_kind : Nat} (C__law_kind : Cal P w mg base "_law_kind" k__law_kind ["_law_error"] (spP G__law_kind)) (L__law_kind : k__law_kind ≤ k) {G_turned : List D → Option Rx} {k_turned : Nat} (C_turned : CalX P w mg base "turned" k_turned ["tree", "top"] (spX G_turned)) (L_turned : k_turned ≤ k) (hr : Room k (A.deeper (PyProof.Rows.envOfC "_law_told" (defScope s__law_told) s.heap.objs.size fa cdv))) :
    VSs (cxOf CX0 P w KC.K mg base ["_law_tree_here", "_law_thing", "_law_caught", "e"] "_law_told" (defScope s__law_told) fa cdv A outer s H E).nox EN ios (defBody s__law_told) (bm__law_told G__law_kind G_turned) :=
  (vss_cons (vs_set (i := 2) sc__law_told.nd rfl (by first | exact Or.inl rfl | exact Or.inr rfl) ve_non)
      (vss_cons (vs_try (i := 3) sc__law_told.nd rfl rfl (pn_cons rfl M.n_PointError (pn_cons rfl M.n_NoPoint (pn_cons rfl M.n_TooMany pn_nil))) (by simp) M.t_PointError_NoPoint_TooMany (fun E0 pn0 EE0 ok =>
      (vss_one (vs_expr (ve_callX ok C_turned (hr.mono L_turned) rfl (va_cons (ve_name (pv 0)) (va_cons (ve_name (pv 1)) va_nil)))))) (fun a0 =>
      (vss_one (vs_set (i := 2) sc__law_told.nd rfl (by first | exact Or.inl rfl | exact Or.inr rfl) (ve_name (pv 3))))))
      (vss_one (vs_ret (ve_ite (vt_cmp op_isN opv_is (ve_name (pv 2)) ve_non (nomark _)) ve_str (ve_call C__law_kind (hr.mono L__law_kind) rfl (va_cons (ve_name (pv 2)) va_nil)))))))
theorem sc_law : FnScope ["_law_script", "_law_k", "_law_pool_here", "_law_own", "_law_tree_here", "_law_turn", "_law_top", "_law_there", "_law_some", "_law_keys", "_law_thing", "_law_due"] ["_law_script"] (defScope s_law) := ⟨rfl, rfl, rfl, by decide +kernel, rfl, by decide +kernel, by decide +kernel⟩
theorem vs_law {fa : Addr} {cdv : Value} {A : Around} {outer : List Env} {s : Shared} {H : Hp} {E : XK} {k : Nat} {ios : List Addr} (M : Nm mg) {G__law_ahead : List D → Option Rt} {k__law_ahead : Nat} (C__law_ahead : Cal P w mg base "_law_ahead" k__law_ahead ["_law_tree_here"] (spP G__law_ahead)) (L__law_ahead : k__law_ahead ≤ k) {G__law_is_top : List D → Option Rt} {k__law_is_top : Nat} (C__law_is_top : Cal P w mg base "_law_is_top" k__law_is_top ["_law_tree_here", "_law_own"] (spP G__law_is_top)) (L__law_is_top : k__law_is_top ≤ k) {G__law_pool : List D → Option Rt} {k__law_pool : Nat} (C__law_pool : Cal P w mg base "_law_pool" k__law_pool ["_law_script", "_law_k"] (spP G__law_pool)) (L__law_pool : k__law_pool ≤ k) {G__law_some_keys : GI} {k__law_some_keys : Nat} (C__law_some_keys : Cal P w mg base "_law_some_keys" k__law_some_keys ["_law_pool_here", "_law_many"] (spI G__law_some_keys)) (L__law_some_keys : k__law_some_keys ≤ k) {G__law_some_top : GI} {k__law_some_top : Nat} (C__law_some_top : Cal P w mg base "_law_some_top" k__law_some_top ["_law_pool_here", "_law_tree_here", "_law_many"] (spI G__law_some_top)) (L__law_some_top : k__law_some_top ≤ k) {G__law_take : GI} {k__law_take : Nat} (C__law_take : Cal P w mg base "_law_take" k__law_take ["_law_pool_here", "_law_many"] (spI G__law_take)) (L__law_take : k__law_take ≤ k) {G__law_told : List D → Option Rt} {k__law_told : Nat} (C__law_told : Cal P w mg base "_law_told" k__law_told ["_law_tree_here", "_law_thing"] (spP G__law_told)) (L__law_told : k__law_told ≤ k) {G__law_tree : GI} {k__law_tree : Nat} (C__law_tree : Cal P w mg base "_law_tree" k__law_tree ["_law_pool_here", "_law_keys"] (spI G__law_tree)) (L__law_tree : k__law_tree ≤ k) {G_is_top : List D → Option Rx} {k_is_top : Nat} (C_is_top : CalX P w mg base "is_top" k_is_top ["tree", "thing"] (spX G_is_top)) (L_is_top : k_is_top ≤ k) (hr : Room k (A.deeper (PyProof.Rows.envOfC "law" (defScope s_law) s.heap.objs.size fa cdv))) :
    VSs (cxOf CX0 P w KC.K mg base ["_law_script", "_law_k", "_law_pool_here", "_law_own", "_law_tree_here", "_law_turn", "_law_top", "_law_there", "_law_some", "_law_keys", "_law_thing", "_law_due"] "law" (defScope s_law) fa cdv A outer s H E).nox EN ios (defBody s_law) (bm_law G__law_ahead G__law_is_top G__law_pool G__law_some_keys G__law_some_top G__law_take G__law_told G__law_tree G_is_top) :=
  (vss_cons (vs_for (n := 12) (vi_rng1 (fun _ ha => pi_range1 rfl M.b_range ha) (va_cons (ve_blt (fun _ ha => pe_callB (call_max2 rfl) rfl M.b_max (by decide +kernel) ha) callv_max2 (va_cons ve_int (va_cons (ve_blt (fun _ ha => pe_callB (call_min2 rfl) rfl M.b_min (by decide +kernel) ha) callv_min2 (va_cons ve_int (va_cons (ve_blt (fun _ ha => pe_callB call_len2 rfl M.b_len PySem.boot_len ha) callv_len (va_cons (ve_name (pv 0)) va_nil)) va_nil))) va_nil))) va_nil)) (rd_gname (by decide))
      (vss_cons (vs_set (i := 2) sc_law.nd rfl (by first | exact Or.inl rfl | exact Or.inr rfl) (ve_call C__law_pool (hr.mono L__law_pool) rfl (va_cons (ve_name (pv 0)) (va_cons (ve_name (pv 1)) va_nil))))
      (vss_cons (vs_set (i := 3) sc_law.nd rfl (by first | exact Or.inl rfl | exact Or.inr rfl) (ve_callio C__law_some_keys (hr.mono L__law_some_keys) rfl (va_cons (ve_name (pv 2)) (va_cons (ve_op op_add3 opv_add ve_int (ve_callio C__law_take (hr.mono L__law_take) rfl (va_cons (ve_name (pv 2)) (va_cons ve_int va_nil)))) va_nil))))
      (vss_cons (vs_set (i := 4) sc_law.nd rfl (by first | exact Or.inl rfl | exact Or.inr rfl) (ve_callio C__law_tree (hr.mono L__law_tree) rfl (va_cons (ve_name (pv 2)) (va_cons (ve_name (pv 3)) va_nil))))
      (vss_cons (vs_for (n := 12) (vi_rng1 (fun _ ha => pi_range1 rfl M.b_range ha) (va_cons ve_int va_nil)) (rd_gname (by decide))
      (vss_cons (vs_set (i := 6) sc_law.nd rfl (by first | exact Or.inl rfl | exact Or.inr rfl) (ve_callio C__law_some_top (hr.mono L__law_some_top) rfl (va_cons (ve_name (pv 2)) (va_cons (ve_name (pv 4)) (va_cons (ve_op op_add3 opv_add ve_int (ve_callio C__law_take (hr.mono L__law_take) rfl (va_cons (ve_name (pv 2)) (va_cons ve_int va_nil)))) va_nil)))))
      (vss_cons (vs_set (i := 7) sc_law.nd rfl (by first | exact Or.inl rfl | exact Or.inr rfl) (ve_blt (fun _ ha => pe_callB call_sorted_ints rfl M.b_sorted (by decide +kernel) ha) callv_sorted (va_cons (ve_call C__law_ahead (hr.mono L__law_ahead) rfl (va_cons (ve_name (pv 6)) va_nil)) va_nil)))
      (vss_cons (vs_set (i := 8) sc_law.nd rfl (by first | exact Or.inl rfl | exact Or.inr rfl) (ve_lst (va_cons (ve_name (pv 7)) (va_cons (ve_slc (ve_name (pv 7)) (vo_some ve_int) vo_none) (va_cons (ve_slc (ve_name (pv 7)) vo_none (vo_some (ve_neg ve_int))) (va_cons (ve_sset M.b_sorted rfl M.b_set rfl rfl rfl (va_cons (ve_op op_add3 opv_add (ve_name (pv 7)) (ve_lst (va_cons (ve_ix (ve_name (pv 3)) (ve_callio C__law_take (hr.mono L__law_take) rfl (va_cons (ve_name (pv 2)) (va_cons (ve_blt (fun _ ha => pe_callB call_len2 rfl M.b_len PySem.boot_len ha) callv_len (va_cons (ve_name (pv 3)) va_nil)) va_nil)))) va_nil))) va_nil)) va_nil))))))
      (vss_cons (vs_set (i := 8) sc_law.nd rfl (by first | exact Or.inl rfl | exact Or.inr rfl) (ve_op op_add3 opv_add (ve_name (pv 8)) (ve_lst (va_cons (ve_sset M.b_sorted rfl M.b_set rfl rfl rfl (va_cons (ve_op op_add3 opv_add (ve_name (pv 7)) (ve_lst (va_cons (ve_callio C__law_take (hr.mono L__law_take) rfl (va_cons (ve_name (pv 2)) (va_cons ve_int va_nil))) va_nil))) va_nil)) (va_cons (ve_callio C__law_some_keys (hr.mono L__law_some_keys) rfl (va_cons (ve_name (pv 2)) (va_cons ve_int va_nil))) (va_cons (ve_lst (va_cons (ve_ix (ve_name (pv 3)) (ve_neg ve_int)) va_nil)) (va_cons (ve_lst (va_cons (ve_ix (ve_name (pv 4)) ve_int) va_nil)) va_nil)))))))
      (vss_cons (vs_set (i := 9) sc_law.nd rfl (by first | exact Or.inl rfl | exact Or.inr rfl) (ve_ix (ve_name (pv 8)) (ve_callio C__law_take (hr.mono L__law_take) rfl (va_cons (ve_name (pv 2)) (va_cons ve_int va_nil)))))
      (vss_cons (vs_set (i := 10) sc_law.nd rfl (by first | exact Or.inl rfl | exact Or.inr rfl) (ve_callio C__law_tree (hr.mono L__law_tree) rfl (va_cons (ve_name (pv 2)) (va_cons (ve_name (pv 9)) va_nil))))
      (vss_cons (vs_set (i := 11) sc_law.nd rfl (by first | exact Or.inl rfl | exact Or.inr rfl) (ve_call C__law_is_top (hr.mono L__law_is_top) rfl (va_cons (ve_name (pv 4)) (va_cons (ve_name (pv 9)) va_nil))))
      (vss_cons (vs_if (vt_bool (vw_or (vt_cmp op_isntB opv_isntB (ve_callX xok_none C_is_top (hr.mono L_is_top) rfl (va_cons (ve_name (pv 4)) (va_cons (ve_name (pv 6)) va_nil))) ve_bl (nomark _)) (vw_or1 (vt_cmp (op_ne2 hr) opv_ne2 (ve_blt (fun _ ha => pe_callB call_repr_b rfl M.b_repr (by decide +kernel) ha) callv_reprB (va_cons (ve_callX xok_none C_is_top (hr.mono L_is_top) rfl (va_cons (ve_name (pv 4)) (va_cons (ve_name (pv 10)) va_nil))) va_nil)) (ve_blt (fun _ ha => pe_callB call_repr_b rfl M.b_repr (by decide +kernel) ha) callv_reprB (va_cons (ve_name (pv 11)) va_nil)) (nomark _)))))
      (vss_one (vs_ret ve_bl))
      vss_nil)
      (vss_one (vs_if (vt_cmp (op_ne2 hr) opv_ne2 (ve_call C__law_told (hr.mono L__law_told) rfl (va_cons (ve_name (pv 4)) (va_cons (ve_name (pv 10)) va_nil))) (ve_ix (ve_lst (va_cons ve_str (va_cons ve_str va_nil))) (ve_blt (fun _ ha => pe_callTy call_int1 rfl M.b_int (by decide +kernel) ha) callv_int (va_cons (ve_name (pv 11)) va_nil))) (nomark _))
      (vss_one (vs_ret ve_bl))
      vss_nil)))))))))) (fun _ _ h1 h2 => ps_for PassesOwn.never rfl h1 (pg_name (i := 5) sc_law.nd rfl (by first | exact Or.inl rfl | exact Or.inr rfl)) h2))
      (vss_cons (vs_for (n := 12) (vi_list (ve_lst (va_cons ve_non (va_cons ve_bl (va_cons ve_int (va_cons (ve_lst va_nil) (va_cons (ve_tup (va_cons (ve_ix (ve_name (pv 4)) ve_int) va_nil)) (va_cons (ve_lst (va_cons (ve_ix (ve_name (pv 4)) ve_int) (va_cons ve_non (va_cons ve_non va_nil)))) (va_cons (ve_tup (va_cons ve_bl (va_cons ve_non (va_cons ve_non va_nil)))) (va_cons ve_str (va_cons (ve_tup (va_cons ve_int (va_cons ve_non (va_cons ve_non va_nil)))) va_nil))))))))))) (rd_gname (by decide))
      (vss_one (vs_if (vt_bool (vw_or (vt_cmp op_isntB opv_isntB (ve_callX xok_none C_is_top (hr.mono L_is_top) rfl (va_cons (ve_name (pv 4)) (va_cons (ve_name (pv 10)) va_nil))) ve_bl (nomark _)) (vw_or1 (vt_cmp (op_ne2 hr) opv_ne2 (ve_call C__law_told (hr.mono L__law_told) rfl (va_cons (ve_name (pv 4)) (va_cons (ve_name (pv 10)) va_nil))) ve_str (nomark _)))))
      (vss_one (vs_ret ve_bl))
      vss_nil)) (fun _ _ h1 h2 => ps_for PassesOwn.never rfl h1 (pg_name (i := 10) sc_law.nd rfl (by first | exact Or.inl rfl | exact Or.inr rfl)) h2))
      (vss_one (vs_if (vt_bool (vw_or (vt_cmp op_isntB opv_isntB (ve_callX xok_none C_is_top (hr.mono L_is_top) rfl (va_cons ve_non (va_cons (ve_name (pv 4)) va_nil))) ve_bl (nomark _)) (vw_or1 (vt_cmp (op_ne2 hr) opv_ne2 (ve_call C__law_told (hr.mono L__law_told) rfl (va_cons ve_non (va_cons (ve_name (pv 4)) va_nil))) ve_str (nomark _)))))
      (vss_one (vs_ret ve_bl))
      vss_nil))))))) (fun _ _ h1 h2 => ps_for PassesOwn.never rfl h1 (pg_name (i := 1) sc_law.nd rfl (by first | exact Or.inl rfl | exact Or.inr rfl)) h2))
      (vss_one (vs_ret ve_bl)))
end
end K15
end

section
set_option Elab.async false
set_option linter.all false
set_option maxRecDepth 100000
set_option maxHeartbeats 5000000
namespace K15
open PySem L2 Ex Dv
section
variable [KC] {P : Program} {w : World} {mg : Str → Option Value} {base : Heap}
/-- the defs of the text -/
structure Ats (mg : Str → Option Value) : Prop where
  a__law_ahead : At mg "_law_ahead" s__law_ahead
  a__law_way : At mg "_law_way" s__law_way
  a__law_is_top : At mg "_law_is_top" s__law_is_top
  a__law_cell_at : At mg "_law_cell_at" s__law_cell_at
  a__law_pool : At mg "_law_pool" s__law_pool
  a__law_take : At mg "_law_take" s__law_take
  a__law_some_keys : At mg "_law_some_keys" s__law_some_keys
  a__law_tree : At mg "_law_tree" s__law_tree
  a__law_some_top : At mg "_law_some_top" s__law_some_top
  a__law_kind : At mg "_law_kind" s__law_kind
  a_rising : At mg "rising" s_rising
  a_hung : At mg "hung" s_hung
  a_is_key : At mg "is_key" s_is_key
  a_is_between : At mg "is_between" s_is_between
  a_is_tree : At mg "is_tree" s_is_tree
  a_look_at_tree : At mg "look_at_tree" s_look_at_tree
  a_parts_beneath : At mg "parts_beneath" s_parts_beneath
  a_is_top : At mg "is_top" s_is_top
  a_turned : At mg "turned" s_turned
  a__law_told : At mg "_law_told" s__law_told
  a_law : At mg "law" s_law
theorem cal__law_ahead (T : Ats mg) (M : Nm mg) : Cal P w mg base "_law_ahead" 48 ["_law_tree_here"] (spP (G__law_ahead 48)) := by
  have go : ∀ n, Cal P w mg base "_law_ahead" (0 + n) ["_law_tree_here"] (spP (G__law_ahead n)) := by
    intro n
    induction n with
    | zero => exact cal_zero T.a__law_ahead (fun _ _ _ _ _ _ us hl => match us, hl with | [_], _ => rfl)
    | succ n ih => exact cal_of (k := 0 + n) T.a__law_ahead sc__law_ahead (fun _ _ _ _ _ _ us hl => match us, hl with | [_], _ => rfl) (fun _ _ _ _ _ _ _ hr => vs__law_ahead M ih (by omega) hr) (fun _ _ h => runP_ok h)
  exact go 48
theorem cal__law_way (T : Ats mg) (M : Nm mg) : Cal P w mg base "_law_way" 1 ["_law_tree_here", "_law_key"] (spP G__law_way) :=
  cal_of (k := 0) T.a__law_way sc__law_way (fun _ _ _ _ _ _ us hl => match us, hl with | [_, _], _ => rfl) (fun _ _ _ _ _ _ _ hr => vs__law_way M  hr) (fun _ _ h => runP_ok h)
theorem cal__law_is_top (T : Ats mg) (M : Nm mg) : Cal P w mg base "_law_is_top" 2 ["_law_tree_here", "_law_own"] (spP G__law_is_top) :=
  cal_of (k := 1) T.a__law_is_top sc__law_is_top (fun _ _ _ _ _ _ us hl => match us, hl with | [_, _], _ => rfl) (fun _ _ _ _ _ _ _ hr => vs__law_is_top M (cal__law_way T M) (by omega) hr) (fun _ _ h => runP_ok h)
theorem cal__law_cell_at (T : Ats mg) (M : Nm mg) : Cal P w mg base "_law_cell_at" 1 ["_law_script", "_law_k"] (spP G__law_cell_at) :=
  cal_of (k := 0) T.a__law_cell_at sc__law_cell_at (fun _ _ _ _ _ _ us hl => match us, hl with | [_, _], _ => rfl) (fun _ _ _ _ _ _ _ hr => vs__law_cell_at M  hr) (fun _ _ h => runP_ok h)
theorem cal__law_pool (T : Ats mg) (M : Nm mg) : Cal P w mg base "_law_pool" 2 ["_law_script", "_law_k"] (spP G__law_pool) :=
  cal_of (k := 1) T.a__law_pool sc__law_pool (fun _ _ _ _ _ _ us hl => match us, hl with | [_, _], _ => rfl) (fun _ _ _ _ _ _ _ hr => vs__law_pool M (cal__law_cell_at T M) (by omega) hr) (fun _ _ h => runP_ok h)
theorem cal__law_take (T : Ats mg) (M : Nm mg) : Cal P w mg base "_law_take" 1 ["_law_pool_here", "_law_many"] (spI G__law_take) :=
  cal_io (k := 0) T.a__law_take sc__law_take (fun _ _ _ _ _ _ us hl => match us, hl with | [_, _], _ => rfl) (fun _ _ _ _ _ _ _ _ hr => vs__law_take M  hr) (fun _ _ _ h => runI_ok h)
theorem cal__law_some_keys (T : Ats mg) (M : Nm mg) : Cal P w mg base "_law_some_keys" 2 ["_law_pool_here", "_law_many"] (spI G__law_some_keys) :=
  cal_io (k := 1) T.a__law_some_keys sc__law_some_keys (fun _ _ _ _ _ _ us hl => match us, hl with | [_, _], _ => rfl) (fun _ _ _ _ _ _ _ _ hr => vs__law_some_keys M (cal__law_take T M) (by omega) hr) (fun _ _ _ h => runI_ok h)
theorem cal__law_tree (T : Ats mg) (M : Nm mg) : Cal P w mg base "_law_tree" 49 ["_law_pool_here", "_law_keys"] (spI (G__law_tree 48)) := by
  have go : ∀ n, Cal P w mg base "_law_tree" (1 + n) ["_law_pool_here", "_law_keys"] (spI (G__law_tree n)) := by
    intro n
    induction n with
    | zero => exact cal_zeroI T.a__law_tree (fun _ _ _ _ _ _ us hl => match us, hl with | [_, _], _ => rfl)
    | succ n ih => exact cal_io (k := 1 + n) T.a__law_tree sc__law_tree (fun _ _ _ _ _ _ us hl => match us, hl with | [_, _], _ => rfl) (fun _ _ _ _ _ _ _ _ hr => vs__law_tree M (cal__law_take T M) (by omega) ih (by omega) hr) (fun _ _ _ h => runI_ok h)
  exact go 48
theorem cal__law_some_top (T : Ats mg) (M : Nm mg) : Cal P w mg base "_law_some_top" 50 ["_law_pool_here", "_law_tree_here", "_law_many"] (spI G__law_some_top) :=
  cal_io (k := 49) T.a__law_some_top sc__law_some_top (fun _ _ _ _ _ _ us hl => match us, hl with | [_, _, _], _ => rfl) (fun _ _ _ _ _ _ _ _ hr => vs__law_some_top M (cal__law_take T M) (by omega) (cal__law_tree T M) (by omega) hr) (fun _ _ _ h => runI_ok h)
theorem cal__law_kind (T : Ats mg) (M : Nm mg) : Cal P w mg base "_law_kind" 1 ["_law_error"] (spP G__law_kind) :=
  cal_of (k := 0) T.a__law_kind sc__law_kind (fun _ _ _ _ _ _ us hl => match us, hl with | [_], _ => rfl) (fun _ _ _ _ _ _ _ hr => vs__law_kind M  hr) (fun _ _ h => runP_ok h)
theorem cal_rising (T : Ats mg) (M : Nm mg) : Cal P w mg base "rising" 48 ["tree"] (spP (G_rising 48)) := by
  have go : ∀ n, Cal P w mg base "rising" (0 + n) ["tree"] (spP (G_rising n)) := by
    intro n
    induction n with
    | zero => exact cal_zero T.a_rising (fun _ _ _ _ _ _ us hl => match us, hl with | [_], _ => rfl)
    | succ n ih => exact cal_of (k := 0 + n) T.a_rising sc_rising (fun _ _ _ _ _ _ us hl => match us, hl with | [_], _ => rfl) (fun _ _ _ _ _ _ _ hr => vs_rising M ih (by omega) hr) (fun _ _ h => runP_ok h)
  exact go 48
theorem cal_hung (T : Ats mg) (M : Nm mg) : Cal P w mg base "hung" 96 ["top", "parts"] (spP (G_hung 48)) := by
  have go : ∀ n, Cal P w mg base "hung" (48 + n) ["top", "parts"] (spP (G_hung n)) := by
    intro n
    induction n with
    | zero => exact cal_zero T.a_hung (fun _ _ _ _ _ _ us hl => match us, hl with | [_, _], _ => rfl)
    | succ n ih => exact cal_of (k := 48 + n) T.a_hung sc_hung (fun _ _ _ _ _ _ us hl => match us, hl with | [_, _], _ => rfl) (fun _ _ _ _ _ _ _ hr => vs_hung M ih (by omega) (cal_rising T M) (by omega) hr) (fun _ _ h => runP_ok h)
  exact go 48
theorem cal_is_key (T : Ats mg) (M : Nm mg) : Cal P w mg base "is_key" 1 ["thing"] (spP G_is_key) :=
  cal_of (k := 0) T.a_is_key sc_is_key (fun _ _ _ _ _ _ us hl => match us, hl with | [_], _ => rfl) (fun _ _ _ _ _ _ _ hr => vs_is_key M  hr) (fun _ _ h => runP_ok h)
theorem cal_is_between (T : Ats mg) (M : Nm mg) : Cal P w mg base "is_between" 49 ["thing", "low", "high"] (spP (G_is_between 48)) := by
  have go : ∀ n, Cal P w mg base "is_between" (1 + n) ["thing", "low", "high"] (spP (G_is_between n)) := by
    intro n
    induction n with
    | zero => exact cal_zero T.a_is_between (fun _ _ _ _ _ _ us hl => match us, hl with | [_, _, _], _ => rfl)
    | succ n ih => exact cal_of (k := 1 + n) T.a_is_between sc_is_between (fun _ _ _ _ _ _ us hl => match us, hl with | [_, _, _], _ => rfl) (fun _ _ _ _ _ _ _ hr => vs_is_between M ih (by omega) (cal_is_key T M) (by omega) hr) (fun _ _ h => runP_ok h)
  exact go 48
theorem cal_is_tree (T : Ats mg) (M : Nm mg) : Cal P w mg base "is_tree" 50 ["thing"] (spP G_is_tree) :=
  cal_of (k := 49) T.a_is_tree sc_is_tree (fun _ _ _ _ _ _ us hl => match us, hl with | [_], _ => rfl) (fun _ _ _ _ _ _ _ hr => vs_is_tree M (cal_is_between T M) (by omega) hr) (fun _ _ h => runP_ok h)
theorem cal_look_at_tree (T : Ats mg) (M : Nm mg) : CalX P w mg base "look_at_tree" 51 ["thing"] (spX G_look_at_tree) :=
  calX_of (k := 50) T.a_look_at_tree sc_look_at_tree (fun _ _ _ _ _ _ us hl => match us, hl with | [_], _ => rfl) (fun _ _ _ _ _ _ _ hr => vs_look_at_tree M (cal_is_tree T M) (by omega) hr (by omega)) (fun _ _ h => runX_ok h)
theorem cal_parts_beneath (T : Ats mg) (M : Nm mg) : Cal P w mg base "parts_beneath" 48 ["tree", "keys"] (spP (G_parts_beneath 48)) := by
  have go : ∀ n, Cal P w mg base "parts_beneath" (0 + n) ["tree", "keys"] (spP (G_parts_beneath n)) := by
    intro n
    induction n with
    | zero => exact cal_zero T.a_parts_beneath (fun _ _ _ _ _ _ us hl => match us, hl with | [_, _], _ => rfl)
    | succ n ih => exact cal_of (k := 0 + n) T.a_parts_beneath sc_parts_beneath (fun _ _ _ _ _ _ us hl => match us, hl with | [_, _], _ => rfl) (fun _ _ _ _ _ _ _ hr => vs_parts_beneath M ih (by omega) hr) (fun _ _ h => runP_ok h)
  exact go 48
theorem cal_is_top (T : Ats mg) (M : Nm mg) : CalX P w mg base "is_top" 52 ["tree", "thing"] (spX G_is_top) :=
  calX_of (k := 51) T.a_is_top sc_is_top (fun _ _ _ _ _ _ us hl => match us, hl with | [_, _], _ => rfl) (fun _ _ _ _ _ _ _ hr => vs_is_top M (cal_is_tree T M) (by omega) (cal_look_at_tree T M) (by omega) (cal_parts_beneath T M) (by omega) (cal_rising T M) (by omega) hr (by omega)) (fun _ _ h => runX_ok h)
theorem cal_turned (T : Ats mg) (M : Nm mg) : CalX P w mg base "turned" 97 ["tree", "top"] (spX G_turned) :=
  calX_of (k := 96) T.a_turned sc_turned (fun _ _ _ _ _ _ us hl => match us, hl with | [_, _], _ => rfl) (fun _ _ _ _ _ _ _ hr => vs_turned M (cal_hung T M) (by omega) (cal_is_top T M) (by omega) (cal_parts_beneath T M) (by omega) (cal_rising T M) (by omega) hr (by omega)) (fun _ _ h => runX_ok h)
theorem cal__law_told (T : Ats mg) (M : Nm mg) : Cal P w mg base "_law_told" 98 ["_law_tree_here", "_law_thing"] (spP G__law_told) :=
  cal_of (k := 97) T.a__law_told sc__law_told (fun _ _ _ _ _ _ us hl => match us, hl with | [_, _], _ => rfl) (fun _ _ _ _ _ _ _ hr => vs__law_told M (cal__law_kind T M) (by omega) (cal_turned T M) (by omega) hr) (fun _ _ h => runP_ok h)
theorem cal_law (T : Ats mg) (M : Nm mg) : Cal P w mg base "law" 99 ["_law_script"] (spP G_law) :=
  cal_of (k := 98) T.a_law sc_law (fun _ _ _ _ _ _ us hl => match us, hl with | [_], _ => rfl) (fun _ _ _ _ _ _ _ hr => vs_law M (cal__law_ahead T M) (by omega) (cal__law_is_top T M) (by omega) (cal__law_pool T M) (by omega) (cal__law_some_keys T M) (by omega) (cal__law_some_top T M) (by omega) (cal__law_take T M) (by omega) (cal__law_told T M) (by omega) (cal__law_tree T M) (by omega) (cal_is_top T M) (by omega) hr) (fun _ _ h => runP_ok h)
theorem fn_law (T : Ats mg) (M : Nm mg) {f : Addr} {fd : FuncData} (U : Fun KC.K "law" "law" s_law f fd) : FnOk P w KC.K mg base CX0 99 f fd ["_law_script"] (spP G_law) :=
  fn_pure (k := 98) U sc_law (fun _ _ _ _ _ _ hr => vs_law M (cal__law_ahead T M) (by omega) (cal__law_is_top T M) (by omega) (cal__law_pool T M) (by omega) (cal__law_some_keys T M) (by omega) (cal__law_some_top T M) (by omega) (cal__law_take T M) (by omega) (cal__law_told T M) (by omega) (cal__law_tree T M) (by omega) (cal_is_top T M) (by omega) hr) (fun _ _ h => runP_ok h)
end
end K15
end

section
set_option Elab.async false
set_option linter.all false
set_option maxRecDepth 100000
namespace K15
open PySem PySem.W PyProof.Rows Hd
/-- the part of the heap that is spoken of -/
noncomputable def KK (P : Params) : Frag := [
  (nat_lit 2, dN P [de "type.__subclasses__.KeyError.0" 448 (vI 206 0), de "type.__subclasses__.KeyError.n" 449 (vI 2 0), de "type.__subclasses__.KeyError.1" 477 (vI 226 0), de "type.__subclasses__.IndexError.0" 524 (vI 259 0), de "type.__subclasses__.IndexError.n" 525 (vI 1 0), de "type.__subclasses__.OverflowError.0" 553 (vI 279 0), de "type.__subclasses__.OverflowError.n" 554 (vI 1 0)] 7),
  (nat_lit 3, dO P [de "__name__" 165 (vS "law_thirdpoint_k15_tops_looked_at" 645), de "__doc__" 166 .none, de "__package__" 167 .none, de "__loader__" 168 (.builtin "__main__.__loader__#opaque"), de "__spec__" 169 .none, de "__annotations__" 170 (.ref 6), de "__builtins__" 171 (.ref 4), de "__file__" 173 (vS "/claim/cut.py" 172), de "__cached__" 174 .none, de "PointError" 206 (.ref 24), de "NoPoints" 231 (.ref 44), de "NoBox" 258 (.ref 63), de "NoAsks" 283 (.ref 82), de "NoRun" 308 (.ref 101), de "NoText" 333 (.ref 120), de "NoTurn" 358 (.ref 139), de "NoTree" 374 (.ref 151), de "NoTop" 390 (.ref 163), de "NotServed" 406 (.ref 175), de "NoRow" 422 (.ref 187), de "NoPoint" 451 (.ref 206), de "NoName" 480 (.ref 226), de "NoKey" 507 (.ref 246), de "NoBack" 527 (.ref 259), de "TooMany" 556 (.ref 279), de "LAST_KEY" 560 (vI 30 559), de "is_key" 567 (.ref 289), de "is_between" 581 (.ref 296), de "is_tree" 588 (.ref 303), de "look_at_tree" 595 (.ref 310), de "rising" 605 (.ref 317), de "parts_beneath" 615 (.ref 324), de "is_top" 624 (.ref 331), de "hung" 636 (.ref 338), de "turned" 644 (.ref 345), de "_law_cell_at" 654 (.ref 352), de "_law_pool" 664 (.ref 359), de "_law_take" 673 (.ref 366), de "_law_some_keys" 684 (.ref 373), de "_law_tree" 693 (.ref 380), de "_law_ahead" 700 (.ref 387), de "_law_put" 708 (.ref 394), de "_law_turned" 719 (.ref 401), de "_law_way" 728 (.ref 408), de "_law_some_top" 740 (.ref 415), de "_law_kind" 749 (.ref 422), de "_law_is_top" 755 (.ref 427), de "_law_told" 765 (.ref 434), de "law" 783 (.ref 441)] 49),
  (nat_lit 23, dO P [de "__module__" 196 (vS "thirdpoint.errors" 187), de "__firstlineno__" 200 (vI 2 199), de "__static_attributes__" 201 (.ref 22), de "__weakref__" 203 (.ref 25), de "__doc__" 204 .none] 3),
  (nat_lit 24, cO "PointError" [(.type "ValueError")] [(.ref 24), (.type "ValueError"), (.type "Exception"), (.type "BaseException"), (.type "object")] 23 [(.ref 44), (.ref 63), (.ref 82), (.ref 101), (.ref 120), (.ref 139), (.ref 151), (.ref 163), (.ref 175), (.ref 187)] #[some (.ref 15), none, some (vS "PointError" 189), some (vS "PointError" 197), some (.builtin "ValueError.__new__"), some (.bool true)]),
  (nat_lit 40, kO "__init__" "NoPoints.__init__" 219 6 2 [(vI 0 0), (vI 0 0), (vI 3 0), (.ref 35), (.bool true), (vI 181 0), (.ref 36), .none, (.ref 37), (.ref 38), (.ref 39), (vI 224 0), (vI 6 0), (vS "/claim/cut.py" 225)]),
  (nat_lit 41, fO "__init__" "NoPoints.__init__" (L2.inClass (top 2) 0) .none (vS "thirdpoint.errors" 187) 40),
  (nat_lit 43, dO P [de "__module__" 214 (vS "thirdpoint.errors" 187), de "__firstlineno__" 218 (vI 4 217), de "__init__" 226 (.ref 41), de "__static_attributes__" 228 (.ref 42), de "__doc__" 229 .none] 2),
  (nat_lit 44, cO "NoPoints" [(.ref 24)] [(.ref 44), (.ref 24), (.type "ValueError"), (.type "Exception"), (.type "BaseException"), (.type "object")] 43 [] #[some (.ref 28), none, some (vS "NoPoints" 207), some (vS "NoPoints" 215), some (.builtin "ValueError.__new__"), some (.bool true)]),
  (nat_lit 59, kO "__init__" "NoBox.__init__" 244 11 3 [(vI 0 0), (vI 0 0), (vI 3 0), (.ref 54), (.bool true), (vI 181 0), (.ref 55), .none, (.ref 56), (.ref 57), (.ref 58), (vI 250 0), (vI 11 0), (vS "/claim/cut.py" 251)]),
  (nat_lit 60, fO "__init__" "NoBox.__init__" (L2.inClass (top 3) 0) .none (vS "thirdpoint.errors" 187) 59),
  (nat_lit 62, dO P [de "__module__" 239 (vS "thirdpoint.errors" 187), de "__firstlineno__" 243 (vI 9 242), de "__init__" 252 (.ref 60), de "__static_attributes__" 255 (.ref 61), de "__doc__" 256 .none] 2),
  (nat_lit 63, cO "NoBox" [(.ref 24)] [(.ref 63), (.ref 24), (.type "ValueError"), (.type "Exception"), (.type "BaseException"), (.type "object")] 62 [] #[some (.ref 47), none, some (vS "NoBox" 232), some (vS "NoBox" 240), some (.builtin "ValueError.__new__"), some (.bool true)]),
  (nat_lit 78, kO "__init__" "NoAsks.__init__" 271 17 2 [(vI 0 0), (vI 0 0), (vI 3 0), (.ref 73), (.bool true), (vI 181 0), (.ref 74), .none, (.ref 75), (.ref 76), (.ref 77), (vI 276 0), (vI 17 0), (vS "/claim/cut.py" 277)]),
  (nat_lit 79, fO "__init__" "NoAsks.__init__" (L2.inClass (top 4) 0) .none (vS "thirdpoint.errors" 187) 78),
  (nat_lit 81, dO P [de "__module__" 266 (vS "thirdpoint.errors" 187), de "__firstlineno__" 270 (vI 15 269), de "__init__" 278 (.ref 79), de "__static_attributes__" 280 (.ref 80), de "__doc__" 281 .none] 2),
  (nat_lit 82, cO "NoAsks" [(.ref 24)] [(.ref 82), (.ref 24), (.type "ValueError"), (.type "Exception"), (.type "BaseException"), (.type "object")] 81 [] #[some (.ref 66), none, some (vS "NoAsks" 259), some (vS "NoAsks" 267), some (.builtin "ValueError.__new__"), some (.bool true)]),
  (nat_lit 97, kO "__init__" "NoRun.__init__" 296 22 2 [(vI 0 0), (vI 0 0), (vI 3 0), (.ref 92), (.bool true), (vI 181 0), (.ref 93), .none, (.ref 94), (.ref 95), (.ref 96), (vI 301 0), (vI 22 0), (vS "/claim/cut.py" 302)]),
  (nat_lit 98, fO "__init__" "NoRun.__init__" (L2.inClass (top 5) 0) .none (vS "thirdpoint.errors" 187) 97),
  (nat_lit 100, dO P [de "__module__" 291 (vS "thirdpoint.errors" 187), de "__firstlineno__" 295 (vI 20 294), de "__init__" 303 (.ref 98), de "__static_attributes__" 305 (.ref 99), de "__doc__" 306 .none] 2),
  (nat_lit 101, cO "NoRun" [(.ref 24)] [(.ref 101), (.ref 24), (.type "ValueError"), (.type "Exception"), (.type "BaseException"), (.type "object")] 100 [] #[some (.ref 85), none, some (vS "NoRun" 284), some (vS "NoRun" 292), some (.builtin "ValueError.__new__"), some (.bool true)]),
  (nat_lit 116, kO "__init__" "NoText.__init__" 321 27 2 [(vI 0 0), (vI 0 0), (vI 3 0), (.ref 111), (.bool true), (vI 181 0), (.ref 112), .none, (.ref 113), (.ref 114), (.ref 115), (vI 326 0), (vI 27 0), (vS "/claim/cut.py" 327)]),
  (nat_lit 117, fO "__init__" "NoText.__init__" (L2.inClass (top 6) 0) .none (vS "thirdpoint.errors" 187) 116),
  (nat_lit 119, dO P [de "__module__" 316 (vS "thirdpoint.errors" 187), de "__firstlineno__" 320 (vI 25 319), de "__init__" 328 (.ref 117), de "__static_attributes__" 330 (.ref 118), de "__doc__" 331 .none] 2),
  (nat_lit 120, cO "NoText" [(.ref 24)] [(.ref 120), (.ref 24), (.type "ValueError"), (.type "Exception"), (.type "BaseException"), (.type "object")] 119 [] #[some (.ref 104), none, some (vS "NoText" 309), some (vS "NoText" 317), some (.builtin "ValueError.__new__"), some (.bool true)]),
  (nat_lit 135, kO "__init__" "NoTurn.__init__" 346 32 2 [(vI 0 0), (vI 0 0), (vI 3 0), (.ref 130), (.bool true), (vI 181 0), (.ref 131), .none, (.ref 132), (.ref 133), (.ref 134), (vI 351 0), (vI 32 0), (vS "/claim/cut.py" 352)]),
  (nat_lit 136, fO "__init__" "NoTurn.__init__" (L2.inClass (top 7) 0) .none (vS "thirdpoint.errors" 187) 135),
  (nat_lit 138, dO P [de "__module__" 341 (vS "thirdpoint.errors" 187), de "__firstlineno__" 345 (vI 30 344), de "__init__" 353 (.ref 136), de "__static_attributes__" 355 (.ref 137), de "__doc__" 356 .none] 2),
  (nat_lit 139, cO "NoTurn" [(.ref 24)] [(.ref 139), (.ref 24), (.type "ValueError"), (.type "Exception"), (.type "BaseException"), (.type "object")] 138 [] #[some (.ref 123), none, some (vS "NoTurn" 334), some (vS "NoTurn" 342), some (.builtin "ValueError.__new__"), some (.bool true)]),
  (nat_lit 150, dO P [de "__module__" 366 (vS "thirdpoint.errors" 187), de "__firstlineno__" 370 (vI 35 369), de "__static_attributes__" 371 (.ref 149), de "__doc__" 372 .none] 2),
  (nat_lit 151, cO "NoTree" [(.ref 24)] [(.ref 151), (.ref 24), (.type "ValueError"), (.type "Exception"), (.type "BaseException"), (.type "object")] 150 [] #[some (.ref 142), none, some (vS "NoTree" 359), some (vS "NoTree" 367), some (.builtin "ValueError.__new__"), some (.bool true)]),
  (nat_lit 162, dO P [de "__module__" 382 (vS "thirdpoint.errors" 187), de "__firstlineno__" 386 (vI 37 385), de "__static_attributes__" 387 (.ref 161), de "__doc__" 388 .none] 2),
  (nat_lit 163, cO "NoTop" [(.ref 24)] [(.ref 163), (.ref 24), (.type "ValueError"), (.type "Exception"), (.type "BaseException"), (.type "object")] 162 [] #[some (.ref 154), none, some (vS "NoTop" 375), some (vS "NoTop" 383), some (.builtin "ValueError.__new__"), some (.bool true)]),
  (nat_lit 174, dO P [de "__module__" 398 (vS "thirdpoint.errors" 187), de "__firstlineno__" 402 (vI 39 401), de "__static_attributes__" 403 (.ref 173), de "__doc__" 404 .none] 2),
  (nat_lit 175, cO "NotServed" [(.ref 24)] [(.ref 175), (.ref 24), (.type "ValueError"), (.type "Exception"), (.type "BaseException"), (.type "object")] 174 [] #[some (.ref 166), none, some (vS "NotServed" 391), some (vS "NotServed" 399), some (.builtin "ValueError.__new__"), some (.bool true)]),
  (nat_lit 186, dO P [de "__module__" 414 (vS "thirdpoint.errors" 187), de "__firstlineno__" 418 (vI 41 417), de "__static_attributes__" 419 (.ref 185), de "__doc__" 420 .none] 2),
  (nat_lit 187, cO "NoRow" [(.ref 24)] [(.ref 187), (.ref 24), (.type "ValueError"), (.type "Exception"), (.type "BaseException"), (.type "object")] 186 [] #[some (.ref 178), none, some (vS "NoRow" 407), some (vS "NoRow" 415), some (.builtin "ValueError.__new__"), some (.bool true)]),
  (nat_lit 202, kO "__init__" "NoPoint.__init__" 435 45 2 [(vI 0 0), (vI 0 0), (vI 3 0), (.ref 197), (.bool true), (vI 181 0), (.ref 198), .none, (.ref 199), (.ref 200), (.ref 201), (vI 440 0), (vI 45 0), (vS "/claim/cut.py" 441)]),
  (nat_lit 203, fO "__init__" "NoPoint.__init__" (L2.inClass (top 12) 0) .none (vS "thirdpoint.errors" 187) 202),
  (nat_lit 205, dO P [de "__module__" 430 (vS "thirdpoint.errors" 187), de "__firstlineno__" 434 (vI 43 433), de "__init__" 442 (.ref 203), de "__static_attributes__" 444 (.ref 204), de "__weakref__" 446 (.ref 207), de "__doc__" 447 .none] 3),
  (nat_lit 206, cO "NoPoint" [(.type "KeyError")] [(.ref 206), (.type "KeyError"), (.type "LookupError"), (.type "Exception"), (.type "BaseException"), (.type "object")] 205 [] #[some (.ref 190), none, some (vS "NoPoint" 423), some (vS "NoPoint" 431), some (.builtin "LookupError.__new__"), some (.bool true)]),
  (nat_lit 222, kO "__init__" "NoName.__init__" 464 50 2 [(vI 0 0), (vI 0 0), (vI 3 0), (.ref 217), (.bool true), (vI 181 0), (.ref 218), .none, (.ref 219), (.ref 220), (.ref 221), (vI 469 0), (vI 50 0), (vS "/claim/cut.py" 470)]),
  (nat_lit 223, fO "__init__" "NoName.__init__" (L2.inClass (top 13) 0) .none (vS "thirdpoint.errors" 187) 222),
  (nat_lit 225, dO P [de "__module__" 459 (vS "thirdpoint.errors" 187), de "__firstlineno__" 463 (vI 48 462), de "__init__" 471 (.ref 223), de "__static_attributes__" 473 (.ref 224), de "__weakref__" 475 (.ref 227), de "__doc__" 476 .none] 3),
  (nat_lit 226, cO "NoName" [(.type "KeyError")] [(.ref 226), (.type "KeyError"), (.type "LookupError"), (.type "Exception"), (.type "BaseException"), (.type "object")] 225 [] #[some (.ref 210), none, some (vS "NoName" 452), some (vS "NoName" 460), some (.builtin "LookupError.__new__"), some (.bool true)]),
  (nat_lit 242, kO "__init__" "NoKey.__init__" 493 55 2 [(vI 0 0), (vI 0 0), (vI 3 0), (.ref 237), (.bool true), (vI 181 0), (.ref 238), .none, (.ref 239), (.ref 240), (.ref 241), (vI 498 0), (vI 55 0), (vS "/claim/cut.py" 499)]),
  (nat_lit 243, fO "__init__" "NoKey.__init__" (L2.inClass (top 14) 0) .none (vS "thirdpoint.errors" 187) 242),
  (nat_lit 245, dO P [de "__module__" 488 (vS "thirdpoint.errors" 187), de "__firstlineno__" 492 (vI 53 491), de "__init__" 500 (.ref 243), de "__static_attributes__" 502 (.ref 244), de "__weakref__" 504 (.ref 247), de "__doc__" 505 .none] 3),
  (nat_lit 246, cO "NoKey" [(.type "LookupError")] [(.ref 246), (.type "LookupError"), (.type "Exception"), (.type "BaseException"), (.type "object")] 245 [] #[some (.ref 230), none, some (vS "NoKey" 481), some (vS "NoKey" 489), some (.builtin "LookupError.__new__"), some (.bool true)]),
  (nat_lit 258, dO P [de "__module__" 515 (vS "thirdpoint.errors" 187), de "__firstlineno__" 519 (vI 58 518), de "__static_attributes__" 520 (.ref 257), de "__weakref__" 522 (.ref 260), de "__doc__" 523 .none] 3),
  (nat_lit 259, cO "NoBack" [(.type "IndexError")] [(.ref 259), (.type "IndexError"), (.type "LookupError"), (.type "Exception"), (.type "BaseException"), (.type "object")] 258 [] #[some (.ref 250), none, some (vS "NoBack" 508), some (vS "NoBack" 516), some (.builtin "IndexError.__new__"), some (.bool true)]),
  (nat_lit 275, kO "__init__" "TooMany.__init__" 540 62 2 [(vI 0 0), (vI 0 0), (vI 3 0), (.ref 270), (.bool true), (vI 181 0), (.ref 271), .none, (.ref 272), (.ref 273), (.ref 274), (vI 545 0), (vI 62 0), (vS "/claim/cut.py" 546)]),
  (nat_lit 276, fO "__init__" "TooMany.__init__" (L2.inClass (top 16) 0) .none (vS "thirdpoint.errors" 187) 275),
  (nat_lit 278, dO P [de "__module__" 535 (vS "thirdpoint.errors" 187), de "__firstlineno__" 539 (vI 60 538), de "__init__" 547 (.ref 276), de "__static_attributes__" 549 (.ref 277), de "__weakref__" 551 (.ref 280), de "__doc__" 552 .none] 3),
  (nat_lit 279, cO "TooMany" [(.type "OverflowError")] [(.ref 279), (.type "OverflowError"), (.type "ArithmeticError"), (.type "Exception"), (.type "BaseException"), (.type "object")] 278 [] #[some (.ref 263), none, some (vS "TooMany" 528), some (vS "TooMany" 536), some (.builtin "OverflowError.__new__"), some (.bool true)]),
  (nat_lit 288, kO "is_key" "is_key" 561 67 1 [(vI 0 0), (vI 0 0), (vI 3 0), (.ref 283), (.bool true), (vI 181 0), (.ref 284), .none, (.ref 285), (.ref 286), (.ref 287), (vI 565 0), (vI 67 0), (vS "/claim/cut.py" 566)]),
  (nat_lit 289, fO "is_key" "is_key" (top 19) .none (vS "thirdpoint.points" 557) 288),
  (nat_lit 295, kO "is_between" "is_between" 570 70 3 [(vI 0 0), (vI 0 0), (vI 3 0), (.ref 290), (.bool true), (vI 181 0), (.ref 291), .none, (.ref 292), (.ref 293), (.ref 294), (vI 579 0), (vI 70 0), (vS "/claim/cut.py" 580)]),
  (nat_lit 296, fO "is_between" "is_between" (top 21) .none (vS "thirdpoint.trees" 568) 295),
  (nat_lit 302, kO "is_tree" "is_tree" 582 77 1 [(vI 0 0), (vI 0 0), (vI 3 0), (.ref 297), (.bool true), (vI 181 0), (.ref 298), .none, (.ref 299), (.ref 300), (.ref 301), (vI 586 0), (vI 77 0), (vS "/claim/cut.py" 587)]),
  (nat_lit 303, fO "is_tree" "is_tree" (top 22) .none (vS "thirdpoint.trees" 568) 302),
  (nat_lit 309, kO "look_at_tree" "look_at_tree" 589 79 1 [(vI 0 0), (vI 0 0), (vI 3 0), (.ref 304), (.bool true), (vI 181 0), (.ref 305), .none, (.ref 306), (.ref 307), (.ref 308), (vI 593 0), (vI 79 0), (vS "/claim/cut.py" 594)]),
  (nat_lit 310, fO "look_at_tree" "look_at_tree" (top 23) .none (vS "thirdpoint.trees" 568) 309),
  (nat_lit 316, kO "rising" "rising" 596 82 1 [(vI 0 0), (vI 0 0), (vI 3 0), (.ref 311), (.bool true), (vI 181 0), (.ref 312), .none, (.ref 313), (.ref 314), (.ref 315), (vI 603 0), (vI 82 0), (vS "/claim/cut.py" 604)]),
  (nat_lit 317, fO "rising" "rising" (top 24) .none (vS "thirdpoint.trees" 568) 316),
  (nat_lit 323, kO "parts_beneath" "parts_beneath" 608 88 2 [(vI 0 0), (vI 0 0), (vI 3 0), (.ref 318), (.bool true), (vI 181 0), (.ref 319), .none, (.ref 320), (.ref 321), (.ref 322), (vI 613 0), (vI 88 0), (vS "/claim/cut.py" 614)]),
  (nat_lit 324, fO "parts_beneath" "parts_beneath" (top 26) .none (vS "thirdpoint.tops" 606) 323),
  (nat_lit 330, kO "is_top" "is_top" 616 92 2 [(vI 0 0), (vI 0 0), (vI 3 0), (.ref 325), (.bool true), (vI 181 0), (.ref 326), .none, (.ref 327), (.ref 328), (.ref 329), (vI 622 0), (vI 92 0), (vS "/claim/cut.py" 623)]),
  (nat_lit 331, fO "is_top" "is_top" (top 27) .none (vS "thirdpoint.tops" 606) 330),
  (nat_lit 337, kO "hung" "hung" 625 98 2 [(vI 0 0), (vI 0 0), (vI 3 0), (.ref 332), (.bool true), (vI 181 0), (.ref 333), .none, (.ref 334), (.ref 335), (.ref 336), (vI 634 0), (vI 98 0), (vS "/claim/cut.py" 635)]),
  (nat_lit 338, fO "hung" "hung" (top 28) .none (vS "thirdpoint.tops" 606) 337),
  (nat_lit 344, kO "turned" "turned" 637 104 2 [(vI 0 0), (vI 0 0), (vI 3 0), (.ref 339), (.bool true), (vI 181 0), (.ref 340), .none, (.ref 341), (.ref 342), (.ref 343), (vI 642 0), (vI 104 0), (vS "/claim/cut.py" 643)]),
  (nat_lit 345, fO "turned" "turned" (top 29) .none (vS "thirdpoint.tops" 606) 344),
  (nat_lit 351, kO "_law_cell_at" "_law_cell_at" 647 109 2 [(vI 0 0), (vI 0 0), (vI 3 0), (.ref 346), (.bool true), (vI 181 0), (.ref 347), .none, (.ref 348), (.ref 349), (.ref 350), (vI 652 0), (vI 109 0), (vS "/claim/cut.py" 653)]),
  (nat_lit 352, fO "_law_cell_at" "_law_cell_at" (top 31) .none (vS "law_thirdpoint_k15_tops_looked_at" 645) 351),
  (nat_lit 358, kO "_law_pool" "_law_pool" 655 113 2 [(vI 0 0), (vI 0 0), (vI 3 0), (.ref 353), (.bool true), (vI 181 0), (.ref 354), .none, (.ref 355), (.ref 356), (.ref 357), (vI 662 0), (vI 113 0), (vS "/claim/cut.py" 663)]),
  (nat_lit 359, fO "_law_pool" "_law_pool" (top 32) .none (vS "law_thirdpoint_k15_tops_looked_at" 645) 358),
  (nat_lit 365, kO "_law_take" "_law_take" 665 119 2 [(vI 0 0), (vI 0 0), (vI 3 0), (.ref 360), (.bool true), (vI 181 0), (.ref 361), .none, (.ref 362), (.ref 363), (.ref 364), (vI 671 0), (vI 119 0), (vS "/claim/cut.py" 672)]),
  (nat_lit 366, fO "_law_take" "_law_take" (top 33) .none (vS "law_thirdpoint_k15_tops_looked_at" 645) 365),
  (nat_lit 372, kO "_law_some_keys" "_law_some_keys" 674 126 2 [(vI 0 0), (vI 0 0), (vI 3 0), (.ref 367), (.bool true), (vI 181 0), (.ref 368), .none, (.ref 369), (.ref 370), (.ref 371), (vI 682 0), (vI 126 0), (vS "/claim/cut.py" 683)]),
  (nat_lit 373, fO "_law_some_keys" "_law_some_keys" (top 34) .none (vS "law_thirdpoint_k15_tops_looked_at" 645) 372),
  (nat_lit 379, kO "_law_tree" "_law_tree" 685 133 2 [(vI 0 0), (vI 0 0), (vI 3 0), (.ref 374), (.bool true), (vI 181 0), (.ref 375), .none, (.ref 376), (.ref 377), (.ref 378), (vI 691 0), (vI 133 0), (vS "/claim/cut.py" 692)]),
  (nat_lit 380, fO "_law_tree" "_law_tree" (top 35) .none (vS "law_thirdpoint_k15_tops_looked_at" 645) 379),
  (nat_lit 386, kO "_law_ahead" "_law_ahead" 694 138 1 [(vI 0 0), (vI 0 0), (vI 3 0), (.ref 381), (.bool true), (vI 181 0), (.ref 382), .none, (.ref 383), (.ref 384), (.ref 385), (vI 698 0), (vI 138 0), (vS "/claim/cut.py" 699)]),
  (nat_lit 387, fO "_law_ahead" "_law_ahead" (top 36) .none (vS "law_thirdpoint_k15_tops_looked_at" 645) 386),
  (nat_lit 393, kO "_law_put" "_law_put" 701 142 2 [(vI 0 0), (vI 0 0), (vI 3 0), (.ref 388), (.bool true), (vI 181 0), (.ref 389), .none, (.ref 390), (.ref 391), (.ref 392), (vI 706 0), (vI 142 0), (vS "/claim/cut.py" 707)]),
  (nat_lit 394, fO "_law_put" "_law_put" (top 37) .none (vS "law_thirdpoint_k15_tops_looked_at" 645) 393),
  (nat_lit 400, kO "_law_turned" "_law_turned" 709 148 2 [(vI 0 0), (vI 0 0), (vI 3 0), (.ref 395), (.bool true), (vI 181 0), (.ref 396), .none, (.ref 397), (.ref 398), (.ref 399), (vI 717 0), (vI 148 0), (vS "/claim/cut.py" 718)]),
  (nat_lit 401, fO "_law_turned" "_law_turned" (top 38) .none (vS "law_thirdpoint_k15_tops_looked_at" 645) 400),
  (nat_lit 407, kO "_law_way" "_law_way" 720 155 2 [(vI 0 0), (vI 0 0), (vI 3 0), (.ref 402), (.bool true), (vI 181 0), (.ref 403), .none, (.ref 404), (.ref 405), (.ref 406), (vI 726 0), (vI 155 0), (vS "/claim/cut.py" 727)]),
  (nat_lit 408, fO "_law_way" "_law_way" (top 39) .none (vS "law_thirdpoint_k15_tops_looked_at" 645) 407),
  (nat_lit 414, kO "_law_some_top" "_law_some_top" 729 161 3 [(vI 0 0), (vI 0 0), (vI 3 0), (.ref 409), (.bool true), (vI 181 0), (.ref 410), .none, (.ref 411), (.ref 412), (.ref 413), (vI 738 0), (vI 161 0), (vS "/claim/cut.py" 739)]),
  (nat_lit 415, fO "_law_some_top" "_law_some_top" (top 40) .none (vS "law_thirdpoint_k15_tops_looked_at" 645) 414),
  (nat_lit 421, kO "_law_kind" "_law_kind" 741 170 1 [(vI 0 0), (vI 0 0), (vI 3 0), (.ref 416), (.bool true), (vI 181 0), (.ref 417), .none, (.ref 418), (.ref 419), (.ref 420), (vI 747 0), (vI 170 0), (vS "/claim/cut.py" 748)]),
  (nat_lit 422, fO "_law_kind" "_law_kind" (top 41) .none (vS "law_thirdpoint_k15_tops_looked_at" 645) 421),
  (nat_lit 426, kO "_law_is_top" "_law_is_top" 750 180 2 [(vI 0 0), (vI 0 0), (vI 3 0), (.ref 423), (.bool true), (vI 181 0), (.ref 424), .none, .none, .none, (.ref 425), (vI 753 0), (vI 180 0), (vS "/claim/cut.py" 754)]),
  (nat_lit 427, fO "_law_is_top" "_law_is_top" (top 42) .none (vS "law_thirdpoint_k15_tops_looked_at" 645) 426),
  (nat_lit 433, kO "_law_told" "_law_told" 756 188 2 [(vI 0 0), (vI 0 0), (vI 3 0), (.ref 428), (.bool true), (vI 181 0), (.ref 429), .none, (.ref 430), (.ref 431), (.ref 432), (vI 763 0), (vI 188 0), (vS "/claim/cut.py" 764)]),
  (nat_lit 434, fO "_law_told" "_law_told" (top 43) .none (vS "law_thirdpoint_k15_tops_looked_at" 645) 433),
  (nat_lit 440, kO "law" "law" 766 195 1 [(vI 0 0), (vI 0 0), (vI 3 0), (.ref 435), (.bool true), (vI 181 0), (.ref 436), .none, (.ref 437), (.ref 438), (.ref 439), (vI 781 0), (vI 195 0), (vS "/claim/cut.py" 782)]),
  (nat_lit 441, fO "law" "law" (top 44) .none (vS "law_thirdpoint_k15_tops_looked_at" 645) 440)]
def kAs : List Addr := [2, 3, 23, 24, 40, 41, 43, 44, 59, 60, 62, 63, 78, 79, 81, 82, 97, 98, 100, 101, 116, 117, 119, 120, 135, 136, 138, 139, 150, 151, 162, 163, 174, 175, 186, 187, 202, 203, 205, 206, 222, 223, 225, 226, 242, 243, 245, 246, 258, 259, 275, 276, 278, 279, 288, 289, 295, 296, 302, 303, 309, 310, 316, 317, 323, 324, 330, 331, 337, 338, 344, 345, 351, 352, 358, 359, 365, 366, 372, 373, 379, 380, 386, 387, 393, 394, 400, 401, 407, 408, 414, 415, 421, 422, 426, 427, 433, 434, 440, 441]
theorem kAs_eq (P : Params) : kAs = (KK P).map (·.1) := by kernel_rfl
def kKeep : List Nat := [1, 2, 3, 4, 5, 6, 7, 8, 9, 10, 11, 12, 13, 14, 15, 16, 18, 19, 21, 22, 23, 24, 26, 27, 28, 29, 31, 32, 33, 34, 35, 36, 37, 38, 39, 40, 41, 42, 43, 44]
theorem twin : Nat.ble 1 PySem.Challenge.pw_thirdpoint_k15_tops_looked_at.main.body.length = true := by k_qdec
set_option maxHeartbeats 0 in
theorem run (w : World) (os : OsState) : (runQ Fast.tw14364793385576792824 Fast.tw4629501116884402141 w 11 (some (.ref 6)) 8892 (bootT w.params os) (topStub Fast.tw4629501116884402141)).map (fun s => ((staticsOk (importedModules Fast.tw4629501116884402141.main.body) (boot_heap w.params) s.abs.heap && namesBound Fast.tw4629501116884402141 s.abs.heap && gensDone s.abs && laidKept (boot_heap w.params) s.abs.heap),
      Fast.tw4187177175401517315 (view Fast.tw4629501116884402141 kKeep) [] (importedModules Fast.tw4629501116884402141.main.body) (fun s => xlAt (view Fast.tw4629501116884402141 kKeep) [] s && recOk [] s) true s.abs, kAs.map s.abs.heap.get?)) = some (true, openGood (view Fast.tw4629501116884402141 kKeep) [], (KK w.params).map fun x => some x.2) := by kernel_rfl
theorem left : LeftO PySem.Challenge.pw_thirdpoint_k15_tops_looked_at (view PySem.Challenge.pw_thirdpoint_k15_tops_looked_at kKeep) [] (fun s => xlAt (view PySem.Challenge.pw_thirdpoint_k15_tops_looked_at kKeep) [] s && recOk [] s) (fun s => kAs.map s.heap.get?) (fun w => (KK w.params).map fun x => some x.2) 8892 :=
  left_of Fast.te4629501116884402141 (by kernel_rfl) rfl (fun _ => by kernel_rfl) run
end K15
end

section
set_option Elab.async false
set_option linter.all false
set_option maxRecDepth 100000
set_option maxHeartbeats 5000000
/-! what the top has written: the classes of exceptions -/
namespace Xf
open PySem L2 Ex Dv
abbrev upV : List Value := [.type "ValueError", .type "Exception", .type "BaseException", .type "object"]
abbrev upK : List Value := [.type "KeyError", .type "LookupError", .type "Exception", .type "BaseException", .type "object"]
abbrev upL : List Value := [.type "LookupError", .type "Exception", .type "BaseException", .type "object"]
abbrev upI : List Value := [.type "IndexError", .type "LookupError", .type "Exception", .type "BaseException", .type "object"]
abbrev upO : List Value := [.type "OverflowError", .type "ArithmeticError", .type "Exception", .type "BaseException", .type "object"]
theorem pass_V (self : Value) : refuseLoop self "__setattr__" upV = pure () := F.store_ValueError.passes self
theorem pass_K (self : Value) : refuseLoop self "__setattr__" upK = pure () := by kernel_rfl
theorem pass_L (self : Value) : refuseLoop self "__setattr__" upL = pure () := by kernel_rfl
theorem pass_I (self : Value) : refuseLoop self "__setattr__" upI = pure () := by kernel_rfl
theorem pass_O (self : Value) : refuseLoop self "__setattr__" upO = pure () := by kernel_rfl
def upOf : Cn → List Value
  | .NoPoint | .NoName => upK
  | .NoKey => upL
  | .NoBack => upI
  | .TooMany => upO
  | _ => upV
def nwOf : Cn → String
  | .NoPoint | .NoName | .NoKey => "LookupError.__new__"
  | .NoBack => "IndexError.__new__"
  | .TooMany => "OverflowError.__new__"
  | _ => "ValueError.__new__"
theorem passOf : ∀ (C : Cn) (self : Value), refuseLoop self "__setattr__" (upOf C) = pure ()
  | .PointError, s => pass_V s
  | .NoPoints, s => pass_V s
  | .NoBox, s => pass_V s
  | .NoAsks, s => pass_V s
  | .NoRun, s => pass_V s
  | .NoText, s => pass_V s
  | .NoTurn, s => pass_V s
  | .NoTree, s => pass_V s
  | .NoTop, s => pass_V s
  | .NotServed, s => pass_V s
  | .NoRow, s => pass_V s
  | .NoPoint, s => pass_K s
  | .NoName, s => pass_K s
  | .NoKey, s => pass_L s
  | .NoBack, s => pass_I s
  | .TooMany, s => pass_O s
  | .Points, s => pass_V s
  | .Grower, s => pass_V s
  | .Search, s => pass_V s
  | .Turner, s => pass_V s
  | .Desk, s => pass_V s
def clsB (K : PySem.W.Frag) (C : Addr) (up : List Value) (nw : String) : Bool := exCls K C up nw && (PySem.W.findIn K (.ref C) "__getattribute__" == some (some (.builtin "BaseException.__getattribute__"))) && (PySem.W.findIn K (.ref C) "__getattr__" == some none) &&
  (PySem.W.findIn K (.ref C) "__setattr__" == some (some (.builtin "object.__setattr__"))) && (PySem.W.mroIn K C (.type "BaseException") == some true) && (PySem.W.mroIn K C (.type "object") == some true) && (PySem.W.findIn K (.ref C) "__class__" == some (some (.builtin "object.__class__"))) &&
  (PySem.W.specialIn K (.builtin "object.__class__") "__get__" == some (some (.builtin "getset_descriptor.__get__"))) && (PySem.W.takesIn K (.builtin "object.__class__") == some true) && (PySem.W.kitCls K (.ref C) (.ref C) == some true) && PySem.W.keepIn K (.ref C)
theorem cls_of {K : PySem.W.Frag} {C : Addr} {up : List Value} {nw : String} (ok : ∀ self, refuseLoop self "__setattr__" up = pure ()) (h : clsB K C up nw = true) : exCls K C up nw = true ∧ XK0 K C := by
  unfold clsB at h
  simp only [Bool.and_eq_true, beq_iff_eq] at h
  obtain ⟨⟨⟨⟨⟨⟨⟨⟨⟨⟨a, b⟩, c⟩, d⟩, e⟩, f⟩, g⟩, i⟩, j⟩, k⟩, l⟩ := h
  exact ⟨a, xk0_of ok a b c d e f g i j k l⟩
variable [KC]
theorem all_cls {L : List Cn} (h : L.all (fun C => clsB KC.K (KC.cls C) (upOf C) (nwOf C)) = true) {C : Cn} (hc : L.contains C = true) : exCls KC.K (KC.cls C) (upOf C) (nwOf C) = true ∧ XK0 KC.K (KC.cls C) :=
  cls_of (passOf C) (List.all_eq_true.mp h C (List.contains_iff_mem.mp hc))
def kitB (K : PySem.W.Frag) (cls : Cn → Addr) (L : List Cn) (T : Cn) : Bool := L.all (fun C => PySem.W.kitOne K (.ref (cls C)) (.ref (cls T)) == some (sub C T)) && tyNs.all (fun t => PySem.W.kitOne K (.type t) (.ref (cls T)) == some false)
theorem kit_of {L : List Cn} {T : Cn} (h : kitB KC.K KC.cls L T = true) (hx : ∀ C, L.contains C = true → XC KC.K (KC.cls C)) : KitX L T := by
  unfold kitB at h
  rw [Bool.and_eq_true, List.all_eq_true, List.all_eq_true] at h
  exact ⟨fun C hc => ⟨beq_iff_eq.mp (h.1 C (List.contains_iff_mem.mp hc)), hx C hc⟩, fun t ht => beq_iff_eq.mp (h.2 t ht)⟩
theorem mt_of {L : List Cn} {cs : List Value} (h : L.all (fun C => matchIn KC.K (KC.cls C) cs == some true) = true) : ∀ C, L.contains C = true → matchIn KC.K (KC.cls C) cs = some true := fun C hc => beq_iff_eq.mp (List.all_eq_true.mp h C (List.contains_iff_mem.mp hc))
theorem na_of {L : List Cn} {y : Str} (h : L.all (fun C => PySem.W.findIn KC.K (.ref (KC.cls C)) y == some none) = true) (hx : ∀ C, L.contains C = true → XC KC.K (KC.cls C)) : ∀ C, L.contains C = true → XC KC.K (KC.cls C) ∧ NoAttr KC.K (KC.cls C) y := fun C hc => ⟨hx C hc, beq_iff_eq.mp (List.all_eq_true.mp h C (List.contains_iff_mem.mp hc))⟩
theorem excK : XB "KeyError" "KeyError.__init__" upK := xb_key
theorem xin_pe {K : PySem.W.Frag} {D : Addr} (a : PySem.W.specialIn K (.ref D) "__getattribute__" = some (some (.builtin "type.__getattribute__"))) (b : PySem.W.readsIn K D (.type "type") = true) (c : PySem.W.findCls K (.ref D) (.type "type") "__init__" = some (.val (.builtin "ValueError.__init__"))) : XIn K (.ref D) "ValueError" "ValueError.__init__" :=
  ⟨.inl ⟨D, rfl, a, b, c⟩, by decide +kernel, _, XB.of F.excBase_ValueError⟩
theorem xin_KeyError {K : PySem.W.Frag} (c : PySem.W.findCls K (.type "KeyError") (.type "type") "__init__" = some (.val (.builtin "KeyError.__init__"))) : XIn K (.ty "KeyError") "KeyError" "KeyError.__init__" :=
  ⟨.inr ⟨"KeyError", rfl, by kernel_rfl, by decide +kernel, c⟩, by decide +kernel, _, excK⟩
theorem xin_LookupError {K : PySem.W.Frag} (c : PySem.W.findCls K (.type "LookupError") (.type "type") "__init__" = some (.val (.builtin "LookupError.__init__"))) : XIn K (.ty "LookupError") "LookupError" "LookupError.__init__" :=
  ⟨.inr ⟨"LookupError", rfl, by kernel_rfl, by decide +kernel, c⟩, by decide +kernel, _, XB.of F.excBase_LookupError⟩
theorem xin_OverflowError {K : PySem.W.Frag} (c : PySem.W.findCls K (.type "OverflowError") (.type "type") "__init__" = some (.val (.builtin "OverflowError.__init__"))) : XIn K (.ty "OverflowError") "OverflowError" "OverflowError.__init__" :=
  ⟨.inr ⟨"OverflowError", rfl, by kernel_rfl, by decide +kernel, c⟩, by decide +kernel, _, XB.of F.excBase_OverflowError⟩
/-- a def that stands in the written part -/
theorem fun_K {K : PySem.W.Frag} {x q : Str} {st : Stmt} {a cd : Addr} {pm : Value} (l : K.lookup a = some (Hd.fO x q st .none pm cd)) (c : PySem.W.codeIn K (.ref cd) q = true) (k : PySem.W.keepIn K (.ref a) = true) : ∃ fd, Fun K x q st a fd := ⟨_, L2.fun_mk l c k⟩
/-- x in the written part is a def, by name -/
theorem at_K {mg : Str → Option Value} {x : Str} {st : Stmt} {a cd : Addr} {pm : Value} {h : Heap} (X : KC.K.In h) (G : h.Ns mainGlobals mg) (l : KC.K.lookup a = some (Hd.fO x x st .none pm cd)) (c : PySem.W.codeIn KC.K (.ref cd) x = true) (k : PySem.W.keepIn KC.K (.ref a) = true) (n : PySem.W.nsIn KC.K mainGlobals x = some (some (.ref a))) : At mg x st :=
  let ⟨fd, U⟩ := fun_K l c k; ⟨a, fd, U, PySem.W.mg_of X G n, k⟩
structure XT (K : PySem.W.Frag) (C : Addr) (B : String) (x : Str) : Prop where
  xc : XC K C
  sub : PySem.W.mroIn K C (.type B) = some true
  no : NoAttr K C x
end Xf
end

section
set_option Elab.async false
set_option linter.all false
set_option maxRecDepth 100000
set_option maxHeartbeats 5000000
namespace K15
open PySem L2 Ex Dv
def clsA : Cn → Addr
  | .PointError => 24
  | .NoPoints => 44
  | .NoBox => 63
  | .NoAsks => 82
  | .NoRun => 101
  | .NoText => 120
  | .NoTurn => 139
  | .NoTree => 151
  | .NoTop => 163
  | .NotServed => 175
  | .NoRow => 187
  | .NoPoint => 206
  | .NoName => 226
  | .NoKey => 246
  | .NoBack => 259
  | .TooMany => 279
  | _ => 0
section
variable {P : Program} {w : World} {K : PySem.W.Frag} {mg : Str → Option Value} {base : Heap}
end
def spLaw (K : PySem.W.Frag) : Sp := fun vs H Q _ => ∃ (a : Addr) (ns : List Int), vs = [.ref a] ∧ SqL K H a (ns.map V.int) ∧ ns.length ≤ 63 ∧ ∀ H', Q (.bl true) H'
theorem law_imp [KC] (vs : List V) (H : Hp) (Q : VK) (E : XK) (h : spLaw KC.K vs H Q E) : spP G_law vs H Q E := by
  obtain ⟨a, ns, rfl, hS, hl, hQ⟩ := h
  refine ⟨H, [.scr ns], fun _ _ z => z, .cons (.scr hS) .nil, ?_⟩
  rw [law_eq ns hl]
  intro x H' R' _ hx
  cases hx
  exact hQ H'
theorem all_mk {l : PySem.W.OpenLaw} {w : World} {h : Heap} {mg : Str → Option Value} {fa : Addr} (X : (KK w.params).In h) (G : h.Ns mainGlobals mg) (hfa : mg "law" = some (.ref fa)) :
    ∃ fd : FuncData, (∀ (s : Shared) (v : Value), BindsTo s fd ⟨[v], []⟩ [("_law_script", v)]) ∧ ∀ base : Heap, (KK w.params).In base → base.Ns mainGlobals mg → FnOk l.prog w (KK w.params) mg base CX0 99 fa fd ["_law_script"] (spLaw (KK w.params)) := by
  letI : KC := ⟨KK w.params, clsA⟩
  have mg0 : ∀ {n : Str}, PySem.W.nsIn (KK w.params) mainGlobals n = some none → mg n = none := fun z => PySem.W.mg_none_of X G z
  have mg1 : ∀ {n : Str} {v : Value}, PySem.W.nsIn (KK w.params) mainGlobals n = some (some v) → mg n = some v := fun z => PySem.W.mg_of X G z
  have cl : exL.all (fun C => Xf.clsB KC.K (KC.cls C) (Xf.upOf C) (Xf.nwOf C)) = true := by kernel_rfl
  have xc : ∀ C, exL.contains C = true → XC KC.K (KC.cls C) := fun C hc => (Xf.all_cls cl hc).2.xc
  obtain ⟨q_NoTop, z_NoTop⟩ := Xf.all_cls cl (C := .NoTop) (by decide)
  obtain ⟨q_NoTree, z_NoTree⟩ := Xf.all_cls cl (C := .NoTree) (by decide)
  have M : Nm mg := ⟨mg0 (n := "bool") (by kernel_rfl),
    mg0 (n := "int") (by kernel_rfl),
    mg0 (n := "isinstance") (by kernel_rfl),
    mg0 (n := "len") (by kernel_rfl),
    mg0 (n := "max") (by kernel_rfl),
    mg0 (n := "min") (by kernel_rfl),
    mg0 (n := "range") (by kernel_rfl),
    mg0 (n := "repr") (by kernel_rfl),
    mg0 (n := "set") (by kernel_rfl),
    mg0 (n := "sorted") (by kernel_rfl),
    mg0 (n := "tuple") (by kernel_rfl),
    ⟨559, mg1 (n := "LAST_KEY") (v := .int 30 559) (by kernel_rfl)⟩,
    mg1 (n := "NoAsks") (v := .ref 82) (by kernel_rfl),
    mg1 (n := "NoBack") (v := .ref 259) (by kernel_rfl),
    mg1 (n := "NoBox") (v := .ref 63) (by kernel_rfl),
    mg1 (n := "NoKey") (v := .ref 246) (by kernel_rfl),
    mg1 (n := "NoName") (v := .ref 226) (by kernel_rfl),
    mg1 (n := "NoPoint") (v := .ref 206) (by kernel_rfl),
    mg1 (n := "NoPoints") (v := .ref 44) (by kernel_rfl),
    mg1 (n := "NoRow") (v := .ref 187) (by kernel_rfl),
    mg1 (n := "NoRun") (v := .ref 101) (by kernel_rfl),
    mg1 (n := "NoText") (v := .ref 120) (by kernel_rfl),
    mg1 (n := "NoTop") (v := .ref 163) (by kernel_rfl),
    mg1 (n := "NoTree") (v := .ref 151) (by kernel_rfl),
    mg1 (n := "NoTurn") (v := .ref 139) (by kernel_rfl),
    mg1 (n := "NotServed") (v := .ref 175) (by kernel_rfl),
    mg1 (n := "PointError") (v := .ref 24) (by kernel_rfl),
    mg1 (n := "TooMany") (v := .ref 279) (by kernel_rfl),
    xmk0_of F.excBase_ValueError (by decide +kernel) (XB.of F.excBase_ValueError) q_NoTop z_NoTop.xc (by kernel_rfl) (by kernel_rfl),
    z_NoTop,
    xmk0_of F.excBase_ValueError (by decide +kernel) (XB.of F.excBase_ValueError) q_NoTree z_NoTree.xc (by kernel_rfl) (by kernel_rfl),
    z_NoTree,
    Xf.kit_of (by kernel_rfl) xc,
    Xf.kit_of (by kernel_rfl) xc,
    Xf.kit_of (by kernel_rfl) xc,
    Xf.kit_of (by kernel_rfl) xc,
    Xf.kit_of (by kernel_rfl) xc,
    Xf.kit_of (by kernel_rfl) xc,
    Xf.kit_of (by kernel_rfl) xc,
    Xf.kit_of (by kernel_rfl) xc,
    Xf.kit_of (by kernel_rfl) xc,
    Xf.kit_of (by kernel_rfl) xc,
    Xf.kit_of (by kernel_rfl) xc,
    Xf.kit_of (by kernel_rfl) xc,
    Xf.kit_of (by kernel_rfl) xc,
    Xf.kit_of (by kernel_rfl) xc,
    Xf.kit_of (by kernel_rfl) xc,
    Xf.kit_of (by kernel_rfl) xc,
    Xf.mt_of (by kernel_rfl)⟩
  have T : Ats mg := ⟨Xf.at_K (a := 387) (cd := 386) (pm := (Hd.vS "law_thirdpoint_k15_tops_looked_at" 645)) X G (by kernel_rfl) (by kernel_rfl) (by kernel_rfl) (by kernel_rfl),
    Xf.at_K (a := 408) (cd := 407) (pm := (Hd.vS "law_thirdpoint_k15_tops_looked_at" 645)) X G (by kernel_rfl) (by kernel_rfl) (by kernel_rfl) (by kernel_rfl),
    Xf.at_K (a := 427) (cd := 426) (pm := (Hd.vS "law_thirdpoint_k15_tops_looked_at" 645)) X G (by kernel_rfl) (by kernel_rfl) (by kernel_rfl) (by kernel_rfl),
    Xf.at_K (a := 352) (cd := 351) (pm := (Hd.vS "law_thirdpoint_k15_tops_looked_at" 645)) X G (by kernel_rfl) (by kernel_rfl) (by kernel_rfl) (by kernel_rfl),
    Xf.at_K (a := 359) (cd := 358) (pm := (Hd.vS "law_thirdpoint_k15_tops_looked_at" 645)) X G (by kernel_rfl) (by kernel_rfl) (by kernel_rfl) (by kernel_rfl),
    Xf.at_K (a := 366) (cd := 365) (pm := (Hd.vS "law_thirdpoint_k15_tops_looked_at" 645)) X G (by kernel_rfl) (by kernel_rfl) (by kernel_rfl) (by kernel_rfl),
    Xf.at_K (a := 373) (cd := 372) (pm := (Hd.vS "law_thirdpoint_k15_tops_looked_at" 645)) X G (by kernel_rfl) (by kernel_rfl) (by kernel_rfl) (by kernel_rfl),
    Xf.at_K (a := 380) (cd := 379) (pm := (Hd.vS "law_thirdpoint_k15_tops_looked_at" 645)) X G (by kernel_rfl) (by kernel_rfl) (by kernel_rfl) (by kernel_rfl),
    Xf.at_K (a := 415) (cd := 414) (pm := (Hd.vS "law_thirdpoint_k15_tops_looked_at" 645)) X G (by kernel_rfl) (by kernel_rfl) (by kernel_rfl) (by kernel_rfl),
    Xf.at_K (a := 422) (cd := 421) (pm := (Hd.vS "law_thirdpoint_k15_tops_looked_at" 645)) X G (by kernel_rfl) (by kernel_rfl) (by kernel_rfl) (by kernel_rfl),
    Xf.at_K (a := 317) (cd := 316) (pm := (Hd.vS "thirdpoint.trees" 568)) X G (by kernel_rfl) (by kernel_rfl) (by kernel_rfl) (by kernel_rfl),
    Xf.at_K (a := 338) (cd := 337) (pm := (Hd.vS "thirdpoint.tops" 606)) X G (by kernel_rfl) (by kernel_rfl) (by kernel_rfl) (by kernel_rfl),
    Xf.at_K (a := 289) (cd := 288) (pm := (Hd.vS "thirdpoint.points" 557)) X G (by kernel_rfl) (by kernel_rfl) (by kernel_rfl) (by kernel_rfl),
    Xf.at_K (a := 296) (cd := 295) (pm := (Hd.vS "thirdpoint.trees" 568)) X G (by kernel_rfl) (by kernel_rfl) (by kernel_rfl) (by kernel_rfl),
    Xf.at_K (a := 303) (cd := 302) (pm := (Hd.vS "thirdpoint.trees" 568)) X G (by kernel_rfl) (by kernel_rfl) (by kernel_rfl) (by kernel_rfl),
    Xf.at_K (a := 310) (cd := 309) (pm := (Hd.vS "thirdpoint.trees" 568)) X G (by kernel_rfl) (by kernel_rfl) (by kernel_rfl) (by kernel_rfl),
    Xf.at_K (a := 324) (cd := 323) (pm := (Hd.vS "thirdpoint.tops" 606)) X G (by kernel_rfl) (by kernel_rfl) (by kernel_rfl) (by kernel_rfl),
    Xf.at_K (a := 331) (cd := 330) (pm := (Hd.vS "thirdpoint.tops" 606)) X G (by kernel_rfl) (by kernel_rfl) (by kernel_rfl) (by kernel_rfl),
    Xf.at_K (a := 345) (cd := 344) (pm := (Hd.vS "thirdpoint.tops" 606)) X G (by kernel_rfl) (by kernel_rfl) (by kernel_rfl) (by kernel_rfl),
    Xf.at_K (a := 434) (cd := 433) (pm := (Hd.vS "law_thirdpoint_k15_tops_looked_at" 645)) X G (by kernel_rfl) (by kernel_rfl) (by kernel_rfl) (by kernel_rfl),
    Xf.at_K (a := 441) (cd := 440) (pm := (Hd.vS "law_thirdpoint_k15_tops_looked_at" 645)) X G (by kernel_rfl) (by kernel_rfl) (by kernel_rfl) (by kernel_rfl)⟩
  obtain ⟨d, U⟩ := Xf.fun_K (K := KK w.params) (x := "law") (q := "law") (st := s_law) (a := 441) (cd := 440) (pm := (Hd.vS "law_thirdpoint_k15_tops_looked_at" 645)) (by kernel_rfl) (by kernel_rfl) (by kernel_rfl)
  have e : mg "law" = some (.ref 441) := mg1 (by kernel_rfl)
  rw [hfa] at e
  cases e
  refine ⟨d, fun s v => ?_, fun base _ _ => (fn_law T M U).imp fun vs H Q E q => law_imp vs H Q E q⟩
  obtain ⟨oc, od, kV, doc, pm, an, cdv, ct, osl, e, _, _⟩ := U.ex
  rw [e]
  exact .of_eq rfl
end K15
end

set_option Elab.async false
set_option linter.all false
set_option maxRecDepth 100000
namespace K15
open PySem L2 Ex
theorem walk {l : PySem.W.OpenLaw} {q : Program} {loose : List Str} {XP : (Str → Option Value) → Heap → Prop} {YP : World → Heap → Prop} {d : DefRec} {K : Params → PySem.W.Frag} (hn : l.most = some 63) (hdf : d.params.defaults = [])
    (hY : ∀ (w : World) (h : Heap), YP w h → (K w.params).In h)
    (F : ∀ (w : World) (mg : Str → Option Value) (fa : Addr) (h : Heap), (K w.params).In h → h.Ns mainGlobals mg → mg d.name = some (.ref fa) →
      ∃ fd : FuncData, (∀ (s : Shared) (u : Value), BindsTo s fd ⟨[u], []⟩ [("_law_script", u)]) ∧ ∀ base : Heap, (K w.params).In base → base.Ns mainGlobals mg → FnOk l.prog w (K w.params) mg base CX0 99 fa fd ["_law_script"] (spLaw (K w.params))) :
    PySem.W.WalkO q loose XP YP l.row.toRowW d [] (fun f vs => PySem.call f vs) :=
  L2.walk_of (n := 63) (k := 99) (x := "_law_script") (CX := fun _ => CX0) (sp := fun w => spLaw (K w.params)) hn (by decide) hdf ⟨rfl, by decide, by decide, rfl⟩ hY F (fun _ _ a ns hl _ hS => ⟨a, ns, rfl, hS, hl, fun _ => rfl⟩) fun _ _ _ _ _ z => z
end K15
open PySem PySem.W PyProof.Rows
set_option maxRecDepth 100000 in
set_option maxHeartbeats 0 in
theorem PySem.Challenge.cw_thirdpoint_k15_tops_looked_at_holds : PySem.Challenge.rw_thirdpoint_k15_tops_looked_at.Holds := by
  w_on; o_law
  refine PySem.W.holds_open (q := view PySem.Challenge.pw_thirdpoint_k15_tops_looked_at K15.kKeep) (Yf := Hook.obs (kHook K15.KK K15.kAs K15.kAs_eq)) (Ya := Hook.val (kHook K15.KK K15.kAs K15.kAs_eq)) (YP := Hook.says (kHook K15.KK K15.kAs K15.kAs_eq)) K15.left (Hook.of (kHook K15.KK K15.kAs K15.kAs_eq)) (Hook.keeps (kHook K15.KK K15.kAs K15.kAs_eq)) (fun s e => xl_of s (Bool.and_eq_true_iff.mp e).1) XL.keeps (by rfl) (by rfl) (by rfl) (fun s e => recFacts_of (Bool.and_eq_true_iff.mp e).2) (by rfl) (by first | assumption | decide +kernel) (by decide +kernel) ⟨rfl, rfl, rfl, rfl, rfl, by decide +kernel⟩ ?hw ?hc
  case hw => w_witness2
  case hc => exact K15.walk (l := PySem.Challenge.rw_thirdpoint_k15_tops_looked_at) rfl rfl (fun w h Y => PySem.W.kIn_of Y) fun w mg fa h KX G hmg => K15.all_mk KX G hmg
