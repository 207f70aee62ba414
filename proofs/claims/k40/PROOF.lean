import PyProof.Rows.All
import Wide.All
import OpenK.AllK
import Wide.FinOn
import Lean
import PyProof.EqAt
import PyProof.EqKinds
import PyProof.TupleCall
import PyProof.ExcClass3
import PyProof.ExcArgsOwn
import PyProof.InstStoreFacts
import PyProof.NsDelKeeps
import PyProof.CompUse
import PyProof.ConsumeWalk
import PyProof.ReprRoads
import PyProof.ReprBulk
import PyProof.ZipIter
import PyProof.TupleIter
import PyProof.EqLayable
import PyProof.EnumMake
import PyProof.EnumFor
import PyProof.WalkInts
import PyProof.SeqI3
import PyProof.Rows.SeqJoint
import PyProof.Rows.SortWalk
import PyProof.Rows.Range3
import PySem.Challenge.RW_thirdpoint_k40_fences_let_by_or_not
import PyProof.P3Eq
-- CHANGE: your row's module here, as the last of these rows
set_option Elab.async false
set_option linter.all false
set_option maxRecDepth 100000
/-! THE HAND LAYER, for ints, bools, texts, own classes, LISTS and tuples (index, slices, in, append, pop ..), calls, loops. Paste it whole ahead of your own text; what your proof does not reach may be deleted. -/
namespace L2
open PySem PySem.Spec PyProof.Rows

/-- a key: an int or a str -/
abbrev Key := Sum Int Str
def keyIs : Key → Value → Bool
  | .inl k, v => Value.isInt k v
  | .inr x, v => Value.isStrOf x v
def keyH (w : World) : Key → Int
  | .inl k => hashInt k
  | .inr x => hashStr w x
theorem keyIs_shape : ∀ {k : Key} {v : Value}, keyIs k v = true → (∃ i t, k = Sum.inl i ∧ v = Value.int i t) ∨ (∃ x t, k = Sum.inr x ∧ v = Value.str x t)
  | .inl i, v, h => by
    obtain ⟨t, e⟩ := Value.isInt_shape (k := i) (v := v) h
    exact .inl ⟨i, t, rfl, e⟩
  | .inr x, v, h => by
    obtain ⟨t, e⟩ := Value.isStrOf_shape (x := x) (v := v) h
    exact .inr ⟨x, t, rfl, e⟩
theorem key_ll (a b : Int) : decide ((Sum.inl a : Key) = Sum.inl b) = (a == b) := by
  by_cases e : a = b
  · subst e; simp
  · have h : ¬ (Sum.inl a : Key) = Sum.inl b := fun q => e (Sum.inl.inj q)
    rw [decide_eq_false h]
    exact (beq_eq_false_iff_ne.mpr e).symm
theorem key_rr (a b : Str) : decide ((Sum.inr a : Key) = Sum.inr b) = decide (a = b) := by
  by_cases e : a = b
  · subst e; simp
  · have h : ¬ (Sum.inr a : Key) = Sum.inr b := fun q => e (Sum.inr.inj q)
    rw [decide_eq_false h, decide_eq_false e]
theorem key_lr (a : Int) (b : Str) : decide ((Sum.inl a : Key) = Sum.inr b) = false := decide_eq_false (fun q => nomatch q)
theorem key_rl (a : Str) (b : Int) : decide ((Sum.inr a : Key) = Sum.inl b) = false := decide_eq_false (fun q => nomatch q)

def mixKind (prog : Program) (w : World) : PySem.KeyKind prog w Key where
  is := keyIs
  hash := keyH w
  inj := fun v a b ha hb => by
    rcases keyIs_shape ha with ⟨i, t, rfl, rfl⟩ | ⟨x, t, rfl, rfl⟩
    · rcases keyIs_shape hb with ⟨j, u, rfl, e⟩ | ⟨y, u, rfl, e⟩
      · injection e with e1 _; rw [e1]
      · exact nomatch e
    · rcases keyIs_shape hb with ⟨j, u, rfl, e⟩ | ⟨y, u, rfl, e⟩
      · exact nomatch e
      · injection e with e1 _; rw [e1]
  byValue := fun k v h => by
    rcases keyIs_shape h with ⟨i, t, rfl, rfl⟩ | ⟨x, t, rfl, rfl⟩ <;> rfl
  pyHash := fun hv h => by
    rcases keyIs_shape hv with ⟨i, t, rfl, rfl⟩ | ⟨x, t, rfl, rfl⟩
    · exact wpAny_pyHash_int h
    · exact wpAny_pyHash_str h
  eqBool := fun hu hv h => by
    rcases keyIs_shape hu with ⟨i, t, rfl, rfl⟩ | ⟨x, t, rfl, rfl⟩
    · rcases keyIs_shape hv with ⟨j, u, rfl, rfl⟩ | ⟨y, u, rfl, rfl⟩
      · rw [key_ll] at h; exact wpAny_eqBool_int h
      · rw [key_lr] at h; exact SeqAt.EqAt.int_str i t y u _ _ _ _ h
    · rcases keyIs_shape hv with ⟨j, u, rfl, rfl⟩ | ⟨y, u, rfl, rfl⟩
      · rw [key_rl] at h; exact SeqAt.EqAt.str_int x t j u _ _ _ _ h
      · rw [key_rr] at h; exact wpAny_eqBool_str h
  «strs» := fun k x t v h => by
    rcases keyIs_shape h with ⟨i, u, rfl, e⟩ | ⟨y, u, rfl, e⟩
    · exact nomatch e
    · injection e with e1 _
      subst e1
      cases v <;> rfl

end L2

namespace L2
open PySem PySem.Spec PyProof.Rows

/-- a value, without the heap -/
inductive V where
  | non | bl (b : Bool) | int (i : Int) | str (x : Str) | byt (b : Array UInt8) | flt (b : UInt64) | ref (a : Addr) | ty (n : String)
  deriving DecidableEq

def RelV : V → Value → Prop
  | .non, u => u = Value.none
  | .bl b, u => u = Value.bool b
  | .int i, u => ∃ t, u = Value.int i t
  | .str x, u => ∃ t, u = Value.str x t
  | .byt b, u => ∃ t, u = Value.bytes b t
  | .flt b, u => ∃ t, u = Value.float b t
  | .ref a, u => u = Value.ref a
  | .ty n, u => u = Value.type n

abbrev Vals : List V → List Value → Prop := Paired RelV
theorem Vals.length {xs : List V} {us : List Value} (r : Vals xs us) : xs.length = us.length := Paired.length r
theorem Vals.get : ∀ {xs : List V} {us : List Value} {i : Nat} {x : V}, Vals xs us → xs[i]? = some x → ∃ u, us[i]? = some u ∧ RelV x u
  | _, _, _, _, .nil, e => by simp at e
  | _, _, 0, _, .cons r _, e => by simp at e; subst e; exact ⟨_, rfl, r⟩
  | _, _, i + 1, x, .cons _ t, e => by
    obtain ⟨u, h1, h2⟩ := Vals.get (i := i) (x := x) t (by simpa using e)
    exact ⟨u, by simpa using h1, h2⟩
theorem Vals.set {x : V} {u : Value} (r : RelV x u) : ∀ {xs : List V} {us : List Value} (i : Nat), Vals xs us → Vals (xs.set i x) (us.set i u)
  | _, _, _, .nil => .nil
  | _, _, 0, .cons _ t => .cons r t
  | _, _, i + 1, .cons q t => .cons q (Vals.set r i t)
theorem Vals.append : ∀ {xs ys : List V} {us ws : List Value}, Vals xs us → Vals ys ws → Vals (xs ++ ys) (us ++ ws)
  | _, _, _, _, .nil, s => s
  | _, _, _, _, .cons r t, s => .cons r (Vals.append t s)
theorem Vals.take : ∀ {xs : List V} {us : List Value} (n : Nat), Vals xs us → Vals (xs.take n) (us.take n)
  | _, _, 0, _ => .nil
  | _, _, _ + 1, .nil => .nil
  | _, _, n + 1, .cons r t => .cons r (Vals.take n t)
theorem Vals.drop : ∀ {xs : List V} {us : List Value} (n : Nat), Vals xs us → Vals (xs.drop n) (us.drop n)
  | _, _, 0, r => r
  | _, _, _ + 1, .nil => .nil
  | _, _, n + 1, .cons _ t => Vals.drop n t
theorem Vals.none_of : ∀ {xs : List V} {us : List Value} {i : Nat}, Vals xs us → xs[i]? = none → us[i]? = none := fun {xs us i} r e => by
  have h1 := r.length
  have h2 : xs.length ≤ i := List.getElem?_eq_none_iff.mp e
  exact List.getElem?_eq_none_iff.mpr (by omega)

def RelO : Option V → Option Value → Prop
  | some v, some u => RelV v u
  | none, none => True
  | _, _ => False
def KV {κ : Type} : List (κ × V) → List (κ × Value) → Prop := Paired fun (p : κ × V) (q : κ × Value) => p.1 = q.1 ∧ RelV p.2 q.2

/-- a key of a dict (00_mix): an int or a text -/
def kV : Key → V
  | .inl i => .int i
  | .inr x => .str x

/-- what stands at a tracked address -/
inductive HO where
  /-- a list -/
  | lst (xs : List V)
  /-- a tuple (never changes) -/
  | tup (xs : List V)
  /-- a dict whose keys are ints and texts; one whose keys are tuples of ints and texts (the empty one is both) -/
  | dK (kvs : List (Key × V)) | dT (kvs : List (List Key × V))
  /-- a set of ints: its members, its size -/
  | set (S : Int → Bool) (n : Nat)
  /-- an instance of the class at C, its dict at dx, its attributes -/
  | ins (C dx : Addr) (fs : List (Str × V))
  /-- the dict of the instance at x -/
  | own (x : Addr)
  /-- the dict of an exception -/
  | xd (fs : List (Str × V))
  /-- a bound method, f of x -/
  | met (f x : Addr)
  /-- a range object lo, lo + 1, .. below hi -/
  | rng (lo hi : Int)
  /-- a thing that is known to the object (the script; a dict while a loop walks it): read, never written while it is so -/
  | frz (o : Obj) (u : HO)
  /-- a code object's table -/
  | tbl (ps : Array Value)
  /-- any other thing, by what is true of its one object (a def of one's own: SetO a S n := HO.ext fun h => ..) -/
  | ext (φ : Heap → Prop)

abbrev Hp := Addr → Option HO
def upd (H : Hp) (a : Addr) (o : HO) : Hp := fun b => if b = a then some o else H b
theorem upd_same {H : Hp} {a : Addr} {o : HO} : upd H a o a = some o := by unfold upd; rw [if_pos rfl]
theorem upd_ne {H : Hp} {a b : Addr} {o : HO} (h : b ≠ a) : upd H a o b = H b := by unfold upd; rw [if_neg h]
theorem ne_of_none {H : Hp} {a b : Addr} {o : HO} (h : H a = some o) (h' : H b = none) : a ≠ b := by
  intro e; subst e; rw [h] at h'; cases h'

section
variable (P : Program) (w : World)
def ObjOk (H : Hp) (h : Heap) (a : Addr) : HO → Prop
  | .lst xs => xs.length ≤ sizeLine ∧ ∃ (its : List Value) (n : Nat), Vals xs its ∧ h.get? a = some { cls := .type "list", data := .seq its.toArray n }
  | .tup xs => xs.length ≤ sizeLine ∧ ∃ its : List Value, Vals xs its ∧ IsTup h a its.toArray
  | .dK kvs => kvs.length ≤ sizeLine ∧ (a == sysModules) = false ∧ ∃ vs, KV kvs vs ∧ h.DictOf (mixKind P w) a vs
  | .dT kvs => kvs.length ≤ sizeLine ∧ (a == sysModules) = false ∧ ∃ xs : List (List Key × Addr × Value),
      Paired (fun (p : List Key × V) (q : List Key × Addr × Value) => p.1 = q.1 ∧ H q.2.1 = some (.tup (p.1.map kV)) ∧ RelV p.2 q.2.2) kvs xs ∧
      ∃ o es ep, h.get? a = some o ∧ o.ExactDict ∧ o.data = .dict es ep ∧ es.toList = xs.map (entryOfKey (tupleKind (mixKind P w))) ∧ (xs.map (·.1)).Nodup
  | .set S n => h.SetOf (intKind P w) a S n
  | .ins C dx fs => H dx = some (.own a) ∧ fs.length ≤ 1000 ∧ dx ≠ a ∧ h.get? a = some (PySem.W.instObj C dx) ∧
      ∃ mA, h.Ns1 dx mA ∧ (∀ f, RelO (fs.lookup f) (mA f)) ∧ PySem.Within mA (fs.map (·.1))
  | .own _ => ∃ o, h.get? a = some o
  | .xd fs => ∃ mA, h.Ns1 a mA ∧ ∀ f, RelO (fs.lookup f) (mA f)
  | .rng lo hi => ∃ t u v, h.get? a = some { cls := .type "range", data := .fields #[.int lo t, .int hi u, .int 1 v] }
  | .frz o u => h.get? a = some o ∧ ObjOk H h a u
  | .tbl ps => h.get? a = some { cls := .none, data := .fields ps }
  | .met f x => h.get? a = some (PySem.W.methodObj (.ref f) (.ref x))
  | .ext φ => φ h ∧ (∃ o, h.get? a = some o) ∧ ∀ h1 h2 : Heap, φ h1 → (∀ o, h1.get? a = some o → h2.get? a = some o) → φ h2
/-- the abstract heap is held -/
def HOk (H : Hp) (h : Heap) : Prop := ∀ a o, H a = some o → ObjOk P w H h a o
end

section
variable {P : Program} {w : World} {H H' : Hp} {h h' : Heap} {a : Addr} {o : HO}
theorem ObjOk.lt (x : ObjOk P w H h a o) : a < h.objs.size := by
  cases o with
  | lst xs => obtain ⟨_, _, _, _, e⟩ := x; exact Heap.lt_size e
  | tup xs => obtain ⟨_, _, _, p⟩ := x; exact p.lt
  | dK kvs => obtain ⟨_, _, _, _, o, _, _, e, _⟩ := x; exact Heap.lt_size e
  | dT kvs => obtain ⟨_, _, _, _, o, _, _, e, _⟩ := x; exact Heap.lt_size e
  | set S n => obtain ⟨o, _, _, _, e, _⟩ := x; exact Heap.lt_size e
  | ins C dx fs => obtain ⟨_, _, _, e, _⟩ := x; exact Heap.lt_size e
  | own y => obtain ⟨_, e⟩ := x; exact Heap.lt_size e
  | xd fs => obtain ⟨_, ⟨_, _, _, e, _⟩, _⟩ := x; exact Heap.lt_size e
  | rng lo hi => obtain ⟨_, _, _, e⟩ := x; exact Heap.lt_size e
  | frz ob u => obtain ⟨e, _⟩ := x; exact Heap.lt_size e
  | tbl ps => exact Heap.lt_size (show h.get? a = some _ from x)
  | met f y => exact Heap.lt_size (show h.get? a = some _ from x)
  | ext φ => obtain ⟨_, ⟨_, e⟩, _⟩ := x; exact Heap.lt_size e
theorem Paired.mapP {α β : Type} {F G : α → β → Prop} : ∀ {l₁ : List α} {l₂ : List β}, Paired F l₁ l₂ → (∀ a b, F a b → G a b) → Paired G l₁ l₂
  | _, _, .nil, _ => .nil
  | _, _, .cons r t, f => .cons (f _ _ r) (Paired.mapP t f)
/-- what an object's description leans on: its own object, its own dict, the tuples -/
theorem ObjOk.stay (x : ObjOk P w H h a o) (k : ∀ b u, (b = a ∨ H b = some (.own a)) → h.get? b = some u → h'.get? b = some u)
    (ho : ∀ b, H b = some (.own a) → H' b = some (.own a)) (ht : ∀ b xs, H b = some (.tup xs) → H' b = some (.tup xs)) : ObjOk P w H' h' a o := by
  induction o with
  | lst xs => obtain ⟨z, its, n, r, e⟩ := x; exact ⟨z, its, n, r, k _ _ (.inl rfl) e⟩
  | tup xs => obtain ⟨z, its, r, ob, e, c⟩ := x; exact ⟨z, its, r, ob, k _ _ (.inl rfl) e, c⟩
  | dK kvs => obtain ⟨z, y, vs, r, ob, es, ep, e, c⟩ := x; exact ⟨z, y, vs, r, ob, es, ep, k _ _ (.inl rfl) e, c⟩
  | dT kvs =>
    obtain ⟨z, y, xs, r, ob, es, ep, e, c⟩ := x
    exact ⟨z, y, xs, Paired.mapP r fun p q z => ⟨z.1, ht _ _ z.2.1, z.2.2⟩, ob, es, ep, k _ _ (.inl rfl) e, c⟩
  | set S n => obtain ⟨ob, es, ep, t, e, c⟩ := x; exact ⟨ob, es, ep, t, k _ _ (.inl rfl) e, c⟩
  | ins C dx fs =>
    obtain ⟨d, z, ne, e, mA, ⟨od, es, ep, e2, c⟩, r⟩ := x
    exact ⟨ho _ d, z, ne, k _ _ (.inl rfl) e, mA, ⟨od, es, ep, k _ _ (.inr d) e2, c⟩, r⟩
  | own y => obtain ⟨ob, e⟩ := x; exact ⟨ob, k _ _ (.inl rfl) e⟩
  | xd fs => obtain ⟨mA, ⟨od, es, ep, e, c⟩, r⟩ := x; exact ⟨mA, ⟨od, es, ep, k _ _ (.inl rfl) e, c⟩, r⟩
  | rng lo hi => obtain ⟨t, u, v, e⟩ := x; exact ⟨t, u, v, k _ _ (.inl rfl) e⟩
  | frz ob u ih => obtain ⟨e, q⟩ := x; exact ⟨k _ _ (.inl rfl) e, ih q⟩
  | tbl ps =>
    have e : h.get? a = some { cls := .none, data := .fields ps } := x
    show h'.get? a = some { cls := .none, data := .fields ps }
    exact k a _ (.inl rfl) e
  | met f y =>
    have e : h.get? a = some (PySem.W.methodObj (.ref f) (.ref y)) := x
    show h'.get? a = some (PySem.W.methodObj (.ref f) (.ref y))
    exact k a _ (.inl rfl) e
  | ext φ => obtain ⟨p, ⟨o, e⟩, st⟩ := x; exact ⟨st _ _ p fun o q => k _ _ (.inl rfl) q, ⟨o, k _ _ (.inl rfl) e⟩, st⟩
theorem HOk.lt (x : HOk P w H h) (e : H a = some o) : a < h.objs.size := (x a o e).lt
theorem HOk.fresh (x : HOk P w H h) (e : h.objs.size ≤ a) : H a = none := by
  cases q : H a with
  | none => rfl
  | some u => exact absurd (Nat.lt_of_lt_of_le (x.lt q) e) (Nat.lt_irrefl _)
/-- every object of the heap is kept -/
theorem HOk.kept (x : HOk P w H h) (k : ∀ b u, h.get? b = some u → h'.get? b = some u) : HOk P w H h' := fun a o e =>
  (x a o e).stay (fun b u _ q => k b u q) (fun _ q => q) fun _ _ q => q
/-- a new object is laid and tracked -/
theorem HOk.laid (x : HOk P w H h) (k : ∀ b u, h.get? b = some u → h'.get? b = some u) (hp : h.objs.size ≤ a) (new : ObjOk P w (upd H a o) h' a o) : HOk P w (upd H a o) h' := fun b u e => by
  have hn := x.fresh hp
  by_cases hb : b = a
  · subst hb; rw [upd_same] at e; cases e; exact new
  · rw [upd_ne hb] at e
    exact (x b u e).stay (fun c v _ q => k c v q) (fun c q => by rw [upd_ne (ne_of_none q hn)]; exact q) fun c xs q => by rw [upd_ne (ne_of_none q hn)]; exact q
end

/-- what may be read as u: it is u, or a known u -/
def Rd (H : Hp) (a : Addr) (u : HO) : Prop := H a = some u ∨ ∃ o, H a = some (.frz o u)
theorem Rd.ok {P : Program} {w : World} {H : Hp} {h : Heap} {a : Addr} {u : HO} (r : Rd H a u) (x : HOk P w H h) : ObjOk P w H h a u := by
  rcases r with r | ⟨o, r⟩
  · exact x a u r
  · obtain ⟨_, q⟩ := x a _ r
    exact q
/-- what may be written -/
def Mut : Option HO → Prop
  | some (.lst _) => True
  | some (.dK _) => True
  | some (.dT _) => True
  | some (.set _ _) => True
  | some (.ins _ _ _) => True
  | some (.ext _) => True
  | _ => False
section
variable {P : Program} {w : World} {H : Hp} {h h' : Heap} {x e : Addr} {o' : HO}
/-- the object at e is changed: x itself, or the dict of the instance x -/
theorem HOk.write (ok : HOk P w H h) (mu : Mut (H x)) (he : e = x ∨ H e = some (.own x)) (k : ∀ b u, b ≠ e → h.get? b = some u → h'.get? b = some u) (heo : ∃ u, h'.get? e = some u)
    (new : ObjOk P w (upd H x o') h' x o') : HOk P w (upd H x o') h' := fun b u q => by
  have nown : ∀ c y, H c = some (.own y) → c ≠ x := fun c y r z => by subst z; rw [r] at mu; exact mu
  have ntup : ∀ c xs, H c = some (.tup xs) → c ≠ x := fun c xs r z => by subst z; rw [r] at mu; exact mu
  by_cases hb : b = x
  · subst hb; rw [upd_same] at q; cases q; exact new
  · rw [upd_ne hb] at q
    by_cases hbe : b = e
    · have q' : H b = some (.own x) := by
        rcases he with z | z
        · exact absurd (hbe.trans z) hb
        · rw [hbe]; exact z
      rw [q] at q'; cases q'
      obtain ⟨v, hv⟩ := heo
      exact ⟨v, by rw [hbe]; exact hv⟩
    · refine (ok b u q).stay (fun c v hc r => k c v ?_ r) (fun c r => by rw [upd_ne (nown c b r)]; exact r) fun c xs r => by rw [upd_ne (ntup c xs r)]; exact r
      rcases hc with rfl | hc
      · exact hbe
      · rintro rfl
        rcases he with z | z
        · exact nown c b hc z
        · rw [hc] at z; cases z; exact hb rfl
end

/-! ### kept unless tracked; of the frames at fs (the callers') the slots may change (an exception that passes writes there); of the records at ex (iterators) nothing is said -/
structure Un (fs ex : List Addr) (H H' : Hp) (h h' : Heap) : Prop where
  keep : ∀ b o, h.get? b = some o → H b = none → b ∉ fs → b ∉ ex → h'.get? b = some o
  slot : ∀ b o, h.get? b = some o → H b = none → b ∈ fs → b ∉ ex → ∃ sl, h'.get? b = some { o with slots := sl }
  free : ∀ b o, h.get? b = some o → H b = none → b ∉ ex → H' b = none
  there : ∀ b o, h.get? b = some o → b ∉ ex → ∃ o', h'.get? b = some o'
  tups : ∀ b xs, H b = some (.tup xs) → H' b = some (.tup xs)
  frzs : ∀ b o u, H b = some (.frz o u) → H' b = some (.frz o u)
  tbls : ∀ b ps, H b = some (.tbl ps) → ∃ more, H' b = some (.tbl (ps ++ more))
section
variable {fs fs' ex ex' : List Addr} {H H1 H2 : Hp} {h h1 h2 h' : Heap} {a x e : Addr} {o : HO}
theorem Un.any (u : Un fs ex H H1 h h1) {b : Addr} {ob : Obj} (q : h.get? b = some ob) (n : H b = none) (hx : b ∉ ex) : ∃ sl, h1.get? b = some { ob with slots := sl } := by
  by_cases hb : b ∈ fs
  · exact u.slot b ob q n hb hx
  · exact ⟨ob.slots, u.keep b ob q n hb hx⟩
theorem Un.kept (k : ∀ b u, h.get? b = some u → h'.get? b = some u) : Un fs ex H H h h' :=
  ⟨fun b ob q _ _ _ => k b ob q, fun b ob q _ _ _ => ⟨ob.slots, k b ob q⟩, fun _ _ _ n _ => n, fun b ob q _ => ⟨ob, k b ob q⟩, fun _ _ q => q, fun _ _ _ q => q, fun _ ps q => ⟨#[], by rw [q]; simp⟩⟩
theorem Un.refl : Un fs ex H H h h := Un.kept fun _ _ q => q
theorem Un.laid (k : ∀ b u, h.get? b = some u → h'.get? b = some u) (hp : h.objs.size ≤ a) (hn : H a = none) : Un fs ex H (upd H a o) h h' where
  keep := fun b u q _ _ _ => k b u q
  slot := fun b u q _ _ _ => ⟨u.slots, k b u q⟩
  free := fun b u q n _ => by rw [upd_ne (Nat.ne_of_lt (Nat.lt_of_lt_of_le (Heap.lt_size q) hp))]; exact n
  there := fun b u q _ => ⟨u, k b u q⟩
  tups := fun b xs q => by rw [upd_ne (ne_of_none q hn)]; exact q
  frzs := fun b u xs q => by rw [upd_ne (ne_of_none q hn)]; exact q
  tbls := fun b ps q => ⟨#[], by rw [upd_ne (ne_of_none q hn), q]; simp⟩
theorem Un.write (mu : Mut (H x)) (he : e = x ∨ H e = some (.own x)) (k : ∀ b u, b ≠ e → h.get? b = some u → h'.get? b = some u) (heo : ∃ u, h'.get? e = some u) : Un fs ex H (upd H x o) h h' := by
  have hx : ∀ b, H b = none → b ≠ x := fun b n z => by subst z; rw [n] at mu; exact mu
  have hb : ∀ b, H b = none → b ≠ e := fun b n z => by
    subst z
    rcases he with r | r
    · exact hx b n r
    · rw [n] at r; cases r
  have hm : ∀ b u, H b = some u → ¬ Mut (some u) → b ≠ x := fun b u q nm z => by subst z; rw [q] at mu; exact nm mu
  refine ⟨fun b u q n _ _ => k b u (hb b n) q, fun b u q n _ _ => ⟨u.slots, k b u (hb b n) q⟩, fun b u q n _ => by rw [upd_ne (hx b n)]; exact n, fun b u q _ => ?_,
    fun b xs q => by rw [upd_ne (hm b _ q fun z => z)]; exact q, fun b u xs q => by rw [upd_ne (hm b _ q fun z => z)]; exact q, fun b ps q => ⟨#[], by rw [upd_ne (hm b _ q fun z => z), q]; simp⟩⟩
  by_cases hbe : b = e
  · subst hbe; exact heo
  · exact ⟨u, k b u hbe q⟩
end

/-! ### the heap without what is tracked -/
def trk (h : Heap) (H : Hp) : List Addr := (List.range h.objs.size).filter fun a => (H a).isSome
def hidT (h : Heap) (H : Hp) : Heap := PySem.W.hideAll h (trk h H)
theorem hidT_size (h : Heap) (H : Hp) : (hidT h H).objs.size = h.objs.size := PySem.W.hideAll_size _ _
theorem hidT_get {h : Heap} {H : Hp} {b : Addr} {o : Obj} (e : h.get? b = some o) (n : H b = none) : (hidT h H).get? b = some o :=
  PySem.W.hideAll_get _ e fun hm => by
    have q : (H b).isSome = true := (List.mem_filter.mp hm).2
    rw [n] at q; simp at q
theorem of_hidT {h : Heap} {H : Hp} {b : Addr} {o : Obj} (e : (hidT h H).get? b = some o) : h.get? b = some o ∧ H b = none := by
  have e' : h.get? b = some o := PySem.W.of_hideAll (trk h H) e
  refine ⟨e', ?_⟩
  cases q : H b with
  | none => rfl
  | some x =>
    have hm : b ∈ trk h H := List.mem_filter.mpr ⟨List.mem_range.mpr (Heap.lt_size e'), by simp [q]⟩
    have z : (hidT h H).get? b = none := PySem.W.hideAll_none (trk h H) hm
    rw [z] at e; cases e

/-! ### OpenK's ledger, filled with every new object but one -/
end L2

namespace L2
open PySem PySem.Spec PyProof.Rows

/-- the module's facts, over the base: the heap at the law's entry without what is tracked there -/
structure Mod (K : PySem.W.Frag) (mg : Str → Option Value) (base : Heap) : Prop where
  kin : K.In base
  glob : base.Ns mainGlobals mg
  blt : ∃ mb, base.Ns builtinsNs mb ∧ ∀ x : Str, x ≠ "__name__" → mb x = bootBuiltins x
  nolimit : base.NoLimit

/-- the context: a def's body (or a comprehension's block) running. base: fixed through the whole law; s₀, H₀: the entry; outer: the frames whose slots others may change (a def's callers); stack: all frames that run;
   ex: iterators that were made ahead of the entry and are walked here (a comprehension's); fn: the names whose cells were made at the entry (a def: all; a comprehension's block: its own); calm: not within an except suite; pn: pins that every state bears; xe: what is wanted of an exception that leaves the code -/
structure Cx where
  prog : Program
  w : World
  K : PySem.W.Frag
  mg : Str → Option Value
  base : Heap
  A : Around
  N : List Str
  s₀ : Shared
  H₀ : Hp
  env : Env
  outer : List Env
  stack : List Env
  ex : List Addr
  fn : Str → Bool
  calm : Bool
  pn : List (Addr × Obj)
  xe : Value → Shared → Prop
/-- the callers' frames -/
def frs (l : List Env) : List Addr := l.filterMap (·.frame)
abbrev Cx.fs (X : Cx) : List Addr := frs X.outer

def Vis (sc : Scope) (x : Str) : Prop := sc.names.lookup x = some .local ∨ sc.names.lookup x = some .cell ∨ sc.names.lookup x = some .free
def Loc (sc : Scope) (x : Str) : Prop := sc.names.lookup x = some .local ∨ sc.names.lookup x = some .cell
def Look (env : Env) (h : Heap) (m : Str → Option Value) (x : Str) (u : Value) : Prop :=
  (env.kindOf x = some .local ∧ m x = some u) ∨ ((env.kindOf x = some .cell ∨ env.kindOf x = some .free) ∧ ∃ c, env.cells.lookup x = some c ∧ h.IsCell c (some u))

structure Cx.Ok (X : Cx) : Prop where
  mod : Mod X.K X.mg X.base
  kind : X.env.scope.kind = .function
  glob : X.env.globals = mainGlobals
  blt : X.env.builtins = builtinsNs
  above : X.s₀.heap.objs.size ≤ X.env.locals
  inj : ∀ x y c, X.env.cells.lookup x = some c → X.env.cells.lookup y = some c → x = y
  has : ∀ x, (X.env.kindOf x = some .cell ∨ X.env.kindOf x = some .free) → ∃ c, X.env.cells.lookup x = some c
  cab : ∀ x c, X.fn x = true → X.env.cells.lookup x = some c → X.s₀.heap.objs.size ≤ c
  hd : X.calm = true → X.A.handled = none
  frames : X.A.frames = some X.stack
  stk : X.stack = X.outer ∨ (X.stack = X.env :: X.outer ∧ X.env.frame = some X.env.locals)
  exf : ∀ b ∈ X.ex, b ≠ X.env.locals ∧ ∀ x c, X.env.cells.lookup x = some c → c ≠ b
  bs : ∀ b o, X.base.get? b = some o → X.s₀.heap.get? b = some o ∧ X.H₀ b = none
  bsz : X.base.objs.size ≤ X.s₀.heap.objs.size
  noex : ∀ b o, X.base.get? b = some o → b ∉ X.ex
  exfs : ∀ b ∈ X.ex, b ∉ X.fs
  funs : X.s₀.heap.FunFrames X.base X.outer
  frf : ∀ b ∈ X.fs, X.H₀ b = none

structure Inv (X : Cx) (pins : List (Addr × Obj)) (σ : List (Option V)) (H : Hp) (s : Shared) : Prop where
  ok : X.Ok
  os : s.os = X.s₀.os
  bare : AllBare s.gens
  base : Un X.fs X.ex X.H₀ H X.s₀.heap s.heap
  loc : ∃ m, s.heap.Ns X.env.locals m ∧ ∀ (i : Nat) (x : Str) (v : V), X.N[i]? = some x → σ[i]? = some (some v) → Vis X.env.scope x → ∃ u, RelV v u ∧ Look X.env s.heap m x u
  cell : ∀ x c, X.env.cells.lookup x = some c → ∃ v, s.heap.IsCell c v
  free : H X.env.locals = none
  freeC : ∀ x c, X.env.cells.lookup x = some c → H c = none
  pin : ∀ p ∈ X.pn ++ pins, s.heap.get? p.1 = some p.2 ∧ H p.1 = none ∧ p.1 ≠ X.env.locals ∧ p.1 ∉ X.fs ∧ ∀ v, p.2.data ≠ .cell v
  hok : HOk X.prog X.w H s.heap
  len : σ.length = X.N.length

section
variable {X : Cx} {pins : List (Addr × Obj)} {σ : List (Option V)} {H H' : Hp} {s : Shared} {h' : Heap}

theorem Cx.Ok.nofr (ok : X.Ok) {b : Addr} {o : Obj} (e : X.base.get? b = some o) : b ∉ X.fs := fun hb => by
  have := (ok.funs.mem hb).1
  rw [e] at this; cases this
theorem Inv.bs (I : Inv X pins σ H s) : ∀ b o, X.base.get? b = some o → s.heap.get? b = some o ∧ H b = none := fun b o e =>
  ⟨I.base.keep b o (I.ok.bs b o e).1 (I.ok.bs b o e).2 (I.ok.nofr e) (I.ok.noex b o e), I.base.free b o (I.ok.bs b o e).1 (I.ok.bs b o e).2 (I.ok.noex b o e)⟩
theorem Inv.bk (I : Inv X pins σ H s) : ∀ b o, X.base.get? b = some o → s.heap.get? b = some o := fun b o e => (I.bs b o e).1
theorem Inv.mod (I : Inv X pins σ H s) : Mod X.K X.mg X.base := I.ok.mod
theorem Inv.kIn (I : Inv X pins σ H s) : X.K.In s.heap := I.ok.mod.kin.keeps I.bk
theorem Inv.lt (I : Inv X pins σ H s) : X.env.locals < s.heap.objs.size := let ⟨_, hn, _⟩ := I.loc; hn.lt
theorem Inv.sz (I : Inv X pins σ H s) : X.s₀.heap.objs.size ≤ s.heap.objs.size := Nat.le_trans I.ok.above (Nat.le_of_lt I.lt)
theorem Inv.nofs (I : Inv X pins σ H s) {a : Addr} (h : s.heap.objs.size ≤ a) : a ∉ X.fs := fun hb => by
  obtain ⟨_, o, ho, _⟩ := I.ok.funs.mem hb
  exact absurd (Nat.lt_of_lt_of_le (Heap.lt_size ho) (Nat.le_trans I.sz h)) (Nat.lt_irrefl _)
theorem Inv.cne (I : Inv X pins σ H s) : ∀ x c, X.env.cells.lookup x = some c → c ≠ X.env.locals := fun x c e z => by
  obtain ⟨v, o, ho, hd⟩ := I.cell x c e
  obtain ⟨m, ⟨o', es, ep, ho', hd', _⟩, _⟩ := I.loc
  rw [z, ho'] at ho; cases ho; rw [hd'] at hd; cases hd
theorem Inv.funs (I : Inv X pins σ H s) : s.heap.FunFrames X.base X.outer := by
  have all : ∀ (l : List Env), (∀ b ∈ frs l, b ∈ X.fs) → X.s₀.heap.FunFrames X.base l → s.heap.FunFrames X.base l := by
    intro l
    induction l with
    | nil => intro _ _; trivial
    | cons env r ih =>
      intro hs hl
      obtain ⟨hk, ⟨L, o, hf, hn, ho, hd⟩, hr⟩ := hl
      have hL : L ∈ X.fs := hs L (by unfold frs; rw [List.filterMap_cons, hf]; exact List.mem_cons_self)
      obtain ⟨sl, e⟩ := I.base.slot L o ho (I.ok.frf L hL) hL fun z => I.ok.exfs L z hL
      exact ⟨hk, ⟨L, _, hf, hn, e, hd⟩, ih (fun b hb => hs b (by unfold frs; rw [List.filterMap_cons, hf]; exact List.mem_cons_of_mem _ hb)) hr⟩
  exact all X.outer (fun _ hb => hb) I.ok.funs

/-- the frames that run, for a call -/
theorem Inv.stack (I : Inv X pins σ H s) : s.heap.FunFrames X.base X.stack := by
  rcases I.ok.stk with e | ⟨e, hf⟩
  · rw [e]; exact I.funs
  · rw [e]
    obtain ⟨m, hn, _⟩ := I.loc
    refine .cons (by rw [I.ok.kind]; decide) hf hn ?_ I.funs
    exact Heap.get?_none_of_le (Nat.le_trans I.ok.bsz I.ok.above)
theorem Inv.stkSub (I : Inv X pins σ H s) : ∀ b ∈ frs X.stack, b ∈ X.env.locals :: X.fs := fun b hb => by
  rcases I.ok.stk with e | ⟨e, hf⟩
  · rw [e] at hb; exact List.mem_cons_of_mem _ hb
  · rw [e] at hb
    unfold frs at hb
    rw [List.filterMap_cons, hf] at hb
    exact hb
theorem Inv.stkFree (I : Inv X pins σ H s) : ∀ b ∈ frs X.stack, H b = none := fun b hb => by
  rcases List.mem_cons.mp (I.stkSub b hb) with e | hb
  · rw [e]; exact I.free
  · obtain ⟨_, o, ho, _⟩ := I.ok.funs.mem hb
    exact I.base.free b o ho (I.ok.frf b hb) fun z => I.ok.exfs b z hb

/-- THE STEP: the untracked objects but the frame and the records at ch are kept (the callers' frames up to slots), the frame's map is kept, the new abstract heap is held -/
theorem Inv.step {g' : Array GenState} {t' : Nat} {d' : Drawn} {ch : List Addr} (I : Inv X pins σ H s)
    (hch : ∀ b ∈ ch, (b ∈ X.ex ∨ X.s₀.heap.objs.size ≤ b) ∧ b ≠ X.env.locals ∧ (∀ x c, X.env.cells.lookup x = some c → c ≠ b) ∧ ∀ p ∈ X.pn ++ pins, p.1 ≠ b)
    (keep : ∀ b o, b ≠ X.env.locals → b ∉ X.fs → b ∉ ch → s.heap.get? b = some o → H b = none → h'.get? b = some o)
    (slot : ∀ b o, b ≠ X.env.locals → b ∈ X.fs → b ∉ ch → s.heap.get? b = some o → H b = none → ∃ sl, h'.get? b = some { o with slots := sl }) (free : ∀ b o, b ∉ ch → s.heap.get? b = some o → H b = none → H' b = none)
    (there : ∀ b o, b ∉ ch → s.heap.get? b = some o → ∃ o', h'.get? b = some o')
    (tups : ∀ b xs, H b = some (.tup xs) → H' b = some (.tup xs)) (frzs : ∀ b o u, H b = some (.frz o u) → H' b = some (.frz o u)) (tbls : ∀ b ps, H b = some (.tbl ps) → ∃ more, H' b = some (.tbl (ps ++ more)))
    (ns : ∀ m, s.heap.Ns X.env.locals m → h'.Ns X.env.locals m) (hok : HOk X.prog X.w H' h') (hg : AllBare g') :
    Inv X pins σ H' { s with heap := h', gens := g', drawn := d', toks := t' } := by
  have neL : ∀ b o, X.s₀.heap.get? b = some o → b ≠ X.env.locals := fun b o e => Nat.ne_of_lt (Nat.lt_of_lt_of_le (Heap.lt_size e) I.ok.above)
  have neC : ∀ b o, X.s₀.heap.get? b = some o → b ∉ X.ex → b ∉ ch := fun b o e hx hb => by
    rcases (hch b hb).1 with z | z
    · exact hx z
    · exact absurd (Nat.lt_of_lt_of_le (Heap.lt_size e) z) (Nat.lt_irrefl _)
  have cellK : ∀ x c, X.env.cells.lookup x = some c → ∀ v, s.heap.IsCell c v → h'.IsCell c v := fun x c e v ⟨o, ho, hd⟩ => by
    have nch : c ∉ ch := fun z => (hch c z).2.2.1 x c e rfl
    by_cases hc : c ∈ X.fs
    · obtain ⟨sl, q⟩ := slot c o (I.cne x c e) hc nch ho (I.freeC x c e)
      exact ⟨_, q, hd⟩
    · exact ⟨o, keep c o (I.cne x c e) hc nch ho (I.freeC x c e), hd⟩
  refine ⟨I.ok, I.os, hg, ⟨fun b o e n hb hx => ?_, fun b o e n hb hx => ?_, fun b o e n hx => ?_, fun b o e hx => ?_, fun b xs e => tups b xs (I.base.tups b xs e), fun b o xs e => frzs b o xs (I.base.frzs b o xs e), fun b ps e => ?_⟩, ?_, fun x c e => ?_, ?_, fun x c e => ?_, fun p hp => ?_, hok, I.len⟩
  · exact keep b o (neL b o e) hb (neC b o e hx) (I.base.keep b o e n hb hx) (I.base.free b o e n hx)
  · obtain ⟨sl, e1⟩ := I.base.slot b o e n hb hx
    obtain ⟨sl', e2⟩ := slot b _ (neL b o e) hb (neC b o e hx) e1 (I.base.free b o e n hx)
    exact ⟨sl', e2⟩
  · obtain ⟨o', e1⟩ := I.base.there b o e hx
    exact free b o' (neC b o e hx) e1 (I.base.free b o e n hx)
  · obtain ⟨o', e1⟩ := I.base.there b o e hx
    exact there b o' (neC b o e hx) e1
  · obtain ⟨m1, e1⟩ := I.base.tbls b ps e
    obtain ⟨m2, e2⟩ := tbls b _ e1
    exact ⟨m1 ++ m2, by rw [e2, Array.append_assoc]⟩
  · obtain ⟨m, hn, hl⟩ := I.loc
    refine ⟨m, ns m hn, fun i x v e1 e2 e3 => ?_⟩
    obtain ⟨u, r, l⟩ := hl i x v e1 e2 e3
    refine ⟨u, r, ?_⟩
    rcases l with l | ⟨k, c, e, z⟩
    · exact .inl l
    · exact .inr ⟨k, c, e, cellK x c e _ z⟩
  · obtain ⟨v, z⟩ := I.cell x c e
    exact ⟨v, cellK x c e v z⟩
  · obtain ⟨m, ⟨o, _, _, ho, _⟩, _⟩ := I.loc
    exact free _ o (fun z => (hch _ z).2.1 rfl) ho I.free
  · obtain ⟨v, o, ho, hd⟩ := I.cell x c e
    exact free c o (fun z => (hch c z).2.2.1 x c e rfl) ho (I.freeC x c e)
  · obtain ⟨e, n, ne, nf, d⟩ := I.pin p hp
    have nch : p.1 ∉ ch := fun z => (hch p.1 z).2.2.2 p hp rfl
    exact ⟨keep p.1 p.2 ne nf nch e n, free p.1 p.2 nch e n, ne, nf, d⟩
/-- .. where the frame's own object is kept too -/
theorem Inv.un {t' : Nat} (I : Inv X pins σ H s) (u : Un X.fs [] H H' s.heap h') (hok : HOk X.prog X.w H' h') : Inv X pins σ H' { s with heap := h', toks := t' } := by
  obtain ⟨m, ⟨o, es, ep, ho, r⟩, _⟩ := id I.loc
  obtain ⟨sl, hL⟩ := u.any ho I.free (by simp)
  exact I.step (g' := s.gens) (d' := s.drawn) (ch := []) (fun _ z => nomatch z) (fun b o _ hb _ e n => u.keep b o e n hb (by simp)) (fun b o _ hb _ e n => u.slot b o e n hb (by simp)) (fun b o _ e n => u.free b o e n (by simp)) (fun b o _ e => u.there b o e (by simp)) u.tups u.frzs u.tbls (fun m' hm => by
    obtain ⟨o', es', ep', ho', r'⟩ := hm
    rw [ho] at ho'; cases ho'
    exact ⟨_, es', ep', hL, r'⟩) hok I.bare
/-- behind a call (or a comprehension's block): the slots of this frame may have changed too, the records at ch may have turned -/
theorem Inv.call {g' : Array GenState} {t' : Nat} {d' : Drawn} {ch : List Addr} (I : Inv X pins σ H s) (u : Un (frs X.stack) ch H H' s.heap h') (hok : HOk X.prog X.w H' h') (hg : AllBare g')
    (hch : ∀ b ∈ ch, (b ∈ X.ex ∨ X.s₀.heap.objs.size ≤ b) ∧ b ≠ X.env.locals ∧ (∀ x c, X.env.cells.lookup x = some c → c ≠ b) ∧ ∀ p ∈ X.pn ++ pins, p.1 ≠ b) :
    Inv X pins σ H' { s with heap := h', gens := g', drawn := d', toks := t' } := by
  obtain ⟨m, ⟨o, es, ep, ho, r⟩, _⟩ := id I.loc
  obtain ⟨sl, hL⟩ := u.any ho I.free fun z => (hch _ z).2.1 rfl
  exact I.step (ch := ch) hch (fun b o hL hb hc e n => u.keep b o e n (fun z => (List.mem_cons.mp (I.stkSub b z)).elim hL hb) hc) (fun b o _ _ hc e n => u.any e n hc) (fun b o hc e n => u.free b o e n hc) (fun b o hc e => u.there b o e hc) u.tups u.frzs u.tbls (fun m' hm => by
    obtain ⟨o', es', ep', ho', r'⟩ := hm
    rw [ho] at ho'; cases ho'
    exact ⟨_, es', ep', hL, r'⟩) hok hg
/-- an untracked record of ours (an iterator) has turned -/
theorem Inv.turned {t' : Nat} {it : Addr} (I : Inv X pins σ H s) (k : ∀ b o, b ≠ it → s.heap.get? b = some o → h'.get? b = some o) (hn : H it = none) (hL : it ≠ X.env.locals)
    (h1 : it ∈ X.ex ∨ X.s₀.heap.objs.size ≤ it) (h2 : ∀ x c, X.env.cells.lookup x = some c → c ≠ it) (h3 : ∀ p ∈ X.pn ++ pins, p.1 ≠ it) : Inv X pins σ H { s with heap := h', toks := t' } := by
  have nit : ∀ b u, H b = some u → b ≠ it := fun b u e z => by rw [z, hn] at e; cases e
  refine I.step (g' := s.gens) (d' := s.drawn) (ch := [it]) (fun b hb => ?_) (fun b o _ _ hc e _ => k b o (fun z => hc (by simp [z])) e) (fun b o _ _ hc e _ => ⟨o.slots, k b o (fun z => hc (by simp [z])) e⟩) (fun _ _ _ _ n => n)
    (fun b o hc e => ⟨o, k b o (fun z => hc (by simp [z])) e⟩) (fun _ _ e => e) (fun _ _ _ e => e) (fun b ps e => ⟨#[], by rw [e]; simp⟩) (fun m hm => ?_) (fun b u e => ?_) I.bare
  · have e : b = it := by simpa using hb
    subst e
    exact ⟨h1, hL, h2, h3⟩
  · obtain ⟨o, es, ep, ho, r⟩ := hm
    exact ⟨o, es, ep, k _ o (Ne.symm hL) ho, r⟩
  · refine (I.hok b u e).stay (fun c v hc q => k c v ?_ q) (fun _ q => q) fun _ _ q => q
    rcases hc with z | z
    · rw [z]; exact nit b u e
    · exact nit c _ z
theorem Inv.tok (I : Inv X pins σ H s) (t : Nat) : Inv X pins σ H { s with toks := t } := I.un (h' := s.heap) (t' := t) Un.refl I.hok
/-- all objects kept -/
theorem Inv.kept {t' : Nat} (I : Inv X pins σ H s) (k : ∀ b u, s.heap.get? b = some u → h'.get? b = some u) : Inv X pins σ H { s with heap := h', toks := t' } := I.un (Un.kept k) (I.hok.kept k)
/-- a new object laid and tracked -/
theorem Inv.laid {a : Addr} {o : HO} {t' : Nat} (I : Inv X pins σ H s) (k : ∀ b u, s.heap.get? b = some u → h'.get? b = some u) (hp : s.heap.objs.size ≤ a) (new : ObjOk X.prog X.w (upd H a o) h' a o) :
    Inv X pins σ (upd H a o) { s with heap := h', toks := t' } := I.un (Un.laid k hp (I.hok.fresh hp)) (I.hok.laid k hp new)
/-- an object written -/
theorem Inv.write {x e : Addr} {o : HO} {t' : Nat} (I : Inv X pins σ H s) (mu : Mut (H x)) (he : e = x ∨ H e = some (.own x)) (k : ∀ b u, b ≠ e → s.heap.get? b = some u → h'.get? b = some u) (heo : ∃ u, h'.get? e = some u)
    (new : ObjOk X.prog X.w (upd H x o) h' x o) : Inv X pins σ (upd H x o) { s with heap := h', toks := t' } := I.un (Un.write mu he k heo) (I.hok.write mu he k heo new)
/-- forgetting slots, pins -/
theorem Inv.weak {σ' : List (Option V)} (I : Inv X pins σ H s) (hl : σ'.length = σ.length) (w : ∀ (i : Nat) v, σ'[i]? = some (some v) → σ[i]? = some (some v)) : Inv X pins σ' H s :=
  ⟨I.ok, I.os, I.bare, I.base, let ⟨m, hn, hl'⟩ := I.loc; ⟨m, hn, fun i x v e1 e2 e3 => hl' i x v e1 (w i v e2) e3⟩, I.cell, I.free, I.freeC, I.pin, I.hok, hl.trans I.len⟩
theorem Inv.pins_of {pins' : List (Addr × Obj)} (I : Inv X pins σ H s) (h : ∀ p ∈ pins', s.heap.get? p.1 = some p.2 ∧ H p.1 = none ∧ p.1 ≠ X.env.locals ∧ p.1 ∉ X.fs ∧ ∀ v, p.2.data ≠ .cell v) : Inv X pins' σ H s :=
  ⟨I.ok, I.os, I.bare, I.base, I.loc, I.cell, I.free, I.freeC, fun p hp => (List.mem_append.mp hp).elim (fun z => I.pin p (List.mem_append_left _ z)) (h p), I.hok, I.len⟩

theorem nodup_ix {N : List Str} (hN : N.Nodup) {i j : Nat} {x : Str} (a : N[i]? = some x) (b : N[j]? = some x) : i = j := by
  obtain ⟨h1, e1⟩ := List.getElem?_eq_some_iff.mp a
  obtain ⟨h2, e2⟩ := List.getElem?_eq_some_iff.mp b
  exact (List.getElem_inj hN).mp (e1.trans e2.symm)

/-- a name is stored; what changed -/
theorem store_ok2 {M : Model} {A : Around} {E : Value → Shared → Prop} {i : Nat} {x : Str} {v : V} {u : Value} {Q : Unit → Shared → Prop} (I : Inv X pins σ H s) (hN : X.N.Nodup) (hi : X.N[i]? = some x) (hx : Loc X.env.scope x) (r : RelV v u)
    (h : ∀ s', Inv X pins (σ.set i (some v)) H s' → (∃ a, Heap.SameBut a s.heap s'.heap ∧ (a = X.env.locals ∨ X.env.cells.lookup x = some a)) → Q () s') (hf : X.fn x = true ∨ X.env.scope.names.lookup x = some .local := by first | exact .inl rfl | exact .inr rfl | assumption) : wpAny M A (storeName X.env x u) Q E s := by
  obtain ⟨m, hn, hl⟩ := id I.loc
  have hcls : (X.env.scope.kind == .class || (X.env.scope.kind == .module && X.env.locals != X.env.globals)) = false := by rw [I.ok.kind]; rfl
  have hiσ : i < σ.length := by rw [I.len]; exact (List.getElem?_eq_some_iff.mp hi).1
  have cne := I.cne
  have tracked : ∀ {a : Addr} {h' : Heap}, (∃ o, s.heap.get? a = some o ∧ H a = none) → Heap.SameBut a s.heap h' → HOk X.prog X.w H h' := fun {a h'} ha hs b ob e => by
    obtain ⟨_, _, hfree⟩ := ha
    refine (I.hok b ob e).stay (fun c w' hc q => (hs.2 c ?_).trans q) (fun _ q => q) fun _ _ q => q
    rintro rfl
    rcases hc with rfl | hc
    · rw [hfree] at e; cases e
    · rw [hfree] at hc; cases hc
  rcases hx with hk | hk
  · refine wpAny_storeName_local hk hn (fun h' hn' hs => ?_) hcls
    obtain ⟨oL, _, _, hoL, _⟩ := id hn
    refine h _ ⟨I.ok, I.os, I.bare, ⟨fun b o e n hb hx => ?_, fun b o e n hb hx => ?_, I.base.free, fun b o e hx => ?_, I.base.tups, I.base.frzs, I.base.tbls⟩, ⟨_, hn', fun j y v' e1 e2 e3 => ?_⟩, fun y c e => ?_, I.free, I.freeC, fun p hp => ?_, tracked ⟨oL, hoL, I.free⟩ hs, by simpa using I.len⟩ ⟨_, hs, .inl rfl⟩
    · exact (hs.2 b (Nat.ne_of_lt (Nat.lt_of_lt_of_le (Heap.lt_size e) I.ok.above))).trans (I.base.keep b o e n hb hx)
    · obtain ⟨sl, e1⟩ := I.base.slot b o e n hb hx
      exact ⟨sl, (hs.2 b (Nat.ne_of_lt (Nat.lt_of_lt_of_le (Heap.lt_size e) I.ok.above))).trans e1⟩
    · obtain ⟨o', e1⟩ := I.base.there b o e hx
      exact ⟨o', (hs.2 b (Nat.ne_of_lt (Nat.lt_of_lt_of_le (Heap.lt_size e) I.ok.above))).trans e1⟩
    · by_cases hj : j = i
      · subst hj
        rw [hi] at e1; cases e1
        rw [List.getElem?_set_self hiσ] at e2
        cases e2
        exact ⟨u, r, .inl ⟨hk, by simp⟩⟩
      · rw [List.getElem?_set_ne (Ne.symm hj)] at e2
        obtain ⟨u', r', q⟩ := hl j y v' e1 e2 e3
        refine ⟨u', r', ?_⟩
        rcases q with ⟨k, e⟩ | ⟨k, c, e, z⟩
        · refine .inl ⟨k, ?_⟩
          have : y ≠ x := fun e => hj (nodup_ix hN e1 (e ▸ hi))
          simp [this, e]
        · exact .inr ⟨k, c, e, z.sameBut hs (cne y c e)⟩
    · obtain ⟨w', z⟩ := I.cell y c e
      exact ⟨w', z.sameBut hs (cne y c e)⟩
    · obtain ⟨e, n, ne, nf, d⟩ := I.pin p hp
      exact ⟨(hs.2 p.1 ne).trans e, n, ne, nf, d⟩
  · have hfn : X.fn x = true := by
      rcases hf with z | z
      · exact z
      · rw [z] at hk; cases hk
    obtain ⟨c, hc⟩ := I.ok.has x (.inl hk)
    obtain ⟨w', z⟩ := I.cell x c hc
    refine wpAny_storeName_cell I.ok.kind hk hc z (fun h' hc' hs => ?_)
    obtain ⟨oc, hoc, hocd⟩ := id z
    refine h { s with heap := h' } ⟨I.ok, I.os, I.bare, ⟨fun b o e n hb hx => ?_, fun b o e n hb hx => ?_, I.base.free, fun b o e hx => ?_, I.base.tups, I.base.frzs, I.base.tbls⟩, ⟨m, hn.sameBut hs (Ne.symm (cne x c hc)), fun j y v' e1 e2 e3 => ?_⟩, fun y c' e => ?_, I.free, I.freeC, fun p hp => ?_, tracked ⟨oc, hoc, I.freeC x c hc⟩ hs, by simpa using I.len⟩ ⟨c, hs, .inr hc⟩
    · exact (hs.2 b (Nat.ne_of_lt (Nat.lt_of_lt_of_le (Heap.lt_size e) (I.ok.cab x c hfn hc)))).trans (I.base.keep b o e n hb hx)
    · obtain ⟨sl, e1⟩ := I.base.slot b o e n hb hx
      exact ⟨sl, (hs.2 b (Nat.ne_of_lt (Nat.lt_of_lt_of_le (Heap.lt_size e) (I.ok.cab x c hfn hc)))).trans e1⟩
    · obtain ⟨o', e1⟩ := I.base.there b o e hx
      exact ⟨o', (hs.2 b (Nat.ne_of_lt (Nat.lt_of_lt_of_le (Heap.lt_size e) (I.ok.cab x c hfn hc)))).trans e1⟩
    · by_cases hj : j = i
      · subst hj
        rw [hi] at e1; cases e1
        rw [List.getElem?_set_self hiσ] at e2
        cases e2
        exact ⟨u, r, .inr ⟨.inl hk, c, hc, hc'⟩⟩
      · rw [List.getElem?_set_ne (Ne.symm hj)] at e2
        obtain ⟨u', r', q⟩ := hl j y v' e1 e2 e3
        refine ⟨u', r', ?_⟩
        rcases q with q | ⟨k, c', e, z'⟩
        · exact .inl q
        · refine .inr ⟨k, c', e, z'.sameBut hs ?_⟩
          rintro rfl
          exact hj (nodup_ix hN e1 (I.ok.inj _ _ _ e hc ▸ hi))
    · by_cases hcc : c' = c
      · subst hcc; exact ⟨_, hc'⟩
      · obtain ⟨w2, z2⟩ := I.cell y c' e
        exact ⟨w2, z2.sameBut hs hcc⟩
    · obtain ⟨e, n, ne, nf, d⟩ := I.pin p hp
      refine ⟨(hs.2 p.1 ?_).trans e, n, ne, nf, d⟩
      intro q
      rw [q, hoc] at e
      have q' : oc = p.2 := Option.some.inj e
      exact d w' (by rw [← q']; exact hocd)
theorem store_ok {M : Model} {A : Around} {E : Value → Shared → Prop} {i : Nat} {x : Str} {v : V} {u : Value} {Q : Unit → Shared → Prop} (I : Inv X pins σ H s) (hN : X.N.Nodup) (hi : X.N[i]? = some x) (hx : Loc X.env.scope x) (r : RelV v u)
    (h : ∀ s', Inv X pins (σ.set i (some v)) H s' → Q () s') (hf : X.fn x = true ∨ X.env.scope.names.lookup x = some .local := by first | exact .inl rfl | exact .inr rfl | assumption) : wpAny M A (storeName X.env x u) Q E s :=
  store_ok2 I hN hi hx r (fun s' I' _ => h s' I') hf
/-- behind a call or a block, the state as it is -/
theorem Inv.call' {s' : Shared} {ch : List Addr} (I : Inv X pins σ H s) (ho : s'.os = s.os) (u : Un (frs X.stack) ch H H' s.heap s'.heap) (hok : HOk X.prog X.w H' s'.heap) (hg : AllBare s'.gens)
    (hch : ∀ b ∈ ch, (b ∈ X.ex ∨ X.s₀.heap.objs.size ≤ b) ∧ b ≠ X.env.locals ∧ (∀ x c, X.env.cells.lookup x = some c → c ≠ b) ∧ ∀ p ∈ X.pn ++ pins, p.1 ≠ b) : Inv X pins σ H' s' := by
  obtain ⟨h', g', d', t', o'⟩ := s'
  have e : o' = s.os := ho
  subst e
  exact I.call (g' := g') (t' := t') (d' := d') u hok hg hch
end

/-! ### the judgements -/
/-- an exception: its class, its own dict's address (where it has one), the abstract heap behind it -/
abbrev XK := Value → Option Addr → Hp → Prop
abbrev St := List (Option V)
abbrev VK := V → Hp → Prop
/-- an expression's reading; a test's; an argument list's -/
abbrev TE := St → Hp → VK → Prop
abbrev TT := St → Hp → (Bool → Hp → Prop) → Prop
abbrev TA := St → Hp → (List V → Hp → Prop) → Prop
/-- what is wanted behind a statement -/
structure Ends where
  nx : St → Hp → Prop
  rt : VK
  bk : St → Hp → Prop := fun _ _ => False
  ct : St → Hp → Prop := fun _ _ => False
abbrev TS := Ends → St → Hp → Prop

def EP (X : Cx) (pins : List (Addr × Obj)) (σ : St) (Q : VK) (u : Value) (s' : Shared) : Prop := ∃ v H', Inv X pins σ H' s' ∧ RelV v u ∧ Q v H'
def TP (X : Cx) (pins : List (Addr × Obj)) (σ : St) (Q : Bool → Hp → Prop) (b : Bool) (s' : Shared) : Prop := ∃ H', Inv X pins σ H' s' ∧ Q b H'
def AP (X : Cx) (pins : List (Addr × Obj)) (σ : St) (Q : List V → Hp → Prop) (us : List Value) (s' : Shared) : Prop := ∃ vs H', Inv X pins σ H' s' ∧ Vals vs us ∧ Q vs H'
def SP (X : Cx) (pins : List (Addr × Obj)) (D : Ends) (f : Flow) (s' : Shared) : Prop :=
  match f with
  | .next => ∃ σ' H', Inv X pins σ' H' s' ∧ D.nx σ' H'
  | .brk => ∃ σ' H', Inv X pins σ' H' s' ∧ D.bk σ' H'
  | .cont => ∃ σ' H', Inv X pins σ' H' s' ∧ D.ct σ' H'
  | .ret u => ∃ v σ' H', Inv X pins σ' H' s' ∧ RelV v u ∧ D.rt v H'

def PE (X : Cx) (e : Expr) (t : TE) : Prop :=
  ∀ (pins : List (Addr × Obj)) (s : Shared) (σ : St) (H : Hp) (Q : VK), Inv X pins σ H s → t σ H Q → wpAny (model X.prog X.w) X.A (eval e X.env) (EP X pins σ Q) X.xe s
def PT (X : Cx) (e : Expr) (t : TT) : Prop :=
  ∀ (pins : List (Addr × Obj)) (s : Shared) (σ : St) (H : Hp) (Q : Bool → Hp → Prop), Inv X pins σ H s → t σ H Q → wpAny (model X.prog X.w) X.A (isTrue e X.env (eval e X.env)) (TP X pins σ Q) X.xe s
/-- a test whatever its 'whole' is (and, or) -/
def PW (X : Cx) (e : Expr) (t : TT) : Prop :=
  ∀ (whole : Sem Value) (pins : List (Addr × Obj)) (s : Shared) (σ : St) (H : Hp) (Q : Bool → Hp → Prop), Inv X pins σ H s → t σ H Q → wpAny (model X.prog X.w) X.A (isTrue e X.env whole) (TP X pins σ Q) X.xe s
theorem PW.pt {X : Cx} {e : Expr} {t : TT} (h : PW X e t) : PT X e t := h _
/-- an argument list (no star), from the left -/
def PA (X : Cx) (es : List Expr) (t : TA) : Prop :=
  ∀ (pos : Pos) (pins : List (Addr × Obj)) (s : Shared) (σ : St) (H : Hp) (Q : List V → Hp → Prop), Inv X pins σ H s → t σ H Q → wpAny (model X.prog X.w) X.A (spliced (backTo pos (starEach es X.env))) (AP X pins σ Q) X.xe s
def PS (X : Cx) (st : Stmt) (t : TS) : Prop :=
  ∀ (pins : List (Addr × Obj)) (s : Shared) (σ : St) (H : Hp) (D : Ends), Inv X pins σ H s → t D σ H → wpAny (model X.prog X.w) X.A (exec st X.env) (SP X pins D) X.xe s
def PSs (X : Cx) (st : List Stmt) (t : TS) : Prop :=
  ∀ (pins : List (Addr × Obj)) (s : Shared) (σ : St) (H : Hp) (D : Ends), Inv X pins σ H s → t D σ H → wpAny (model X.prog X.w) X.A (execs st X.env) (SP X pins D) X.xe s
/-- weaken the end -/
theorem thn {α : Type} {t : Sem α} {Q Q' : α → Shared → Prop} {M : Model} {A : Around} {E : Value → Shared → Prop} {s : Shared} (h : wpAny M A t Q E s) (hQ : ∀ a s, Q a s → Q' a s) : wpAny M A t Q' E s := wpAny_mono h hQ fun _ _ x => x
end L2

namespace L2
open PySem PySem.Spec PyProof.Rows
section
variable {X : Cx}


/-! ### names and constants -/
def tVar (i : Nat) : TE := fun σ H Q => ∃ v, σ[i]? = some (some v) ∧ Q v H
def tC (v : V) : TE := fun _ H Q => Q v H
theorem pe_var {i : Nat} {x : Str} {pos : Pos} (hN : X.N[i]? = some x) (hv : Vis X.env.scope x) (hd : (x == ("__debug__" : Str)) = false := by decide) (hcd : (x == ("__classdict__" : Str)) = false := by decide) : PE X (.Name x pos) (tVar i) := by
  intro pins s σ H Q I h
  obtain ⟨v, e, h⟩ := h
  obtain ⟨m, hn, hl⟩ := I.loc
  obtain ⟨u, r, l⟩ := hl i x v hN e hv
  have fin : EP X pins σ Q u s := ⟨v, H, I, r, h⟩
  rcases l with ⟨hk, hm⟩ | ⟨hk, c, hc, hcell⟩
  · exact wpAny_Name (wpAny_loadName_local I.ok.kind hk hn hm fin) hd
  · rcases hk with hk | hk
    · exact wpAny_Name (wpAny_loadName_cell I.ok.kind hk hc hcell fin) hd
    · exact wpAny_Name (wpAny_loadName_free I.ok.kind hk hc hcell fin hcd) hd
theorem pe_int {i j pos} : PE X (.Constant (.int i) j pos) (tC (.int i)) := fun _ _ _ H _ I h => wpAny_Constant_int ⟨.int i, H, I.tok _, ⟨_, rfl⟩, h⟩
theorem pe_bl {b j pos} : PE X (.Constant (.bool b) j pos) (tC (.bl b)) := fun _ _ _ H _ I h => Constant_bool ⟨.bl b, H, I, rfl, h⟩
theorem pe_non {j pos} : PE X (.Constant .none j pos) (tC .non) := fun _ _ _ H _ I h => Constant_none ⟨.non, H, I, rfl, h⟩
theorem pe_str {x j pos} : PE X (.Constant (.str x) j pos) (tC (.str x)) := fun _ _ _ H _ I h => Calls.Constant_str ⟨.str x, H, I.tok _, ⟨_, rfl⟩, h⟩

/-- a global name of the def -/
def Gl (X : Cx) (x : Str) : Prop := X.env.kindOf x = some .globalImplicit
theorem ld_glob {E : Value → Shared → Prop} {pins : List (Addr × Obj)} {s : Shared} {σ : St} {H : Hp} {x : Str} {u : Value} {pos : Pos} {Q : Value → Shared → Prop} (I : Inv X pins σ H s) (hg : Gl X x) (hm : X.mg x = some u) (h : Q u s)
    (hd : (x == ("__debug__" : Str)) = false := by decide) : wpAny (model X.prog X.w) X.A (eval (.Name x pos) X.env) Q E s :=
  Calls.Name_function_global I.ok.kind hg (Calls.loadGlobal_global (by rw [I.ok.glob]; exact I.mod.glob.keeps I.bk) hm h) hd
theorem ld_blt {E : Value → Shared → Prop} {pins : List (Addr × Obj)} {s : Shared} {σ : St} {H : Hp} {x : Str} {u : Value} {pos : Pos} {Q : Value → Shared → Prop} (I : Inv X pins σ H s) (hg : Gl X x) (hm : X.mg x = none) (hv : bootBuiltins x = some u) (h : Q u s)
    (hn : x ≠ "__name__" := by decide) (hd : (x == ("__debug__" : Str)) = false := by decide) : wpAny (model X.prog X.w) X.A (eval (.Name x pos) X.env) Q E s := by
  obtain ⟨mb, h1, h2⟩ := I.mod.blt
  exact Calls.Name_function_global I.ok.kind hg (Calls.loadGlobal_builtin (by rw [I.ok.glob]; exact I.mod.glob.keeps I.bk) hm (by rw [I.ok.blt]; exact h1.keeps I.bk) ((h2 x hn).trans hv) h) hd
/-- a module's constant, a class, a function, as a value -/
theorem pe_glob {x : Str} {v : V} {u : Value} {pos : Pos} (hg : Gl X x) (hm : X.mg x = some u) (r : RelV v u) (hd : (x == ("__debug__" : Str)) = false := by decide) : PE X (.Name x pos) (tC v) :=
  fun _ _ _ H _ I h => ld_glob I hg hm ⟨v, H, I, r, h⟩ hd
theorem pe_bltn {x : Str} {v : V} {u : Value} {pos : Pos} (hg : Gl X x) (hm : X.mg x = none) (hv : bootBuiltins x = some u) (r : RelV v u) (hn : x ≠ "__name__" := by decide) (hd : (x == ("__debug__" : Str)) = false := by decide) : PE X (.Name x pos) (tC v) :=
  fun _ _ _ H _ I h => ld_blt I hg hm hv ⟨v, H, I, r, h⟩ hn hd

/-! ### arithmetic -/
variable {a b : Expr} {ta tb : TE} {pos : Pos}

/-! ### comparisons -/
/-- a comparison as a value, as a test -/
def tB (t : TE) : TT := fun σ H Q => t σ H fun x H1 => ∃ c, x = .bl c ∧ Q c H1
/-- an expression whose value is a bool, as a test -/
theorem pt_val {e : Expr} {t : TE} (h : PE X e t) (he : ∀ whole, isTrue e X.env whole = (do let v ← whole; standAt e.pos; holding [v] (truthy v)) := by intro _; rfl) : PT X e (tB t) := by
  intro pins s σ H Q I hw
  refine isTrue_plain (thn (h pins s σ H _ I hw) fun v s1 ⟨x, H1, I1, r1, q1⟩ => ?_) (he _)
  obtain ⟨d, rfl, q⟩ := q1
  cases r1
  exact wpAny_truthy_bool ⟨H1, I1, q⟩

/-! ### and, or, not -/
variable {tA tB' : TT} {rest : List Expr}
def tAnd (t u : TT) : TT := fun σ H Q => t σ H fun c H1 => if c = true then u σ H1 Q else Q false H1
def tOr (t u : TT) : TT := fun σ H Q => t σ H fun c H1 => if c = true then Q true H1 else u σ H1 Q
def tNot (t : TT) : TT := fun σ H Q => t σ H fun c H1 => Q (!c) H1
theorem pw_and1 (ha : PT X a tA) : PW X (.BoolOp .And [a] pos) tA := by
  intro wh pins s σ H Q I h
  refine isTrue_and (thn (ha pins s σ H Q I h) fun c s1 e => ?_)
  cases c with
  | true => exact isTrue_and_nil e
  | false => exact e
theorem pw_or1 (ha : PT X a tA) : PW X (.BoolOp .Or [a] pos) tA := by
  intro wh pins s σ H Q I h
  refine isTrue_or (thn (ha pins s σ H Q I h) fun c s1 e => ?_)
  cases c with
  | false => exact isTrue_or_nil e
  | true => exact e
theorem pw_and (ha : PT X a tA) (hb : PW X (.BoolOp .And (b :: rest) pos) tB') : PW X (.BoolOp .And (a :: b :: rest) pos) (tAnd tA tB') := by
  intro wh pins s σ H Q I h
  refine isTrue_and (thn (ha pins s σ H _ I h) fun c s1 ⟨H1, I1, q1⟩ => ?_)
  cases c with
  | true => exact hb wh pins s1 σ H1 Q I1 q1
  | false => exact ⟨H1, I1, q1⟩
theorem pw_or (ha : PT X a tA) (hb : PW X (.BoolOp .Or (b :: rest) pos) tB') : PW X (.BoolOp .Or (a :: b :: rest) pos) (tOr tA tB') := by
  intro wh pins s σ H Q I h
  refine isTrue_or (thn (ha pins s σ H _ I h) fun c s1 ⟨H1, I1, q1⟩ => ?_)
  cases c with
  | true => exact ⟨H1, I1, q1⟩
  | false => exact hb wh pins s1 σ H1 Q I1 q1
theorem pt_not (ha : PT X a tA) : PT X (.UnaryOp .Not a pos) (tNot tA) := by
  intro pins s σ H Q I h
  exact isTrue_not (ha pins s σ H (fun c H1 => Q (!c) H1) I h)
/-- .. as values (bools) -/
def tAndV (ta tb : TE) : TE := fun σ H Q => ta σ H fun x H1 => ∃ c, x = .bl c ∧ if c = true then tb σ H1 Q else Q (.bl false) H1
def tNotV (ta : TE) : TE := fun σ H Q => ta σ H fun x H1 => ∃ c, x = .bl c ∧ Q (.bl (!c)) H1
theorem pe_one {op} {t : TE} (h : PE X a t) : PE X (.BoolOp op [a] pos) t := fun pins s σ H Q I hw => BoolOp_one (h pins s σ H Q I hw)
theorem pe_and (ha : PE X a ta) (hb : PE X (.BoolOp .And (b :: rest) pos) tb) : PE X (.BoolOp .And (a :: b :: rest) pos) (tAndV ta tb) := by
  intro pins s σ H Q I h
  refine BoolOp_and (thn (ha pins s σ H _ I h) fun v s1 ⟨x, H1, I1, r1, q1⟩ => ?_)
  obtain ⟨c, rfl, q1⟩ := q1
  cases r1
  refine wpAny_truthy_bool ?_
  cases c with
  | true => exact hb pins s1 σ H1 Q I1 q1
  | false => exact ⟨.bl false, H1, I1, rfl, q1⟩
theorem pe_not (ha : PE X a ta) : PE X (.UnaryOp .Not a pos) (tNotV ta) := by
  intro pins s σ H Q I h
  refine UnaryOp_ (thn (ha pins s σ H _ I h) fun v s1 ⟨x, H1, I1, r1, q1⟩ => ?_)
  obtain ⟨c, rfl, q1⟩ := q1
  cases r1
  exact not_of (wpAny_truthy_bool ⟨.bl (!c), H1, I1, rfl, q1⟩)
end
end L2

namespace L2
open PySem PySem.Spec PyProof.Rows

/-! ### a list, a tuple that is read: tracked, frozen, or an object of the module -/
def SqL (K : PySem.W.Frag) (H : Hp) (a : Addr) (xs : List V) : Prop :=
  Rd H a (.lst xs) ∨
    ∃ (o : Obj) (its : Array Value) (n : Nat), K.lookup a = some o ∧ o.cls = .type "list" ∧ o.dict = none ∧ o.data = .seq its n ∧ its.size ≤ sizeLine ∧ Vals xs its.toList
def SqT (K : PySem.W.Frag) (H : Hp) (a : Addr) (xs : List V) : Prop :=
  Rd H a (.tup xs) ∨
    ∃ (o : Obj) (its : Array Value) (n : Nat), K.lookup a = some o ∧ o.cls = .type "tuple" ∧ o.data = .seq its n ∧ its.size ≤ sizeLine ∧ Vals xs its.toList
def absV : Value → Option V
  | .none => some .non
  | .bool b => some (.bl b)
  | .int i _ => some (.int i)
  | .str x _ => some (.str x)
  | .bytes b _ => some (.byt b)
  | .float b _ => some (.flt b)
  | .ref a => some (.ref a)
  | .type n => some (.ty n)
  | _ => none
theorem RelV.abs {x : V} {u : Value} (r : RelV x u) : absV u = some x := by
  cases x with
  | non => cases r; rfl
  | bl _ => cases r; rfl
  | int _ => obtain ⟨t, rfl⟩ := r; rfl
  | str _ => obtain ⟨t, rfl⟩ := r; rfl
  | byt _ => obtain ⟨t, rfl⟩ := r; rfl
  | flt _ => obtain ⟨t, rfl⟩ := r; rfl
  | ref _ => cases r; rfl
  | ty _ => cases r; rfl
theorem RelV.inj {x y : V} {u : Value} (r : RelV x u) (q : RelV y u) : x = y := Option.some.inj (r.abs.symm.trans q.abs)
theorem Vals.inj : ∀ {xs ys : List V} {us : List Value}, Vals xs us → Vals ys us → xs = ys
  | _, _, _, .nil, .nil => rfl
  | _, _, _, .cons r t, .cons r' t' => by rw [r.inj r', Vals.inj t t']
section
variable {X : Cx} {pins : List (Addr × Obj)} {σ : St} {H : Hp} {s : Shared} {a : Addr} {xs ys : List V}
theorem SqL.of {K : PySem.W.Frag} (h : H a = some (.lst xs)) : SqL K H a xs := .inl (.inl h)
theorem SqT.of {K : PySem.W.Frag} (h : H a = some (.tup xs)) : SqT K H a xs := .inl (.inl h)
theorem Inv.list (I : Inv X pins σ H s) (h : SqL X.K H a xs) : ∃ its : List Value, Vals xs its ∧ PlainL s.heap a its.toArray ∧ xs.length ≤ sizeLine := by
  rcases h with h | ⟨o, its, n, hk, hc, hd, hs, hz, r⟩
  · obtain ⟨z, its, n, r, e⟩ := h.ok I.hok
    exact ⟨its, r, ⟨_, n, e, rfl, rfl, rfl⟩, z⟩
  · refine ⟨its.toList, r, ⟨o, n, I.kIn a o hk, hc, hd, by simpa using hs⟩, ?_⟩
    have e := r.length
    simp only [Array.length_toList] at e
    omega
theorem Inv.tuple (I : Inv X pins σ H s) (h : SqT X.K H a xs) : ∃ its : List Value, Vals xs its ∧ IsTup s.heap a its.toArray ∧ xs.length ≤ sizeLine := by
  rcases h with h | ⟨o, its, n, hk, hc, hs, hz, r⟩
  · obtain ⟨z, its, r, p⟩ := h.ok I.hok
    exact ⟨its, r, p, z⟩
  · refine ⟨its.toList, r, ⟨o, I.kIn a o hk, hc, n, by simpa using hs⟩, ?_⟩
    have e := r.length
    simp only [Array.length_toList] at e
    omega
theorem Inv.list_inj (I : Inv X pins σ H s) (h : SqL X.K H a xs) (h' : SqL X.K H a ys) : xs = ys := by
  obtain ⟨its, r, ⟨o, n, e, _, _, d⟩, _⟩ := I.list h
  obtain ⟨its', r', ⟨o', n', e', _, _, d'⟩, _⟩ := I.list h'
  rw [e] at e'; cases e'
  rw [d] at d'
  injection d' with d1 _
  have : its = its' := by simpa using congrArg Array.toList d1
  subst this
  exact r.inj r'
theorem Inv.tuple_inj (I : Inv X pins σ H s) (h : SqT X.K H a xs) (h' : SqT X.K H a ys) : xs = ys := by
  obtain ⟨its, r, ⟨o, e, _, n, d⟩, _⟩ := I.tuple h
  obtain ⟨its', r', ⟨o', e', _, n', d'⟩, _⟩ := I.tuple h'
  rw [e] at e'; cases e'
  rw [d] at d'
  injection d' with d1 _
  have : its = its' := by simpa using congrArg Array.toList d1
  subst this
  exact r.inj r'
end

/-! ### another wish about exceptions -/
abbrev Cx.wish (X : Cx) (E : Value → Shared → Prop) : Cx := { X with xe := E }
/-- no exception leaves -/
abbrev Cx.nox (X : Cx) : Cx := X.wish fun _ _ => False
theorem Cx.Ok.wish {X : Cx} (ok : X.Ok) (E : Value → Shared → Prop) : (X.wish E).Ok :=
  ⟨ok.mod, ok.kind, ok.glob, ok.blt, ok.above, ok.inj, ok.has, ok.cab, ok.hd, ok.frames, ok.stk, ok.exf, ok.bs, ok.bsz, ok.noex, ok.exfs, ok.funs, ok.frf⟩
theorem Cx.Ok.unwish {X : Cx} {E : Value → Shared → Prop} (ok : (X.wish E).Ok) : X.Ok :=
  ⟨ok.mod, ok.kind, ok.glob, ok.blt, ok.above, ok.inj, ok.has, ok.cab, ok.hd, ok.frames, ok.stk, ok.exf, ok.bs, ok.bsz, ok.noex, ok.exfs, ok.funs, ok.frf⟩
section
variable {X : Cx} {pins : List (Addr × Obj)} {σ : St} {H : Hp} {s : Shared} {E : Value → Shared → Prop}
theorem Inv.wish (I : Inv X pins σ H s) (E : Value → Shared → Prop) : Inv (X.wish E) pins σ H s := ⟨I.ok.wish E, I.os, I.bare, I.base, I.loc, I.cell, I.free, I.freeC, I.pin, I.hok, I.len⟩
theorem Inv.unwish (I : Inv (X.wish E) pins σ H s) : Inv X pins σ H s := ⟨I.ok.unwish, I.os, I.bare, I.base, I.loc, I.cell, I.free, I.freeC, I.pin, I.hok, I.len⟩
theorem SP.unwish {D : Ends} {f : Flow} {s' : Shared} (h : SP (X.wish E) pins D f s') : SP X pins D f s' := by
  cases f with
  | next => obtain ⟨σ', H', I, q⟩ := h; exact ⟨σ', H', I.unwish, q⟩
  | brk => obtain ⟨σ', H', I, q⟩ := h; exact ⟨σ', H', I.unwish, q⟩
  | cont => obtain ⟨σ', H', I, q⟩ := h; exact ⟨σ', H', I.unwish, q⟩
  | ret u => obtain ⟨v, σ', H', I, r, q⟩ := h; exact ⟨v, σ', H', I.unwish, r, q⟩
theorem PSs.nox {st : List Stmt} {t : TS} (h : PSs X.nox st t) : PSs X st t := fun pins s σ H D I hw =>
  wpAny_mono (h pins s σ H D (I.wish _) hw) (fun _ _ q => q.unwish) fun _ _ z => False.elim z
end

/-! ### blocks and small statements -/
section
variable {X : Cx} {st : Stmt} {rest : List Stmt} {t u : TS} {e : Expr} {te : TE} {pos : Pos}
def tNext : TS := fun D σ H => D.nx σ H
def tSeq (t u : TS) : TS := fun D σ H => t { D with nx := u D } σ H
theorem pss_nil : PSs X [] tNext := fun _ _ σ H _ I h => wpAny_execs_nil ⟨σ, H, I, h⟩
theorem pss_cons (h1 : PS X st t) (h2 : PSs X rest u) : PSs X (st :: rest) (tSeq t u) := by
  intro pins s σ H D I h
  refine wpAny_execs_cons (thn (h1 pins s σ H { D with nx := u D } I h) fun f s1 q => ?_)
  cases f with
  | next =>
    obtain ⟨σ', H', I', q⟩ := q
    exact h2 pins s1 σ' H' D I' q
  | ret v => exact q
  | brk => exact q
  | cont => exact q
theorem pss_one (h1 : PS X st t) : PSs X [st] t := by
  intro pins s σ H D I h
  refine wpAny_execs_cons (thn (h1 pins s σ H D I h) fun f s1 q => ?_)
  cases f with
  | next => exact wpAny_execs_nil q
  | ret v => exact q
  | brk => exact q
  | cont => exact q
/-- in a def's body nothing is shown -/
theorem Inv.quiet {pins : List (Addr × Obj)} {σ : St} {H : Hp} {s : Shared} (I : Inv X pins σ H s) : interactive X.env = false := by simp [interactive, I.ok.kind]
/-- an expression whose value is dropped -/
def tDrop (te : TE) : TS := fun D σ H => te σ H fun _ H1 => D.nx σ H1
theorem ps_expr (he : PE X e te) (hs : swapsWith e none pos.line X.env = pure false := by rfl) : PS X (.Expr e pos) (tDrop te) := by
  intro pins s σ H D I h
  exact wpAny_Expr_any (thn (he pins s σ H _ I h) fun v s1 ⟨x, H1, I1, r1, q1⟩ => ⟨σ, H1, I1, q1⟩) I.quiet hs
def tRet (te : TE) : TS := fun D σ H => te σ H D.rt
theorem ps_ret (he : PE X e te) : PS X (.Return (some e) pos) (tRet te) := by
  intro pins s σ H D I h
  exact wpAny_Return_some (thn (he pins s σ H _ I h) fun v s1 ⟨x, H1, I1, r1, q1⟩ => ⟨x, σ, H1, I1, r1, q1⟩)
def tIfS (c : TT) (t u : TS) : TS := fun D σ H => c σ H fun b H1 => if b = true then t D σ H1 else u D σ H1
theorem ps_if {c : Expr} {a b : List Stmt} {tc : TT} (hc : PT X c tc) (ha : PSs X a t) (hb : PSs X b u) : PS X (.If c a b pos) (tIfS tc t u) := by
  intro pins s σ H D I h
  refine wpAny_If (thn (hc pins s σ H _ I h) fun d s1 ⟨H1, I1, q1⟩ => ?_)
  cases d with
  | true => exact ha pins s1 σ H1 D I1 q1
  | false => exact hb pins s1 σ H1 D I1 q1
/-- code that the proof never comes to -/
def tNever : TS := fun _ _ _ => False
theorem ps_never : PS X st tNever := fun _ _ _ _ _ _ h => h.elim
end

/-! ### targets -/
abbrev TG := V → St → Hp → (St → Hp → Prop) → Prop
abbrev TGs := List V → St → Hp → (St → Hp → Prop) → Prop
def PG (X : Cx) (target : Expr) (t : TG) : Prop :=
  ∀ (pins : List (Addr × Obj)) (s : Shared) (σ : St) (H : Hp) (v : V) (u : Value) (Q : St → Hp → Prop), Inv X pins σ H s → RelV v u → t v σ H Q →
    wpAny (model X.prog X.w) X.A (assign target X.env u) (fun _ s' => ∃ σ' H', Inv X pins σ' H' s' ∧ Q σ' H') X.xe s
/-- several targets, one after another -/
def PGs (X : Cx) (ts : List Expr) (t : TGs) : Prop :=
  ∀ (pins : List (Addr × Obj)) (s : Shared) (σ : St) (H : Hp) (vs : List V) (us : List Value) (Q : St → Hp → Prop), Inv X pins σ H s → Vals vs us → t vs σ H Q →
    wpAny (model X.prog X.w) X.A (assignInOrder ((assignEach ts X.env).map (·.2)) us) (fun _ s' => ∃ σ' H', Inv X pins σ' H' s' ∧ Q σ' H') X.xe s
/-- o[i] = v, by values -/
abbrev TSet := V → V → V → Hp → (Hp → Prop) → Prop
def PSet (X : Cx) (t : TSet) : Prop :=
  ∀ (pins : List (Addr × Obj)) (s : Shared) (σ : St) (H : Hp) (o i v : V) (ov iv u : Value) (Q : Hp → Prop), Inv X pins σ H s → RelV o ov → RelV i iv → RelV v u → t o i v H Q →
    wpAny (model X.prog X.w) X.A (setItem ov iv u) (fun _ s' => ∃ H', Inv X pins σ H' s' ∧ Q H') X.xe s
section
variable {X : Cx} {pos : Pos}
def gName (i : Nat) : TG := fun v σ H Q => Q (σ.set i (some v)) H
theorem pg_name {i : Nat} {x : Str} (hN : X.N.Nodup) (hi : X.N[i]? = some x) (hx : Loc X.env.scope x) (hf : X.fn x = true ∨ X.env.scope.names.lookup x = some .local := by first | exact .inl rfl | exact .inr rfl | assumption) : PG X (.Name x pos) (gName i) := by
  intro pins s σ H v u Q I r h
  exact wpAny_assign_Name (store_ok I hN hi hx r (fun s' I' => ⟨_, H, I', h⟩) hf)
def gNil : TGs := fun vs σ H Q => vs = [] ∧ Q σ H
def gCons (t : TG) (u : TGs) : TGs := fun vs σ H Q => ∃ v r, vs = v :: r ∧ t v σ H fun σ' H' => u r σ' H' Q
theorem pgs_nil : PGs X [] gNil := by
  intro pins s σ H vs us Q I r h
  obtain ⟨e, h⟩ := h
  subst e
  cases r
  exact assignInOrder_nil ⟨σ, H, I, h⟩
theorem pgs_cons {e : Expr} {es : List Expr} {t : TG} {u : TGs} (h1 : PG X e t) (h2 : PGs X es u)
    (hs : (assignEach (e :: es) X.env).map (·.2) = assign e X.env :: (assignEach es X.env).map (·.2) := by rfl) : PGs X (e :: es) (gCons t u) := by
  intro pins s σ H vs us Q I r h
  obtain ⟨v, vr, e1, h⟩ := h
  subst e1
  cases r with
  | cons r rr =>
    rw [hs]
    refine assignInOrder_cons (thn (h1 pins s σ H _ _ _ I r h) fun _ s1 ⟨σ1, H1, I1, q1⟩ => ?_)
    exact h2 pins s1 σ1 H1 _ _ Q I1 rr q1
/-- (a, b, ..) = a tuple of that length -/
def gTup (K : PySem.W.Frag) (n : Nat) (t : TGs) : TG := fun v σ H Q => ∃ a xs, v = .ref a ∧ SqT K H a xs ∧ xs.length = n ∧ t xs σ H Q
theorem pg_tup {es : List Expr} {k : Nat} {t : TGs} {n : Nat} (hc : X.calm = true) (h : PGs X es t)
    (hn : (assignEach es X.env).length = n := by rfl) (hst : (assignEach es X.env).findIdx? (·.1) = none := by rfl) : PG X (.Tuple es k pos) (gTup X.K n t) := by
  intro pins s σ H v u Q I r hw
  obtain ⟨a, xs, e1, hq, hl, hw⟩ := hw
  subst e1
  cases r
  obtain ⟨its, rv, ht, hz⟩ := I.tuple hq
  refine assign_Tuple_tuple (I.ok.hd hc) ht (by simp [hn, ← hl, rv.length]) hst fun h' hx => ?_
  have I1 : Inv X pins σ H { s with heap := h' } := I.kept (t' := s.toks) fun b o e => hx b o (Nat.ne_of_lt (Heap.lt_size e)) e
  exact h pins _ σ H xs _ Q I1 (by simpa using rv) hw
/-- o[i] = .. -/
def gSub (to ti : TE) (t : TSet) : TG := fun v σ H Q => to σ H fun o H1 => ti σ H1 fun i H2 => t o i v H2 fun H3 => Q σ H3
theorem pg_sub {o i : Expr} {to ti : TE} {t : TSet} (ho : PE X o to) (hi : PE X i ti) (hs : PSet X t)
    (ha : ∀ v, assign (.Subscript o i pos) X.env v = (do
      let ov ← holding [v] (eval o X.env)
      let iv ← holding [v, ov] (eval i X.env)
      standAt pos
      holding [v, ov, iv] (setItem ov iv v)
      release [v, ov, iv] []) := by intro _; rfl) : PG X (.Subscript o i pos) (gSub to ti t) := by
  intro pins s σ H v u Q I r h
  rw [ha]
  refine wpAny_bind (wpAny_holding (thn (ho pins s σ H _ I h) fun ov s1 ⟨x, H1, I1, r1, q1⟩ => ?_))
  refine wpAny_bind (wpAny_holding (thn (hi pins s1 σ H1 _ I1 q1) fun iv s2 ⟨y, H2, I2, r2, q2⟩ => ?_))
  refine wpAny_bind (wpAny_standAt (wpAny_bind (wpAny_holding (thn (hs pins s2 σ H2 x y v ov iv u _ I2 r1 r2 r q2) fun _ s3 ⟨H3, I3, q3⟩ => ?_))))
  exact wpAny_release ⟨σ, H3, I3, q3⟩
/-- target = value -/
def tAsg (te : TE) (g : TG) : TS := fun D σ H => te σ H fun x H1 => g x σ H1 D.nx
theorem ps_asg {tg e : Expr} {te : TE} {g : TG} (he : PE X e te) (hg : PG X tg g) (hs : swapsWithSole [tg] e pos.line X.env = pure false := by rfl) (hw : swappedStores [tg] e X.env = pure none := by rfl)
    (h1 : (assignEach [tg] X.env).map (·.2) = [assign tg X.env] := by rfl) : PS X (.Assign [tg] e pos) (tAsg te g) := by
  intro pins s σ H D I h
  refine wpAny_Assign_stores (thn (he pins s σ H _ I h) fun v s1 ⟨x, H1, I1, r1, q1⟩ => ?_) hs hw
  rw [h1]
  exact thn (hg pins s1 σ H1 x v _ I1 r1 q1) fun _ s2 q => q
/-- name = value -/
theorem ps_set {i : Nat} {x : Str} {e : Expr} {te : TE} {pos' : Pos} (hN : X.N.Nodup) (hi : X.N[i]? = some x) (hx : Loc X.env.scope x) (he : PE X e te) (hs : swapsWith e (some (.Name x pos')) pos.line X.env = pure false := by rfl) (hf : X.fn x = true ∨ X.env.scope.names.lookup x = some .local := by first | exact .inl rfl | exact .inr rfl | assumption) :
    PS X (.Assign [.Name x pos'] e pos) (tAsg te (gName i)) := by
  intro pins s σ H D I h
  refine wpAny_Assign_Name (thn (he pins s σ H _ I h) fun v s1 ⟨y, H1, I1, r1, q1⟩ => ?_) hs
  exact store_ok I1 hN hi hx r1 (fun s2 I2 => ⟨_, H1, I2, q1⟩) hf
/-- a, b = x, y with plain local names: stored from the right; the pair itself is not tracked (the opening rows as in PyProof/Rows/TupAssign.lean:23) -/
def tPar (i j : Nat) (ta : TA) : TS := fun D σ H => ta σ H fun vs H1 => ∃ v w, vs = [v, w] ∧ D.nx ((σ.set i (some v)).set j (some w)) H1
theorem ps_par {i j : Nat} {x y : Str} {a b : Expr} {ta : TA} {px py pt : Pos} {kt k2 pt2} (hc : X.calm = true) (hN : X.N.Nodup) (hi : X.N[i]? = some x) (hj : X.N[j]? = some y) (hij : i ≠ j)
    (hx : X.env.scope.names.lookup x = some .local) (hy : X.env.scope.names.lookup y = some .local) (ha : PA X [a, b] ta)
    (hw : swappedStores [.Tuple [.Name x px, .Name y py] kt pt] (.Tuple [a, b] k2 pt2) X.env = pure (some [x, y]))
    (hs : swapsWithSole [.Tuple [.Name x px, .Name y py] kt pt] (.Tuple [a, b] k2 pt2) pos.line X.env = pure false := by rfl) :
    PS X (.Assign [.Tuple [.Name x px, .Name y py] kt pt] (.Tuple [a, b] k2 pt2) pos) (tPar i j ta) := by
  intro pins s σ H D I h
  rw [exec_Assign_arm]
  refine wpAny_bind (wpAny_standAt ?_)
  rw [hs]
  refine wpAny_bind (wpAny_pure ?_)
  rw [if_neg (by decide)]
  refine wpAny_bind (Tuple_ (thn (ha _ pins s σ H _ I h) fun us s1 ⟨vs, H1, I1, r1, q1⟩ => ?_))
  obtain ⟨v, w, e1, q1⟩ := q1
  subst e1
  obtain ⟨u1, u2, rfl, rv, rw'⟩ : ∃ u1 u2, us = [u1, u2] ∧ RelV v u1 ∧ RelV w u2 := by
    cases r1 with
    | cons p q =>
      cases q with
      | cons p' q' =>
        cases q'
        exact ⟨_, _, rfl, p, p'⟩
  refine wpAny_newObj_type ?_ (by show 2 ≤ sizeLine; decide)
  have I2 : Inv X pins σ H1 { s1 with heap := s1.heap.push { cls := .type "tuple", data := .seq [u1, u2].toArray } } := I1.kept (t' := s1.toks) fun b o e => Heap.get?_push_of_some _ e
  rw [hw]
  refine wpAny_bind (wpAny_pure ?_)
  show wpAny (model X.prog X.w) X.A (do rule "assign.swapped-stores"; let items ← unpackItems (.ref s1.heap.objs.size) 2 none; assignInOrder [fun v => bindName X.env y v, fun v => bindName X.env x v] items.reverse; pure Flow.next) _ _ _
  refine wpAny_bind (wpAny_rule (wpAny_bind (unpackItems_tuple (items := #[u1, u2]) (I.ok.hd hc) (IsTup.new s1.heap _) fun h' hx' => ?_)))
  have I3 := I2.kept (h' := h') (t' := s1.toks) fun b o e => hx' b o (Nat.ne_of_lt (Heap.lt_size e)) e
  show wpAny _ _ (assignInOrder [fun v => bindName X.env y v, fun v => bindName X.env x v] [u2, u1] >>= fun _ => pure Flow.next) _ _ _
  refine wpAny_bind (assignInOrder_cons (wpAny_bindName (store_ok I3 hN hj (.inl hy) rw' (fun s2 I4 => ?_) (.inr hy))))
  refine assignInOrder_cons (wpAny_bindName (store_ok I4 hN hi (.inl hx) rv (fun s3 I5 => assignInOrder_nil (wpAny_pure ?_)) (.inr hx)))
  rw [List.set_comm _ _ (Ne.symm hij)] at I5
  exact ⟨_, H1, I5, q1⟩
end

/-! ### while -/
section
variable {X : Cx} {pos : Pos}
end

/-! ### what a loop or a comprehension walks -/
/-- at turn i: it yields x (the heap may grow), or it stops -/
structure It where
  go : Nat → Hp → Prop
  yld : Nat → Hp → V → Hp → Prop
  stop : Nat → Hp → Prop
/-- the iterator's own objects may turn: they are not the frame's, not pinned, younger than the entry (or a comprehension's own) -/
def FpOk (X : Cx) (pins : List (Addr × Obj)) (H : Hp) (b : Addr) : Prop :=
  H b = none ∧ b ≠ X.env.locals ∧ b ∉ X.fs ∧ (b ∈ X.ex ∨ X.s₀.heap.objs.size ≤ b) ∧ (∀ x c, X.env.cells.lookup x = some c → c ≠ b) ∧ ∀ p ∈ X.pn ++ pins, p.1 ≠ b
theorem Inv.fpOk {X : Cx} {pins : List (Addr × Obj)} {σ : St} {H H' : Hp} {s : Shared} {b : Addr} (I : Inv X pins σ H s) (hb : s.heap.objs.size ≤ b) (hn : H' b = none) : FpOk X pins H' b := by
  refine ⟨hn, Nat.ne_of_gt (Nat.lt_of_lt_of_le I.lt hb), I.nofs hb, .inr (Nat.le_trans I.sz hb), fun x c e z => ?_, fun p hp z => ?_⟩
  · obtain ⟨v, q⟩ := I.cell x c e
    exact absurd (Nat.lt_of_lt_of_le q.lt (by rw [z]; exact hb)) (Nat.lt_irrefl _)
  · exact absurd (Nat.lt_of_lt_of_le (Heap.lt_size (I.pin p hp).1) (by rw [z]; exact hb)) (Nat.lt_irrefl _)
structure Turn (P : Program) (w : World) (K : PySem.W.Frag) (tg : Expr) (J : It) (fp : List Addr) (it : Addr) (tn : Nat → Heap → Prop) : Prop where
  mem : it ∈ fp
  obj : ∀ i h, tn i h → ∀ b ∈ fp, ∃ o, h.get? b = some o ∧ ∀ v, o.data ≠ .cell v
  keep : ∀ i h h', tn i h → (∀ b ∈ fp, ∀ o, h.get? b = some o → h'.get? b = some o) → tn i h'
  item : ∀ (X : Cx), X.prog = P → X.w = w → X.K = K → X.calm = true → ∀ (i : Nat) (pins : List (Addr × Obj)) (s : Shared) (σ : St) (H : Hp) (E : Value → Shared → Prop), Inv X pins σ H s → (∀ b ∈ fp, FpOk X pins H b) → tn i s.heap → J.go i H →
    wpAny (model P w) X.A (pyNext (.ref it)) (fun r s1 => ∃ u, r = some u ∧
      wpAny (model P w) X.A (letOwnedTupleGo tg (.ref it) u) (fun _ s2 => ∃ x H', Inv X pins σ H' s2 ∧ RelV x u ∧ J.yld i H x H' ∧ tn (i + 1) s2.heap ∧ ∀ b ∈ fp, H' b = none) E s1) E s
  done : ∀ (X : Cx), X.prog = P → X.w = w → X.K = K → X.calm = true → ∀ (i : Nat) (pins : List (Addr × Obj)) (s : Shared) (σ : St) (H : Hp) (E : Value → Shared → Prop), Inv X pins σ H s → (∀ b ∈ fp, FpOk X pins H b) → tn i s.heap → J.stop i H →
    wpAny (model P w) X.A (pyNext (.ref it)) (fun r s1 => r = none ∧ Inv X pins σ H s1) E s
  self : ∀ (A : Around) (i : Nat) (s : Shared) (Q : Value → Shared → Prop) (E : Value → Shared → Prop), tn i s.heap → Q (.ref it) s → wpAny (model P w) A (pyIter (.ref it)) Q E s
abbrev TI := St → Hp → (It → Hp → Prop) → Prop
/-- an iterator has come -/
def PIE (X : Cx) (pins : List (Addr × Obj)) (σ : St) (tg : Expr) (R : It → Hp → Prop) (itv : Value) (s2 : Shared) : Prop :=
  ∃ (it : Addr) (fp : List Addr) (tn : Nat → Heap → Prop) (J : It) (H' : Hp), itv = .ref it ∧ Inv X pins σ H' s2 ∧ Turn X.prog X.w X.K tg J fp it tn ∧ tn 0 s2.heap ∧ (∀ b ∈ fp, FpOk X pins H' b) ∧ R J H'
def PI (X : Cx) (tg iter : Expr) (wi : TI) : Prop :=
  ∀ (pins : List (Addr × Obj)) (s : Shared) (σ : St) (H : Hp) (R : It → Hp → Prop), Inv X pins σ H s → wi σ H R →
    wpAny (model X.prog X.w) X.A (eval iter X.env) (fun v s1 => wpAny (model X.prog X.w) X.A (pyIter v) (PIE X pins σ tg R) X.xe s1) X.xe s

/-- the step ahead of the store is nothing for an iterator that keeps no tuple -/
theorem go_of {M : Model} {A : Around} {E : Value → Shared → Prop} {s : Shared} {tg : Expr} {it : Addr} {u : Value} {o : Obj} {n : String} {vs : Array Value} {Q : Unit → Shared → Prop} (ho : s.heap.get? it = some o) (hc : o.cls = .type n) (hd : o.data = .fields vs)
    (hn : ["enumerate", "zip", "dict_itemiterator", "dict_reverseitemiterator", "odict_iterator", "itertools.zip_longest", "itertools.pairwise"].contains n = false) (hQ : Q () s) : wpAny M A (letOwnedTupleGo tg (.ref it) u) Q E s := by
  unfold letOwnedTupleGo
  cases tg <;> first
    | exact wpAny_pure hQ
    | (cases u <;> first
        | exact wpAny_pure hQ
        | (refine wpAny_bind (wpAny_load ho ?_)
           rw [hc, hd]
           show wpAny M A (if (["enumerate", "zip", "dict_itemiterator", "dict_reverseitemiterator", "odict_iterator", "itertools.zip_longest", "itertools.pairwise"].contains n && vs[0]? == some (rawInt _)) = true then _ else _) Q E s
           rw [if_neg (by intro h; rw [hn, Bool.false_and] at h; cases h)]
           exact wpAny_pure hQ))

/-- the list at a, as it stands at each turn (a loop may append to it) -/
def Itl (K : PySem.W.Frag) (a : Addr) : It :=
  ⟨fun i H => ∃ xs x, SqL K H a xs ∧ xs[i]? = some x, fun i H x H' => H' = H ∧ ∀ xs, SqL K H a xs → xs[i]? = some x, fun i H => ∃ xs, SqL K H a xs ∧ xs.length ≤ i⟩
def Itt (K : PySem.W.Frag) (a : Addr) : It :=
  ⟨fun i H => ∃ xs x, SqT K H a xs ∧ xs[i]? = some x, fun i H x H' => H' = H ∧ ∀ xs, SqT K H a xs → xs[i]? = some x, fun i H => ∃ xs, SqT K H a xs ∧ xs.length ≤ i⟩
/-- lo, lo + 1, .. (n of them) -/
def Itr (lo : Int) (n : Nat) : It := ⟨fun i _ => i < n, fun i H x H' => H' = H ∧ x = .int (lo + i), fun i _ => n ≤ i⟩
theorem turn_list {P : Program} {w : World} {K : PySem.W.Frag} {tg : Expr} (a it : Addr) : Turn P w K tg (Itl K a) [it] it (fun i h => h.IsListIter it a i) where
  mem := by simp
  obj := fun i h st b hb => by
    have e : b = it := by simpa using hb
    subst e
    obtain ⟨o, e, c, d⟩ := st
    exact ⟨o, e, fun v z => by rw [d] at z; cases z⟩
  keep := fun i h h' st k => st.at fun o e => k it (by simp) o e
  item := by
    intro X hP hw hK hc i pins s σ H E I hf st hg
    subst hP hw hK
    obtain ⟨xs, x, hq, hx⟩ := hg
    obtain ⟨its, rv, p, hz⟩ := I.list hq
    obtain ⟨u, hu, ru⟩ := rv.get hx
    obtain ⟨f0, f1, f2, f3, f4, f5⟩ := hf it (by simp)
    refine wpAny_pyNext_list_item st p.isList (x := u) (by simpa using hu) fun h' st' sb => ?_
    have I1 : Inv X pins σ H { s with heap := h' } := I.turned (t' := s.toks) (fun b o hb e => (sb.2 b hb).trans e) f0 f1 f3 f4 f5
    obtain ⟨o, e, c, d⟩ := id st'
    exact ⟨u, rfl, go_of (s := { s with heap := h' }) e c d (by decide) ⟨x, H, I1, ru, ⟨rfl, fun ys hy => by rw [I.list_inj hy hq]; exact hx⟩, st', fun b hb => (hf b hb).1⟩⟩
  done := by
    intro X hP hw hK hc i pins s σ H E I hf st hg
    subst hP hw hK
    obtain ⟨xs, hq, hx⟩ := hg
    obtain ⟨its, rv, p, hz⟩ := I.list hq
    obtain ⟨f0, f1, f2, f3, f4, f5⟩ := hf it (by simp)
    have hl := rv.length
    exact wpAny_pyNext_list_end (I.ok.hd hc) st p.isList (by simp; omega) fun h' eb => ⟨rfl, I.turned (t' := s.toks) (fun b o hb e => eb b o hb e) f0 f1 f3 f4 f5⟩
  self := fun _ _ _ _ _ st h => wpAny_pyIter_listiter st h
theorem turn_tuple {P : Program} {w : World} {K : PySem.W.Frag} {tg : Expr} (a it : Addr) : Turn P w K tg (Itt K a) [it] it (fun i h => h.IsTupleIter it a i) where
  mem := by simp
  obj := fun i h st b hb => by
    have e : b = it := by simpa using hb
    subst e
    obtain ⟨o, e, c, d⟩ := st
    exact ⟨o, e, fun v z => by rw [d] at z; cases z⟩
  keep := fun i h h' st k => st.at fun o e => k it (by simp) o e
  item := by
    intro X hP hw hK hc i pins s σ H E I hf st hg
    subst hP hw hK
    obtain ⟨xs, x, hq, hx⟩ := hg
    obtain ⟨its, rv, p, hz⟩ := I.tuple hq
    obtain ⟨u, hu, ru⟩ := rv.get hx
    obtain ⟨f0, f1, f2, f3, f4, f5⟩ := hf it (by simp)
    refine wpAny_pyNext_tuple_item st (show s.heap.IsTuple a its.toArray from p) (x := u) (by simpa using hu) fun h' st' sb => ?_
    have I1 : Inv X pins σ H { s with heap := h' } := I.turned (t' := s.toks) (fun b o hb e => (sb.2 b hb).trans e) f0 f1 f3 f4 f5
    obtain ⟨o, e, c, d⟩ := id st'
    exact ⟨u, rfl, go_of (s := { s with heap := h' }) e c d (by decide) ⟨x, H, I1, ru, ⟨rfl, fun ys hy => by rw [I.tuple_inj hy hq]; exact hx⟩, st', fun b hb => (hf b hb).1⟩⟩
  done := by
    intro X hP hw hK hc i pins s σ H E I hf st hg
    subst hP hw hK
    obtain ⟨xs, hq, hx⟩ := hg
    obtain ⟨its, rv, p, hz⟩ := I.tuple hq
    obtain ⟨f0, f1, f2, f3, f4, f5⟩ := hf it (by simp)
    have hl := rv.length
    exact wpAny_pyNext_tuple_end (I.ok.hd hc) st (show s.heap.IsTuple a its.toArray from p) (by simp; omega) fun h' eb => ⟨rfl, I.turned (t' := s.toks) (fun b o hb e => eb b o hb e) f0 f1 f3 f4 f5⟩
  self := fun _ _ _ _ _ st h => wpAny_pyIter_tupleiter st h
theorem turn_range {P : Program} {w : World} {K : PySem.W.Frag} {tg : Expr} (it : Addr) (lo : Int) (n : Nat) : Turn P w K tg (Itr lo n) [it] it (fun i h => IsRangeIter h it (lo + (i : Nat) * 1) ((n : Int) - (i : Nat)) 1) where
  mem := by simp
  obj := fun i h st b hb => by
    have e : b = it := by simpa using hb
    subst e
    exact ⟨_, st, fun v z => by
      have z' : Data.fields _ = Data.cell v := z
      cases z'⟩
  keep := fun i h h' st k => k it (by simp) _ st
  item := by
    intro X hP hw hK hc i pins s σ H E I hf st hg
    subst hP hw hK
    obtain ⟨f0, f1, f2, f3, f4, f5⟩ := hf it (by simp)
    have W := Walks.range (prog := X.prog) (w := X.w) (I.ok.hd hc) it lo 1 n
    refine W.item i s _ _ hg st fun v h' tk hv st' kk => ?_
    obtain ⟨t, rfl⟩ := hv
    have I1 : Inv X pins σ H { s with heap := h', toks := tk } := I.turned (fun b o hb e => kk b o (by simpa using hb) e) f0 f1 f3 f4 f5
    refine ⟨_, rfl, go_of (s := { s with heap := h', toks := tk }) (n := "range_iterator") st' rfl rfl (by decide) ⟨.int (lo + i), H, I1, ⟨t, ?_⟩, ⟨rfl, rfl⟩, st', fun b hb => (hf b hb).1⟩⟩
    rw [Int.mul_one]
  done := by
    intro X hP hw hK hc i pins s σ H E I hf st hg
    subst hP hw hK
    obtain ⟨f0, f1, f2, f3, f4, f5⟩ := hf it (by simp)
    exact wpAny_pyNext_range_end (I.ok.hd hc) st (by have : n ≤ i := hg; omega) fun h' eb => ⟨rfl, I.turned (t' := s.toks) (fun b o hb e => eb b o hb e) f0 f1 f3 f4 f5⟩
  self := fun _ _ _ _ _ st h => wpAny_pyIter_rangeiter st h
end L2

namespace L2
open PySem PySem.Spec PyProof.Rows
section
variable {X : Cx} {tg : Expr}
def iList (K : PySem.W.Frag) (tl : TE) : TI := fun σ H R => tl σ H fun x H1 => ∃ a, x = .ref a ∧ (∃ xs, SqL K H1 a xs) ∧ R (Itl K a) H1
def iTup (K : PySem.W.Frag) (tl : TE) : TI := fun σ H R => tl σ H fun x H1 => ∃ a, x = .ref a ∧ (∃ xs, SqT K H1 a xs) ∧ R (Itt K a) H1
theorem pi_list {l : Expr} {tl : TE} (hl : PE X l tl) : PI X tg l (iList X.K tl) := by
  intro pins s σ H R I h
  refine thn (hl pins s σ H _ I h) fun v s1 ⟨x, H1, I1, r1, q1⟩ => ?_
  obtain ⟨a, e, ⟨xs, hq⟩, q⟩ := q1
  subst e
  cases r1
  obtain ⟨its, rv, p, hz⟩ := I1.list hq
  refine wpAny_pyIter_list p.isList ?_
  refine ⟨s1.heap.objs.size, [s1.heap.objs.size], _, _, H1, rfl, I1.kept (t' := s1.toks) fun b o e => Heap.get?_push_of_some _ e, turn_list a _, ⟨_, Heap.get?_push_size _ rfl, rfl, rfl⟩, fun b hb => ?_, q⟩
  have e : b = s1.heap.objs.size := by simpa using hb
  subst e
  exact I1.fpOk (Nat.le_refl _) (I1.hok.fresh (Nat.le_refl _))
theorem pi_tup {l : Expr} {tl : TE} (hl : PE X l tl) : PI X tg l (iTup X.K tl) := by
  intro pins s σ H R I h
  refine thn (hl pins s σ H _ I h) fun v s1 ⟨x, H1, I1, r1, q1⟩ => ?_
  obtain ⟨a, e, ⟨xs, hq⟩, q⟩ := q1
  subst e
  cases r1
  obtain ⟨its, rv, p, hz⟩ := I1.tuple hq
  refine wpAny_pyIter_tuple (show s1.heap.IsTuple a its.toArray from p) ?_
  refine ⟨s1.heap.objs.size, [s1.heap.objs.size], _, _, H1, rfl, I1.kept (t' := s1.toks) fun b o e => Heap.get?_push_of_some _ e, turn_tuple a _, ⟨_, Heap.get?_push_size _ rfl, rfl, rfl⟩, fun b hb => ?_, q⟩
  have e : b = s1.heap.objs.size := by simpa using hb
  subst e
  exact I1.fpOk (Nat.le_refl _) (I1.hok.fresh (Nat.le_refl _))
/-- a range object just made, walked -/
theorem range_it {pins : List (Addr × Obj)} {σ : St} {H : Hp} {s : Shared} {R : It → Hp → Prop} {E : Value → Shared → Prop} {lo hi : Int} {t u v : Tok} {tk : Nat} (I : Inv X pins σ H s) (h1 : -(2 ^ 62) ≤ lo) (h2 : lo < 2 ^ 62) (h3 : -(2 ^ 62) ≤ hi) (h4 : hi < 2 ^ 62)
    (q : R (Itr lo (hi - lo).toNat) H) : wpAny (model X.prog X.w) X.A (pyIter (.ref s.heap.objs.size)) (PIE X pins σ tg R) E { s with heap := s.heap.push { cls := .type "range", data := .fields #[.int lo t, .int hi u, .int 1 v] }, toks := tk } := by
  refine wpAny_pyIter_range (IsRange.new ..) (small_one h1 h2 h3 h4) ?_
  have I1 : Inv X pins σ H { s with heap := s.heap.push { cls := .type "range", data := .fields #[.int lo t, .int hi u, .int 1 v] }, toks := tk } := I.kept fun b o e => Heap.get?_push_of_some _ e
  refine ⟨(s.heap.push { cls := .type "range", data := .fields #[.int lo t, .int hi u, .int 1 v] }).objs.size, [(s.heap.push { cls := .type "range", data := .fields #[.int lo t, .int hi u, .int 1 v] }).objs.size], _, _, H, rfl,
    I1.kept (t' := tk) fun b o e => Heap.get?_push_of_some _ e, turn_range _ lo (hi - lo).toNat, ?_, fun b hb => ?_, q⟩
  · have e1 : lo + ((0 : Nat) : Int) * 1 = lo := by simp
    have e2 : (((hi - lo).toNat : Nat) : Int) - ((0 : Nat) : Int) = Builtin.Range.rangeSize lo hi 1 := by rw [rangeSize_one]; split <;> omega
    show IsRangeIter _ _ (lo + ((0 : Nat) : Int) * 1) ((((hi - lo).toNat : Nat) : Int) - ((0 : Nat) : Int)) 1
    rw [e1, e2]
    exact Heap.get?_push_size _ rfl
  · have e : b = (s.heap.push { cls := .type "range", data := .fields #[.int lo t, .int hi u, .int 1 v] }).objs.size := by simpa using hb
    subst e
    exact I1.fpOk (Nat.le_refl _) (I1.hok.fresh (Nat.le_refl _))
def iRng1 (ta : TA) : TI := fun σ H R => ta σ H fun vs H1 => ∃ j : Int, vs = [.int j] ∧ -(2 ^ 62) ≤ j ∧ j < 2 ^ 62 ∧ R (Itr 0 j.toNat) H1
def iRng2 (ta : TA) : TI := fun σ H R => ta σ H fun vs H1 => ∃ i j : Int, vs = [.int i, .int j] ∧ (-(2 ^ 62) ≤ i ∧ i < 2 ^ 62 ∧ -(2 ^ 62) ≤ j ∧ j < 2 ^ 62) ∧ R (Itr i (j - i).toNat) H1
theorem pi_range1 {a : Expr} {ta : TA} {p pos : Pos} (hg : Gl X "range") (hm : X.mg "range" = none) (ha : PA X [a] ta) (hs : starEach [a] X.env = [(false, eval a X.env)] := by rfl) : PI X tg (.Call (.Name "range" p) [a] [] pos) (iRng1 ta) := by
  intro pins s σ H R I h
  refine Call_ (ld_blt I hg hm boot_range (PyProof.Rows.callWith_type1 (thn (ha pos pins s σ H _ I h) fun us s1 ⟨vs, H1, I1, r1, q1⟩ => ?_) hs rfl))
  obtain ⟨j, e, q1, q2, q⟩ := q1
  subst e
  cases r1 with
  | cons r rr =>
    cases rr
    obtain ⟨t, rfl⟩ := r
    exact call_range_1 (range_it I1 (by omega) (by omega) q1 q2 (by simpa using q))
theorem pi_range2 {a b : Expr} {ta : TA} {p pos : Pos} (hg : Gl X "range") (hm : X.mg "range" = none) (ha : PA X [a, b] ta) (hs : starEach [a, b] X.env = [(false, eval a X.env), (false, eval b X.env)] := by rfl) (hs2 : starEach [b] X.env = [(false, eval b X.env)] := by rfl) :
    PI X tg (.Call (.Name "range" p) [a, b] [] pos) (iRng2 ta) := by
  intro pins s σ H R I h
  refine Call_ (ld_blt I hg hm boot_range (PyProof.Rows.callWith_type1 (thn (ha pos pins s σ H _ I h) fun us s1 ⟨vs, H1, I1, r1, q1⟩ => ?_) (by rw [hs, hs2]) (by rw [hs2]; rfl)))
  obtain ⟨i, j, e, ⟨q1, q2, q3, q4⟩, q⟩ := q1
  subst e
  cases r1 with
  | cons r rr =>
    cases rr with
    | cons r' rr =>
      cases rr
      obtain ⟨t, rfl⟩ := r
      obtain ⟨t', rfl⟩ := r'
      exact call_range_2 (range_it I1 q1 q2 q3 q4 q)

/-! ### for -/
/-- W: the invariant by the turn and a measure; N: what the body is to reach -/
def tFor (wi : TI) (g : TG) (tb : TS) : TS := fun D σ H => wi σ H fun J H1 => ∃ W : Nat → Nat → St → Hp → Prop, (∃ m, W 0 m σ H1) ∧ ∀ i m σ H, W i m σ H →
  (J.stop i H ∧ D.nx σ H) ∨ (J.go i H ∧ ∃ N : St → Hp → Prop, (∀ σ' H', N σ' H' → ∃ m', m' < m ∧ W (i + 1) m' σ' H') ∧ ∀ x H', J.yld i H x H' → g x σ H' fun σ2 H2 => tb { D with nx := N, ct := N, bk := D.nx } σ2 H2)
/-- the records at fp as they stand -/
def pinsAt (fp : List Addr) (h : Heap) : List (Addr × Obj) := fp.filterMap fun b => (h.get? b).map fun o => (b, o)
theorem mem_pinsAt {fp : List Addr} {h : Heap} {b : Addr} {o : Obj} (hb : b ∈ fp) (e : h.get? b = some o) : (b, o) ∈ pinsAt fp h := List.mem_filterMap.mpr ⟨b, hb, by rw [e]; rfl⟩
theorem of_pinsAt {fp : List Addr} {h : Heap} {p : Addr × Obj} (hp : p ∈ pinsAt fp h) : p.1 ∈ fp ∧ h.get? p.1 = some p.2 := by
  obtain ⟨b, hb, e⟩ := List.mem_filterMap.mp hp
  cases q : h.get? b with
  | none => rw [q] at e; cases e
  | some o =>
    rw [q] at e
    have e' : (b, o) = p := Option.some.inj e
    subst e'
    exact ⟨hb, q⟩
theorem Inv.pinned {pins : List (Addr × Obj)} {σ : St} {H : Hp} {s : Shared} {fp : List Addr} (I : Inv X pins σ H s) (hf : ∀ b ∈ fp, FpOk X pins H b) (ho : ∀ b ∈ fp, ∃ o, s.heap.get? b = some o ∧ ∀ v, o.data ≠ .cell v) : Inv X (pins ++ pinsAt fp s.heap) σ H s :=
  I.pins_of fun p hp => (List.mem_append.mp hp).elim (fun z => I.pin p (List.mem_append_right _ z)) fun z => by
    obtain ⟨hb, e⟩ := of_pinsAt z
    obtain ⟨f0, f1, f2, _⟩ := hf p.1 hb
    obtain ⟨o, e', d⟩ := ho p.1 hb
    rw [e] at e'; cases e'
    exact ⟨e, f0, f1, f2, d⟩
theorem Inv.unpinned {pins pl : List (Addr × Obj)} {σ : St} {H : Hp} {s : Shared} (I : Inv X (pins ++ pl) σ H s) : Inv X pins σ H s := I.pins_of fun p hp => I.pin p (List.mem_append_right _ (List.mem_append_left _ hp))
theorem ps_for {iter : Expr} {body : List Stmt} {wi : TI} {g : TG} {tb : TS} {pos : Pos} (hp : PassesOwn (model X.prog X.w) X.A X.env X.xe) (hc : X.calm = true) (hi : PI X tg iter wi) (hg : PG X tg g) (hb : PSs X body tb)
    (hs : ∀ x, foldedSetIterable iter X.env x = pure x := by intro _; rfl) : PS X (.For tg iter body [] pos) (tFor wi g tb) := by
  intro pins s σ H D I h
  refine wpAny_For (thn (hi pins s σ H _ I h) fun v s1 h1 => thn h1 fun itv s2 h2 => ?_) hs
  obtain ⟨it, fp, tn, J, H2, e, I2, T, st2, f2, W, ⟨m0, w0⟩, turn⟩ := h2
  subst e
  -- what stays true of the iterator's objects through the loop
  have stat : ∀ {H' : Hp}, (∀ b ∈ fp, H' b = none) → ∀ b ∈ fp, FpOk X pins H' b := fun hn b hb => ⟨hn b hb, (f2 b hb).2⟩
  refine codeAny_forLoop_any (fun n s' => ∃ i σ' H', Inv X pins σ' H' s' ∧ tn i s'.heap ∧ (∀ b ∈ fp, H' b = none) ∧ W i n σ' H') ?_ m0 ⟨0, σ, H2, I2, st2, fun b hb => (f2 b hb).1, w0⟩
  rintro n s3 ⟨i, σ3, H3, I3, st3, fr3, w3⟩
  rcases turn i n σ3 H3 w3 with ⟨stop, qn⟩ | ⟨go, N, hN, step⟩
  · refine wpAny_passesOwn hp (thn (T.done X rfl rfl rfl hc i pins s3 σ3 H3 X.xe I3 (stat fr3) st3 stop) fun r s4 ⟨hr, I4⟩ => ?_)
    subst hr
    exact wpAny_execs_nil ⟨σ3, H3, I4, qn⟩
  · refine wpAny_passesOwn hp (thn (T.item X rfl rfl rfl hc i pins s3 σ3 H3 X.xe I3 (stat fr3) st3 go) fun r s4 ⟨u, hr, h4⟩ => ?_)
    subst hr
    refine wpAny_passesOwn hp (thn h4 fun _ s5 ⟨x, H5, I5, r5, y5, st5, fr5⟩ => ?_)
    have I5' := I5.pinned (stat fr5) (T.obj _ _ st5)
    refine wpAny_passesOwn hp (thn (hg _ s5 σ3 H5 x u _ I5' r5 (step x H5 y5)) fun _ s6 ⟨σ6, H6, I6, q6⟩ => ?_)
    refine wpAny_passesOwn hp (thn (hb _ s6 σ6 H6 _ I6 q6) fun f s7 q7 => ?_)
    have again : ∀ {σ7 : St} {H7 : Hp}, Inv X (pins ++ pinsAt fp s5.heap) σ7 H7 s7 → N σ7 H7 → ∃ m, m < n ∧ ∃ i σ' H', Inv X pins σ' H' s7 ∧ tn i s7.heap ∧ (∀ b ∈ fp, H' b = none) ∧ W i m σ' H' := fun {σ7 H7} I7 n7 => by
      obtain ⟨m', hm, w7⟩ := hN σ7 H7 n7
      refine ⟨m', hm, i + 1, σ7, H7, I7.unpinned, T.keep _ _ _ st5 fun b hb o e => (I7.pin (b, o) (List.mem_append_right _ (List.mem_append_right _ (mem_pinsAt hb e)))).1, fun b hb => ?_, w7⟩
      obtain ⟨o, e, d⟩ := T.obj _ _ st5 b hb
      exact (I7.pin (b, o) (List.mem_append_right _ (List.mem_append_right _ (mem_pinsAt hb e)))).2.1
    cases f with
    | next => obtain ⟨σ7, H7, I7, n7⟩ := q7; exact again I7 n7
    | cont => obtain ⟨σ7, H7, I7, n7⟩ := q7; exact again I7 n7
    | brk => obtain ⟨σ7, H7, I7, q7⟩ := q7; exact ⟨σ7, H7, I7.unpinned, q7⟩
    | ret v => obtain ⟨x7, σ7, H7, I7, r7, q7⟩ := q7; exact ⟨x7, σ7, H7, I7.unpinned, r7, q7⟩
end

/-! ### the forms one uses -/
end L2

namespace L2
open PySem PySem.Spec PyProof.Rows

abbrev R2 := V → V → Hp → VK → Prop
/-- a two-place operation on values: f is binaryOp op, inplaceOp op or compareOp op -/
def OpR (X : Cx) (f : Value → Value → Sem Value) (r : R2) : Prop :=
  ∀ (pins : List (Addr × Obj)) (s : Shared) (σ : St) (H : Hp) (x y : V) (v u : Value) (Q : VK), Inv X pins σ H s → RelV x v → RelV y u → r x y H Q →
    wpAny (model X.prog X.w) X.A (f v u) (EP X pins σ Q) X.xe s
/-- a one-place operation -/
def UnR (X : Cx) (f : Value → Sem Value) (r : V → Hp → VK → Prop) : Prop :=
  ∀ (pins : List (Addr × Obj)) (s : Shared) (σ : St) (H : Hp) (x : V) (v : Value) (Q : VK), Inv X pins σ H s → RelV x v → r x H Q →
    wpAny (model X.prog X.w) X.A (f v) (EP X pins σ Q) X.xe s
/-- a call of a value that is known (a builtin, a type) with values -/
def CallR (X : Cx) (f : Value) (r : List V → Hp → VK → Prop) : Prop :=
  ∀ (pins : List (Addr × Obj)) (s : Shared) (σ : St) (H : Hp) (xs : List V) (us : List Value) (Q : VK), Inv X pins σ H s → Vals xs us → r xs H Q →
    wpAny (model X.prog X.w) X.A (call f us) (EP X pins σ Q) X.xe s

def tOp (r : R2) (ta tb : TE) : TE := fun σ H Q => ta σ H fun x H1 => tb σ H1 fun y H2 => r x y H2 Q
def tUn (r : V → Hp → VK → Prop) (ta : TE) : TE := fun σ H Q => ta σ H fun x H1 => r x H1 Q
/-- ints in, under C, and a value out -/
def rI (C : Int → Int → Prop) (g : Int → Int → V) : R2 := fun x y H Q => ∃ i j, x = .int i ∧ y = .int j ∧ C i j ∧ Q (g i j) H
def rI0 (g : Int → Int → V) : R2 := fun x y H Q => ∃ i j, x = .int i ∧ y = .int j ∧ Q (g i j) H
def rU (g : Int → V) : V → Hp → VK → Prop := fun x H Q => ∃ i, x = .int i ∧ Q (g i) H

section
variable {X : Cx} {a b c : Expr} {ta tb tc : TE} {pos : Pos}

theorem binT (ha : PE X a ta) (hb : PE X b tb) {pins : List (Addr × Obj)} {s : Shared} {σ : St} {H : Hp} {R : V → V → Hp → Prop} (I : Inv X pins σ H s)
    (h : ta σ H fun x H1 => tb σ H1 fun y H2 => R x y H2) {Q : Value → Shared → Prop} {f : Value → Value → Sem Value}
    (hf : ∀ v u s2 x y H2, Inv X pins σ H2 s2 → RelV x v → RelV y u → R x y H2 → wpAny (model X.prog X.w) X.A (f v u) Q X.xe s2) :
    wpAny (model X.prog X.w) X.A (eval a X.env) (fun v s₁ => wpAny (model X.prog X.w) X.A (eval b X.env) (fun u s₂ => wpAny (model X.prog X.w) X.A (f v u) Q X.xe s₂) X.xe s₁) X.xe s := by
  refine thn (ha pins s σ H _ I h) fun v s1 ⟨x, H1, I1, r1, q1⟩ => ?_
  refine thn (hb pins s1 σ H1 _ I1 q1) fun u s2 ⟨y, H2, I2, r2, q2⟩ => ?_
  exact hf v u s2 x y H2 I2 r1 r2 q2

theorem pe_op {op : Operator} {r : R2} (ho : OpR X (binaryOp op) r) (ha : PE X a ta) (hb : PE X b tb) : PE X (.BinOp a op b pos) (tOp r ta tb) := by
  intro pins s σ H Q I h
  exact wpAny_BinOp (binT ha hb I h fun v u s2 x y H2 I2 rx ry q => ho pins s2 σ H2 x y v u Q I2 rx ry q)
theorem pe_un {op : UnaryOp} {r : V → Hp → VK → Prop} (ho : UnR X (unaryOp op) r) (ha : PE X a ta) : PE X (.UnaryOp op a pos) (tUn r ta) := by
  intro pins s σ H Q I h
  exact UnaryOp_ (thn (ha pins s σ H _ I h) fun v s1 ⟨x, H1, I1, r1, q1⟩ => ho pins s1 σ H1 x v Q I1 r1 q1)

/-! ### ints -/
theorem opI {f : Value → Value → Sem Value} {C : Int → Int → Prop} {g : Int → Int → Int}
    (rule : ∀ (i j : Int) (t u : Tok) (s : Shared) (Q : Value → Shared → Prop) (E : Value → Shared → Prop), C i j → Q (.int (g i j) s.toks) { s with toks := s.toks + 1 } → wpAny (model X.prog X.w) X.A (f (.int i t) (.int j u)) Q E s) :
    OpR X f (rI C fun i j => .int (g i j)) := by
  intro pins s σ H x y v u Q I rx ry h
  obtain ⟨i, j, rfl, rfl, hc, q⟩ := h
  obtain ⟨t, rfl⟩ := rx
  obtain ⟨t', rfl⟩ := ry
  exact rule i j t t' s _ _ hc ⟨.int (g i j), H, I.tok _, ⟨_, rfl⟩, q⟩
theorem opI0 {f : Value → Value → Sem Value} {g : Int → Int → Int}
    (rule : ∀ (i j : Int) (t u : Tok) (s : Shared) (Q : Value → Shared → Prop) (E : Value → Shared → Prop), Q (.int (g i j) s.toks) { s with toks := s.toks + 1 } → wpAny (model X.prog X.w) X.A (f (.int i t) (.int j u)) Q E s) :
    OpR X f (rI0 fun i j => .int (g i j)) := by
  intro pins s σ H x y v u Q I rx ry h
  obtain ⟨i, j, rfl, rfl, q⟩ := h
  obtain ⟨t, rfl⟩ := rx
  obtain ⟨t', rfl⟩ := ry
  exact rule i j t t' s _ _ ⟨.int (g i j), H, I.tok _, ⟨_, rfl⟩, q⟩
theorem opB0 {f : Value → Value → Sem Value} {g : Int → Int → Bool}
    (rule : ∀ (i j : Int) (t u : Tok) (s : Shared) (Q : Value → Shared → Prop) (E : Value → Shared → Prop), Q (.bool (g i j)) s → wpAny (model X.prog X.w) X.A (f (.int i t) (.int j u)) Q E s) :
    OpR X f (rI0 fun i j => .bl (g i j)) := by
  intro pins s σ H x y v u Q I rx ry h
  obtain ⟨i, j, rfl, rfl, q⟩ := h
  obtain ⟨t, rfl⟩ := rx
  obtain ⟨t', rfl⟩ := ry
  exact rule i j t t' s _ _ ⟨.bl (g i j), H, I, rfl, q⟩

def CDiv (i j : Int) : Prop := 0 < j ∧ j < 1073741824
def CPow (i j : Int) : Prop := 0 ≤ j ∧ j ≤ 1000000 ∧ i.natAbs < 2 ^ 64
def CMul (i j : Int) : Prop := (-(2 ^ 64) < i ∧ i < 2 ^ 64) ∨ (-(2 ^ 64) < j ∧ j < 2 ^ 64)
theorem CMul.ok {i j : Int} (h : CMul i j) : IntMulOk i j := by
  rcases h with ⟨h1, h2⟩ | ⟨h1, h2⟩
  · exact .of_left (intBits_le_64 h1 h2)
  · exact .of_right (intBits_le_64 h1 h2)

theorem op_add : OpR X (binaryOp .Add) (rI0 fun i j => .int (i + j)) := opI0 fun _ _ _ _ _ _ _ q => add_int q
theorem op_sub : OpR X (binaryOp .Sub) (rI0 fun i j => .int (i - j)) := opI0 fun _ _ _ _ _ _ _ q => sub_int q
theorem op_mul : OpR X (binaryOp .Mult) (rI CMul fun i j => .int (i * j)) := opI fun _ _ _ _ _ _ _ hc q => mul_int q hc.ok
/-- // by a positive divisor -/
theorem op_fdiv : OpR X (binaryOp .FloorDiv) (rI CDiv fun i j => .int (i / j)) := opI fun i j _ _ _ _ _ hc q => by
  have h1 : (0 : Int) < j := hc.1
  have h2 : j < 1073741824 := hc.2
  exact floordiv_int (by omega) (by rw [Int.fdiv_eq_ediv_of_nonneg i (by omega)]; exact q) (.inl (PyProof.noPylong_small (by omega)))
/-- % by a positive divisor of any size -/
theorem op_mod : OpR X (binaryOp .Mod) (rI (fun _ j => 0 < j) fun i j => .int (i % j)) := opI fun i j _ _ _ _ _ hc q => by
  have h1 : (0 : Int) < j := hc
  exact mod_int' (by omega) (by rw [Int.fmod_eq_emod_of_nonneg i (by omega)]; exact q)
theorem op_pow : OpR X (binaryOp .Pow) (rI CPow fun i j => .int (i ^ j.toNat)) := opI fun _ _ _ _ _ _ _ hc q => pow_int_small hc.1 hc.2.1 hc.2.2 q


theorem unI {f : Value → Sem Value} {g : Int → Int}
    (rule : ∀ (i : Int) (t : Tok) (s : Shared) (Q : Value → Shared → Prop) (E : Value → Shared → Prop), Q (.int (g i) s.toks) { s with toks := s.toks + 1 } → wpAny (model X.prog X.w) X.A (f (.int i t)) Q E s) :
    UnR X f (rU fun i => .int (g i)) := by
  intro pins s σ H x v Q I rx h
  obtain ⟨i, rfl, q⟩ := h
  obtain ⟨t, rfl⟩ := rx
  exact rule i t s _ _ ⟨.int (g i), H, I.tok _, ⟨_, rfl⟩, q⟩
theorem un_neg : UnR X (unaryOp .USub) (rU fun i => .int (-i)) := unI fun _ _ _ _ _ q => neg_int q

/-! ### bools among ints: n += (a < b) -/
end

/-! ### comparisons -/
/-- the scalars that == tells apart as data does -/
def scal : V → V → Bool
  | .non, .non => true | .non, .int _ => true | .int _, .non => true | .non, .bl _ => true | .bl _, .non => true | .non, .str _ => true | .str _, .non => true
  | .int _, .int _ => true | .bl _, .bl _ => true | .str _, .str _ => true | .byt _, .byt _ => true
  | .int _, .str _ => true | .str _, .int _ => true | .bl _, .str _ => true | .str _, .bl _ => true
  | _, _ => false
def rEq : R2 := fun x y H Q => scal x y = true ∧ Q (.bl (decide (x = y))) H
def rNe : R2 := fun x y H Q => scal x y = true ∧ Q (.bl (!decide (x = y))) H

theorem dec_int {i j : Int} : decide (V.int i = V.int j) = (i == j) := by
  rw [Bool.eq_iff_iff]
  simp
theorem dec_bl {i j : Bool} : decide (V.bl i = V.bl j) = (i == j) := by
  rw [Bool.eq_iff_iff]
  simp
theorem dec_str {i j : Str} : decide (V.str i = V.str j) = (i == j) := by
  rw [Bool.eq_iff_iff]
  simp
theorem dec_byt {i j : Array UInt8} : decide (V.byt i = V.byt j) = (i.toList == j.toList) := by
  rw [Bool.eq_iff_iff]
  cases i
  cases j
  simp

section
variable {X : Cx} {a b c : Expr} {ta tb tc : TE} {pos : Pos}
theorem fin_bl {pins : List (Addr × Obj)} {σ : St} {H : Hp} {s : Shared} {Q : VK} {k k' : Bool} (I : Inv X pins σ H s) (q : Q (.bl k) H) (e : k = k') : EP X pins σ Q (.bool k') s := by
  subst e
  exact ⟨.bl k, H, I, rfl, q⟩
theorem op_eq : OpR X (compareOp .Eq) rEq := by
  intro pins s σ H x y v u Q I rx ry h
  obtain ⟨hs, q⟩ := h
  cases x with
  | non =>
    cases rx
    cases y with
    | non => cases ry; exact PySem.EqNone.eq_none_none (fin_bl I q (by simp))
    | bl j => cases ry; exact PySem.EqNone.eq_none_bool (fin_bl I q (by simp))
    | int j => obtain ⟨t', rfl⟩ := ry; exact PySem.EqNone.eq_none_int (fin_bl I q (by simp))
    | str j => obtain ⟨t', rfl⟩ := ry; exact PySem.EqNone.eq_none_str (fin_bl I q (by simp))
    | _ => exact absurd (show false = true from hs) Bool.false_ne_true
  | bl i =>
    cases rx
    cases y with
    | non => cases ry; exact PySem.EqNone.eq_bool_none (fin_bl I q (by simp))
    | bl j => cases ry; exact eq_bool (fin_bl I q dec_bl)
    | str j => obtain ⟨t', rfl⟩ := ry; exact PySem.EqMixed.eq_bool_str (fin_bl I q (by simp))
    | _ => exact absurd (show false = true from hs) Bool.false_ne_true
  | int i =>
    obtain ⟨t, rfl⟩ := rx
    cases y with
    | non => cases ry; exact PySem.EqNone.eq_int_none (fin_bl I q (by simp))
    | int j => obtain ⟨t', rfl⟩ := ry; exact eq_int (fin_bl I q dec_int)
    | str j => obtain ⟨t', rfl⟩ := ry; exact PySem.EqMixed.eq_int_str (fin_bl I q (by simp))
    | _ => exact absurd (show false = true from hs) Bool.false_ne_true
  | str i =>
    obtain ⟨t, rfl⟩ := rx
    cases y with
    | non => cases ry; exact PySem.EqNone.eq_str_none (fin_bl I q (by simp))
    | bl j => cases ry; exact PySem.EqMixed.eq_str_bool (fin_bl I q (by simp))
    | int j => obtain ⟨t', rfl⟩ := ry; exact PySem.EqMixed.eq_str_int (fin_bl I q (by simp))
    | str j => obtain ⟨t', rfl⟩ := ry; exact eq_str (fin_bl I q dec_str)
    | _ => exact absurd (show false = true from hs) Bool.false_ne_true
  | byt i =>
    obtain ⟨t, rfl⟩ := rx
    cases y with
    | byt j => obtain ⟨t', rfl⟩ := ry; exact PySem.W.eq_bytes (fin_bl I q dec_byt)
    | _ => exact absurd (show false = true from hs) Bool.false_ne_true
  | _ => cases y <;> exact absurd (show false = true from hs) Bool.false_ne_true
theorem op_ne : OpR X (compareOp .NotEq) rNe := by
  intro pins s σ H x y v u Q I rx ry h
  obtain ⟨hs, q⟩ := h
  cases x with
  | non =>
    cases rx
    cases y with
    | non => cases ry; exact PySem.EqNone.ne_none_none (fin_bl I q (by simp))
    | bl j => cases ry; exact PySem.EqNone.ne_none_bool (fin_bl I q (by simp))
    | int j => obtain ⟨t', rfl⟩ := ry; exact PySem.EqNone.ne_none_int (fin_bl I q (by simp))
    | str j => obtain ⟨t', rfl⟩ := ry; exact PySem.EqNone.ne_none_str (fin_bl I q (by simp))
    | _ => exact absurd (show false = true from hs) Bool.false_ne_true
  | bl i =>
    cases rx
    cases y with
    | non => cases ry; exact PySem.EqNone.ne_bool_none (fin_bl I q (by simp))
    | bl j => cases ry; exact ne_bool (fin_bl I q (congrArg not dec_bl))
    | str j => obtain ⟨t', rfl⟩ := ry; exact PySem.EqMixed.ne_bool_str (fin_bl I q (by simp))
    | _ => exact absurd (show false = true from hs) Bool.false_ne_true
  | int i =>
    obtain ⟨t, rfl⟩ := rx
    cases y with
    | non => cases ry; exact PySem.EqNone.ne_int_none (fin_bl I q (by simp))
    | int j => obtain ⟨t', rfl⟩ := ry; exact ne_int (fin_bl I q (congrArg not dec_int))
    | str j => obtain ⟨t', rfl⟩ := ry; exact PySem.EqMixed.ne_int_str (fin_bl I q (by simp))
    | _ => exact absurd (show false = true from hs) Bool.false_ne_true
  | str i =>
    obtain ⟨t, rfl⟩ := rx
    cases y with
    | non => cases ry; exact PySem.EqNone.ne_str_none (fin_bl I q (by simp))
    | bl j => cases ry; exact PySem.EqMixed.ne_str_bool (fin_bl I q (by simp))
    | int j => obtain ⟨t', rfl⟩ := ry; exact PySem.EqMixed.ne_str_int (fin_bl I q (by simp))
    | str j => obtain ⟨t', rfl⟩ := ry; exact ne_str (fin_bl I q (congrArg not dec_str))
    | _ => exact absurd (show false = true from hs) Bool.false_ne_true
  | byt i =>
    obtain ⟨t, rfl⟩ := rx
    cases y with
    | byt j => obtain ⟨t', rfl⟩ := ry; exact PySem.W.ne_bytes (fin_bl I q (congrArg not dec_byt))
    | _ => exact absurd (show false = true from hs) Bool.false_ne_true
  | _ => cases y <;> exact absurd (show false = true from hs) Bool.false_ne_true

theorem op_lt : OpR X (compareOp .Lt) (rI0 fun i j => .bl (decide (i < j))) := opB0 fun _ _ _ _ _ _ _ q => lt_int q
theorem op_le : OpR X (compareOp .LtE) (rI0 fun i j => .bl (decide (i ≤ j))) := opB0 fun _ _ _ _ _ _ _ q => le_int q
theorem op_gt : OpR X (compareOp .Gt) (rI0 fun i j => .bl (decide (j < i))) := opB0 fun _ _ _ _ _ _ _ q => gt_int q
theorem op_ge : OpR X (compareOp .GtE) (rI0 fun i j => .bl (decide (j ≤ i))) := opB0 fun _ _ _ _ _ _ _ q => ge_int q



/-- two rules for one operation: by cases -/
theorem OpR.or {f : Value → Value → Sem Value} {r r' : R2} (h : OpR X f r) (h' : OpR X f r') : OpR X f (fun x y H Q => r x y H Q ∨ r' x y H Q) := by
  intro pins s σ H x y v u Q I rx ry q
  rcases q with q | q
  · exact h pins s σ H x y v u Q I rx ry q
  · exact h' pins s σ H x y v u Q I rx ry q

theorem nomark (b : Expr) {op : CmpOp} (h : op ≠ .In := by decide) (h2 : op ≠ .NotIn := by decide) : behindInMarks op b = false := by
  have e1 : (op == CmpOp.In) = false := by cases op <;> first | rfl | exact absurd rfl h
  have e2 : (op == CmpOp.NotIn) = false := by cases op <;> first | rfl | exact absurd rfl h2
  cases b <;> simp [behindInMarks, e1, e2]
/-- a comparison as a value; hm: nomark b, or (for in, not in) by with_unfolding_all rfl -/
theorem pe_cmpR {op : CmpOp} {r : R2} (ho : OpR X (compareOp op) r) (ha : PE X a ta) (hb : PE X b tb) (hm : behindInMarks op b = false) : PE X (.Compare a [op] [b] pos) (tOp r ta tb) := by
  intro pins s σ H Q I h
  exact wpAny_Compare1 (binT ha hb I h fun v u s2 x y H2 I2 rx ry q => ho pins s2 σ H2 x y v u Q I2 rx ry q) hm
/-- a reading of a value as a test -/
def tTest (t : TE) : TT := fun σ H Q => t σ H fun x H' => ∃ k, x = .bl k ∧ Q k H'
theorem pt_cmpR {op : CmpOp} {r : R2} (ho : OpR X (compareOp op) r) (ha : PE X a ta) (hb : PE X b tb) (hm : behindInMarks op b = false) : PT X (.Compare a [op] [b] pos) (tTest (tOp r ta tb)) := by
  intro pins s σ H Q I h
  refine wpAny_isTrue_Compare1 (thn (ha pins s σ H _ I h) fun v s1 ⟨x, H1, I1, r1, q1⟩ => thn (hb pins s1 σ H1 _ I1 q1) fun u s2 ⟨y, H2, I2, r2, q2⟩ =>
    thn (ho pins s2 σ H2 x y v u _ I2 r1 r2 q2) fun c s3 ⟨z, H3, I3, r3, k, e, q3⟩ => ?_) hm
  subst e
  cases r3
  exact wpAny_truthy_bool ⟨H3, I3, q3⟩
/-- a op1 b op2 c -/
def tChain (r r' : R2) (ta tb tc : TE) : TE := fun σ H Q => ta σ H fun x H1 => tb σ H1 fun y H2 => r x y H2 fun z H3 => ∃ k, z = .bl k ∧
  (if k = true then tc σ H3 fun w' H4 => r' y w' H4 Q else Q (.bl false) H3)
theorem pe_chain {op op' : CmpOp} {r r' : R2} (ho : OpR X (compareOp op) r) (ho' : OpR X (compareOp op') r') (ha : PE X a ta) (hb : PE X b tb) (hc : PE X c tc)
    (hm : lastMarks [op, op'] [b, c] = false := by with_unfolding_all rfl) : PE X (.Compare a [op, op'] [b, c] pos) (tChain r r' ta tb tc) := by
  intro pins s σ H Q I h
  refine Compare_chain (thn (ha pins s σ H _ I h) fun v s1 ⟨x, H1, I1, r1, q1⟩ => chain_link (thn (hb pins s1 σ H1 _ I1 q1) fun u s2 ⟨y, H2, I2, r2, q2⟩ =>
    thn (ho pins s2 σ H2 x y v u _ I2 r1 r2 q2) fun d s3 ⟨z, H3, I3, r3, k, e, q3⟩ => ?_)) hm
  subst e
  cases r3
  refine wpAny_truthy_bool ?_
  cases k with
  | false => exact ite_ff ⟨.bl false, H3, I3, rfl, q3⟩
  | true => exact ite_tt (chain_last (thn (hc pins s3 σ H3 _ I3 q3) fun w' s4 ⟨z', H4, I4, r4, q4⟩ => ho' pins s4 σ H4 y z' u w' Q I4 r2 r4 q4))
theorem pt_chain {op op' : CmpOp} {r r' : R2} (ho : OpR X (compareOp op) r) (ho' : OpR X (compareOp op') r') (ha : PE X a ta) (hb : PE X b tb) (hc : PE X c tc)
    (hm : lastMarks [op, op'] [b, c] = false := by with_unfolding_all rfl) : PT X (.Compare a [op, op'] [b, c] pos) (tTest (tChain r r' ta tb tc)) := by
  intro pins s σ H Q I h
  refine isTrue_chain (thn (ha pins s σ H _ I h) fun v s1 ⟨x, H1, I1, r1, q1⟩ => test_link (thn (hb pins s1 σ H1 _ I1 q1) fun u s2 ⟨y, H2, I2, r2, q2⟩ =>
    thn (ho pins s2 σ H2 x y v u _ I2 r1 r2 q2) fun d s3 ⟨z, H3, I3, r3, k, e, q3⟩ => ?_)) hm
  subst e
  cases r3
  refine wpAny_truthy_bool ?_
  cases k with
  | false =>
    obtain ⟨k', e', q'⟩ := q3
    cases e'
    exact ite_ff ⟨H3, I3, q'⟩
  | true =>
    refine ite_tt (test_last (thn (hc pins s3 σ H3 _ I3 q3) fun w' s4 ⟨z', H4, I4, r4, q4⟩ => thn (ho' pins s4 σ H4 y z' u w' _ I4 r2 r4 q4) fun d' s5 ⟨z2, H5, I5, r5, k2, e2, q5⟩ => ?_))
    subst e2
    cases r5
    exact wpAny_truthy_bool ⟨H5, I5, q5⟩

/-! ### truth -/
theorem line63 : (sizeLine : Nat) < 2 ^ 63 := by rw [sizeLine_eq]; decide

/-! ### strs and bytes -/
theorem op_add_str : OpR X (binaryOp .Add) (fun x y H Q => ∃ i j, x = .str i ∧ y = .str j ∧ i.length + j.length ≤ sizeLine ∧ Q (.str (i ++ j)) H) := by
  intro pins s σ H x y v u Q I rx ry h
  obtain ⟨i, j, rfl, rfl, hz, q⟩ := h
  obtain ⟨t, rfl⟩ := rx
  obtain ⟨t', rfl⟩ := ry
  exact add_str (fun t' tk => ⟨.str (i ++ j), H, I.tok _, ⟨_, rfl⟩, q⟩) hz


/-! ### scalar builtins, by CallR -/
theorem vals1 {x : V} {us : List Value} (r : Vals [x] us) : ∃ u, us = [u] ∧ RelV x u := by
  cases r with
  | cons r1 r2 => cases r2; exact ⟨_, rfl, r1⟩
theorem vals2 {x y : V} {us : List Value} (r : Vals [x, y] us) : ∃ u w', us = [u, w'] ∧ RelV x u ∧ RelV y w' := by
  cases r with
  | cons r1 r2 =>
    cases r2 with
    | cons r3 r4 => cases r4; exact ⟨_, _, rfl, r1, r3⟩
theorem call_abs : CallR X (.builtin "abs") (fun xs H Q => ∃ i, xs = [.int i] ∧ Q (.int (if i < 0 then -i else i)) H) := by
  intro pins s σ H xs us Q I r h
  obtain ⟨i, rfl, q⟩ := h
  obtain ⟨u, rfl, t, rfl⟩ := vals1 r
  exact call_abs_int fun u tk => ⟨.int (if i < 0 then -i else i), H, I.tok _, ⟨_, rfl⟩, q⟩
theorem call_max2 (hc : X.calm = true) : CallR X (.builtin "max") (fun xs H Q => ∃ i j, xs = [.int i, .int j] ∧ Q (.int (if j > i then j else i)) H) := by
  intro pins s σ H xs us Q I r h
  obtain ⟨i, j, rfl, q⟩ := h
  obtain ⟨u, w', rfl, ⟨t, rfl⟩, ⟨t', rfl⟩⟩ := vals2 r
  refine max_two_ints (I.ok.hd hc) fun h' tk k => ⟨_, H, I.kept k, ?_, q⟩
  by_cases hj : j > i
  · rw [if_pos hj, if_pos hj]; exact ⟨_, rfl⟩
  · rw [if_neg hj, if_neg hj]; exact ⟨_, rfl⟩
theorem call_min2 (hc : X.calm = true) : CallR X (.builtin "min") (fun xs H Q => ∃ i j, xs = [.int i, .int j] ∧ Q (.int (if j < i then j else i)) H) := by
  intro pins s σ H xs us Q I r h
  obtain ⟨i, j, rfl, q⟩ := h
  obtain ⟨u, w', rfl, ⟨t, rfl⟩, ⟨t', rfl⟩⟩ := vals2 r
  refine min_two_ints (I.ok.hd hc) fun h' tk k => ⟨_, H, I.kept k, ?_, q⟩
  by_cases hj : j < i
  · rw [if_pos hj, if_pos hj]; exact ⟨_, rfl⟩
  · rw [if_neg hj, if_neg hj]; exact ⟨_, rfl⟩
end
end L2

namespace L2
open PySem PySem.Spec PyProof.Rows

/-! ### an instance, its attributes a map -/
structure ObjM (h : Heap) (x dx C : Addr) (mA : Str → Option Value) : Prop where
  obj : h.get? x = some (PySem.W.instObj C dx)
  ns : h.Ns1 dx mA
  ne : dx ≠ x

theorem lookIn_ns {h : Heap} {dx : Addr} {mA : Str → Option Value} (n : h.Ns1 dx mA) : ∃ od, h.get? dx = some od ∧ ∀ name, PySem.W.lookIn name od = some (mA name) := by
  obtain ⟨o, es, ep, ho, hd, hk, _, hm⟩ := n
  refine ⟨o, ho, fun name => ?_⟩
  have e := hm name
  unfold nsFind findBy at e
  rw [← Array.find?_toList] at e
  unfold PySem.W.lookIn
  rw [hd]
  dsimp only
  split
  · rename_i y q
    rw [q] at e
    exact congrArg some e
  · rename_i q
    rw [q] at e
    have a : es.toList.any (·.refKey) = false := by
      rw [List.any_eq_false]
      intro y hy
      obtain ⟨z, t, hkey⟩ := hk y (Array.mem_toList_iff.mp hy)
      simp [DictEntry.refKey, hkey]
    have a' : ¬ es.toList.any (·.refKey) = true := by rw [a]; exact Bool.false_ne_true
    rw [if_neg a']
    exact congrArg some e

theorem ObjM.look {h : Heap} {x dx C : Addr} {mA : Str → Option Value} (I : ObjM h x dx C mA) : ∃ od, PySem.W.InstAt h x (PySem.W.instObj C dx) C (some od) ∧ ∀ name, PySem.W.lookIn name od = some (mA name) :=
  let ⟨od, ho, hl⟩ := lookIn_ns I.ns
  ⟨od, ⟨I.obj, rfl, rfl, ho⟩, hl⟩

section
variable {prog : Program} {w : World} {A : Around} {E : Value → Shared → Prop} {s : Shared} {K : PySem.W.Frag} {x dx C f : Addr} {mA : Str → Option Value} {name : Str} {v : Value}





end

/-! ### the attributes as a list of pairs -/


section
variable {P : Program} {w : World} {H H' : Hp} {h h' : Heap} {a C dx : Addr} {fs fs' : List (Str × V)}
theorem ins_get (hok : HOk P w H h) (e : H a = some (.ins C dx fs)) : ∃ mA, ObjM h a dx C mA ∧ (∀ f, RelO (fs.lookup f) (mA f)) ∧ PySem.Within mA (fs.map (·.1)) ∧ fs.length ≤ 1000 ∧ H dx = some (.own a) := by
  obtain ⟨d, z, ne, ob, mA, n, r, q⟩ := (show ObjOk P w H h a (.ins C dx fs) from hok a _ e)
  exact ⟨mA, ⟨ob, n, ne⟩, r, q, z, d⟩
end

/-! ### what of the text a class must have -/
structure Cls (K : PySem.W.Frag) (C : Addr) : Prop where
  pg : PySem.W.plainGet K C Str.empty = true
  hd : PySem.W.hasDictIn K C = true
  po : PySem.W.plainOver K C = true
  sa : PySem.W.findIn K (.ref C) "__setattr__" = some (some (.builtin "object.__setattr__"))
theorem Cls.get {K : PySem.W.Frag} {C : Addr} (c : Cls K C) (f : Str) : PySem.W.plainGet K C f = true := c.pg

section
variable {X : Cx} {pins : List (Addr × Obj)} {σ : St} {H : Hp} {s : Shared} {a C dx : Addr} {fs : List (Str × V)} {f : Str} {v : V} {A : Around} {E : Value → Shared → Prop}






end

/-! ### readings and rules -/

section
variable {X : Cx} {o e value : Expr} {f : Str} {pos pos' tpos : Pos} {ta tv : TE}

end

/-! ### isinstance -/
section
variable {X : Cx} {pins : List (Addr × Obj)} {σ : St} {H : Hp} {s : Shared} {A : Around} {E : Value → Shared → Prop} {Q : Value → Shared → Prop} {c : Value} {b : Bool}
/-- the type of a value, as the fragment's deciders take it; for an instance its class -/
inductive TyOf (K : PySem.W.Frag) (H : Hp) : V → Value → Prop where
  | non : TyOf K H .non (.type "NoneType")
  | bl (x : Bool) : TyOf K H (.bl x) (.type "bool")
  | int (i : Int) : TyOf K H (.int i) (.type "int")
  | str (x : Str) : TyOf K H (.str x) (.type "str")
  | flt (x : UInt64) : TyOf K H (.flt x) (.type "float")
  | lst {a : Addr} {xs : List V} (e : H a = some (.lst xs)) : TyOf K H (.ref a) (.type "list")
  | frz {a : Addr} {o : Obj} {xs : List V} (e : H a = some (.frz o (.lst xs))) : TyOf K H (.ref a) (.type "list")
  | tup {a : Addr} {xs : List V} (e : H a = some (.tup xs)) : TyOf K H (.ref a) (.type "tuple")
  | dK {a : Addr} {kvs : List (Key × V)} (e : H a = some (.dK kvs)) : TyOf K H (.ref a) (.type "dict")
  | dT {a : Addr} {kvs : List (List Key × V)} (e : H a = some (.dT kvs)) : TyOf K H (.ref a) (.type "dict")
  | ins {a C dx : Addr} {fs : List (Str × V)} (e : H a = some (.ins C dx fs)) (cl : Cls K C) (ha : PySem.W.findIn K (.ref C) "__class__" = some (some (.builtin "object.__class__")))
      (hn : PySem.W.specialIn K (.builtin "object.__class__") "__get__" = some (some (.builtin "getset_descriptor.__get__"))) (htk : PySem.W.takesIn K (.builtin "object.__class__") = some true)
      (hm : PySem.W.mroIn K C (.type "object") = some true) : TyOf K H (.ref a) (.ref C)
/-- isinstance(x, c) for one class c, a built-in or an own one: kitOne's answer -/
theorem isinst_ok {x : V} {u t : Value} (I : Inv X pins σ H s) (rx : RelV x u) (ty : TyOf X.K H x t) (e : PySem.W.kitOne X.K t c = some b) (h : ∀ tk, Q (.bool b) { s with toks := tk }) :
    wpAny (model X.prog X.w) A (call (.builtin "isinstance") [u, c]) Q E s := by
  cases ty with
  | non => cases (show u = Value.none from rx); exact PySem.W.kia_one PySem.W.kitx_none I.kIn True.intro e (fun z => nomatch z) h
  | bl y => cases (show u = Value.bool y from rx); exact PySem.W.kia_one PySem.W.kitx_bool I.kIn True.intro e (fun z => nomatch z) h
  | int i => obtain ⟨t, q⟩ := (show ∃ t, u = Value.int i t from rx); cases q; exact PySem.W.kia_one PySem.W.kitx_int I.kIn True.intro e (fun z => nomatch z) h
  | str y => obtain ⟨t, q⟩ := (show ∃ t, u = Value.str y t from rx); cases q; exact PySem.W.kia_one PySem.W.kitx_str I.kIn True.intro e (fun z => nomatch z) h
  | flt y => obtain ⟨t, q⟩ := (show ∃ t, u = Value.float y t from rx); cases q; exact PySem.W.kia_one PySem.W.kitx_float I.kIn True.intro e (fun z => nomatch z) h
  | @lst a xs ea =>
    cases (show u = Value.ref a from rx)
    obtain ⟨_, _, n, _, h1⟩ := (show ObjOk X.prog X.w H s.heap a (.lst xs) from I.hok a _ ea)
    exact PySem.W.kia_one PySem.W.kitx_list I.kIn ⟨_, h1, rfl⟩ e (fun z => nomatch z) h
  | @frz a ob xs ea =>
    cases (show u = Value.ref a from rx)
    obtain ⟨_, _, _, n, _, h1⟩ := (show ObjOk X.prog X.w H s.heap a (.frz ob (.lst xs)) from I.hok a _ ea)
    exact PySem.W.kia_one PySem.W.kitx_list I.kIn ⟨_, h1, rfl⟩ e (fun z => nomatch z) h
  | @tup a xs ea =>
    cases (show u = Value.ref a from rx)
    obtain ⟨_, _, _, p⟩ := (show ObjOk X.prog X.w H s.heap a (.tup xs) from I.hok a _ ea)
    obtain ⟨o, h1, h2, _⟩ := p
    exact PySem.W.kia_one PySem.W.kitx_tuple I.kIn ⟨o, h1, h2⟩ e (fun z => nomatch z) h
  | @dK a kvs ea =>
    cases (show u = Value.ref a from rx)
    obtain ⟨_, _, vs, _, p⟩ := (show ObjOk X.prog X.w H s.heap a (.dK kvs) from I.hok a _ ea)
    obtain ⟨o, es, ep, h1, h2, _⟩ := p
    exact PySem.W.kia_one PySem.W.kitx_dict I.kIn ⟨o, h1, h2.1⟩ e (fun z => nomatch z) h
  | @dT a kvs ea =>
    cases (show u = Value.ref a from rx)
    obtain ⟨_, _, xs, _, o, es, ep, h1, h2, _⟩ := (show ObjOk X.prog X.w H s.heap a (.dT kvs) from I.hok a _ ea)
    exact PySem.W.kia_one PySem.W.kitx_dict I.kIn ⟨o, h1, h2.1⟩ e (fun z => nomatch z) h
  | @ins a C dx fs ea cl ha hn htk hm =>
    cases (show u = Value.ref a from rx)
    obtain ⟨mA, O, _⟩ := ins_get I.hok ea
    obtain ⟨od, J, _⟩ := O.look
    exact PySem.W.kia_one (PySem.W.kitx_own (cl.get _) cl.hd ha hn htk hm) I.kIn J e (fun z => nomatch z) h
end
end L2

namespace L2
open PySem PySem.Spec PyProof.Rows

/-! ### room -/
structure Room (k : Nat) (A : Around) : Prop where
  hd : A.handled = none
  dp : A.depth + 3 * k + 5 < recursionLimit
  un : A.units + 16 * k + 200 < cLine
  gd : A.guards = some []
theorem Room.mono {j k : Nat} {A : Around} (r : Room k A) (h : j ≤ k) : Room j A := ⟨r.hd, by have := r.dp; omega, by have := r.un; omega, r.gd⟩
theorem Room.deeper {k : Nat} {A : Around} (r : Room (k + 1) A) (env : Env) : Room k (A.deeper env) :=
  ⟨r.hd, by have := r.dp; show A.depth + 1 + 3 * k + 5 < _; omega, by have := r.un; show A.units + 3 + 16 * k + 200 < _; omega, r.gd⟩
theorem Room.depth {k : Nat} {A : Around} (r : Room k A) : A.depth < recursionLimit := by have := r.dp; omega
theorem Room.units {k : Nat} {A : Around} (r : Room k A) : A.units + 64 < cLine := by have := r.un; omega

/-! ### argument lists and displays -/
def tNil : TA := fun _ H Q => Q [] H
def tCons (ta : TE) (tr : TA) : TA := fun σ H Q => ta σ H fun x H1 => tr σ H1 fun xs H2 => Q (x :: xs) H2
section
variable {X : Cx} {e : Expr} {es : List Expr} {te : TE} {t : TA} {pos : Pos}
theorem pa_nil : PA X [] tNil := fun _ _ _ _ H Q I h => Calls.spliced_nil ⟨[], H, I, .nil, h⟩
theorem pa_cons (ha : PE X e te) (hr : PA X es t) (hs : starEach (e :: es) X.env = (false, eval e X.env) :: starEach es X.env := by rfl) : PA X (e :: es) (tCons te t) := by
  intro pos pins s σ H Q I h
  rw [hs]
  show wpAny _ _ (spliced ((false, eval e X.env) :: backTo pos (starEach es X.env))) _ _ s
  refine Calls.spliced_cons (thn (ha pins s σ H _ I h) fun u s1 ⟨x, H1, I1, r1, q1⟩ => ?_)
  exact thn (hr pos pins s1 σ H1 _ I1 q1) fun us s2 ⟨xs, H2, I2, r2, q2⟩ => ⟨x :: xs, H2, I2, .cons r1 r2, q2⟩

/-- a tuple, a list of written items -/
def tTup (t : TA) : TE := fun σ H Q => t σ H fun xs H1 => xs.length ≤ sizeLine ∧ ∀ p, H1 p = none → Q (.ref p) (upd H1 p (.tup xs))
def tLst (t : TA) : TE := fun σ H Q => t σ H fun xs H1 => xs.length ≤ sizeLine ∧ ∀ p, H1 p = none → Q (.ref p) (upd H1 p (.lst xs))
theorem pe_tup {x1} (h : PA X es t) : PE X (.Tuple es x1 pos) (tTup t) := by
  intro pins s σ H Q I hq
  refine wpAny_Tuple_spliced (thn (h pos pins s σ H _ I hq) fun us s1 ⟨xs, H1, I1, r, z, q⟩ => ⟨by rw [← r.length]; exact z, ?_⟩)
  have hf : H1 s1.heap.objs.size = none := I1.hok.fresh (Nat.le_refl _)
  refine ⟨.ref s1.heap.objs.size, upd H1 s1.heap.objs.size (.tup xs), I1.laid (t' := s1.toks) (fun b u e => Heap.get?_push_of_some _ e) (Nat.le_refl _) ?_, rfl, q _ hf⟩
  exact ⟨z, us, r, ⟨_, Heap.get?_push_size _ rfl, rfl, _, rfl⟩⟩
theorem pe_lst (h : PA X es t) : PE X (.List es pos) (tLst t) := by
  intro pins s σ H Q I hq
  refine wpAny_List_spliced (thn (h pos pins s σ H _ I hq) fun us s1 ⟨xs, H1, I1, r, z, q⟩ => ⟨by rw [← r.length]; exact z, ?_⟩)
  have hf : H1 s1.heap.objs.size = none := I1.hok.fresh (Nat.le_refl _)
  refine ⟨.ref s1.heap.objs.size, upd H1 s1.heap.objs.size (.lst xs), I1.laid (t' := s1.toks) (fun b u e => Heap.get?_push_of_some _ e) (Nat.le_refl _) ?_, rfl, q _ hf⟩
  exact ⟨z, us, 0, r, Heap.get?_push_size _ rfl⟩
end

/-! ### what a def promises -/
/-- a def's promise: the bound arguments in the parameters' order, the heap, the wanted end, the wanted exception -/
abbrev Sp := List V → Hp → VK → XK → Prop
/-- how an exception lies behind a call (file 08 gives it): the callers' frames, abstract heap and state ahead of the call, the wish, the exception, the state -/
abbrev CXT := List Env → Hp → Shared → XK → Value → Shared → Prop

/-- the state at a call -/
structure Env0 (P : Program) (w : World) (K : PySem.W.Frag) (mg : Str → Option Value) (base : Heap) (A : Around) (outer : List Env) (s : Shared) (H : Hp) : Prop where
  frames : A.frames = some outer
  mod : Mod K mg base
  bs : ∀ b o, base.get? b = some o → s.heap.get? b = some o ∧ H b = none
  bsz : base.objs.size ≤ s.heap.objs.size
  funs : s.heap.FunFrames base outer
  frf : ∀ b ∈ frs outer, H b = none
  hok : HOk P w H s.heap
  bare : AllBare s.gens
/-- a call's end -/
def CE (outer : List Env) (P : Program) (w : World) (H : Hp) (s : Shared) (Q : VK) (u : Value) (s' : Shared) : Prop :=
  ∃ v H', s'.os = s.os ∧ AllBare s'.gens ∧ Un (frs outer) [] H H' s.heap s'.heap ∧ HOk P w H' s'.heap ∧ RelV v u ∧ Q v H'
def CR (CX : CXT) (outer : List Env) (P : Program) (w : World) (H : Hp) (s : Shared) (Q : VK) (E : XK) (r : Result) (s' : Shared) : Prop :=
  match r with
  | .ok (.ret u) => CE outer P w H s Q u s'
  | .ok _ => False
  | .error e => CX outer H s E e s'
structure FnOk (P : Program) (w : World) (K : PySem.W.Frag) (mg : Str → Option Value) (base : Heap) (CX : CXT) (k : Nat) (f : Addr) (fd : FuncData) (ps : List Str) (sp : Sp) : Prop where
  len : ∀ vs H Q E, sp vs H Q E → vs.length = ps.length
  run : ∀ (A : Around) (outer : List Env) (s : Shared) (H : Hp) (args : Args) (us : List Value) (vs : List V) (Q : VK) (E : XK), Room k A → Env0 P w K mg base A outer s H → BindsTo s fd args (ps.zip us) → Vals vs us → sp vs H Q E →
    codeAny (model P w) A (.call (.ref f) args) (CR CX outer P w H s Q E) s
/-- a weaker promise -/
theorem FnOk.imp {P : Program} {w : World} {K : PySem.W.Frag} {mg : Str → Option Value} {base : Heap} {CX : CXT} {k : Nat} {f : Addr} {fd : FuncData} {ps : List Str} {sp sp' : Sp} (F : FnOk P w K mg base CX k f fd ps sp)
    (h : ∀ vs H Q E, sp' vs H Q E → sp vs H Q E) : FnOk P w K mg base CX k f fd ps sp' :=
  ⟨fun vs H Q E q => F.len vs H Q E (h _ _ _ _ q), fun A outer s H args us vs Q E hr he hb hv hs => F.run A outer s H args us vs Q E hr he hb hv (h _ _ _ _ hs)⟩


section
variable {X : Cx} {pins : List (Addr × Obj)} {σ : St} {H : Hp} {s s' : Shared}
/-- from a body: what a callee wants -/
theorem Inv.env0 (I : Inv X pins σ H s) : Env0 X.prog X.w X.K X.mg X.base X.A X.stack s H :=
  ⟨I.ok.frames, I.ok.mod, I.bs, Nat.le_trans I.ok.bsz I.sz, I.stack, I.stkFree, I.hok, I.bare⟩
/-- behind a call -/
theorem Inv.after {Q : VK} {u : Value} (I : Inv X pins σ H s) (h : CE X.stack X.prog X.w H s Q u s') : EP X pins σ Q u s' := by
  obtain ⟨v, H', os, bare, un, hok, r, q⟩ := h
  obtain ⟨hh, g, d, t, os'⟩ := s'
  obtain rfl : os' = s.os := os
  exact ⟨v, H', I.call (h' := hh) (g' := g) (d' := d) (t' := t) (ch := []) un hok bare (fun b z => absurd z (by simp)), r, q⟩
end

/-! ### calls -/
/-- f(..): the written arguments, then the defaults dvs; E: what is wanted of an exception -/
def tCall (sp : Sp) (dvs : List V) (E : XK) (t : TA) : TE := fun σ H Q => t σ H fun vs H1 => sp (vs ++ dvs) H1 Q E

/-- how the parameters are bound: us the positional arguments, kw the keywords' values by name, ds the defaults that fill up -/
def Binds (K : PySem.W.Frag) (fd : FuncData) (ps : List Str) (ds : List Value) : Prop :=
  ∀ (s : Shared) (us : List Value), K.In s.heap → (us ++ ds).length = ps.length → BindsTo s fd ⟨us, []⟩ (ps.zip (us ++ ds))
/-- every parameter is given -/
theorem Binds.all {K : PySem.W.Frag} {fd : FuncData} {ps : List Str} (h : ∀ us : List Value, us.length = ps.length → bindArgs fd ⟨us, []⟩ = pure (ps.zip us)) : Binds K fd ps [] := fun s us _ hl => by
  rw [List.append_nil] at hl ⊢
  exact .of_eq (h us hl)

/-- an exception of a callee reaches what this body wants of exceptions -/
def Passes (CX : CXT) (X : Cx) (E : XK) : Prop := ∀ (pins : List (Addr × Obj)) (σ : St) (H : Hp) (s : Shared) (e : Value) (s' : Shared), Inv X pins σ H s → CX X.stack H s E e s' → X.xe e s'

section
variable {X : Cx} {CX : CXT} {k : Nat} {f C : Addr} {fd : FuncData} {ps : List Str} {sp : Sp} {dvs : List V} {ds : List Value} {E : XK} {x m : Str} {p pos apos : Pos} {e o : Expr} {es : List Expr} {ta : TE} {t : TA}

/-- the callee runs -/
theorem run_fn {pins : List (Addr × Obj)} {σ : St} {H : Hp} {s : Shared} {Q : VK} {us : List Value} {vs : List V} (F : FnOk X.prog X.w X.K X.mg X.base CX k f fd ps sp) (hr : Room k X.A) (hb : Binds X.K fd ps ds) (hd : Vals dvs ds) (hx : Passes CX X E)
    (I : Inv X pins σ H s) (r : Vals vs us) (h : sp (vs ++ dvs) H Q E) : wpAny (model X.prog X.w) X.A (call (.ref f) us) (EP X pins σ Q) X.xe s := by
  have r2 : Vals (vs ++ dvs) (us ++ ds) := r.append hd
  have hl : (us ++ ds).length = ps.length := by rw [← r2.length]; exact F.len _ _ _ _ h
  refine wpAny_call (codeAny_mono (F.run X.A X.stack s H ⟨us, []⟩ (us ++ ds) (vs ++ dvs) Q E hr I.env0 (hb s us I.kIn hl) r2 h) fun r s' hq => ?_)
  cases r with
  | error e => exact hx pins σ H s e s' I hq
  | ok fl =>
    cases fl with
    | ret u => exact I.after hq
    | next => exact False.elim hq
    | brk => exact False.elim hq
    | cont => exact False.elim hq

theorem pe_call (F : FnOk X.prog X.w X.K X.mg X.base CX k f fd ps sp) (hr : Room k X.A) (hg : Gl X x) (hm : X.mg x = some (.ref f)) (hk : PySem.W.keepIn X.K (.ref f) = true) (hb : Binds X.K fd ps ds) (hd : Vals dvs ds) (hx : Passes CX X E)
    (ha : PA X (e :: es) t) (hdb : (x == ("__debug__" : Str)) = false := by decide) (he : starEach (e :: es) X.env = (false, eval e X.env) :: starEach es X.env := by rfl) (hpl : (backTo pos (starEach es X.env)).any (·.1) = false := by rfl) :
    PE X (.Call (.Name x p) (e :: es) [] pos) (tCall sp dvs E t) := by
  intro pins s σ H Q I h
  refine wpAny_Call_Name_kw (ld_glob I hg hm ?_ hdb)
  refine PySem.W.callWith_K (h₀ := X.base) I.ok.mod.kin hk (thn (ha pos pins s σ H _ I h) fun us s1 ⟨vs, H1, I1, r, q⟩ => ⟨I1.kIn, ?_⟩) he hpl
  exact run_fn F hr hb hd hx I1 r q



end

/-! ### keywords -/
section
variable {X : Cx} {CX : CXT} {k : Nat} {f C : Addr} {fd : FuncData} {ps ks : List Str} {sp : Sp} {E : XK} {x m : Str} {p pos apos kpos : Pos} {e o : Expr} {es : List Expr} {kws : List Keyword} {te ta : TE} {t tk : TA} {nm : Option Str}

variable {g : List Value → List Value → List Value} {gV : List V → List V → List V}
end

/-! ### a def's body keeps its promise -/
/-- names: the parameters first -/
structure FnScope (N P : List Str) (sc : Scope) : Prop where
  kind : sc.kind = .function
  co : sc.isCoroutine = false
  gen : sc.isGenerator = false
  nd : N.Nodup
  pre : N.take P.length = P
  par : ∀ x ∈ P, sc.names.lookup x = some .local ∨ sc.names.lookup x = some .cell
  nofree : ∀ y ∈ sc.names, y.2 ≠ .free

theorem bindL_out {kindOf : Str → Option NameKind} {x : Str} : ∀ {binds : List (Str × Value)} {m : Str → Option Value}, (∀ v, (x, v) ∉ binds) → bindL kindOf binds m x = m x
  | [], _, _ => rfl
  | (n, v) :: r, m, h => by
    unfold bindL
    rw [bindL_out fun w hw => h w (List.mem_cons_of_mem _ hw)]
    split
    · have : x ≠ n := by rintro rfl; exact h v List.mem_cons_self
      simp [this]
    · rfl
theorem bindC_out {kindOf : Str → Option NameKind} {x : Str} : ∀ {binds : List (Str × Value)} {m : Str → Option Value}, (∀ v, (x, v) ∉ binds) → bindC kindOf binds m x = m x
  | [], _, _ => rfl
  | (n, v) :: r, m, h => by
    unfold bindC
    rw [bindC_out fun w hw => h w (List.mem_cons_of_mem _ hw)]
    split
    · rfl
    · have : x ≠ n := by rintro rfl; exact h v List.mem_cons_self
      simp [this]
theorem bindL_get {kindOf : Str → Option NameKind} {x : Str} {v : Value} : ∀ {P : List Str} {vs : List Value} {i : Nat} {m : Str → Option Value}, P.Nodup → P[i]? = some x → vs[i]? = some v → kindOf x = some .local →
    bindL kindOf (P.zip vs) m x = some v
  | [], _, _, _, _, h, _, _ => by simp at h
  | _ :: _, [], _, _, _, _, h, _ => by simp at h
  | p :: P, w :: vs, 0, m, nd, h1, h2, hk => by
    simp at h1 h2; subst h1; subst h2
    show bindL kindOf ((p, w) :: P.zip vs) m p = _
    unfold bindL
    rw [bindL_out fun v hv => (List.nodup_cons.mp nd).1 (List.of_mem_zip hv).1, if_pos hk]
    simp
  | p :: P, w :: vs, i + 1, m, nd, h1, h2, hk => by
    show bindL kindOf ((p, w) :: P.zip vs) m x = _
    unfold bindL
    exact bindL_get (i := i) (List.nodup_cons.mp nd).2 (by simpa using h1) (by simpa using h2) hk
theorem bindC_get {kindOf : Str → Option NameKind} {x : Str} {v : Value} : ∀ {P : List Str} {vs : List Value} {i : Nat} {m : Str → Option Value}, P.Nodup → P[i]? = some x → vs[i]? = some v → kindOf x ≠ some .local →
    bindC kindOf (P.zip vs) m x = some v
  | [], _, _, _, _, h, _, _ => by simp at h
  | _ :: _, [], _, _, _, _, h, _ => by simp at h
  | p :: P, w :: vs, 0, m, nd, h1, h2, hk => by
    simp at h1 h2; subst h1; subst h2
    show bindC kindOf ((p, w) :: P.zip vs) m p = _
    unfold bindC
    rw [bindC_out fun v hv => (List.nodup_cons.mp nd).1 (List.of_mem_zip hv).1, if_neg hk]
    simp
  | p :: P, w :: vs, i + 1, m, nd, h1, h2, hk => by
    show bindC kindOf ((p, w) :: P.zip vs) m x = _
    unfold bindC
    exact bindC_get (i := i) (List.nodup_cons.mp nd).2 (by simpa using h1) (by simpa using h2) hk

/-- the names' values at the entry -/
def start (N : List Str) (vs : List V) : St := vs.map some ++ List.replicate (N.length - vs.length) none

/-- the context of a def's body, at its entry; an exception leaves the frame, then lies as CX says -/
def cxOf (CX : CXT) (P : Program) (w : World) (K : PySem.W.Frag) (mg : Str → Option Value) (base : Heap) (N : List Str) (qual : Str) (scope : Scope) (f : Addr) (cd : Value) (A : Around) (outer : List Env) (s : Shared) (H : Hp) (E : XK) : Cx where
  prog := P
  w := w
  K := K
  mg := mg
  base := base
  A := A.deeper (envOfC qual scope s.heap.objs.size f cd)
  N := N
  s₀ := s
  H₀ := H
  env := envOfC qual scope s.heap.objs.size f cd
  outer := outer
  stack := envOfC qual scope s.heap.objs.size f cd :: outer
  ex := []
  calm := true
  fn := fun _ => true
  pn := []
  xe := fun e s' => wpAny (model P w) (A.deeper (envOfC qual scope s.heap.objs.size f cd)) (leaving (envOfC qual scope s.heap.objs.size f cd) e) (fun _ s'' => CX outer H s E e s'') (fun e' s'' => CX outer H s E e' s'') s'

theorem cell_has {sc : Scope} {n : Nat} {x : Str} (h : sc.names.lookup x = some .cell) : ∃ c, (cellsFrom n sc.names []).lookup x = some c := by
  have q := PySem.W.cellsFrom_some sc.names n [] (.inl h)
  exact Option.isSome_iff_exists.mp q

theorem inv_start {CX : CXT} {P : Program} {w : World} {K : PySem.W.Frag} {mg : Str → Option Value} {base : Heap} {N ps : List Str} {qual : Str} {scope : Scope} {f : Addr} {cd : Value} {A : Around} {outer : List Env} {s s1 : Shared} {H : Hp} {E : XK} {us : List Value} {vs : List V}
    (S : FnScope N ps scope) (hd : A.handled = none) (e0 : Env0 P w K mg base A outer s H) (hl : vs.length = ps.length) (r : Vals vs us)
    (x : InCallC s s.heap.objs.size (bindL (envOfC qual scope s.heap.objs.size f cd).kindOf (ps.zip us) fun _ => none) (cellsFrom (s.heap.objs.size + 1) scope.names []) (bindC (envOfC qual scope s.heap.objs.size f cd).kindOf (ps.zip us) fun _ => none) s1) :
    Inv (cxOf CX P w K mg base N qual scope f cd A outer s H E) [] (start N vs) H s1 := by
  have hpl : ps.length ≤ N.length := by have := congrArg List.length S.pre; rw [List.length_take] at this; omega
  obtain ⟨h1, tk, rfl, hk⟩ := x.done
  have noA : ∀ b : Addr, b ∉ (cxOf CX P w K mg base N qual scope f cd A outer s H E).ex := fun b z => absurd (show b ∈ ([] : List Addr) from z) (by simp)
  refine ⟨⟨e0.mod, S.kind, rfl, rfl, Nat.le_refl _, fun y z c h1 h2 => ?_, fun y hy => ?_, fun y c _ h => ?_, fun _ => hd, Around.frames_deeper e0.frames, .inr ⟨rfl, rfl⟩, fun b z => absurd z (noA b), e0.bs, e0.bsz, fun b _ _ => noA b, fun b z => absurd z (noA b), e0.funs, e0.frf⟩,
    rfl, e0.bare, Un.kept hk, ⟨_, x.toInCall.ns, fun i y v h1 h2 h3 => ?_⟩, fun y c h => ⟨_, x.cell y c h⟩, e0.hok.fresh (Nat.le_refl _), fun y c h => ?_, fun p hp => absurd (show p ∈ ([] : List (Addr × Obj)) from hp) (by simp), e0.hok.kept hk, ?_⟩
  · exact name_of_addr x.apart (PySem.mem_of_lookup h1) (PySem.mem_of_lookup h2)
  · have hy : scope.names.lookup y = some .cell ∨ scope.names.lookup y = some .free := hy
    rcases hy with hy | hy
    · exact cell_has hy
    · exact absurd rfl (S.nofree _ (PySem.mem_of_lookup hy))
  · exact Nat.le_of_lt (x.above y c (PySem.mem_of_lookup h))
  · have hi : i < vs.length := by
      unfold start at h2
      by_cases hi : i < vs.length
      · exact hi
      · rw [List.getElem?_append_right (by simpa using hi)] at h2
        rw [List.getElem?_replicate] at h2
        split at h2 <;> cases h2
    have ha : vs[i]? = some v := by
      unfold start at h2
      rw [List.getElem?_append_left (by simpa using hi), List.getElem?_map] at h2
      cases e : vs[i]? with
      | none => rw [e] at h2; cases h2
      | some a => rw [e] at h2; cases h2; rfl
    obtain ⟨u, hu, rv⟩ := r.get ha
    have hp : ps[i]? = some y := by
      rw [← S.pre, List.getElem?_take_of_lt (by omega)]; exact h1
    have ndP : ps.Nodup := by rw [← S.pre]; exact S.nd.sublist (List.take_sublist _ _)
    refine ⟨u, rv, ?_⟩
    rcases S.par y (List.mem_of_getElem? hp) with k | k
    · exact .inl ⟨k, bindL_get ndP hp hu k⟩
    · obtain ⟨c, e⟩ := cell_has (n := s.heap.objs.size + 1) k
      refine .inr ⟨.inl k, c, e, ?_⟩
      have q := x.cell y c e
      rw [bindC_get ndP hp hu (by show scope.names.lookup y ≠ _; rw [k]; decide)] at q
      exact q
  · exact e0.hok.fresh (Nat.le_of_lt (x.above y c (PySem.mem_of_lookup h)))
  · unfold start
    show _ = N.length
    rw [List.length_append, List.length_map, List.length_replicate]
    omega

/-- THE RULE: a def (or a method) of the text, by its body. The body's reading t is chosen for each entry; it is run at the parameters' values -/
theorem fn_of {CX : CXT} {P : Program} {w : World} {K : PySem.W.Frag} {mg : Str → Option Value} {base : Heap} {k : Nat} {f : Addr} {name qual : Str} {params : Arguments} {body : List Stmt} {scope : Scope} {dV kV doc pm cdv ct oc : Value} {an od : Option Addr}
    {osl : Array (Option Value)} {N ps : List Str} {sp : Sp} (lk : K.lookup f = some ⟨oc, od, .func (PySem.W.fnOf name qual params body scope dV kV doc pm an cdv ct), osl⟩) (hcd : PySem.W.codeIn K cdv qual = true) (S : FnScope N ps scope)
    (len : ∀ vs H Q E, sp vs H Q E → vs.length = ps.length)
    (hbody : ∀ (A : Around) (outer : List Env) (s : Shared) (H : Hp) (vs : List V) (Q : VK) (E : XK), Room k (A.deeper (envOfC qual scope s.heap.objs.size f cdv)) → sp vs H Q E →
      ∃ t, PSs (cxOf CX P w K mg base N qual scope f cdv A outer s H E) body t ∧ t { nx := fun _ H' => Q .non H', rt := Q } (start N vs) H) :
    FnOk P w K mg base CX (k + 1) f (PySem.W.fnOf name qual params body scope dV kV doc pm an cdv ct) ps sp := by
  refine ⟨len, fun A outer s H args us vs Q E hr e0 hb r hsp => ?_⟩
  have hl := len _ _ _ _ hsp
  have KX : K.In s.heap := e0.mod.kin.keeps fun b o e => (e0.bs b o e).1
  have lim : s.heap.NoLimit := e0.mod.nolimit.keeps fun b o e => (e0.bs b o e).1
  have hkind : ∀ y ∈ ps.zip us, scope.names.lookup y.1 = some .local ∨ (scope.names.lookup y.1 = some .cell ∧ ((cellsFrom (s.heap.objs.size + 1) scope.names []).lookup y.1).isSome = true) := fun ⟨n, v⟩ hy => by
    rcases S.par n (List.of_mem_zip hy).1 with q | q
    · exact .inl q
    · exact .inr ⟨q, PySem.W.cellsFrom_some _ _ _ (.inl q)⟩
  refine codeAny_call_function hr.depth (KX _ _ lk) rfl S.co S.gen rfl (PySem.W.codeRec_of KX hcd) (hb _ _ _ _ ?_)
  refine wpAny_newFunctionEnv_cells S.kind hkind fun env he s1 x => ?_
  subst he
  refine ⟨lim.keeps x.toInCall.keep, codeAny_func ?_⟩
  obtain ⟨t, ht, hq⟩ := hbody A outer s H vs Q E (hr.deeper _) hsp
  have I : Inv (cxOf CX P w K mg base N qual scope f cdv A outer s H E) [] (start N vs) H s1 := inv_start S hr.hd e0 hl r x
  refine wpAny_mono (ht [] s1 (start N vs) H _ I hq) (fun fl s' hs => ?_) fun e s' hs => hs
  have fin : ∀ {σ' : St} {H' : Hp} {v : V} {u : Value}, Inv (cxOf CX P w K mg base N qual scope f cdv A outer s H E) [] σ' H' s' → RelV v u → Q v H' → CE outer P w H s Q u s' :=
    fun {σ' H' v u} J rv q => ⟨v, H', J.os, J.bare, J.base, J.hok, rv, q⟩
  cases fl with
  | ret u =>
    obtain ⟨v, σ', H', J, rv, q⟩ := hs
    exact fin J rv q
  | next =>
    obtain ⟨σ', H', J, q⟩ := hs
    exact fin (v := V.non) (u := Value.none) J rfl q
  | brk =>
    obtain ⟨_, _, _, q⟩ := hs
    exact False.elim q
  | cont =>
    obtain ⟨_, _, _, q⟩ := hs
    exact False.elim q
end L2

namespace L2
open PySem PySem.Spec PyProof.Rows
section
variable {X : Cx} {x : Str} {p pos : Pos} {e : Expr} {es : List Expr} {t : TA} {id T : String} {r : List V → Hp → VK → Prop}

def tCB (r : List V → Hp → VK → Prop) (t : TA) : TE := fun σ H Q => t σ H fun vs H1 => r vs H1 Q
/-- f(e, ..), f a built-in function -/
theorem pe_callB (hc : CallR X (.builtin id) r) (hg : Gl X x) (hm : X.mg x = none) (hv : bootBuiltins x = some (.builtin id)) (ha : PA X (e :: es) t) (hn : x ≠ "__name__" := by decide) (hdb : (x == ("__debug__" : Str)) = false := by decide)
    (he : starEach (e :: es) X.env = (false, eval e X.env) :: starEach es X.env := by rfl) (hpl : (backTo pos (starEach es X.env)).any (·.1) = false := by rfl) : PE X (.Call (.Name x p) (e :: es) [] pos) (tCB r t) := by
  intro pins s σ H Q I h
  refine wpAny_Call_Name_kw (ld_blt I hg hm hv ?_ hn hdb)
  exact PyProof.Rows.callWith_builtin1 (thn (ha pos pins s σ H _ I h) fun us s1 ⟨vs, H1, I1, r1, q1⟩ => hc pins s1 σ H1 vs us Q I1 r1 q1) he hpl
/-- T(e, ..), T a built-in type -/
theorem pe_callTy (hc : CallR X (.type T) r) (hg : Gl X x) (hm : X.mg x = none) (hv : bootBuiltins x = some (.type T)) (ha : PA X (e :: es) t) (hn : x ≠ "__name__" := by decide) (hdb : (x == ("__debug__" : Str)) = false := by decide)
    (he : starEach (e :: es) X.env = (false, eval e X.env) :: starEach es X.env := by rfl) (hpl : (backTo pos (starEach es X.env)).any (·.1) = false := by rfl) : PE X (.Call (.Name x p) (e :: es) [] pos) (tCB r t) := by
  intro pins s σ H Q I h
  refine wpAny_Call_Name_kw (ld_blt I hg hm hv ?_ hn hdb)
  exact PyProof.Rows.callWith_type1 (thn (ha pos pins s σ H _ I h) fun us s1 ⟨vs, H1, I1, r1, q1⟩ => hc pins s1 σ H1 vs us Q I1 r1 q1) he hpl
end
end L2

namespace HT
open PySem PyProof.Rows



section
open PySem.SeqAt
open PySem.AutoSeq1 (wpAny_loadPart')
open PySem.MeetsSeq PySem.MeetsSeq2 PySem.MeetsSeq3

end

section
variable {prog : Program} {w : World} {A : Around} {E : Value → Shared → Prop} {s : Shared}



/-! ### t[a:b], not the whole -/
/-- a slice's bound as a place among n (d where it is left out) -/
def sIx (n d : Nat) : Option Int → Nat
  | none => d
  | some v => if v < 0 then (v + (n : Int)).toNat else min v.toNat n
theorem sIx_nat (n d k : Nat) : sIx n d (some (k : Int)) = min k n := by
  show (if (k : Int) < 0 then ((k : Int) + (n : Int)).toNat else min (k : Int).toNat n) = min k n
  rw [if_neg (by omega), Int.toNat_natCast]

end
end HT

namespace L2
open PySem PySem.Spec PyProof.Rows

/-! ### the parts of a slice -/
abbrev TO := St → Hp → (Option Int → Hp → Prop) → Prop
/-- a slice's part (left out, or an int) -/
def PO (X : Cx) (e : Option Expr) (t : TO) : Prop :=
  ∀ (pins : List (Addr × Obj)) (s : Shared) (σ : St) (H : Hp) (Q : Option Int → Hp → Prop), Inv X pins σ H s → t σ H Q →
    wpAny (model X.prog X.w) X.A (evalPart e X.env) (fun u s' => ∃ o H', Inv X pins σ H' s' ∧ IsPart u o ∧ Q o H') X.xe s
def tNoPart : TO := fun _ H Q => Q none H
def tPart (t : TE) : TO := fun σ H Q => t σ H fun x H1 => ∃ i, x = .int i ∧ Q (some i) H1

theorem intsAre_of {ns : List Int} : ∀ {us : List Value}, Vals (ns.map V.int) us → IntsAre us ns := by
  induction ns with
  | nil => intro us r; rw [List.map_nil] at r; cases r; exact .nil
  | cons n ns ih =>
    intro us r
    rw [List.map_cons] at r
    cases r with
    | cons r1 r2 =>
      obtain ⟨t, e⟩ := r1
      subst e
      exact .cons n t (ih r2)

section
variable {X : Cx} {e : Expr} {te : TE} {lo hi : Option Expr} {tl th : TO} {pos p2 : Pos}

theorem po_none : PO X none tNoPart := by
  intro pins s σ H Q I h
  rw [evalPart_none]
  exact wpAny_pure ⟨none, H, I, .none, h⟩
theorem po_some (h : PE X e te) : PO X (some e) (tPart te) := by
  intro pins s σ H Q I hw
  rw [evalPart_some]
  refine thn (h pins s σ H _ I hw) fun u s1 ⟨x, H1, I1, r1, q1⟩ => ?_
  obtain ⟨i, rfl, q⟩ := q1
  obtain ⟨t, rfl⟩ := r1
  exact ⟨some i, H1, I1, .int i t, q⟩

/-- what a slice of a value is, by values: the slice object stands at sl -/
def SlR (X : Cx) (r : V → Option Int → Option Int → Hp → VK → Prop) : Prop :=
  ∀ (pins : List (Addr × Obj)) (s : Shared) (σ : St) (H : Hp) (x : V) (v vl vu : Value) (lo hi : Option Int) (sl : Addr) (Q : VK), Inv X pins σ H s → RelV x v → s.heap.IsSliceOf sl vl vu .none → IsPart vl lo → IsPart vu hi → r x lo hi H Q →
    ∃ T id, typeLookup (.type T) "__getitem__" = pure (some (.builtin id)) ∧ s.TypeIs v T ∧ wpAny (model X.prog X.w) X.A (getItem v (.ref sl)) (EP X pins σ Q) X.xe s
def tSl (r : V → Option Int → Option Int → Hp → VK → Prop) (te : TE) (tl th : TO) : TE := fun σ H Q => te σ H fun x H1 => tl σ H1 fun l H2 => th σ H2 fun u H3 => r x l u H3 Q
/-- a[lo:hi], any a -/
theorem pe_slice {r : V → Option Int → Option Int → Hp → VK → Prop} (hr : SlR X r) (he : PE X e te) (hl : PO X lo tl) (hu : PO X hi th) : PE X (.Subscript e (.Slice lo hi none p2) pos) (tSl r te tl th) := by
  intro pins s σ H Q I h
  refine Subscript_ (thn (he pins s σ H _ I h) fun v s1 ⟨x, H1, I1, r1, q1⟩ => ?_)
  refine wpAny_Slice (thn (hl pins s1 σ H1 _ I1 q1) fun vl s2 ⟨l, H2, I2, pl, q2⟩ => thn (hu pins s2 σ H2 _ I2 q2) fun vu s3 ⟨u, H3, I3, pu, q3⟩ => ?_)
  rw [evalPart_none]
  refine wpAny_pure ?_
  have I4 : Inv X pins σ H3 { s3 with heap := s3.heap.push { cls := .type "slice", data := .fields #[vl, vu, .none] } } := I3.kept (t' := s3.toks) fun b ob q => Heap.get?_push_of_some _ q
  obtain ⟨T, id, hT, ht, hg⟩ := hr pins { s3 with heap := s3.heap.push { cls := .type "slice", data := .fields #[vl, vu, .none] } } σ H3 x v vl vu l u s3.heap.objs.size Q I4 r1 (Heap.IsSliceOf.new ..) pl pu q3
  show wpAny (model X.prog X.w) X.A (subscriptTail e (.Slice lo hi none p2) v (.ref s3.heap.objs.size)) (EP X pins σ Q) X.xe { s3 with heap := s3.heap.push { cls := .type "slice", data := .fields #[vl, vu, .none] } }
  exact tail_any (ops := [.ref s3.heap.objs.size, v]) ht hT hg (by with_unfolding_all rfl)

/-- the items of xs[lo:hi] -/
def cutV (xs : List V) (lo hi : Option Int) : List V := (xs.drop (HT.sIx xs.length 0 lo)).take (HT.sIx xs.length xs.length hi - HT.sIx xs.length 0 lo)
theorem cutV_length (xs : List V) (lo hi : Option Int) : (cutV xs lo hi).length ≤ xs.length := by
  unfold cutV
  rw [List.length_take, List.length_drop]
  omega

/-! ### t < u, t + u -/
end
end L2

namespace L2
open PySem PySem.Spec PyProof.Rows

/-! ### places -/
/-- the place that an index of any sign means -/
def ixN (n : Nat) (i : Int) : Option Nat := if 0 ≤ i then (if i < n then some i.toNat else none) else if -(n : Int) ≤ i then some (i + n).toNat else none
def atI {α : Type} (xs : List α) (i : Int) : Option α := (ixN xs.length i).bind fun j => xs[j]?
theorem ixN_seq {n : Nat} {i : Int} {j : Nat} (h : ixN n i = some j) : seqIndex? i n = some j ∧ j < n ∧ -(n : Int) ≤ i ∧ i < n := by
  unfold ixN at h
  by_cases h0 : 0 ≤ i
  · rw [if_pos h0] at h
    by_cases h1 : i < n
    · rw [if_pos h1] at h
      have e : i.toNat = j := Option.some.inj h
      exact ⟨by rw [seqIndex_of h0 h1, e], by omega, by omega, h1⟩
    · rw [if_neg h1] at h; cases h
  · rw [if_neg h0] at h
    by_cases h1 : -(n : Int) ≤ i
    · rw [if_pos h1] at h
      have e : (i + n).toNat = j := Option.some.inj h
      exact ⟨by rw [seqIndex_neg (by omega) h1, e], by omega, h1, by omega⟩
    · rw [if_neg h1] at h; cases h
theorem atI_get {α : Type} {xs : List α} {i : Int} {v : α} (h : atI xs i = some v) : ∃ j, seqIndex? i xs.length = some j ∧ xs[j]? = some v ∧ j < xs.length ∧ -(xs.length : Int) ≤ i ∧ i < xs.length := by
  unfold atI at h
  cases e : ixN xs.length i with
  | none => rw [e] at h; cases h
  | some j =>
    rw [e] at h
    obtain ⟨h1, h2, h3, h4⟩ := ixN_seq e
    exact ⟨j, h1, h, h2, h3, h4⟩
theorem atI_nat {α : Type} {xs : List α} {j : Nat} {v : α} (h : xs[j]? = some v) : atI xs (j : Int) = some v := by
  have hj : j < xs.length := (List.getElem?_eq_some_iff.mp h).1
  have e : ixN xs.length (j : Int) = some j := by
    unfold ixN
    rw [if_pos (by omega), if_pos (by omega)]; simp
  unfold atI; rw [e]; exact h

/-! ### what may be subscripted -/
/-- what stands as an index of a plain subscript -/
def PlainIx (b : Expr) : Prop := ∀ o i, subscripted b false o i = operate [o, i] (getItem o i)
/-- a subscript by values -/
def IxR (X : Cx) (r : R2) : Prop :=
  ∀ (value slice : Expr) (pins : List (Addr × Obj)) (s : Shared) (σ : St) (H : Hp) (x y : V) (v u : Value) (Q : VK), Inv X pins σ H s → RelV x v → RelV y u → r x y H Q →
    subscripted slice false v u = operate [v, u] (getItem v u) → wpAny (model X.prog X.w) X.A (subscriptTail value slice v u) (EP X pins σ Q) X.xe s
/-- a call of a builtin's method by values: the receiver, the arguments -/
def MtR (X : Cx) (id : String) (r : V → List V → Hp → VK → Prop) : Prop :=
  ∀ (pins : List (Addr × Obj)) (s : Shared) (σ : St) (H : Hp) (x : V) (xs : List V) (v : Value) (us : List Value) (Q : VK), Inv X pins σ H s → RelV x v → Vals xs us → r x xs H Q →
    wpAny (model X.prog X.w) X.A (call (.builtin id) (v :: us)) (EP X pins σ Q) X.xe s
section
variable {X : Cx} {a b : Expr} {ta tb : TE} {pos : Pos}
theorem IxR.or {r r' : R2} (h : IxR X r) (h' : IxR X r') : IxR X (fun x y H Q => r x y H Q ∨ r' x y H Q) := by
  intro value slice pins s σ H x y v u Q I rx ry q hs
  rcases q with q | q
  · exact h value slice pins s σ H x y v u Q I rx ry q hs
  · exact h' value slice pins s σ H x y v u Q I rx ry q hs
/-- a[b] -/
theorem pe_ix {r : R2} (hr : IxR X r) (ha : PE X a ta) (hb : PE X b tb) (hs : PlainIx b) : PE X (.Subscript a b pos) (tOp r ta tb) := by
  intro pins s σ H Q I h
  exact Subscript_ (binT ha hb I h fun v u s2 x y H2 I2 rx ry q => hr a b pins s2 σ H2 x y v u Q I2 rx ry q (hs _ _))

def rIxL (K : PySem.W.Frag) : R2 := fun x y H Q => ∃ p xs i v, x = .ref p ∧ y = .int i ∧ SqL K H p xs ∧ atI xs i = some v ∧ Q v H
def rIxT (K : PySem.W.Frag) : R2 := fun x y H Q => ∃ p xs i v, x = .ref p ∧ y = .int i ∧ SqT K H p xs ∧ atI xs i = some v ∧ Q v H
def rIxS : R2 := fun x y H Q => ∃ z i c, x = .str z ∧ y = .int i ∧ z.length ≤ sizeLine ∧ atI z.cps.toList i = some c ∧ Q (.str ⟨#[c]⟩) H
theorem ix_list : IxR X (rIxL X.K) := by
  intro value slice pins s σ H x y v u Q I rx ry h hs
  obtain ⟨p, xs, i, z, rfl, rfl, hq, he, q⟩ := h
  cases rx
  obtain ⟨t, rfl⟩ := ry
  obtain ⟨its, r, pl, hz⟩ := I.list hq
  obtain ⟨j, h1, h2, h3, h4, h5⟩ := atI_get he
  obtain ⟨w, ew, rw'⟩ := r.get h2
  have hl := r.length
  have hn := line63
  have fin : EP X pins σ Q w s := ⟨z, H, I, rw', q⟩
  by_cases h0 : 0 ≤ i
  · have hj : i.toNat = j := by
      rw [seqIndex_of h0 h5] at h1
      exact Option.some.inj h1
    exact item_listR pl.isList h0 (by omega) (by rw [hj]; simpa using ew) fin hs
  · have hj : (i + (its.toArray.size : Int)).toNat = j := by
      rw [seqIndex_neg (by omega) h4] at h1
      rw [List.size_toArray, ← hl]
      exact Option.some.inj h1
    exact subscriptTail_builtinR (x := w) pl.isList.typeIs slot_list_getitem.lookup
      (wpAny_getItem_list_neg (Q := fun r s' => r = w ∧ EP X pins σ Q r s') pl.isList (by omega) (by rw [List.size_toArray] <;> omega) (by omega) (by rw [hj]; simpa using ew) ⟨rfl, fin⟩) hs
theorem ix_tup : IxR X (rIxT X.K) := by
  intro value slice pins s σ H x y v u Q I rx ry h hs
  obtain ⟨p, xs, i, z, rfl, rfl, hq, he, q⟩ := h
  cases rx
  obtain ⟨t, rfl⟩ := ry
  obtain ⟨its, r, pl, hz⟩ := I.tuple hq
  obtain ⟨j, h1, h2, h3, h4, h5⟩ := atI_get he
  obtain ⟨w, ew, rw'⟩ := r.get h2
  have hl := r.length
  have hn := line63
  have fin : EP X pins σ Q w s := ⟨z, H, I, rw', q⟩
  exact subscriptTail_builtinR (x := w) pl.typeIs slot_tuple_getitem.lookup
    (getItem_tuple (j := j) (Q := fun r s' => r = w ∧ EP X pins σ Q r s') pl (by omega) (by omega) (by rw [List.size_toArray, ← hl]; exact h1) (by simpa using ew) ⟨rfl, fin⟩) hs
theorem ix_str : IxR X rIxS := by
  intro value slice pins s σ H x y v u Q I rx ry h hs
  obtain ⟨z, i, c, rfl, rfl, hz, he, q⟩ := h
  obtain ⟨t, rfl⟩ := rx
  obtain ⟨t', rfl⟩ := ry
  obtain ⟨j, h1, h2, h3, h4, h5⟩ := atI_get he
  have hl : z.cps.toList.length = z.length := by simp [Str.length]
  rw [hl] at h1 h4 h5
  have hn := line63
  exact tail_any (typeIs_str s z t) slot_str_getitem.lookup (getItem_str (c := c) (by
    have e1 : decide (i < -(2 ^ 63 : Int)) = false := decide_eq_false (by omega)
    have e2 : decide (i ≥ 2 ^ 63) = false := decide_eq_false (by omega)
    rw [e1, e2, Bool.or_false]) (by rw [h1]; simpa using h2) ⟨.str ⟨#[c]⟩, H, I.tok _, ⟨_, rfl⟩, q⟩) hs
/-- list, tuple or str -/
def rIx (K : PySem.W.Frag) : R2 := fun x y H Q => rIxL K x y H Q ∨ rIxT K x y H Q ∨ rIxS x y H Q
theorem ix_seq : IxR X (rIx X.K) := ix_list.or (ix_tup.or ix_str)

/-! ### xs[i] = v, any sign -/
/-- the list's object behind a store -/
theorem mapSeq_set (its : List Value) (n j : Nat) (u : Value) : Obj.mapSeq (·.setIfInBounds j u) { cls := .type "list", data := .seq its.toArray n } = { cls := .type "list", data := .seq (its.set j u).toArray n } := by
  simp [Obj.mapSeq]
theorem Inv.lst {pins : List (Addr × Obj)} {σ : St} {H : Hp} {s : Shared} {p : Addr} {xs : List V} (I : Inv X pins σ H s) (h : H p = some (.lst xs)) :
    ∃ (its : List Value) (n : Nat), Vals xs its ∧ s.heap.get? p = some { cls := .type "list", data := .seq its.toArray n } ∧ xs.length ≤ sizeLine := by
  obtain ⟨z, its, n, r, e⟩ := I.hok p _ h
  exact ⟨its, n, r, e, z⟩
/-- the list at p is written by an update of its object -/
theorem Inv.lstUpd {pins : List (Addr × Obj)} {σ : St} {H : Hp} {s : Shared} {p : Addr} {xs ys : List V} {its its' : List Value} {n n' : Nat} {f : Obj → Obj} (I : Inv X pins σ H s) (h : H p = some (.lst xs))
    (ho : s.heap.get? p = some { cls := .type "list", data := .seq its.toArray n }) (hf : f { cls := .type "list", data := .seq its.toArray n } = { cls := .type "list", data := .seq its'.toArray n' }) (r : Vals ys its') (hz : ys.length ≤ sizeLine) (t : Nat) :
    Inv X pins σ (upd H p (.lst ys)) { s with heap := s.heap.update p f, toks := t } := by
  have e : (s.heap.update p f).get? p = some { cls := .type "list", data := .seq its'.toArray n' } := by
    rw [Heap.get?_update_self f ho (by rw [hf] <;> rfl), hf]
  refine I.write (x := p) (e := p) (by rw [h]; trivial) (.inl rfl) (fun b u hb q => (Heap.get?_update_other _ _ (Ne.symm hb)).trans q) ⟨_, e⟩ ?_
  exact ⟨hz, its', n', r, e⟩
def rSetL : V → V → V → Hp → (Hp → Prop) → Prop := fun o i v H Q => ∃ p xs k j, o = .ref p ∧ i = .int k ∧ H p = some (.lst xs) ∧ ixN xs.length k = some j ∧ Q (upd H p (.lst (xs.set j v)))
theorem set_list : PSet X rSetL := by
  intro pins s σ H o i v ov iv u Q I ro ri rv h
  obtain ⟨p, xs, k, j, rfl, rfl, hp, hj, q⟩ := h
  cases ro
  obtain ⟨t, rfl⟩ := ri
  obtain ⟨its, n, r, ho, hz⟩ := I.lst hp
  obtain ⟨h1, h2, h3, h4⟩ := ixN_seq hj
  have hl := r.length
  have hn := line63
  have I' : Inv X pins σ (upd H p (.lst (xs.set j v))) { s with heap := s.heap.update p (Obj.mapSeq (·.setIfInBounds j u)) } :=
    I.lstUpd hp ho (mapSeq_set its n j u) (r.set rv j) (by rw [List.length_set]; exact hz) s.toks
  by_cases h0 : 0 ≤ k
  · have hk : k.toNat = j := by
      rw [seqIndex_of h0 h4] at h1
      exact Option.some.inj h1
    exact PySem.W.ki_setAt ho h0 (by omega) (by rw [List.size_toArray, ← hl]; exact h4) (by rw [hk]; exact ⟨_, I', q⟩)
  · have hk : (k + (its.toArray.size : Int)).toNat = j := by
      rw [seqIndex_neg (by omega) h3] at h1
      rw [List.size_toArray, ← hl]
      exact Option.some.inj h1
    exact PySem.W.ki_setBack ho (by omega) (by rw [List.size_toArray, ← hl]; exact h3) (by omega) (by rw [hk]; exact ⟨_, I', q⟩)

/-! ### slices -/
theorem slice_bounds (lo hi : Option Int) (n : Nat) : (sliceBounds lo hi none n).1 = ((HT.sIx n 0 lo : Nat) : Int) ∧ (sliceBounds lo hi none n).2.1 = ((HT.sIx n n hi : Nat) : Int) ∧ (sliceBounds lo hi none n).2.2 = 1 := by
  refine ⟨?_, ?_, rfl⟩
  · cases lo with
    | none => simp [sliceBounds, HT.sIx]
    | some i =>
      simp only [sliceBounds, HT.sIx, Option.getD_none, show (1 : Int) > 0 by decide, if_true]
      by_cases h : i < 0
      · simp only [h, if_true] <;> omega
      · simp only [h, if_false] <;> omega
  · cases hi with
    | none => simp [sliceBounds, HT.sIx]
    | some i =>
      simp only [sliceBounds, HT.sIx, Option.getD_none, show (1 : Int) > 0 by decide, if_true]
      by_cases h : i < 0
      · simp only [h, if_true] <;> omega
      · simp only [h, if_false] <;> omega
theorem slicePick_cut (its : List Value) (lo hi : Option Int) : slicePick its.toArray lo hi none = ((its.drop (HT.sIx its.length 0 lo)).take (HT.sIx its.length its.length hi - HT.sIx its.length 0 lo)).toArray := by
  obtain ⟨h1, h2, h3⟩ := slice_bounds lo hi its.toArray.size
  unfold slicePick
  rw [h1, h2, h3]
  simp only [sliceRange_one, pick_run, List.size_toArray] <;> rfl
/-- xs[lo:hi] of a list: a new list -/
def rSlL (K : PySem.W.Frag) : V → Option Int → Option Int → Hp → VK → Prop := fun x lo hi H Q => ∃ a xs, x = .ref a ∧ SqL K H a xs ∧ ∀ p, H p = none → Q (.ref p) (upd H p (.lst (cutV xs lo hi)))
theorem sl_list : SlR X (rSlL X.K) := by
  intro pins s σ H x v vl vu lo hi sl Q I rx hs pl pu h
  obtain ⟨a, xs, rfl, hx, q⟩ := h
  cases rx
  obtain ⟨its, r, ht, hz⟩ := I.list hx
  have hlen := r.length
  refine ⟨"list", _, slot_list_getitem.lookup, ht.isList.typeIs, ?_⟩
  refine wpAny_getItem_list_slice ht.isList hs pl pu .none (by simp) ?_ (by rw [List.size_toArray] <;> omega)
  rw [slicePick_cut, ← hlen]
  refine ⟨.ref s.heap.objs.size, _, I.laid (t' := s.toks) (o := .lst (cutV xs lo hi)) (fun b ob q => Heap.get?_push_of_some _ q) (Nat.le_refl _) ?_, rfl, q _ (I.hok.fresh (Nat.le_refl _))⟩
  exact ⟨Nat.le_trans (cutV_length xs lo hi) hz, _, 0, (r.drop (HT.sIx xs.length 0 lo)).take (HT.sIx xs.length xs.length hi - HT.sIx xs.length 0 lo), Heap.get?_push_size _ rfl⟩

/-! ### in, not in: flat items -/

/-! ### len, list(x), tuple(x) of any list or tuple that is read -/
theorem call_len_seq : CallR X (.builtin "len") (fun xs H Q => ∃ p ys, xs = [.ref p] ∧ (SqL X.K H p ys ∨ SqT X.K H p ys) ∧ Q (.int ys.length) H) := by
  intro pins s σ H xs us Q I r h
  obtain ⟨p, ys, rfl, hq, q⟩ := h
  obtain ⟨u, rfl, rx⟩ := vals1 r
  cases rx
  have hn := line63
  rcases hq with hq | hq
  · obtain ⟨its, r', pl, hz⟩ := I.list hq
    have hlen := r'.length
    exact Calls.call_len_list pl.isList (by simp only [List.size_toArray] <;> omega) ⟨.int ys.length, H, I.tok _, ⟨s.toks + 1, by rw [List.size_toArray, hlen]⟩, q⟩
  · obtain ⟨its, r', pl, hz⟩ := I.tuple hq
    have hlen := r'.length
    exact len_tuple pl (by simp only [List.size_toArray] <;> omega) ⟨.int ys.length, H, I.tok _, ⟨s.toks + 1, by rw [List.size_toArray, hlen]⟩, q⟩
theorem call_len_str : CallR X (.builtin "len") (fun xs H Q => ∃ z, xs = [.str z] ∧ z.length ≤ sizeLine ∧ Q (.int z.length) H) := by
  intro pins s σ H xs us Q I r h
  obtain ⟨z, rfl, hz, q⟩ := h
  obtain ⟨u, rfl, t, rfl⟩ := vals1 r
  have hn := line63
  exact len_str (by omega) ⟨.int z.length, H, I.tok _, ⟨_, rfl⟩, q⟩
theorem CallR.or {f : Value} {r r' : List V → Hp → VK → Prop} (h : CallR X f r) (h' : CallR X f r') : CallR X f (fun xs H Q => r xs H Q ∨ r' xs H Q) := by
  intro pins s σ H xs us Q I rs q
  rcases q with q | q
  · exact h pins s σ H xs us Q I rs q
  · exact h' pins s σ H xs us Q I rs q
theorem call_list_of : CallR X (.type "list") (fun xs H Q => ∃ p ys, xs = [.ref p] ∧ (SqL X.K H p ys ∨ SqT X.K H p ys) ∧ ∀ l, H l = none → Q (.ref l) (upd H l (.lst ys))) := by
  intro pins s σ H xs us Q I r h
  obtain ⟨p, ys, rfl, hq, q⟩ := h
  obtain ⟨u, rfl, rx⟩ := vals1 r
  cases rx
  have fin : ∀ (its : List Value), Vals ys its → ys.length ≤ sizeLine → ∀ (h' : Heap) (c' : Nat), (∀ b o', s.heap.get? b = some o' → h'.get? b = some o') →
      h'.get? s.heap.objs.size = some { cls := .type "list", dict := none, data := .seq its.toArray c', slots := #[] } → EP X pins σ Q (.ref s.heap.objs.size) { s with heap := h' } := fun its r' hz h' c' kp e =>
    ⟨.ref s.heap.objs.size, _, I.laid (t' := s.toks) kp (Nat.le_refl _) (show ObjOk X.prog X.w _ h' _ (.lst ys) from ⟨hz, its, c', r', e⟩), rfl, q _ (I.hok.fresh (Nat.le_refl _))⟩
  rcases hq with hq | hq
  · obtain ⟨its, r', pl, hz⟩ := I.list hq
    have hlen := r'.length
    obtain ⟨o, ho, hc, n, hd⟩ := pl.isList
    exact call_list_seq p (.inl rfl) ho hc hd (fun h' c' kp e => fin its r' hz h' c' kp e) (by simp only [List.size_toArray] <;> omega)
  · obtain ⟨its, r', pl, hz⟩ := I.tuple hq
    have hlen := r'.length
    obtain ⟨o, ho, hc, n, hd⟩ := pl
    exact call_list_seq p (.inr rfl) ho hc hd (fun h' c' kp e => fin its r' hz h' c' kp e) (by simp only [List.size_toArray] <;> omega)
theorem call_tuple_of : CallR X (.type "tuple") (fun xs H Q => ∃ p ys, xs = [.ref p] ∧ ((SqL X.K H p ys ∧ ∀ l, H l = none → Q (.ref l) (upd H l (.tup ys))) ∨ (SqT X.K H p ys ∧ Q (.ref p) H))) := by
  intro pins s σ H xs us Q I r h
  obtain ⟨p, ys, rfl, h⟩ := h
  obtain ⟨u, rfl, rx⟩ := vals1 r
  cases rx
  rcases h with ⟨hq, q⟩ | ⟨hq, q⟩
  · obtain ⟨its, r', pl, hz⟩ := I.list hq
    have hlen := r'.length
    refine call_tuple_list pl.isList (fun h' kp => ?_) (by simp only [List.size_toArray] <;> omega)
    have I1 : Inv X pins σ H { s with heap := h' } := I.kept (t' := s.toks) kp
    have I2 : Inv X pins σ (upd H h'.objs.size (.tup ys)) { s with heap := h'.push { cls := .type "tuple", data := .seq its.toArray } } :=
      I1.laid (t' := s.toks) (fun b o e => Heap.get?_push_of_some _ e) (Nat.le_refl _) (show ObjOk X.prog X.w _ _ _ (.tup ys) from ⟨hz, its, r', IsTup.new _ _⟩)
    exact ⟨.ref h'.objs.size, _, I2, rfl, q _ (I1.hok.fresh (Nat.le_refl _))⟩
  · obtain ⟨its, r', pl, hz⟩ := I.tuple hq
    exact call_tuple_same pl ⟨.ref p, H, I, rfl, q⟩

/-! ### the call of a builtin's method: o.m(..) -/
/-- the value is of that builtin type -/
def tyV (K : PySem.W.Frag) (T : String) (x : V) (H : Hp) : Prop := match x with
  | .str _ => T = "str"
  | .int _ => T = "int"
  | .ref p => (T = "list" ∧ ∃ xs, SqL K H p xs) ∨ (T = "tuple" ∧ ∃ o, K.lookup p = some o ∧ o.cls = .type "tuple" ∧ o.dict = none) ∨
      (T = "dict" ∧ ((∃ kvs, H p = some (.dK kvs)) ∨ ∃ kvs, H p = some (.dT kvs))) ∨ (T = "set" ∧ ∃ S n, H p = some (.set S n))
  | _ => False
theorem tyV_is {pins : List (Addr × Obj)} {σ : St} {H : Hp} {s : Shared} {T : String} {x : V} {v : Value} (I : Inv X pins σ H s) (r : RelV x v) (ty : tyV X.K T x H) :
    s.TypeIs v T ∧ ∀ a, v = .ref a → ∃ ob, s.heap.get? a = some ob ∧ ob.dict = none := by
  cases x with
  | str z =>
    obtain ⟨t, rfl⟩ := r
    cases (show T = "str" from ty)
    exact ⟨typeIs_str s z t, fun _ e => nomatch e⟩
  | int i =>
    obtain ⟨t, rfl⟩ := r
    cases (show T = "int" from ty)
    exact ⟨typeIs_int s i t, fun _ e => nomatch e⟩
  | ref p =>
    cases r
    rcases ty with ⟨rfl, xs, hq⟩ | ⟨rfl, o, hk, hc, hd⟩ | ⟨rfl, hk⟩ | ⟨rfl, S, n, hk⟩
    · obtain ⟨its, _, pl, _⟩ := I.list hq
      refine ⟨pl.isList.typeIs, fun a e => ?_⟩
      cases e
      obtain ⟨o, n, e, c, hd, _⟩ := pl
      exact ⟨o, e, hd⟩
    · refine ⟨⟨o, I.kIn p o hk, hc⟩, fun a e => ?_⟩
      cases e
      exact ⟨o, I.kIn _ o hk, hd⟩
    · have z : ∃ o, s.heap.get? p = some o ∧ o.ExactDict := by
        rcases hk with ⟨kvs, hk⟩ | ⟨kvs, hk⟩
        · obtain ⟨_, _, _, _, o, _, _, e, ex, _⟩ := I.hok p _ hk
          exact ⟨o, e, ex⟩
        · obtain ⟨_, _, _, _, o, _, _, e, ex, _⟩ := I.hok p _ hk
          exact ⟨o, e, ex⟩
      obtain ⟨o, e, ex⟩ := z
      refine ⟨⟨o, e, ex.1⟩, fun a e2 => ?_⟩
      cases e2
      exact ⟨o, e, ex.2.1⟩
    · obtain ⟨o, _, _, _, e, ex, _⟩ := I.hok p _ hk
      refine ⟨⟨o, e, ex.1⟩, fun a e2 => ?_⟩
      cases e2
      exact ⟨o, e, ex.2.1⟩
  | _ => exact False.elim ty
def tBM (K : PySem.W.Frag) (T : String) (r : V → List V → Hp → VK → Prop) (to : TE) (t : TA) : TE := fun σ H Q => to σ H fun x H1 => tyV K T x H1 ∧ t σ H1 fun xs H2 => r x xs H2 Q
variable {o e : Expr} {es : List Expr} {to : TE} {t : TA} {name : Str} {apos cpos : Pos} {T id : String} {r : V → List V → Hp → VK → Prop}
theorem pe_bm (pa : PlainAttrs T) (slot : Slot T name id) (hty : typeOf (.builtin id) = pure (.type "method_descriptor")) (hm : MtR X id r) (ho : PE X o to) (ha : PA X (e :: es) t)
    (hbase : attributeBase o name X.env (eval o X.env) = eval o X.env := by rfl)
    (hfew : ((backTo cpos (starEach (e :: es) X.env)).all (fun x => !x.1) && (backToKw cpos (keywordEach [] X.env)).all (fun x => x.1.isSome)
      && decide ((e :: es).length + ([] : List Keyword).length + (if ([] : List Keyword).isEmpty then 0 else 1) < 30)) = true := by rfl)
    (hline : (apos.endLine == cpos.line) = true := by rfl) (hs : starEach (e :: es) X.env = (false, eval e X.env) :: starEach es X.env := by rfl) (hplain : (backTo cpos (starEach es X.env)).any (·.1) = false := by rfl) :
    PE X (.Call (.Attribute o name apos) (e :: es) [] cpos) (tBM X.K T r to t) := by
  intro pins s σ H Q I h
  refine wpAny_Call_method_late hbase hfew hline rfl (thn (ho pins s σ H _ I h) fun v s1 ⟨x, H1, I1, r1, ty, q1⟩ => ?_)
  obtain ⟨h1, h2⟩ := tyV_is I1 r1 ty
  refine ⟨T, id, pa, slot, hty, h1, h2, ?_⟩
  have hA := ha cpos pins s1 σ H1 _ I1 q1
  rw [hs] at hA ⊢
  refine Calls.callWith_builtin (by show (false || (backTo cpos (starEach es X.env)).any (·.1)) = false; rw [hplain] <;> rfl) (Calls.evalArgs_plain ?_)
  exact thn hA fun us s2 ⟨vs, H2, I2, r2, q2⟩ => hm pins s2 σ H2 x vs v us Q I2 r1 r2 q2
/- xs.append(e), list.index on a module's tuple .. are MtR facts of 06m -/
end
end L2

namespace L2
open PySem PySem.Spec PyProof.Rows

def MtM (X : Cx) (id : String) (r : V → List V → Hp → VK → Prop) : Prop :=
  ∀ (pins : List (Addr × Obj)) (s : Shared) (σ : St) (H : Hp) (x : V) (xs : List V) (v : Value) (us : List Value) (Q : VK), Inv X pins σ H s → RelV x v → Vals xs us → r x xs H Q →
    wpAny (model X.prog X.w) X.A (call (.builtin id) (v :: us)) (EP X pins σ Q) X.xe s

/-! ### lists of values -/
theorem Vals.one : ∀ {x : V} {us : List Value}, Vals [x] us → ∃ u, us = [u] ∧ RelV x u
  | _, _, .cons r .nil => ⟨_, rfl, r⟩
theorem Vals.two : ∀ {x y : V} {us : List Value}, Vals [x, y] us → ∃ u v, us = [u, v] ∧ RelV x u ∧ RelV y v
  | _, _, _, .cons r (.cons q .nil) => ⟨_, _, rfl, r, q⟩
theorem Vals.rep {xs : List V} {us : List Value} (h : Vals xs us) : ∀ k : Nat, Vals (List.replicate k xs).flatten (List.replicate k us).flatten
  | 0 => .nil
  | k + 1 => by
    rw [List.replicate_succ, List.replicate_succ, List.flatten_cons, List.flatten_cons]
    exact Vals.append h (Vals.rep h k)
theorem foldl_rep (its : List Value) : ∀ (k : Nat) (acc : List Value),
    List.foldl (fun x1 x2 => x1 ++ x2) acc.toArray (List.replicate k its.toArray) = (acc ++ (List.replicate k its).flatten).toArray
  | 0, acc => by simp
  | k + 1, acc => by
    have e : acc.toArray ++ its.toArray = (acc ++ its).toArray := by simp
    have e2 : (acc ++ its) ++ (List.replicate k its).flatten = acc ++ (List.replicate (k + 1) its).flatten := by
      rw [List.replicate_succ, List.flatten_cons, List.append_assoc]
    rw [← e2, ← foldl_rep its k (acc ++ its), ← e, List.replicate_succ, List.foldl_cons]

section
variable {X : Cx} {pins : List (Addr × Obj)} {σ : St} {H : Hp} {s : Shared} {l b : Addr} {xs ys zs : List V}

/-! ### the two steps: a tracked list is rewritten, a new list is laid -/
theorem Inv.lset {its its' : List Value} {n : Nat} {f : Array Value → Array Value} {t' : Nat} (I : Inv X pins σ H s) (hH : H l = some (.lst xs))
    (e : s.heap.get? l = some { cls := .type "list", data := .seq its.toArray n }) (hf : f its.toArray = its'.toArray) (hv : Vals ys its') (hz : ys.length ≤ sizeLine) :
    Inv X pins σ (upd H l (.lst ys)) { s with heap := s.heap.update l (Obj.mapSeq f), toks := t' } := by
  have q := PySem.IsL.update e f
  rw [hf] at q
  refine I.write (x := l) (e := l) (by rw [hH]; exact trivial) (.inl rfl) (fun b' u hb hu => (Heap.get?_update_other s.heap (Obj.mapSeq f) (Ne.symm hb)).trans hu) ⟨_, q⟩ ?_
  exact ⟨hz, its', _, hv, q⟩
theorem Inv.lnew {its : List Value} {t' : Nat} (I : Inv X pins σ H s) (hv : Vals ys its) (hz : ys.length ≤ sizeLine) :
    Inv X pins σ (upd H s.heap.objs.size (.lst ys)) { s with heap := s.heap.push { cls := .type "list", data := .seq its.toArray }, toks := t' } :=
  I.laid (fun _ _ q => Heap.get?_push_of_some _ q) (Nat.le_refl _) ⟨hz, its, 0, hv, Heap.get?_push_size _ rfl⟩
theorem Inv.fresh (I : Inv X pins σ H s) : H s.heap.objs.size = none := I.hok.fresh (Nat.le_refl _)
theorem Inv.lstM (I : Inv X pins σ H s) (hH : H l = some (.lst xs)) : xs.length ≤ sizeLine ∧ ∃ (its : List Value) (n : Nat), Vals xs its ∧ xs.length = its.length ∧ s.heap.get? l = some { cls := .type "list", data := .seq its.toArray n } := by
  obtain ⟨z, its, n, r, e⟩ := I.hok l _ hH
  exact ⟨z, its, n, r, r.length, e⟩

theorem notLongL {n : Nat} (h : n ≤ sizeLine) : Builtin.List.listTooLong n = false := by
  unfold Builtin.List.listTooLong
  exact decide_eq_false (by omega)
end

section
variable {X : Cx}

/-! ### methods -/
def rAppend : V → List V → Hp → VK → Prop := fun x vs H Q => ∃ l xs y, x = .ref l ∧ vs = [y] ∧ H l = some (.lst xs) ∧ xs.length < sizeLine ∧ Q .non (upd H l (.lst (xs ++ [y])))
theorem mt_append : MtM X "list.append" rAppend := by
  intro pins s σ H x vs v us Q I rx rv h
  obtain ⟨l, xs, y, rfl, rfl, hH, hz, q⟩ := h
  cases rx
  obtain ⟨u, rfl, ru⟩ := rv.one
  obtain ⟨z, its, n, r, hl, e⟩ := I.lstM hH
  refine call_meets F.slot_list_append ⟨_, e, rfl⟩ F.entry_list_append (F.args_list_append_2 _ _) (PySem.list_append l its.toArray n u (by rw [List.size_toArray]; omega)) ⟨e, ?_⟩
  refine ⟨.non, _, I.lset (its' := its ++ [u]) hH e (by simp) (r.append (.cons ru .nil)) ?_, rfl, q⟩
  rw [List.length_append, List.length_singleton]
  omega






/-! ### list + list, list += list, list * int -/
def rCat : R2 := fun x y H Q => ∃ l b xs zs, x = .ref l ∧ y = .ref b ∧ H l = some (.lst xs) ∧ H b = some (.lst zs) ∧ xs.length + zs.length ≤ sizeLine ∧ ∀ p, H p = none → Q (.ref p) (upd H p (.lst (xs ++ zs)))
theorem op_cat : OpR X (binaryOp .Add) rCat := by
  intro pins s σ H x y v u Q I rx ry h
  obtain ⟨l, b, xs, zs, rfl, rfl, hH, hB, hz, q⟩ := h
  cases rx
  cases ry
  obtain ⟨z, its, n, r, hl, e⟩ := I.lstM hH
  obtain ⟨z2, its2, n2, r2, hl2, e2⟩ := I.lstM hB
  refine PySem.P.add_list e e2 ?_ (by rw [List.size_toArray, List.size_toArray]; omega)
  have ea : its.toArray ++ its2.toArray = (its ++ its2).toArray := by simp
  rw [ea]
  exact ⟨.ref _, _, I.lnew (t' := s.toks) (r.append r2) (by rw [List.length_append]; omega), rfl, q _ I.fresh⟩
/-- a list times an int (a negative one is nothing) -/
def rRep : R2 := fun x y H Q => ∃ l k xs, x = .ref l ∧ y = .int k ∧ H l = some (.lst xs) ∧ -(2 ^ 63) ≤ k ∧ k < 2 ^ 63 ∧ xs.length * k.toNat ≤ sizeLine ∧
  ∀ p, H p = none → Q (.ref p) (upd H p (.lst (List.replicate k.toNat xs).flatten))
theorem len_rep {α : Type} (xs : List α) (k : Nat) : (List.replicate k xs).flatten.length = k * xs.length := by
  induction k with
  | zero => simp
  | succ k ih => rw [List.replicate_succ, List.flatten_cons, List.length_append, ih, Nat.succ_mul, Nat.add_comm]
theorem op_rep : OpR X (binaryOp .Mult) rRep := by
  intro pins s σ H x y v u Q I rx ry h
  obtain ⟨l, k, xs, rfl, rfl, hH, h1, h2, hz, q⟩ := h
  cases rx
  obtain ⟨t, rfl⟩ := ry
  obtain ⟨z, its, n, r, hl, e⟩ := I.lstM hH
  have hlen : its.toArray.size * k.toNat ≤ sizeLine := by rw [List.size_toArray, ← hl]; exact hz
  have hcap : ¬ its.toArray.size * k.toNat > (2 ^ 63 - 1) / 8 := by
    have : (sizeLine : Nat) ≤ (2 ^ 63 - 1) / 8 := by decide
    omega
  have hfit : ¬ (!Builtin.List.listFitsIndex k) = true := by
    rw [fitsIndex_both h1 h2]
    exact Bool.false_ne_true
  have hlong : ¬ Builtin.List.listTooLong (its.toArray.size * k.toNat) = true := by
    rw [notLongL hlen]
    exact Bool.false_ne_true
  have hnew : List.foldl (fun x1 x2 => x1 ++ x2) #[] (List.replicate (if its.toArray.isEmpty = true then 0 else k.toNat) its.toArray) = (List.replicate k.toNat its).flatten.toArray := by
    have f0 : ∀ m : Nat, List.foldl (fun x1 x2 => x1 ++ x2) #[] (List.replicate m its.toArray) = (List.replicate m its).flatten.toArray := fun m => by
      have := foldl_rep its m []
      rw [List.nil_append] at this
      exact this
    rw [f0]
    cases its with
    | nil => simp
    | cons a r' => rw [if_neg (by simp)]
  refine wpAny_binaryOp_repeat_ref (T := "list") (U := "int") (by decide) ⟨_, e, rfl⟩ (fun s' => typeIs_int s' k t) noFill_list_mul F.fills_int_mul F.slot_int_rmul repeat_list F.slot_int_index.lookup
    (call_meets F.slot_int_rmul (typeIs_int s k t) F.entry_int_rmul (F.args_int_rmul_2 _ _) (int___rmul___int_list k t l its.toArray n)
      ⟨e, rfl, ⟨_, e, rfl⟩, call_meets F.slot_list_mul ⟨_, e, rfl⟩ F.entry_list_mul (F.args_list_mul_2 _ _) (AutoListH.list___mul___list_int_3 l its.toArray n k t hfit hcap hlong) ⟨e, ?_⟩⟩)
  rw [hnew]
  exact ⟨.ref _, _, I.lnew (t' := s.toks) (r.rep k.toNat) (by rw [len_rep, Nat.mul_comm]; exact hz), rfl, q _ I.fresh⟩

/-! ### del xs[i] -/
end

/-! ### xs[a:b] = ys -/
section
variable {prog : Program} {w : World} {A : Around} {E : Value → Shared → Prop} {s : Shared}
end

section
variable {X : Cx}
end
end L2

namespace Att
open PySem PySem.W PySem.Calls PyProof.Rows

/-! ### the script -/
theorem ints_of_wellAll {P : Params} {h : Heap} : ∀ (ns : List Int) (vs : List Value), WellAll P h vs (ns.map WData.int) → IntsAre vs ns := by
  intro ns
  induction ns with
  | nil =>
    intro vs w
    rw [List.map_nil] at w
    cases w
    exact .nil
  | cons n ns ih =>
    intro vs w
    rw [List.map_cons] at w
    cases w with
    | cons a b =>
      cases a
      exact .cons _ _ (ih _ b)

theorem script_of {l : OpenLaw} {n : Nat} (hn : l.most = some n) {P : Params} {h : Heap} {args : List WData} {vals : List Value}
    (hpre : l.row.toRowW.claim.pre args = true) (hwl : WellAll P h vals args) :
    ∃ a vs ns, vals = [Value.ref a] ∧ args = [WData.list (ns.map WData.int)] ∧ h.get? a = some { cls := .type "list", data := .seq vs.toArray } ∧ IntsAre vs ns ∧ ns.length ≤ n := by
  have hsh : WShape.hasAll [] args [.list .int] = true := (pre_splitW hpre).1
  have hc : l.pre.holds [] { args := args } = true := (pre_splitW hpre).2
  obtain ⟨d, r, rfl, h1, h2⟩ := hasAllW_cons hsh
  obtain rfl := hasAllW_nil h2
  obtain ⟨xs, rfl, h3⟩ := hasW_list h1
  obtain ⟨ns, rfl⟩ := items_int h3
  have hlen : ns.length ≤ n := by
    unfold OpenLaw.pre at hc
    have h4 : (WTm.not (.lt (.lit (.int (n : Int))) (.len (.arg 0)))).holds [] { args := [.list (ns.map .int)] } = true := by
      have h4 := (holds_andW hc).1
      rw [hn] at h4
      exact h4
    have h5 := condW_of h4 (w_not (w_lt w_lit (w_len_list (w_arg rfl))))
    rw [List.length_map] at h5
    refine Nat.le_of_not_lt fun q => ?_
    have q' : (n : Int) < ((ns.length : Nat) : Int) := by omega
    first
      | (rw [decide_eq_true q'] at h5; exact absurd h5 (by decide))
      | (simp at h5; omega)
  cases hwl with
  | cons w1 w2 =>
    cases w2
    cases w1 with
    | list ho hall => exact ⟨_, _, ns, rfl, rfl, ho, ints_of_wellAll ns _ hall, hlen⟩

theorem post_true (l : OpenLaw) (args : List WData) : l.row.toRowW.claim.post args (.bool true) args = true :=
  postW_of (r := l.row.toRowW) (X := (true == true))
    (show WShape.has [] (.bool true) .bool = true by first | rfl | decide | simp [WShape.has, WShape.arms, WShape.armsAll])
    (show (WTm.eq .res (.lit (.bool true))).value [] { args := args, res := some (.bool true), after := args } = some (.bool (true == true)) from w_eq_bool (w_res rfl) w_lit) rfl

/-! ### the attachment: holds_open's last premise (the goal 'hc' behind k_head) from a wpAny of the law's body -/

/-- the same from a codeAny of the CALL (for a layer whose function contracts speak of calls) -/
theorem attach_call {l : OpenLaw} {n : Nat} {q : Program} {loose : List Str} {XP : (Str → Option Value) → Heap → Prop} {YP : World → Heap → Prop} {d : DefRec}
    (hn : l.most = some n) (hdf : d.params.defaults = [])
    (call : ∀ (w : World) (s₀ s₁ : Shared) (mg mb : Str → Option Value) (fa : Addr) (o : Obj) (pm cd doc : Value) (a : Addr) (vs : List Value) (ns : List Int),
      Ground q loose [] XP w s₀ mg mb s₁.heap → YP w s₁.heap →
      s₁.heap.get? fa = some o → o.data = .func (docDef d.name d.params d.body d.scope pm cd doc) → s₁.heap.CodeRec cd d.name → mg d.name = some (.ref fa) →
      s₁.heap.get? a = some { cls := .type "list", data := .seq vs.toArray } → IntsAre vs ns → ns.length ≤ n → s₁.gens = #[] →
      codeAny (model l.prog w) callerA (.call (.ref fa) ⟨[.ref a], []⟩) (fun r s' => r = .ok (.ret (.bool true)) ∧ OldK s₁.heap s'.heap ∧ s'.os = s₁.os ∧ AllBare s'.gens) s₁) :
    WalkO q loose XP YP l.row.toRowW d [] (fun f vs => PySem.call f vs) := by
  intro w s₀ s₁ mg mb G Y fa o pm cd doc dV kV ho hd hcd hD hmg hg args vals as hpre hlay hrd hwl hlo
  obtain rfl : dV = .none := Dflts.none hD hdf
  obtain rfl : kV = .none := Dflts.noKw hD
  obtain ⟨a, vs, ns, rfl, rfl, hobj, hints, hlen⟩ := script_of hn hpre hwl
  refine enter_call (codeAny_mono (call w s₀ s₁ mg mb fa o pm cd doc a vs ns G Y ho (fd_plain hd) hcd hmg hobj hints hlen hg) fun r s' hq => ?_)
  obtain ⟨rfl, h2, h3, h4⟩ := hq
  exact ⟨.inl ⟨.bool true, .bool true, [], rfl, fun _ => rfl, .bool true, post_true l _, fun _ => ⟨List.Pairwise.nil, fun _ hm => (nomatch hm)⟩⟩, h2, h3, h4⟩


/-! ### rules over ANY heap (no ledger) from facts about the written part K: the library's own take a ledger (News) for what they write -/
section
variable {prog : Program} {w : World} {A : Around} {E : Value → Shared → Prop} {s : Shared} {K : Frag}





/-! the whole heap as the ledger: makes every rule that writes through a ledger a rule over any heap -/

end
end Att

namespace L2
open PySem PySem.Spec PyProof.Rows

theorem vals_ints : ∀ {vs : List Value} {ns : List Int}, IntsAre vs ns → Vals (ns.map V.int) vs
  | _, _, .nil => .nil
  | _, _, .cons n t h => .cons ⟨t, rfl⟩ (vals_ints h)

/-- nothing is tracked but the script, known to the object (or it is an object of the module) -/
def Only (H : Hp) : Prop := ∀ b, H b = none ∨ ∃ o xs, H b = some (.frz o (.lst xs))

/-- THE HEAD: the law's promise, at the heap behind the top. F, the promise of the law's def, may use that base is part of the heap (so K.In base, base.Ns mainGlobals mg stand in Mod) -/
theorem law_call {P : Program} {w : World} {K : PySem.W.Frag} {mg mb : Str → Option Value} {CX : CXT} {k : Nat} {fa a : Addr} {fd : FuncData} {x : Str} {sp : Sp} {s₁ : Shared} {vs : List Value} {ns : List Int}
    (KX : K.In s₁.heap) (hns : s₁.heap.Ns mainGlobals mg) (hb : s₁.heap.Ns builtinsNs mb) (hbb : ∀ x : Str, x ≠ "__name__" → mb x = bootBuiltins x) (hlim : s₁.heap.NoLimit) (hg : s₁.gens = #[])
    (ha : s₁.heap.get? a = some { cls := .type "list", data := .seq vs.toArray }) (hi : IntsAre vs ns) (hl : ns.length ≤ sizeLine) (hr : Room k callerA)
    (F : ∀ base : Heap, K.In base → base.Ns mainGlobals mg → FnOk P w K mg base CX k fa fd [x] sp) (hbind : ∀ (s : Shared) (u : Value), BindsTo s fd ⟨[u], []⟩ [(x, u)])
    (hsp : ∀ H : Hp, Only H → SqL K H a (ns.map V.int) → sp [.ref a] H (fun v _ => v = .bl true) fun _ _ _ => False)
    (hCX : ∀ H e s', CX [] H s₁ (fun _ _ _ => False) e s' → False) :
    codeAny (model P w) callerA (.call (.ref fa) ⟨[.ref a], []⟩) (fun r s' => r = .ok (.ret (.bool true)) ∧ OldK s₁.heap s'.heap ∧ s'.os = s₁.os ∧ AllBare s'.gens) s₁ := by
  have rv := vals_ints hi
  have lenV := hi.length
  -- from an abstract heap in which nothing but the script may be tracked
  have core : ∀ H : Hp, Only H → SqL K H a (ns.map V.int) → HOk P w H s₁.heap → (∀ b, H b ≠ none → b = a) → (H a ≠ none → K.lookup a = none) →
      codeAny (model P w) callerA (.call (.ref fa) ⟨[.ref a], []⟩) (fun r s' => r = .ok (.ret (.bool true)) ∧ OldK s₁.heap s'.heap ∧ s'.os = s₁.os ∧ AllBare s'.gens) s₁ := by
    intro H hO hS hok hA hK
    have base_of : ∀ {b : Addr} {o : Obj}, s₁.heap.get? b = some o → H b = none → (hidT s₁.heap H).get? b = some o := fun e n => hidT_get e n
    have noA : ∀ {b : Addr} {o : Obj} {es : Array DictEntry} {ep : Nat}, s₁.heap.get? b = some o → o.data = .dict es ep → H b = none := fun {b o es ep} e d => by
      cases q : H b with
      | none => rfl
      | some u =>
        have e' : b = a := hA b (by rw [q]; simp)
        subst e'
        rw [ha] at e; cases e
        have d' : Data.seq vs.toArray _ = Data.dict es ep := d
        cases d'
    have nsK : ∀ {b : Addr} {m : Str → Option Value}, s₁.heap.Ns b m → (hidT s₁.heap H).Ns b m := fun {b m} ⟨o, es, ep, e, d, r⟩ => ⟨o, es, ep, base_of e (noA e d), d, r⟩
    have hKb : K.In (hidT s₁.heap H) := fun b o e => base_of (KX b o e) (by
      cases q : H b with
      | none => rfl
      | some u =>
        have e' : b = a := hA b (by rw [q]; simp)
        subst e'
        rw [hK (by rw [q]; simp)] at e; cases e)
    have hM : Mod K mg (hidT s₁.heap H) := ⟨hKb, nsK hns, ⟨mb, nsK hb, hbb⟩, let ⟨mc, h1, h2⟩ := hlim; ⟨mc, nsK h1, h2⟩⟩
    have e0 : Env0 P w K mg (hidT s₁.heap H) callerA [] s₁ H := ⟨rfl, hM, fun b o e => of_hidT e, Nat.le_of_eq (hidT_size _ _), trivial, fun b hb => absurd (show b ∈ ([] : List Addr) from hb) (by simp), hok, .of_eq hg⟩
    refine codeAny_mono ((F _ hKb (nsK hns)).run callerA [] s₁ H ⟨[.ref a], []⟩ [.ref a] [.ref a] _ _ hr e0 (hbind s₁ (.ref a)) (.cons rfl .nil) (hsp H hO hS)) fun r s' h => ?_
    cases r with
    | error e => exact (hCX H e s' h).elim
    | ok fl =>
      cases fl with
      | next => exact False.elim h
      | brk => exact False.elim h
      | cont => exact False.elim h
      | ret u =>
        obtain ⟨v, H', os, bare, un, hok', r', q⟩ := h
        have q' : v = .bl true := q
        subst q'
        obtain rfl : u = Value.bool true := r'
        refine ⟨rfl, OldK.of_keep fun b o e => ?_, os, bare⟩
        cases q : H b with
        | none => exact un.keep b o e q (by intro z; exact absurd (show b ∈ ([] : List Addr) from z) (by simp)) (by simp)
        | some u =>
          rcases hO b with z | ⟨ob, xs, z⟩
          · rw [q] at z; cases z
          · have z2 := un.frzs b ob _ z
            obtain ⟨e1, _⟩ := hok b _ z
            obtain ⟨e2, _⟩ := hok' b _ z2
            rw [e] at e1; cases e1
            exact e2
  cases hk : K.lookup a with
  | some o =>
    -- the script is one of the module's own objects
    have e := KX a o hk
    rw [ha] at e
    cases e
    refine core (fun _ => none) (fun _ => .inl rfl) (.inr ⟨_, vs.toArray, _, hk, rfl, rfl, rfl, by rw [List.size_toArray, lenV]; exact hl, by simpa using rv⟩) (fun b u z => by have z' : (none : Option HO) = some u := z; cases z') (fun b z => absurd rfl z) fun z => absurd rfl z
  | none =>
    refine core (fun b => if b = a then some (.frz { cls := .type "list", data := .seq vs.toArray } (.lst (ns.map V.int))) else none) (fun b => ?_) (.inl (.inr ⟨{ cls := .type "list", data := .seq vs.toArray }, if_pos rfl⟩)) (fun b u z => ?_) (fun b z => ?_) fun _ => hk
    · by_cases hb : b = a
      · exact .inr ⟨_, _, if_pos hb⟩
      · exact .inl (if_neg hb)
    · by_cases hb : b = a
      · have z' := (if_pos hb).symm.trans z
        cases z'
        subst hb
        exact ⟨ha, by rw [List.length_map]; exact hl, vs, _, rv, ha⟩
      · have z' := (if_neg hb).symm.trans z
        cases z'
    · by_cases hb : b = a
      · exact hb
      · exact absurd (if_neg hb) z
end L2

namespace L2
open PySem PySem.Spec PyProof.Rows


/-- the goal that k_head leaves (case hc), from the law's promise. F gives the function object fd (K's own) once, then the promise over every base -/
theorem walk_of {l : PySem.W.OpenLaw} {n k : Nat} {q : Program} {loose : List Str} {XP : (Str → Option Value) → Heap → Prop} {YP : World → Heap → Prop} {d : DefRec} {K : Params → PySem.W.Frag} {CX : World → CXT} {sp : World → Sp} {x : Str}
    (hn : l.most = some n) (hn2 : n ≤ sizeLine) (hdf : d.params.defaults = []) (hr : Room k callerA)
    (hY : ∀ (w : World) (h : Heap), YP w h → (K w.params).In h)
    (F : ∀ (w : World) (mg : Str → Option Value) (fa : Addr) (h : Heap), (K w.params).In h → h.Ns mainGlobals mg → mg d.name = some (.ref fa) →
      ∃ fd : FuncData, (∀ (s : Shared) (u : Value), BindsTo s fd ⟨[u], []⟩ [(x, u)]) ∧
        ∀ base : Heap, (K w.params).In base → base.Ns mainGlobals mg → FnOk l.prog w (K w.params) mg base (CX w) k fa fd [x] (sp w))
    (hsp : ∀ (w : World) (H : Hp) (a : Addr) (ns : List Int), ns.length ≤ n → Only H → SqL (K w.params) H a (ns.map V.int) → sp w [.ref a] H (fun v _ => v = .bl true) fun _ _ _ => False)
    (hCX : ∀ (w : World) (H : Hp) (s : Shared) (e : Value) (s' : Shared), CX w [] H s (fun _ _ _ => False) e s' → False) :
    PySem.W.WalkO q loose XP YP l.row.toRowW d [] (fun f vs => PySem.call f vs) := by
  refine Att.attach_call hn hdf fun w s₀ s₁ mg mb fa o pm cd doc a vs ns G Y ho hd hcd hmg hobj hints hlen hg => ?_
  have KX := hY w _ Y
  obtain ⟨fd, hb, hF⟩ := F w mg fa _ KX G.T.g hmg
  exact law_call KX G.T.g G.T.b G.T.builtins G.T.nolimit hg hobj hints (Nat.le_trans hlen hn2) hr hF hb (fun H hO hS => hsp w H a ns hlen hO hS) fun H e s' => hCX w H s₁ e s'
end L2

/- THE LAST THEOREM (shape; LID, My.* are yours):
   My.Adr: a structure of the addresses that your layer names (classes, functions); My.Txt K t: a structure (Prop) of the equations over K;
   My.txt_mk : {K} {implicit addresses ..} (e1 : nsIn K mainGlobals "law" = some (some (.ref f))) (e2 : K.lookup f = some ⟨oc, od, .func (fnOf "law" "law" params body scope dV kV doc pm an cdv ct), sl⟩) (e3 : codeIn K cdv "law" = true) .. : ∃ t, My.Txt K t

set_option maxRecDepth 100000 in
set_option maxHeartbeats 0 in
theorem PySem.Challenge.cw_LID_holds : PySem.Challenge.rw_LID.Holds := by
  w_on; o_law; k_head; (case hw => w_witness2)
  k_fill
  refine L2.walk_of (l := PySem.Challenge.rw_LID) (n := 63) (k := 40) (x := "script") (CX := fun w => ..) (sp := fun _ => My.sp_law) rfl (by decide) rfl ⟨rfl, by decide, by decide⟩ (fun w h Y => PySem.W.kIn_of Y) ?F ?S ?C
  case F =>
    intro w mg fa h KX G hmg
    have T : ∃ t, My.Txt (L2.KOf KX) t := by
      dsimp only [L2.KOf]                          -- K must stand as «<heap const> w.params» for k_is
      refine' My.txt_mk ?e1 ?e2 ?e3 ..
      (case e1 => PySem.W.k_is)                    -- in the order: a name -> its address -> its object -> its parts
      (case e2 => PySem.W.k_is)
      ..
    obtain ⟨t, T⟩ := T
    have e0 := hmg.symm.trans (PySem.W.mg_of KX G T.law)
    cases e0                                       -- fa is the law's own address
    exact ⟨_, fun s u => .of_eq rfl, fun base kb nb => My.law_fn T kb nb⟩     -- if «.of_eq rfl» comes too early: refine' ⟨_, ?b, fun base kb nb => My.law_fn T kb nb⟩; exact fun s u => .of_eq rfl
  case S => exact fun w H a ns hl hO hS => ..
  case C => exact ..
(the tactic k_is has no namespace: write k_is) -/

/-! SHORT WORDS over the layer: a def of the text, its body, what a loop and a test want. -/
namespace L2
open PySem PySem.Spec PyProof.Rows

/-! ### the text by places -/
def defArgs (s : Stmt) : Arguments := match s with
  | .FunctionDef _ a _ _ _ _ _ _ _ _ => a
  | _ => { posonlyargs := [], args := [], vararg := none, kwonlyargs := [], kw_defaults := [], kwarg := none, defaults := [] }
def defBody (s : Stmt) : List Stmt := match s with
  | .FunctionDef _ _ b _ _ _ _ _ _ _ => b
  | _ => []
def defScope (s : Stmt) : Scope := match s with
  | .FunctionDef _ _ _ _ _ _ sc _ _ _ => sc
  | _ => { kind := .function, names := [], isGenerator := false, isCoroutine := false }

/-! ### no exception leaves a def -/
abbrev CX0 : CXT := fun _ _ _ _ _ _ => False
abbrev E0 : XK := fun _ _ _ => False
theorem pass0 {X : Cx} : Passes CX0 X E0 := fun _ _ _ _ _ _ _ h => h.elim

/-! ### a def (or method) of the text as it stands behind the top -/
structure Fun (K : PySem.W.Frag) (x qual : Str) (st : Stmt) (f : Addr) (fd : FuncData) : Prop where
  ex : ∃ (oc : Value) (od : Option Addr) (kV doc pm : Value) (an : Option Addr) (cdv ct : Value) (osl : Array (Option Value)),
    fd = PySem.W.fnOf x qual (defArgs st) (defBody st) (defScope st) .none kV doc pm an cdv ct ∧ K.lookup f = some ⟨oc, od, .func fd, osl⟩ ∧ PySem.W.codeIn K cdv qual = true
  kp : PySem.W.keepIn K (.ref f) = true
section
variable {P : Program} {w : World} {K : PySem.W.Frag} {mg : Str → Option Value} {base : Heap}
/-- THE RULE for a def: its body as a term of rules, and the reading of that term -/
theorem Fun.ok {x qual : Str} {st : Stmt} {f : Addr} {fd : FuncData} {N ps : List Str} {k : Nat} {sp : Sp} (F : Fun K x qual st f fd) (S : FnScope N ps (defScope st)) (len : ∀ vs H Q E, sp vs H Q E → vs.length = ps.length)
    (hbody : ∀ (cdv : Value) (A : Around) (outer : List Env) (s : Shared) (H : Hp) (vs : List V) (Q : VK) (E : XK), Room k (A.deeper (envOfC qual (defScope st) s.heap.objs.size f cdv)) → sp vs H Q E →
      ∃ t, PSs (cxOf CX0 P w K mg base N qual (defScope st) f cdv A outer s H E).nox (defBody st) t ∧ t { nx := fun _ H' => Q .non H', rt := Q } (start N vs) H) : FnOk P w K mg base CX0 (k + 1) f fd ps sp := by
  obtain ⟨oc, od, kV, doc, pm, an, cdv, ct, osl, rfl, lk, hcd⟩ := F.ex
  refine fn_of lk hcd S len fun A outer s H vs Q E hr hsp => ?_
  obtain ⟨t, h, q⟩ := hbody cdv A outer s H vs Q E hr hsp
  exact ⟨t, h.nox, q⟩
/-- how its arguments bind (no defaults): h is «fun _ _ _ _ _ _ us hl => match us, hl with | [_, _], _ => rfl», one _ a parameter -/
theorem Fun.binds {x qual : Str} {st : Stmt} {f : Addr} {fd : FuncData} {ps : List Str} (F : Fun K x qual st f fd)
    (h : ∀ (kV doc pm : Value) (an : Option Addr) (cdv ct : Value) (us : List Value), us.length = ps.length → bindArgs (PySem.W.fnOf x qual (defArgs st) (defBody st) (defScope st) .none kV doc pm an cdv ct) ⟨us, []⟩ = pure (ps.zip us)) : Binds K fd ps [] := by
  obtain ⟨oc, od, kV, doc, pm, an, cdv, ct, osl, rfl, lk, hcd⟩ := F.ex
  exact .all (h kV doc pm an cdv ct)
theorem fun_mk {x qual : Str} {st : Stmt} {f : Addr} {oc : Value} {od an : Option Addr} {osl : Array (Option Value)} {kV doc pm cdv ct : Value} (l : K.lookup f = some ⟨oc, od, .func (PySem.W.fnOf x qual (defArgs st) (defBody st) (defScope st) .none kV doc pm an cdv ct), osl⟩)
    (c : PySem.W.codeIn K cdv qual = true) (k : PySem.W.keepIn K (.ref f) = true) : Fun K x qual st f (PySem.W.fnOf x qual (defArgs st) (defBody st) (defScope st) .none kV doc pm an cdv ct) := ⟨⟨oc, od, kV, doc, pm, an, cdv, ct, osl, rfl, l, c⟩, k⟩
end

/-! ### expressions in short: the name that stands in the i-th slot -/
section
variable {X : Cx}
theorem pv (i : Nat) {x : Str} {pos : Pos} (hN : X.N[i]? = some x := by rfl) (hv : Vis X.env.scope x := by first | exact Or.inl rfl | exact Or.inr (Or.inl rfl) | exact Or.inr (Or.inr rfl)) (hd : (x == ("__debug__" : Str)) = false := by decide)
    (hcd : (x == ("__classdict__" : Str)) = false := by decide) : PE X (.Name x pos) (tVar i) := pe_var hN hv hd hcd
end

/-! ### tests -/
theorem iteF {A B : Prop} (h : B) : if false = true then A else B := by
  rw [if_neg Bool.false_ne_true]
  exact h
theorem iteT {A B : Prop} (h : A) : if true = true then A else B := by
  rw [if_pos rfl]
  exact h

/-! ### heaps -/
/-- all that was tracked is as it was -/
def Same (H H' : Hp) : Prop := ∀ b o, H b = some o → H' b = some o
theorem Same.refl (H : Hp) : Same H H := fun _ _ h => h
theorem Same.trans {H H1 H2 : Hp} (a : Same H H1) (b : Same H1 H2) : Same H H2 := fun c o h => b c o (a c o h)
theorem Same.free {H H' : Hp} (e : Same H H') {l : Addr} (h : H' l = Option.none) : H l = Option.none := by
  cases q : H l with
  | none => rfl
  | some o =>
    rw [e l o q] at h
    cases h
theorem Same.seq {K : PySem.W.Frag} {H H' : Hp} {a : Addr} {xs : List V} (e : Same H H') (h : SqL K H a xs) : SqL K H' a xs := by
  rcases h with (h | ⟨o, h⟩) | h
  · exact .inl (.inl (e _ _ h))
  · exact .inl (.inr ⟨o, e _ _ h⟩)
  · exact .inr h

end L2

section
set_option Elab.async false
set_option linter.all false
set_option maxRecDepth 100000
set_option maxHeartbeats 5000000
namespace Ex
open PySem PySem.Spec PyProof.Rows PySem.W


section
variable {prog : Program} {w : World} {A : Around} {E : Value → Shared → Prop} {h : Heap} {g : Array GenState} {d : Drawn} {t : Nat} {os : OsState} {nm qn : Str} {C N : Addr} {bs tl up un : List Value} {hd : Bool} {sn : List Str} {sub : List Value} {ab : Bool} {col : Option Bool}
  {dd : Option Addr} {j0 j1 j2 j3 j5 : Option Value} {B D nw ini iniD : String} {K : Frag} {fI : Addr} {as : List Value}


end
end Ex
end

section
set_option Elab.async false
set_option linter.all false
set_option maxRecDepth 100000
set_option maxHeartbeats 5000000
namespace Ex
open PySem PySem.Spec PyProof.Rows PySem.W PySem.Calls Builtin Builtin.ObjectAttr

/-- what is read of an own exception class -/
structure XC (K : Frag) (C : Addr) : Prop where
  ga : findIn K (.ref C) "__getattribute__" = some (some (.builtin "BaseException.__getattribute__"))
  gt : findIn K (.ref C) "__getattr__" = some none
  sa : findIn K (.ref C) "__setattr__" = some (some (.builtin "object.__setattr__"))
  be : mroIn K C (.type "BaseException") = some true
  ob : mroIn K C (.type "object") = some true
  pass : ∃ cd, clsIn K C = some cd ∧ cd.hasDict = true ∧ ∀ self, refuseLoop self "__setattr__" cd.mro = pure ()
  ca : findIn K (.ref C) "__class__" = some (some (.builtin "object.__class__"))
  cg : specialIn K (.builtin "object.__class__") "__get__" = some (some (.builtin "getset_descriptor.__get__"))
  ct : takesIn K (.builtin "object.__class__") = some true
  kc : kitCls K (.ref C) (.ref C) = some true

section
variable {prog : Program} {w : World} {A : Around} {E : Value → Shared → Prop} {s : Shared} {K : Frag} {x C : Addr} {ox : Obj} {od : Option Obj} {n : Str} {ex fl : Bool} {tk : Tok}
/-- BaseException.__getattribute__ is object's -/
theorem xby {Q : Value → Shared → Prop} (X : K.In s.heap) (I : InstAt s.heap x ox C od) (c : XC K C)
    (k : wpAny (model prog w) A.in1 (Builtin.«object.__getattribute__» ⟨[.ref x, .str n tk], []⟩) (fun r s' => ∃ v, r = .done (.ret v) ∧ wpAny (model prog w) A (handedOut v) Q E s') (fun _ _ => False) s) :
    wpAny (model prog w) A (getAttrBy (.ref x) (.str n tk) fl ex) Q E s := by
  have noObj : (Value.builtin "BaseException.__getattribute__" == Value.builtin "object.__getattribute__") = false := by decide +kernel
  have SL := PySem.F.attr_ValueError.ga
  have hook : Looks (model prog w) s.heap (hookBefore (.ref C)) none := looks_hook X (mc := .ref C) (show findIn K (.ref C) "__getattr__" = some none from c.gt)
  apply wpAny_holding; apply wpAny_bind; apply I.type.here; apply wpAny_bind; apply (looks_findIn X c.ga).here
  dsimp only
  rw [noObj, Bool.and_false, if_neg Bool.false_ne_true]
  apply wpAny_bind; apply hook.here; apply wpAny_bind; apply wpAny_attempt; apply wpAny_holding
  unfold callGetattribute
  rw [show (ex && onTheHeap (Value.builtin "BaseException.__getattribute__")) = false from Bool.and_false ex, if_neg Bool.false_ne_true]
  unfold boundAndCalled
  rw [SL.bind]
  apply wpAny_bind; apply wpAny_pure
  change wpAny _ _ (call (.builtin "BaseException.__getattribute__") [.ref x, .str n tk]) _ _ _
  apply wpAny_call; apply codeAny_call_builtin SL.plain PySem.F.entry_bexc_ga
  apply @check_slot (model prog w) A.in1 _ s "BaseException.__getattribute__" "BaseException" "__getattribute__" (.ref x) [.str n tk] []
  · decide +kernel
  · decide +kernel
  · exact I.type.andThen (looks_mroIn X c.be)
  · exact PySem.F.args_bexc_ga _ _
  · exact wpAny_mono k (fun r s' ⟨v, e, z⟩ => by subst e; exact z) fun _ _ z => z.elim

theorem xclass {Q : Option Value → Shared → Prop} (X : K.In s.heap) (I : InstAt s.heap x ox C od) (c : XC K C) (q : Q (some (.ref C)) { s with toks := s.toks + 1 }) : wpAny (model prog w) A (getAttr? (.ref x) "__class__") Q E s := by
  obtain ⟨cd, hc, _, _⟩ := c.pass
  have fnd : findObj K C od "__class__" = some (.bind (.builtin "getset_descriptor.__get__") (.builtin "object.__class__")) := by
    unfold findObj
    rw [hc, Option.bind_some, c.ca, Option.bind_some]; dsimp only
    rw [c.cg, Option.bind_some]; dsimp only
    rw [c.ct, Option.bind_some]
  apply wpAny_bind; apply wpAny_mkText; apply wpAny_bind; apply wpAny_attempt
  apply xby (s := { s with toks := s.toks + 1 }) X I c
  delta Builtin.«object.__getattribute__»
  apply wpAny_bind; apply wpAny_pure; apply wpAny_bind; apply wpAny_pure
  apply wpAny_bind; apply I.type.here (s := { s with toks := s.toks + 1 })
  apply wpAny_bind; apply (looks_find X I fnd).here (s := { s with toks := s.toks + 1 })
  change wpAny _ _ (holding [_] (call (.builtin "getset_descriptor.__get__") [.builtin "object.__class__", .ref x, .ref C]) >>= ret) _ _ _
  apply wpAny_bind; apply wpAny_holding; apply wpAny_call
  exact class_get (s := { s with toks := s.toks + 1 }) (ox := ox) (od := od) X I c.ob (wpAny_pure ⟨_, rfl, handed_on rfl (wpAny_pure q)⟩)
end
/-- isinstance -/
theorem kitx_exc {K : Frag} {x C : Addr} (c : XC K C) : KitX K (.ref x) (.ref C) (fun h => ∃ ox od, InstAt h x ox C od) where
  ty := fun _ _ _ ⟨_, _, I⟩ => I.type
  it := fun _ _ X _ => (kit_cls X c.kc).2.1
  ne := fun h tp _ _ _ _ X e => by
    obtain ⟨cd, hc, _⟩ := c.pass
    cases z : (Value.ref C == Value.ref tp) with
    | false => rfl
    | true =>
      cases beq_iff_eq.mp z
      unfold clsIn at hc
      split at hc
      · rename_i a
        cases (X _ _ a).symm.trans e
      · cases hc
  ca := fun X ⟨_, _, I⟩ k => xclass X I c k
end Ex
end

section
set_option Elab.async false
set_option linter.all false
set_option maxRecDepth 100000
set_option maxHeartbeats 5000000
namespace Ex
open PySem PySem.Spec PyProof.Rows PySem.W PySem.Calls Builtin Builtin.ObjectAttr
section
variable {prog : Program} {w : World} {A : Around} {E : Value → Shared → Prop} {s : Shared} {K : Frag} {x C : Addr} {ox : Obj} {od : Option Obj} {n : Str} {v : Value}
end
end Ex
end

section
set_option Elab.async false
set_option linter.all false
set_option maxRecDepth 100000
set_option maxHeartbeats 5000000
namespace Ex
open PySem PySem.Spec PyProof.Rows PySem.W PySem.Calls

/-! ## tracebacks: what an exception leaves behind in each frame that it passes -/

section
variable {M : Model} {A : Around} {E : Value → Shared → Prop} {s : Shared} {env : Env} {outer : List Env} {base : Heap} {L e : Addr}

end
end Ex
end

section
set_option Elab.async false
set_option linter.all false
set_option maxRecDepth 100000
set_option maxHeartbeats 5000000
namespace L2
open PySem PySem.Spec PyProof.Rows Ex

/-! ## exceptions on the abstract heap -/
def ExO (C e : Addr) (dd : Option Addr) (fr : Bool) : HO := .ext fun h => ∃ oe vs t0, h.get? e = some oe ∧ oe.cls = .ref C ∧ oe.dict = dd ∧ oe.data = .fields vs ∧ vs[0]? = some (.ref t0) ∧ 1 < vs.size ∧ (fr = true → vs[1]? = some .none)
def ExD (d : Addr) (fs : List (Str × V)) : HO := .ext fun h => ∃ mA, h.Ns1 d mA ∧ (∀ f, RelO (fs.lookup f) (mA f)) ∧ PySem.Within mA (fs.map (·.1))

section
variable {P : Program} {w : World} {H : Hp} {h : Heap} {e C d : Addr} {dd : Option Addr} {fr : Bool} {fs : List (Str × V)}
theorem exo_get (ok : HOk P w H h) (q : H e = some (ExO C e dd fr)) : ∃ oe vs t0, h.get? e = some oe ∧ oe.cls = .ref C ∧ oe.dict = dd ∧ oe.data = .fields vs ∧ vs[0]? = some (.ref t0) ∧ 1 < vs.size ∧ (fr = true → vs[1]? = some .none) := (ok _ _ q).1
theorem exd_get (ok : HOk P w H h) (q : H d = some (ExD d fs)) : ∃ mA, h.Ns1 d mA ∧ (∀ f, RelO (fs.lookup f) (mA f)) ∧ PySem.Within mA (fs.map (·.1)) := (ok _ _ q).1
end

abbrev XKS := St → XK


section
variable {P : Program} {w : World} {K : PySem.W.Frag} {mg : Str → Option Value} {base : Heap} {N : List Str} {qual : Str} {scope : Scope} {f : Addr} {cd : Value} {A : Around} {outer : List Env} {s : Shared} {H : Hp} {E : XK}
end
end L2
end

section
set_option Elab.async false
set_option linter.all false
set_option maxRecDepth 100000
set_option maxHeartbeats 5000000
namespace Ex
open PySem PySem.Spec PyProof.Rows PySem.W PySem.Calls Builtin Builtin.ObjectAttr
end Ex
end

section
set_option Elab.async false
set_option linter.all false
set_option maxRecDepth 100000
set_option maxHeartbeats 5000000
namespace L2
open PySem PySem.Spec PyProof.Rows Ex

/-! ## attributes of exceptions -/

section
variable {X : Cx} {o e value : Expr} {f : Str} {pos pos' tpos : Pos} {ta tv : TE}
theorem exc_inst {K : PySem.W.Frag} {P : Program} {w : World} {H : Hp} {h : Heap} {a C : Addr} {dd : Option Addr} {fr : Bool} (ok : HOk P w H h) (q : H a = some (ExO C a dd fr)) (hdd : ∀ d, dd = some d → ∃ o, h.get? d = some o) :
    ∃ ox od, PySem.W.InstAt h a ox C od ∧ ox.dict = dd ∧ (∀ d, dd = some d → ∃ o, od = some o ∧ h.get? d = some o) := by
  obtain ⟨oe, vs, t0, he, hc, hd, hda, _⟩ := exo_get ok q
  have hn : PySem.W.notCls oe = true := by unfold PySem.W.notCls; rw [hda]
  cases dd with
  | none => exact ⟨oe, none, ⟨he, hc, hn, by rw [hd]; trivial⟩, hd, fun d z => nomatch z⟩
  | some d =>
    obtain ⟨o, ho⟩ := hdd d rfl
    exact ⟨oe, some o, ⟨he, hc, hn, by rw [hd]; exact ho⟩, hd, fun d' z => by cases z; exact ⟨o, rfl, ho⟩⟩
end
end L2
end

section
set_option Elab.async false
set_option linter.all false
set_option maxRecDepth 100000
set_option maxHeartbeats 5000000
namespace L2
open PySem PySem.Spec PyProof.Rows Ex

/-! ## an exception is made -/

section
variable {X : Cx} {k : Nat} {fI C : Addr} {fd : FuncData} {ps : List Str} {sp : Sp} {dvs : List V} {ds : List Value} {x : Str} {p pos cpos apos : Pos} {e : Expr} {es : List Expr} {t : TA} {EE : XKS}






end
end L2
end

section
set_option Elab.async false
set_option linter.all false
set_option maxRecDepth 100000
set_option maxHeartbeats 5000000
namespace L2
open PySem PySem.Spec PyProof.Rows Ex

/-! ## own exception classes, read off the text's own objects -/
section
variable {K : PySem.W.Frag} {C fI : Addr} {B D nw iniD ini : String} {un up : List Value}
end
end L2
end

section
set_option Elab.async false
set_option linter.all false
set_option maxRecDepth 100000
set_option maxHeartbeats 5000000
namespace L2
open PySem PySem.Spec PyProof.Rows Ex

/-! ## isinstance -/
def ExAt (H : Hp) (a C : Addr) : Prop := ∃ fr, H a = some (ExO C a none fr) ∨ ∃ d fs, H a = some (ExO C a (some d) fr) ∧ H d = some (ExD d fs)
def clsV : V → Option Value
  | .ref a => some (.ref a)
  | .ty n => some (.type n)
  | _ => none
theorem clsV_rel {c : V} {cv u : Value} (h : clsV c = some cv) (r : RelV c u) : u = cv := by
  cases c <;> first | (cases h; exact r) | cases h
/-- the type of a value, exceptions too -/
def TyX (K : PySem.W.Frag) (H : Hp) (x : V) (t : Value) : Prop := TyOf K H x t ∨ ∃ a C, x = .ref a ∧ t = .ref C ∧ ExAt H a C ∧ XC K C
section
variable {X : Cx}
theorem ExAt.inst {P : Program} {w : World} {H : Hp} {h : Heap} {a C : Addr} (ok : HOk P w H h) (q : ExAt H a C) : ∃ ox od, PySem.W.InstAt h a ox C od := by
  obtain ⟨fr, q | ⟨d, fs, q, q2⟩⟩ := q
  · obtain ⟨ox, od, I, _⟩ := exc_inst (K := []) ok q fun d z => nomatch z
    exact ⟨ox, od, I⟩
  · obtain ⟨mA, hn, _⟩ := exd_get ok q2
    obtain ⟨ox, od, I, _⟩ := exc_inst (K := []) ok q fun d' z => by cases z; exact let ⟨o, _, _, z, _⟩ := hn; ⟨o, z⟩
    exact ⟨ox, od, I⟩
theorem call_isinst : CallR X (.builtin "isinstance") (fun xs H Q => ∃ x c t cv b, xs = [x, c] ∧ clsV c = some cv ∧ TyX X.K H x t ∧ PySem.W.kitOne X.K t cv = some b ∧ Q (.bl b) H) := by
  intro pins s σ H xs us Q I r h
  obtain ⟨x, c, t, cv, b, rfl, hc, ty, e, q⟩ := h
  obtain ⟨u, u2, rfl, rx, rc⟩ := Vals.two r
  cases clsV_rel hc rc
  rcases ty with ty | ⟨a, C, rfl, rfl, ea, c⟩
  · exact isinst_ok I rx ty e fun tk => ⟨.bl b, H, I.tok _, rfl, q⟩
  · obtain rfl : u = Value.ref a := rx
    exact PySem.W.kia_one (kitx_exc c) I.kIn (ea.inst I.hok) e (fun z => nomatch z) fun tk => ⟨.bl b, H, I.tok _, rfl, q⟩

/-! ## Base.__init__(self, ..) of an exception -/

/-! ## a name goes -/
end
end L2
end

section
set_option Elab.async false
set_option linter.all false
set_option maxRecDepth 100000
set_option maxHeartbeats 5000000
namespace Ex
open PySem PySem.Spec PyProof.Rows PySem.W PySem.Calls Builtin Builtin.ObjectAttr

section
variable {M : Model} {A : Around} {E : Value → Shared → Prop} {s : Shared} {K : Frag}
end
end Ex
end

section
set_option Elab.async false
set_option linter.all false
set_option maxRecDepth 100000
set_option maxHeartbeats 5000000
namespace L2
open PySem PySem.Spec PyProof.Rows Ex

/-! ## try, except (A, B, ..) as n -/
section
variable {X : Cx} {pins : List (Addr × Obj)} {σ : St} {H : Hp} {s : Shared}


section
variable {X : Cx}
end
end
end L2
end

section
set_option Elab.async false
set_option linter.all false
set_option maxRecDepth 100000
set_option maxHeartbeats 5000000
namespace L2
open PySem PySem.Spec PyProof.Rows Ex

/-! ## list comprehensions -/
/-- the cells that a comprehension takes along -/
structure Clo (env : Env) (scope : Scope) (cl : List (Str × Addr)) : Prop where
  clos : closureFor scope env = pure cl
  sub : ∀ x c, cl.lookup x = some c → env.cells.lookup x = some c
  has : ∀ x, (x, NameKind.free) ∈ scope.names → ∃ c, cl.lookup x = some c
theorem lookup_mem {α : Type} {x : Str} {c : α} : ∀ {l : List (Str × α)}, l.lookup x = some c → (x, c) ∈ l
  | [], h => by simp at h
  | (y, d) :: r, h => by
    rw [List.lookup_cons] at h
    split at h
    · rename_i q
      cases h
      rw [beq_iff_eq.mp q]
      exact List.mem_cons_self ..
    · exact List.mem_cons_of_mem _ (lookup_mem h)
theorem mem_lookup {α : Type} {x : Str} {c : α} : ∀ {l : List (Str × α)}, (x, c) ∈ l → ∃ d, l.lookup x = some d
  | [], h => nomatch h
  | (y, d) :: r, h => by
    rw [List.lookup_cons]
    split
    · exact ⟨d, rfl⟩
    · rename_i q
      rcases List.mem_cons.mp h with z | z
      · cases z; simp at q
      · exact mem_lookup z
theorem clo_of {env : Env} {scope : Scope} (h : ∀ x, (x, NameKind.free) ∈ scope.names → ∃ c, env.cells.lookup x = some c) : ∃ cl, Clo env scope cl := by
  have go : ∀ (names : List (Str × NameKind)) (cs : List (Str × Addr)), (∀ x, (x, NameKind.free) ∈ names → ∃ c, env.cells.lookup x = some c) →
      ∃ cl, (forIn (m := Sem) names cs fun x r => (match x with | (name, kind) => if (kind == NameKind.free) = true then do let a ← cellOf env name; pure (ForInStep.yield ((name, a) :: r)) else pure (ForInStep.yield r))) = pure cl ∧
        (∀ y c, (y, c) ∈ cl → (y, c) ∈ cs ∨ env.cells.lookup y = some c) ∧ (∀ y c, (y, c) ∈ cs → (y, c) ∈ cl) ∧ (∀ y, (y, NameKind.free) ∈ names → ∃ c, (y, c) ∈ cl) := by
    intro names
    induction names with
    | nil => intro cs _; exact ⟨cs, rfl, fun _ _ z => .inl z, fun _ _ z => z, fun _ z => nomatch z⟩
    | cons p r ih =>
      intro cs hh
      obtain ⟨y, k⟩ := p
      by_cases hk : k = .free
      · subst hk
        obtain ⟨c, hc⟩ := hh y (List.mem_cons_self ..)
        obtain ⟨cl, e, h1, h2, h3⟩ := ih ((y, c) :: cs) fun x hx => hh x (List.mem_cons_of_mem _ hx)
        refine ⟨cl, ?_, fun z d hz => ?_, fun z d hz => h2 z d (List.mem_cons_of_mem _ hz), fun z hz => ?_⟩
        · have ec : cellOf env y = pure c := by simp only [cellOf, hc]
          rw [List.forIn_cons]
          simp only [beq_self_eq_true, if_true, ec, pure_bind]
          exact e
        · rcases h1 z d hz with q | q
          · rcases List.mem_cons.mp q with q | q
            · cases q; exact .inr hc
            · exact .inl q
          · exact .inr q
        · rcases List.mem_cons.mp hz with q | q
          · cases q; exact ⟨c, h2 _ _ (List.mem_cons_self ..)⟩
          · exact h3 z q
      · obtain ⟨cl, e, h1, h2, h3⟩ := ih cs fun x hx => hh x (List.mem_cons_of_mem _ hx)
        refine ⟨cl, ?_, h1, h2, fun z hz => ?_⟩
        · rw [List.forIn_cons]
          have : (k == NameKind.free) = false := by simpa using hk
          simp only [this, Bool.false_eq_true, if_false, pure_bind]
          exact e
        · rcases List.mem_cons.mp hz with q | q
          · cases q; exact absurd rfl hk
          · exact h3 z q
  obtain ⟨cl, e, h1, h2, h3⟩ := go scope.names [] h
  refine ⟨cl, ?_, fun x c hx => ?_, fun x hx => ?_⟩
  · unfold closureFor
    first
      | exact e
      | (show (forIn (m := Sem) scope.names ([] : List (Str × Addr)) _ >>= fun r => pure r) = pure cl; rw [bind_pure]; exact e)
      | (rw [bind_pure]; exact e)
      | (trace_state; fail "x")
  · exact (h1 x c (lookup_mem hx)).elim (fun z => nomatch z) id
  · obtain ⟨c, hc⟩ := h3 x hx
    exact mem_lookup hc
end L2
end

section
set_option Elab.async false
set_option linter.all false
set_option maxRecDepth 100000
set_option maxHeartbeats 5000000
namespace Ex
open PySem PySem.Spec PyProof.Rows
/-- what a turn of a comprehension does with an item -/
abbrev Turned (M : Model) (A : Around) (env : Env) (tg : Expr) (it : Value) (ifs : List Expr) (el : Expr) (acc : Value) (N : Value → Shared → Prop) (next : Shared → Prop) (v : Value) (s : Shared) : Prop :=
  wpAny M A (letOwnedTupleGo tg it v) (fun _ a => wpAny M A (assign tg env v) (fun _ b =>
    wpAny M A (forIn ifs true fun c r => if r = true then do let ok ← isTrue c env (eval c env); pure (ForInStep.yield ok) else pure (ForInStep.yield r)) (fun yes c =>
      if yes = true then wpAny M A (eval el env) (fun y d => wpAny M A (call (.builtin "list.append") [acc, y]) (fun _ => next) N d) N c else next c) N b) N a) N s
theorem comp_loop {prog : Program} {w : World} {A : Around} {R : Result → Shared → Prop} {s : Shared} {el tg src : Expr} {ifs : List Expr} {sc : Scope} {pos : Pos} {it acc : Value} {env : Env} (J : Nat → Shared → Prop) (n : Nat) (start : J n s)
    (turn : ∀ n s, J n s → wpAny (model prog w) A (pyNext it) (fun r a => match r with
      | none => R (.ok .next) a
      | some v => Turned (model prog w) A env tg it ifs el acc (notedBy (model prog w) A env fun x => R (.error x)) (fun b => ∃ m, m < n ∧ J m b) v a) (notedBy (model prog w) A env fun x => R (.error x)) s) :
    codeAny (model prog w) A (.compLoop (.ListComp el [⟨tg, src, ifs, 0⟩] sc pos) 0 it acc env) R s := by
  apply codeAny_loop rfl J _ n start
  intro n s j
  change wpAny _ A (Sem.onRaise (compTurn (.ListComp el [⟨tg, src, ifs, 0⟩] sc pos) 0 it acc env) fun x => do noteFrame x env; theTreesLotGoes x) _ _ s
  apply wpAny_noted; rw [compTurn_list]
  apply wpAny_bind; apply wpAny_standAt; apply wpAny_bind; apply wpAny_mono (turn n s j) _ fun _ _ z => z
  intro r a k
  cases r with
  | none => exact wpAny_pure k
  | some v =>
    apply wpAny_bind; apply wpAny_mono k _ fun _ _ z => z; intro _ b k
    apply wpAny_bind; apply wpAny_mono k _ fun _ _ z => z; intro _ c k
    apply wpAny_bind; apply wpAny_mono k _ fun _ _ z => z; intro yes d k
    cases yes
    · exact wpAny_pure (And.intro rfl k)
    · apply wpAny_bind; apply wpAny_bind; apply wpAny_mono k _ fun _ _ z => z; intro y e k
      apply wpAny_bind; apply wpAny_mono k _ fun _ _ z => z; intro _ f k
      exact wpAny_pure (wpAny_pure (And.intro rfl k))
end Ex
namespace L2
open PySem PySem.Spec PyProof.Rows Ex

/-- the context of a comprehension's block -/
abbrev Cx.blk (X : Cx) (Nc : List Str) (scope : Scope) (cl : List (Str × Addr)) (C : Addr) (s3 : Shared) (H3 : Hp) (fp : List Addr) (pn' : List (Addr × Obj)) (E' : Value → Shared → Prop) : Cx :=
  { X with N := Nc, s₀ := s3, H₀ := H3, env := compEnvC scope cl C X.env, outer := X.stack, ex := fp, fn := fun _ => false, pn := pn', xe := E' }
def compσ (fr : List Nat) (own : Nat) (σ : St) : St := List.replicate own none ++ fr.map fun j => (σ[j]?).join
/-- the names of a block: its own ones first, then those it takes along, with their slots outside -/
structure BlkN (X : Cx) (scope : Scope) (Nc : List Str) (own : Nat) (fr : List Nat) : Prop where
  len : Nc.length = own + fr.length
  free : ∀ (k j : Nat) (x : Str), fr[k]? = some j → Nc[own + k]? = some x → X.N[j]? = some x ∧ (X.env.scope.names.lookup x = some .cell ∨ X.env.scope.names.lookup x = some .free) ∧ scope.names.lookup x = some .free
  kind : scope.kind = .function
  nocell : ∀ y ∈ scope.names, y.2 ≠ .cell
  names : ∀ x ∈ scope.names, x.2 = .local → scope.names.lookup x.1 = some .local
  frees : ∀ x, (x, NameKind.free) ∈ scope.names → X.env.scope.names.lookup x = some .cell ∨ X.env.scope.names.lookup x = some .free
def PTs (X : Cx) (ifs : List Expr) (t : TT) : Prop :=
  ∀ (pins : List (Addr × Obj)) (s : Shared) (σ : St) (H : Hp) (Q : Bool → Hp → Prop), Inv X pins σ H s → t σ H Q →
    wpAny (model X.prog X.w) X.A (forIn ifs true fun c r => if r = true then do let ok ← isTrue c X.env (eval c X.env); pure (ForInStep.yield ok) else pure (ForInStep.yield r)) (TP X pins σ Q) X.xe s
theorem pts_nil {X : Cx} : PTs X [] (fun _ H Q => Q true H) := fun _ _ _ H _ I h => wpAny_tests_nil ⟨H, I, h⟩
theorem pts_one {X : Cx} {c : Expr} {t : TT} (h : PT X c t) : PTs X [c] t := fun pins s σ H Q I q => wpAny_tests_one (h pins s σ H Q I q)
def tLC (fr : List Nat) (own : Nat) (wi : TI) (g : TG) (tc : TT) (te : TE) : TE := fun σ H Q => wi σ H fun J H1 => ∀ D, H1 D = none → ∃ W : Nat → Nat → List V → Hp → Prop, (∃ m, W 0 m [] (upd H1 D (.lst []))) ∧
  ∀ i m ys H2, H2 D = some (.lst ys) → W i m ys H2 → (J.stop i H2 ∧ Q (.ref D) H2) ∨ (J.go i H2 ∧ ys.length < sizeLine ∧ ∀ x H3, J.yld i H2 x H3 → g x (compσ fr own σ) H3 fun σ4 H4 => tc σ4 H4 fun b H5 =>
    if b = true then te σ4 H5 fun y H6 => H6 D = some (.lst ys) ∧ ∃ m', m' < m ∧ W (i + 1) m' (ys ++ [y]) (upd H6 D (.lst (ys ++ [y]))) else H5 D = some (.lst ys) ∧ ∃ m', m' < m ∧ W (i + 1) m' ys H5)

theorem relabel_kind {scope : Scope} {env : Env} {x : Str} (hn : ∀ y ∈ scope.names, y.2 ≠ .cell) {k : NameKind} (h : (relabel scope env).names.lookup x = some k) (hk : k = .cell ∨ k = .free) : (x, NameKind.free) ∈ scope.names := by
  have m := lookup_mem h
  obtain ⟨⟨y, k'⟩, hy, e⟩ := List.mem_map.mp m
  dsimp only at e
  split at e
  · rename_i q
    rw [Bool.and_eq_true, Bool.and_eq_true] at q
    have q11 := beq_iff_eq.mp q.1.1
    cases e
    rw [q11] at hy
    exact hy
  · cases e
    rcases hk with rfl | rfl
    · exact absurd rfl (hn _ hy)
    · exact hy
theorem relabel_free {scope : Scope} {env : Env} {x : Str} (h : scope.names.lookup x = some .free) : (relabel scope env).names.lookup x = some .cell ∨ (relabel scope env).names.lookup x = some .free := by
  unfold relabel
  dsimp only
  generalize scope.names = l at h
  induction l with
  | nil => simp at h
  | cons p r ih =>
    obtain ⟨y, k⟩ := p
    rw [List.lookup_cons] at h
    rw [List.map_cons, ]
    split at h
    · rename_i q
      cases h
      dsimp only
      split
      · rw [List.lookup_cons, q]; exact .inl rfl
      · rw [List.lookup_cons, q]; exact .inr rfl
    · rename_i q
      dsimp only
      split
      · rw [List.lookup_cons, q]; exact ih h
      · rw [List.lookup_cons, q]; exact ih h
end L2
end

section
set_option Elab.async false
set_option linter.all false
set_option maxRecDepth 100000
set_option maxHeartbeats 5000000
namespace L2
open PySem PySem.Spec PyProof.Rows Ex
section
variable {X : Cx} {pins : List (Addr × Obj)} {σ : St} {H : Hp} {s : Shared}

/-- the block's start -/
theorem Inv.block {scope : Scope} {Nc : List Str} {own : Nat} {fr : List Nat} {cl : List (Str × Addr)} {fp : List Addr} {h₁ : Heap} {t' : Nat} {E' : Value → Shared → Prop} (I : Inv X pins σ H s) (B : BlkN X scope Nc own fr) (cl0 : Clo X.env scope cl)
    (hfp : ∀ b ∈ fp, FpOk X pins H b ∧ ∃ o, s.heap.get? b = some o) (hns : h₁.Ns s.heap.objs.size (fun _ => none)) (keep : ∀ b o, s.heap.get? b = some o → h₁.get? b = some o) :
    Inv (X.blk Nc scope cl s.heap.objs.size s H fp (X.pn ++ pins) E') [] (compσ fr own σ) H { s with heap := h₁, toks := t' } := by
  have lt : ∀ b ∈ fp, b < s.heap.objs.size := fun b hb => let ⟨_, _, e⟩ := hfp b hb; Heap.lt_size e
  have celllt : ∀ x c, X.env.cells.lookup x = some c → c < s.heap.objs.size := fun x c e => let ⟨_, _, e, _⟩ := I.cell x c e; Heap.lt_size e
  refine ⟨⟨I.ok.mod, B.kind, I.ok.glob, I.ok.blt, Nat.le_refl _, fun x y c h1 h2 => I.ok.inj x y c (cl0.sub x c h1) (cl0.sub y c h2), fun x hx => ?_, (fun x c z => nomatch z), I.ok.hd, I.ok.frames, .inl rfl, fun b hb => ?_, I.bs, Nat.le_trans I.ok.bsz I.sz, fun b o e hb => ?_, fun b hb => ?_, I.stack, I.stkFree⟩,
    rfl, I.bare, Un.kept keep, ⟨_, hns, fun i x v e1 e2 e3 => ?_⟩, fun x c e => ?_, I.hok.fresh (Nat.le_refl _), fun x c e => I.freeC x c (cl0.sub x c e), fun p hp => ?_, I.hok.kept keep, ?_⟩
  · rcases hx with hx | hx
    · exact cl0.has x (relabel_kind B.nocell hx (.inl rfl))
    · exact cl0.has x (relabel_kind B.nocell hx (.inr rfl))
  · exact ⟨Nat.ne_of_lt (lt b hb), fun x c e z => (hfp b hb).1.2.2.2.2.1 x c (cl0.sub x c e) z⟩
  · -- a base object is no iterator of ours
    have e0 := I.ok.bs b o e
    rcases (hfp b hb).1.2.2.2.1 with z | z
    · exact I.ok.noex b o e z
    · exact absurd (Nat.lt_of_lt_of_le (Nat.lt_of_lt_of_le (Heap.lt_size e) I.ok.bsz) z) (Nat.lt_irrefl _)
  · intro z
    rcases List.mem_cons.mp (I.stkSub b z) with z | z
    · exact (hfp b hb).1.2.1 z
    · exact (hfp b hb).1.2.2.1 z
  · -- a slot
    unfold compσ at e2
    by_cases hi : i < own
    · rw [List.getElem?_append_left (by simpa using hi), List.getElem?_replicate, if_pos hi] at e2
      cases e2
    · have hge : own ≤ i := Nat.le_of_not_lt hi
      rw [List.getElem?_append_right (by simpa using hge), List.length_replicate, List.getElem?_map] at e2
      cases hj : fr[i - own]? with
      | none => rw [hj] at e2; cases e2
      | some j =>
        rw [hj] at e2
        have e2' : (σ[j]?).join = some v := by simpa using e2
        have e4 : σ[j]? = some (some v) := by
          cases q : σ[j]? with
          | none => rw [q] at e2'; cases e2'
          | some o => rw [q] at e2'; have : o = some v := e2'; rw [this]
        have e5 : Nc[own + (i - own)]? = some x := by rw [Nat.add_sub_cancel' hge]; exact e1
        obtain ⟨n1, n2, n3⟩ := B.free (i - own) j x hj e5
        obtain ⟨m, hn, hl⟩ := I.loc
        have vis : Vis X.env.scope x := n2.elim (fun z => .inr (.inl z)) fun z => .inr (.inr z)
        obtain ⟨u, r, l⟩ := hl j x v n1 e4 vis
        refine ⟨u, r, .inr ⟨relabel_free n3, ?_⟩⟩
        rcases l with ⟨k, _⟩ | ⟨_, c, hc, hcell⟩
        · rcases n2 with n2 | n2
          · have k' : X.env.scope.names.lookup x = some .local := k
            rw [n2] at k'; cases k'
          · have k' : X.env.scope.names.lookup x = some .local := k
            rw [n2] at k'; cases k'
        · obtain ⟨c', hc'⟩ := cl0.has x (lookup_mem n3)
          have e6 := cl0.sub x c' hc'
          rw [hc] at e6
          cases e6
          obtain ⟨o, ho, hd⟩ := hcell
          exact ⟨c, hc', o, keep _ _ ho, hd⟩
  · obtain ⟨v, o, ho, hd⟩ := I.cell x c (cl0.sub x c e)
    exact ⟨v, o, keep _ _ ho, hd⟩
  · have hp' : p ∈ X.pn ++ pins := by simpa using hp
    obtain ⟨e, n, ne, nf, d⟩ := I.pin p hp'
    refine ⟨keep _ _ e, n, Nat.ne_of_lt (Heap.lt_size e), fun z => ?_, d⟩
    rcases List.mem_cons.mp (I.stkSub p.1 z) with z | z
    · exact ne z
    · exact nf z
  · show (compσ fr own σ).length = Nc.length
    unfold compσ
    rw [List.length_append, List.length_replicate, List.length_map, B.len]

/-- the block's end -/
theorem Inv.unblock {scope : Scope} {Nc : List Str} {cl : List (Str × Addr)} {fp : List Addr} {E' : Value → Shared → Prop} {pins' : List (Addr × Obj)} {σ' : St} {H' : Hp} {s' : Shared} {h' : Heap} (I : Inv X pins σ H s) (hfp : ∀ b ∈ fp, FpOk X pins H b)
    (J : Inv (X.blk Nc scope cl s.heap.objs.size s H fp (X.pn ++ pins) E') pins' σ' H' s') (sb : Heap.SameBut s.heap.objs.size s'.heap h') : Inv X pins σ H' { s' with heap := h' } := by
  have ne : ∀ b o, s.heap.get? b = some o → b ≠ s.heap.objs.size := fun b o e => Nat.ne_of_lt (Heap.lt_size e)
  have hC : H' s.heap.objs.size = none := J.free
  refine I.call' (s' := { s' with heap := h' }) (ch := fp) J.os ⟨fun b o e n hb hx => ?_, fun b o e n hb hx => ?_, J.base.free, fun b o e hx => ?_, J.base.tups, J.base.frzs, J.base.tbls⟩ (fun b u e => ?_) J.bare fun b hb => ?_
  · exact (sb.2 b (ne b o e)).trans (J.base.keep b o e n hb hx)
  · obtain ⟨sl, z⟩ := J.base.slot b o e n hb hx
    exact ⟨sl, (sb.2 b (ne b o e)).trans z⟩
  · obtain ⟨o', z⟩ := J.base.there b o e hx
    exact ⟨o', (sb.2 b (ne b o e)).trans z⟩
  · refine (J.hok b u e).stay (fun c v hc q => (sb.2 c ?_).trans q) (fun _ q => q) fun _ _ q => q
    rintro rfl
    rcases hc with rfl | hc
    · rw [hC] at e; cases e
    · rw [hC] at hc; cases hc
  · obtain ⟨f0, f1, f2, f3, f4, f5⟩ := hfp b hb
    exact ⟨f3, f1, f4, f5⟩

/-- the targets are the block's own names -/
def OwnG (own : Nat) (g : TG) : Prop := ∀ (x : V) (σ : St) (H : Hp) (Q : St → Hp → Prop), g x σ H Q → g x σ H fun σ' H' => Q σ' H' ∧ ∀ k, own ≤ k → σ'[k]? = σ[k]?
theorem own_name {own i : Nat} (h : i < own) : OwnG own (gName i) := fun x σ H Q q => ⟨q, fun k hk => List.getElem?_set_ne (by omega)⟩
end
end L2
end

section
set_option Elab.async false
set_option linter.all false
set_option maxRecDepth 100000
set_option maxHeartbeats 5000000
namespace L2
open PySem PySem.Spec PyProof.Rows Ex
section
variable {X : Cx} {pins : List (Addr × Obj)} {σ : St} {H : Hp} {s : Shared}
/-- a list comprehension, whatever is done with its list ahead of the end of its block -/
theorem lc_core {elt tg iter : Expr} {ifs : List Expr} {scope : Scope} {pos fpos : Pos} {Nc : List Str} {own : Nat} {fr : List Nat} {wi : TI} {g : TG} {tc : TT} {te : TE} {use : Option (Value → Sem Unit)} {QQ : Value → Shared → Prop} {Q : VK} (hc : X.calm = true) (B : BlkN X scope Nc own fr) (hi : PI X tg iter wi) (hog : OwnG own g)
    (hg : ∀ cl C s3 H3 fp pn', PG (X.blk Nc scope cl C s3 H3 fp pn' fun _ _ => False) tg g) (ht : ∀ cl C s3 H3 fp pn', PTs (X.blk Nc scope cl C s3 H3 fp pn' fun _ _ => False) ifs tc) (he : ∀ cl C s3 H3 fp pn', PE (X.blk Nc scope cl C s3 H3 fp pn' fun _ _ => False) elt te)
    (hs : ∀ x, foldedSetIterable iter X.env x = pure x) (I : Inv X pins σ H s) (h : tLC fr own wi g tc te σ H Q)
    (fin : ∀ (D C : Addr) (H3 : Hp) (s4 : Shared), (∃ m, s4.heap.Ns C m) → FpOk X pins H3 C → (∀ h', Heap.SameBut C s4.heap h' → Inv X pins σ H3 { s4 with heap := h' }) → Q (.ref D) H3 → compPost (model X.prog X.w) X.A X.xe use QQ (.ref D) C (.ok .next) s4) :
    wpAny (model X.prog X.w) X.A (comprehension (.ListComp elt [⟨tg, iter, ifs, 0⟩] scope pos) scope X.env fpos (newList []) false (eval iter X.env) use) QQ X.xe s := by
  obtain ⟨cl, cl0⟩ := clo_of (env := X.env) (scope := scope) fun x hx => I.ok.has x (B.frees x hx)
  apply wpAny_comprehension_free rfl hs cl0.clos B.kind B.names
  apply wpAny_mono (hi pins s σ H _ I h) _ fun _ _ e => e
  intro xv s1 h1
  apply wpAny_mono h1 _ fun _ _ e => e
  intro itv s2 h2
  obtain ⟨it, fp, tn, J, H2, rfl, I2, T, st2, f2, q⟩ := h2
  refine wpAny_newObj_type (wpAny_newFunctionEnv B.nocell (by intro y hy; simp at hy) (fun h₁ hns₁ hsb₁ => ?_) B.kind)
  have hD : H2 s2.heap.objs.size = none := I2.hok.fresh (Nat.le_refl _)
  obtain ⟨W, ⟨m0, w0⟩, turn⟩ := q s2.heap.objs.size hD
  have I3 : Inv X pins σ (upd H2 s2.heap.objs.size (.lst [])) { s2 with heap := s2.heap.push { cls := .type "list", dict := none, data := .seq ([] : List Value).toArray } } :=
    I2.laid (t' := s2.toks) (fun b u e => Heap.get?_push_of_some _ e) (Nat.le_refl _) ⟨Nat.zero_le _, [], 0, .nil, Heap.get?_push_size _ rfl⟩
  have fpne : ∀ b ∈ fp, b ≠ s2.heap.objs.size := fun b hb => let ⟨o, e, _⟩ := T.obj _ _ st2 b hb; Nat.ne_of_lt (Heap.lt_size e)
  have f3 : ∀ b ∈ fp, FpOk X pins (upd H2 s2.heap.objs.size (.lst [])) b := fun b hb => ⟨by rw [upd_ne (fpne b hb)]; exact (f2 b hb).1, (f2 b hb).2⟩
  have keep : ∀ b o, (s2.heap.push { cls := .type "list", dict := none, data := .seq ([] : List Value).toArray }).get? b = some o → h₁.get? b = some o := fun b o e =>
    (hsb₁.2 b (Nat.ne_of_lt (Heap.lt_size e))).trans (Heap.get?_push_of_some _ e)
  have IY := I3.block (h₁ := h₁) (t' := s2.toks + ([] : List (Str × Value)).length) (E' := fun _ _ => False) B cl0 (fun b hb => ⟨f3 b hb, let ⟨o, e, _⟩ := T.obj _ _ st2 b hb; ⟨o, Heap.get?_push_of_some _ e⟩⟩) hns₁ keep
  have st1 : tn 0 h₁ := T.keep _ _ _ st2 fun b hb o e => keep b o (Heap.get?_push_of_some _ e)
  have fY : ∀ {H' : Hp}, (∀ b ∈ fp, H' b = none) → ∀ b ∈ fp, FpOk (X.blk Nc scope cl (s2.heap.push { cls := .type "list", dict := none, data := .seq ([] : List Value).toArray }).objs.size { s2 with heap := s2.heap.push { cls := .type "list", dict := none, data := .seq ([] : List Value).toArray } } (upd H2 s2.heap.objs.size (.lst [])) fp (X.pn ++ pins) fun _ _ => False) [] H' b := fun hn b hb =>
    ⟨hn b hb, (IY.ok.exf b hb).1, IY.ok.exfs b hb, .inl hb, (IY.ok.exf b hb).2, fun p hp => (f2 b hb).2.2.2.2.2 p (by simpa using hp)⟩
  have loop : codeAny (model X.prog X.w) X.A (.compLoop (.ListComp elt [⟨tg, iter, ifs, 0⟩] scope pos) 0 (.ref it) (.ref s2.heap.objs.size) (compEnvC scope cl (s2.heap.push { cls := .type "list", dict := none, data := .seq ([] : List Value).toArray }).objs.size X.env))
      (compPost (model X.prog X.w) X.A X.xe use QQ (.ref s2.heap.objs.size) (s2.heap.push { cls := .type "list", dict := none, data := .seq ([] : List Value).toArray }).objs.size) { s2 with heap := h₁, toks := s2.toks + ([] : List (Str × Value)).length } := by
    refine comp_loop (fun n s' => ∃ i ys H', Inv (X.blk Nc scope cl (s2.heap.push { cls := .type "list", dict := none, data := .seq ([] : List Value).toArray }).objs.size { s2 with heap := s2.heap.push { cls := .type "list", dict := none, data := .seq ([] : List Value).toArray } } (upd H2 s2.heap.objs.size (.lst [])) fp (X.pn ++ pins) fun _ _ => False) [] (compσ fr own σ) H' s' ∧ tn i s'.heap ∧ (∀ b ∈ fp, H' b = none) ∧ H' s2.heap.objs.size = some (.lst ys) ∧ W i n ys H')
      m0 ⟨0, [], _, IY, st1, fun b hb => (f3 b hb).1, upd_same, w0⟩ ?_
    rintro n s3 ⟨i, ys, H3, J3, st3, fr3, e3, w3⟩
    rcases turn i n ys H3 e3 w3 with ⟨stop, qn⟩ | ⟨go, hlen, step⟩
    · refine thn (T.done (X.blk Nc scope cl (s2.heap.push { cls := .type "list", dict := none, data := .seq ([] : List Value).toArray }).objs.size { s2 with heap := s2.heap.push { cls := .type "list", dict := none, data := .seq ([] : List Value).toArray } } (upd H2 s2.heap.objs.size (.lst [])) fp (X.pn ++ pins) fun _ _ => False) rfl rfl rfl hc i [] s3 _ H3 _ J3 (fY fr3) st3 stop) fun r s4 ⟨hr, J4⟩ => ?_
      subst hr
      obtain ⟨m, hn, _⟩ := J4.loc
      exact fin _ _ H3 s4 ⟨m, hn⟩ (I3.fpOk (Nat.le_refl _) J4.free) (fun h' sb => I3.unblock f3 J4 sb) qn
    · refine thn (T.item (X.blk Nc scope cl (s2.heap.push { cls := .type "list", dict := none, data := .seq ([] : List Value).toArray }).objs.size { s2 with heap := s2.heap.push { cls := .type "list", dict := none, data := .seq ([] : List Value).toArray } } (upd H2 s2.heap.objs.size (.lst [])) fp (X.pn ++ pins) fun _ _ => False) rfl rfl rfl hc i [] s3 _ H3 _ J3 (fY fr3) st3 go) fun r s4 ⟨u, hr, h4⟩ => ?_
      subst hr
      refine thn h4 fun _ s5 ⟨x, H5, J5, r5, y5, st5, fr5⟩ => ?_
      have J5' := J5.pinned (fY fr5) (T.obj _ _ st5)
      have lift : ∀ {α : Type} {m : Sem α} {Q' : α → Shared → Prop} {E' : Value → Shared → Prop} {s' : Shared}, wpAny (model X.prog X.w) X.A m Q' (fun _ _ => False) s' → wpAny (model X.prog X.w) X.A m Q' E' s' := fun h => wpAny_mono h (fun _ _ z => z) fun _ _ z => z.elim
      refine lift (thn (hg _ _ _ _ _ _ _ s5 _ H5 x u _ J5' r5 (hog _ _ _ _ (step x H5 y5))) fun _ s6 ⟨σ6, H6, J6, q6, hσ6⟩ => ?_)
      refine lift (thn (ht _ _ _ _ _ _ _ s6 σ6 H6 _ J6 q6) fun b s7 ⟨H7, J7, q7⟩ => ?_)
      have back : ∀ {H8 : Hp} {s8 : Shared} {ys' : List V} {m' : Nat}, Inv (X.blk Nc scope cl (s2.heap.push { cls := .type "list", dict := none, data := .seq ([] : List Value).toArray }).objs.size { s2 with heap := s2.heap.push { cls := .type "list", dict := none, data := .seq ([] : List Value).toArray } } (upd H2 s2.heap.objs.size (.lst [])) fp (X.pn ++ pins) fun _ _ => False) ([] ++ pinsAt fp s5.heap) σ6 H8 s8 → H8 s2.heap.objs.size = some (.lst ys') → m' < n → W (i + 1) m' ys' H8 →
          ∃ m, m < n ∧ ∃ i ys H', Inv (X.blk Nc scope cl (s2.heap.push { cls := .type "list", dict := none, data := .seq ([] : List Value).toArray }).objs.size { s2 with heap := s2.heap.push { cls := .type "list", dict := none, data := .seq ([] : List Value).toArray } } (upd H2 s2.heap.objs.size (.lst [])) fp (X.pn ++ pins) fun _ _ => False) [] (compσ fr own σ) H' s8 ∧ tn i s8.heap ∧ (∀ b ∈ fp, H' b = none) ∧ H' s2.heap.objs.size = some (.lst ys) ∧ W i m ys H' := fun {H8 s8 ys' m'} J8 e8 hm w8 => by
        refine ⟨m', hm, i + 1, ys', H8, ?_, T.keep _ _ _ st5 fun b hb o e => (J8.pin (b, o) (List.mem_append_right _ (List.mem_append_right _ (mem_pinsAt hb e)))).1, fun b hb => ?_, e8, w8⟩
        · refine (Inv.unpinned (pins := []) J8).weak ?_ fun j v' z => ?_
          · rw [IY.len]; exact J8.len.symm
          · by_cases hj : j < own
            · unfold compσ at z
              rw [List.getElem?_append_left (by simpa using hj), List.getElem?_replicate, if_pos hj] at z
              cases z
            · rw [hσ6 j (Nat.le_of_not_lt hj)]; exact z
        · obtain ⟨o, e, d⟩ := T.obj _ _ st5 b hb
          exact (J8.pin (b, o) (List.mem_append_right _ (List.mem_append_right _ (mem_pinsAt hb e)))).2.1
      cases b with
      | false =>
        obtain ⟨e7, m', hm, w7⟩ := (show H7 s2.heap.objs.size = some (.lst ys) ∧ ∃ m', m' < n ∧ W (i + 1) m' ys H7 from by simpa using q7)
        exact back J7 e7 hm w7
      | true =>
        have q7' : te σ6 H7 fun y H6 => H6 s2.heap.objs.size = some (.lst ys) ∧ ∃ m', m' < n ∧ W (i + 1) m' (ys ++ [y]) (upd H6 s2.heap.objs.size (.lst (ys ++ [y]))) := by simpa using q7
        refine lift (thn (he _ _ _ _ _ _ _ s7 σ6 H7 _ J7 q7') fun v s8 ⟨y, H8, J8, r8, e8, m', hm, w8⟩ => ?_)
        refine lift (thn (mt_append _ s8 σ6 H8 (.ref s2.heap.objs.size) [y] (.ref s2.heap.objs.size) [v] (fun _ H9 => H9 = upd H8 s2.heap.objs.size (.lst (ys ++ [y]))) J8 rfl (.cons r8 .nil) ⟨_, ys, y, rfl, rfl, e8, hlen, rfl⟩) fun _ s9 ⟨_, H9, J9, _, e9⟩ => ?_)
        subst e9
        exact back J9 upd_same hm w8
  exact codeAny_compStart_list loop (T.self _ _ _ _ _ st1 loop)
theorem pe_lc {elt tg iter : Expr} {ifs : List Expr} {scope : Scope} {pos : Pos} {Nc : List Str} {own : Nat} {fr : List Nat} {wi : TI} {g : TG} {tc : TT} {te : TE} (hc : X.calm = true) (B : BlkN X scope Nc own fr) (hi : PI X tg iter wi) (hog : OwnG own g)
    (hg : ∀ cl C s3 H3 fp pn', PG (X.blk Nc scope cl C s3 H3 fp pn' fun _ _ => False) tg g) (ht : ∀ cl C s3 H3 fp pn', PTs (X.blk Nc scope cl C s3 H3 fp pn' fun _ _ => False) ifs tc) (he : ∀ cl C s3 H3 fp pn', PE (X.blk Nc scope cl C s3 H3 fp pn' fun _ _ => False) elt te)
    (hs : ∀ x, foldedSetIterable iter X.env x = pure x := by intro _; rfl) : PE X (.ListComp elt [⟨tg, iter, ifs, 0⟩] scope pos) (tLC fr own wi g tc te) := by
  intro pins s σ H Q I h
  rw [eval_ListComp]
  exact lc_core (QQ := EP X pins σ Q) hc B hi hog hg ht he hs I h fun L C H3 s4 hn f unb q => let ⟨m, hm⟩ := hn; ⟨m, hm, fun h' sb => ⟨.ref L, H3, unb h' sb, rfl, q⟩⟩
/-- y = [.. for ..], on one row: the store comes ahead of the end of the block -/
theorem ps_setlc {elt tg iter : Expr} {ifs : List Expr} {scope : Scope} {pos py spos : Pos} {Nc : List Str} {own i : Nat} {fr : List Nat} {wi : TI} {g : TG} {tc : TT} {te : TE} {y : Str} (hN : X.N.Nodup) (hi' : X.N[i]? = some y) (hx : Loc X.env.scope y) (hc : X.calm = true) (B : BlkN X scope Nc own fr) (hi : PI X tg iter wi) (hog : OwnG own g)
    (hg : ∀ cl C s3 H3 fp pn', PG (X.blk Nc scope cl C s3 H3 fp pn' fun _ _ => False) tg g) (ht : ∀ cl C s3 H3 fp pn', PTs (X.blk Nc scope cl C s3 H3 fp pn' fun _ _ => False) ifs tc) (he : ∀ cl C s3 H3 fp pn', PE (X.blk Nc scope cl C s3 H3 fp pn' fun _ _ => False) elt te)
    (hs : ∀ x, foldedSetIterable iter X.env x = pure x := by intro _; rfl) (hsw : swapsWith (.ListComp elt [⟨tg, iter, ifs, 0⟩] scope pos) (some (.Name y py)) spos.line X.env = pure true := by rfl)
    (hf : X.fn y = true ∨ X.env.scope.names.lookup y = some .local := by first | exact .inl rfl | exact .inr rfl | assumption) :
    PS X (.Assign [.Name y py] (.ListComp elt [⟨tg, iter, ifs, 0⟩] scope pos) spos) (tAsg (tLC fr own wi g tc te) (gName i)) := by
  intro pins s σ H D I h
  rw [exec_Assign_Name_used (hs := hsw)]
  apply wpAny_bind; apply wpAny_standAt; apply wpAny_bind
  change wpAny _ _ (comprehension (.ListComp elt [⟨tg, iter, ifs, 0⟩] scope pos) scope X.env _ (newList []) false (eval iter X.env) (some (assign (.Name y py) X.env)) >>= fun _ => pure ()) _ _ _
  apply wpAny_bind
  refine wpAny_mono (lc_core (QQ := fun _ s' => SP X pins D .next s') hc B hi hog hg ht he hs I h (fun L C H3 s4 hn f unb q => ?_)) (fun _ s' q => wpAny_pure (wpAny_pure q)) fun _ _ e => e
  obtain ⟨m, o, es, ep, ho, hd, r⟩ := hn
  have I4 : Inv X pins σ H3 s4 := unb s4.heap (Heap.SameBut.refl _ _)
  obtain ⟨f0, f1, f2, f3, f4, f5⟩ := f
  have I5 : Inv X ((C, o) :: pins) σ H3 s4 := I4.pins_of fun p hp => by
    rcases List.mem_cons.mp hp with e | e
    · subst e; exact ⟨ho, f0, f1, f2, fun v z => by rw [hd] at z; cases z⟩
    · exact I4.pin p (List.mem_append_right _ e)
  show wpAny _ _ (assign (.Name y py) X.env (.ref L)) _ _ _
  apply wpAny_assign_Name
  apply store_ok I5 hN hi' hx (v := .ref L) rfl _ hf
  intro s5 I6
  have hC := (I6.pin (C, o) (List.mem_append_right _ (List.mem_cons_self ..))).1
  refine ⟨m, ⟨o, es, ep, hC, hd, r⟩, fun h' sb => ⟨_, H3, ?_, q⟩⟩
  have I7 : Inv X pins (σ.set i (some (.ref L))) H3 s5 := I6.pins_of fun p hp => I6.pin p (List.mem_append_right _ (List.mem_cons_of_mem _ hp))
  exact I7.turned (t' := s5.toks) (fun b o hb e => (sb.2 b hb).trans e) f0 f1 f3 f4 f5
end
end L2
end

section
set_option Elab.async false
set_option linter.all false
set_option maxRecDepth 100000
set_option maxHeartbeats 5000000
namespace L2
open PySem PySem.Spec PyProof.Rows Ex

section
variable {X : Cx}
/-! ## list.count, list.index of flat values -/

/-! ## all of a list of truths -/
theorem range_all (bs : List Bool) : ((List.range bs.length).all fun i => bs.getD i false) = bs.all id := by
  induction bs with
  | nil => rfl
  | cons b r ih =>
    rw [List.length_cons, List.range_succ_eq_map, List.all_cons, List.all_map, List.all_cons]
    exact congrArg (b && ·) ih
theorem call_all_bl (calm : X.calm = true) : CallR X (.builtin "all") (fun xs H Q => ∃ (p : Addr) (bs : List Bool), xs = [.ref p] ∧ H p = some (.lst (bs.map V.bl)) ∧ Q (.bl (bs.all id)) H) := by
  intro pins s σ H xs us Q I r h
  obtain ⟨p, bs, rfl, hH, q⟩ := h
  obtain ⟨u, rfl, ru⟩ := r.one
  cases ru
  obtain ⟨z, its, n, rv, hl, e⟩ := I.lstM hH
  have isL : s.heap.IsList p its.toArray := ⟨_, e, rfl, _, rfl⟩
  have ne : p ≠ s.heap.objs.size := Nat.ne_of_lt (Heap.lt_size e)
  have hA : X.A.in1.handled = none := I.ok.hd calm
  apply call_all_walk
  apply wpAny_pyIter_list isL
  refine ⟨_, _, _, _, _, _, fun i => bs.getD i false, rfl, Walks.list hA s.heap.objs.size p ne its.toArray, ⟨⟨_, Heap.get?_push_size _ rfl, rfl, rfl⟩, ?_⟩, ?_, ?_⟩
  · exact isL.push _
  · intro i v s' Q' E' hv hQ
    have hv' : its[i]? = some v := by simpa using hv
    have lt : i < bs.length := by
      have := (List.getElem?_eq_some_iff.mp hv').1
      rw [← rv.length, List.length_map] at this
      exact this
    obtain ⟨u, hu, ru⟩ := rv.get (x := .bl bs[i]) (by rw [List.getElem?_map, List.getElem?_eq_getElem lt]; rfl)
    rw [hv'] at hu
    cases hu
    cases (show v = Value.bool bs[i] from ru)
    have eb : bs.getD i false = bs[i] := by simp [List.getD, lt]
    dsimp only at hQ
    rw [eb] at hQ
    exact wpAny_pure hQ
  · intro h' tk kp
    refine ⟨.bl (bs.all id), H, I.kept fun b o z => kp b o ?_ (Heap.get?_push_of_some _ z), ?_, q⟩
    · have : b ≠ s.heap.objs.size := Nat.ne_of_lt (Heap.lt_size z)
      simpa using this
    · have el : its.toArray.size = bs.length := by rw [List.size_toArray, ← rv.length, List.length_map]
      show Value.bool _ = Value.bool _
      rw [el, range_all]

/-! ## repr of plain data -/
mutual
/-- the data that a value is, on the abstract heap -/
inductive DatV (H : Hp) : V → PyData → Prop
  | non : DatV H .non .none
  | bl (b : Bool) : DatV H (.bl b) (.bool b)
  | int (i : Int) : DatV H (.int i) (.int i)
  | str (x : Str) : DatV H (.str x) (.str x)
  | lst {a : Addr} {xs : List V} {ds : List PyData} : H a = some (.lst xs) → DatsV H xs ds → DatV H (.ref a) (.list ds)
  | tup {a : Addr} {xs : List V} {ds : List PyData} : H a = some (.tup xs) → DatsV H xs ds → DatV H (.ref a) (.tuple ds)
inductive DatsV (H : Hp) : List V → List PyData → Prop
  | nil : DatsV H [] []
  | cons {x : V} {d : PyData} {xs : List V} {ds : List PyData} : DatV H x d → DatsV H xs ds → DatsV H (x :: xs) (d :: ds)
end
mutual
theorem DatV.reads {P : Program} {w : World} {H : Hp} {h : Heap} (ok : HOk P w H h) : ∀ {x : V} {d : PyData} {u : Value}, DatV H x d → RelV x u → ∃ as, Reads h u d as
  | _, _, _, .non, r => by cases r; exact ⟨_, .none⟩
  | _, _, _, .bl b, r => by cases r; exact ⟨_, .bool b⟩
  | _, _, _, .int i, r => by obtain ⟨t, rfl⟩ := r; exact ⟨_, .int i t⟩
  | _, _, _, .str x, r => by obtain ⟨t, rfl⟩ := r; exact ⟨_, .str x t⟩
  | _, _, _, .lst e D, r => by
    cases r
    obtain ⟨_, its, n, rv, q⟩ := ok _ _ e
    obtain ⟨as, R⟩ := DatsV.reads ok D rv
    exact ⟨_, .list q rfl rfl R⟩
  | _, _, _, .tup e D, r => by
    cases r
    obtain ⟨_, its, rv, o, q, c, n, d⟩ := ok _ _ e
    obtain ⟨as, R⟩ := DatsV.reads ok D rv
    exact ⟨_, .tuple q c d R⟩
theorem DatsV.reads {P : Program} {w : World} {H : Hp} {h : Heap} (ok : HOk P w H h) : ∀ {xs : List V} {ds : List PyData} {us : List Value}, DatsV H xs ds → Vals xs us → ∃ as, ReadsAll h us ds as
  | _, _, _, .nil, r => by cases r; exact ⟨_, .nil⟩
  | _, _, _, .cons a b, r => by
    cases r with
    | cons r1 r2 =>
      obtain ⟨_, R1⟩ := DatV.reads ok a r1
      obtain ⟨_, R2⟩ := DatsV.reads ok b r2
      exact ⟨_, .cons R1 R2⟩
end
theorem call_repr_dat {k : Nat} (hr : Room k X.A) : CallR X (.builtin "repr") (fun xs H Q => ∃ (a : Addr) (d : PyData), xs = [.ref a] ∧ DatV H (.ref a) d ∧ d.showable = true ∧ d.hasDict = false ∧ d.depth ≤ 50 ∧ d.shown.length ≤ sizeLine ∧ Q (.str d.shown) H) := by
  intro pins s σ H xs us Q I r h
  obtain ⟨a, d, rfl, D, sh, nd, dp, sz, q⟩ := h
  obtain ⟨u, rfl, ru⟩ := r.one
  cases ru
  obtain ⟨as, R⟩ := D.reads I.hok (u := .ref a) rfl
  have un := hr.units
  exact repr_of_reads' R sh (fun z => by rw [nd] at z; cases z) hr.gd (by omega) (fun _ _ z => z) (fun h' u tk kp => ⟨.str d.shown, H, I.kept kp, ⟨u, rfl⟩, q⟩) sz
end
end L2
end

section
set_option Elab.async false
set_option linter.all false
set_option maxRecDepth 100000
set_option maxHeartbeats 5000000
namespace Ex
open PySem PySem.Spec PyProof.Rows PySem.Calls Builtin.SmallTypes

/-! ## what zip draws from -/

section
variable {prog : Program} {w : World} {A : Around} {E : Value → Shared → Prop} {s : Shared} {z TI TO i1 i2 : Addr} {f1 f2 : List Addr} {xs ys : Array Value} {S1 S2 : Nat → Heap → Prop}
end
end Ex
end

section
set_option Elab.async false
set_option linter.all false
set_option maxRecDepth 100000
set_option maxHeartbeats 5000000
namespace L2
open PySem PySem.Spec PyProof.Rows Ex

/-! ## zip of a list and a tuple -/
section
variable {X : Cx} {pins : List (Addr × Obj)} {σ : St} {H : Hp} {s : Shared} {h' : Heap} {fp : List Addr}
/-- some untracked records of ours have turned -/
theorem Inv.turnedAll {t' : Nat} (I : Inv X pins σ H s) (k : ∀ b o, b ∉ fp → s.heap.get? b = some o → h'.get? b = some o) (hf : ∀ b ∈ fp, FpOk X pins H b) : Inv X pins σ H { s with heap := h', toks := t' } := by
  have apart : ∀ b u, H b = some u → b ∉ fp := fun b u e z => by have q := (hf b z).1; rw [e] at q; cases q
  refine I.step (g' := s.gens) (d' := s.drawn) (ch := fp) (fun b hb => ?_) (fun b o _ _ hc e _ => k b o hc e) (fun b o _ _ hc e _ => ⟨o.slots, k b o hc e⟩) (fun _ _ _ _ n => n) (fun b o hc e => ⟨o, k b o hc e⟩) (fun _ _ e => e) (fun _ _ _ e => e) (fun b ps e => ⟨#[], by rw [e]; simp⟩) (fun m hm => ?_) (fun b u e => ?_) I.bare
  · obtain ⟨_, f1, _, f3, f4, f5⟩ := hf b hb
    exact ⟨f3, f1, f4, f5⟩
  · obtain ⟨o, es, ep, ho, r⟩ := hm
    exact ⟨o, es, ep, k _ o (fun z => (hf _ z).2.1 rfl) ho, r⟩
  · apply (I.hok b u e).stay (h' := h') (H' := H) _ (fun _ q => q) (fun _ _ q => q)
    intro c v hc q
    cases hc with
    | inl z => exact k c v (by rw [z]; exact apart b u e) q
    | inr z => exact k c v (apart c _ z) q
/-- .. and something new is tracked -/
theorem Inv.turnedNew {t' : Nat} {a : Addr} {o : HO} (I : Inv X pins σ H s) (k : ∀ b o, b ∉ fp → s.heap.get? b = some o → h'.get? b = some o) (hf : ∀ b ∈ fp, FpOk X pins H b) (ha : s.heap.objs.size ≤ a) (new : ObjOk X.prog X.w (upd H a o) h' a o) : Inv X pins σ (upd H a o) { s with heap := h', toks := t' } := by
  have apart : ∀ b u, H b = some u → b ∉ fp := fun b u e z => by have q := (hf b z).1; rw [e] at q; cases q
  have fr : H a = none := I.hok.fresh ha
  have old : ∀ b u, H b = some u → upd H a o b = some u := fun b u e => by rw [upd_ne (ne_of_none e fr)]; exact e
  refine I.step (g' := s.gens) (d' := s.drawn) (ch := fp) (fun b hb => ?_) (fun b o _ _ hc e _ => k b o hc e) (fun b o _ _ hc e _ => ⟨o.slots, k b o hc e⟩) (fun b u _ e n => ?_) (fun b o hc e => ⟨o, k b o hc e⟩) (fun b xs e => old b _ e) (fun b o u e => old b _ e) (fun b ps e => ⟨#[], by rw [old b _ e]; simp⟩) (fun m hm => ?_) (fun b u e => ?_) I.bare
  · obtain ⟨_, f1, _, f3, f4, f5⟩ := hf b hb
    exact ⟨f3, f1, f4, f5⟩
  · have lt : b < s.heap.objs.size := Heap.lt_size e
    rw [upd_ne (Nat.ne_of_lt (Nat.lt_of_lt_of_le lt ha))]; exact n
  · obtain ⟨o, es, ep, ho, r⟩ := hm
    exact ⟨o, es, ep, k _ o (fun z => (hf _ z).2.1 rfl) ho, r⟩
  · by_cases hb : b = a
    · subst hb; rw [upd_same] at e; cases e; exact new
    · rw [upd_ne hb] at e
      apply (I.hok b u e).stay (h' := h') (H' := upd H a o) _ (fun c q => old c _ q) (fun c xs q => old c _ q)
      intro c v hc q
      cases hc with
      | inl z => exact k c v (by rw [z]; exact apart b u e) q
      | inr z => exact k c v (apart c _ z) q
end
end L2
namespace Ex
open PySem PySem.Spec PyProof.Rows PySem.Calls Builtin.SmallTypes
section
variable {prog : Program} {w : World} {A : Around} {E : Value → Shared → Prop} {s : Shared} {z TI TO i1 i2 l1 : Addr} {f2 : List Addr} {xs : Array Value}
end
end Ex
end

section
set_option Elab.async false
set_option linter.all false
set_option maxRecDepth 100000
set_option maxHeartbeats 5000000
namespace Ex
open PySem PySem.Spec PyProof.Rows PySem.Calls Builtin.SmallTypes
/-! the objects of a zip over a list and a tuple, one behind the other -/
end Ex
end

section
set_option Elab.async false
set_option linter.all false
set_option maxRecDepth 100000
set_option maxHeartbeats 5000000
namespace L2
open PySem PySem.Spec PyProof.Rows Ex
section
variable {X : Cx}
end
end L2
end

section
set_option Elab.async false
set_option linter.all false
set_option maxRecDepth 100000
set_option maxHeartbeats 5000000
namespace L2
open PySem PySem.Spec PyProof.Rows Ex
section
variable {X : Cx}
/-! ## plain data: equal or not -/
def rEqD : R2 := fun x y H Q => ∃ d e, DatV H x d ∧ DatV H y e ∧ SeqAt.shaped d = true ∧ SeqAt.shaped e = true ∧ Q (.bl (PyData.eqv d e)) H
def rNeD : R2 := fun x y H Q => ∃ d e, DatV H x d ∧ DatV H y e ∧ SeqAt.shaped d = true ∧ SeqAt.shaped e = true ∧ Q (.bl (!PyData.eqv d e)) H
theorem op_eq_dat {k : Nat} (hr : Room k X.A) : OpR X (compareOp .Eq) rEqD := by
  intro pins s σ H x y v u Q I rx ry h
  obtain ⟨d, e, hd, he, sd, se, q⟩ := h
  obtain ⟨as, ra⟩ := hd.reads I.hok rx
  obtain ⟨bs, rb⟩ := he.reads I.hok ry
  exact SeqAt.compareEq_shaped ra rb sd se hr.units ⟨.bl _, H, I, rfl, q⟩
theorem op_ne_dat {k : Nat} (hr : Room k X.A) : OpR X (compareOp .NotEq) rNeD := by
  intro pins s σ H x y v u Q I rx ry h
  obtain ⟨d, e, hd, he, sd, se, q⟩ := h
  obtain ⟨as, ra⟩ := hd.reads I.hok rx
  obtain ⟨bs, rb⟩ := he.reads I.hok ry
  exact SeqAt.compareNe_shaped ra rb sd se hr.units ⟨.bl _, H, I, rfl, q⟩
/-! ## any of a list of truths -/
theorem range_any (bs : List Bool) : ((List.range bs.length).any fun i => bs.getD i false) = bs.any id := by
  induction bs with
  | nil => rfl
  | cons b r ih =>
    rw [List.length_cons, List.range_succ_eq_map, List.any_cons, List.any_map, List.any_cons]
    exact congrArg (b || ·) ih
theorem call_any_bl (calm : X.calm = true) : CallR X (.builtin "any") (fun xs H Q => ∃ (p : Addr) (bs : List Bool), xs = [.ref p] ∧ H p = some (.lst (bs.map V.bl)) ∧ Q (.bl (bs.any id)) H) := by
  intro pins s σ H xs us Q I r h
  obtain ⟨p, bs, rfl, hH, q⟩ := h
  obtain ⟨u, rfl, ru⟩ := r.one
  cases ru
  obtain ⟨z, its, n, rv, hl, e⟩ := I.lstM hH
  have isL : s.heap.IsList p its.toArray := ⟨_, e, rfl, _, rfl⟩
  have ne : p ≠ s.heap.objs.size := Nat.ne_of_lt (Heap.lt_size e)
  have hA : X.A.in1.handled = none := I.ok.hd calm
  apply call_any_walk
  apply wpAny_pyIter_list isL
  refine ⟨_, _, _, _, _, _, fun i => bs.getD i false, rfl, Walks.list hA s.heap.objs.size p ne its.toArray, ⟨⟨_, Heap.get?_push_size _ rfl, rfl, rfl⟩, ?_⟩, ?_, ?_⟩
  · exact isL.push _
  · intro i v s' Q' E' hv hQ
    have hv' : its[i]? = some v := by simpa using hv
    have lt : i < bs.length := by
      have := (List.getElem?_eq_some_iff.mp hv').1
      rw [← rv.length, List.length_map] at this
      exact this
    obtain ⟨u, hu, ru⟩ := rv.get (x := .bl bs[i]) (by rw [List.getElem?_map, List.getElem?_eq_getElem lt]; rfl)
    rw [hv'] at hu
    cases hu
    cases (show v = Value.bool bs[i] from ru)
    have eb : bs.getD i false = bs[i] := by simp [List.getD, lt]
    dsimp only at hQ
    rw [eb] at hQ
    exact wpAny_pure hQ
  · intro h' tk kp
    refine ⟨.bl (bs.any id), H, I.kept fun b o z => kp b o ?_ (Heap.get?_push_of_some _ z), ?_, q⟩
    · have : b ≠ s.heap.objs.size := Nat.ne_of_lt (Heap.lt_size z)
      simpa using this
    · have el : its.toArray.size = bs.length := by rw [List.size_toArray, ← rv.length, List.length_map]
      show Value.bool _ = Value.bool _
      rw [el, range_any]
end
/-! ## enumerate of a list -/
def Ite (l : Addr) : It where
  go := fun i H => ∃ xs x, H l = some (.lst xs) ∧ xs[i]? = some x
  yld := fun i H v H' => ∃ p xs x, v = .ref p ∧ H p = none ∧ H' = upd H p (.tup [.int i, x]) ∧ H l = some (.lst xs) ∧ xs[i]? = some x
  stop := fun i H => ∃ xs, H l = some (.lst xs) ∧ xs.length ≤ i
def efp (n : Addr) : List Addr := [n + 1, n]
theorem mem_efp {n b : Addr} : b ∈ efp n ↔ b = n + 1 ∨ b = n := by simp [efp]
def etn (n l : Addr) (i : Nat) (h : Heap) : Prop := ∃ old, IsEnum h (n + 1) n i old ∧ h.IsListIter n l i
theorem turn_enum {P : Program} {w : World} {K : PySem.W.Frag} {es : List Expr} {x1} {pos : Pos} (l n : Addr) : Turn P w K (.Tuple es x1 pos) (Ite l) (efp n) (n + 1) (etn n l) where
  mem := by simp [efp]
  obj := fun i h st b hb => by
    obtain ⟨old, he, ⟨o, e, c, d⟩⟩ := st
    rcases mem_efp.mp hb with z | z <;> subst z
    · exact ⟨_, he, fun v z => nomatch z⟩
    · exact ⟨_, e, fun v z => by rw [d] at z; cases z⟩
  keep := fun i h h' st k => by
    obtain ⟨old, he, ⟨o, e, r⟩⟩ := st
    exact ⟨old, k _ (mem_efp.mpr (.inl rfl)) _ he, ⟨o, k _ (mem_efp.mpr (.inr rfl)) _ e, r⟩⟩
  item := by
    intro X hP hw hK hc i pins s σ H E I hf st hg
    subst hP hw hK
    obtain ⟨xs, x, q1, hx⟩ := hg
    obtain ⟨old, he, st1⟩ := st
    have ne : n + 1 ≠ n := Nat.succ_ne_self n
    obtain ⟨us, r1, p1, z1⟩ := I.list (SqL.of q1)
    obtain ⟨u, hu, ru⟩ := r1.get hx
    have new : ∀ b ∈ efp n, b < s.heap.objs.size := fun b hb => by
      rcases mem_efp.mp hb with e | e <;> subst e
      · exact Heap.lt_size he
      · obtain ⟨_, e, _⟩ := st1; exact Heap.lt_size e
    apply wpAny_pyNext_enum_item he st1 p1.isList (x := u) (by simpa using hu) ne
    intro h1 ho1 s1 np sz kept
    refine ⟨_, rfl, wpAny_letOwnedTupleGo_enum ho1 fun h2 he2 sb => ?_⟩
    have k2 : ∀ b o, b ∉ efp n → s.heap.get? b = some o → h2.get? b = some o := fun b o hb e => by
      rw [mem_efp] at hb
      exact sb.extBut _ _ (fun z => hb (.inl z)) (kept b o (fun z => hb (.inl z)) (fun z => hb (.inr z)) e)
    have fr : H s.heap.objs.size = none := I.hok.fresh (Nat.le_refl _)
    have nz : s.heap.objs.size ≠ n + 1 := fun e => absurd (new (n + 1) (mem_efp.mpr (.inl rfl))) (by rw [e]; exact Nat.lt_irrefl _)
    refine ⟨.ref s.heap.objs.size, upd H s.heap.objs.size (.tup [.int i, x]), I.turnedNew (t' := s.toks + 1) k2 hf (Nat.le_refl _) ?_, rfl, ⟨_, xs, x, rfl, fr, rfl, q1, hx⟩, ⟨u, ?_, ?_⟩, fun b hb => ?_⟩
    · exact ⟨by show (2 : Nat) ≤ sizeLine; decide, [.int i s.toks, u], .cons ⟨_, rfl⟩ (.cons ru .nil), ⟨_, sb.extBut _ _ nz np, rfl, _, rfl⟩⟩
    · exact he2
    · obtain ⟨o, e, r⟩ := s1
      exact ⟨o, sb.extBut _ _ (Ne.symm ne) e, r⟩
    · rw [upd_ne (Nat.ne_of_lt (new b hb))]; exact (hf b hb).1
  done := by
    intro X hP hw hK hc i pins s σ H E I hf st hg
    subst hP hw hK
    obtain ⟨xs, q1, hx⟩ := hg
    obtain ⟨old, he, st1⟩ := st
    obtain ⟨us, r1, p1, z1⟩ := I.list (SqL.of q1)
    have hl := r1.length
    apply wpAny_pyNext_enum_end (I.ok.hd hc) he st1 p1.isList (by simp; omega)
    intro h1 kept
    exact ⟨rfl, I.turnedAll (t' := s.toks) (fun b o hb e => kept b o (fun z => hb (mem_efp.mpr (.inr z))) e) hf⟩
  self := fun A i s Q E st h => by
    obtain ⟨old, he, _⟩ := st
    have ty : s.TypeIs (.ref (n + 1)) "enumerate" := ⟨_, he, rfl⟩
    apply wpAny_pyIter_slot ty F.slot_enumerate_iter
    apply wpAny_call_entry F.slot_enumerate_iter ty F.entry_enumerate_iter _ (F.args_enumerate_iter_1 _)
    change wpAny _ _ (ret (.ref (n + 1))) _ _ s
    exact wpAny_pure ⟨_, rfl, "enumerate", _, ty, F.slot_enumerate_next.lookup, h⟩
def iEnum (ta : TA) : TI := fun σ H R => ta σ H fun vs H1 => ∃ l xs, vs = [.ref l] ∧ H1 l = some (.lst xs) ∧ R (Ite l) H1
section
variable {X : Cx}
theorem boot_enum : bootBuiltins "enumerate" = some (.type "enumerate") := by decide +kernel
theorem pi_enum {a : Expr} {es : List Expr} {x1} {tp : Pos} {ta : TA} {p pos : Pos} (hg : Gl X "enumerate") (hm : X.mg "enumerate" = none) (ha : PA X [a] ta) (hs : starEach [a] X.env = [(false, eval a X.env)] := by rfl) : PI X (.Tuple es x1 tp) (.Call (.Name "enumerate" p) [a] [] pos) (iEnum ta) := by
  intro pins s σ H R I h
  refine Call_ (ld_blt I hg hm boot_enum (PyProof.Rows.callWith_type1 (thn (ha pos pins s σ H _ I h) fun us s1 ⟨vs, H1, I1, r1, q1⟩ => ?_) hs rfl))
  obtain ⟨l, xs, e, q1, q⟩ := q1
  subst e
  obtain ⟨u, rfl, e1⟩ := vals1 r1
  cases e1
  obtain ⟨us, r1, p1, z1⟩ := I1.list (SqL.of q1)
  apply call_enumerate_list p1.isList
  intro h' he st sz kept
  have T := turn_enum (P := X.prog) (w := X.w) (K := X.K) (es := es) (x1 := x1) (pos := tp) l s1.heap.objs.size
  apply T.self X.A 0 _ _ _ ⟨.none, he, st⟩
  refine ⟨_, efp s1.heap.objs.size, _, _, H1, rfl, I1.kept (t' := s1.toks) kept, T, ⟨.none, he, st⟩, fun b hb => ?_, q⟩
  have le : s1.heap.objs.size ≤ b := by
    rw [mem_efp] at hb
    rcases hb with e | e <;> rw [e] <;> first | exact Nat.le_refl _ | exact Nat.le_add_right _ _
  exact I1.fpOk le (I1.hok.fresh le)
end
end L2
end

section
set_option Elab.async false
set_option linter.all false
set_option maxRecDepth 100000
set_option maxHeartbeats 5000000
namespace L2
open PySem PySem.Spec PyProof.Rows Ex
section
variable {X : Cx}
/-! ## the least and the greatest of a list of ints -/
theorem ints_pairs {ns : List Int} {its : List Value} (r : Vals (ns.map V.int) its) : ∃ ps : Array (Int × Tok), its.toArray = intItems ps ∧ ps.toList.map (·.1) = ns := by
  have ia := intsAre_of r
  obtain ⟨ps, e⟩ := ia.allInts.items
  refine ⟨ps, e, ?_⟩
  rw [← nums_intItems, ← e]
  exact ia.numsOf
theorem call_min_ints (calm : X.calm = true) : CallR X (.builtin "min") (fun xs H Q => ∃ (p : Addr) (ns : List Int), xs = [.ref p] ∧ H p = some (.lst (ns.map V.int)) ∧ 0 < ns.length ∧ ∀ M ∈ ns, (∀ a ∈ ns, M ≤ a) → Q (.int M) H) := by
  intro pins s σ H xs us Q I r h
  obtain ⟨p, ns, rfl, hH, hn, q⟩ := h
  obtain ⟨u, rfl, ru⟩ := r.one
  cases ru
  obtain ⟨z, its, n, rv, hl, e⟩ := I.lstM hH
  obtain ⟨ps, e1, rfl⟩ := ints_pairs rv
  rw [List.length_map, Array.length_toList] at hn
  apply min_intList (xs := ps) (I.ok.hd calm) ⟨_, e, rfl, _, by rw [e1]⟩ hn
  intro v h' tk hv kp
  obtain ⟨tk2, rfl⟩ := intItems_at hv
  have B := argBest_lt (numAt ps) (ps.size - 1)
  refine ⟨.int _, H, I.kept kp, ⟨tk2, rfl⟩, q _ ?_ fun a ha => ?_⟩
  · rw [numAt_eq]
    apply PySem.getD_mem
    rw [List.length_map, Array.length_toList]
    have := B.1
    omega
  · obtain ⟨j, lt, rfl⟩ := mem_getD ha
    rw [List.length_map, Array.length_toList] at lt
    have := B.2 j (by omega)
    rwa [numAt_eq ps j] at this
theorem call_max_ints (calm : X.calm = true) : CallR X (.builtin "max") (fun xs H Q => ∃ (p : Addr) (ns : List Int), xs = [.ref p] ∧ H p = some (.lst (ns.map V.int)) ∧ 0 < ns.length ∧ ∀ M ∈ ns, (∀ a ∈ ns, a ≤ M) → Q (.int M) H) := by
  intro pins s σ H xs us Q I r h
  obtain ⟨p, ns, rfl, hH, hn, q⟩ := h
  obtain ⟨u, rfl, ru⟩ := r.one
  cases ru
  obtain ⟨z, its, n, rv, hl, e⟩ := I.lstM hH
  obtain ⟨ps, e1, rfl⟩ := ints_pairs rv
  rw [List.length_map, Array.length_toList] at hn
  apply max_intList (xs := ps) (I.ok.hd calm) ⟨_, e, rfl, _, by rw [e1]⟩ hn
  intro v h' tk hv kp
  obtain ⟨tk2, rfl⟩ := intItems_at hv
  have B := argBest_gt (numAt ps) (ps.size - 1)
  refine ⟨.int _, H, I.kept kp, ⟨tk2, rfl⟩, q _ ?_ fun a ha => ?_⟩
  · rw [numAt_eq]
    apply PySem.getD_mem
    rw [List.length_map, Array.length_toList]
    have := B.1
    omega
  · obtain ⟨j, lt, rfl⟩ := mem_getD ha
    rw [List.length_map, Array.length_toList] at lt
    have := B.2 j (by omega)
    rwa [numAt_eq ps j] at this
/-! ## sorted, of fewer than 64 ints -/
theorem vals_of_ints : ∀ {us : List Value} {ns : List Int}, IntsAre us ns → Vals (ns.map V.int) us
  | _, _, .nil => .nil
  | _, _, .cons n t r => .cons ⟨t, rfl⟩ (vals_of_ints r)
theorem call_sorted_ints : CallR X (.builtin "sorted") (fun xs H Q => ∃ (p : Addr) (ns : List Int), xs = [.ref p] ∧ SqL X.K H p (ns.map V.int) ∧ ns.length < 64 ∧ ∀ (l : Addr) (ns' : List Int), H l = none → ns'.Perm ns → ns'.Pairwise (· ≤ ·) → Q (.ref l) (upd H l (.lst (ns'.map V.int)))) := by
  intro pins s σ H xs us Q I r h
  obtain ⟨p, ns, rfl, hS, hn, q⟩ := h
  obtain ⟨u, rfl, ru⟩ := r.one
  cases ru
  obtain ⟨its, rv, pl, hz⟩ := I.list hS
  have hl := rv.length
  rw [List.length_map] at hl
  apply sorted_ints pl.isList (intsAre_of rv) (by omega)
  intro out ns' ia pm pw
  obtain ⟨e, he⟩ := sortedAll_at s.heap its out
  have fr : H (s.heap.objs.size + 1) = none := I.hok.fresh (Nat.le_succ _)
  refine ⟨.ref (s.heap.objs.size + 1), upd H (s.heap.objs.size + 1) (.lst (ns'.map V.int)), I.laid (t' := s.toks) (fun b o z => sortedAll_old z) (Nat.le_succ _) ?_, rfl, q _ ns' fr pm pw⟩
  refine ⟨?_, out.toList, e, vals_of_ints ia, he⟩
  rw [List.length_map, pm.length_eq]
  have z : (64 : Nat) ≤ sizeLine := by decide
  omega
/-! ## range with a step -/
def Itr3 (lo c : Int) (n : Nat) : It := ⟨fun i _ => i < n, fun i H x H' => H' = H ∧ x = .int (lo + i * c), fun i _ => n ≤ i⟩
end
theorem turn_range3 {P : Program} {w : World} {K : PySem.W.Frag} {tg : Expr} (it : Addr) (lo c : Int) (n : Nat) : Turn P w K tg (Itr3 lo c n) [it] it (fun i h => IsRangeIter h it (lo + (i : Nat) * c) ((n : Int) - (i : Nat)) c) where
  mem := by simp
  obj := fun i h st b hb => by
    have e : b = it := by simpa using hb
    subst e
    exact ⟨_, st, fun v z => nomatch z⟩
  keep := fun i h h' st k => k it (by simp) _ st
  item := by
    intro X hP hw hK hc i pins s σ H E I hf st hg
    subst hP hw hK
    obtain ⟨f0, f1, f2, f3, f4, f5⟩ := hf it (by simp)
    have W := Walks.range (prog := X.prog) (w := X.w) (I.ok.hd hc) it lo c n
    refine W.item i s _ _ hg st fun v h' tk hv st' kk => ?_
    obtain ⟨t, rfl⟩ := hv
    have I1 : Inv X pins σ H { s with heap := h', toks := tk } := I.turned (fun b o hb e => kk b o (by simpa using hb) e) f0 f1 f3 f4 f5
    exact ⟨_, rfl, go_of (s := { s with heap := h', toks := tk }) (n := "range_iterator") st' rfl rfl (by decide) ⟨.int (lo + i * c), H, I1, ⟨t, rfl⟩, ⟨rfl, rfl⟩, st', fun b hb => (hf b hb).1⟩⟩
  done := by
    intro X hP hw hK hc i pins s σ H E I hf st hg
    subst hP hw hK
    obtain ⟨f0, f1, f2, f3, f4, f5⟩ := hf it (by simp)
    exact wpAny_pyNext_range_end (I.ok.hd hc) st (by have : n ≤ i := hg; omega) fun h' eb => ⟨rfl, I.turned (t' := s.toks) (fun b o hb e => eb b o hb e) f0 f1 f3 f4 f5⟩
  self := fun _ _ _ _ _ st h => wpAny_pyIter_rangeiter st h
def iRng3 (ta : TA) : TI := fun σ H R => ta σ H fun vs H1 => ∃ (i j c : Int) (n : Nat), vs = [.int i, .int j, .int c] ∧ c ≠ 0 ∧ c.natAbs < 1073741824 ∧ Builtin.Range.small i j c = true ∧ Builtin.Range.rangeSize i j c = n ∧ R (Itr3 i c n) H1
section
variable {X : Cx} {tg : Expr}
theorem pi_range3 {a b c : Expr} {ta : TA} {p pos : Pos} (hg : Gl X "range") (hm : X.mg "range" = none) (ha : PA X [a, b, c] ta) (hs : starEach [a, b, c] X.env = [(false, eval a X.env), (false, eval b X.env), (false, eval c X.env)] := by rfl) (hs2 : starEach [b, c] X.env = [(false, eval b X.env), (false, eval c X.env)] := by rfl) :
    PI X tg (.Call (.Name "range" p) [a, b, c] [] pos) (iRng3 ta) := by
  intro pins s σ H R I h
  refine Call_ (ld_blt I hg hm boot_range (PyProof.Rows.callWith_type1 (thn (ha pos pins s σ H _ I h) fun us s1 ⟨vs, H1, I1, r1, q1⟩ => ?_) (by rw [hs, hs2]) (by rw [hs2]; rfl)))
  obtain ⟨i, j, d, n, e, d0, d1, sm, sz, q⟩ := q1
  subst e
  cases r1 with
  | cons r rr => cases rr with
    | cons r' rr => cases rr with
      | cons r'' rr =>
        cases rr
        obtain ⟨t, rfl⟩ := r
        obtain ⟨t', rfl⟩ := r'
        obtain ⟨t'', rfl⟩ := r''
        apply call_range_3 d0 _ (.inl (PyProof.noPylong_small d1))
        apply wpAny_pyIter_range (IsRange.new ..) sm
        have I2 : Inv X pins σ H1 { s1 with heap := s1.heap.push { cls := .type "range", data := .fields #[.int i t, .int j t', .int d t''] } } := I1.kept (t' := s1.toks) fun b o e => Heap.get?_push_of_some _ e
        refine ⟨_, [(s1.heap.push { cls := .type "range", data := .fields #[.int i t, .int j t', .int d t''] }).objs.size], _, _, H1, rfl, I2.kept (t' := s1.toks) fun b o e => Heap.get?_push_of_some _ e, turn_range3 _ i d n, ?_, fun b hb => ?_, q⟩
        · have e1 : i + ((0 : Nat) : Int) * d = i := by simp
          have e2 : (n : Int) - ((0 : Nat) : Int) = Builtin.Range.rangeSize i j d := by rw [sz]; simp
          show IsRangeIter _ _ (i + ((0 : Nat) : Int) * d) ((n : Int) - ((0 : Nat) : Int)) d
          rw [e1, e2]
          exact Heap.get?_push_size _ rfl
        · have e : b = (s1.heap.push { cls := .type "range", data := .fields #[.int i t, .int j t', .int d t''] }).objs.size := by simpa using hb
          subst e
          exact I2.fpOk (Nat.le_refl _) (I2.hok.fresh (Nat.le_refl _))
/-! ## slices of lists with a step -/
def pickV (xs : List V) (lo hi : Option Int) (st : Int) : List V := (sliceRange (sliceBounds lo hi (some st) xs.length).1 (sliceBounds lo hi (some st) xs.length).2.1 (sliceBounds lo hi (some st) xs.length).2.2).filterMap (xs[·]?)
theorem vals_pick {xs : List V} {us : List Value} (r : Vals xs us) : ∀ ps : List Nat, Vals (ps.filterMap (xs[·]?)) (ps.filterMap (us[·]?))
  | [] => .nil
  | p :: ps => by
    rw [List.filterMap_cons, List.filterMap_cons]
    cases e : xs[p]? with
    | none => rw [r.none_of e]; exact vals_pick r ps
    | some x =>
      obtain ⟨u, hu, ru⟩ := r.get e
      rw [hu]
      exact .cons ru (vals_pick r ps)
def tSlS (K : PySem.W.Frag) (te : TE) (tl th : TO) (st : Int) : TE := fun σ H Q => te σ H fun x H1 => tl σ H1 fun l H2 => th σ H2 fun u H3 => ∃ a xs, x = .ref a ∧ SqL K H3 a xs ∧ st ≠ 0 ∧ (pickV xs l u st).length ≤ sizeLine ∧ ∀ p, H3 p = none → Q (.ref p) (upd H3 p (.lst (pickV xs l u st)))
theorem pe_sliceS {e se : Expr} {te : TE} {lo hi : Option Expr} {tl th : TO} {st : Int} {pos p2 : Pos} (he : PE X e te) (hl : PO X lo tl) (hu : PO X hi th) (hse : PE X se (tC (.int st))) : PE X (.Subscript e (.Slice lo hi (some se) p2) pos) (tSlS X.K te tl th st) := by
  intro pins s σ H Q I h
  refine Subscript_ (thn (he pins s σ H _ I h) fun v s1 ⟨x, H1, I1, r1, q1⟩ => ?_)
  refine wpAny_Slice (thn (hl pins s1 σ H1 _ I1 q1) fun vl s2 ⟨l, H2, I2, pl, q2⟩ => thn (hu pins s2 σ H2 _ I2 q2) fun vu s3 ⟨u, H3, I3, pu, q3⟩ => ?_)
  rw [evalPart_some]
  refine thn (hse pins s3 σ H3 (fun x H' => x = .int st ∧ H' = H3) I3 ⟨rfl, rfl⟩) fun vs s4 ⟨y, H4, I4, r4, ey, eH⟩ => ?_
  subst ey eH
  obtain ⟨t, rfl⟩ := r4
  obtain ⟨a, xs, rfl, hx, s0, sz, q⟩ := q3
  cases r1
  have I5 : Inv X pins σ H4 { s4 with heap := s4.heap.push { cls := .type "slice", data := .fields #[vl, vu, .int st t] } } := I4.kept (t' := s4.toks) fun b ob q => Heap.get?_push_of_some _ q
  obtain ⟨its, r, ht, hz⟩ := I5.list hx
  have hlen := r.length
  show wpAny (model X.prog X.w) X.A (subscriptTail e (.Slice lo hi (some se) p2) (.ref a) (.ref s4.heap.objs.size)) (EP X pins σ Q) X.xe { s4 with heap := s4.heap.push { cls := .type "slice", data := .fields #[vl, vu, .int st t] } }
  refine tail_any (ops := [.ref a, .ref s4.heap.objs.size]) ht.isList.typeIs slot_list_getitem.lookup ?_ (by with_unfolding_all rfl)
  refine wpAny_getItem_list_slice ht.isList (Heap.IsSliceOf.new ..) pl pu (.int st t) (by simpa using s0) ?_ (by rw [List.size_toArray] <;> omega)
  have e1 : slicePick its.toArray l u (some st) = ((sliceRange (sliceBounds l u (some st) xs.length).1 (sliceBounds l u (some st) xs.length).2.1 (sliceBounds l u (some st) xs.length).2.2).filterMap (its[·]?)).toArray := by
    unfold slicePick
    rw [List.size_toArray, ← hlen]
    simp
  rw [e1]
  exact ⟨.ref _, _, I5.lnew (t' := s4.toks) (vals_pick r _) sz, rfl, q _ I5.fresh⟩
end
end L2
end

section
set_option Elab.async false
set_option linter.all false
set_option maxRecDepth 100000
set_option maxHeartbeats 5000000
namespace L2
open PySem PySem.Spec PyProof.Rows Ex
/-! ## isinstance of plain data -/
def rIs (K : PySem.W.Frag) : List V → Hp → VK → Prop := fun xs H Q => ∃ x c t cv b, xs = [x, c] ∧ clsV c = some cv ∧ TyX K H x t ∧ PySem.W.kitOne K t cv = some b ∧ Q (.bl b) H
theorem same_upd {H : Hp} {p : Addr} {o : HO} (h : H p = none) : Same H (upd H p o) := fun b u e => by rw [upd_ne (ne_of_none e h)]; exact e
/-! ## loops over enumerate, and over a stepped range -/
/-! ## comprehensions without a test, over a list or a tuple that stays, each item by a promise that keeps what was -/
end L2
end

section
set_option Elab.async false
set_option linter.all false
set_option maxRecDepth 100000
set_option maxHeartbeats 5000000
namespace Ex
open PySem PySem.Spec PyProof.Rows PySem.Calls Builtin.SmallTypes
section
variable {prog : Program} {w : World} {A : Around} {E : Value → Shared → Prop} {s : Shared}
/-- a list of two, unpacked -/
theorem unpack_two {l : Addr} {u v : Value} {targets : List (Bool × (Value → Sem Unit))} {Q : Unit → Shared → Prop} (hh : A.handled = none) (isL : s.heap.IsList l #[u, v]) (hn : targets.length = 2) (hstar : targets.findIdx? (·.1) = none)
    (q : ∀ h', (∀ b o, s.heap.get? b = some o → h'.get? b = some o) → wpAny (model prog w) A (assignInOrder (targets.map (·.2)) [u, v]) Q E { s with heap := h' }) : wpAny (model prog w) A (unpack (.ref l) targets) Q E s := by
  have ne : l ≠ s.heap.objs.size := by obtain ⟨o, e, _⟩ := isL; exact Nat.ne_of_lt (Heap.lt_size e)
  delta unpack
  rw [hn, hstar]
  apply wpAny_bind; apply wpAny_holding
  delta unpackItems
  apply wpAny_bind; delta notIterableAtAll
  apply wpAny_bind; apply wpAny_specialOf isL.typeIs F.slot_list_iter.lookup; apply wpAny_pure
  simp only [if_false, Bool.false_eq_true]
  apply wpAny_bind; apply wpAny_holding; apply wpAny_pyIter_list isL
  apply wpAny_bind; apply wpAny_holding
  have isL1 := isL.push { cls := .type "list_iterator", data := .fields #[.ref l, .int 0 0] }
  change wpAny _ _ (pyNext (.ref s.heap.objs.size) >>= _) _ _ _
  apply wpAny_bind
  apply wpAny_pyNext_list_item (l := l) (i := 0) ⟨_, Heap.get?_push_size _ rfl, rfl, rfl⟩ isL1 (x := u) rfl
  intro h1 it1 sb1
  have isL2 := isL1.extBut sb1.extBut ne
  apply wpAny_bind; apply wpAny_holding
  change wpAny _ _ (pyNext (.ref s.heap.objs.size) >>= _) _ _ _
  apply wpAny_bind
  apply wpAny_pyNext_list_item it1 isL2 (x := v) rfl
  intro h2 it2 sb2
  have isL3 := isL2.extBut sb2.extBut ne
  apply wpAny_bind; apply wpAny_holding
  apply wpAny_pure; apply wpAny_pure; apply wpAny_pure
  rw [if_neg (by simp)]
  apply wpAny_bind; apply wpAny_holding
  apply wpAny_pyNext_list_end hh it2 isL3 (by rfl)
  intro h3 eb
  simp only [if_false, Option.isSome_none, Bool.false_eq_true]
  apply wpAny_pure
  refine q h3 fun b o e => ?_
  have nb : b ≠ s.heap.objs.size := Nat.ne_of_lt (Heap.lt_size e)
  exact eb b o nb (sb2.extBut b o nb (sb1.extBut b o nb (Heap.get?_push_of_some _ e)))
end
end Ex
namespace L2
open PySem PySem.Spec PyProof.Rows Ex
section
variable {X : Cx} {pos : Pos}
/-- a, b = a list of two -/
def gTwo (K : PySem.W.Frag) (t : TGs) : TG := fun v σ H Q => ∃ a x y, v = .ref a ∧ SqL K H a [x, y] ∧ t [x, y] σ H Q
theorem pg_two {es : List Expr} {k : Nat} {t : TGs} (hc : X.calm = true) (h : PGs X es t) (hn : (assignEach es X.env).length = 2 := by rfl) (hst : (assignEach es X.env).findIdx? (·.1) = none := by rfl) : PG X (.Tuple es k pos) (gTwo X.K t) := by
  intro pins s σ H v u Q I r hw
  obtain ⟨a, x, y, e1, hq, hw⟩ := hw
  subst e1
  cases r
  obtain ⟨its, rv, pl, hz⟩ := I.list hq
  obtain ⟨b, c, rfl, rb, rc⟩ := vals2 rv
  rw [assign_Tuple]
  apply wpAny_bind; apply wpAny_standAt
  apply unpack_two (I.ok.hd hc) pl.isList hn hst
  intro h' kp
  exact h pins _ σ H [x, y] _ Q (I.kept (t' := s.toks) kp) (.cons rb (.cons rc .nil)) hw
end
end L2
end

section
set_option Elab.async false
set_option linter.all false
set_option maxRecDepth 100000
set_option maxHeartbeats 5000000
namespace L2
open PySem PySem.Spec PyProof.Rows Ex
/-! ## a op b op c op d, as a test -/
def tChain3 (r r' r'' : R2) (ta tb tc td : TE) : TT := fun σ H Q => ta σ H fun x H1 => tb σ H1 fun y H2 => r x y H2 fun z H3 => ∃ k, z = .bl k ∧ (if k = true then tc σ H3 fun u H4 => r' y u H4 fun z H5 => ∃ k, z = .bl k ∧ (if k = true then td σ H5 fun v H6 => r'' u v H6 fun z H7 => ∃ k, z = .bl k ∧ Q k H7 else Q false H5) else Q false H3)
section
variable {X : Cx} {a b c d : Expr} {ta tb tc td : TE} {pos : Pos}
theorem pt_chain3 {op op' op'' : CmpOp} {r r' r'' : R2} (ho : OpR X (compareOp op) r) (ho' : OpR X (compareOp op') r') (ho'' : OpR X (compareOp op'') r'') (ha : PE X a ta) (hb : PE X b tb) (hc : PE X c tc) (hd : PE X d td) (hm : lastMarks [op, op', op''] [b, c, d] = false := by with_unfolding_all rfl) :
    PT X (.Compare a [op, op', op''] [b, c, d] pos) (tChain3 r r' r'' ta tb tc td) := by
  intro pins s σ H Q I h
  apply isTrue_chain _ hm
  apply thn (ha pins s σ H _ I h)
  rintro v s1 ⟨x, H1, I1, r1, q1⟩
  apply test_link
  apply thn (hb pins s1 σ H1 _ I1 q1)
  rintro u s2 ⟨y, H2, I2, r2, q2⟩
  apply thn (ho pins s2 σ H2 x y v u _ I2 r1 r2 q2)
  rintro e s3 ⟨z, H3, I3, r3, k, rfl, q3⟩
  cases r3
  apply wpAny_truthy_bool
  cases k with
  | false => exact ite_ff ⟨H3, I3, q3⟩
  | true =>
    refine ite_tt (test_link (thn (hc pins s3 σ H3 _ I3 q3) ?_))
    rintro u' s4 ⟨y', H4, I4, r4, q4⟩
    apply thn (ho' pins s4 σ H4 y y' u u' _ I4 r2 r4 q4)
    rintro e s5 ⟨z, H5, I5, r5, k, rfl, q5⟩
    cases r5
    apply wpAny_truthy_bool
    cases k with
    | false => exact ite_ff ⟨H5, I5, q5⟩
    | true =>
      refine ite_tt (test_last (thn (hd pins s5 σ H5 _ I5 q5) ?_))
      rintro u'' s6 ⟨y'', H6, I6, r6, q6⟩
      apply thn (ho'' pins s6 σ H6 y' y'' u' u'' _ I6 r4 r6 q6)
      rintro e s7 ⟨z, H7, I7, r7, k, rfl, q7⟩
      cases r7
      exact wpAny_truthy_bool ⟨H7, I7, q7⟩
end
end L2
end

section
set_option Elab.async false
set_option linter.all false
set_option maxRecDepth 100000
set_option maxHeartbeats 5000000
namespace Dv
open PySem L2 Ex
/-- the module's own objects -/
class KC where
  K : PySem.W.Frag
variable [KC]

/-- plain values -/
inductive D where
  | non | bl (b : Bool) | int (i : Int) | str (x : Str)
  | lst (xs : List D) | tup (xs : List D) | dic (ks vs : List D) | scr (ns : List Int) | ins (C : Addr) (ns : List Str) (vs : List D)

mutual
/-- a value stands for data, on a part of the abstract heap -/
inductive Rp (R : Hp) : V → D → Prop
  | non : Rp R .non .non
  | bl (b : Bool) : Rp R (.bl b) (.bl b)
  | int (i : Int) : Rp R (.int i) (.int i)
  | str (x : Str) : Rp R (.str x) (.str x)
  | lst {a : Addr} {xs : List V} {ds : List D} : R a = some (.lst xs) → Rps R xs ds → Rp R (.ref a) (.lst ds)
  | tup {a : Addr} {xs : List V} {ds : List D} : R a = some (.tup xs) → Rps R xs ds → Rp R (.ref a) (.tup ds)
  | dnil {a : Addr} : R a = some (.dK []) → Rp R (.ref a) (.dic [] [])
  | scr {a : Addr} {ns : List Int} : SqL KC.K R a (ns.map V.int) → Rp R (.ref a) (.scr ns)
inductive Rps (R : Hp) : List V → List D → Prop
  | nil : Rps R [] []
  | cons {x : V} {d : D} {xs : List V} {ds : List D} : Rp R x d → Rps R xs ds → Rps R (x :: xs) (d :: ds)
end
mutual
theorem Rp.sm {H H' : Hp} (s : Same H H') : ∀ {x : V} {d : D}, Rp H x d → Rp H' x d
  | _, _, .non => .non
  | _, _, .bl b => .bl b
  | _, _, .int i => .int i
  | _, _, .str x => .str x
  | _, _, .lst e h => .lst (s _ _ e) (Rps.sm s h)
  | _, _, .tup e h => .tup (s _ _ e) (Rps.sm s h)
  | _, _, .dnil e => .dnil (s _ _ e)
  | _, _, .scr e => .scr (s.seq e)
theorem Rps.sm {H H' : Hp} (s : Same H H') : ∀ {xs : List V} {ds : List D}, Rps H xs ds → Rps H' xs ds
  | _, _, .nil => .nil
  | _, _, .cons a b => .cons (Rp.sm s a) (Rps.sm s b)
end
section
variable {R : Hp}
theorem Rps.len : ∀ {xs : List V} {ds : List D}, Rps R xs ds → xs.length = ds.length
  | _, _, .nil => rfl
  | _, _, .cons _ h => congrArg Nat.succ (Rps.len h)
theorem Rps.at : ∀ {xs : List V} {ds : List D} {i : Nat} {x : V}, Rps R xs ds → xs[i]? = some x → ∃ d, ds[i]? = some d ∧ Rp R x d
  | _, _, _, _, .nil, e => by simp at e
  | _, _, 0, _, .cons r _, e => by simp at e; subst e; exact ⟨_, rfl, r⟩
  | _, _, i + 1, x, .cons _ t, e => by
    obtain ⟨u, h1, h2⟩ := Rps.at (i := i) (x := x) t (by simpa using e)
    exact ⟨u, by simpa using h1, h2⟩
theorem Rps.ta {xs : List V} {ds : List D} {i : Nat} {d : D} (h : Rps R xs ds) (e : ds[i]? = some d) : ∃ x, xs[i]? = some x ∧ Rp R x d := by
  have lt : i < xs.length := by rw [h.len]; exact (List.getElem?_eq_some_iff.mp e).1
  obtain ⟨d', e', r⟩ := h.at (List.getElem?_eq_getElem lt)
  rw [e] at e'; cases e'
  exact ⟨_, List.getElem?_eq_getElem lt, r⟩
theorem Rps.app : ∀ {xs ys : List V} {ds es : List D}, Rps R xs ds → Rps R ys es → Rps R (xs ++ ys) (ds ++ es)
  | _, _, _, _, .nil, h => h
  | _, _, _, _, .cons a b, h => .cons a (Rps.app b h)
theorem Rps.take : ∀ {xs : List V} {ds : List D} (n : Nat), Rps R xs ds → Rps R (xs.take n) (ds.take n)
  | _, _, 0, _ => .nil
  | _, _, _ + 1, .nil => .nil
  | _, _, n + 1, .cons a b => .cons a (Rps.take n b)
theorem Rps.drop : ∀ {xs : List V} {ds : List D} (n : Nat), Rps R xs ds → Rps R (xs.drop n) (ds.drop n)
  | _, _, 0, h => h
  | _, _, _ + 1, .nil => .nil
  | _, _, n + 1, .cons _ b => Rps.drop n b
theorem Rps.set {x : V} {d : D} (r : Rp R x d) : ∀ {xs : List V} {ds : List D} (n : Nat), Rps R xs ds → Rps R (xs.set n x) (ds.set n d)
  | _, _, _, .nil => .nil
  | _, _, 0, .cons _ b => .cons r b
  | _, _, n + 1, .cons a b => .cons a (Rps.set r n b)
theorem Rps.ints : ∀ ns : List Int, Rps R (ns.map V.int) (ns.map D.int)
  | [] => .nil
  | n :: r => .cons (.int n) (Rps.ints r)
theorem Rps.ints_inv : ∀ {ns : List Int} {xs : List V}, Rps R xs (ns.map D.int) → xs = ns.map V.int
  | [], _, .nil => rfl
  | _ :: _, _, .cons (.int _) b => by rw [Rps.ints_inv b]; rfl
theorem Rps.bls_inv : ∀ {ns : List Bool} {xs : List V}, Rps R xs (ns.map D.bl) → xs = ns.map V.bl
  | [], _, .nil => rfl
  | _ :: _, _, .cons (.bl _) b => by rw [Rps.bls_inv b]; rfl
theorem Rps.pick {xs : List V} {ds : List D} (h : Rps R xs ds) : ∀ ps : List Nat, Rps R (ps.filterMap (xs[·]?)) (ps.filterMap (ds[·]?))
  | [] => .nil
  | p :: r => by
    rw [List.filterMap_cons, List.filterMap_cons]
    cases e : xs[p]? with
    | none =>
      have : ds[p]? = none := by rw [List.getElem?_eq_none_iff] at e ⊢; rw [← h.len]; exact e
      rw [this]; exact h.pick r
    | some x =>
      obtain ⟨d, e2, q⟩ := h.at e
      rw [e2]; exact .cons q (h.pick r)
end

/-! slots: frozen, own (its list is the name's alone), or one of the arguments that are changed in place -/
inductive Kd where
  | frz | own | io (k : Nat)
  deriving DecidableEq
abbrev Sl := Option (Kd × D)
abbrev En := List Sl
/-- what an expression hands on: a value; a new list; the name of a list -/
inductive RV where
  | val (d : D) | new (d : D) | var (i : Nat)

def OwR (R H : Hp) (v : V) (d : D) : Prop := ∃ a xs ds, v = .ref a ∧ R a = none ∧ H a = some (.lst xs) ∧ d = .lst ds ∧ Rps R xs ds
def SlR (ios : List Addr) (R H : Hp) (v : V) : Kd × D → Prop
  | (.frz, d) => Rp R v d
  | (.own, d) => OwR R H v d
  | (.io k, d) => OwR R H v d ∧ ∃ a, ios[k]? = some a ∧ v = .ref a
def owned : Kd → Bool
  | .frz => false
  | _ => true
/-- the addresses of the lists that are changed in place -/
def Ow (σ : St) (Γ : En) (b : Addr) : Prop := ∃ (i : Nat) (k : Kd) (d : D), Γ[i]? = some (some (k, d)) ∧ owned k = true ∧ σ[i]? = some (some (.ref b))
structure ER (ios : List Addr) (R H : Hp) (σ : St) (Γ : En) : Prop where
  sub : Same R H
  len : σ.length = Γ.length
  sl : ∀ (i : Nat) (s : Kd × D), Γ[i]? = some (some s) → ∃ v, σ[i]? = some (some v) ∧ SlR ios R H v s
  dj : ∀ (i j : Nat) (k l : Kd) (d e : D) (b : Addr), Γ[i]? = some (some (k, d)) → owned k = true → Γ[j]? = some (some (l, e)) → owned l = true → σ[i]? = some (some (.ref b)) → σ[j]? = some (some (.ref b)) → i = j
/-- from one state to a later one -/
structure Go (O : Addr → Prop) (R H : Hp) (O' : Addr → Prop) (R' H' : Hp) : Prop where
  rr : Same R R'
  hh : ∀ b o, H b = some o → ¬ O b → H' b = some o
  no : ∀ b o, H b = some o → ¬ O b → R b = none → R' b = none
  oo : ∀ b, O' b → O b ∨ H b = none
  th : ∀ b o, H b = some o → ∃ o', H' b = some o'
theorem Go.refl {O : Addr → Prop} {R H : Hp} : Go O R H O R H := ⟨Same.refl _, fun _ _ h _ => h, fun _ _ _ _ h => h, fun _ h => .inl h, fun _ o h => ⟨o, h⟩⟩
theorem Go.trans {O O1 O2 : Addr → Prop} {R H R1 H1 R2 H2 : Hp} (g : Go O R H O1 R1 H1) (k : Go O1 R1 H1 O2 R2 H2) : Go O R H O2 R2 H2 := by
  have nO : ∀ b o, H b = some o → ¬ O b → ¬ O1 b := fun b o h n z => (g.oo b z).elim n fun q => by rw [h] at q; cases q
  refine ⟨g.rr.trans k.rr, fun b o h n => k.hh b o (g.hh b o h n) (nO b o h n), fun b o h n r => k.no b o (g.hh b o h n) (nO b o h n) (g.no b o h n r), fun b z => ?_, fun b o h => let ⟨o1, h1⟩ := g.th b o h; k.th b o1 h1⟩
  rcases k.oo b z with q | q
  · exact g.oo b q
  · by_cases hO : O b
    · exact .inl hO
    · cases e : H b with
      | none => exact .inr rfl
      | some o => rw [g.hh b o e hO] at q; cases q
end Dv
end

section
set_option Elab.async false
set_option linter.all false
set_option maxRecDepth 100000
set_option maxHeartbeats 5000000
namespace Dv
open PySem L2 Ex
variable [KC]
/-- an exception: its class, its values -/
structure Xc where
  C : Addr
  fs : List (Str × D)
inductive Res (α : Type) where
  | ok (a : α) (Γ : En) | ex (x : Xc) (Γ : En) | st
abbrev M (α : Type) := En → Res α
def M.pure {α : Type} (a : α) : M α := fun Γ => .ok a Γ
def M.bind {α β : Type} (f : M α) (g : α → M β) : M β := fun Γ => match f Γ with
  | .ok a Γ' => g a Γ'
  | .ex x Γ' => .ex x Γ'
  | .st => .st
def M.st {α : Type} : M α := fun _ => .st
def M.ofO {α : Type} : Option α → M α
  | some a => M.pure a
  | none => M.st
def wpM {α : Type} (r : Res α) (K : α → En → Prop) (E : Xc → En → Prop) : Prop := match r with
  | .ok a Γ => K a Γ
  | .ex x Γ => E x Γ
  | .st => False
theorem wpM_bind {α β : Type} {f : M α} {g : α → M β} {Γ : En} {K : β → En → Prop} {E : Xc → En → Prop} : wpM (M.bind f g Γ) K E = wpM (f Γ) (fun a Γ' => wpM (g a Γ') K E) E := by
  unfold M.bind wpM
  cases f Γ <;> rfl
theorem wpM_mono {α : Type} {r : Res α} {K K' : α → En → Prop} {E E' : Xc → En → Prop} (h : wpM r K E) (hK : ∀ a Γ, K a Γ → K' a Γ) (hE : ∀ x Γ, E x Γ → E' x Γ) : wpM r K' E' := by
  cases r with
  | ok a Γ => exact hK _ _ h
  | ex x Γ => exact hE _ _ h
  | st => exact h
theorem wpM_ofO {α : Type} {o : Option α} {Γ : En} {K : α → En → Prop} {E : Xc → En → Prop} (h : wpM (M.ofO o Γ) K E) : ∃ a, o = some a ∧ K a Γ := by
  cases o with
  | none => exact False.elim h
  | some a => exact ⟨a, rfl, h⟩

/-- nothing is changed, things are laid -/
structure Al (R H R' H' : Hp) : Prop where
  sub : Same R' H'
  rr : Same R R'
  hh : Same H H'
  no : ∀ b o, H b = some o → R b = none → R' b = none
theorem Al.refl {R H : Hp} (s : Same R H) : Al R H R H := ⟨s, Same.refl _, Same.refl _, fun _ _ _ h => h⟩
theorem Al.go {O : Addr → Prop} {R H R' H' : Hp} (a : Al R H R' H') : Go O R H O R' H' := ⟨a.rr, fun b o h _ => a.hh b o h, fun b o h _ r => a.no b o h r, fun _ h => .inl h, fun b o h => ⟨o, a.hh b o h⟩⟩
theorem ER.ow {ios : List Addr} {R H : Hp} {σ : St} {Γ : En} (e : ER ios R H σ Γ) {b : Addr} (o : Ow σ Γ b) : R b = none ∧ ∃ xs, H b = some (.lst xs) := by
  obtain ⟨i, k, d, h1, h2, h3⟩ := o
  obtain ⟨v, hv, s⟩ := e.sl i _ h1
  rw [h3] at hv
  cases hv
  cases k with
  | frz => cases h2
  | own => obtain ⟨a, xs, ds, e1, e2, e3, _⟩ := s; cases e1; exact ⟨e2, xs, e3⟩
  | io n => obtain ⟨⟨a, xs, ds, e1, e2, e3, _⟩, _⟩ := s; cases e1; exact ⟨e2, xs, e3⟩
theorem OwR.mono {R H R' H' : Hp} {v : V} {d : D} (h : OwR R H v d) (rr : Same R R') (k : ∀ a xs, v = .ref a → H a = some (.lst xs) → R a = none → H' a = some (.lst xs) ∧ R' a = none) : OwR R' H' v d := by
  obtain ⟨a, xs, ds, rfl, h1, h2, rfl, h3⟩ := h
  obtain ⟨k1, k2⟩ := k a xs rfl h2 h1
  exact ⟨a, xs, ds, rfl, k2, k1, rfl, h3.sm rr⟩
theorem SlR.mono {ios : List Addr} {R H R' H' : Hp} {v : V} {s : Kd × D} (h : SlR ios R H v s) (rr : Same R R') (k : owned s.1 = true → ∀ a xs, v = .ref a → H a = some (.lst xs) → R a = none → H' a = some (.lst xs) ∧ R' a = none) : SlR ios R' H' v s := by
  obtain ⟨kd, d⟩ := s
  cases kd with
  | frz => exact Rp.sm rr h
  | own => exact OwR.mono h rr (k rfl)
  | io n => exact ⟨OwR.mono h.1 rr (k rfl), h.2⟩
theorem ER.al {ios : List Addr} {R H R' H' : Hp} {σ : St} {Γ : En} (e : ER ios R H σ Γ) (a : Al R H R' H') : ER ios R' H' σ Γ where
  sub := a.sub
  len := e.len
  sl := fun i s h => let ⟨v, hv, q⟩ := e.sl i s h; ⟨v, hv, q.mono a.rr fun _ b xs _ h1 h2 => ⟨a.hh _ _ h1, a.no _ _ h1 h2⟩⟩
  dj := e.dj
/-- the end of an expression -/
structure EPo (ios : List Addr) (R H : Hp) (σ : St) (Γ : En) (R' H' : Hp) (Γ' : En) : Prop where
  er : ER ios R' H' σ Γ'
  go : Go (Ow σ Γ) R H (Ow σ Γ') R' H'
  sh : ∀ b, Ow σ Γ' b → Ow σ Γ b
section
variable {ios : List Addr} {R H R1 H1 R2 H2 : Hp} {σ : St} {Γ Γ1 Γ2 : En}
theorem EPo.refl (e : ER ios R H σ Γ) : EPo ios R H σ Γ R H Γ := ⟨e, Go.refl, fun _ h => h⟩
theorem EPo.trans (a : EPo ios R H σ Γ R1 H1 Γ1) (b : EPo ios R1 H1 σ Γ1 R2 H2 Γ2) : EPo ios R H σ Γ R2 H2 Γ2 := ⟨b.er, a.go.trans b.go, fun c h => a.sh c (b.sh c h)⟩
theorem EPo.al (a : EPo ios R H σ Γ R1 H1 Γ1) (b : Al R1 H1 R2 H2) : EPo ios R H σ Γ R2 H2 Γ1 := ⟨a.er.al b, a.go.trans b.go, a.sh⟩
/-- how a result stands; H is the heap at the start -/
def RvR (R H H' : Hp) (σ : St) (x : V) : RV → Prop
  | .val d => Rp R x d
  | .new d => OwR R H' x d ∧ ∃ a, x = .ref a ∧ H a = none
  | .var i => σ[i]? = some (some x)
theorem RvR.go {rv : RV} {x : V} (e : ER ios R H σ Γ) (a : EPo ios R H σ Γ R1 H1 Γ1) (h : RvR R1 H H1 σ x rv) (b : Go (Ow σ Γ1) R1 H1 (Ow σ Γ2) R2 H2) : RvR R2 H H2 σ x rv := by
  cases rv with
  | val d => exact Rp.sm b.rr h
  | var i => exact h
  | new d =>
    obtain ⟨h1, p, hp, hn⟩ := h
    refine ⟨h1.mono b.rr fun q xs e1 e2 e3 => ?_, p, hp, hn⟩
    have : ¬ Ow σ Γ1 q := fun z => by
      have hq : q = p := by rw [hp] at e1; exact (V.ref.inj e1).symm
      obtain ⟨_, xs, e4⟩ := e.ow (a.sh q z)
      rw [hq, hn] at e4; cases e4
    exact ⟨b.hh _ _ e2 this, b.no _ _ e2 this e3⟩
/-- what is looked at -/
def Pk (R H : Hp) (x : V) (d : D) : Prop := Rp R x d ∨ ∃ a xs ds, x = .ref a ∧ H a = some (.lst xs) ∧ d = .lst ds ∧ Rps R xs ds
theorem Pk.lst {ds : List D} {x : V} (s : Same R H) (h : Pk R H x (.lst ds)) : ∃ a xs, x = .ref a ∧ H a = some (.lst xs) ∧ Rps R xs ds := by
  rcases h with h | ⟨a, xs, ds', rfl, h1, h2, h3⟩
  · cases h with | lst e q => exact ⟨_, _, rfl, s _ _ e, q⟩
  · cases h2; exact ⟨a, xs, rfl, h1, h3⟩
theorem Pk.hv {d : D} {x : V} (s : Same R H) (h : Pk R H x d) : Rp H x d := by
  rcases h with h | ⟨a, xs, ds', rfl, h1, rfl, h3⟩
  · exact h.sm s
  · exact .lst h1 (h3.sm s)
theorem Pk.int {i : Int} {x : V} (h : Pk R H x (.int i)) : x = .int i := by
  rcases h with h | ⟨a, xs, ds', rfl, h1, h2, h3⟩
  · cases h; rfl
  · cases h2
theorem Pk.str {i : Str} {x : V} (h : Pk R H x (.str i)) : x = .str i := by
  rcases h with h | ⟨a, xs, ds', rfl, h1, h2, h3⟩
  · cases h; rfl
  · cases h2
theorem Pk.tup {ds : List D} {x : V} (h : Pk R H x (.tup ds)) : ∃ a xs, x = .ref a ∧ R a = some (.tup xs) ∧ Rps R xs ds := by
  rcases h with h | ⟨a, xs, ds', rfl, h1, h2, h3⟩
  · cases h with | tup e q => exact ⟨_, _, rfl, e, q⟩
  · cases h2
end
def peek : RV → M D
  | .val d => M.pure d
  | .new d => M.pure d
  | .var i => fun Γ => match Γ[i]? with
    | some (some (_, d)) => .ok d Γ
    | _ => .st
def mat : RV → M D
  | .val d => M.pure d
  | .new d => M.pure d
  | .var i => fun Γ => match Γ[i]? with
    | some (some (_, d)) => .ok d (Γ.set i (some (.frz, d)))
    | _ => .st
section
variable {ios : List Addr} {R H R1 H1 R2 H2 : Hp} {σ : St} {Γ Γ1 Γ2 : En}
theorem SlR.pk {v : V} {s : Kd × D} (h : SlR ios R H v s) : Pk R H v s.2 := by
  obtain ⟨kd, d⟩ := s
  cases kd with
  | frz => exact .inl h
  | own => obtain ⟨a, xs, ds, h1, _, h2, h3, h4⟩ := h; exact .inr ⟨a, xs, ds, h1, h2, h3, h4⟩
  | io n => obtain ⟨⟨a, xs, ds, h1, _, h2, h3, h4⟩, _⟩ := h; exact .inr ⟨a, xs, ds, h1, h2, h3, h4⟩
theorem peek_ok {rv : RV} {x : V} {K : D → En → Prop} {E : Xc → En → Prop} (e : ER ios R1 H1 σ Γ1) (h : RvR R1 H H1 σ x rv) (k : wpM (peek rv Γ1) K E) : ∃ d, Pk R1 H1 x d ∧ K d Γ1 := by
  cases rv with
  | val d => exact ⟨d, .inl h, k⟩
  | new d =>
    obtain ⟨⟨a, xs, ds, h1, _, h2, h3, h4⟩, _⟩ := h
    exact ⟨d, .inr ⟨a, xs, ds, h1, h2, h3, h4⟩, k⟩
  | var i =>
    unfold peek at k
    dsimp only at k
    split at k
    · rename_i q
      obtain ⟨v, hv, s⟩ := e.sl i _ q
      have h : σ[i]? = some (some x) := h
      rw [h] at hv
      cases hv
      exact ⟨_, s.pk, k⟩
    · exact False.elim k
/-- a part more that stays -/
def ext (R H : Hp) (a : Addr) : Hp := fun b => if b = a then H a else R b
theorem ext_same {R H : Hp} {a : Addr} (h : R a = none) : Same R (ext R H a) := fun b o e => by
  unfold ext
  split
  · rename_i z; rw [z, h] at e; cases e
  · exact e
theorem ext_at {R H : Hp} {a : Addr} : ext R H a a = H a := by unfold ext; rw [if_pos rfl]
theorem ext_ne {R H : Hp} {a b : Addr} (h : b ≠ a) : ext R H a b = R b := by unfold ext; rw [if_neg h]
theorem ext_sub {R H : Hp} {a : Addr} (s : Same R H) : Same (ext R H a) H := fun b o e => by
  unfold ext at e
  split at e
  · rename_i z; rw [z]; exact e
  · exact s b o e
theorem ow_set {i : Nat} {d : D} {b : Addr} (h : Ow σ (Γ.set i (some (.frz, d))) b) : Ow σ Γ b ∧ ¬ (σ[i]? = some (some (.ref b)) ∧ ∀ j k d, Γ[j]? = some (some (k, d)) → owned k = true → σ[j]? = some (some (.ref b)) → j = i) := by
  obtain ⟨j, k, e, h1, h2, h3⟩ := h
  by_cases hj : j = i
  · subst hj
    by_cases hl : j < Γ.length
    · rw [List.getElem?_set_self hl] at h1; cases h1; cases h2
    · rw [List.getElem?_eq_none (by rw [List.length_set]; omega)] at h1; cases h1
  · rw [List.getElem?_set_ne (Ne.symm hj)] at h1
    exact ⟨⟨j, k, e, h1, h2, h3⟩, fun ⟨_, z⟩ => hj (z j k e h1 h2 h3)⟩
/-- a name's list stays as it is from here on -/
theorem ER.freeze {i : Nat} {k : Kd} {d : D} {x : V} (e : ER ios R H σ Γ) (hi : Γ[i]? = some (some (k, d))) (hx : σ[i]? = some (some x)) : ∃ R', EPo ios R H σ Γ R' H (Γ.set i (some (.frz, d))) ∧ Rp R' x d := by
  obtain ⟨v, hv, s⟩ := e.sl i _ hi
  rw [hx] at hv
  cases hv
  have hlt : i < Γ.length := (List.getElem?_eq_some_iff.mp hi).1
  by_cases hk : owned k = true
  · obtain ⟨a, xs, ds, rfl, h1, h2, rfl, h3⟩ : OwR R H x d := by
      cases k with
      | frz => cases hk
      | own => exact s
      | io n => exact s.1
    have inj : ∀ j l z, Γ[j]? = some (some (l, z)) → owned l = true → σ[j]? = some (some (.ref a)) → j = i := fun j l z q1 q2 q3 => (e.dj i j k l _ z a hi hk q1 q2 hx q3).symm
    have rr : Same R (ext R H a) := ext_same h1
    refine ⟨ext R H a, ⟨⟨ext_sub e.sub, by rw [List.length_set]; exact e.len, fun j t hj => ?_, fun j j' l l' z z' b q1 q2 q3 q4 q5 q6 => ?_⟩, ⟨rr, fun _ _ h _ => h, fun b o hb nb rb => ?_, fun b z => .inl (ow_set z).1, fun b o h => ⟨o, h⟩⟩, fun b z => (ow_set z).1⟩, .lst (by rw [ext_at]; exact h2) (h3.sm rr)⟩
    · by_cases hji : j = i
      · subst hji
        rw [List.getElem?_set_self hlt] at hj
        cases hj
        exact ⟨_, hx, .lst (by rw [ext_at]; exact h2) (h3.sm rr)⟩
      · rw [List.getElem?_set_ne (Ne.symm hji)] at hj
        obtain ⟨v, hv, q⟩ := e.sl j t hj
        refine ⟨v, hv, q.mono rr fun ho b ys eb hb rb => ⟨hb, ?_⟩⟩
        rw [ext_ne]
        · exact rb
        · rintro rfl
          subst eb
          exact hji (inj j t.1 t.2 hj ho hv)
    · have g1 : Γ[j]? = some (some (l, z)) := by
        by_cases hji : j = i
        · subst hji; rw [List.getElem?_set_self hlt] at q1; cases q1; cases q2
        · rwa [List.getElem?_set_ne (Ne.symm hji)] at q1
      have g2 : Γ[j']? = some (some (l', z')) := by
        by_cases hji : j' = i
        · subst hji; rw [List.getElem?_set_self hlt] at q3; cases q3; cases q4
        · rwa [List.getElem?_set_ne (Ne.symm hji)] at q3
      exact e.dj j j' l l' z z' b g1 q2 g2 q4 q5 q6
    · rw [ext_ne]
      · exact rb
      · rintro rfl
        exact nb ⟨i, k, _, hi, hk, hx⟩
  · have hk : k = .frz := by cases k <;> first | rfl | exact absurd rfl hk
    subst hk
    have : Γ.set i (some (.frz, d)) = Γ := by
      apply List.ext_getElem?
      intro j
      by_cases hj : j = i
      · subst hj; rw [List.getElem?_set_self hlt, hi]
      · rw [List.getElem?_set_ne (Ne.symm hj)]
    rw [this]
    exact ⟨R, EPo.refl e, s⟩
theorem mat_ok {rv : RV} {x : V} {K : D → En → Prop} {E : Xc → En → Prop} (e : ER ios R H σ Γ) (a : EPo ios R H σ Γ R1 H1 Γ1) (h : RvR R1 H H1 σ x rv) (k : wpM (mat rv Γ1) K E) : ∃ d Γ2 R2, EPo ios R H σ Γ R2 H1 Γ2 ∧ Same R1 R2 ∧ Rp R2 x d ∧ K d Γ2 := by
  cases rv with
  | val d => exact ⟨d, Γ1, R1, a, Same.refl _, h, k⟩
  | new d =>
    obtain ⟨⟨p, xs, ds, rfl, h1, h2, rfl, h3⟩, q, hq, hn⟩ := h
    cases hq
    have rr : Same R1 (ext R1 H1 p) := ext_same h1
    have nO : ¬ Ow σ Γ p := fun z => by obtain ⟨_, xs, e4⟩ := e.ow z; rw [hn] at e4; cases e4
    refine ⟨_, Γ1, ext R1 H1 p, ⟨⟨ext_sub a.er.sub, a.er.len, fun j t hj => ?_, a.er.dj⟩, ⟨a.go.rr.trans rr, a.go.hh, fun b o hb nb rb => ?_, a.go.oo, a.go.th⟩, a.sh⟩, rr, .lst (by rw [ext_at]; exact h2) (h3.sm rr), k⟩
    · obtain ⟨v, hv, s⟩ := a.er.sl j t hj
      refine ⟨v, hv, s.mono rr fun ho b ys eb hb rb => ⟨hb, ?_⟩⟩
      rw [ext_ne]
      · exact rb
      · rintro rfl
        subst eb
        exact nO (a.sh _ ⟨j, t.1, t.2, hj, ho, hv⟩)
    · rw [ext_ne]
      · exact a.go.no b o hb nb rb
      · rintro rfl
        rw [hn] at hb; cases hb
  | var i =>
    unfold mat at k
    dsimp only at k
    split at k
    · rename_i q
      obtain ⟨R', f, r⟩ := a.er.freeze q h
      exact ⟨_, _, R', a.trans f, f.go.rr, r, k⟩
    · exact False.elim k
end
end Dv
end

section
set_option Elab.async false
set_option linter.all false
set_option maxRecDepth 100000
set_option maxHeartbeats 5000000
namespace Dv
open PySem L2 Ex
variable [KC]
/-- an exception that flies: its object, its values -/
def XcR (R H : Hp) (e : Addr) (x : Xc) : Prop := R e = none ∧ ((x.fs = [] ∧ H e = some (ExO x.C e none false)) ∨
  ∃ d fs, H e = some (ExO x.C e (some d) false) ∧ H d = some (ExD d fs) ∧ R d = none ∧ fs.map (·.1) = x.fs.map (·.1) ∧ Rps R (fs.map (·.2)) (x.fs.map (·.2)))
def EXP (EE : XKS) (ios : List Addr) (R H : Hp) (σ : St) (Γ : En) : Xc → En → Prop := fun x Γ' => ∀ e H' R', EPo ios R H σ Γ R' H' Γ' → XcR R' H' e x → EE σ (.ref x.C) (some e) H'
theorem EXP.trans {EE : XKS} {ios : List Addr} {R H R1 H1 : Hp} {σ : St} {Γ Γ1 : En} (a : EPo ios R H σ Γ R1 H1 Γ1) {x : Xc} {Γ' : En} (h : EXP EE ios R H σ Γ x Γ') : EXP EE ios R1 H1 σ Γ1 x Γ' := fun e H' R' b q => h e H' R' (a.trans b) q
def RdE (EE : XKS) (ios : List Addr) (t : TE) (f : M RV) : Prop := ∀ σ H R Γ Q, ER ios R H σ Γ →
  wpM (f Γ) (fun rv Γ' => ∀ x H' R', EPo ios R H σ Γ R' H' Γ' → RvR R' H H' σ x rv → Q x H') (EXP EE ios R H σ Γ) → t σ H Q
def RdT (EE : XKS) (ios : List Addr) (t : TT) (f : M Bool) : Prop := ∀ σ H R Γ Q, ER ios R H σ Γ →
  wpM (f Γ) (fun b Γ' => ∀ H' R', EPo ios R H σ Γ R' H' Γ' → Q b H') (EXP EE ios R H σ Γ) → t σ H Q
def VE (X : Cx) (EE : XKS) (ios : List Addr) (e : Expr) (f : M RV) : Prop := ∃ t, PE X e t ∧ RdE EE ios t f
def VT (X : Cx) (EE : XKS) (ios : List Addr) (e : Expr) (f : M Bool) : Prop := ∃ t, PT X e t ∧ RdT EE ios t f
def VW (X : Cx) (EE : XKS) (ios : List Addr) (e : Expr) (f : M Bool) : Prop := ∃ t, PW X e t ∧ RdT EE ios t f
/-- arguments: values, and names of lists -/
def ArR (R : Hp) (σ : St) (x : V) : RV → Prop
  | .val d => Rp R x d
  | .new _ => False
  | .var i => σ[i]? = some (some x)
inductive ArsR (R : Hp) (σ : St) : List V → List RV → Prop where
  | nil : ArsR R σ [] []
  | cons {x : V} {rv : RV} {xs : List V} {rvs : List RV} : ArR R σ x rv → ArsR R σ xs rvs → ArsR R σ (x :: xs) (rv :: rvs)
theorem ArR.sm {R R' : Hp} {σ : St} (s : Same R R') {x : V} {rv : RV} (h : ArR R σ x rv) : ArR R' σ x rv := by
  cases rv with
  | val d => exact Rp.sm s h
  | new d => exact h
  | var i => exact h
theorem ArsR.sm {R R' : Hp} {σ : St} (s : Same R R') : ∀ {xs : List V} {rvs : List RV}, ArsR R σ xs rvs → ArsR R' σ xs rvs
  | _, _, .nil => .nil
  | _, _, .cons a b => .cons (a.sm s) (b.sm s)
theorem ArR.rv {R H H' : Hp} {σ : St} {x : V} {rv : RV} (h : ArR R σ x rv) : RvR R H H' σ x rv := by
  cases rv with
  | val d => exact h
  | new d => exact h.elim
  | var i => exact h
def RdA (EE : XKS) (ios : List Addr) (t : TA) (f : M (List RV)) : Prop := ∀ σ H R Γ Q, ER ios R H σ Γ →
  wpM (f Γ) (fun rvs Γ' => ∀ xs H' R', EPo ios R H σ Γ R' H' Γ' → ArsR R' σ xs rvs → Q xs H') (EXP EE ios R H σ Γ) → t σ H Q
def VA (X : Cx) (EE : XKS) (ios : List Addr) (es : List Expr) (f : M (List RV)) : Prop := ∃ t, PA X es t ∧ RdA EE ios t f

section
variable {X : Cx} {EE : XKS} {ios : List Addr} {e a b c : Expr} {f g k : M RV} {pos : Pos}
def vName (i : Nat) : M RV := fun Γ => match Γ[i]? with
  | some (some (.frz, d)) => .ok (.val d) Γ
  | some (some _) => .ok (.var i) Γ
  | _ => .st
theorem ve_name {i : Nat} (h : PE X e (tVar i)) : VE X EE ios e (vName i) := by
  refine ⟨_, h, fun σ H R Γ Q er w => ?_⟩
  unfold vName at w
  split at w
  · rename_i q
    obtain ⟨v, hv, s⟩ := er.sl i _ q
    exact ⟨v, hv, w v H R (EPo.refl er) s⟩
  · rename_i q
    obtain ⟨v, hv, s⟩ := er.sl i _ q
    exact ⟨v, hv, w v H R (EPo.refl er) hv⟩
  · exact False.elim w
theorem ve_cst {v : V} {d : D} (h : PE X e (tC v)) (r : ∀ R, Rp R v d) : VE X EE ios e (M.pure (.val d)) :=
  ⟨_, h, fun σ H R Γ Q er w => w v H R (EPo.refl er) (r R)⟩
theorem ve_int {i : Int} {j : Nat} : VE X EE ios (.Constant (.int i) j pos) (M.pure (.val (.int i))) := ve_cst pe_int fun _ => .int i
theorem ve_bl {i : Bool} {j : Nat} : VE X EE ios (.Constant (.bool i) j pos) (M.pure (.val (.bl i))) := ve_cst pe_bl fun _ => .bl i
theorem ve_non {j : Nat} : VE X EE ios (.Constant .none j pos) (M.pure (.val .non)) := ve_cst pe_non fun _ => .non
theorem ve_str {i : Str} {j : Nat} : VE X EE ios (.Constant (.str i) j pos) (M.pure (.val (.str i))) := ve_cst pe_str fun _ => .str i
/-- how a result of plain work stands -/
def RvA (R H H' : Hp) (z : V) : RV → Prop
  | .val d => Rp R z d
  | .new d => OwR R H' z d ∧ ∃ a, z = .ref a ∧ H a = none
  | .var _ => False
theorem RvA.rv {R H0 H H' : Hp} {σ : St} {z : V} {rv : RV} (h : RvA R H H' z rv) (s : ∀ b, H b = none → H0 b = none) : RvR R H0 H' σ z rv := by
  cases rv with
  | val d => exact h
  | new d => obtain ⟨h1, a, h2, h3⟩ := h; exact ⟨h1, a, h2, s _ h3⟩
  | var i => exact h.elim
theorem EPo.back {R H R' H' : Hp} {σ : St} {Γ Γ' : En} (er : ER ios R H σ Γ) (h : EPo ios R H σ Γ R' H' Γ') : ∀ b, H' b = none → H b = none := fun b hb => by
  cases q : H b with
  | none => rfl
  | some o =>
    obtain ⟨o', z⟩ := h.go.th b o q
    rw [hb] at z; cases z
end
end Dv
end

section
set_option Elab.async false
set_option linter.all false
set_option maxRecDepth 100000
set_option maxHeartbeats 5000000
namespace Dv
open PySem L2 Ex
variable [KC]
section
variable {X : Cx} {EE : XKS} {ios : List Addr} {e a b c : Expr} {f g k : M RV} {pos : Pos} {ta tb tc t : TE} {r r' : R2}
/-! two operands -/
def OpV (r : R2) (g : D → D → Option RV) : Prop := ∀ R H x y d e rv (Q : VK), Same R H → Pk R H x d → Pk R H y e → g d e = some rv → (∀ z H' R', Al R H R' H' → RvA R' H H' z rv → Q z H') → r x y H Q
def op2 (o : D → D → Option RV) (f g : M RV) : M RV := M.bind f fun x => M.bind g fun y => M.bind (peek x) fun d => M.bind (peek y) fun e => M.ofO (o d e)
theorem rd_op {o : D → D → Option RV} (ho : OpV r o) (ha : RdE EE ios ta f) (hb : RdE EE ios tb g) : RdE EE ios (tOp r ta tb) (op2 o f g) := by
  intro σ H R Γ Q er w
  unfold op2 at w
  rw [wpM_bind] at w
  refine ha σ H R Γ _ er (wpM_mono w (fun rx Γ1 w x H1 R1 p1 hx => ?_) fun _ _ z => z)
  rw [wpM_bind] at w
  refine hb σ H1 R1 Γ1 _ p1.er (wpM_mono w (fun ry Γ2 w y H2 R2 p2 hy => ?_) fun _ _ z => EXP.trans p1 z)
  rw [wpM_bind] at w
  obtain ⟨d, pd, w⟩ := peek_ok p2.er (hx.go er p1 p2.go) w
  rw [wpM_bind] at w
  obtain ⟨e, pe, w⟩ := peek_ok p2.er hy w
  obtain ⟨rv, hg, w⟩ := wpM_ofO w
  exact ho R2 H2 x y d e rv Q p2.er.sub pd pe hg fun z H' R' al ra => w z H' R' ((p1.trans p2).al al) (ra.rv ((p1.trans p2).back er))
theorem ve_op {op : Operator} {o : D → D → Option RV} (h : OpR X (binaryOp op) r) (ho : OpV r o) (ha : VE X EE ios a f) (hb : VE X EE ios b g) : VE X EE ios (.BinOp a op b pos) (op2 o f g) :=
  let ⟨_, h1, h2⟩ := ha; let ⟨_, h3, h4⟩ := hb; ⟨_, pe_op h h1 h3, rd_op ho h2 h4⟩
theorem ve_cmp {op : CmpOp} {o : D → D → Option RV} (h : OpR X (compareOp op) r) (ho : OpV r o) (ha : VE X EE ios a f) (hb : VE X EE ios b g) (hm : behindInMarks op b = false) : VE X EE ios (.Compare a [op] [b] pos) (op2 o f g) :=
  let ⟨_, h1, h2⟩ := ha; let ⟨_, h3, h4⟩ := hb; ⟨_, pe_cmpR h h1 h3 hm, rd_op ho h2 h4⟩
def asB (rv : RV) : M Bool := match rv with
  | .val (.bl b) => M.pure b
  | _ => M.st
theorem rd_test (h : RdE EE ios t f) : RdT EE ios (tTest t) (M.bind f asB) := by
  intro σ H R Γ Q er w
  rw [wpM_bind] at w
  refine h σ H R Γ _ er (wpM_mono w (fun rv Γ1 w x H1 R1 p1 hx => ?_) fun _ _ z => z)
  unfold asB at w
  split at w
  · cases hx; exact ⟨_, rfl, w H1 R1 p1⟩
  · exact False.elim w
theorem vt_cmp {op : CmpOp} {o : D → D → Option RV} (h : OpR X (compareOp op) r) (ho : OpV r o) (ha : VE X EE ios a f) (hb : VE X EE ios b g) (hm : behindInMarks op b = false) : VT X EE ios (.Compare a [op] [b] pos) (M.bind (op2 o f g) asB) :=
  let ⟨_, h1, h2⟩ := ha; let ⟨_, h3, h4⟩ := hb; ⟨_, pt_cmpR h h1 h3 hm, rd_test (rd_op ho h2 h4)⟩
theorem vt_val (ha : VE X EE ios e f) (he : ∀ whole, isTrue e X.env whole = (do let v ← whole; standAt e.pos; holding [v] (truthy v)) := by intro _; rfl) : VT X EE ios e (M.bind f asB) :=
  let ⟨_, h1, h2⟩ := ha; ⟨_, pt_val h1 he, rd_test h2⟩
/-! a op b op c -/
def op3 (o o' : D → D → Option RV) (f g k : M RV) : M RV := M.bind f fun x => M.bind g fun y => M.bind (peek x) fun d => M.bind (peek y) fun e => M.bind (M.bind (M.ofO (o d e)) asB) fun q =>
  if q then M.bind k fun z => M.bind (peek y) fun e' => M.bind (peek z) fun u => M.ofO (o' e' u) else M.pure (.val (.bl false))
theorem rd_chain {o o' : D → D → Option RV} (ho : OpV r o) (ho' : OpV r' o') (ha : RdE EE ios ta f) (hb : RdE EE ios tb g) (hc : RdE EE ios tc k) : RdE EE ios (tChain r r' ta tb tc) (op3 o o' f g k) := by
  intro σ H R Γ Q er w
  unfold op3 at w
  rw [wpM_bind] at w
  refine ha σ H R Γ _ er (wpM_mono w (fun rx Γ1 w x H1 R1 p1 hx => ?_) fun _ _ z => z)
  rw [wpM_bind] at w
  refine hb σ H1 R1 Γ1 _ p1.er (wpM_mono w (fun ry Γ2 w y H2 R2 p2 hy => ?_) fun _ _ z => EXP.trans p1 z)
  have p12 := p1.trans p2
  rw [wpM_bind] at w
  obtain ⟨d, pd, w⟩ := peek_ok p2.er (hx.go er p1 p2.go) w
  rw [wpM_bind] at w
  obtain ⟨e, pe, w⟩ := peek_ok p2.er hy w
  rw [wpM_bind, wpM_bind] at w
  obtain ⟨rv, hg, w⟩ := wpM_ofO w
  refine ho R2 H2 x y d e rv _ p2.er.sub pd pe hg fun z H3 R3 al ra => ?_
  unfold asB at w
  split at w
  · rename_i q
    cases ra
    refine ⟨q, rfl, ?_⟩
    have w : wpM ((if q = true then M.bind k fun z => M.bind (peek ry) fun e' => M.bind (peek z) fun u => M.ofO (o' e' u) else M.pure (.val (.bl false))) Γ2) _ _ := w
    cases q with
    | false => exact iteF (w (.bl false) H3 R3 (p12.al al) (.bl false))
    | true =>
      refine iteT ?_
      simp only [if_true] at w
      rw [wpM_bind] at w
      have p13 := p12.al al
      refine hc σ H3 R3 Γ2 _ p13.er (wpM_mono w (fun rz Γ4 w z H4 R4 p4 hz => ?_) fun _ _ z => EXP.trans p13 z)
      rw [wpM_bind] at w
      have hy3 : RvR R3 H1 H3 σ y ry := hy.go p1.er p2 al.go
      obtain ⟨e', pe', w⟩ := peek_ok p4.er (hy3.go p1.er (p2.al al) p4.go) w
      rw [wpM_bind] at w
      obtain ⟨u, pu, w⟩ := peek_ok p4.er hz w
      obtain ⟨rv, hg', w⟩ := wpM_ofO w
      exact ho' R4 H4 y z e' u rv Q p4.er.sub pe' pu hg' fun v H' R' al' ra' => w v H' R' ((p13.trans p4).al al') (ra'.rv ((p13.trans p4).back er))
  · exact False.elim w
theorem ve_chain {op op' : CmpOp} {o o' : D → D → Option RV} (h : OpR X (compareOp op) r) (h' : OpR X (compareOp op') r') (ho : OpV r o) (ho' : OpV r' o') (ha : VE X EE ios a f) (hb : VE X EE ios b g) (hc : VE X EE ios c k)
    (hm : lastMarks [op, op'] [b, c] = false := by with_unfolding_all rfl) : VE X EE ios (.Compare a [op, op'] [b, c] pos) (op3 o o' f g k) :=
  let ⟨_, h1, h2⟩ := ha; let ⟨_, h3, h4⟩ := hb; let ⟨_, h5, h6⟩ := hc; ⟨_, pe_chain h h' h1 h3 h5 hm, rd_chain ho ho' h2 h4 h6⟩
theorem vt_chain {op op' : CmpOp} {o o' : D → D → Option RV} (h : OpR X (compareOp op) r) (h' : OpR X (compareOp op') r') (ho : OpV r o) (ho' : OpV r' o') (ha : VE X EE ios a f) (hb : VE X EE ios b g) (hc : VE X EE ios c k)
    (hm : lastMarks [op, op'] [b, c] = false := by with_unfolding_all rfl) : VT X EE ios (.Compare a [op, op'] [b, c] pos) (M.bind (op3 o o' f g k) asB) :=
  let ⟨_, h1, h2⟩ := ha; let ⟨_, h3, h4⟩ := hb; let ⟨_, h5, h6⟩ := hc; ⟨_, pt_chain h h' h1 h3 h5 hm, rd_test (rd_chain ho ho' h2 h4 h6)⟩
/-! tests -/
variable {p q : M Bool}
def ngM (p : M Bool) : M Bool := M.bind p fun b => M.pure (!b)
def andM (p q : M Bool) : M Bool := M.bind p fun b => if b then q else M.pure false
def orM (p q : M Bool) : M Bool := M.bind p fun b => if b then M.pure true else q
theorem rd_not {t : TT} (h : RdT EE ios t p) : RdT EE ios (tNot t) (ngM p) := by
  intro σ H R Γ Q er w
  unfold ngM at w
  rw [wpM_bind] at w
  exact h σ H R Γ _ er (wpM_mono w (fun b Γ1 w H1 R1 p1 => w H1 R1 p1) fun _ _ z => z)
theorem rd_and {t u : TT} (h : RdT EE ios t p) (h' : RdT EE ios u q) : RdT EE ios (tAnd t u) (andM p q) := by
  intro σ H R Γ Q er w
  unfold andM at w
  rw [wpM_bind] at w
  refine h σ H R Γ _ er (wpM_mono w (fun b Γ1 w H1 R1 p1 => ?_) fun _ _ z => z)
  cases b with
  | false => exact iteF (w H1 R1 p1)
  | true => exact iteT (h' σ H1 R1 Γ1 _ p1.er (wpM_mono w (fun b Γ2 w H2 R2 p2 => w H2 R2 (p1.trans p2)) fun _ _ z => EXP.trans p1 z))
theorem rd_or {t u : TT} (h : RdT EE ios t p) (h' : RdT EE ios u q) : RdT EE ios (tOr t u) (orM p q) := by
  intro σ H R Γ Q er w
  unfold orM at w
  rw [wpM_bind] at w
  refine h σ H R Γ _ er (wpM_mono w (fun b Γ1 w H1 R1 p1 => ?_) fun _ _ z => z)
  cases b with
  | true => exact iteT (w H1 R1 p1)
  | false => exact iteF (h' σ H1 R1 Γ1 _ p1.er (wpM_mono w (fun b Γ2 w H2 R2 p2 => w H2 R2 (p1.trans p2)) fun _ _ z => EXP.trans p1 z))
theorem vt_not (h : VT X EE ios a p) : VT X EE ios (.UnaryOp .Not a pos) (ngM p) := let ⟨_, h1, h2⟩ := h; ⟨_, pt_not h1, rd_not h2⟩
theorem vw_and1 (h : VT X EE ios a p) : VW X EE ios (.BoolOp .And [a] pos) p := let ⟨_, h1, h2⟩ := h; ⟨_, pw_and1 h1, h2⟩
theorem vw_or1 (h : VT X EE ios a p) : VW X EE ios (.BoolOp .Or [a] pos) p := let ⟨_, h1, h2⟩ := h; ⟨_, pw_or1 h1, h2⟩
theorem vw_and {rest : List Expr} (h : VT X EE ios a p) (h' : VW X EE ios (.BoolOp .And (b :: rest) pos) q) : VW X EE ios (.BoolOp .And (a :: b :: rest) pos) (andM p q) := let ⟨_, h1, h2⟩ := h; let ⟨_, h3, h4⟩ := h'; ⟨_, pw_and h1 h3, rd_and h2 h4⟩
theorem vw_or {rest : List Expr} (h : VT X EE ios a p) (h' : VW X EE ios (.BoolOp .Or (b :: rest) pos) q) : VW X EE ios (.BoolOp .Or (a :: b :: rest) pos) (orM p q) := let ⟨_, h1, h2⟩ := h; let ⟨_, h3, h4⟩ := h'; ⟨_, pw_or h1 h3, rd_or h2 h4⟩
theorem vt_bool (h : VW X EE ios a p) : VT X EE ios a p := let ⟨_, h1, h2⟩ := h; ⟨_, PW.pt h1, h2⟩
/-! truths as values -/
def valB (p : M Bool) : M RV := M.bind p fun b => M.pure (.val (.bl b))
def andV (f g : M RV) : M RV := M.bind (M.bind f asB) fun b => if b then g else M.pure (.val (.bl false))
def orV (f g : M RV) : M RV := M.bind (M.bind f asB) fun b => if b then M.pure (.val (.bl true)) else g
theorem rv_later {R0 H0 R H R' H' : Hp} {σ : St} {Γ0 Γ Γ' : En} {x : V} {rv : RV} (er : ER ios R0 H0 σ Γ0) (p1 : EPo ios R0 H0 σ Γ0 R H Γ) (h : RvR R' H H' σ x rv) : RvR R' H0 H' σ x rv := by
  cases rv with
  | val d => exact h
  | new d => obtain ⟨h1, a, h2, h3⟩ := h; exact ⟨h1, a, h2, p1.back er _ h3⟩
  | var i => exact h
theorem ve_one {op : BoolOp} (h : VE X EE ios a f) : VE X EE ios (.BoolOp op [a] pos) f := let ⟨_, h1, h2⟩ := h; ⟨_, pe_one h1, h2⟩
theorem ve_and {rest : List Expr} (h : VE X EE ios a f) (h' : VE X EE ios (.BoolOp .And (b :: rest) pos) g) : VE X EE ios (.BoolOp .And (a :: b :: rest) pos) (andV f g) := by
  obtain ⟨_, h1, h2⟩ := h
  obtain ⟨_, h3, h4⟩ := h'
  refine ⟨_, pe_and h1 h3, fun σ H R Γ Q er w => ?_⟩
  unfold andV at w
  rw [wpM_bind] at w
  refine h2 σ H R Γ _ er (wpM_mono (by rw [wpM_bind] at w; exact w) (fun rv Γ1 w x H1 R1 p1 hx => ?_) fun _ _ z => z)
  unfold asB at w
  split at w
  · rename_i q
    cases hx
    refine ⟨_, rfl, ?_⟩
    cases q with
    | false => exact iteF (w (.bl false) H1 R1 p1 (.bl false))
    | true => exact iteT (h4 σ H1 R1 Γ1 _ p1.er (wpM_mono w (fun rv Γ2 w y H2 R2 p2 hy => w y H2 R2 (p1.trans p2) (rv_later (Γ' := Γ2) er p1 hy)) fun _ _ z => EXP.trans p1 z))
  · exact False.elim w
theorem ve_not (h : VE X EE ios a f) : VE X EE ios (.UnaryOp .Not a pos) (valB (ngM (M.bind f asB))) := by
  obtain ⟨_, h1, h2⟩ := h
  refine ⟨_, pe_not h1, fun σ H R Γ Q er w => ?_⟩
  unfold valB ngM at w
  rw [wpM_bind, wpM_bind, wpM_bind] at w
  refine h2 σ H R Γ _ er (wpM_mono w (fun rv Γ1 w x H1 R1 p1 hx => ?_) fun _ _ z => z)
  unfold asB at w
  split at w
  · cases hx
    exact ⟨_, rfl, w _ H1 R1 p1 (.bl _)⟩
  · exact False.elim w
def iteM (p : M Bool) (f g : M RV) : M RV := M.bind p fun b => if b then f else g
end
end Dv
end

section
set_option Elab.async false
set_option linter.all false
set_option maxRecDepth 100000
set_option maxHeartbeats 5000000
namespace Dv
open PySem L2 Ex
variable [KC]
/-! data as the library has it -/
mutual
def D.py : D → PyData
  | .non => .none
  | .bl b => .bool b
  | .int i => .int i
  | .str x => .str x
  | .lst xs => .list (D.pys xs)
  | .tup xs => .tuple (D.pys xs)
  | .dic _ _ => .dict []
  | .scr _ => .dict []
  | .ins _ _ _ => .dict []
def D.pys : List D → List PyData
  | [] => []
  | x :: r => x.py :: D.pys r
end
mutual
theorem Rp.dat {H : Hp} : ∀ {x : V} {d : D}, Rp H x d → d.py.canLay0 = true → DatV H x d.py
  | _, _, .non, _ => .non
  | _, _, .bl b, _ => .bl b
  | _, _, .int i, _ => .int i
  | _, _, .str x, _ => .str x
  | _, _, .lst e h, p => .lst e (Rps.dat h (by simpa [D.py, PyData.canLay0] using p))
  | _, _, .tup e h, p => .tup e (Rps.dat h (by simpa [D.py, PyData.canLay0] using p))
  | _, _, .dnil e, p => by simp [D.py, PyData.canLay0] at p
  | _, _, .scr e, p => by simp [D.py, PyData.canLay0] at p
theorem Rps.dat {H : Hp} : ∀ {xs : List V} {ds : List D}, Rps H xs ds → PyData.canLayAll0 (D.pys ds) = true → DatsV H xs (D.pys ds)
  | _, _, .nil, _ => .nil
  | _, _, .cons a b, p => by
    have p := Bool.and_eq_true_iff.mp (show (PyData.canLay0 _ && PyData.canLayAll0 _) = true from by simpa only [D.pys, PyData.canLayAll0] using p)
    exact .cons (Rp.dat a p.1) (Rps.dat b p.2)
end
/-- == of plain data -/
def eqB (d e : D) : Bool := PyData.eqv d.py e.py
def eqOk (d : D) : Bool := SeqAt.shaped d.py
theorem canLay_of {d : D} (h : eqOk d = true) : d.py.canLay0 = true := SeqAt.canLay_of_shaped h
def eqO (d e : D) : Option RV := if eqOk d && eqOk e then some (.val (.bl (eqB d e))) else none
def neO (d e : D) : Option RV := if eqOk d && eqOk e then some (.val (.bl (!eqB d e))) else none
section
variable {K : PySem.W.Frag}
theorem opv_eq : OpV rEqD eqO := by
  intro R H x y d e rv Q s px py hg q
  unfold eqO at hg
  split at hg
  · rename_i c
    rw [Bool.and_eq_true] at c
    cases hg
    exact ⟨d.py, e.py, (px.hv s).dat (canLay_of c.1), (py.hv s).dat (canLay_of c.2), c.1, c.2, q _ H R (Al.refl s) (.bl _)⟩
  · cases hg
theorem opv_ne : OpV rNeD neO := by
  intro R H x y d e rv Q s px py hg q
  unfold neO at hg
  split at hg
  · rename_i c
    rw [Bool.and_eq_true] at c
    cases hg
    exact ⟨d.py, e.py, (px.hv s).dat (canLay_of c.1), (py.hv s).dat (canLay_of c.2), c.1, c.2, q _ H R (Al.refl s) (.bl _)⟩
  · cases hg
/-! == of texts needs nothing more -/
def eqO2 : D → D → Option RV
  | .str x, .str y => some (.val (.bl (decide (x = y))))
  | d, e => eqO d e
def neO2 : D → D → Option RV
  | .str x, .str y => some (.val (.bl (!decide (x = y))))
  | d, e => neO d e
def rEq2 : R2 := fun x y H Q => rEqD x y H Q ∨ rEq x y H Q
def rNe2 : R2 := fun x y H Q => rNeD x y H Q ∨ rNe x y H Q
omit [KC] in
theorem op_eq2 {X : Cx} {k : Nat} (hr : Room k X.A) : OpR X (compareOp .Eq) rEq2 := (op_eq_dat hr).or op_eq
omit [KC] in
theorem op_ne2 {X : Cx} {k : Nat} (hr : Room k X.A) : OpR X (compareOp .NotEq) rNe2 := (op_ne_dat hr).or op_ne
omit [KC] in
theorem str_dec (x y : Str) : decide (V.str x = V.str y) = decide (x = y) := by
  by_cases h : x = y
  · subst h; simp
  · simp [h]
theorem opv_eq2 : OpV rEq2 eqO2 := by
  intro R H x y d e rv Q s px py hg q
  unfold eqO2 at hg
  split at hg
  · cases hg
    cases px.str
    cases py.str
    refine .inr ⟨rfl, ?_⟩
    rw [str_dec]
    exact q _ H R (Al.refl s) (.bl _)
  · exact .inl (opv_eq R H x y _ _ rv Q s px py hg q)
theorem opv_ne2 : OpV rNe2 neO2 := by
  intro R H x y d e rv Q s px py hg q
  unfold neO2 at hg
  split at hg
  · cases hg
    cases px.str
    cases py.str
    refine .inr ⟨rfl, ?_⟩
    rw [str_dec]
    exact q _ H R (Al.refl s) (.bl _)
  · exact .inl (opv_ne R H x y _ _ rv Q s px py hg q)
/-! numbers -/
def intO (g : Int → Int → D) (d e : D) : Option RV := match d, e with
  | .int i, .int j => some (.val (g i j))
  | _, _ => none
def intC (C : Int → Int → Bool) (g : Int → Int → D) (d e : D) : Option RV := match d, e with
  | .int i, .int j => if C i j then some (.val (g i j)) else none
  | _, _ => none
theorem opv_int {g : Int → Int → V} {g' : Int → Int → D} (h : ∀ R i j, Rp R (g i j) (g' i j)) : OpV (rI0 g) (intO g') := by
  intro R H x y d e rv Q s px py hg q
  unfold intO at hg
  split at hg
  · cases hg
    exact ⟨_, _, px.int, py.int, q _ H R (Al.refl s) (h R _ _)⟩
  · cases hg
theorem opv_intC {C : Int → Int → Prop} {C' : Int → Int → Bool} {g : Int → Int → V} {g' : Int → Int → D} (hC : ∀ i j, C' i j = true → C i j) (h : ∀ R i j, Rp R (g i j) (g' i j)) : OpV (rI C g) (intC C' g') := by
  intro R H x y d e rv Q s px py hg q
  unfold intC at hg
  split at hg
  · split at hg
    · rename_i c
      cases hg
      exact ⟨_, _, px.int, py.int, hC _ _ c, q _ H R (Al.refl s) (h R _ _)⟩
    · cases hg
  · cases hg
/-- decided, but not by running it -/
noncomputable def cd (p : Prop) : Bool := @decide p (Classical.propDecidable p)
omit [KC] in
theorem cd_t {p : Prop} (h : p) : cd p = true := by unfold cd; exact @decide_eq_true p (Classical.propDecidable p) h
omit [KC] in
theorem of_cd {p : Prop} (h : cd p = true) : p := by unfold cd at h; exact @of_decide_eq_true p (Classical.propDecidable p) h
abbrev ltO := intO fun i j => .bl (decide (i < j))
abbrev leO := intO fun i j => .bl (decide (i ≤ j))
abbrev gtO := intO fun i j => .bl (decide (j < i))
abbrev geO := intO fun i j => .bl (decide (j ≤ i))
abbrev subO := intO fun i j => .int (i - j)
noncomputable abbrev modO := intC (fun _ j => cd (0 < j)) fun i j => .int (i % j)
noncomputable abbrev fdivO := intC (fun _ j => cd (0 < j ∧ j < 1073741824)) fun i j => .int (i / j)
noncomputable abbrev powO := intC (fun i j => cd (0 ≤ j ∧ j ≤ 1000000 ∧ i.natAbs < 2 ^ 64)) fun i j => .int (i ^ j.toNat)
theorem opv_lt : OpV (rI0 fun i j => .bl (decide (i < j))) ltO := opv_int fun _ _ _ => .bl _
theorem opv_le : OpV (rI0 fun i j => .bl (decide (i ≤ j))) leO := opv_int fun _ _ _ => .bl _
theorem opv_gt : OpV (rI0 fun i j => .bl (decide (j < i))) gtO := opv_int fun _ _ _ => .bl _
theorem opv_ge : OpV (rI0 fun i j => .bl (decide (j ≤ i))) geO := opv_int fun _ _ _ => .bl _
theorem opv_sub : OpV (rI0 fun i j => .int (i - j)) subO := opv_int fun _ _ _ => .int _
theorem opv_mod : OpV (rI (fun _ j => 0 < j) fun i j => .int (i % j)) modO := opv_intC (fun _ _ h => of_cd h) fun _ _ _ => .int _
theorem opv_fdiv : OpV (rI CDiv fun i j => .int (i / j)) fdivO := opv_intC (fun _ _ h => of_cd h) fun _ _ _ => .int _
theorem opv_pow : OpV (rI CPow fun i j => .int (i ^ j.toNat)) powO := opv_intC (fun _ _ h => of_cd h) fun _ _ _ => .int _
/-! new lists -/
theorem al_new {R H : Hp} {p : Addr} {xs : List V} {ds : List D} (s : Same R H) (hp : H p = none) (h : Rps R xs ds) : Al R H R (upd H p (.lst xs)) ∧ RvA R H (upd H p (.lst xs)) (.ref p) (.new (.lst ds)) :=
  ⟨⟨s.trans (same_upd hp), Same.refl _, same_upd hp, fun _ _ _ z => z⟩, ⟨p, xs, ds, rfl, s.free hp, upd_same, rfl, h⟩, p, rfl, hp⟩
theorem al_tup {R H : Hp} {p : Addr} {xs : List V} {ds : List D} (s : Same R H) (hp : H p = none) (h : Rps R xs ds) : Al R H (upd R p (.tup xs)) (upd H p (.tup xs)) ∧ RvA (upd R p (.tup xs)) H (upd H p (.tup xs)) (.ref p) (.val (.tup ds)) := by
  have hr : R p = none := s.free hp
  refine ⟨⟨fun b o e => ?_, same_upd hr, same_upd hp, fun b o e r => ?_⟩, .tup upd_same (h.sm (same_upd hr))⟩
  · by_cases hb : b = p
    · subst hb; rw [upd_same] at e ⊢; exact e
    · rw [upd_ne hb] at e ⊢; exact s b o e
  · rw [upd_ne (ne_of_none e hp)]; exact r
/-! + -/
def addO (d e : D) : Option RV := match d, e with
  | .int i, .int j => some (.val (.int (i + j)))
  | .lst xs, .lst ys => if xs.length + ys.length ≤ sizeLine then some (.new (.lst (xs ++ ys))) else none
  | .str i, .str j => if i.length + j.length ≤ sizeLine then some (.val (.str (i ++ j))) else none
  | _, _ => none
def rAdd3 : R2 := fun x y H Q => rI0 (fun i j => .int (i + j)) x y H Q ∨ (rCat x y H Q ∨ (∃ i j, x = .str i ∧ y = .str j ∧ i.length + j.length ≤ sizeLine ∧ Q (.str (i ++ j)) H))
theorem op_add3 {X : Cx} : OpR X (binaryOp .Add) rAdd3 := op_add.or (op_cat.or op_add_str)
theorem opv_add : OpV rAdd3 addO := by
  intro R H x y d e rv Q s px py hg q
  unfold addO at hg
  split at hg
  · cases hg
    exact .inl ⟨_, _, px.int, py.int, q _ H R (Al.refl s) (.int _)⟩
  · split at hg
    · rename_i c
      cases hg
      obtain ⟨a, xs, rfl, h1, h2⟩ := px.lst s
      obtain ⟨b, ys, rfl, h3, h4⟩ := py.lst s
      refine .inr (.inl ⟨a, b, xs, ys, rfl, rfl, h1, h3, by rw [h2.len, h4.len]; exact c, fun p hp => ?_⟩)
      obtain ⟨al, rv⟩ := al_new s hp (h2.app h4)
      exact q _ _ _ al rv
    · cases hg
  · split at hg
    · rename_i c
      cases hg
      exact .inr (.inr ⟨_, _, px.str, py.str, c, q _ H R (Al.refl s) (.str _)⟩)
    · cases hg
  · cases hg
/-! * -/
noncomputable def mulOk (i j : Int) : Bool := cd (CMul i j)
noncomputable def mulO (d e : D) : Option RV := match d, e with
  | .int i, .int j => if mulOk i j then some (.val (.int (i * j))) else none
  | _, _ => none
theorem mulOk_ok {i j : Int} (h : mulOk i j = true) : CMul i j := of_cd h
theorem opv_mul : OpV (rI CMul fun i j => .int (i * j)) mulO := by
  intro R H x y d e rv Q s px py hg q
  unfold mulO at hg
  split at hg
  · split at hg
    · rename_i c
      cases hg
      exact ⟨_, _, px.int, py.int, mulOk_ok c, q _ H R (Al.refl s) (.int _)⟩
    · cases hg
  · cases hg
/-! is None -/
def isNone : D → Bool
  | .non => true
  | _ => false
def isO (d e : D) : Option RV := match e with
  | .non => some (.val (.bl (isNone d)))
  | _ => none
def isntO (d e : D) : Option RV := match e with
  | .non => some (.val (.bl (!isNone d)))
  | _ => none
/-! in, of flat things -/
end
end Dv
end

section
set_option Elab.async false
set_option linter.all false
set_option maxRecDepth 100000
set_option maxHeartbeats 5000000
namespace Dv
open PySem L2 Ex
variable [KC]
section
variable {X : Cx} {EE : XKS} {ios : List Addr} {e a b c : Expr} {es : List Expr} {f g k : M RV} {fs : M (List RV)} {pos : Pos} {ta tb tc t : TE} {r r' : R2}
/-! arguments -/
def argM (f : M RV) : M RV := M.bind f fun rv => match rv with
  | .var i => M.pure (.var i)
  | rv => M.bind (mat rv) fun d => M.pure (.val d)
def consM (f : M RV) (g : M (List RV)) : M (List RV) := M.bind (argM f) fun x => M.bind g fun xs => M.pure (x :: xs)
theorem rd_arg (h : RdE EE ios t f) {σ : St} {H R : Hp} {Γ : En} {Q : VK} (er : ER ios R H σ Γ)
    (w : wpM (argM f Γ) (fun rv Γ' => ∀ x H' R', EPo ios R H σ Γ R' H' Γ' → ArR R' σ x rv → Q x H') (EXP EE ios R H σ Γ)) : t σ H Q := by
  unfold argM at w
  rw [wpM_bind] at w
  refine h σ H R Γ _ er (wpM_mono w (fun rv Γ1 w x H1 R1 p1 hx => ?_) fun _ _ z => z)
  cases rv with
  | var i => exact w x H1 R1 p1 hx
  | val d =>
    rw [wpM_bind] at w
    obtain ⟨d, Γ2, R2, e2, _, r2, w⟩ := mat_ok er p1 hx w
    exact w x H1 R2 e2 r2
  | new d =>
    rw [wpM_bind] at w
    obtain ⟨d, Γ2, R2, e2, _, r2, w⟩ := mat_ok er p1 hx w
    exact w x H1 R2 e2 r2
theorem va_nil : VA X EE ios [] (M.pure []) := ⟨_, pa_nil, fun σ H R Γ Q er w => w [] H R (EPo.refl er) .nil⟩
theorem rd_cons {u : TA} (h : RdE EE ios t f) (h' : RdA EE ios u fs) : RdA EE ios (tCons t u) (consM f fs) := by
  intro σ H R Γ Q er w
  unfold consM at w
  rw [wpM_bind] at w
  refine rd_arg h er (wpM_mono w (fun rv Γ1 w x H1 R1 p1 hx => ?_) fun _ _ z => z)
  rw [wpM_bind] at w
  refine h' σ H1 R1 Γ1 _ p1.er (wpM_mono w (fun rvs Γ2 w xs H2 R2 p2 hxs => ?_) fun _ _ z => EXP.trans p1 z)
  exact w (x :: xs) H2 R2 (p1.trans p2) (.cons (hx.sm p2.go.rr) hxs)
theorem va_cons (ha : VE X EE ios e f) (hr : VA X EE ios es fs) (hs : starEach (e :: es) X.env = (false, eval e X.env) :: starEach es X.env := by rfl) : VA X EE ios (e :: es) (consM f fs) :=
  let ⟨_, h1, h2⟩ := ha; let ⟨_, h3, h4⟩ := hr; ⟨_, pa_cons h1 h3 hs, rd_cons h2 h4⟩
def matAll : List RV → M (List D)
  | [] => M.pure []
  | rv :: r => M.bind (mat rv) fun d => M.bind (matAll r) fun ds => M.pure (d :: ds)
def peekAll : List RV → M (List D)
  | [] => M.pure []
  | rv :: r => M.bind (peek rv) fun d => M.bind (peekAll r) fun ds => M.pure (d :: ds)
inductive Pks (R H : Hp) : List V → List D → Prop where
  | nil : Pks R H [] []
  | cons {x : V} {d : D} {xs : List V} {ds : List D} : Pk R H x d → Pks R H xs ds → Pks R H (x :: xs) (d :: ds)
theorem peekAll_ok {R H : Hp} {σ : St} {Γ : En} (er : ER ios R H σ Γ) : ∀ {xs : List V} {rvs : List RV} {K : List D → En → Prop} {E : Xc → En → Prop}, ArsR R σ xs rvs → wpM (peekAll rvs Γ) K E → ∃ ds, Pks R H xs ds ∧ K ds Γ
  | _, _, K, E, .nil, w => ⟨[], .nil, w⟩
  | _, _, K, E, .cons a b, w => by
    unfold peekAll at w
    rw [wpM_bind] at w
    obtain ⟨d, pd, w⟩ := peek_ok (H := H) er a.rv w
    rw [wpM_bind] at w
    obtain ⟨ds, pds, w⟩ := peekAll_ok er b w
    exact ⟨d :: ds, .cons pd pds, w⟩
theorem matAll_ok {R0 H0 H : Hp} {σ : St} {Γ0 : En} (er : ER ios R0 H0 σ Γ0) : ∀ {xs : List V} {rvs : List RV} {R : Hp} {Γ : En} {K : List D → En → Prop} {E : Xc → En → Prop}, EPo ios R0 H0 σ Γ0 R H Γ → ArsR R σ xs rvs → wpM (matAll rvs Γ) K E →
    ∃ ds Γ' R', EPo ios R0 H0 σ Γ0 R' H Γ' ∧ Same R R' ∧ Rps R' xs ds ∧ K ds Γ'
  | _, _, R, Γ, K, E, p, .nil, w => ⟨[], Γ, R, p, Same.refl _, .nil, w⟩
  | _, _, R, Γ, K, E, p, .cons a b, w => by
    unfold matAll at w
    rw [wpM_bind] at w
    obtain ⟨d, Γ1, R1, p1, s1, r1, w⟩ := mat_ok er p a.rv w
    rw [wpM_bind] at w
    obtain ⟨ds, Γ2, R2, p2, s2, r2, w⟩ := matAll_ok er p1 (b.sm s1) w
    exact ⟨d :: ds, Γ2, R2, p2, s1.trans s2, .cons (r1.sm s2) r2, w⟩
/-! displays -/
def lstM (fs : M (List RV)) : M RV := M.bind fs fun rvs => M.bind (matAll rvs) fun ds => if ds.length ≤ sizeLine then M.pure (.new (.lst ds)) else M.st
def tupM (fs : M (List RV)) : M RV := M.bind fs fun rvs => M.bind (matAll rvs) fun ds => if ds.length ≤ sizeLine then M.pure (.val (.tup ds)) else M.st
theorem ve_lst (h : VA X EE ios es fs) : VE X EE ios (.List es pos) (lstM fs) := by
  obtain ⟨t, h1, h2⟩ := h
  refine ⟨_, pe_lst h1, fun σ H R Γ Q er w => ?_⟩
  unfold lstM at w
  rw [wpM_bind] at w
  refine h2 σ H R Γ _ er (wpM_mono w (fun rvs Γ1 w xs H1 R1 p1 hx => ?_) fun _ _ z => z)
  rw [wpM_bind] at w
  obtain ⟨ds, Γ2, R2, p2, s2, r2, w⟩ := matAll_ok er p1 hx w
  split at w
  · rename_i c
    refine ⟨by rw [r2.len]; exact c, fun p hp => ?_⟩
    obtain ⟨al, rv⟩ := al_new p2.er.sub hp r2
    exact w _ _ _ (p2.al al) (rv.rv (p2.back er))
  · exact False.elim w
theorem ve_tup {k1 : Nat} (h : VA X EE ios es fs) : VE X EE ios (.Tuple es k1 pos) (tupM fs) := by
  obtain ⟨t, h1, h2⟩ := h
  refine ⟨_, pe_tup h1, fun σ H R Γ Q er w => ?_⟩
  unfold tupM at w
  rw [wpM_bind] at w
  refine h2 σ H R Γ _ er (wpM_mono w (fun rvs Γ1 w xs H1 R1 p1 hx => ?_) fun _ _ z => z)
  rw [wpM_bind] at w
  obtain ⟨ds, Γ2, R2, p2, s2, r2, w⟩ := matAll_ok er p1 hx w
  split at w
  · rename_i c
    refine ⟨by rw [r2.len]; exact c, fun p hp => ?_⟩
    obtain ⟨al, rv⟩ := al_tup p2.er.sub hp r2
    exact w _ _ _ (p2.al al) (rv.rv (p2.back er))
  · exact False.elim w
/-! built-in functions -/
def CallV (r : List V → Hp → VK → Prop) (g : List D → Option RV) : Prop := ∀ R H xs ds rv (Q : VK), Same R H → Pks R H xs ds → g ds = some rv → (∀ z H' R', Al R H R' H' → RvA R' H H' z rv → Q z H') → r xs H Q
def callM (g : List D → Option RV) (fs : M (List RV)) : M RV := M.bind fs fun rvs => M.bind (peekAll rvs) fun ds => M.ofO (g ds)
theorem ve_blt {r : List V → Hp → VK → Prop} {g : List D → Option RV} {e0 : Expr} (hp : ∀ t, PA X es t → PE X e0 (tCB r t)) (hv : CallV r g) (ha : VA X EE ios es fs) : VE X EE ios e0 (callM g fs) := by
  obtain ⟨t, h1, h2⟩ := ha
  refine ⟨_, hp t h1, fun σ H R Γ Q er w => ?_⟩
  unfold callM at w
  rw [wpM_bind] at w
  refine h2 σ H R Γ _ er (wpM_mono w (fun rvs Γ1 w xs H1 R1 p1 hx => ?_) fun _ _ z => z)
  rw [wpM_bind] at w
  obtain ⟨ds, pd, w⟩ := peekAll_ok p1.er hx w
  obtain ⟨rv, hg, w⟩ := wpM_ofO w
  exact hv R1 H1 xs ds rv Q p1.er.sub pd hg fun z H' R' al ra => w z H' R' (p1.al al) (ra.rv (p1.back er))
theorem Pks.one {R H : Hp} {xs : List V} {d : D} (h : Pks R H xs [d]) : ∃ x, xs = [x] ∧ Pk R H x d := by
  cases h with | cons a b => cases b; exact ⟨_, rfl, a⟩
theorem Pks.two {R H : Hp} {xs : List V} {d e : D} (h : Pks R H xs [d, e]) : ∃ x y, xs = [x, y] ∧ Pk R H x d ∧ Pk R H y e := by
  cases h with | cons a b => obtain ⟨y, rfl, q⟩ := b.one; exact ⟨_, _, rfl, a, q⟩
/-! len -/
def lenO : List D → Option RV
  | [.lst xs] => some (.val (.int xs.length))
  | [.tup xs] => some (.val (.int xs.length))
  | [.scr xs] => some (.val (.int xs.length))
  | [.str z] => if z.length ≤ sizeLine then some (.val (.int z.length)) else none
  | _ => none
def rLen (K : PySem.W.Frag) : List V → Hp → VK → Prop := fun xs H Q => (∃ p ys, xs = [.ref p] ∧ (SqL K H p ys ∨ SqT K H p ys) ∧ Q (.int ys.length) H) ∨ (∃ z, xs = [.str z] ∧ z.length ≤ sizeLine ∧ Q (.int z.length) H)
theorem call_len2 : CallR X (.builtin "len") (rLen X.K) := call_len_seq.or call_len_str
theorem callv_len : CallV (rLen KC.K) lenO := by
  intro R H xs ds rv Q s px hg q
  unfold lenO at hg
  split at hg
  · cases hg
    obtain ⟨x, rfl, p⟩ := px.one
    obtain ⟨a, ys, rfl, h1, h2⟩ := p.lst s
    refine .inl ⟨a, ys, rfl, .inl (SqL.of h1), ?_⟩
    rw [h2.len]
    exact q _ H R (Al.refl s) (.int _)
  · cases hg
    obtain ⟨x, rfl, p⟩ := px.one
    obtain ⟨a, ys, rfl, h1, h2⟩ := p.tup
    refine .inl ⟨a, ys, rfl, .inr (SqT.of (s _ _ h1)), ?_⟩
    rw [h2.len]
    exact q _ H R (Al.refl s) (.int _)
  · cases hg
    obtain ⟨x, rfl, p⟩ := px.one
    rcases p with p | ⟨_, _, _, _, _, z, _⟩
    · cases p with
      | scr h1 =>
        refine .inl ⟨_, _, rfl, .inl (s.seq h1), ?_⟩
        rw [List.length_map]
        exact q _ H R (Al.refl s) (.int _)
    · cases z
  · split at hg
    · rename_i c
      cases hg
      obtain ⟨x, rfl, p⟩ := px.one
      cases p.str
      exact .inr ⟨_, rfl, c, q _ H R (Al.refl s) (.int _)⟩
    · cases hg
  · cases hg
/-! abs, min, max of two, int -/
def absO : List D → Option RV
  | [.int i] => some (.val (.int (if i < 0 then -i else i)))
  | _ => none
theorem callv_abs : CallV (fun xs H Q => ∃ i, xs = [.int i] ∧ Q (.int (if i < 0 then -i else i)) H) absO := by
  intro R H xs ds rv Q s px hg q
  unfold absO at hg
  split at hg
  · cases hg
    obtain ⟨x, rfl, p⟩ := px.one
    exact ⟨_, by rw [p.int], q _ H R (Al.refl s) (.int _)⟩
  · cases hg
def max2O : List D → Option RV
  | [.int i, .int j] => some (.val (.int (if j > i then j else i)))
  | _ => none
def min2O : List D → Option RV
  | [.int i, .int j] => some (.val (.int (if j < i then j else i)))
  | _ => none
theorem callv_max2 : CallV (fun xs H Q => ∃ i j, xs = [.int i, .int j] ∧ Q (.int (if j > i then j else i)) H) max2O := by
  intro R H xs ds rv Q s px hg q
  unfold max2O at hg
  split at hg
  · cases hg
    obtain ⟨x, y, rfl, p, p'⟩ := px.two
    exact ⟨_, _, by rw [p.int, p'.int], q _ H R (Al.refl s) (.int _)⟩
  · cases hg
theorem callv_min2 : CallV (fun xs H Q => ∃ i j, xs = [.int i, .int j] ∧ Q (.int (if j < i then j else i)) H) min2O := by
  intro R H xs ds rv Q s px hg q
  unfold min2O at hg
  split at hg
  · cases hg
    obtain ⟨x, y, rfl, p, p'⟩ := px.two
    exact ⟨_, _, by rw [p.int, p'.int], q _ H R (Al.refl s) (.int _)⟩
  · cases hg
def intO1 : List D → Option RV
  | [.int i] => some (.val (.int i))
  | [.bl k] => some (.val (.int (if k then 1 else 0)))
  | _ => none
/-! list(..), tuple(..) -/
def listO : List D → Option RV
  | [.lst xs] => some (.new (.lst xs))
  | [.tup xs] => some (.new (.lst xs))
  | _ => none
theorem callv_list {K : PySem.W.Frag} : CallV (fun xs H Q => ∃ p ys, xs = [.ref p] ∧ (SqL K H p ys ∨ SqT K H p ys) ∧ ∀ l, H l = none → Q (.ref l) (upd H l (.lst ys))) listO := by
  intro R H xs ds rv Q s px hg q
  unfold listO at hg
  split at hg
  · cases hg
    obtain ⟨x, rfl, p⟩ := px.one
    obtain ⟨a, ys, rfl, h1, h2⟩ := p.lst s
    refine ⟨a, ys, rfl, .inl (SqL.of h1), fun l hl => ?_⟩
    obtain ⟨al, rv⟩ := al_new s hl h2
    exact q _ _ _ al rv
  · cases hg
    obtain ⟨x, rfl, p⟩ := px.one
    obtain ⟨a, ys, rfl, h1, h2⟩ := p.tup
    refine ⟨a, ys, rfl, .inr (SqT.of (s _ _ h1)), fun l hl => ?_⟩
    obtain ⟨al, rv⟩ := al_new s hl h2
    exact q _ _ _ al rv
  · cases hg
def tupleO : List D → Option RV
  | [.lst xs] => some (.val (.tup xs))
  | [.tup xs] => some (.val (.tup xs))
  | _ => none
theorem callv_tuple {K : PySem.W.Frag} : CallV (fun xs H Q => ∃ p ys, xs = [.ref p] ∧ ((SqL K H p ys ∧ ∀ l, H l = none → Q (.ref l) (upd H l (.tup ys))) ∨ (SqT K H p ys ∧ Q (.ref p) H))) tupleO := by
  intro R H xs ds rv Q s px hg q
  unfold tupleO at hg
  split at hg
  · cases hg
    obtain ⟨x, rfl, p⟩ := px.one
    obtain ⟨a, ys, rfl, h1, h2⟩ := p.lst s
    refine ⟨a, ys, rfl, .inl ⟨SqL.of h1, fun l hl => ?_⟩⟩
    obtain ⟨al, rv⟩ := al_tup s hl h2
    exact q _ _ _ al rv
  · cases hg
    obtain ⟨x, rfl, p⟩ := px.one
    obtain ⟨a, ys, rfl, h1, h2⟩ := p.tup
    exact ⟨a, ys, rfl, .inr ⟨SqT.of (s _ _ h1), q _ H R (Al.refl s) (.tup h1 h2)⟩⟩
  · cases hg
/-! all, any -/
def asBs : List D → Option (List Bool)
  | [] => some []
  | .bl b :: r => (asBs r).map (b :: ·)
  | _ => none
omit [KC] in
theorem asBs_eq : ∀ {ds : List D} {bs : List Bool}, asBs ds = some bs → ds = bs.map D.bl
  | [], bs, h => by cases h; rfl
  | d :: r, bs, h => by
    cases d <;> first | (cases h; done) | skip
    rename_i b
    have h : (asBs r).map (b :: ·) = some bs := h
    cases q : asBs r with
    | none => rw [q] at h; cases h
    | some l => rw [q] at h; cases h; rw [List.map_cons, ← asBs_eq q]
omit [KC] in
theorem asBs_map (bs : List Bool) : asBs (bs.map D.bl) = some bs := by
  induction bs with
  | nil => rfl
  | cons b r ih => show (asBs (r.map D.bl)).map (b :: ·) = _; rw [ih]; rfl
def allO : List D → Option RV
  | [.lst ds] => (asBs ds).map fun bs => .val (.bl (bs.all id))
  | _ => none
def anyO : List D → Option RV
  | [.lst ds] => (asBs ds).map fun bs => .val (.bl (bs.any id))
  | _ => none
theorem callv_all : CallV (fun xs H Q => ∃ (p : Addr) (bs : List Bool), xs = [.ref p] ∧ H p = some (.lst (bs.map V.bl)) ∧ Q (.bl (bs.all id)) H) allO := by
  intro R H xs ds rv Q s px hg q
  unfold allO at hg
  split at hg
  · rename_i l
    cases h : asBs l with
    | none => rw [h] at hg; cases hg
    | some bs =>
      rw [h] at hg
      cases hg
      obtain ⟨x, rfl, p⟩ := px.one
      obtain ⟨a, ys, rfl, h1, h2⟩ := p.lst s
      rw [asBs_eq h] at h2
      rw [h2.bls_inv] at h1
      exact ⟨a, bs, rfl, h1, q _ H R (Al.refl s) (.bl _)⟩
  · cases hg
theorem callv_any : CallV (fun xs H Q => ∃ (p : Addr) (bs : List Bool), xs = [.ref p] ∧ H p = some (.lst (bs.map V.bl)) ∧ Q (.bl (bs.any id)) H) anyO := by
  intro R H xs ds rv Q s px hg q
  unfold anyO at hg
  split at hg
  · rename_i l
    cases h : asBs l with
    | none => rw [h] at hg; cases hg
    | some bs =>
      rw [h] at hg
      cases hg
      obtain ⟨x, rfl, p⟩ := px.one
      obtain ⟨a, ys, rfl, h1, h2⟩ := p.lst s
      rw [asBs_eq h] at h2
      rw [h2.bls_inv] at h1
      exact ⟨a, bs, rfl, h1, q _ H R (Al.refl s) (.bl _)⟩
  · cases hg
/-! sorted, min, max of ints -/
def asIs : List D → Option (List Int)
  | [] => some []
  | .int b :: r => (asIs r).map (b :: ·)
  | _ => none
omit [KC] in
theorem asIs_eq : ∀ {ds : List D} {bs : List Int}, asIs ds = some bs → ds = bs.map D.int
  | [], bs, h => by cases h; rfl
  | d :: r, bs, h => by
    cases d <;> first | (cases h; done) | skip
    rename_i b
    have h : (asIs r).map (b :: ·) = some bs := h
    cases q : asIs r with
    | none => rw [q] at h; cases h
    | some l => rw [q] at h; cases h; rw [List.map_cons, ← asIs_eq q]
omit [KC] in
theorem asIs_map (bs : List Int) : asIs (bs.map D.int) = some bs := by
  induction bs with
  | nil => rfl
  | cons b r ih => show (asIs (r.map D.int)).map (b :: ·) = _; rw [ih]; rfl
def srt (ns : List Int) : List Int := ns.mergeSort (fun a b => decide (a ≤ b))
omit [KC] in
theorem srt_perm (ns : List Int) : (srt ns).Perm ns := List.mergeSort_perm ..
omit [KC] in
theorem srt_pw (ns : List Int) : (srt ns).Pairwise (· ≤ ·) := by
  have h := List.pairwise_mergeSort (le := fun a b : Int => decide (a ≤ b)) (fun a b c h1 h2 => decide_eq_true (Int.le_trans (of_decide_eq_true h1) (of_decide_eq_true h2))) (fun a b => by
    rcases Int.le_total a b with h | h
    · rw [decide_eq_true h]; rfl
    · rw [decide_eq_true h, Bool.or_true]) ns
  exact h.imp fun h => of_decide_eq_true h
omit [KC] in
theorem srt_uniq : ∀ {xs ys : List Int}, xs.Perm ys → xs.Pairwise (· ≤ ·) → ys.Pairwise (· ≤ ·) → xs = ys := fun p h1 h2 => List.Perm.eq_of_pairwise (fun _ _ _ _ h h' => Int.le_antisymm h h') h1 h2 p
def sortedO : List D → Option RV
  | [.lst ds] => (asIs ds).bind fun ns => if ns.length < 64 then some (.new (.lst ((srt ns).map D.int))) else none
  | _ => none
theorem callv_sorted {K : PySem.W.Frag} : CallV (fun xs H Q => ∃ (p : Addr) (ns : List Int), xs = [.ref p] ∧ SqL K H p (ns.map V.int) ∧ ns.length < 64 ∧ ∀ (l : Addr) (ns' : List Int), H l = none → ns'.Perm ns → ns'.Pairwise (· ≤ ·) → Q (.ref l) (upd H l (.lst (ns'.map V.int)))) sortedO := by
  intro R H xs ds rv Q s px hg q
  unfold sortedO at hg
  split at hg
  · rename_i l
    cases h : asIs l with
    | none => rw [h] at hg; cases hg
    | some ns =>
      rw [h] at hg
      have hg : (if ns.length < 64 then some (RV.new (.lst ((srt ns).map D.int))) else none) = some rv := hg
      split at hg
      · rename_i c
        cases hg
        obtain ⟨x, rfl, p⟩ := px.one
        obtain ⟨a, ys, rfl, h1, h2⟩ := p.lst s
        rw [asIs_eq h] at h2
        rw [h2.ints_inv] at h1
        refine ⟨a, ns, rfl, SqL.of h1, c, fun l ns' hl pm pw => ?_⟩
        have e : ns' = srt ns := srt_uniq (pm.trans (srt_perm ns).symm) pw (srt_pw ns)
        obtain ⟨al, rv⟩ := al_new s hl (Rps.ints (R := R) (srt ns))
        rw [e]
        exact q _ _ _ al rv
      · cases hg
  · cases hg
end
end Dv
end

section
set_option Elab.async false
set_option linter.all false
set_option maxRecDepth 100000
set_option maxHeartbeats 5000000
namespace Dv
open PySem L2 Ex
variable [KC]
section
variable {X : Cx} {EE : XKS} {ios : List Addr} {e a b c : Expr} {es : List Expr} {f g k : M RV} {fs : M (List RV)} {pos : Pos} {ta tb tc t : TE} {r r' : R2} {K : PySem.W.Frag}
/-! items -/
def idxO (d e : D) : Option RV := match d, e with
  | .lst xs, .int i => (atI xs i).map .val
  | .tup xs, .int i => (atI xs i).map .val
  | .scr ns, .int i => (atI ns i).map fun n => .val (.int n)
  | .str z, .int i => if z.length ≤ sizeLine then (atI z.cps.toList i).map fun c => .val (.str ⟨#[c]⟩) else none
  | _, _ => none
theorem Rps.atI {R : Hp} {xs : List V} {ds : List D} {i : Int} {d : D} (h : Rps R xs ds) (e : L2.atI ds i = some d) : ∃ x, L2.atI xs i = some x ∧ Rp R x d := by
  unfold L2.atI at e ⊢
  rw [h.len]
  cases q : ixN ds.length i with
  | none => rw [q] at e; cases e
  | some j =>
    rw [q] at e
    exact h.ta e
theorem atI_map {α β : Type} (f : α → β) (xs : List α) (i : Int) : L2.atI (xs.map f) i = (L2.atI xs i).map f := by
  unfold L2.atI
  rw [List.length_map]
  cases ixN xs.length i with
  | none => rfl
  | some j => simp
theorem opv_idx : OpV (rIx KC.K) idxO := by
  intro R H x y d e rv Q s px py hg q
  unfold idxO at hg
  split at hg
  · rename_i ds i
    cases h : L2.atI ds i with
    | none => rw [h] at hg; cases hg
    | some d =>
      rw [h] at hg
      cases hg
      obtain ⟨a, xs, rfl, h1, h2⟩ := px.lst s
      obtain ⟨v, hv, rv⟩ := h2.atI h
      exact .inl ⟨a, xs, i, v, rfl, py.int, SqL.of h1, hv, q _ H R (Al.refl s) rv⟩
  · rename_i ds i
    cases h : L2.atI ds i with
    | none => rw [h] at hg; cases hg
    | some d =>
      rw [h] at hg
      cases hg
      obtain ⟨a, xs, rfl, h1, h2⟩ := px.tup
      obtain ⟨v, hv, rv⟩ := h2.atI h
      exact .inr (.inl ⟨a, xs, i, v, rfl, py.int, SqT.of (s _ _ h1), hv, q _ H R (Al.refl s) rv⟩)
  · rename_i ns i
    cases h : L2.atI ns i with
    | none => rw [h] at hg; cases hg
    | some n =>
      rw [h] at hg
      cases hg
      rcases px with px | ⟨_, _, _, _, _, z, _⟩
      · cases px with
        | scr h1 => exact .inl ⟨_, _, i, .int n, rfl, py.int, s.seq h1, by rw [atI_map, h]; rfl, q _ H R (Al.refl s) (.int n)⟩
      · cases z
  · rename_i z i
    split at hg
    · rename_i c
      cases h : L2.atI z.cps.toList i with
      | none => rw [h] at hg; cases hg
      | some n =>
        rw [h] at hg
        cases hg
        exact .inr (.inr ⟨z, i, n, px.str, py.int, c, h, q _ H R (Al.refl s) (.str _)⟩)
    · cases hg
  · cases hg
theorem ve_ix (ha : VE X EE ios a f) (hb : VE X EE ios b g) (hs : PlainIx b := by intro _ _; rfl) (hK : X.K = KC.K := by rfl) : VE X EE ios (.Subscript a b pos) (op2 idxO f g) :=
  let ⟨_, h1, h2⟩ := ha; let ⟨_, h3, h4⟩ := hb; ⟨_, pe_ix ix_seq h1 h3 hs, rd_op (by rw [hK]; exact opv_idx) h2 h4⟩
/-! slices -/
def cutL {α : Type} (xs : List α) (lo hi : Option Int) : List α := (xs.drop (HT.sIx xs.length 0 lo)).take (HT.sIx xs.length xs.length hi - HT.sIx xs.length 0 lo)
def cutO (d : D) (lo hi : Option Int) : Option RV := match d with
  | .lst xs => some (.new (.lst (cutL xs lo hi)))
  | .scr ns => some (.new (.lst ((cutL ns lo hi).map D.int)))
  | _ => none
def RdO (EE : XKS) (ios : List Addr) (t : TO) (f : M (Option Int)) : Prop := ∀ σ H R Γ Q, ER ios R H σ Γ →
  wpM (f Γ) (fun o Γ' => ∀ H' R', EPo ios R H σ Γ R' H' Γ' → Q o H') (EXP EE ios R H σ Γ) → t σ H Q
def VO (X : Cx) (EE : XKS) (ios : List Addr) (e : Option Expr) (f : M (Option Int)) : Prop := ∃ t, PO X e t ∧ RdO EE ios t f
theorem vo_none : VO X EE ios none (M.pure none) := ⟨_, po_none, fun σ H R Γ Q er w => w H R (EPo.refl er)⟩
def asI (rv : RV) : M (Option Int) := match rv with
  | .val (.int i) => M.pure (some i)
  | _ => M.st
theorem vo_some (h : VE X EE ios e f) : VO X EE ios (some e) (M.bind f asI) := by
  obtain ⟨t, h1, h2⟩ := h
  refine ⟨_, po_some h1, fun σ H R Γ Q er w => ?_⟩
  rw [wpM_bind] at w
  refine h2 σ H R Γ _ er (wpM_mono w (fun rv Γ1 w x H1 R1 p1 hx => ?_) fun _ _ z => z)
  unfold asI at w
  split at w
  · cases hx; exact ⟨_, rfl, w H1 R1 p1⟩
  · exact False.elim w
def slcM (o : D → Option Int → Option Int → Option RV) (f : M RV) (lo hi : M (Option Int)) : M RV := M.bind f fun x => M.bind lo fun l => M.bind hi fun u => M.bind (peek x) fun d => M.ofO (o d l u)
theorem Rps.cut {R : Hp} {xs : List V} {ds : List D} (h : Rps R xs ds) (lo hi : Option Int) : Rps R (cutV xs lo hi) (cutL ds lo hi) := by
  unfold cutV cutL
  rw [h.len]
  exact (h.drop _).take _
theorem cut_map {α β : Type} (f : α → β) (xs : List α) (lo hi : Option Int) : (cutL xs lo hi).map f = cutL (xs.map f) lo hi := by
  unfold cutL
  rw [List.length_map, List.map_take, List.map_drop]
theorem ve_slc {lo hi : Option Expr} {l u : M (Option Int)} {p2 : Pos} (ha : VE X EE ios a f) (hl : VO X EE ios lo l) (hu : VO X EE ios hi u) (hK : X.K = KC.K := by rfl) : VE X EE ios (.Subscript a (.Slice lo hi none p2) pos) (slcM cutO f l u) := by
  obtain ⟨t1, h1, h2⟩ := ha
  obtain ⟨t2, h3, h4⟩ := hl
  obtain ⟨t3, h5, h6⟩ := hu
  refine ⟨_, pe_slice sl_list h1 h3 h5, fun σ H R Γ Q er w => ?_⟩
  unfold slcM at w
  rw [wpM_bind] at w
  refine h2 σ H R Γ _ er (wpM_mono w (fun rx Γ1 w x H1 R1 p1 hx => ?_) fun _ _ z => z)
  rw [wpM_bind] at w
  refine h4 σ H1 R1 Γ1 _ p1.er (wpM_mono w (fun l Γ2 w H2 R2 p2 => ?_) fun _ _ z => EXP.trans p1 z)
  rw [wpM_bind] at w
  have p12 := p1.trans p2
  refine h6 σ H2 R2 Γ2 _ p2.er (wpM_mono w (fun u Γ3 w H3 R3 p3 => ?_) fun _ _ z => EXP.trans p12 z)
  have p13 := p12.trans p3
  rw [wpM_bind] at w
  obtain ⟨d, pd, w⟩ := peek_ok p3.er (hx.go er p1 (p2.trans p3).go) w
  obtain ⟨rv, hg, w⟩ := wpM_ofO w
  unfold cutO at hg
  split at hg
  · cases hg
    obtain ⟨a, xs, rfl, h1, h2⟩ := pd.lst p3.er.sub
    refine ⟨a, xs, rfl, SqL.of h1, fun p hp => ?_⟩
    obtain ⟨al, rv⟩ := al_new p3.er.sub hp (h2.cut l u)
    exact w _ _ _ (p13.al al) (rv.rv (p13.back er))
  · cases hg
    rcases pd with pd | ⟨_, _, _, _, _, z, _⟩
    · cases pd with
      | scr h1 =>
        refine ⟨_, _, rfl, by rw [hK]; exact p3.er.sub.seq h1, fun p hp => ?_⟩
        rw [show cutV = cutL from rfl, ← cut_map]
        obtain ⟨al, rv⟩ := al_new p3.er.sub hp (Rps.ints (R := R3) _)
        exact w _ _ _ (p13.al al) (rv.rv (p13.back er))
    · cases z
  · cases hg
def pickL {α : Type} (xs : List α) (lo hi : Option Int) (st : Int) : List α := (sliceRange (sliceBounds lo hi (some st) xs.length).1 (sliceBounds lo hi (some st) xs.length).2.1 (sliceBounds lo hi (some st) xs.length).2.2).filterMap (xs[·]?)
def pickO (st : Int) (d : D) (lo hi : Option Int) : Option RV := match d with
  | .lst xs => if st ≠ 0 ∧ (pickL xs lo hi st).length ≤ sizeLine then some (.new (.lst (pickL xs lo hi st))) else none
  | _ => none
theorem Rps.pickS {R : Hp} {xs : List V} {ds : List D} (h : Rps R xs ds) (lo hi : Option Int) (st : Int) : Rps R (pickV xs lo hi st) (pickL ds lo hi st) := by
  unfold pickV pickL
  rw [h.len]
  exact h.pick _
theorem ve_slcS {lo hi : Option Expr} {se : Expr} {st : Int} {l u : M (Option Int)} {p2 : Pos} (ha : VE X EE ios a f) (hl : VO X EE ios lo l) (hu : VO X EE ios hi u) (hse : PE X se (tC (.int st))) : VE X EE ios (.Subscript a (.Slice lo hi (some se) p2) pos) (slcM (pickO st) f l u) := by
  obtain ⟨t1, h1, h2⟩ := ha
  obtain ⟨t2, h3, h4⟩ := hl
  obtain ⟨t3, h5, h6⟩ := hu
  refine ⟨_, pe_sliceS h1 h3 h5 hse, fun σ H R Γ Q er w => ?_⟩
  unfold slcM at w
  rw [wpM_bind] at w
  refine h2 σ H R Γ _ er (wpM_mono w (fun rx Γ1 w x H1 R1 p1 hx => ?_) fun _ _ z => z)
  rw [wpM_bind] at w
  refine h4 σ H1 R1 Γ1 _ p1.er (wpM_mono w (fun l Γ2 w H2 R2 p2 => ?_) fun _ _ z => EXP.trans p1 z)
  rw [wpM_bind] at w
  have p12 := p1.trans p2
  refine h6 σ H2 R2 Γ2 _ p2.er (wpM_mono w (fun u Γ3 w H3 R3 p3 => ?_) fun _ _ z => EXP.trans p12 z)
  have p13 := p12.trans p3
  rw [wpM_bind] at w
  obtain ⟨d, pd, w⟩ := peek_ok p3.er (hx.go er p1 (p2.trans p3).go) w
  obtain ⟨rv, hg, w⟩ := wpM_ofO w
  unfold pickO at hg
  split at hg
  · split at hg
    · rename_i c
      cases hg
      obtain ⟨a, xs, rfl, h1, h2⟩ := pd.lst p3.er.sub
      refine ⟨a, xs, rfl, SqL.of h1, c.1, by rw [(h2.pickS l u st).len]; exact c.2, fun p hp => ?_⟩
      obtain ⟨al, rv⟩ := al_new p3.er.sub hp (h2.pickS l u st)
      exact w _ _ _ (p13.al al) (rv.rv (p13.back er))
    · cases hg
  · cases hg
/-! one operand -/
def op1 (o : D → Option RV) (f : M RV) : M RV := M.bind f fun x => M.bind (peek x) fun d => M.ofO (o d)
def negO : D → Option RV
  | .int i => some (.val (.int (-i)))
  | _ => none
/-! isinstance -/
def tyN : D → String
  | .non => "NoneType"
  | .bl _ => "bool"
  | .int _ => "int"
  | .str _ => "str"
  | .lst _ => "list"
  | .tup _ => "tuple"
  | .dic _ _ => "dict"
  | .scr _ => "list"
  | .ins _ _ _ => "object"
theorem Rp.ty {H : Hp} {x : V} {d : D} (h : Rp H x d) (ns : ∀ l, d ≠ .scr l) : TyOf K H x (.type (tyN d)) := by
  cases h with
  | non => exact .non
  | bl b => exact .bl b
  | int i => exact .int i
  | str x => exact .str x
  | lst e _ => exact .lst e
  | tup e _ => exact .tup e
  | dnil e => exact .dK e
  | scr e => exact absurd rfl (ns _)
inductive Ty where
  | int | bool | str | list | tuple | dict
def Ty.nm : Ty → String
  | .int => "int"
  | .bool => "bool"
  | .str => "str"
  | .list => "list"
  | .tuple => "tuple"
  | .dict => "dict"
def isTy : Ty → D → Bool
  | .int, .bl _ => true
  | .bool, .bl _ => true
  | .int, .int _ => true
  | .str, .str _ => true
  | .list, .lst _ => true
  | .list, .scr _ => true
  | .tuple, .tup _ => true
  | .dict, .dic _ _ => true
  | _, _ => false
theorem kit_ty (K : PySem.W.Frag) (d : D) (hd : ∀ C n v, d ≠ .ins C n v) (T : Ty) : PySem.W.kitOne K (.type (tyN d)) (.type T.nm) = some (isTy T d) := by
  cases T <;> cases d <;> first | kernel_rfl | exact absurd rfl (hd _ _ _)
theorem Rp.noins {H : Hp} {x : V} {d : D} (h : Rp H x d) : ∀ C n v, d ≠ .ins C n v := by
  intro C n v z
  subst z
  cases h
def isiO (T : Ty) : D → Option RV
  | .scr _ => none
  | d => some (.val (.bl (isTy T d)))
def isiM (T : Ty) (f : M RV) : M RV := M.bind (argM f) fun x => M.bind (peek x) fun d => M.ofO (isiO T d)
theorem ve_isi {T : Ty} {e0 : Expr} (hp : ∀ t, PE X a t → PE X e0 (tCB (rIs X.K) (tCons t (tCons (tC (.ty T.nm)) tNil)))) (ha : VE X EE ios a f) : VE X EE ios e0 (isiM T f) := by
  obtain ⟨t, h1, h2⟩ := ha
  refine ⟨_, hp t h1, fun σ H R Γ Q er w => ?_⟩
  unfold isiM at w
  rw [wpM_bind] at w
  refine rd_arg h2 er (wpM_mono w (fun rx Γ1 w x H1 R1 p1 hx => ?_) fun _ _ z => z)
  rw [wpM_bind] at w
  obtain ⟨d, pd, w⟩ := peek_ok (H := H) p1.er hx.rv w
  have hv := pd.hv p1.er.sub
  obtain ⟨rv, hg, w⟩ := wpM_ofO w
  have ns : ∀ l, d ≠ .scr l := fun l z => by subst z; cases hg
  have hg : rv = .val (.bl (isTy T d)) := by cases d <;> first | (cases hg; done) | exact (Option.some.inj hg).symm
  subst hg
  exact ⟨x, .ty T.nm, _, _, _, rfl, rfl, .inl (hv.ty ns), kit_ty X.K d hv.noins T, w _ H1 R1 p1 (.bl _)⟩
/-! repr -/
def rprOk (d : D) : Bool := d.py.canLay0 && d.py.showable && !d.py.hasDict && decide (d.py.depth ≤ 50) && decide (d.py.shown.length ≤ sizeLine)
def isRef : D → Bool
  | .lst _ => true
  | .tup _ => true
  | _ => false
def reprO : List D → Option RV
  | [d] => if isRef d && rprOk d then some (.val (.str d.py.shown)) else none
  | _ => none
theorem callv_repr : CallV (fun xs H Q => ∃ (a : Addr) (d : PyData), xs = [.ref a] ∧ DatV H (.ref a) d ∧ d.showable = true ∧ d.hasDict = false ∧ d.depth ≤ 50 ∧ d.shown.length ≤ sizeLine ∧ Q (.str d.shown) H) reprO := by
  intro R H xs ds rv Q s px hg q
  unfold reprO at hg
  split at hg
  · rename_i d
    split at hg
    · rename_i c
      cases hg
      unfold rprOk at c
      simp only [Bool.and_eq_true, decide_eq_true_eq, Bool.not_eq_true'] at c
      obtain ⟨c1, ⟨⟨⟨c2, c3⟩, c4⟩, c5⟩, c6⟩ := c
      obtain ⟨x, rfl, p⟩ := px.one
      have hv := p.hv s
      obtain ⟨a, rfl⟩ : ∃ a, x = .ref a := by cases hv <;> first | exact ⟨_, rfl⟩ | cases c1
      exact ⟨a, d.py, rfl, hv.dat c2, c3, c4, c5, c6, q _ H R (Al.refl s) (.str _)⟩
    · cases hg
  · cases hg
/-! a list that is a name's own is changed -/
theorem ER.mut {R H : Hp} {σ : St} {Γ : En} {i : Nat} {kd : Kd} {ds ds' : List D} {x : V} (er : ER ios R H σ Γ) (hi : Γ[i]? = some (some (kd, .lst ds))) (ho : owned kd = true) (hx : σ[i]? = some (some x)) :
    ∃ p xs, x = .ref p ∧ H p = some (.lst xs) ∧ Rps R xs ds ∧ ∀ xs', Rps R xs' ds' → EPo ios R H σ Γ R (upd H p (.lst xs')) (Γ.set i (some (kd, .lst ds'))) := by
  obtain ⟨v, hv, s⟩ := er.sl i _ hi
  rw [hx] at hv
  cases hv
  have hlt : i < Γ.length := (List.getElem?_eq_some_iff.mp hi).1
  obtain ⟨⟨a, xs, ds0, rfl, h1, h2, h3, h4⟩, hio⟩ : OwR R H x (.lst ds) ∧ ∀ n, kd = .io n → ∃ a, ios[n]? = some a ∧ x = .ref a := by
    cases kd with
    | frz => cases ho
    | own => exact ⟨s, fun _ z => nomatch z⟩
    | io n => exact ⟨s.1, fun m z => by cases z; exact s.2⟩
  cases h3
  have inj : ∀ j l z, Γ[j]? = some (some (l, z)) → owned l = true → σ[j]? = some (some (.ref a)) → j = i := fun j l z q1 q2 q3 => (er.dj i j kd l _ z a hi ho q1 q2 hx q3).symm
  have ow' : ∀ b, Ow σ (Γ.set i (some (kd, .lst ds'))) b → Ow σ Γ b := by
    rintro b ⟨j, l, z, q1, q2, q3⟩
    by_cases hj : j = i
    · subst hj
      rw [List.getElem?_set_self hlt] at q1
      cases q1
      exact ⟨j, kd, _, hi, ho, q3⟩
    · rw [List.getElem?_set_ne (Ne.symm hj)] at q1
      exact ⟨j, l, z, q1, q2, q3⟩
  refine ⟨a, xs, rfl, h2, h4, fun xs' h5 => ⟨⟨fun b o e => ?_, by rw [List.length_set]; exact er.len, fun j t hj => ?_, fun j j' l l' z z' b q1 q2 q3 q4 q5 q6 => ?_⟩, ⟨Same.refl _, fun b o h n => ?_, fun _ _ _ _ z => z, fun b z => .inl (ow' b z), fun b o h => ?_⟩, ow'⟩⟩
  · rw [upd_ne]
    · exact er.sub b o e
    · rintro rfl; rw [h1] at e; cases e
  · by_cases hji : j = i
    · subst hji
      rw [List.getElem?_set_self hlt] at hj
      cases hj
      refine ⟨_, hx, ?_⟩
      have z : OwR R (upd H a (.lst xs')) (.ref a) (.lst ds') := ⟨a, xs', ds', rfl, h1, upd_same, rfl, h5⟩
      cases kd with
      | frz => cases ho
      | own => exact z
      | io n => exact ⟨z, hio n rfl⟩
    · rw [List.getElem?_set_ne (Ne.symm hji)] at hj
      obtain ⟨v, hv, q⟩ := er.sl j t hj
      refine ⟨v, hv, q.mono (Same.refl _) fun ho' b ys eb hb rb => ⟨?_, rb⟩⟩
      rw [upd_ne]
      · exact hb
      · rintro rfl
        subst eb
        exact hji (inj j t.1 t.2 hj ho' hv)
  · have g : ∀ {j : Nat} {l : Kd} {z : D}, (Γ.set i (some (kd, .lst ds')))[j]? = some (some (l, z)) → ∃ z', Γ[j]? = some (some (l, z')) := by
      intro j l z q
      by_cases hji : j = i
      · subst hji; rw [List.getElem?_set_self hlt] at q; cases q; exact ⟨_, hi⟩
      · rw [List.getElem?_set_ne (Ne.symm hji)] at q; exact ⟨z, q⟩
    obtain ⟨z1, g1⟩ := g q1
    obtain ⟨z2, g2⟩ := g q3
    exact er.dj j j' l l' z1 z2 b g1 q2 g2 q4 q5 q6
  · rw [upd_ne]
    · exact h
    · rintro rfl; exact n ⟨i, kd, _, hi, ho, hx⟩
  · by_cases hb : b = a
    · subst hb; exact ⟨_, upd_same⟩
    · exact ⟨o, by rw [upd_ne hb]; exact h⟩
/-- a method that changes a list: what it makes of it, what it hands back -/
def MetV (r : V → List V → Hp → VK → Prop) (g : List D → List D → Option (List D × D)) : Prop := ∀ R H p xs ds ys es ds' res (Q : VK), Same R H → R p = none → H p = some (.lst xs) → Rps R xs ds → Rps R ys es → g ds es = some (ds', res) →
  (∀ xs' z, Rps R xs' ds' → Rp R z res → Q z (upd H p (.lst xs'))) → r (.ref p) ys H Q
def recv (i : Nat) : M Unit := fun Γ => match Γ[i]? with
  | some (some (kd, .lst _)) => if owned kd then .ok () Γ else .st
  | _ => .st
def metGo (i : Nat) (g : List D → List D → Option (List D × D)) (es : List D) : M RV := fun Γ => match Γ[i]? with
  | some (some (kd, .lst ds)) => if owned kd then match g ds es with
    | some (ds', res) => .ok (.val res) (Γ.set i (some (kd, .lst ds')))
    | none => .st else .st
  | _ => .st
def metM (i : Nat) (g : List D → List D → Option (List D × D)) (fs : M (List RV)) : M RV := M.bind (recv i) fun _ => M.bind fs fun rvs => M.bind (matAll rvs) fun es => metGo i g es
theorem tyV_lst {H : Hp} {p : Addr} {xs : List V} (h : H p = some (.lst xs)) : tyV K "list" (.ref p) H := .inl ⟨rfl, _, SqL.of h⟩
theorem recv_ok {i : Nat} {σ : St} {H R : Hp} {Γ : En} {K' : Unit → En → Prop} {E : Xc → En → Prop} (er : ER ios R H σ Γ) (w : wpM (recv i Γ) K' E) : ∃ p xs, σ[i]? = some (some (.ref p)) ∧ H p = some (.lst xs) ∧ K' () Γ := by
  unfold recv at w
  split at w
  · rename_i kd ds q
    split at w
    · rename_i ho
      obtain ⟨v, hv, s⟩ := er.sl i _ q
      obtain ⟨p, xs, rfl, h2, _⟩ := er.mut (ds' := ds) q ho hv
      exact ⟨p, xs, hv, h2, w⟩
    · exact False.elim w
  · exact False.elim w
theorem metGo_ok {i : Nat} {r : V → List V → Hp → VK → Prop} {g : List D → List D → Option (List D × D)} (hv : MetV r g) {R0 H0 R H : Hp} {σ : St} {Γ0 Γ : En} {p : Addr} {ys : List V} {es : List D} {Q : VK} {E : Xc → En → Prop} (p1 : EPo ios R0 H0 σ Γ0 R H Γ)
    (hσ : σ[i]? = some (some (.ref p))) (hys : Rps R ys es) (w : wpM (metGo i g es Γ) (fun rv Γ' => ∀ x H' R', EPo ios R0 H0 σ Γ0 R' H' Γ' → RvR R' H0 H' σ x rv → Q x H') E) : r (.ref p) ys H Q := by
  unfold metGo at w
  split at w
  · rename_i kd ds q
    split at w
    · rename_i ho
      split at w
      · rename_i ds' res hg
        obtain ⟨p', xs, e, h2, h3, k⟩ := p1.er.mut (ds' := ds') q ho hσ
        cases e
        have hr : R p = none := (p1.er.ow ⟨i, kd, _, q, ho, hσ⟩).1
        exact hv R H p xs ds ys es ds' res Q p1.er.sub hr h2 h3 hys hg fun xs' z hxs hz => w z _ R (p1.trans (k xs' hxs)) hz
      · exact False.elim w
    · exact False.elim w
  · exact False.elim w
theorem ve_met {i : Nat} {r : V → List V → Hp → VK → Prop} {g : List D → List D → Option (List D × D)} {e0 : Expr} (hp : ∀ t, PA X es t → PE X e0 (tBM X.K "list" r (tVar i) t)) (hv : MetV r g) (ha : VA X EE ios es fs) : VE X EE ios e0 (metM i g fs) := by
  obtain ⟨t, h1, h2⟩ := ha
  refine ⟨_, hp t h1, fun σ H R Γ Q er w => ?_⟩
  unfold metM at w
  rw [wpM_bind] at w
  obtain ⟨p, xs0, hσ, h0, w⟩ := recv_ok er w
  have ty := tyV_lst (K := X.K) h0
  refine ⟨_, hσ, ty, ?_⟩
  rw [wpM_bind] at w
  refine h2 σ H R Γ _ er (wpM_mono w (fun rvs Γ1 w xs H1 R1 p1 hx => ?_) fun _ _ z => z)
  rw [wpM_bind] at w
  obtain ⟨ds, Γ2, R2, p2, s2, r2, w⟩ := matAll_ok er p1 hx w
  exact metGo_ok hv p2 hσ r2 w
def appendG (ds es : List D) : Option (List D × D) := match es with
  | [d] => if ds.length < sizeLine then some (ds ++ [d], .non) else none
  | _ => none
theorem metv_append : MetV rAppend appendG := by
  intro R H p xs ds ys es ds' res Q s hr hp hx hy hg q
  unfold appendG at hg
  split at hg
  · split at hg
    · rename_i c
      cases hg
      cases hy with
      | cons h1 h2 =>
        cases h2
        exact ⟨p, xs, _, rfl, rfl, hp, by rw [hx.len]; exact c, q _ _ (hx.app (.cons h1 .nil)) .non⟩
    · cases hg
  · cases hg
end
end Dv
end

section
set_option Elab.async false
set_option linter.all false
set_option maxRecDepth 100000
set_option maxHeartbeats 5000000
namespace Dv
open PySem L2 Ex
variable [KC]
/-- how a statement ends -/
inductive Fl where
  | nx | ret (rv : RV) | brk | cont
structure SPo (ios : List Addr) (R H : Hp) (σ : St) (Γ : En) (R' H' : Hp) (σ' : St) (Γ' : En) : Prop where
  er : ER ios R' H' σ' Γ'
  go : Go (Ow σ Γ) R H (Ow σ' Γ') R' H'
section
variable {ios : List Addr} {R H R1 H1 R2 H2 : Hp} {σ σ1 σ2 : St} {Γ Γ1 Γ2 : En}
theorem SPo.refl (e : ER ios R H σ Γ) : SPo ios R H σ Γ R H σ Γ := ⟨e, Go.refl⟩
theorem SPo.trans (a : SPo ios R H σ Γ R1 H1 σ1 Γ1) (b : SPo ios R1 H1 σ1 Γ1 R2 H2 σ2 Γ2) : SPo ios R H σ Γ R2 H2 σ2 Γ2 := ⟨b.er, a.go.trans b.go⟩
theorem EPo.spo (a : EPo ios R H σ Γ R1 H1 Γ1) : SPo ios R H σ Γ R1 H1 σ Γ1 := ⟨a.er, a.go⟩
theorem SPo.back (h : SPo ios R H σ Γ R1 H1 σ1 Γ1) : ∀ b, H1 b = none → H b = none := fun b hb => by
  cases q : H b with
  | none => rfl
  | some o => obtain ⟨o', z⟩ := h.go.th b o q; rw [hb] at z; cases z
theorem rv_since {R' H' : Hp} {σ' : St} {x : V} {rv : RV} (p1 : ∀ b, H1 b = none → H b = none) (h : RvR R' H1 H' σ' x rv) : RvR R' H H' σ' x rv := by
  cases rv with
  | val d => exact h
  | new d => obtain ⟨h1, a, h2, h3⟩ := h; exact ⟨h1, a, h2, p1 _ h3⟩
  | var i => exact h
end
def EXS (EE : XKS) (ios : List Addr) (R H : Hp) (σ : St) (Γ : En) : Xc → En → Prop := fun x Γ' => ∀ e σ' H' R', SPo ios R H σ Γ R' H' σ' Γ' → XcR R' H' e x → EE σ' (.ref x.C) (some e) H'
theorem EXS.exp {EE : XKS} {ios : List Addr} {R H : Hp} {σ : St} {Γ : En} {x : Xc} {Γ' : En} (h : EXS EE ios R H σ Γ x Γ') : EXP EE ios R H σ Γ x Γ' := fun e H' R' p q => h e σ H' R' p.spo q
theorem EXS.trans {EE : XKS} {ios : List Addr} {R H R1 H1 : Hp} {σ σ1 : St} {Γ Γ1 : En} (a : SPo ios R H σ Γ R1 H1 σ1 Γ1) {x : Xc} {Γ' : En} (h : EXS EE ios R H σ Γ x Γ') : EXS EE ios R1 H1 σ1 Γ1 x Γ' := fun e σ' H' R' b q => h e σ' H' R' (a.trans b) q
def FlK (ios : List Addr) (R H : Hp) (σ : St) (Γ : En) (D : Ends) : Fl → En → Prop := fun fl Γ' => ∀ σ' H' R', SPo ios R H σ Γ R' H' σ' Γ' → match fl with
  | .nx => D.nx σ' H'
  | .brk => D.bk σ' H'
  | .cont => D.ct σ' H'
  | .ret rv => ∀ x, RvR R' H H' σ' x rv → D.rt x H'
def RdS (EE : XKS) (ios : List Addr) (t : TS) (f : M Fl) : Prop := ∀ σ H R Γ D, ER ios R H σ Γ → wpM (f Γ) (FlK ios R H σ Γ D) (EXS EE ios R H σ Γ) → t D σ H
def VS (X : Cx) (EE : XKS) (ios : List Addr) (st : Stmt) (f : M Fl) : Prop := ∃ t, PS X st t ∧ RdS EE ios t f
def VSs (X : Cx) (EE : XKS) (ios : List Addr) (st : List Stmt) (f : M Fl) : Prop := ∃ t, PSs X st t ∧ RdS EE ios t f
section
variable {X : Cx} {EE : XKS} {ios : List Addr} {e a b c : Expr} {es : List Expr} {f g k : M RV} {fs : M (List RV)} {p : M Bool} {s s' : M Fl} {st : Stmt} {sts sts' : List Stmt} {pos : Pos}
theorem vss_nil : VSs X EE ios [] (M.pure .nx) := ⟨_, pss_nil, fun σ H R Γ D er w => w σ H R (SPo.refl er)⟩
def seqM (f g : M Fl) : M Fl := M.bind f fun fl => match fl with
  | .nx => g
  | fl => M.pure fl
theorem vss_cons (h : VS X EE ios st s) (h' : VSs X EE ios sts s') : VSs X EE ios (st :: sts) (seqM s s') := by
  obtain ⟨t, h1, h2⟩ := h
  obtain ⟨u, h3, h4⟩ := h'
  refine ⟨_, pss_cons h1 h3, fun σ H R Γ D er w => ?_⟩
  unfold seqM at w
  rw [wpM_bind] at w
  refine h2 σ H R Γ _ er (wpM_mono w (fun fl Γ1 w σ1 H1 R1 p1 => ?_) fun _ _ z => z)
  cases fl with
  | nx =>
    refine h4 σ1 H1 R1 Γ1 D p1.er (wpM_mono w (fun fl Γ2 w σ2 H2 R2 p2 => ?_) fun _ _ z => EXS.trans p1 z)
    have := w σ2 H2 R2 (p1.trans p2)
    cases fl with
    | nx => exact this
    | brk => exact this
    | cont => exact this
    | ret rv => exact fun x hx => this x (rv_since p1.back hx)
  | brk => exact w σ1 H1 R1 p1
  | cont => exact w σ1 H1 R1 p1
  | ret rv => exact w σ1 H1 R1 p1
theorem vss_one (h : VS X EE ios st s) : VSs X EE ios [st] s := let ⟨_, h1, h2⟩ := h; ⟨_, pss_one h1, h2⟩
theorem vs_never : VS X EE ios st M.st := ⟨_, ps_never, fun σ H R Γ D er w => w⟩
def dropM (f : M RV) : M Fl := M.bind f fun _ => M.pure .nx
theorem vs_expr (h : VE X EE ios e f) (hs : swapsWith e none pos.line X.env = pure false := by rfl) : VS X EE ios (.Expr e pos) (dropM f) := by
  obtain ⟨t, h1, h2⟩ := h
  refine ⟨_, ps_expr h1 hs, fun σ H R Γ D er w => ?_⟩
  unfold dropM at w
  rw [wpM_bind] at w
  exact h2 σ H R Γ _ er (wpM_mono w (fun rv Γ1 w x H1 R1 p1 hx => w σ H1 R1 p1.spo) fun _ _ z => z.exp)
def retM (f : M RV) : M Fl := M.bind f fun rv => M.pure (.ret rv)
theorem vs_ret (h : VE X EE ios e f) : VS X EE ios (.Return (some e) pos) (retM f) := by
  obtain ⟨t, h1, h2⟩ := h
  refine ⟨_, ps_ret h1, fun σ H R Γ D er w => ?_⟩
  unfold retM at w
  rw [wpM_bind] at w
  exact h2 σ H R Γ _ er (wpM_mono w (fun rv Γ1 w x H1 R1 p1 hx => w σ H1 R1 p1.spo x hx) fun _ _ z => z.exp)
def ifM (p : M Bool) (s s' : M Fl) : M Fl := M.bind p fun b => if b then s else s'
theorem vs_if (hc : VT X EE ios c p) (h : VSs X EE ios sts s) (h' : VSs X EE ios sts' s') : VS X EE ios (.If c sts sts' pos) (ifM p s s') := by
  obtain ⟨_, h0, h0'⟩ := hc
  obtain ⟨t, h1, h2⟩ := h
  obtain ⟨u, h3, h4⟩ := h'
  refine ⟨_, ps_if h0 h1 h3, fun σ H R Γ D er w => ?_⟩
  unfold ifM at w
  rw [wpM_bind] at w
  refine h0' σ H R Γ _ er (wpM_mono w (fun b Γ1 w H1 R1 p1 => ?_) fun _ _ z => z.exp)
  have go : ∀ fl Γ2, FlK ios R H σ Γ D fl Γ2 → FlK ios R1 H1 σ Γ1 D fl Γ2 := fun fl Γ2 w σ2 H2 R2 p2 => by
    have := w σ2 H2 R2 (p1.spo.trans p2)
    cases fl with
    | nx => exact this
    | brk => exact this
    | cont => exact this
    | ret rv => exact fun x hx => this x (rv_since p1.spo.back hx)
  cases b with
  | true => exact iteT (h2 σ H1 R1 Γ1 D p1.er (wpM_mono w go fun _ _ z => EXS.trans p1.spo z))
  | false => exact iteF (h4 σ H1 R1 Γ1 D p1.er (wpM_mono w go fun _ _ z => EXS.trans p1.spo z))
/-! stores -/
def setS (i : Nat) (s : Kd × D) : M Unit := fun Γ => .ok () (Γ.set i (some s))
theorem ow_setn {σ : St} {Γ : En} {i : Nat} {x : V} {s : Kd × D} {b : Addr} (h : Ow (σ.set i (some x)) (Γ.set i (some s)) b) : Ow σ Γ b ∨ (owned s.1 = true ∧ x = .ref b) := by
  obtain ⟨j, k, d, h1, h2, h3⟩ := h
  by_cases hj : j = i
  · subst hj
    have l1 : j < Γ.length := by have := (List.getElem?_eq_some_iff.mp h1).1; rwa [List.length_set] at this
    have l2 : j < σ.length := by have := (List.getElem?_eq_some_iff.mp h3).1; rwa [List.length_set] at this
    rw [List.getElem?_set_self l1] at h1
    rw [List.getElem?_set_self l2] at h3
    cases h1
    cases h3
    exact .inr ⟨h2, rfl⟩
  · rw [List.getElem?_set_ne (Ne.symm hj)] at h1 h3
    exact .inl ⟨j, k, d, h1, h2, h3⟩
/-- a name is stored -/
theorem SPo.set {R H R1 H1 : Hp} {σ : St} {Γ Γ1 : En} {i : Nat} {x : V} {s : Kd × D} (er : ER ios R H σ Γ) (p1 : EPo ios R H σ Γ R1 H1 Γ1) (hs : SlR ios R1 H1 x s) (hn : owned s.1 = true → ∀ a, x = .ref a → H a = none) :
    SPo ios R H σ Γ R1 H1 (σ.set i (some x)) (Γ1.set i (some s)) := by
  have hfresh : owned s.1 = true → ∀ a, x = .ref a → ¬ Ow σ Γ1 a := fun ho a ea z => by
    obtain ⟨_, xs, q⟩ := er.ow (p1.sh a z)
    rw [hn ho a ea] at q; cases q
  refine ⟨⟨p1.er.sub, by rw [List.length_set, List.length_set]; exact p1.er.len, fun j t hj => ?_, fun j j' l l' d d' b q1 q2 q3 q4 q5 q6 => ?_⟩, ⟨p1.go.rr, p1.go.hh, p1.go.no, fun b z => ?_, p1.go.th⟩⟩
  · by_cases hji : j = i
    · subst hji
      have l1 : j < Γ1.length := by have := (List.getElem?_eq_some_iff.mp hj).1; rwa [List.length_set] at this
      rw [List.getElem?_set_self l1] at hj
      cases hj
      exact ⟨x, by rw [List.getElem?_set_self (by rw [p1.er.len]; exact l1)], hs⟩
    · rw [List.getElem?_set_ne (Ne.symm hji)] at hj ⊢
      exact p1.er.sl j t hj
  · by_cases h1 : j = i
    · by_cases h2 : j' = i
      · rw [h1, h2]
      · subst h1
        have l1 : j < Γ1.length := by have := (List.getElem?_eq_some_iff.mp q1).1; rwa [List.length_set] at this
        rw [List.getElem?_set_self l1] at q1
        rw [List.getElem?_set_self (by rw [p1.er.len]; exact l1)] at q5
        rw [List.getElem?_set_ne (Ne.symm h2)] at q3 q6
        cases q1; cases q5
        exact absurd ⟨j', l', d', q3, q4, q6⟩ (hfresh q2 b rfl)
    · by_cases h2 : j' = i
      · subst h2
        have l1 : j' < Γ1.length := by have := (List.getElem?_eq_some_iff.mp q3).1; rwa [List.length_set] at this
        rw [List.getElem?_set_self l1] at q3
        rw [List.getElem?_set_self (by rw [p1.er.len]; exact l1)] at q6
        rw [List.getElem?_set_ne (Ne.symm h1)] at q1 q5
        cases q3; cases q6
        exact absurd ⟨j, l, d, q1, q2, q5⟩ (hfresh q4 b rfl)
      · rw [List.getElem?_set_ne (Ne.symm h1)] at q1 q5
        rw [List.getElem?_set_ne (Ne.symm h2)] at q3 q6
        exact p1.er.dj j j' l l' d d' b q1 q2 q3 q4 q5 q6
  · rcases ow_setn z with z | ⟨ho, rfl⟩
    · exact .inl (p1.sh b z)
    · exact .inr (hn ho b rfl)
def asgM (i : Nat) (f : M RV) : M Fl := M.bind f fun rv => M.bind (match rv with
  | .new d => setS i (.own, d)
  | .val d => setS i (.frz, d)
  | .var j => M.bind (mat (.var j)) fun d => setS i (.frz, d)) fun _ => M.pure .nx
theorem rd_asg {t : TE} {i : Nat} (h : RdE EE ios t f) : RdS EE ios (tAsg t (gName i)) (asgM i f) := by
  intro σ H R Γ D er w
  unfold asgM at w
  rw [wpM_bind] at w
  refine h σ H R Γ _ er (wpM_mono w (fun rv Γ1 w x H1 R1 p1 hx => ?_) fun _ _ z => z.exp)
  show D.nx (σ.set i (some x)) H1
  rw [wpM_bind] at w
  cases rv with
  | val d => exact w _ H1 R1 (SPo.set er p1 (s := (.frz, d)) hx fun z => by cases z)
  | new d =>
    obtain ⟨h1, a, h2, h3⟩ := hx
    exact w _ H1 R1 (SPo.set er p1 (s := (.own, d)) h1 fun _ b eb => by rw [h2] at eb; cases eb; exact h3)
  | var j =>
    rw [wpM_bind] at w
    obtain ⟨d, Γ2, R2, p2, _, r2, w⟩ := mat_ok er p1 hx w
    exact w _ H1 R2 (SPo.set er p2 (s := (.frz, d)) r2 fun z => by cases z)
theorem vs_set {i : Nat} {x : Str} {pos' : Pos} (hN : X.N.Nodup) (hi : X.N[i]? = some x) (hx : Loc X.env.scope x) (he : VE X EE ios e f) (hs : swapsWith e (some (.Name x pos')) pos.line X.env = pure false := by rfl) (hf : X.fn x = true ∨ X.env.scope.names.lookup x = some .local := by first | exact .inl rfl | exact .inr rfl | assumption) :
    VS X EE ios (.Assign [.Name x pos'] e pos) (asgM i f) := let ⟨_, h1, h2⟩ := he; ⟨_, ps_set hN hi hx h1 hs hf, rd_asg h2⟩
/-! targets that take a plain value -/
def NoX : Xc → En → Prop := fun _ _ => False
def RdG (ios : List Addr) (n : Nat) (g : TG) (m : D → M Unit) : Prop := ∀ σ H R Γ v d (Q : St → Hp → Prop), ER ios R H σ Γ → Rp R v d →
  wpM (m d Γ) (fun _ Γ' => ∀ σ' H' R', SPo ios R H σ Γ R' H' σ' Γ' → (∀ k, n ≤ k → σ'[k]? = σ[k]?) → Same R R' → Q σ' H') NoX → g v σ H Q
def RdGs (ios : List Addr) (n : Nat) (g : TGs) (m : List D → M Unit) : Prop := ∀ σ H R Γ vs ds (Q : St → Hp → Prop), ER ios R H σ Γ → Rps R vs ds →
  wpM (m ds Γ) (fun _ Γ' => ∀ σ' H' R', SPo ios R H σ Γ R' H' σ' Γ' → (∀ k, n ≤ k → σ'[k]? = σ[k]?) → Same R R' → Q σ' H') NoX → g vs σ H Q
def gN (i : Nat) (d : D) : M Unit := setS i (.frz, d)
theorem rd_gname {i n : Nat} (h : i < n) : RdG ios n (gName i) (gN i) := fun σ H R Γ v d Q er hv w =>
  w _ H R (SPo.set er (EPo.refl er) (s := (.frz, d)) hv fun z => by cases z) (fun k hk => List.getElem?_set_ne (by omega)) (Same.refl _)
def gs0 : List D → M Unit
  | [] => M.pure ()
  | _ => M.st
def gsC (m : D → M Unit) (ms : List D → M Unit) : List D → M Unit
  | d :: r => M.bind (m d) fun _ => ms r
  | [] => M.st
theorem rd_gnil {n : Nat} : RdGs ios n gNil gs0 := fun σ H R Γ vs ds Q er hv w => by
  cases hv with
  | nil => exact ⟨rfl, w σ H R (SPo.refl er) (fun _ _ => rfl) (Same.refl _)⟩
  | cons _ _ => exact False.elim w
theorem rd_gcons {n : Nat} {g : TG} {gs : TGs} {m : D → M Unit} {ms : List D → M Unit} (h : RdG ios n g m) (h' : RdGs ios n gs ms) : RdGs ios n (gCons g gs) (gsC m ms) := fun σ H R Γ vs ds Q er hv w => by
  cases hv with
  | nil => exact False.elim w
  | cons h1 h2 =>
    refine ⟨_, _, rfl, ?_⟩
    unfold gsC at w
    rw [wpM_bind] at w
    refine h σ H R Γ _ _ _ er h1 (wpM_mono w (fun _ Γ1 w σ1 H1 R1 p1 k1 s1 => ?_) fun _ _ z => z)
    exact h' σ1 H1 R1 Γ1 _ _ _ p1.er (h2.sm s1) (wpM_mono w (fun _ Γ2 w σ2 H2 R2 p2 k2 s2 => w σ2 H2 R2 (p1.trans p2) (fun k hk => (k2 k hk).trans (k1 k hk)) (s1.trans s2)) fun _ _ z => z)
def gT (n : Nat) (ms : List D → M Unit) : D → M Unit
  | .tup ds => if ds.length = n then ms ds else M.st
  | _ => M.st
theorem rd_gtup {n m : Nat} {K : PySem.W.Frag} {gs : TGs} {ms : List D → M Unit} (h : RdGs ios n gs ms) : RdG ios n (gTup K m gs) (gT m ms) := fun σ H R Γ v d Q er hv w => by
  unfold gT at w
  split at w
  · split at w
    · rename_i c
      cases hv with
      | tup e q => exact ⟨_, _, rfl, SqT.of (er.sub _ _ e), by rw [q.len]; exact c, h σ H R Γ _ _ Q er q w⟩
    · exact False.elim w
  · exact False.elim w
def g2 (ms : List D → M Unit) : D → M Unit
  | .lst [x, y] => ms [x, y]
  | _ => M.st
theorem rd_gtwo {n : Nat} {K : PySem.W.Frag} {gs : TGs} {ms : List D → M Unit} (h : RdGs ios n gs ms) : RdG ios n (gTwo K gs) (g2 ms) := fun σ H R Γ v d Q er hv w => by
  unfold g2 at w
  split at w
  · cases hv with
    | lst e q =>
      cases q with
      | cons q1 q2 =>
        cases q2 with
        | cons q2 q3 =>
          cases q3
          exact ⟨_, _, _, rfl, SqL.of (er.sub _ _ e), h σ H R Γ _ _ Q er (.cons q1 (.cons q2 .nil)) w⟩
  · exact False.elim w
/-- a target = e, the value laid still -/
def noX (m : M Unit) : M Unit := fun Γ => match m Γ with
  | .ok a Γ' => .ok a Γ'
  | _ => .st
def asgG (m : D → M Unit) (f : M RV) : M Fl := M.bind f fun rv => M.bind (mat rv) fun d => M.bind (noX (m d)) fun _ => M.pure .nx
theorem wp_noX {m : M Unit} {Γ : En} {K : Unit → En → Prop} {E : Xc → En → Prop} (h : wpM (noX m Γ) K E) : wpM (m Γ) K NoX := by
  unfold noX at h
  cases q : m Γ with
  | ok a Γ' => rw [q] at h; exact h
  | ex x Γ' => rw [q] at h; exact False.elim h
  | st => rw [q] at h; exact False.elim h
theorem rd_asgG {t : TE} {g : TG} {m : D → M Unit} {n : Nat} (h : RdE EE ios t f) (hg : RdG ios n g m) : RdS EE ios (tAsg t g) (asgG m f) := by
  intro σ H R Γ D er w
  unfold asgG at w
  rw [wpM_bind] at w
  refine h σ H R Γ _ er (wpM_mono w (fun rv Γ1 w x H1 R1 p1 hx => ?_) fun _ _ z => z.exp)
  rw [wpM_bind] at w
  obtain ⟨d, Γ2, R2, p2, _, r2, w⟩ := mat_ok er p1 hx w
  rw [wpM_bind] at w
  exact hg σ H1 R2 Γ2 x d _ p2.er r2 (wpM_mono (wp_noX w) (fun _ Γ3 w σ3 H3 R3 p3 _ _ => w σ3 H3 R3 (p2.spo.trans p3)) fun _ _ z => z)
theorem vs_asg {tg : Expr} {g : TG} {m : D → M Unit} {n : Nat} (he : VE X EE ios e f) (hr : RdG ios n g m) (hp : ∀ t, PE X e t → PS X (.Assign [tg] e pos) (tAsg t g)) : VS X EE ios (.Assign [tg] e pos) (asgG m f) :=
  let ⟨_, h1, h2⟩ := he; ⟨_, hp _ h1, rd_asgG h2 hr⟩
/-! an item of a list that is a name's own -/
def setAt (j : Nat) (d di : D) : M Unit := fun Γ => match Γ[j]?, di with
  | some (some (kd, .lst ds)), .int i => if owned kd then match ixN ds.length i with
    | some k => .ok () (Γ.set j (some (kd, .lst (ds.set k d))))
    | none => .st else .st
  | _, _ => .st
def gS (j : Nat) (fi : M RV) (d : D) : M Unit := M.bind (recv j) fun _ => M.bind fi fun ri => M.bind (peek ri) fun di => setAt j d di
theorem rd_gsub {j n : Nat} {ti : TE} {fi : M RV} (hi : RdE EE ios ti fi) : RdG ios n (gSub (tVar j) ti rSetL) (gS j fi) := fun σ H R Γ v d Q er hv w => by
  unfold gS at w
  rw [wpM_bind] at w
  obtain ⟨p, _, hσ, _, w⟩ := recv_ok er w
  refine ⟨_, hσ, ?_⟩
  rw [wpM_bind] at w
  refine hi σ H R Γ _ er (wpM_mono w (fun ri Γ1 w y H1 R1 p1 hy => ?_) fun _ _ z => z.elim)
  rw [wpM_bind] at w
  obtain ⟨di, pd, w⟩ := peek_ok p1.er hy w
  unfold setAt at w
  split at w
  · rename_i kd ds i q
    split at w
    · rename_i ho
      split at w
      · rename_i k hk
        obtain ⟨p', xs, e, h2, h3, m⟩ := p1.er.mut (ds' := ds.set k d) q ho hσ
        cases e
        exact ⟨p, xs, i, k, rfl, pd.int, h2, by rw [h3.len]; exact hk, w σ _ R1 (p1.trans (m _ (h3.set (hv.sm p1.go.rr) k))).spo (fun _ _ => rfl) p1.go.rr⟩
      · exact False.elim w
    · exact False.elim w
  · exact False.elim w
/-! what a loop goes over -/
def ItR (J : It) (R0 : Hp) (items : List D) : Prop := ∀ (i : Nat) (H R : Hp), Same R0 R → Same R H →
  (∀ d, items[i]? = some d → J.go i H ∧ ∀ x H', J.yld i H x H' → ∃ R', Al R H R' H' ∧ Rp R' x d) ∧ (items.length ≤ i → J.stop i H)
def RdI (EE : XKS) (ios : List Addr) (wi : TI) (f : M (List D)) : Prop := ∀ σ H R Γ Rk, ER ios R H σ Γ →
  wpM (f Γ) (fun items Γ' => ∀ J H' R', EPo ios R H σ Γ R' H' Γ' → ItR J R' items → Rk J H') (EXP EE ios R H σ Γ) → wi σ H Rk
def VI (X : Cx) (EE : XKS) (ios : List Addr) (tg iter : Expr) (f : M (List D)) : Prop := ∃ wi, PI X tg iter wi ∧ RdI EE ios wi f
variable {tg : Expr}
def lstI (f : M RV) : M (List D) := M.bind f fun rv => M.bind (mat rv) fun d => match d with
  | .lst ds => M.pure ds
  | .scr ns => M.pure (ns.map D.int)
  | _ => M.st
def tupI (f : M RV) : M (List D) := M.bind f fun rv => M.bind (mat rv) fun d => match d with
  | .tup ds => M.pure ds
  | _ => M.st
theorem itl_ok {K : PySem.W.Frag} {R0 : Hp} {a : Addr} {xs : List V} {ds : List D} (h : ∀ H, Same R0 H → SqL K H a xs) (r : Rps R0 xs ds) : ItR (Itl K a) R0 ds := by
  intro i H R s1 s2
  have s := s1.trans s2
  refine ⟨fun d hd => ?_, fun hl => ⟨xs, h H s, by rw [r.len]; exact hl⟩⟩
  obtain ⟨x, hx, rx⟩ := r.ta hd
  refine ⟨⟨xs, x, h H s, hx⟩, fun y H' hy => ?_⟩
  obtain ⟨rfl, hy⟩ := hy
  have := hy xs (h _ s)
  rw [hx] at this
  cases this
  exact ⟨R, Al.refl s2, rx.sm s1⟩
theorem itt_ok {K : PySem.W.Frag} {R0 : Hp} {a : Addr} {xs : List V} {ds : List D} (h : ∀ H, Same R0 H → SqT K H a xs) (r : Rps R0 xs ds) : ItR (Itt K a) R0 ds := by
  intro i H R s1 s2
  have s := s1.trans s2
  refine ⟨fun d hd => ?_, fun hl => ⟨xs, h H s, by rw [r.len]; exact hl⟩⟩
  obtain ⟨x, hx, rx⟩ := r.ta hd
  refine ⟨⟨xs, x, h H s, hx⟩, fun y H' hy => ?_⟩
  obtain ⟨rfl, hy⟩ := hy
  have := hy xs (h _ s)
  rw [hx] at this
  cases this
  exact ⟨R, Al.refl s2, rx.sm s1⟩
theorem vi_list (h : VE X EE ios e f) (hK : X.K = KC.K := by rfl) : VI X EE ios tg e (lstI f) := by
  obtain ⟨t, h1, h2⟩ := h
  refine ⟨_, pi_list h1, fun σ H R Γ Rk er w => ?_⟩
  unfold lstI at w
  rw [wpM_bind] at w
  refine h2 σ H R Γ _ er (wpM_mono w (fun rv Γ1 w x H1 R1 p1 hx => ?_) fun _ _ z => z)
  rw [wpM_bind] at w
  obtain ⟨d, Γ2, R2, p2, _, r2, w⟩ := mat_ok er p1 hx w
  split at w
  · cases r2 with
    | lst e q => exact ⟨_, rfl, ⟨_, SqL.of (p2.er.sub _ _ e)⟩, w _ H1 R2 p2 (itl_ok (fun H s => SqL.of (s _ _ e)) q)⟩
  · cases r2 with
    | scr e => exact ⟨_, rfl, ⟨_, by rw [hK]; exact p2.er.sub.seq e⟩, w _ H1 R2 p2 (itl_ok (fun H s => by rw [hK]; exact s.seq e) (Rps.ints _))⟩
  · exact False.elim w
theorem vi_tup (h : VE X EE ios e f) : VI X EE ios tg e (tupI f) := by
  obtain ⟨t, h1, h2⟩ := h
  refine ⟨_, pi_tup h1, fun σ H R Γ Rk er w => ?_⟩
  unfold tupI at w
  rw [wpM_bind] at w
  refine h2 σ H R Γ _ er (wpM_mono w (fun rv Γ1 w x H1 R1 p1 hx => ?_) fun _ _ z => z)
  rw [wpM_bind] at w
  obtain ⟨d, Γ2, R2, p2, _, r2, w⟩ := mat_ok er p1 hx w
  split at w
  · cases r2 with
    | tup e q => exact ⟨_, rfl, ⟨_, SqT.of (p2.er.sub _ _ e)⟩, w _ H1 R2 p2 (itt_ok (fun H s => SqT.of (s _ _ e)) q)⟩
  · exact False.elim w
/-- lo, lo + 1, .. -/
def upI (lo : Int) (n : Nat) : List D := (List.range n).map fun (i : Nat) => D.int (lo + i)
theorem itr_ok {R0 : Hp} {lo : Int} {n : Nat} : ItR (Itr lo n) R0 (upI lo n) := by
  intro i H R s1 s2
  refine ⟨fun d hd => ?_, fun hl => show n ≤ i by simpa [upI] using hl⟩
  unfold upI at hd
  rw [List.getElem?_map] at hd
  cases q : (List.range n)[i]? with
  | none => rw [q] at hd; cases hd
  | some j =>
    rw [q] at hd
    cases hd
    obtain ⟨h1, h2⟩ := List.getElem?_eq_some_iff.mp q
    rw [List.getElem_range] at h2
    subst h2
    refine ⟨show i < n by simpa using h1, fun x H' hx => ?_⟩
    obtain ⟨rfl, rfl⟩ := hx
    exact ⟨R, Al.refl s2, .int _⟩
noncomputable def small (j : Int) : Bool := cd (-(2 ^ 62) ≤ j ∧ j < 2 ^ 62)
noncomputable def rng1 (fs : M (List RV)) : M (List D) := M.bind fs fun rvs => match rvs with
  | [.val (.int j)] => if small j then M.pure (upI 0 j.toNat) else M.st
  | _ => M.st
noncomputable def rng2 (fs : M (List RV)) : M (List D) := M.bind fs fun rvs => match rvs with
  | [.val (.int i), .val (.int j)] => if small i && small j then M.pure (upI i (j - i).toNat) else M.st
  | _ => M.st
theorem vi_rng1 {e0 : Expr} (hp : ∀ t, PA X es t → PI X tg e0 (iRng1 t)) (ha : VA X EE ios es fs) : VI X EE ios tg e0 (rng1 fs) := by
  obtain ⟨t, h1, h2⟩ := ha
  refine ⟨_, hp t h1, fun σ H R Γ Rk er w => ?_⟩
  unfold rng1 at w
  rw [wpM_bind] at w
  refine h2 σ H R Γ _ er (wpM_mono w (fun rvs Γ1 w xs H1 R1 p1 hx => ?_) fun _ _ z => z)
  split at w
  · split at w
    · rename_i c
      have c := of_cd c
      cases hx with
      | cons a b =>
        cases b
        cases a
        exact ⟨_, rfl, c.1, c.2, w _ H1 R1 p1 itr_ok⟩
    · exact False.elim w
  · exact False.elim w
theorem vi_rng2 {e0 : Expr} (hp : ∀ t, PA X es t → PI X tg e0 (iRng2 t)) (ha : VA X EE ios es fs) : VI X EE ios tg e0 (rng2 fs) := by
  obtain ⟨t, h1, h2⟩ := ha
  refine ⟨_, hp t h1, fun σ H R Γ Rk er w => ?_⟩
  unfold rng2 at w
  rw [wpM_bind] at w
  refine h2 σ H R Γ _ er (wpM_mono w (fun rvs Γ1 w xs H1 R1 p1 hx => ?_) fun _ _ z => z)
  split at w
  · split at w
    · rename_i c
      rw [Bool.and_eq_true] at c
      have c1 := of_cd c.1
      have c2 := of_cd c.2
      cases hx with
      | cons a b =>
        cases b with
        | cons b c' =>
          cases c'
          cases a
          cases b
          exact ⟨_, _, rfl, ⟨c1.1, c1.2, c2.1, c2.2⟩, w _ H1 R1 p1 itr_ok⟩
    · exact False.elim w
  · exact False.elim w
/-- lo, lo + c, .. -/
def upC (lo c : Int) (n : Nat) : List D := (List.range n).map fun (i : Nat) => D.int (lo + i * c)
theorem itr3_ok {R0 : Hp} {lo c : Int} {n : Nat} : ItR (Itr3 lo c n) R0 (upC lo c n) := by
  intro i H R s1 s2
  refine ⟨fun d hd => ?_, fun hl => show n ≤ i by simpa [upC] using hl⟩
  unfold upC at hd
  rw [List.getElem?_map] at hd
  cases q : (List.range n)[i]? with
  | none => rw [q] at hd; cases hd
  | some j =>
    rw [q] at hd
    cases hd
    obtain ⟨h1, h2⟩ := List.getElem?_eq_some_iff.mp q
    rw [List.getElem_range] at h2
    subst h2
    refine ⟨show i < n by simpa using h1, fun x H' hx => ?_⟩
    obtain ⟨rfl, rfl⟩ := hx
    exact ⟨R, Al.refl s2, .int _⟩
noncomputable def rng3 (fs : M (List RV)) : M (List D) := M.bind fs fun rvs => match rvs with
  | [.val (.int i), .val (.int j), .val (.int c)] => if cd (c ≠ 0 ∧ c.natAbs < 1073741824 ∧ Builtin.Range.small i j c = true ∧ 0 ≤ Builtin.Range.rangeSize i j c) then M.pure (upC i c (Builtin.Range.rangeSize i j c).toNat) else M.st
  | _ => M.st
theorem vi_rng3 {e0 : Expr} (hp : ∀ t, PA X es t → PI X tg e0 (iRng3 t)) (ha : VA X EE ios es fs) : VI X EE ios tg e0 (rng3 fs) := by
  obtain ⟨t, h1, h2⟩ := ha
  refine ⟨_, hp t h1, fun σ H R Γ Rk er w => ?_⟩
  unfold rng3 at w
  rw [wpM_bind] at w
  refine h2 σ H R Γ _ er (wpM_mono w (fun rvs Γ1 w xs H1 R1 p1 hx => ?_) fun _ _ z => z)
  split at w
  · split at w
    · rename_i c
      have c := of_cd c
      cases hx with
      | cons a b =>
        cases b with
        | cons b c' =>
          cases c' with
          | cons c' d' =>
            cases d'
            cases a
            cases b
            cases c'
            exact ⟨_, _, _, _, rfl, c.1, c.2.1, c.2.2.1, (by rw [Int.toNat_of_nonneg c.2.2.2]), w _ H1 R1 p1 itr3_ok⟩
    · exact False.elim w
  · exact False.elim w
/-- (0, x), (1, y), .. -/
def numI (ds : List D) : List D := ds.zipIdx.map fun p => D.tup [.int p.2, p.1]
theorem ite_ok {R0 : Hp} {l : Addr} {xs : List V} {ds : List D} (h : R0 l = some (.lst xs)) (r : Rps R0 xs ds) : ItR (Ite l) R0 (numI ds) := by
  intro i H R s1 s2
  have hl : H l = some (.lst xs) := s2 _ _ (s1 _ _ h)
  refine ⟨fun d hd => ?_, fun hl' => ⟨xs, hl, by rw [r.len]; simpa [numI] using hl'⟩⟩
  have hd : ((ds.zipIdx)[i]?).map (fun p => D.tup [.int p.2, p.1]) = some d := by rw [← List.getElem?_map]; exact hd
  rw [List.getElem?_zipIdx] at hd
  cases q : ds[i]? with
  | none => rw [q] at hd; cases hd
  | some d0 =>
    rw [q] at hd
    cases hd
    obtain ⟨x, hx, rx⟩ := r.ta q
    refine ⟨⟨xs, x, hl, hx⟩, fun v H' hv => ?_⟩
    obtain ⟨p, ys, y, rfl, hp, rfl, hy, hyi⟩ := hv
    rw [hl] at hy
    cases hy
    rw [hx] at hyi
    cases hyi
    obtain ⟨al, rv⟩ := al_tup (xs := [.int i, x]) (ds := [.int i, d0]) s2 hp (.cons (.int _) (.cons (rx.sm s1) .nil))
    refine ⟨_, al, ?_⟩
    have rv : Rp _ _ _ := rv
    simpa using rv
def enuI (fs : M (List RV)) : M (List D) := M.bind fs fun rvs => M.bind (matAll rvs) fun ds => match ds with
  | [.lst ds] => M.pure (numI ds)
  | _ => M.st
theorem vi_enu {e0 : Expr} (hp : ∀ t, PA X es t → PI X tg e0 (iEnum t)) (ha : VA X EE ios es fs) : VI X EE ios tg e0 (enuI fs) := by
  obtain ⟨t, h1, h2⟩ := ha
  refine ⟨_, hp t h1, fun σ H R Γ Rk er w => ?_⟩
  unfold enuI at w
  rw [wpM_bind] at w
  refine h2 σ H R Γ _ er (wpM_mono w (fun rvs Γ1 w xs H1 R1 p1 hx => ?_) fun _ _ z => z)
  rw [wpM_bind] at w
  obtain ⟨ds, Γ2, R2, p2, _, r2, w⟩ := matAll_ok er p1 hx w
  split at w
  · cases r2 with
    | cons a b =>
      cases b
      cases a with
      | lst e q => exact ⟨_, _, rfl, p2.er.sub _ _ e, w _ H1 R2 p2 (ite_ok e q)⟩
  · exact False.elim w
end
end Dv
end

section
set_option Elab.async false
set_option linter.all false
set_option maxRecDepth 100000
set_option maxHeartbeats 5000000
namespace Dv
open PySem L2 Ex
variable [KC]
section
variable {X : Cx} {EE : XKS} {ios : List Addr} {e a b c iter tg : Expr} {es : List Expr} {f g k : M RV} {fs : M (List RV)} {p : M Bool} {s s' : M Fl} {st : Stmt} {sts sts' : List Stmt} {pos : Pos}
theorem wpM_ok {α : Type} {a : α} {Γ : En} {K : α → En → Prop} {E : Xc → En → Prop} (h : K a Γ) : wpM (.ok a Γ) K E := h
theorem wpM_ko {α : Type} {a : α} {Γ : En} {K : α → En → Prop} {E : Xc → En → Prop} (h : wpM (.ok a Γ) K E) : K a Γ := h
/-! for -/
def turnM (m : D → M Unit) (body : M Fl) (rest : M Fl) (d : D) : M Fl := M.bind (noX (m d)) fun _ => M.bind body fun fl => match fl with
  | .nx => rest
  | .cont => rest
  | .brk => M.pure .nx
  | .ret rv => M.pure (.ret rv)
def loopM (m : D → M Unit) (body : M Fl) : List D → M Fl
  | [] => M.pure .nx
  | d :: r => turnM m body (loopM m body r) d
def forM (items : M (List D)) (m : D → M Unit) (body : M Fl) : M Fl := M.bind items fun ds => loopM m body ds
theorem rd_for {wi : TI} {gt : TG} {tb : TS} {items : M (List D)} {m : D → M Unit} {n : Nat} (hi : RdI EE ios wi items) (hg : RdG ios n gt m) (hb : RdS EE ios tb s) : RdS EE ios (tFor wi gt tb) (forM items m s) := by
  intro σ H R Γ D er w
  unfold forM at w
  rw [wpM_bind] at w
  refine hi σ H R Γ _ er (wpM_mono w (fun ds Γ1 w J H1 R1 p1 hJ => ?_) fun _ _ z => z.exp)
  refine ⟨fun i m' σ2 H2 => m' = ds.length - i ∧ i ≤ ds.length ∧ ∃ R2 Γ2, SPo ios R H σ Γ R2 H2 σ2 Γ2 ∧ Same R1 R2 ∧ wpM (loopM m s (ds.drop i) Γ2) (FlK ios R H σ Γ D) (EXS EE ios R H σ Γ), ⟨ds.length, rfl, Nat.zero_le _, R1, Γ1, p1.spo, Same.refl _, w⟩, ?_⟩
  rintro i m' σ2 H2 ⟨rfl, hi', R2, Γ2, p2, s2, w⟩
  obtain ⟨go, stop⟩ := hJ i H2 R2 s2 p2.er.sub
  by_cases hlt : i < ds.length
  · have hd : ds[i]? = some ds[i] := List.getElem?_eq_getElem hlt
    obtain ⟨g1, g2⟩ := go _ hd
    rw [List.drop_eq_getElem_cons hlt] at w
    have w : wpM (turnM m s (loopM m s (ds.drop (i + 1))) ds[i] Γ2) (FlK ios R H σ Γ D) (EXS EE ios R H σ Γ) := w
    unfold turnM at w
    rw [wpM_bind] at w
    refine .inr ⟨g1, fun σ3 H3 => ∃ R3 Γ3, SPo ios R H σ Γ R3 H3 σ3 Γ3 ∧ Same R1 R3 ∧ wpM (loopM m s (ds.drop (i + 1)) Γ3) (FlK ios R H σ Γ D) (EXS EE ios R H σ Γ), ?_, fun x H3 hx => ?_⟩
    · rintro σ3 H3 ⟨R3, Γ3, q1, q2, q3⟩
      exact ⟨_, by omega, rfl, hlt, R3, Γ3, q1, q2, q3⟩
    · obtain ⟨R3, al, rx⟩ := g2 x H3 hx
      have er3 : ER ios R3 H3 σ2 Γ2 := p2.er.al al
      have p3 : SPo ios R H σ Γ R3 H3 σ2 Γ2 := ⟨er3, p2.go.trans al.go⟩
      refine hg σ2 H3 R3 Γ2 x _ _ er3 rx (wpM_mono (wp_noX w) (fun _ Γ4 w σ4 H4 R4 p4 _ s4 => ?_) fun _ _ z => z)
      rw [wpM_bind] at w
      have p34 := p3.trans p4
      refine hb σ4 H4 R4 Γ4 _ p4.er (wpM_mono w (fun fl Γ5 w σ5 H5 R5 p5 => ?_) fun _ _ z => EXS.trans p34 z)
      have p35 := p34.trans p5
      have s5 : Same R1 R5 := ((s2.trans al.rr).trans s4).trans p5.go.rr
      cases fl with
      | nx => exact ⟨R5, Γ5, p35, s5, w⟩
      | cont => exact ⟨R5, Γ5, p35, s5, w⟩
      | brk => exact w σ5 H5 R5 p35
      | ret rv => exact fun y hy => w σ5 H5 R5 p35 y (rv_since p34.back hy)
  · have e : ds.drop i = [] := List.drop_eq_nil_of_le (by omega)
    rw [e] at w
    exact .inl ⟨stop (by omega), w σ2 H2 R2 p2⟩
theorem vs_for {gt : TG} {items : M (List D)} {m : D → M Unit} {n : Nat} (hi : VI X EE ios tg iter items) (hr : RdG ios n gt m) (hb : VSs X EE ios sts s)
    (hps : ∀ wi tb, PI X tg iter wi → PSs X sts tb → PS X (.For tg iter sts [] pos) (tFor wi gt tb)) : VS X EE ios (.For tg iter sts [] pos) (forM items m s) :=
  let ⟨_, h1, h2⟩ := hi; let ⟨_, h3, h4⟩ := hb; ⟨_, hps _ _ h1 h3, rd_for h2 hr h4⟩
/-! while -/
def whileM (p : M Bool) (body : M Fl) : Nat → M Fl
  | 0 => M.st
  | n + 1 => M.bind p fun b => if b then M.bind body fun fl => match fl with
    | .nx => whileM p body n
    | .cont => whileM p body n
    | .brk => M.pure .nx
    | .ret rv => M.pure (.ret rv) else M.pure .nx
/-! comprehensions -/
def blkG (fr : List Nat) (own : Nat) (Γ : En) : En := List.replicate own none ++ fr.map fun j => (Γ[j]?).join
def unblk : List Nat → Nat → En → En → En
  | [], _, Γ, _ => Γ
  | j :: r, k, Γ, Γb => unblk r (k + 1) (Γ.set j (Γb[k]?).join) Γb
theorem blk_lt {α : Type} {fr : List Nat} {own : Nat} {L : List (Option α)} {i : Nat} (h : i < own) : (List.replicate own (none : Option α) ++ fr.map fun j => (L[j]?).join)[i]? = some none := by
  rw [List.getElem?_append_left (by rw [List.length_replicate]; exact h), List.getElem?_replicate, if_pos h]
theorem blk_ge {α : Type} {fr : List Nat} {own : Nat} {L : List (Option α)} {i : Nat} (h : own ≤ i) : (List.replicate own (none : Option α) ++ fr.map fun j => (L[j]?).join)[i]? = (fr[i - own]?).map fun j => (L[j]?).join := by
  rw [List.getElem?_append_right (by rw [List.length_replicate]; exact h), List.length_replicate, List.getElem?_map]
theorem join_some {α : Type} {o : Option (Option α)} {a : α} (h : o.join = some a) : o = some (some a) := by
  cases o with
  | none => cases h
  | some o => cases o with
    | none => cases h
    | some b => cases h; rfl
theorem blkG_some {fr : List Nat} {own i : Nat} {Γ : En} {s : Kd × D} (h : (blkG fr own Γ)[i]? = some (some s)) : own ≤ i ∧ ∃ j, fr[i - own]? = some j ∧ Γ[j]? = some (some s) := by
  unfold blkG at h
  by_cases hi : i < own
  · rw [blk_lt hi] at h; cases h
  · rw [blk_ge (by omega)] at h
    cases q : fr[i - own]? with
    | none => rw [q] at h; cases h
    | some j =>
      rw [q] at h
      exact ⟨by omega, j, rfl, join_some (Option.some.inj h)⟩
theorem comp_at {fr : List Nat} {own i j : Nat} {σ : St} {v : V} (hi : own ≤ i) (hj : fr[i - own]? = some j) (hv : σ[j]? = some (some v)) : (compσ fr own σ)[i]? = some (some v) := by
  unfold compσ
  rw [blk_ge hi, hj]
  show some ((σ[j]?).join) = _
  rw [hv]; rfl
theorem comp_some {fr : List Nat} {own i j : Nat} {σ : St} {v : V} (hi : own ≤ i) (hj : fr[i - own]? = some j) (h : (compσ fr own σ)[i]? = some (some v)) : σ[j]? = some (some v) := by
  unfold compσ at h
  rw [blk_ge hi, hj] at h
  exact join_some (Option.some.inj h)
theorem nodup_inj {fr : List Nat} (hn : fr.Nodup) {i j x : Nat} (h1 : fr[i]? = some x) (h2 : fr[j]? = some x) : i = j := by
  obtain ⟨l1, e1⟩ := List.getElem?_eq_some_iff.mp h1
  obtain ⟨l2, e2⟩ := List.getElem?_eq_some_iff.mp h2
  exact (List.getElem_inj hn).mp (e1.trans e2.symm)
/-- into the block -/
theorem ER.blk {R H : Hp} {σ : St} {Γ : En} {fr : List Nat} {own : Nat} (er : ER ios R H σ Γ) (hn : fr.Nodup) : ER ios R H (compσ fr own σ) (blkG fr own Γ) where
  sub := er.sub
  len := by unfold compσ blkG; simp
  sl := fun i s h => by
    obtain ⟨hi, j, hj, hs⟩ := blkG_some h
    obtain ⟨v, hv, q⟩ := er.sl j s hs
    exact ⟨v, comp_at hi hj hv, q⟩
  dj := fun i j k l d e b q1 q2 q3 q4 q5 q6 => by
    obtain ⟨hi, i', hi', s1⟩ := blkG_some q1
    obtain ⟨hj, j', hj', s2⟩ := blkG_some q3
    have := er.dj i' j' k l d e b s1 q2 s2 q4 (comp_some hi hi' q5) (comp_some hj hj' q6)
    subst this
    have := nodup_inj hn hi' hj'
    omega
theorem Ow.blk {σ : St} {Γ : En} {fr : List Nat} {own : Nat} {b : Addr} (h : Ow (compσ fr own σ) (blkG fr own Γ) b) : Ow σ Γ b := by
  obtain ⟨i, k, d, h1, h2, h3⟩ := h
  obtain ⟨hi, j, hj, hs⟩ := blkG_some h1
  exact ⟨j, k, d, hs, h2, comp_some hi hj h3⟩
theorem unblk_len : ∀ {fr : List Nat} {k : Nat} {Γ Γb : En}, (unblk fr k Γ Γb).length = Γ.length
  | [], _, _, _ => rfl
  | j :: r, k, Γ, Γb => by unfold unblk; rw [unblk_len, List.length_set]
theorem unblk_out : ∀ {fr : List Nat} {k j : Nat} {Γ Γb : En}, j ∉ fr → (unblk fr k Γ Γb)[j]? = Γ[j]?
  | [], _, _, _, _, _ => rfl
  | i :: r, k, j, Γ, Γb, h => by
    unfold unblk
    rw [unblk_out (fun z => h (List.mem_cons_of_mem _ z)), List.getElem?_set_ne (fun z => h (by rw [z]; exact List.mem_cons_self ..))]
theorem unblk_in : ∀ {fr : List Nat} {k i j : Nat} {Γ Γb : En}, fr.Nodup → fr[i]? = some j → j < Γ.length → (unblk fr k Γ Γb)[j]? = some (Γb[k + i]?).join
  | [], _, _, _, _, _, _, h, _ => by simp at h
  | x :: r, k, 0, j, Γ, Γb, hn, h, hl => by
    simp at h
    subst h
    unfold unblk
    rw [unblk_out (List.nodup_cons.mp hn).1, List.getElem?_set_self hl]
    rfl
  | x :: r, k, i + 1, j, Γ, Γb, hn, h, hl => by
    unfold unblk
    rw [unblk_in (List.nodup_cons.mp hn).2 (by simpa using h) (by rw [List.length_set]; exact hl)]
    rw [show k + 1 + i = k + (i + 1) by omega]
/-- out of the block: σb is the block's, its later slots as they were -/
theorem EPo.unblk {R H R1 H1 : Hp} {σ σb : St} {Γ Γb : En} {fr : List Nat} {own : Nat} (er : ER ios R H σ Γ) (hn : fr.Nodup) (p : SPo ios R H (compσ fr own σ) (blkG fr own Γ) R1 H1 σb Γb) (keep : ∀ k, own ≤ k → σb[k]? = (compσ fr own σ)[k]?)
    (sh : ∀ b, Ow σb Γb b → Ow (compσ fr own σ) (blkG fr own Γ) b) : EPo ios R H σ Γ R1 H1 (Dv.unblk fr own Γ Γb) := by
  have slot : ∀ (j : Nat) (s : Kd × D), (Dv.unblk fr own Γ Γb)[j]? = some (some s) → (j ∉ fr ∧ Γ[j]? = some (some s)) ∨ ∃ i, fr[i]? = some j ∧ Γb[own + i]? = some (some s) ∧ σb[own + i]? = some ((σ[j]?).join) := by
    intro j s h
    by_cases hj : j ∈ fr
    · obtain ⟨i, hi, e⟩ := List.getElem_of_mem hj
      have hi' : fr[i]? = some j := by rw [List.getElem?_eq_getElem hi, e]
      have hl : j < Γ.length := by have := (List.getElem?_eq_some_iff.mp h).1; rwa [unblk_len] at this
      rw [unblk_in hn hi' hl] at h
      refine .inr ⟨i, hi', join_some (Option.some.inj h), ?_⟩
      rw [keep _ (by omega)]
      unfold compσ
      rw [blk_ge (by omega), show own + i - own = i by omega, hi']
      rfl
    · rw [unblk_out hj] at h
      exact .inl ⟨hj, h⟩
  have inside : ∀ (i j : Nat) (k : Kd) (d : D) (b : Addr), fr[i]? = some j → Γb[own + i]? = some (some (k, d)) → owned k = true → σb[own + i]? = some ((σ[j]?).join) → σ[j]? = some (some (.ref b)) → ∃ j0 k0 d0, j0 ∈ fr ∧ Γ[j0]? = some (some (k0, d0)) ∧ owned k0 = true ∧ σ[j0]? = some (some (.ref b)) := by
    intro i j k d b hi q h2 e h3
    have e : σb[own + i]? = some (some (.ref b)) := by rw [e, h3]; rfl
    obtain ⟨i0, k0, d0, g1, g2, g3⟩ := sh b ⟨own + i, k, d, q, h2, e⟩
    obtain ⟨hi0, j0, hj0, hs0⟩ := blkG_some g1
    exact ⟨j0, k0, d0, List.mem_of_getElem? hj0, hs0, g2, comp_some hi0 hj0 g3⟩
  have sh' : ∀ b, Ow σ (Dv.unblk fr own Γ Γb) b → Ow σ Γ b := by
    rintro b ⟨j, k, d, h1, h2, h3⟩
    rcases slot j _ h1 with ⟨_, q⟩ | ⟨i, hi, q, e⟩
    · exact ⟨j, k, d, q, h2, h3⟩
    · obtain ⟨j0, k0, d0, _, g1, g2, g3⟩ := inside i j k d b hi q h2 e h3
      exact ⟨j0, k0, d0, g1, g2, g3⟩
  have out : ∀ (j : Nat) (k : Kd) (d : D) (b : Addr), j ∉ fr → Γ[j]? = some (some (k, d)) → owned k = true → σ[j]? = some (some (.ref b)) → ¬ Ow (compσ fr own σ) (blkG fr own Γ) b := by
    rintro j k d b hj h1 h2 h3 ⟨i0, k0, d0, g1, g2, g3⟩
    obtain ⟨hi0, j0, hj0, hs0⟩ := blkG_some g1
    have := er.dj j j0 k k0 d d0 b h1 h2 hs0 g2 h3 (comp_some hi0 hj0 g3)
    subst this
    exact hj (List.mem_of_getElem? hj0)
  refine ⟨⟨p.er.sub, by rw [unblk_len]; exact er.len, fun j t hj => ?_, fun j j' l l' d d' b q1 q2 q3 q4 q5 q6 => ?_⟩, ⟨p.go.rr, fun b o h n => p.go.hh b o h fun z => n z.blk, fun b o h n r => p.go.no b o h (fun z => n z.blk) r, fun b z => .inl (sh' b z), p.go.th⟩, sh'⟩
  · rcases slot j t hj with ⟨hf, q⟩ | ⟨i, hi, q, e⟩
    · obtain ⟨v, hv, q'⟩ := er.sl j t q
      refine ⟨v, hv, q'.mono p.go.rr fun ho b ys eb hb rb => ?_⟩
      subst eb
      have := out j t.1 t.2 b hf q ho hv
      exact ⟨p.go.hh b _ hb this, p.go.no b _ hb this rb⟩
    · obtain ⟨v, hv, q'⟩ := p.er.sl _ t q
      rw [e] at hv
      exact ⟨v, join_some (Option.some.inj hv), q'⟩
  · rcases slot j _ q1 with ⟨hf, g1⟩ | ⟨i, hi, g1, e1⟩
    · rcases slot j' _ q3 with ⟨hf', g3⟩ | ⟨i', hi', g3, e3⟩
      · exact er.dj j j' l l' d d' b g1 q2 g3 q4 q5 q6
      · obtain ⟨j0, k0, d0, m0, z1, z2, z3⟩ := inside i' j' l' d' b hi' g3 q4 e3 q6
        have := er.dj j j0 l k0 d d0 b g1 q2 z1 z2 q5 z3
        subst this
        exact absurd m0 hf
    · rcases slot j' _ q3 with ⟨hf', g3⟩ | ⟨i', hi', g3, e3⟩
      · obtain ⟨j0, k0, d0, m0, z1, z2, z3⟩ := inside i j l d b hi g1 q2 e1 q5
        have := er.dj j' j0 l' k0 d' d0 b g3 q4 z1 z2 q6 z3
        subst this
        exact absurd m0 hf'
      · have := p.er.dj (own + i) (own + i') l l' d d' b g1 q2 g3 q4 (by rw [e1, q5]; rfl) (by rw [e3, q6]; rfl)
        have : i = i' := by omega
        subst this
        rw [hi] at hi'
        exact Option.some.inj hi'
/-- what a store of the block's own names keeps -/
def GKeep (n : Nat) (m : D → M Unit) : Prop := ∀ d Γ Γ', m d Γ = .ok () Γ' → (∀ k, n ≤ k → Γ'[k]? = Γ[k]?) ∧ ∀ i s, i < n → Γ'[i]? = some (some s) → Γ[i]? = some (some s) ∨ s.1 = .frz
theorem gk_name {i n : Nat} (h : i < n) : GKeep n (gN i) := fun d Γ Γ' e => by
  cases e
  refine ⟨fun k hk => List.getElem?_set_ne (by omega), fun j s hj q => ?_⟩
  by_cases hji : j = i
  · subst hji
    have l1 : j < Γ.length := by have := (List.getElem?_eq_some_iff.mp q).1; rwa [List.length_set] at this
    rw [List.getElem?_set_self l1] at q
    cases q
    exact .inr rfl
  · rw [List.getElem?_set_ne (Ne.symm hji)] at q
    exact .inl q
/-- one item of a comprehension, in the block -/
def eltM (m : D → M Unit) (p : M Bool) (f : M RV) (d : D) : M (Option D) := M.bind (noX (m d)) fun _ => M.bind p fun b => if b then M.bind f fun rv => M.bind (mat rv) fun y => M.pure (some y) else M.pure none
def lcM (fr : List Nat) (own : Nat) (m : D → M Unit) (p : M Bool) (f : M RV) : List D → M (List D)
  | [] => M.pure []
  | d :: r => fun Γ => match eltM m p f d (blkG fr own Γ) with
    | .ok y Γb => match lcM fr own m p f r (unblk fr own Γ Γb) with
      | .ok ys Γ' => .ok (y.toList ++ ys) Γ'
      | _ => .st
    | _ => .st
def compM (items : M (List D)) (fr : List Nat) (own : Nat) (m : D → M Unit) (p : M Bool) (f : M RV) : M RV := M.bind items fun ds => if ds.length < sizeLine then M.bind (lcM fr own m p f ds) fun ys => M.pure (.new (.lst ys)) else M.st
abbrev EN : XKS := fun _ _ _ _ => False
theorem rd_lc {wi : TI} {gt : TG} {tc : TT} {te : TE} {items : M (List D)} {m : D → M Unit} {fr : List Nat} {own : Nat} (hn : fr.Nodup) (hi : RdI EE ios wi items) (hg : RdG ios own gt m) (hk : GKeep own m) (hc : RdT EN ios tc p) (he : RdE EN ios te f) : RdE EE ios (tLC fr own wi gt tc te) (compM items fr own m p f) := by
  intro σ H R Γ Q er w
  unfold compM at w
  rw [wpM_bind] at w
  refine hi σ H R Γ _ er (wpM_mono w (fun ds Γ1 w J H1 R1 p1 hJ => ?_) fun _ _ z => z)
  split at w
  · rename_i hsz
    rw [wpM_bind] at w
    intro A hA
    have hRA : R1 A = none := p1.er.sub.free hA
    have alA : Al R1 H1 R1 (upd H1 A (.lst [])) := ⟨p1.er.sub.trans (same_upd hA), Same.refl _, same_upd hA, fun _ _ _ z => z⟩
    refine ⟨fun i n ys H2 => n = ds.length - i ∧ i ≤ ds.length ∧ ∃ R2 Γ2 ys2 L, EPo ios R H σ Γ R2 H2 Γ2 ∧ Same R1 R2 ∧ R2 A = none ∧ Rps R2 ys ys2 ∧ ys.length ≤ i ∧ lcM fr own m p f (ds.drop i) Γ2 = L ∧ wpM L (fun zs Γ' => ∀ x H' R', EPo ios R H σ Γ R' H' Γ' → RvR R' H H' σ x (.new (.lst (ys2 ++ zs))) → Q x H') (EXP EE ios R H σ Γ), ⟨ds.length, rfl, Nat.zero_le _, R1, Γ1, [], _, p1.al alA, Same.refl _, hRA, .nil, by simp, rfl, w⟩, ?_⟩
    rintro i n ys H2 hA2 ⟨rfl, hi', R2, Γ2, ys2, L, p2, s2, hRA2, hys, hyl, rfl, w⟩
    obtain ⟨go, stop⟩ := hJ i H2 R2 s2 p2.er.sub
    have nOA : ¬ Ow σ Γ A := fun z => by
      obtain ⟨_, xs, q⟩ := er.ow z
      rw [p1.back er A hA] at q; cases q
    by_cases hlt : i < ds.length
    · have hd : ds[i]? = some ds[i] := List.getElem?_eq_getElem hlt
      obtain ⟨g1, g2⟩ := go _ hd
      rw [List.drop_eq_getElem_cons hlt] at w
      refine .inr ⟨g1, by omega, fun x H3 hx => ?_⟩
      obtain ⟨R3, al, rx⟩ := g2 x H3 hx
      unfold lcM at w
      have p3 : EPo ios R H σ Γ R3 H3 Γ2 := p2.al al
      have hA3 : H3 A = some (.lst ys) := al.hh _ _ hA2
      have hRA3 : R3 A = none := al.no _ _ hA2 hRA2
      have erb : ER ios R3 H3 (compσ fr own σ) (blkG fr own Γ2) := p3.er.blk hn
      have nOAb : ¬ Ow (compσ fr own σ) (blkG fr own Γ2) A := fun z => nOA (p3.sh A z.blk)
      -- the element's run, and what comes behind it
      have run : wpM (eltM m p f ds[i] (blkG fr own Γ2)) (fun y Γb => wpM (lcM fr own m p f (ds.drop (i + 1)) (Dv.unblk fr own Γ2 Γb)) (fun zs Γ' => ∀ x H' R', EPo ios R H σ Γ R' H' Γ' → RvR R' H H' σ x (.new (.lst (ys2 ++ (y.toList ++ zs)))) → Q x H') (fun _ _ => False)) NoX := by
        cases q : eltM m p f ds[i] (blkG fr own Γ2) with
        | ok y Γb =>
          rw [q] at w
          dsimp only at w
          show wpM (lcM fr own m p f (ds.drop (i + 1)) (Dv.unblk fr own Γ2 Γb)) _ _
          cases q' : lcM fr own m p f (ds.drop (i + 1)) (Dv.unblk fr own Γ2 Γb) with
          | ok zs Γ' => rw [q'] at w; exact w
          | ex _ _ => rw [q'] at w; exact False.elim w
          | st => rw [q'] at w; exact False.elim w
        | ex _ _ => rw [q] at w; exact False.elim w
        | st => rw [q] at w; exact False.elim w
      unfold eltM at run
      rw [wpM_bind] at run
      cases hm : m ds[i] (blkG fr own Γ2) with
      | ex _ _ => have := wp_noX run; rw [hm] at this; exact this.elim
      | st => have := wp_noX run; rw [hm] at this; exact this.elim
      | ok u Γ4 =>
        obtain ⟨k1, k2⟩ := hk _ _ _ hm
        have wm := wp_noX run
        rw [hm] at wm
        refine hg (compσ fr own σ) H3 R3 (blkG fr own Γ2) x _ _ erb rx ?_
        rw [hm]
        refine wpM_ok fun σ4 H4 R4 p4 keep s4 => ?_
        have w := wpM_ko wm
        rw [wpM_bind] at w
        have base4 : ∀ b, Ow σ4 Γ4 b → Ow (compσ fr own σ) (blkG fr own Γ2) b := by
          rintro b ⟨j, k, d, h1, h2, h3⟩
          by_cases hj : own ≤ j
          · rw [k1 j hj] at h1
            rw [keep j hj] at h3
            exact ⟨j, k, d, h1, h2, h3⟩
          · rcases k2 j (k, d) (by omega) h1 with z | z
            · unfold blkG at z; rw [blk_lt (by omega)] at z; cases z
            · cases z; cases h2
        refine hc σ4 H4 R4 Γ4 _ p4.er (wpM_mono w (fun b Γ6 w H6 R6 p6 => ?_) fun _ _ z => z.elim)
        have p46 : SPo ios R3 H3 (compσ fr own σ) (blkG fr own Γ2) R6 H6 σ4 Γ6 := p4.trans p6.spo
        have sh6 : ∀ b, Ow σ4 Γ6 b → Ow (compσ fr own σ) (blkG fr own Γ2) b := fun b z => base4 b (p6.sh b z)
        have hA6 : H6 A = some (.lst ys) := p46.go.hh _ _ hA3 nOAb
        have hRA6 : R6 A = none := p46.go.no _ _ hA3 nOAb hRA3
        cases b with
        | false =>
          simp only [Bool.false_eq_true, if_false] at w ⊢
          have pu : EPo ios R3 H3 σ Γ2 R6 H6 (Dv.unblk fr own Γ2 Γ6) := EPo.unblk p3.er hn p46 keep sh6
          refine ⟨hA6, _, Nat.sub_lt_sub_left hlt (Nat.lt_succ_self i), rfl, hlt, R6, _, ys2, _, p3.trans pu, (s2.trans al.rr).trans p46.go.rr, hRA6, hys.sm (al.rr.trans p46.go.rr), by omega, rfl, ?_⟩
          exact wpM_mono w (fun zs Γ' w x H' R' p q => w x H' R' p q) fun _ _ z => z.elim
        | true =>
          simp only [if_true] at w ⊢
          rw [wpM_bind] at w
          refine he σ4 H6 R6 Γ6 _ p6.er (wpM_mono w (fun rv Γ7 w y H7 R7 p7 hy => ?_) fun _ _ z => z.elim)
          rw [wpM_bind] at w
          obtain ⟨dy, Γ8, R8, p8, s8, ry, w⟩ := mat_ok p6.er p7 hy w
          have p48 : SPo ios R3 H3 (compσ fr own σ) (blkG fr own Γ2) R8 H7 σ4 Γ8 := p46.trans p8.spo
          have sh8 : ∀ b, Ow σ4 Γ8 b → Ow (compσ fr own σ) (blkG fr own Γ2) b := fun b z => sh6 b (p8.sh b z)
          have pu : EPo ios R3 H3 σ Γ2 R8 H7 (Dv.unblk fr own Γ2 Γ8) := EPo.unblk p3.er hn p48 keep sh8
          have hA7 : H7 A = some (.lst ys) := p48.go.hh _ _ hA3 nOAb
          have hRA8 : R8 A = none := p48.go.no _ _ hA3 nOAb hRA3
          have p38 := p3.trans pu
          have nO8 : ¬ Ow σ (Dv.unblk fr own Γ2 Γ8) A := fun z => nOA (p38.sh A z)
          have pA : EPo ios R H σ Γ R8 (upd H7 A (.lst (ys ++ [y]))) (Dv.unblk fr own Γ2 Γ8) := by
            have up : ∀ b, b ≠ A → upd H7 A (.lst (ys ++ [y])) b = H7 b := fun b hb => upd_ne hb
            refine ⟨⟨fun b o q => ?_, p38.er.len, fun j t hj => ?_, p38.er.dj⟩, ⟨p38.go.rr, fun b o q n => ?_, p38.go.no, p38.go.oo, fun b o q => ?_⟩, p38.sh⟩
            · rw [up b (fun z => by rw [z, hRA8] at q; cases q)]; exact p38.er.sub b o q
            · obtain ⟨v, hv, q⟩ := p38.er.sl j t hj
              refine ⟨v, hv, q.mono (Same.refl _) fun ho b zs eb hb rb => ⟨?_, rb⟩⟩
              rw [up b]
              · exact hb
              · rintro rfl; subst eb; exact nO8 ⟨j, t.1, t.2, hj, ho, hv⟩
            · rw [up b (fun z => by rw [z, p1.back er A hA] at q; cases q)]; exact p38.go.hh b o q n
            · by_cases hb : b = A
              · subst hb; exact ⟨_, upd_same⟩
              · rw [up b hb]; exact p38.go.th b o q
          refine ⟨hA7, _, Nat.sub_lt_sub_left hlt (Nat.lt_succ_self i), rfl, hlt, R8, _, ys2 ++ [dy], _, pA, ((s2.trans al.rr).trans p46.go.rr).trans p8.go.rr, hRA8, (hys.sm ((al.rr.trans p46.go.rr).trans p8.go.rr)).app (.cons ry .nil), by rw [List.length_append]; simp; omega, rfl, ?_⟩
          refine wpM_mono w (fun zs Γ' w x H' R' p q => w x H' R' p ?_) fun _ _ z => z.elim
          simpa using q
    · have e : ds.drop i = [] := List.drop_eq_nil_of_le (by omega)
      rw [e] at w
      refine .inl ⟨stop (by omega), w _ H2 R2 p2 ⟨⟨A, ys, ys2, rfl, hRA2, hA2, by simp, hys⟩, A, rfl, p1.back er A hA⟩⟩
  · exact False.elim w
end
end Dv
end

section
set_option Elab.async false
set_option linter.all false
set_option maxRecDepth 100000
set_option maxHeartbeats 5000000
namespace Dv
open PySem L2 Ex
variable [KC]
section
variable {X : Cx} {EE : XKS} {ios : List Addr} {e a b c iter tg elt : Expr} {es ifs : List Expr} {f g k : M RV} {fs : M (List RV)} {p : M Bool} {s s' : M Fl} {st : Stmt} {sts sts' : List Stmt} {pos : Pos}
/-! comprehensions -/
def tOfE (EE : XKS) (ios : List Addr) (f : M RV) : TE := fun σ H Q => ∃ R Γ, ER ios R H σ Γ ∧ wpM (f Γ) (fun rv Γ' => ∀ x H' R', EPo ios R H σ Γ R' H' Γ' → RvR R' H H' σ x rv → Q x H') (EXP EE ios R H σ Γ)
def tOfT (EE : XKS) (ios : List Addr) (f : M Bool) : TT := fun σ H Q => ∃ R Γ, ER ios R H σ Γ ∧ wpM (f Γ) (fun b Γ' => ∀ H' R', EPo ios R H σ Γ R' H' Γ' → Q b H') (EXP EE ios R H σ Γ)
theorem VE.pe (h : VE X EE ios e f) : PE X e (tOfE EE ios f) := let ⟨_, h1, h2⟩ := h; fun pins s σ H Q I ⟨R, Γ, er, w⟩ => h1 pins s σ H Q I (h2 σ H R Γ Q er w)
theorem VT.pt (h : VT X EE ios e p) : PT X e (tOfT EE ios p) := let ⟨_, h1, h2⟩ := h; fun pins s σ H Q I ⟨R, Γ, er, w⟩ => h1 pins s σ H Q I (h2 σ H R Γ Q er w)
def VTs (X : Cx) (EE : XKS) (ios : List Addr) (ifs : List Expr) (p : M Bool) : Prop := PTs X ifs (tOfT EE ios p)
theorem vts_nil : VTs X EE ios [] (M.pure true) := fun pins s σ H Q I ⟨R, Γ, er, w⟩ => pts_nil pins s σ H Q I (w H R (EPo.refl er))
theorem vts_one (h : VT X EE ios c p) : VTs X EE ios [c] p := pts_one h.pt
abbrev blkX (X : Cx) (Nc : List Str) (scope : Scope) (cl : List (Str × Addr)) (C : Addr) (s3 : Shared) (H3 : Hp) (fp : List Addr) (pn' : List (Addr × Obj)) : Cx := X.blk Nc scope cl C s3 H3 fp pn' fun _ _ => False
theorem ve_lc {scope : Scope} {Nc : List Str} {own : Nat} {fr : List Nat} {gt : TG} {items : M (List D)} {m : D → M Unit} (hc : X.calm = true) (B : BlkN X scope Nc own fr) (hn : fr.Nodup) (hi : VI X EE ios tg iter items) (hog : OwnG own gt)
    (hg : ∀ cl C s3 H3 fp pn', PG (blkX X Nc scope cl C s3 H3 fp pn') tg gt) (hr : RdG ios own gt m) (hk : GKeep own m) (ht : ∀ cl C s3 H3 fp pn', VTs (blkX X Nc scope cl C s3 H3 fp pn') EN ios ifs p) (he : ∀ cl C s3 H3 fp pn', VE (blkX X Nc scope cl C s3 H3 fp pn') EN ios elt f)
    (hs : ∀ x, foldedSetIterable iter X.env x = pure x := by intro _; rfl) : VE X EE ios (.ListComp elt [⟨tg, iter, ifs, 0⟩] scope pos) (compM items fr own m p f) :=
  let ⟨_, h1, h2⟩ := hi
  ⟨_, pe_lc hc B h1 hog hg ht (fun cl C s3 H3 fp pn' => (he cl C s3 H3 fp pn').pe) hs, rd_lc hn h2 hr hk (fun σ H R Γ Q er w => ⟨R, Γ, er, w⟩) (fun σ H R Γ Q er w => ⟨R, Γ, er, w⟩)⟩
theorem vs_setlc {scope : Scope} {Nc : List Str} {own i : Nat} {fr : List Nat} {gt : TG} {items : M (List D)} {m : D → M Unit} {y : Str} {py spos : Pos} (hN : X.N.Nodup) (hi' : X.N[i]? = some y) (hx : Loc X.env.scope y) (hc : X.calm = true) (B : BlkN X scope Nc own fr) (hn : fr.Nodup) (hi : VI X EE ios tg iter items) (hog : OwnG own gt)
    (hg : ∀ cl C s3 H3 fp pn', PG (blkX X Nc scope cl C s3 H3 fp pn') tg gt) (hr : RdG ios own gt m) (hk : GKeep own m) (ht : ∀ cl C s3 H3 fp pn', VTs (blkX X Nc scope cl C s3 H3 fp pn') EN ios ifs p) (he : ∀ cl C s3 H3 fp pn', VE (blkX X Nc scope cl C s3 H3 fp pn') EN ios elt f)
    (hs : ∀ x, foldedSetIterable iter X.env x = pure x := by intro _; rfl) (hsw : swapsWith (.ListComp elt [⟨tg, iter, ifs, 0⟩] scope pos) (some (.Name y py)) spos.line X.env = pure true := by rfl)
    (hf : X.fn y = true ∨ X.env.scope.names.lookup y = some .local := by first | exact .inl rfl | exact .inr rfl | assumption) : VS X EE ios (.Assign [.Name y py] (.ListComp elt [⟨tg, iter, ifs, 0⟩] scope pos) spos) (asgM i (compM items fr own m p f)) :=
  let ⟨_, h1, h2⟩ := hi
  ⟨_, ps_setlc hN hi' hx hc B h1 hog hg ht (fun cl C s3 H3 fp pn' => (he cl C s3 H3 fp pn').pe) hs hsw hf, rd_asg (rd_lc hn h2 hr hk (fun σ H R Γ Q er w => ⟨R, Γ, er, w⟩) (fun σ H R Γ Q er w => ⟨R, Γ, er, w⟩))⟩
/-! what a def hands back -/
inductive Rt where
  | val (d : D) | new (d : D)
def Rt.rv : Rt → RV
  | .val d => .val d
  | .new d => .new d
def RtK (R H : Hp) (r : Option Rt) (Q : VK) : Prop := match r with
  | some r => ∀ x H' R', Al R H R' H' → RvA R' H H' x r.rv → Q x H'
  | none => False
/-- a def that changes nothing -/
def spP (G : List D → Option Rt) : Sp := fun vs H Q _ => ∃ R ds, Same R H ∧ Rps R vs ds ∧ RtK R H (G ds) Q
def gam (N : List Str) (ds : List D) : En := ds.map (fun d => some (.frz, d)) ++ List.replicate (N.length - ds.length) none
def finR : Res Fl → Option Rt
  | .ok .nx _ => some (.val .non)
  | .ok (.ret (.val d)) _ => some (.val d)
  | .ok (.ret (.new d)) _ => some (.new d)
  | .ok (.ret (.var i)) Γ => match Γ[i]? with
    | some (some (.own, d)) => some (.new d)
    | some (some (.frz, d)) => some (.val d)
    | _ => none
  | _ => none
theorem gam_at {N : List Str} {ds : List D} {i : Nat} {t : Kd × D} (h : (gam N ds)[i]? = some (some t)) : ∃ d, ds[i]? = some d ∧ t = (.frz, d) := by
  unfold gam at h
  by_cases hi : i < ds.length
  · rw [List.getElem?_append_left (by rw [List.length_map]; exact hi), List.getElem?_map, List.getElem?_eq_getElem hi] at h
    cases h
    exact ⟨_, List.getElem?_eq_getElem hi, rfl⟩
  · rw [List.getElem?_append_right (by rw [List.length_map]; omega), List.getElem?_replicate] at h
    split at h <;> cases h
theorem start_at {N : List Str} {vs : List V} {i : Nat} {v : V} (h : vs[i]? = some v) : (L2.start N vs)[i]? = some (some v) := by
  unfold L2.start
  have hi := (List.getElem?_eq_some_iff.mp h).1
  rw [List.getElem?_append_left (by rw [List.length_map]; exact hi), List.getElem?_map, h]
  rfl
theorem er_start {N : List Str} {R H : Hp} {vs : List V} {ds : List D} (s : Same R H) (h : Rps R vs ds) : ER [] R H (L2.start N vs) (gam N ds) where
  sub := s
  len := by unfold L2.start gam; simp [h.len]
  sl := fun i t q => by
    obtain ⟨d, hd, rfl⟩ := gam_at q
    obtain ⟨x, hx, rx⟩ := h.ta hd
    exact ⟨x, start_at hx, rx⟩
  dj := fun i j k l d e b q1 q2 _ _ _ _ => by
    obtain ⟨_, _, z⟩ := gam_at q1
    cases z; cases q2
theorem no_ow {N : List Str} {σ : St} {ds : List D} {b : Addr} : ¬ Ow σ (gam N ds) b := by
  rintro ⟨i, k, d, q1, q2, _⟩
  obtain ⟨_, _, z⟩ := gam_at q1
  cases z; cases q2
theorem SPo.al {N : List Str} {R H R' H' : Hp} {σ σ' : St} {ds : List D} {Γ' : En} (p : SPo ios R H σ (gam N ds) R' H' σ' Γ') : Al R H R' H' := ⟨p.er.sub, p.go.rr, fun b o h => p.go.hh b o h no_ow, fun b o h r => p.go.no b o h no_ow r⟩
theorem fn_pure {P : Program} {w : World} {K : PySem.W.Frag} {mg : Str → Option Value} {base : Heap} {x qual : Str} {fa : Addr} {fd : FuncData} {N ps : List Str} {k : Nat} {G : List D → Option Rt} {bm : M Fl} (F : Fun K x qual st fa fd) (S : FnScope N ps (defScope st))
    (hb : ∀ (cdv : Value) (A : Around) (outer : List Env) (s : Shared) (H : Hp) (E : XK), Room k (A.deeper (PyProof.Rows.envOfC qual (defScope st) s.heap.objs.size fa cdv)) → VSs (cxOf CX0 P w K mg base N qual (defScope st) fa cdv A outer s H E).nox EN [] (defBody st) bm)
    (h : ∀ ds r, G ds = some r → ds.length = ps.length ∧ finR (bm (gam N ds)) = some r) : FnOk P w K mg base CX0 (k + 1) fa fd ps (spP G) := by
  refine F.ok S (fun vs H Q E q => ?_) (fun cdv A outer s H vs Q E hr q => ?_)
  · obtain ⟨R, ds, _, h2, h3⟩ := q
    cases e : G ds with
    | none => rw [e] at h3; exact h3.elim
    | some r => rw [h2.len]; exact (h ds r e).1
  · obtain ⟨R, ds, h1, h2, h3⟩ := q
    cases e : G ds with
    | none => rw [e] at h3; exact h3.elim
    | some r =>
      rw [e] at h3
      obtain ⟨t, b1, b2⟩ := hb cdv A outer s H E hr
      refine ⟨t, b1, b2 _ H R _ _ (er_start h1 h2) ?_⟩
      have fin := (h ds r e).2
      cases q : bm (gam N ds) with
      | st => rw [q] at fin; cases fin
      | ex _ _ => rw [q] at fin; cases fin
      | ok fl Γ' =>
        rw [q] at fin
        refine wpM_ok fun σ' H' R' p => ?_
        cases fl with
        | brk => cases fin
        | cont => cases fin
        | nx => cases fin; exact h3 .non H' R' p.al .non
        | ret rv =>
          intro y hy
          cases rv with
          | val d => cases fin; exact h3 y H' R' p.al hy
          | new d => cases fin; exact h3 y H' R' p.al hy
          | var i =>
            have fin : (match Γ'[i]? with
              | some (some (.own, d)) => some (Rt.new d)
              | some (some (.frz, d)) => some (.val d)
              | _ => none) = some r := fin
            split at fin
            · rename_i d hs
              cases fin
              obtain ⟨v, hv, sl⟩ := p.er.sl i _ hs
              have hy : σ'[i]? = some (some y) := hy
              rw [hy] at hv
              cases hv
              obtain ⟨a, xs, ds', rfl, r1, r2, r3, r4⟩ := sl
              refine h3 _ H' R' p.al ⟨⟨a, xs, ds', rfl, r1, r2, r3, r4⟩, a, rfl, ?_⟩
              exact (p.go.oo a ⟨i, .own, d, hs, rfl, hy⟩).elim (fun z => absurd z no_ow) id
            · rename_i d hs
              cases fin
              obtain ⟨v, hv, sl⟩ := p.er.sl i _ hs
              have hy : σ'[i]? = some (some y) := hy
              rw [hy] at hv
              cases hv
              exact h3 _ H' R' p.al sl
            · cases fin
/-! a call of such a def -/
mutual
def immD : D → Bool
  | .non => true
  | .bl _ => true
  | .int _ => true
  | .str _ => true
  | .tup xs => immDs xs
  | _ => false
def immDs : List D → Bool
  | [] => true
  | d :: r => immD d && immDs r
end
def immR : Rt → Bool
  | .val d => immD d
  | .new (.lst ds) => immDs ds
  | .new _ => false
def isVar : RV → Bool
  | .var _ => true
  | _ => false
mutual
theorem Rp.less {R R' : Hp} (h : ∀ b xs, R b = some (.tup xs) → R' b = some (.tup xs)) : ∀ {x : V} {d : D}, Rp R x d → immD d = true → Rp R' x d
  | _, _, .non, _ => .non
  | _, _, .bl b, _ => .bl b
  | _, _, .int i, _ => .int i
  | _, _, .str x, _ => .str x
  | _, _, .lst _ _, z => by simp [immD] at z
  | _, _, .tup e q, z => .tup (h _ _ e) (Rps.less h q (by simpa [immD] using z))
  | _, _, .dnil _, z => by simp [immD] at z
  | _, _, .scr _, z => by simp [immD] at z
theorem Rps.less {R R' : Hp} (h : ∀ b xs, R b = some (.tup xs) → R' b = some (.tup xs)) : ∀ {xs : List V} {ds : List D}, Rps R xs ds → immDs ds = true → Rps R' xs ds
  | _, _, .nil, _ => .nil
  | _, _, .cons a b, z => by
    have z := Bool.and_eq_true_iff.mp (show (immD _ && immDs _) = true from by simpa only [immDs] using z)
    exact .cons (Rp.less h a z.1) (Rps.less h b z.2)
end
def callP (G : List D → Option Rt) (fs : M (List RV)) : M RV := M.bind fs fun rvs => M.bind (peekAll rvs) fun ds => match G ds with
  | some r => if rvs.any isVar && !immR r then M.bind (matAll rvs) fun ds' => M.ofO ((G ds').map Rt.rv) else M.pure r.rv
  | none => M.st
open Classical in
/-- lent for the time of a call -/
noncomputable def lent (O : Addr → Prop) (R H : Hp) : Hp := fun b => if O b then H b else R b
theorem lent_sub {O : Addr → Prop} {R H : Hp} (s : Same R H) : Same (lent O R H) H := fun b o e => by
  unfold lent at e
  split at e
  · exact e
  · exact s b o e
theorem lent_same {O : Addr → Prop} {R H : Hp} (h : ∀ b, O b → R b = none) : Same R (lent O R H) := fun b o e => by
  unfold lent
  split
  · rename_i z; rw [h b z] at e; cases e
  · exact e
theorem Pks.lent {R H : Hp} {σ : St} {Γ : En} (er : ER ios R H σ Γ) : ∀ {xs : List V} {rvs : List RV} {ds : List D}, ArsR R σ xs rvs → Pks R H xs ds → peekAll rvs Γ = .ok ds Γ → Rps (lent (Ow σ Γ) R H) xs ds := by
  have ss : Same R (Dv.lent (Ow σ Γ) R H) := lent_same fun b z => (er.ow z).1
  intro xs rvs
  induction rvs generalizing xs with
  | nil => intro ds h1 h2 _; cases h1; cases h2; exact .nil
  | cons rv r ih =>
    intro ds h1 h2 h3
    cases h1 with
    | cons a b =>
      cases h2 with
      | cons c d =>
        unfold peekAll M.bind at h3
        cases q : peek rv Γ with
        | ex _ _ => rw [q] at h3; cases h3
        | st => rw [q] at h3; cases h3
        | ok d0 Γ0 =>
          have e0 : Γ0 = Γ := by
            cases rv with
            | val _ => cases q; rfl
            | new _ => cases q; rfl
            | var i => unfold peek at q; dsimp only at q; split at q <;> cases q; rfl
          subst e0
          rw [q] at h3
          dsimp only at h3
          cases q2 : peekAll r Γ0 with
          | ex _ _ => rw [q2] at h3; cases h3
          | st => rw [q2] at h3; cases h3
          | ok ds0 Γ1 =>
            rw [q2] at h3
            cases h3
            refine .cons ?_ (ih b d q2)
            cases rv with
            | val d' => cases q; exact Rp.sm ss a
            | new d' => exact a.elim
            | var i =>
              unfold peek at q
              dsimp only at q
              split at q
              · rename_i kd d' hs
                cases q
                obtain ⟨v, hv, sl⟩ := er.sl i _ hs
                have a : σ[i]? = some (some _) := a
                rw [a] at hv
                cases hv
                cases kd with
                | frz => exact Rp.sm ss sl
                | own =>
                  obtain ⟨ad, ys, es, rfl, r1, r2, rfl, r4⟩ := sl
                  refine .lst ?_ (r4.sm ss)
                  unfold Dv.lent
                  rw [if_pos ⟨i, .own, _, hs, rfl, a⟩]
                  exact r2
                | io n =>
                  obtain ⟨⟨ad, ys, es, rfl, r1, r2, rfl, r4⟩, _⟩ := sl
                  refine .lst ?_ (r4.sm ss)
                  unfold Dv.lent
                  rw [if_pos ⟨i, .io n, _, hs, rfl, a⟩]
                  exact r2
              · cases q
theorem peekAll_same {Γ Γ' : En} : ∀ {rvs : List RV} {ds : List D}, peekAll rvs Γ = .ok ds Γ' → Γ' = Γ := by
  intro rvs
  induction rvs with
  | nil => intro ds h; cases h; rfl
  | cons rv r ih =>
    intro ds h
    unfold peekAll M.bind at h
    cases q : peek rv Γ with
    | ex _ _ => rw [q] at h; cases h
    | st => rw [q] at h; cases h
    | ok d0 Γ0 =>
      have e0 : Γ0 = Γ := by
        cases rv with
        | val _ => cases q; rfl
        | new _ => cases q; rfl
        | var i => unfold peek at q; dsimp only at q; split at q <;> cases q; rfl
      subst e0
      rw [q] at h
      dsimp only at h
      cases q2 : peekAll r Γ0 with
      | ex _ _ => rw [q2] at h; cases h
      | st => rw [q2] at h; cases h
      | ok ds0 Γ1 => rw [q2] at h; cases h; exact ih q2
theorem ars_novar {R : Hp} {σ : St} {Γ : En} : ∀ {xs : List V} {rvs : List RV} {ds : List D}, ArsR R σ xs rvs → rvs.any isVar = false → peekAll rvs Γ = .ok ds Γ → Rps R xs ds := by
  intro xs rvs
  induction rvs generalizing xs with
  | nil => intro ds h1 _ h3; cases h1; cases h3; exact .nil
  | cons rv r ih =>
    intro ds h1 h2 h3
    rw [List.any_cons, Bool.or_eq_false_iff] at h2
    cases h1 with
    | cons a b =>
      cases rv with
      | var i => cases h2.1
      | new d => exact a.elim
      | val d =>
        have h3 : M.bind (peekAll r) (fun ds => M.pure (d :: ds)) Γ = .ok ds Γ := h3
        unfold M.bind at h3
        cases q2 : peekAll r Γ with
        | ex _ _ => rw [q2] at h3; cases h3
        | st => rw [q2] at h3; cases h3
        | ok ds0 Γ1 =>
          have := peekAll_same q2
          subst this
          rw [q2] at h3
          cases h3
          exact .cons a (ih b h2.2 q2)
theorem peek_noex {Γ Γ' : En} {x : Xc} : ∀ {rvs : List RV}, peekAll rvs Γ ≠ .ex x Γ' := by
  intro rvs
  induction rvs with
  | nil => intro h; cases h
  | cons rv r ih =>
    intro h
    unfold peekAll M.bind at h
    cases q : peek rv Γ with
    | ex _ _ =>
      cases rv with
      | val _ => cases q
      | new _ => cases q
      | var i => unfold peek at q; dsimp only at q; split at q <;> cases q
    | st => rw [q] at h; cases h
    | ok d0 Γ0 =>
      have e0 : Γ0 = Γ := by
        cases rv with
        | val _ => cases q; rfl
        | new _ => cases q; rfl
        | var i => unfold peek at q; dsimp only at q; split at q <;> cases q; rfl
      subst e0
      rw [q] at h
      dsimp only at h
      cases q2 : peekAll r Γ0 with
      | ex _ _ => exact ih (by rw [q2] at h; cases h; exact q2)
      | st => rw [q2] at h; cases h
      | ok ds0 Γ1 => rw [q2] at h; cases h
theorem peekAll_is {rvs : List RV} {Γ : En} {K : List D → En → Prop} {E : Xc → En → Prop} (w : wpM (peekAll rvs Γ) K E) : ∃ ds, peekAll rvs Γ = .ok ds Γ ∧ K ds Γ := by
  cases q : peekAll rvs Γ with
  | ex _ _ => exact absurd q peek_noex
  | st => rw [q] at w; exact False.elim w
  | ok ds Γ' =>
    have := peekAll_same q
    subst this
    rw [q] at w
    exact ⟨ds, rfl, w⟩
open Classical in
noncomputable def unlent (O : Addr → Prop) (R : Hp) : Hp := fun b => if O b then none else R b
theorem ve_callP {G : List D → Option Rt} {e0 : Expr} (hp : ∀ t, PA X es t → PE X e0 (tCall (spP G) [] E0 t)) (ha : VA X EE ios es fs) : VE X EE ios e0 (callP G fs) := by
  obtain ⟨t, h1, h2⟩ := ha
  refine ⟨_, hp t h1, fun σ H R Γ Q er w => ?_⟩
  unfold callP at w
  rw [wpM_bind] at w
  refine h2 σ H R Γ _ er (wpM_mono w (fun rvs Γ1 w xs H1 R1 p1 hx => ?_) fun _ _ z => z)
  show spP G (xs ++ []) H1 Q E0
  rw [List.append_nil]
  rw [wpM_bind] at w
  obtain ⟨ds, q, w⟩ := peekAll_is w
  obtain ⟨ds', pk, e⟩ := peekAll_ok (K := fun ds' _ => ds' = ds) (E := fun _ _ => False) p1.er hx (by rw [q]; exact rfl)
  subst e
  cases hG : G ds' with
  | none => rw [hG] at w; exact False.elim w
  | some r =>
    rw [hG] at w
    dsimp only at w
    by_cases hv : rvs.any isVar = true
    · by_cases him : immR r = true
      · rw [hv, him] at w
        have w : ∀ x H' R', EPo ios R H σ Γ R' H' Γ1 → RvR R' H H' σ x r.rv → Q x H' := w
        refine ⟨lent (Ow σ Γ1) R1 H1, ds', lent_sub p1.er.sub, Pks.lent p1.er hx pk q, ?_⟩
        rw [hG]
        intro x H' R' al ra
        have ow : ∀ b, Ow σ Γ1 b → R1 b = none ∧ ∃ xs, H1 b = some (.lst xs) := fun b z => p1.er.ow z
        have un : ∀ b, ¬ Ow σ Γ1 b → unlent (Ow σ Γ1) R' b = R' b := fun b z => by unfold unlent; rw [if_neg z]
        have un' : ∀ b, Ow σ Γ1 b → unlent (Ow σ Γ1) R' b = none := fun b z => by unfold unlent; rw [if_pos z]
        have tup : ∀ b ys, R' b = some (.tup ys) → unlent (Ow σ Γ1) R' b = some (.tup ys) := fun b ys z => by
          rw [un b]
          · exact z
          · intro o
            obtain ⟨_, zs, hz⟩ := ow b o
            have := al.sub _ _ z
            rw [al.hh _ _ hz] at this
            cases this
        have rr : Same R1 (unlent (Ow σ Γ1) R') := fun b o z => by
          have nb : ¬ Ow σ Γ1 b := fun q => by rw [(ow b q).1] at z; cases z
          rw [un b nb]
          apply al.rr
          unfold lent
          rw [if_neg nb]
          exact z
        have no : ∀ b o, H1 b = some o → R1 b = none → unlent (Ow σ Γ1) R' b = none := fun b o hb rb => by
          by_cases nb : Ow σ Γ1 b
          · exact un' b nb
          · rw [un b nb]
            apply al.no b o hb
            unfold lent
            rw [if_neg nb]
            exact rb
        have al' : Al R1 H1 (unlent (Ow σ Γ1) R') H' := ⟨fun b o z => by
          by_cases nb : Ow σ Γ1 b
          · rw [un' b nb] at z; cases z
          · rw [un b nb] at z; exact al.sub b o z, rr, al.hh, no⟩
        refine w x H' _ (p1.al al') ?_
        cases r with
        | val d => exact Rp.less tup ra him
        | new d =>
          cases d with
          | lst zs =>
            obtain ⟨⟨a, ys, ds2, rfl, r1, r2, r3, r4⟩, a', ea, hf⟩ := ra
            cases ea
            cases r3
            refine ⟨⟨a, ys, zs, rfl, ?_, r2, rfl, r4.less tup him⟩, a, rfl, p1.back er a hf⟩
            by_cases nb : Ow σ Γ1 a
            · exact un' a nb
            · rw [un a nb]; exact r1
          | _ => cases him
      · have him : immR r = false := by cases z : immR r <;> simp_all
        rw [hv, him] at w
        have w : wpM (M.bind (matAll rvs) (fun ds' => M.ofO ((G ds').map Rt.rv)) Γ1) _ _ := w
        rw [wpM_bind] at w
        obtain ⟨ds2, Γ2, R2, p2, s2, r2, w⟩ := matAll_ok er p1 hx w
        obtain ⟨rv, hrv, w⟩ := wpM_ofO w
        refine ⟨R2, ds2, p2.er.sub, r2, ?_⟩
        cases hG2 : G ds2 with
        | none => rw [hG2] at hrv; cases hrv
        | some r' =>
          rw [hG2] at hrv
          cases hrv
          exact fun x H' R' al ra => w x H' R' (p2.al al) (ra.rv (p2.back er))
    · have hv : rvs.any isVar = false := by cases z : rvs.any isVar <;> simp_all
      rw [hv] at w
      have w : ∀ x H' R', EPo ios R H σ Γ R' H' Γ1 → RvR R' H H' σ x r.rv → Q x H' := w
      refine ⟨R1, ds', p1.er.sub, ars_novar hx hv q, ?_⟩
      rw [hG]
      exact fun x H' R' al ra => w x H' R' (p1.al al) (ra.rv (p1.back er))
end
end Dv
end

section
set_option Elab.async false
set_option linter.all false
set_option maxRecDepth 100000
set_option maxHeartbeats 5000000
namespace Dv
open PySem L2 Ex
variable [KC]
section
variable {X : Cx} {EE : XKS} {ios : List Addr} {e a b c iter tg elt : Expr} {es ifs : List Expr} {f g k : M RV} {fs : M (List RV)} {p : M Bool} {s s' : M Fl} {st : Stmt} {sts sts' : List Stmt} {pos : Pos}
/-! a def that changes its first argument, a list -/
abbrev GI := List D → List D → Option (Rt × List D)
/-! a call of such a def -/
def goI (i : Nat) (G : GI) (ds : List D) : M RV := fun Γ => match Γ[i]? with
  | some (some (kd, .lst ds0)) => if owned kd then match G ds0 ds with
    | some (r, out) => .ok r.rv (Γ.set i (some (kd, .lst out)))
    | none => .st else .st
  | _ => .st
def callI (G : GI) (fs : M (List RV)) : M RV := M.bind fs fun rvs => match rvs with
  | .var i :: r => M.bind (matAll r) fun ds => goI i G ds
  | _ => M.st
end
end Dv
end

section
set_option Elab.async false
set_option linter.all false
set_option maxRecDepth 100000
set_option maxHeartbeats 5000000
namespace Dv
open PySem L2 Ex
variable [KC]
/-- a def of the text, as it stands behind the top -/
def At (mg : Str → Option Value) (x : Str) (st : Stmt) : Prop := ∃ f fd, Fun KC.K x x st f fd ∧ mg x = some (.ref f) ∧ PySem.W.keepIn KC.K (.ref f) = true
/-- a def that may be called -/
def Cal (P : Program) (w : World) (mg : Str → Option Value) (base : Heap) (x : Str) (k : Nat) (ps : List Str) (sp : Sp) : Prop := ∃ f fd, FnOk P w KC.K mg base CX0 k f fd ps sp ∧ mg x = some (.ref f) ∧ PySem.W.keepIn KC.K (.ref f) = true ∧ Binds KC.K fd ps []
section
variable {X : Cx} {EE : XKS} {ios : List Addr} {e : Expr} {es : List Expr} {fs : M (List RV)} {x : Str} {k : Nat} {ps : List Str} {p pos : Pos} {st : Stmt}
theorem ve_call {G : List D → Option Rt} (C : Cal X.prog X.w X.mg X.base x k ps (spP G)) (hr : Room k X.A) (hg : Gl X x) (ha : VA X EE ios (e :: es) fs) (hK : X.K = KC.K := by rfl) (hdb : (x == ("__debug__" : Str)) = false := by decide)
    (he : starEach (e :: es) X.env = (false, eval e X.env) :: starEach es X.env := by rfl) (hpl : (backTo pos (starEach es X.env)).any (·.1) = false := by rfl) : VE X EE ios (.Call (.Name x p) (e :: es) [] pos) (callP G fs) := by
  obtain ⟨f, fd, F, hm, hk, hb⟩ := C
  rw [← hK] at F hk hb
  exact ve_callP (fun t h => pe_call F hr hg hm hk hb .nil pass0 h hdb he hpl) ha
/-- THE RULE for a def -/
theorem cal_of {P : Program} {w : World} {mg : Str → Option Value} {base : Heap} {N : List Str} {G : List D → Option Rt} {bm : M Fl} (A0 : At mg x st) (S : FnScope N ps (defScope st))
    (bd : ∀ (kV doc pm : Value) (an : Option Addr) (cdv ct : Value) (us : List Value), us.length = ps.length → bindArgs (PySem.W.fnOf x x (defArgs st) (defBody st) (defScope st) .none kV doc pm an cdv ct) ⟨us, []⟩ = pure (ps.zip us))
    (hb : ∀ (fa : Addr) (cdv : Value) (A : Around) (outer : List Env) (s : Shared) (H : Hp) (E : XK), Room k (A.deeper (PyProof.Rows.envOfC x (defScope st) s.heap.objs.size fa cdv)) → VSs (cxOf CX0 P w KC.K mg base N x (defScope st) fa cdv A outer s H E).nox EN [] (defBody st) bm)
    (h : ∀ ds r, G ds = some r → ds.length = ps.length ∧ finR (bm (gam N ds)) = some r) : Cal P w mg base x (k + 1) ps (spP G) :=
  let ⟨f, fd, F, hm, hk⟩ := A0
  ⟨f, fd, fn_pure F S (hb f) h, hm, hk, F.binds bd⟩
/-- a written number below nought -/
theorem pe_negc {i : Int} {j : Nat} {p1 p2 : Pos} : PE X (.UnaryOp .USub (.Constant (.int i) j p1) p2) (tC (.int (-i))) := fun pins s σ H Q I h => pe_un un_neg pe_int pins s σ H Q I ⟨i, rfl, h⟩
/-- the block of a comprehension, decided -/
def blkB (sc scope : Scope) (N Nc : List Str) (own : Nat) (fr : List Nat) : Bool :=
  decide (Nc.length = own + fr.length) && decide (scope.kind = .function) && scope.names.all (fun y => decide (y.2 ≠ .cell)) && scope.names.all (fun y => decide (y.2 = .local → scope.names.lookup y.1 = some .local)) &&
  scope.names.all (fun y => decide (y.2 = .free → sc.names.lookup y.1 = some .cell ∨ sc.names.lookup y.1 = some .free)) &&
  (List.range fr.length).all fun k => match fr[k]?, Nc[own + k]? with
    | some j, some x => decide (N[j]? = some x) && decide (sc.names.lookup x = some .cell ∨ sc.names.lookup x = some .free) && decide (scope.names.lookup x = some .free)
    | _, _ => true
omit [KC] in
theorem blk_of {X : Cx} {scope sc : Scope} {N Nc : List Str} {own : Nat} {fr : List Nat} (hs : X.env.scope = sc) (hN : X.N = N) (h : blkB sc scope N Nc own fr = true) : BlkN X scope Nc own fr := by
  subst hs hN
  unfold blkB at h
  simp only [Bool.and_eq_true, decide_eq_true_eq, List.all_eq_true] at h
  obtain ⟨⟨⟨⟨⟨h1, h2⟩, h3⟩, h4⟩, h5⟩, h6⟩ := h
  refine ⟨h1, fun k j x e1 e2 => ?_, h2, h3, h4, fun x hx => h5 _ hx rfl⟩
  have hk : k < fr.length := (List.getElem?_eq_some_iff.mp e1).1
  have z := h6 k (List.mem_range.mpr hk)
  rw [e1, e2] at z
  simp only [Bool.and_eq_true, decide_eq_true_eq] at z
  exact ⟨z.1.1, z.1.2, z.2⟩
end
end Dv
end

section
set_option Elab.async false
set_option linter.all false
set_option maxRecDepth 100000
set_option maxHeartbeats 5000000
namespace Dv
open PySem L2 Ex
variable [KC]
section
variable {X : Cx} {EE : XKS} {ios : List Addr} {e a b c : Expr} {f g k : M RV} {pos p : Pos} {x : Str} {ps : List Str} {kk : Nat}
theorem rd_self : RdE EE ios (tOfE EE ios f) f := fun σ H R Γ Q er w => ⟨R, Γ, er, w⟩
theorem ve_gint {i : Int} (h : ∃ t, X.mg x = some (.int i t)) (hg : Gl X x) (hd : (x == ("__debug__" : Str)) = false := by decide) : VE X EE ios (.Name x pos) (M.pure (.val (.int i))) :=
  let ⟨t, h⟩ := h; ve_cst (pe_glob (v := .int i) hg h ⟨t, rfl⟩ hd) fun _ => .int i
def maxI : List Int → Int
  | [] => 0
  | [n] => n
  | n :: r => max n (maxI r)
def minI : List Int → Int
  | [] => 0
  | [n] => n
  | n :: r => min n (minI r)
theorem maxI_mem : ∀ {ns : List Int}, ns ≠ [] → maxI ns ∈ ns ∧ ∀ a ∈ ns, a ≤ maxI ns
  | [], h => absurd rfl h
  | [n], _ => ⟨by simp [maxI], fun a ha => by simp at ha; simp [maxI, ha]⟩
  | n :: m :: r, _ => by
    obtain ⟨h1, h2⟩ := maxI_mem (ns := m :: r) (by simp)
    have e : maxI (n :: m :: r) = max n (maxI (m :: r)) := rfl
    rw [e]
    refine ⟨?_, fun a ha => ?_⟩
    · by_cases q : n ≤ maxI (m :: r)
      · rw [Int.max_eq_right q]; exact List.mem_cons_of_mem _ h1
      · rw [Int.max_eq_left (by omega)]; exact List.mem_cons_self ..
    · rcases List.mem_cons.1 ha with rfl | ha
      · omega
      · have := h2 a ha; omega
theorem minI_mem : ∀ {ns : List Int}, ns ≠ [] → minI ns ∈ ns ∧ ∀ a ∈ ns, minI ns ≤ a
  | [], h => absurd rfl h
  | [n], _ => ⟨by simp [minI], fun a ha => by simp at ha; simp [minI, ha]⟩
  | n :: m :: r, _ => by
    obtain ⟨h1, h2⟩ := minI_mem (ns := m :: r) (by simp)
    have e : minI (n :: m :: r) = min n (minI (m :: r)) := rfl
    rw [e]
    refine ⟨?_, fun a ha => ?_⟩
    · by_cases q : n ≤ minI (m :: r)
      · rw [Int.min_eq_left q]; exact List.mem_cons_self ..
      · rw [Int.min_eq_right (by omega)]; exact List.mem_cons_of_mem _ h1
    · rcases List.mem_cons.1 ha with rfl | ha
      · omega
      · have := h2 a ha; omega
def maxIO : List D → Option RV
  | [.lst ds] => match asIs ds with
    | some (n :: r) => some (.val (.int (maxI (n :: r))))
    | _ => none
  | _ => none
def minIO : List D → Option RV
  | [.lst ds] => match asIs ds with
    | some (n :: r) => some (.val (.int (minI (n :: r))))
    | _ => none
  | _ => none
theorem callv_maxI : CallV (fun xs H Q => ∃ (p : Addr) (ns : List Int), xs = [.ref p] ∧ H p = some (.lst (ns.map V.int)) ∧ 0 < ns.length ∧ ∀ M ∈ ns, (∀ a ∈ ns, a ≤ M) → Q (.int M) H) maxIO := by
  intro R H xs ds rv Q s px hg q
  unfold maxIO at hg
  split at hg
  · split at hg
    · rename_i l n r h
      cases hg
      obtain ⟨x, rfl, p⟩ := px.one
      obtain ⟨a, ys, rfl, h1, h2⟩ := p.lst s
      rw [asIs_eq h] at h2
      rw [h2.ints_inv] at h1
      refine ⟨a, n :: r, rfl, h1, by simp, fun M hM hle => ?_⟩
      obtain ⟨m1, m2⟩ := maxI_mem (ns := n :: r) (by simp)
      have : M = maxI (n :: r) := Int.le_antisymm (m2 M hM) (hle _ m1)
      rw [this]
      exact q _ H R (Al.refl s) (.int _)
    · cases hg
  · cases hg
theorem callv_minI : CallV (fun xs H Q => ∃ (p : Addr) (ns : List Int), xs = [.ref p] ∧ H p = some (.lst (ns.map V.int)) ∧ 0 < ns.length ∧ ∀ M ∈ ns, (∀ a ∈ ns, M ≤ a) → Q (.int M) H) minIO := by
  intro R H xs ds rv Q s px hg q
  unfold minIO at hg
  split at hg
  · split at hg
    · rename_i l n r h
      cases hg
      obtain ⟨x, rfl, p⟩ := px.one
      obtain ⟨a, ys, rfl, h1, h2⟩ := p.lst s
      rw [asIs_eq h] at h2
      rw [h2.ints_inv] at h1
      refine ⟨a, n :: r, rfl, h1, by simp, fun M hM hle => ?_⟩
      obtain ⟨m1, m2⟩ := minI_mem (ns := n :: r) (by simp)
      have : M = minI (n :: r) := Int.le_antisymm (hle _ m1) (m2 M hM)
      rw [this]
      exact q _ H R (Al.refl s) (.int _)
    · cases hg
  · cases hg
end
end Dv
namespace Dv
open PySem L2 Ex
variable [KC]
/-- a def's own run, as its promise -/
def runP (n : Nat) (N : List Str) (bm : M Fl) : List D → Option Rt := fun ds => if ds.length = n then finR (bm (gam N ds)) else none
theorem runP_ok {n : Nat} {N : List Str} {bm : M Fl} {ds : List D} {r : Rt} (h : runP n N bm ds = some r) : ds.length = n ∧ finR (bm (gam N ds)) = some r := by
  unfold runP at h
  split at h
  · rename_i q; exact ⟨q, h⟩
  · cases h
end Dv
end

section
set_option Elab.async false
set_option linter.all false
set_option maxRecDepth 100000
set_option maxHeartbeats 5000000
namespace Dv
open PySem L2 Ex
variable [KC]
section
variable {X : Cx} {EE : XKS} {ios : List Addr} {a b c d : Expr} {f g k l : M RV} {pos : Pos} {ta tb tc td : TE} {r r' r'' : R2}
/-! a op b op c op d, as a test -/
def op4 (o o' o'' : D → D → Option RV) (f g k l : M RV) : M Bool := M.bind f fun x => M.bind g fun y => M.bind (peek x) fun d => M.bind (peek y) fun e => M.bind (M.bind (M.ofO (o d e)) asB) fun q =>
  if q then M.bind k fun z => M.bind (peek y) fun e' => M.bind (peek z) fun u => M.bind (M.bind (M.ofO (o' e' u)) asB) fun q' =>
    if q' then M.bind l fun v => M.bind (peek z) fun u' => M.bind (peek v) fun t => M.bind (M.ofO (o'' u' t)) asB else M.pure false
  else M.pure false
theorem rd_chain3 {o o' o'' : D → D → Option RV} (ho : OpV r o) (ho' : OpV r' o') (ho'' : OpV r'' o'') (ha : RdE EE ios ta f) (hb : RdE EE ios tb g) (hc : RdE EE ios tc k) (hd : RdE EE ios td l) : RdT EE ios (tChain3 r r' r'' ta tb tc td) (op4 o o' o'' f g k l) := by
  intro σ H R Γ Q er w
  unfold op4 at w
  rw [wpM_bind] at w
  refine ha σ H R Γ _ er (wpM_mono w (fun rx Γ1 w x H1 R1 p1 hx => ?_) fun _ _ z => z)
  rw [wpM_bind] at w
  refine hb σ H1 R1 Γ1 _ p1.er (wpM_mono w (fun ry Γ2 w y H2 R2 p2 hy => ?_) fun _ _ z => EXP.trans p1 z)
  have p12 := p1.trans p2
  rw [wpM_bind] at w
  obtain ⟨d, pd, w⟩ := peek_ok p2.er (hx.go er p1 p2.go) w
  rw [wpM_bind] at w
  obtain ⟨e, pe, w⟩ := peek_ok p2.er hy w
  rw [wpM_bind, wpM_bind] at w
  obtain ⟨rv, hg, w⟩ := wpM_ofO w
  refine ho R2 H2 x y d e rv _ p2.er.sub pd pe hg fun z H3 R3 al ra => ?_
  unfold asB at w
  split at w
  · rename_i q
    cases ra
    refine ⟨q, rfl, ?_⟩
    have p13 := p12.al al
    have w : wpM ((if q = true then M.bind k fun z => M.bind (peek ry) fun e' => M.bind (peek z) fun u => M.bind (M.bind (M.ofO (o' e' u)) asB) fun q' => if q' then M.bind l fun v => M.bind (peek z) fun u' => M.bind (peek v) fun t => M.bind (M.ofO (o'' u' t)) asB else M.pure false else M.pure false) Γ2) _ _ := w
    cases q with
    | false => exact iteF (w H3 R3 p13)
    | true =>
      refine iteT ?_
      simp only [if_true] at w
      rw [wpM_bind] at w
      refine hc σ H3 R3 Γ2 _ p13.er (wpM_mono w (fun rz Γ4 w z H4 R4 p4 hz => ?_) fun _ _ z => EXP.trans p13 z)
      rw [wpM_bind] at w
      have hy3 : RvR R3 H1 H3 σ y ry := hy.go p1.er p2 al.go
      obtain ⟨e', pe', w⟩ := peek_ok p4.er (hy3.go p1.er (p2.al al) p4.go) w
      rw [wpM_bind] at w
      obtain ⟨u, pu, w⟩ := peek_ok p4.er hz w
      rw [wpM_bind, wpM_bind] at w
      obtain ⟨rv, hg', w⟩ := wpM_ofO w
      have p14 := p13.trans p4
      refine ho' R4 H4 y z e' u rv _ p4.er.sub pe' pu hg' fun v H5 R5 al5 ra5 => ?_
      unfold asB at w
      split at w
      · rename_i q'
        cases ra5
        refine ⟨q', rfl, ?_⟩
        have p15 := p14.al al5
        have w : wpM ((if q' = true then M.bind l fun v => M.bind (peek rz) fun u' => M.bind (peek v) fun t => M.bind (M.ofO (o'' u' t)) asB else M.pure false) Γ4) _ _ := w
        cases q' with
        | false => exact iteF (w H5 R5 p15)
        | true =>
          refine iteT ?_
          simp only [if_true] at w
          rw [wpM_bind] at w
          refine hd σ H5 R5 Γ4 _ p15.er (wpM_mono w (fun rv6 Γ6 w v H6 R6 p6 hv => ?_) fun _ _ z => EXP.trans p15 z)
          rw [wpM_bind] at w
          have hz5 : RvR R5 H3 H5 σ z rz := hz.go p13.er p4 al5.go
          obtain ⟨u', pu', w⟩ := peek_ok p6.er (hz5.go p13.er (p4.al al5) p6.go) w
          rw [wpM_bind] at w
          obtain ⟨t, pt, w⟩ := peek_ok p6.er hv w
          rw [wpM_bind] at w
          obtain ⟨rv, hg'', w⟩ := wpM_ofO w
          refine ho'' R6 H6 z v u' t rv _ p6.er.sub pu' pt hg'' fun v7 H7 R7 al7 ra7 => ?_
          unfold asB at w
          split at w
          · cases ra7
            exact ⟨_, rfl, w H7 R7 ((p15.trans p6).al al7)⟩
          · exact False.elim w
      · exact False.elim w
  · exact False.elim w
theorem vt_chain3 {op op' op'' : CmpOp} {o o' o'' : D → D → Option RV} (h : OpR X (compareOp op) r) (h' : OpR X (compareOp op') r') (h'' : OpR X (compareOp op'') r'') (ho : OpV r o) (ho' : OpV r' o') (ho'' : OpV r'' o'') (ha : VE X EE ios a f) (hb : VE X EE ios b g) (hc : VE X EE ios c k) (hd : VE X EE ios d l)
    (hm : lastMarks [op, op', op''] [b, c, d] = false := by with_unfolding_all rfl) : VT X EE ios (.Compare a [op, op', op''] [b, c, d] pos) (op4 o o' o'' f g k l) :=
  let ⟨_, h1, h2⟩ := ha; let ⟨_, h3, h4⟩ := hb; let ⟨_, h5, h6⟩ := hc; let ⟨_, h7, h8⟩ := hd; ⟨_, pt_chain3 h h' h'' h1 h3 h5 h7 hm, rd_chain3 ho ho' ho'' h2 h4 h6 h8⟩
end
/-! a list times an int -/
noncomputable def repO (d e : D) : Option RV := match d, e with
  | .lst xs, .int k => if cd (-(2 ^ 63) ≤ k ∧ k < 2 ^ 63 ∧ xs.length * k.toNat ≤ sizeLine) then some (.new (.lst (List.replicate k.toNat xs).flatten)) else none
  | _, _ => none
theorem Rps.rep {R : Hp} {xs : List V} {ds : List D} (h : Rps R xs ds) : ∀ k : Nat, Rps R (List.replicate k xs).flatten (List.replicate k ds).flatten
  | 0 => .nil
  | k + 1 => by
    rw [List.replicate_succ, List.replicate_succ, List.flatten_cons, List.flatten_cons]
    exact h.app (Rps.rep h k)
theorem opv_rep : OpV rRep repO := by
  intro R H x y d e rv Q s px py hg q
  unfold repO at hg
  split at hg
  · split at hg
    · rename_i c
      cases hg
      obtain ⟨c1, c2, c3⟩ := of_cd c
      obtain ⟨a, xs, rfl, h1, h2⟩ := px.lst s
      refine ⟨a, _, xs, rfl, py.int, h1, c1, c2, by rw [h2.len]; exact c3, fun p hp => ?_⟩
      obtain ⟨al, rv⟩ := al_new s hp (h2.rep _)
      exact q _ _ _ al rv
    · cases hg
  · cases hg
/-! {} -/
section
variable {X : Cx} {EE : XKS} {ios : List Addr} {pos : Pos}
theorem al_dic {R H : Hp} {p : Addr} (s : Same R H) (hp : H p = none) : Al R H (upd R p (.dK [])) (upd H p (.dK [])) ∧ RvA (upd R p (.dK [])) H (upd H p (.dK [])) (.ref p) (.val (.dic [] [])) := by
  have hr : R p = none := s.free hp
  refine ⟨⟨fun b o e => ?_, same_upd hr, same_upd hp, fun b o e r => ?_⟩, .dnil upd_same⟩
  · by_cases hb : b = p
    · subst hb; rw [upd_same] at e ⊢; exact e
    · rw [upd_ne hb] at e ⊢; exact s b o e
  · rw [upd_ne (ne_of_none e hp)]; exact r
def tDic : TE := fun _ H Q => ∀ p, H p = none → Q (.ref p) (upd H p (.dK []))
theorem pe_dic : PE X (.Dict [] [] pos) tDic := by
  intro pins s σ H Q I h
  refine wpAny_Dict_empty ⟨.ref s.heap.objs.size, upd H s.heap.objs.size (.dK []), ?_, rfl, h _ I.fresh⟩
  refine Inv.laid (t' := s.toks) I (fun _ _ q => Heap.get?_push_of_some _ q) (Nat.le_refl _) ?_
  have m : mainGlobals < s.heap.objs.size := Heap.Ns.lt (I.mod.glob.keeps I.bk)
  refine ⟨Nat.zero_le _, beq_eq_false_iff_ne.mpr (fun z => ?_), [], .nil, Heap.DictOf.new _⟩
  rw [z] at m
  exact absurd m (by decide)
theorem ve_dic : VE X EE ios (.Dict [] [] pos) (M.pure (.val (.dic [] []))) := by
  refine ⟨_, pe_dic, fun σ H R Γ Q er w => fun p hp => ?_⟩
  obtain ⟨al, rv⟩ := al_dic er.sub hp
  exact w _ _ _ ((EPo.refl er).al al) (rv.rv ((EPo.refl er).back er))
end
/-! a, b = x, y -/
section
variable {X : Cx} {EE : XKS} {ios : List Addr} {fs : M (List RV)} {ta : TA} {i j : Nat} {x y : Str} {a b : Expr} {px py pt pos : Pos} {kt k2 : Nat} {pt2 : Pos}
def parM (i j : Nat) (fs : M (List RV)) : M Fl := M.bind fs fun rvs => M.bind (matAll rvs) fun ds => match ds with
  | [d, e] => M.bind (setS i (.frz, d)) fun _ => M.bind (setS j (.frz, e)) fun _ => M.pure .nx
  | _ => M.st
theorem vs_par (hc : X.calm = true) (hN : X.N.Nodup) (hi : X.N[i]? = some x) (hj : X.N[j]? = some y) (hij : i ≠ j) (hx : X.env.scope.names.lookup x = some .local) (hy : X.env.scope.names.lookup y = some .local) (ha : VA X EE ios [a, b] fs)
    (hw : swappedStores [.Tuple [.Name x px, .Name y py] kt pt] (.Tuple [a, b] k2 pt2) X.env = pure (some [x, y]))
    (hs : swapsWithSole [.Tuple [.Name x px, .Name y py] kt pt] (.Tuple [a, b] k2 pt2) pos.line X.env = pure false := by rfl) :
    VS X EE ios (.Assign [.Tuple [.Name x px, .Name y py] kt pt] (.Tuple [a, b] k2 pt2) pos) (parM i j fs) := by
  obtain ⟨t, h1, h2⟩ := ha
  refine ⟨_, ps_par hc hN hi hj hij hx hy h1 hw hs, fun σ H R Γ Q er w => ?_⟩
  unfold parM at w
  rw [wpM_bind] at w
  refine h2 σ H R Γ _ er (wpM_mono w (fun rvs Γ1 w xs H1 R1 p1 hx => ?_) fun _ _ z => z.exp)
  rw [wpM_bind] at w
  obtain ⟨ds, Γ2, R2, p2, s2, r2, w⟩ := matAll_ok er p1 hx w
  split at w
  · rename_i d e
    cases r2 with
    | cons q1 r2 =>
      cases r2 with
      | cons q2 r2 =>
        cases r2
        refine ⟨_, _, rfl, ?_⟩
        have z1 := SPo.set (i := i) er p2 (s := (.frz, d)) q1 fun z => by cases z
        have z2 := SPo.set (i := j) z1.er (EPo.refl z1.er) (s := (.frz, e)) q2 fun z => by cases z
        exact w _ H1 R2 (z1.trans z2)
  · exact False.elim w
end
end Dv
end

section
set_option Elab.async false
set_option linter.all false
set_option maxRecDepth 100000
set_option maxHeartbeats 5000000
namespace L2
open PySem PySem.Spec PyProof.Rows Ex
/-! repr of [x, {}], and of a number -/
section
variable {X : Cx}
theorem read_dic {P : Program} {w : World} {H : Hp} {h : Heap} {b : Addr} (ok : HOk P w H h) (e : H b = some (.dK [])) : Reads h (.ref b) (.dict []) [b] ∧ b ≠ sysModules := by
  obtain ⟨_, ns, vs, kv, o, es, ep, g, ex, dt, _, pr, _⟩ := ok _ _ e
  cases kv
  have z : es.toList = [] := by
    cases q : es.toList with
    | nil => rfl
    | cons a r => rw [q] at pr; cases pr
  refine ⟨?_, fun z => by rw [z] at ns; exact absurd ns (by decide)⟩
  have R : Reads h (.ref b) (.dict []) (b :: [] ++ []) := .dict g ex.1 dt (by rw [z]; exact .nil) (by rw [z]; exact .nil)
  exact R
def twoT (d : PyData) : PyData := .list [d, .dict []]
theorem call_repr_dic {k : Nat} (hr : Room k X.A) : CallR X (.builtin "repr") (fun xs H Q => ∃ (a b : Addr) (x : V) (d : PyData), xs = [.ref a] ∧ H a = some (.lst [x, .ref b]) ∧ H b = some (.dK []) ∧ DatV H x d ∧ d.showable = true ∧ d.hasDict = false ∧ d.depth ≤ 50 ∧ (twoT d).shown.length ≤ sizeLine ∧ Q (.str (twoT d).shown) H) := by
  intro pins s σ H xs us Q I r h
  obtain ⟨a, b, x, d, rfl, ea, eb, D, sh, nd, dp, sz, q⟩ := h
  obtain ⟨u, rfl, ru⟩ := r.one
  cases ru
  obtain ⟨_, its, n, rv, g⟩ := I.hok a _ ea
  cases rv with
  | cons r1 rv =>
    cases rv with
    | cons r2 rv =>
      cases rv
      cases r2
      rename_i u1
      obtain ⟨as, R1⟩ := D.reads I.hok r1
      obtain ⟨R2, nb⟩ := read_dic I.hok eb
      have sz' : (listText [d.shown, (PyData.dict []).shown]).length ≤ sizeLine := by
        have := sz
        simpa only [twoT, PyData.shown, PyData.shownAll] using this
      have z1 : d.shown.length ≤ sizeLine := Nat.le_trans (listText_mem_le (List.mem_cons_self ..)) sz'
      have z2 : (PyData.dict []).shown.length ≤ sizeLine := Nat.le_trans (listText_mem_le (List.mem_cons_of_mem _ (List.mem_cons_self ..))) sz'
      obtain ⟨b1, hb1, k1⟩ := ReprK.of_reads (prog := X.prog) (w := X.w) R1 sh (fun z => by rw [nd] at z; cases z) z1
      obtain ⟨b2, hb2, k2⟩ := ReprK.of_reads (prog := X.prog) (w := X.w) R2 (by decide) (fun _ hm => nb (List.mem_singleton.mp hm).symm) z2
      have dd : (PyData.dict []).depth ≤ 50 := by decide
      have R : Reads s.heap (.ref a) (.list [d, .dict []]) (a :: (as ++ ([b] ++ []))) := .list g rfl rfl (.cons R1 (.cons R2 .nil))
      have un := hr.units
      have ld : (PyData.list [d, .dict []]).depth = max d.depth (max (PyData.dict []).depth 0) + 1 := by simp only [PyData.depth, PyData.depthAll]
      have hna : a ∉ b1 ++ b2 := not_mem_of_deeper R (n := max d.depth (PyData.dict []).depth) (by rw [ld]; omega) ((hb1.mono (Nat.le_max_left _ _)).append (hb2.mono (Nat.le_max_right _ _)))
      have K : ReprAllK X.prog X.w (b1 ++ b2) s.heap (max d.depth (PyData.dict []).depth) [u1, .ref b] [d.shown, (PyData.dict []).shown] :=
        .cons ((k1.more (fun _ h => List.mem_append_left _ h)).level_le (Nat.le_max_left _ _)) (.cons ((k2.more (fun _ h => List.mem_append_right _ h)).level_le (Nat.le_max_right _ _)) .nil)
      refine call_repr_slot (by omega) ⟨_, g, rfl⟩ F.slot_list_repr.toG ?_
      refine call_list_reprK g rfl rfl hna (by simpa using K.length_eq) (fun i y e => K.item i y (by simpa using e)) hr.gd (fun b _ => Clear.nil b) ?_ (fun _ _ e => e) (fun h' u tk kp => ?_) sz'
      · show X.A.units + 1 + _ < cLine
        omega
      · refine ⟨_, _, rfl, .str (twoT d).shown, H, I.kept kp, ⟨u, ?_⟩, q⟩
        simp only [twoT, PyData.shown, PyData.shownAll]
theorem call_repr_i : CallR X (.builtin "repr") (fun xs H Q => ∃ i : Int, xs = [.int i] ∧ i.natAbs.log2 < 1920 ∧ Q (.str (toString i)) H) := by
  intro pins s σ H xs us Q I r h
  obtain ⟨i, rfl, hi, q⟩ := h
  obtain ⟨u, rfl, ru⟩ := r.one
  obtain ⟨t, rfl⟩ := ru
  exact PySem.P.repr_of_int hi ⟨.str (toString i), H, I.kept (fun _ _ e => e), ⟨_, rfl⟩, q⟩
end
end L2
namespace Dv
open PySem L2 Ex
variable [KC]
noncomputable def reprO2 : List D → Option RV
  | [.int i] => if cd (i.natAbs.log2 < 1920) then some (.val (.str (toString i))) else none
  | [.lst [d, .dic [] []]] => if rprOk d && cd ((twoT d.py).shown.length ≤ sizeLine) then some (.val (.str (twoT d.py).shown)) else none
  | ds => reprO ds
def rRepr2 (xs : List V) (H : Hp) (Q : VK) : Prop := (∃ (a : Addr) (d : PyData), xs = [.ref a] ∧ DatV H (.ref a) d ∧ d.showable = true ∧ d.hasDict = false ∧ d.depth ≤ 50 ∧ d.shown.length ≤ sizeLine ∧ Q (.str d.shown) H) ∨
  (∃ (a b : Addr) (x : V) (d : PyData), xs = [.ref a] ∧ H a = some (.lst [x, .ref b]) ∧ H b = some (.dK []) ∧ DatV H x d ∧ d.showable = true ∧ d.hasDict = false ∧ d.depth ≤ 50 ∧ (twoT d).shown.length ≤ sizeLine ∧ Q (.str (twoT d).shown) H) ∨
  ∃ i : Int, xs = [.int i] ∧ i.natAbs.log2 < 1920 ∧ Q (.str (toString i)) H
omit [KC] in
theorem call_repr2 {X : Cx} {k : Nat} (hr : Room k X.A) : CallR X (.builtin "repr") rRepr2 := (call_repr_dat hr).or ((call_repr_dic hr).or call_repr_i)
theorem callv_repr2 : CallV rRepr2 reprO2 := by
  intro R H xs ds rv Q s px hg q
  unfold reprO2 at hg
  split at hg
  · rename_i i
    split at hg
    · rename_i c
      cases hg
      obtain ⟨x, rfl, p⟩ := px.one
      have e := p.int
      subst e
      exact .inr (.inr ⟨_, rfl, of_cd c, q _ H R (Al.refl s) (.str _)⟩)
    · cases hg
  · rename_i d
    split at hg
    · rename_i c
      cases hg
      rw [Bool.and_eq_true] at c
      obtain ⟨c0, c6'⟩ := c
      have c6' := of_cd c6'
      unfold rprOk at c0
      simp only [Bool.and_eq_true, decide_eq_true_eq, Bool.not_eq_true'] at c0
      obtain ⟨⟨⟨⟨c2, c3⟩, c4⟩, c5⟩, c6⟩ := c0
      obtain ⟨x, rfl, p⟩ := px.one
      obtain ⟨a, ys, rfl, h1, h2⟩ := p.lst s
      cases h2 with
      | cons q1 h2 =>
        cases h2 with
        | cons q2 h2 =>
          cases h2
          cases q2 with
          | dnil e =>
            exact .inr (.inl ⟨a, _, _, d.py, rfl, h1, s _ _ e, (q1.sm s).dat c2, c3, c4, c5, c6', q _ H R (Al.refl s) (.str _)⟩)
    · cases hg
  · exact .inl (callv_repr R H xs ds rv Q s px hg q)
end Dv
end

section
set_option Elab.async false
set_option linter.all false
set_option maxRecDepth 100000
set_option maxHeartbeats 5000000
namespace K40
open PySem L2 Ex Dv
variable [KC]
def top (i : Nat) : Stmt := PySem.Challenge.pw_thirdpoint_k40_fences_let_by_or_not.main.body.getD i (.Pass ⟨0, 0, 0, 0⟩)
structure Nm (mg : Str → Option Value) : Prop where
  b_abs : mg "abs" = none
  b_all : mg "all" = none
  b_any : mg "any" = none
  b_bool : mg "bool" = none
  b_enumerate : mg "enumerate" = none
  b_int : mg "int" = none
  b_isinstance : mg "isinstance" = none
  b_len : mg "len" = none
  b_list : mg "list" = none
  b_max : mg "max" = none
  b_min : mg "min" = none
  b_range : mg "range" = none
  b_repr : mg "repr" = none
  b_sorted : mg "sorted" = none
  b_tuple : mg "tuple" = none
  c_LAST_KEY : ∃ t, mg "LAST_KEY" = some (.int 30 t)
  c_MOST_ASKS : ∃ t, mg "MOST_ASKS" = some (.int 31 t)
def whileN : Nat := 100000
abbrev s_is_key : Stmt := top 5
abbrev s_look_at_asks : Stmt := top 8
abbrev s_sides : Stmt := top 10
abbrev s_is_fence : Stmt := top 11
abbrev s_is_up : Stmt := top 12
abbrev s_hinder : Stmt := top 13
abbrev s_are_fences : Stmt := top 14
abbrev s_floor_of : Stmt := top 15
abbrev s__law_digits : Stmt := top 17
abbrev s__law_asks : Stmt := top 18
abbrev s__law_is_fence : Stmt := top 19
abbrev s__law_hinders : Stmt := top 20
abbrev s__law_are_fences : Stmt := top 21
abbrev s__law_drawn_fences : Stmt := top 22
abbrev s__law_bent : Stmt := top 23
abbrev s__law_right : Stmt := top 24
abbrev s_law : Stmt := top 25
section
variable {P : Program} {w : World} {mg : Str → Option Value} {base : Heap}
theorem sc_is_key : FnScope ["thing"] ["thing"] (defScope s_is_key) := ⟨rfl, rfl, rfl, by decide +kernel, rfl, by decide +kernel, by decide +kernel⟩
noncomputable def bm_is_key  : M Fl :=
  (retM (andV (isiM .int (vName 0)) (andV (valB (ngM (M.bind (isiM .bool (vName 0)) asB))) (op3 leO leO (M.pure (.val (.int 0))) (vName 0) (M.pure (.val (.int 30)))))))
theorem vs_is_key {fa : Addr} {cdv : Value} {A : Around} {outer : List Env} {s : Shared} {H : Hp} {E : XK} {k : Nat} {ios : List Addr} (M : Nm mg)  (hr : Room k (A.deeper (PyProof.Rows.envOfC "is_key" (defScope s_is_key) s.heap.objs.size fa cdv))) :
    VSs (cxOf CX0 P w KC.K mg base ["thing"] "is_key" (defScope s_is_key) fa cdv A outer s H E).nox EN ios (defBody s_is_key) (bm_is_key ) :=
  (vss_one (vs_ret (ve_and (ve_isi (T := .int) (fun _ ha => pe_callB call_isinst rfl M.b_isinstance (by decide +kernel) (pa_cons ha (pa_cons (pe_bltn (v := .ty "int") (u := .type "int") rfl M.b_int (by decide +kernel) rfl) pa_nil))) (ve_name (pv 0))) (ve_and (ve_not (ve_isi (T := .bool) (fun _ ha => pe_callB call_isinst rfl M.b_isinstance (by decide +kernel) (pa_cons ha (pa_cons (pe_bltn (v := .ty "bool") (u := .type "bool") rfl M.b_bool (by decide +kernel) rfl) pa_nil))) (ve_name (pv 0)))) (ve_one (ve_chain op_le op_le opv_le opv_le ve_int (ve_name (pv 0)) (ve_gint M.c_LAST_KEY rfl)))))))
theorem sc_look_at_asks : FnScope ["thing", "number", "key"] ["thing"] (defScope s_look_at_asks) := ⟨rfl, rfl, rfl, by decide +kernel, rfl, by decide +kernel, by decide +kernel⟩
noncomputable def bm_look_at_asks (G_is_key : List D → Option Rt) : M Fl :=
  (seqM (ifM (orM (ngM (M.bind (isiM .list (vName 0)) asB)) (ngM (M.bind (op3 leO leO (M.pure (.val (.int 1))) (callM lenO (consM (vName 0) (M.pure []))) (M.pure (.val (.int 31)))) asB)))
  M.st
  (M.pure .nx))
  (forM (enuI (consM (vName 0) (M.pure []))) (gT 2 (gsC (gN 1) (gsC (gN 2) gs0)))
  (ifM (ngM (M.bind (callP G_is_key (consM (vName 2) (M.pure []))) asB))
  M.st
  (M.pure .nx))))
theorem vs_look_at_asks {fa : Addr} {cdv : Value} {A : Around} {outer : List Env} {s : Shared} {H : Hp} {E : XK} {k : Nat} {ios : List Addr} (M : Nm mg) {G_is_key : List D → Option Rt} {k_is_key : Nat} (C_is_key : Cal P w mg base "is_key" k_is_key ["thing"] (spP G_is_key)) (L_is_key : k_is_key ≤ k) (hr : Room k (A.deeper (PyProof.Rows.envOfC "look_at_asks" (defScope s_look_at_asks) s.heap.objs.size fa cdv))) :
    VSs (cxOf CX0 P w KC.K mg base ["thing", "number", "key"] "look_at_asks" (defScope s_look_at_asks) fa cdv A outer s H E).nox EN ios (defBody s_look_at_asks) (bm_look_at_asks G_is_key) :=
  (vss_cons (vs_if (vt_bool (vw_or (vt_not (vt_val (ve_isi (T := .list) (fun _ ha => pe_callB call_isinst rfl M.b_isinstance (by decide +kernel) (pa_cons ha (pa_cons (pe_bltn (v := .ty "list") (u := .type "list") rfl M.b_list (by decide +kernel) rfl) pa_nil))) (ve_name (pv 0))))) (vw_or1 (vt_not (vt_chain op_le op_le opv_le opv_le ve_int (ve_blt (fun _ ha => pe_callB call_len2 rfl M.b_len PySem.boot_len ha) callv_len (va_cons (ve_name (pv 0)) va_nil)) (ve_gint M.c_MOST_ASKS rfl))))))
      (vss_one vs_never)
      vss_nil)
      (vss_one (vs_for (n := 3) (vi_enu (fun _ ha => pi_enum rfl M.b_enumerate ha) (va_cons (ve_name (pv 0)) va_nil)) (rd_gtup (rd_gcons (rd_gname (by decide)) (rd_gcons (rd_gname (by decide)) rd_gnil)))
      (vss_one (vs_if (vt_not (vt_val (ve_call C_is_key (hr.mono L_is_key) rfl (va_cons (ve_name (pv 2)) va_nil))))
      (vss_one vs_never)
      vss_nil)) (fun _ _ h1 h2 => ps_for PassesOwn.never rfl h1 (pg_tup rfl (pgs_cons (pg_name (i := 1) sc_look_at_asks.nd rfl (by first | exact Or.inl rfl | exact Or.inr rfl)) (pgs_cons (pg_name (i := 2) sc_look_at_asks.nd rfl (by first | exact Or.inl rfl | exact Or.inr rfl)) pgs_nil))) h2))))
theorem sc_sides : FnScope ["asks", "one", "other"] ["asks", "one", "other"] (defScope s_sides) := ⟨rfl, rfl, rfl, by decide +kernel, rfl, by decide +kernel, by decide +kernel⟩
noncomputable def bm_sides  : M Fl :=
  (retM (callM sortedO (consM (lstM (consM (op2 idxO (vName 0) (vName 1)) (consM (op2 idxO (vName 0) (vName 2)) (M.pure [])))) (M.pure []))))
theorem vs_sides {fa : Addr} {cdv : Value} {A : Around} {outer : List Env} {s : Shared} {H : Hp} {E : XK} {k : Nat} {ios : List Addr} (M : Nm mg)  (hr : Room k (A.deeper (PyProof.Rows.envOfC "sides" (defScope s_sides) s.heap.objs.size fa cdv))) :
    VSs (cxOf CX0 P w KC.K mg base ["asks", "one", "other"] "sides" (defScope s_sides) fa cdv A outer s H E).nox EN ios (defBody s_sides) (bm_sides ) :=
  (vss_one (vs_ret (ve_blt (fun _ ha => pe_callB call_sorted_ints rfl M.b_sorted (by decide +kernel) ha) callv_sorted (va_cons (ve_lst (va_cons (ve_ix (ve_name (pv 0)) (ve_name (pv 1))) (va_cons (ve_ix (ve_name (pv 0)) (ve_name (pv 2))) va_nil))) va_nil))))
theorem sc_is_fence : FnScope ["asks", "thing", "one", "other", "gap", "low", "high"] ["asks", "thing"] (defScope s_is_fence) := ⟨rfl, rfl, rfl, by decide +kernel, rfl, by decide +kernel, by decide +kernel⟩
noncomputable def bm_is_fence (G_is_key : List D → Option Rt) (G_sides : List D → Option Rt) : M Fl :=
  (seqM (ifM (orM (ngM (M.bind (isiM .tuple (vName 1)) asB)) (orM (M.bind (op2 neO2 (callM lenO (consM (vName 1) (M.pure []))) (M.pure (.val (.int 3)))) asB) (ngM (M.bind (callM allO (consM (compM (tupI (vName 1)) [] 1 (gN 0) (M.pure true) (callP G_is_key (consM (vName 0) (M.pure [])))) (M.pure []))) asB))))
  (retM (M.pure (.val (.bl false))))
  (M.pure .nx))
  (seqM (asgG (gT 3 (gsC (gN 2) (gsC (gN 3) (gsC (gN 4) gs0)))) (vName 1))
  (seqM (ifM (ngM (M.bind (op3 ltO ltO (vName 2) (vName 3) (callM lenO (consM (vName 0) (M.pure [])))) asB))
  (retM (M.pure (.val (.bl false))))
  (M.pure .nx))
  (seqM (asgG (g2 (gsC (gN 5) (gsC (gN 6) gs0))) (callP G_sides (consM (vName 0) (consM (vName 2) (consM (vName 3) (M.pure []))))))
  (retM (op3 leO ltO (vName 5) (vName 4) (vName 6)))))))
theorem vs_is_fence {fa : Addr} {cdv : Value} {A : Around} {outer : List Env} {s : Shared} {H : Hp} {E : XK} {k : Nat} {ios : List Addr} (M : Nm mg) {G_is_key : List D → Option Rt} {k_is_key : Nat} (C_is_key : Cal P w mg base "is_key" k_is_key ["thing"] (spP G_is_key)) (L_is_key : k_is_key ≤ k) {G_sides : List D → Option Rt} {k_sides : Nat} (C_sides : Cal P w mg base "sides" k_sides ["asks", "one", "other"] (spP G_sides)) (L_sides : k_sides ≤ k) (hr : Room k (A.deeper (PyProof.Rows.envOfC "is_fence" (defScope s_is_fence) s.heap.objs.size fa cdv))) :
    VSs (cxOf CX0 P w KC.K mg base ["asks", "thing", "one", "other", "gap", "low", "high"] "is_fence" (defScope s_is_fence) fa cdv A outer s H E).nox EN ios (defBody s_is_fence) (bm_is_fence G_is_key G_sides) :=
  (vss_cons (vs_if (vt_bool (vw_or (vt_not (vt_val (ve_isi (T := .tuple) (fun _ ha => pe_callB call_isinst rfl M.b_isinstance (by decide +kernel) (pa_cons ha (pa_cons (pe_bltn (v := .ty "tuple") (u := .type "tuple") rfl M.b_tuple (by decide +kernel) rfl) pa_nil))) (ve_name (pv 1))))) (vw_or (vt_cmp (op_ne2 hr) opv_ne2 (ve_blt (fun _ ha => pe_callB call_len2 rfl M.b_len PySem.boot_len ha) callv_len (va_cons (ve_name (pv 1)) va_nil)) ve_int (nomark _)) (vw_or1 (vt_not (vt_val (ve_blt (fun _ ha => pe_callB (call_all_bl rfl) rfl M.b_all (by decide +kernel) ha) callv_all (va_cons (ve_lc rfl (blk_of (Nc := ["part"]) (own := 1) (fr := []) (sc := defScope s_is_fence) (N := ["asks", "thing", "one", "other", "gap", "low", "high"]) rfl rfl (by decide +kernel)) (by decide) (vi_tup (ve_name (pv 1))) (own_name (by decide)) (fun _ _ _ _ _ _ => (pg_name (i := 0) (show (["part"] : List Str).Nodup by decide +kernel) rfl (by first | exact Or.inl rfl | exact Or.inr rfl))) (rd_gname (by decide)) (gk_name (by decide)) (fun _ _ _ _ _ _ => vts_nil) (fun _ _ _ _ _ _ => (ve_call C_is_key (hr.mono L_is_key) rfl (va_cons (ve_name (pv 0)) va_nil)))) va_nil))))))))
      (vss_one (vs_ret ve_bl))
      vss_nil)
      (vss_cons (vs_asg (n := 7) (ve_name (pv 1)) (rd_gtup (rd_gcons (rd_gname (by decide)) (rd_gcons (rd_gname (by decide)) (rd_gcons (rd_gname (by decide)) rd_gnil)))) (fun _ h => ps_asg h (pg_tup rfl (pgs_cons (pg_name (i := 2) sc_is_fence.nd rfl (by first | exact Or.inl rfl | exact Or.inr rfl)) (pgs_cons (pg_name (i := 3) sc_is_fence.nd rfl (by first | exact Or.inl rfl | exact Or.inr rfl)) (pgs_cons (pg_name (i := 4) sc_is_fence.nd rfl (by first | exact Or.inl rfl | exact Or.inr rfl)) pgs_nil))))))
      (vss_cons (vs_if (vt_not (vt_chain op_lt op_lt opv_lt opv_lt (ve_name (pv 2)) (ve_name (pv 3)) (ve_blt (fun _ ha => pe_callB call_len2 rfl M.b_len PySem.boot_len ha) callv_len (va_cons (ve_name (pv 0)) va_nil))))
      (vss_one (vs_ret ve_bl))
      vss_nil)
      (vss_cons (vs_asg (n := 7) (ve_call C_sides (hr.mono L_sides) rfl (va_cons (ve_name (pv 0)) (va_cons (ve_name (pv 2)) (va_cons (ve_name (pv 3)) va_nil)))) (rd_gtwo (rd_gcons (rd_gname (by decide)) (rd_gcons (rd_gname (by decide)) rd_gnil))) (fun _ h => ps_asg h (pg_two rfl (pgs_cons (pg_name (i := 5) sc_is_fence.nd rfl (by first | exact Or.inl rfl | exact Or.inr rfl)) (pgs_cons (pg_name (i := 6) sc_is_fence.nd rfl (by first | exact Or.inl rfl | exact Or.inr rfl)) pgs_nil)))))
      (vss_one (vs_ret (ve_chain op_le op_lt opv_le opv_lt (ve_name (pv 5)) (ve_name (pv 4)) (ve_name (pv 6)))))))))
theorem sc_is_up : FnScope ["asks", "fence"] ["asks", "fence"] (defScope s_is_up) := ⟨rfl, rfl, rfl, by decide +kernel, rfl, by decide +kernel, by decide +kernel⟩
noncomputable def bm_is_up  : M Fl :=
  (retM (op2 ltO (op2 idxO (vName 0) (op2 idxO (vName 1) (M.pure (.val (.int 0))))) (op2 idxO (vName 0) (op2 idxO (vName 1) (M.pure (.val (.int 1)))))))
theorem vs_is_up {fa : Addr} {cdv : Value} {A : Around} {outer : List Env} {s : Shared} {H : Hp} {E : XK} {k : Nat} {ios : List Addr} (M : Nm mg)  (hr : Room k (A.deeper (PyProof.Rows.envOfC "is_up" (defScope s_is_up) s.heap.objs.size fa cdv))) :
    VSs (cxOf CX0 P w KC.K mg base ["asks", "fence"] "is_up" (defScope s_is_up) fa cdv A outer s H E).nox EN ios (defBody s_is_up) (bm_is_up ) :=
  (vss_one (vs_ret (ve_cmp op_lt opv_lt (ve_ix (ve_name (pv 0)) (ve_ix (ve_name (pv 1)) ve_int)) (ve_ix (ve_name (pv 0)) (ve_ix (ve_name (pv 1)) ve_int)) (nomark _))))
theorem sc_hinder : FnScope ["asks", "ahead", "behind", "low", "high"] ["asks", "ahead", "behind"] (defScope s_hinder) := ⟨rfl, rfl, rfl, by decide +kernel, rfl, by decide +kernel, by decide +kernel⟩
noncomputable def bm_hinder (G_is_up : List D → Option Rt) (G_sides : List D → Option Rt) : M Fl :=
  (seqM (ifM (M.bind (op2 neO2 (callP G_is_up (consM (vName 0) (consM (vName 1) (M.pure [])))) (callP G_is_up (consM (vName 0) (consM (vName 2) (M.pure []))))) asB)
  (retM (M.pure (.val (.bl false))))
  (M.pure .nx))
  (seqM (ifM (orM (M.bind (op2 ltO (op2 idxO (vName 1) (M.pure (.val (.int 1)))) (op2 idxO (vName 2) (M.pure (.val (.int 0))))) asB) (M.bind (op2 ltO (op2 idxO (vName 2) (M.pure (.val (.int 1)))) (op2 idxO (vName 1) (M.pure (.val (.int 0))))) asB))
  (retM (M.pure (.val (.bl false))))
  (M.pure .nx))
  (seqM (asgG (g2 (gsC (gN 3) (gsC (gN 4) gs0))) (callP G_sides (consM (vName 0) (consM (op2 idxO (vName 2) (M.pure (.val (.int 0)))) (consM (op2 idxO (vName 2) (M.pure (.val (.int 1)))) (M.pure []))))))
  (retM (op3 leO ltO (vName 3) (op2 idxO (vName 1) (M.pure (.val (.int 2)))) (vName 4))))))
theorem vs_hinder {fa : Addr} {cdv : Value} {A : Around} {outer : List Env} {s : Shared} {H : Hp} {E : XK} {k : Nat} {ios : List Addr} (M : Nm mg) {G_is_up : List D → Option Rt} {k_is_up : Nat} (C_is_up : Cal P w mg base "is_up" k_is_up ["asks", "fence"] (spP G_is_up)) (L_is_up : k_is_up ≤ k) {G_sides : List D → Option Rt} {k_sides : Nat} (C_sides : Cal P w mg base "sides" k_sides ["asks", "one", "other"] (spP G_sides)) (L_sides : k_sides ≤ k) (hr : Room k (A.deeper (PyProof.Rows.envOfC "hinder" (defScope s_hinder) s.heap.objs.size fa cdv))) :
    VSs (cxOf CX0 P w KC.K mg base ["asks", "ahead", "behind", "low", "high"] "hinder" (defScope s_hinder) fa cdv A outer s H E).nox EN ios (defBody s_hinder) (bm_hinder G_is_up G_sides) :=
  (vss_cons (vs_if (vt_cmp (op_ne2 hr) opv_ne2 (ve_call C_is_up (hr.mono L_is_up) rfl (va_cons (ve_name (pv 0)) (va_cons (ve_name (pv 1)) va_nil))) (ve_call C_is_up (hr.mono L_is_up) rfl (va_cons (ve_name (pv 0)) (va_cons (ve_name (pv 2)) va_nil))) (nomark _))
      (vss_one (vs_ret ve_bl))
      vss_nil)
      (vss_cons (vs_if (vt_bool (vw_or (vt_cmp op_lt opv_lt (ve_ix (ve_name (pv 1)) ve_int) (ve_ix (ve_name (pv 2)) ve_int) (nomark _)) (vw_or1 (vt_cmp op_lt opv_lt (ve_ix (ve_name (pv 2)) ve_int) (ve_ix (ve_name (pv 1)) ve_int) (nomark _)))))
      (vss_one (vs_ret ve_bl))
      vss_nil)
      (vss_cons (vs_asg (n := 5) (ve_call C_sides (hr.mono L_sides) rfl (va_cons (ve_name (pv 0)) (va_cons (ve_ix (ve_name (pv 2)) ve_int) (va_cons (ve_ix (ve_name (pv 2)) ve_int) va_nil)))) (rd_gtwo (rd_gcons (rd_gname (by decide)) (rd_gcons (rd_gname (by decide)) rd_gnil))) (fun _ h => ps_asg h (pg_two rfl (pgs_cons (pg_name (i := 3) sc_hinder.nd rfl (by first | exact Or.inl rfl | exact Or.inr rfl)) (pgs_cons (pg_name (i := 4) sc_hinder.nd rfl (by first | exact Or.inl rfl | exact Or.inr rfl)) pgs_nil)))))
      (vss_one (vs_ret (ve_chain op_le op_lt opv_le opv_lt (ve_name (pv 3)) (ve_ix (ve_name (pv 1)) ve_int) (ve_name (pv 4))))))))
theorem sc_are_fences : FnScope ["asks", "thing", "number", "behind"] ["asks", "thing"] (defScope s_are_fences) := ⟨rfl, rfl, rfl, by decide +kernel, rfl, by decide +kernel, by decide +kernel⟩
noncomputable def bm_are_fences (G_hinder : List D → Option Rt) (G_is_fence : List D → Option Rt) (G_look_at_asks : List D → Option Rt) : M Fl :=
  (seqM (dropM (callP G_look_at_asks (consM (vName 0) (M.pure []))))
  (seqM (ifM (orM (ngM (M.bind (isiM .list (vName 1)) asB)) (ngM (M.bind (callM allO (consM (compM (lstI (vName 1)) [0] 1 (gN 0) (M.pure true) (callP G_is_fence (consM (vName 1) (consM (vName 0) (M.pure []))))) (M.pure []))) asB)))
  (retM (M.pure (.val (.bl false))))
  (M.pure .nx))
  (seqM (forM (enuI (consM (vName 1) (M.pure []))) (gT 2 (gsC (gN 2) (gsC (gN 3) gs0)))
  (ifM (M.bind (callM anyO (consM (compM (lstI (slcM cutO (vName 1) (M.pure none) (M.bind (vName 2) asI))) [0, 3] 1 (gN 0) (M.pure true) (callP G_hinder (consM (vName 1) (consM (vName 0) (consM (vName 2) (M.pure [])))))) (M.pure []))) asB)
  (retM (M.pure (.val (.bl false))))
  (M.pure .nx)))
  (retM (M.pure (.val (.bl true)))))))
theorem vs_are_fences {fa : Addr} {cdv : Value} {A : Around} {outer : List Env} {s : Shared} {H : Hp} {E : XK} {k : Nat} {ios : List Addr} (M : Nm mg) {G_hinder : List D → Option Rt} {k_hinder : Nat} (C_hinder : Cal P w mg base "hinder" k_hinder ["asks", "ahead", "behind"] (spP G_hinder)) (L_hinder : k_hinder ≤ k) {G_is_fence : List D → Option Rt} {k_is_fence : Nat} (C_is_fence : Cal P w mg base "is_fence" k_is_fence ["asks", "thing"] (spP G_is_fence)) (L_is_fence : k_is_fence ≤ k) {G_look_at_asks : List D → Option Rt} {k_look_at_asks : Nat} (C_look_at_asks : Cal P w mg base "look_at_asks" k_look_at_asks ["thing"] (spP G_look_at_asks)) (L_look_at_asks : k_look_at_asks ≤ k) (hr : Room k (A.deeper (PyProof.Rows.envOfC "are_fences" (defScope s_are_fences) s.heap.objs.size fa cdv))) :
    VSs (cxOf CX0 P w KC.K mg base ["asks", "thing", "number", "behind"] "are_fences" (defScope s_are_fences) fa cdv A outer s H E).nox EN ios (defBody s_are_fences) (bm_are_fences G_hinder G_is_fence G_look_at_asks) :=
  (vss_cons (vs_expr (ve_call C_look_at_asks (hr.mono L_look_at_asks) rfl (va_cons (ve_name (pv 0)) va_nil)))
      (vss_cons (vs_if (vt_bool (vw_or (vt_not (vt_val (ve_isi (T := .list) (fun _ ha => pe_callB call_isinst rfl M.b_isinstance (by decide +kernel) (pa_cons ha (pa_cons (pe_bltn (v := .ty "list") (u := .type "list") rfl M.b_list (by decide +kernel) rfl) pa_nil))) (ve_name (pv 1))))) (vw_or1 (vt_not (vt_val (ve_blt (fun _ ha => pe_callB (call_all_bl rfl) rfl M.b_all (by decide +kernel) ha) callv_all (va_cons (ve_lc rfl (blk_of (Nc := ["fence", "asks"]) (own := 1) (fr := [0]) (sc := defScope s_are_fences) (N := ["asks", "thing", "number", "behind"]) rfl rfl (by decide +kernel)) (by decide) (vi_list (ve_name (pv 1))) (own_name (by decide)) (fun _ _ _ _ _ _ => (pg_name (i := 0) (show (["fence", "asks"] : List Str).Nodup by decide +kernel) rfl (by first | exact Or.inl rfl | exact Or.inr rfl))) (rd_gname (by decide)) (gk_name (by decide)) (fun _ _ _ _ _ _ => vts_nil) (fun _ _ _ _ _ _ => (ve_call C_is_fence (hr.mono L_is_fence) rfl (va_cons (ve_name (pv 1)) (va_cons (ve_name (pv 0)) va_nil))))) va_nil)))))))
      (vss_one (vs_ret ve_bl))
      vss_nil)
      (vss_cons (vs_for (n := 4) (vi_enu (fun _ ha => pi_enum rfl M.b_enumerate ha) (va_cons (ve_name (pv 1)) va_nil)) (rd_gtup (rd_gcons (rd_gname (by decide)) (rd_gcons (rd_gname (by decide)) rd_gnil)))
      (vss_one (vs_if (vt_val (ve_blt (fun _ ha => pe_callB (call_any_bl rfl) rfl M.b_any (by decide +kernel) ha) callv_any (va_cons (ve_lc rfl (blk_of (Nc := ["ahead", "asks", "behind"]) (own := 1) (fr := [0, 3]) (sc := defScope s_are_fences) (N := ["asks", "thing", "number", "behind"]) rfl rfl (by decide +kernel)) (by decide) (vi_list (ve_slc (ve_name (pv 1)) vo_none (vo_some (ve_name (pv 2))))) (own_name (by decide)) (fun _ _ _ _ _ _ => (pg_name (i := 0) (show (["ahead", "asks", "behind"] : List Str).Nodup by decide +kernel) rfl (by first | exact Or.inl rfl | exact Or.inr rfl))) (rd_gname (by decide)) (gk_name (by decide)) (fun _ _ _ _ _ _ => vts_nil) (fun _ _ _ _ _ _ => (ve_call C_hinder (hr.mono L_hinder) rfl (va_cons (ve_name (pv 1)) (va_cons (ve_name (pv 0)) (va_cons (ve_name (pv 2)) va_nil)))))) va_nil)))
      (vss_one (vs_ret ve_bl))
      vss_nil)) (fun _ _ h1 h2 => ps_for PassesOwn.never rfl h1 (pg_tup rfl (pgs_cons (pg_name (i := 2) sc_are_fences.nd rfl (by first | exact Or.inl rfl | exact Or.inr rfl)) (pgs_cons (pg_name (i := 3) sc_are_fences.nd rfl (by first | exact Or.inl rfl | exact Or.inr rfl)) pgs_nil))) h2))
      (vss_one (vs_ret ve_bl)))))
theorem sc_floor_of : FnScope ["asks", "fences", "ups"] ["asks", "fences"] (defScope s_floor_of) := ⟨rfl, rfl, rfl, by decide +kernel, rfl, by decide +kernel, by decide +kernel⟩
noncomputable def bm_floor_of (G_is_up : List D → Option Rt) (G_look_at_asks : List D → Option Rt) : M Fl :=
  (seqM (dropM (callP G_look_at_asks (consM (vName 0) (M.pure []))))
  (seqM (asgM 2 (callM lenO (consM (compM (lstI (vName 1)) [0] 1 (gN 0) (M.bind (callP G_is_up (consM (vName 1) (consM (vName 0) (M.pure [])))) asB) (vName 0)) (M.pure []))))
  (retM (op2 addO (callM lenO (consM (vName 0) (M.pure []))) (callM max2O (consM (vName 2) (consM (op2 subO (callM lenO (consM (vName 1) (M.pure []))) (vName 2)) (M.pure []))))))))
theorem vs_floor_of {fa : Addr} {cdv : Value} {A : Around} {outer : List Env} {s : Shared} {H : Hp} {E : XK} {k : Nat} {ios : List Addr} (M : Nm mg) {G_is_up : List D → Option Rt} {k_is_up : Nat} (C_is_up : Cal P w mg base "is_up" k_is_up ["asks", "fence"] (spP G_is_up)) (L_is_up : k_is_up ≤ k) {G_look_at_asks : List D → Option Rt} {k_look_at_asks : Nat} (C_look_at_asks : Cal P w mg base "look_at_asks" k_look_at_asks ["thing"] (spP G_look_at_asks)) (L_look_at_asks : k_look_at_asks ≤ k) (hr : Room k (A.deeper (PyProof.Rows.envOfC "floor_of" (defScope s_floor_of) s.heap.objs.size fa cdv))) :
    VSs (cxOf CX0 P w KC.K mg base ["asks", "fences", "ups"] "floor_of" (defScope s_floor_of) fa cdv A outer s H E).nox EN ios (defBody s_floor_of) (bm_floor_of G_is_up G_look_at_asks) :=
  (vss_cons (vs_expr (ve_call C_look_at_asks (hr.mono L_look_at_asks) rfl (va_cons (ve_name (pv 0)) va_nil)))
      (vss_cons (vs_set (i := 2) sc_floor_of.nd rfl (by first | exact Or.inl rfl | exact Or.inr rfl) (ve_blt (fun _ ha => pe_callB call_len2 rfl M.b_len PySem.boot_len ha) callv_len (va_cons (ve_lc rfl (blk_of (Nc := ["fence", "asks"]) (own := 1) (fr := [0]) (sc := defScope s_floor_of) (N := ["asks", "fences", "ups"]) rfl rfl (by decide +kernel)) (by decide) (vi_list (ve_name (pv 1))) (own_name (by decide)) (fun _ _ _ _ _ _ => (pg_name (i := 0) (show (["fence", "asks"] : List Str).Nodup by decide +kernel) rfl (by first | exact Or.inl rfl | exact Or.inr rfl))) (rd_gname (by decide)) (gk_name (by decide)) (fun _ _ _ _ _ _ => vts_one (vt_val (ve_call C_is_up (hr.mono L_is_up) rfl (va_cons (ve_name (pv 1)) (va_cons (ve_name (pv 0)) va_nil))))) (fun _ _ _ _ _ _ => (ve_name (pv 0)))) va_nil)))
      (vss_one (vs_ret (ve_op op_add3 opv_add (ve_blt (fun _ ha => pe_callB call_len2 rfl M.b_len PySem.boot_len ha) callv_len (va_cons (ve_name (pv 0)) va_nil)) (ve_blt (fun _ ha => pe_callB (call_max2 rfl) rfl M.b_max (by decide +kernel) ha) callv_max2 (va_cons (ve_name (pv 2)) (va_cons (ve_op op_sub opv_sub (ve_blt (fun _ ha => pe_callB call_len2 rfl M.b_len PySem.boot_len ha) callv_len (va_cons (ve_name (pv 1)) va_nil)) (ve_name (pv 2))) va_nil))))))))
theorem sc__law_digits : FnScope ["_law_cell", "_law_turn", "_law_sizes", "_law_number", "_law_wide", "_law_seed", "_law_found", "_law_k", "_law_size"] ["_law_cell", "_law_turn", "_law_sizes"] (defScope s__law_digits) := ⟨rfl, rfl, rfl, by decide +kernel, rfl, by decide +kernel, by decide +kernel⟩
noncomputable def bm__law_digits  : M Fl :=
  (seqM (asgM 3 (callM absO (consM (vName 0) (M.pure []))))
  (seqM (asgM 4 (op2 geO (vName 3) (op2 powO (M.pure (.val (.int 10))) (M.pure (.val (.int 18))))))
  (seqM (asgM 5 (op2 addO (op2 modO (vName 3) (M.pure (.val (.int 2147483647)))) (op2 mulO (M.pure (.val (.int 7919))) (vName 1))))
  (seqM (asgM 6 (lstM (M.pure [])))
  (seqM (forM (enuI (consM (vName 2) (M.pure []))) (gT 2 (gsC (gN 7) (gsC (gN 8) gs0)))
  (ifM (andM (M.bind (vName 4) asB) (M.bind (op2 gtO (vName 3) (M.pure (.val (.int 0)))) asB))
  (seqM (dropM (metM 6 appendG (consM (op2 modO (vName 3) (vName 8)) (M.pure []))))
  (asgM 3 (op2 fdivO (vName 3) (vName 8))))
  (seqM (asgM 5 (op2 modO (op2 powO (op2 addO (vName 5) (op2 mulO (M.pure (.val (.int 104729))) (op2 addO (vName 7) (M.pure (.val (.int 1)))))) (M.pure (.val (.int 2)))) (M.pure (.val (.int 2147483587)))))
  (dropM (metM 6 appendG (consM (op2 modO (op2 fdivO (vName 5) (M.pure (.val (.int 16)))) (vName 8)) (M.pure [])))))))
  (retM (vName 6)))))))
theorem vs__law_digits {fa : Addr} {cdv : Value} {A : Around} {outer : List Env} {s : Shared} {H : Hp} {E : XK} {k : Nat} {ios : List Addr} (M : Nm mg)  (hr : Room k (A.deeper (PyProof.Rows.envOfC "_law_digits" (defScope s__law_digits) s.heap.objs.size fa cdv))) :
    VSs (cxOf CX0 P w KC.K mg base ["_law_cell", "_law_turn", "_law_sizes", "_law_number", "_law_wide", "_law_seed", "_law_found", "_law_k", "_law_size"] "_law_digits" (defScope s__law_digits) fa cdv A outer s H E).nox EN ios (defBody s__law_digits) (bm__law_digits ) :=
  (vss_cons (vs_set (i := 3) sc__law_digits.nd rfl (by first | exact Or.inl rfl | exact Or.inr rfl) (ve_blt (fun _ ha => pe_callB call_abs rfl M.b_abs (by decide +kernel) ha) callv_abs (va_cons (ve_name (pv 0)) va_nil)))
      (vss_cons (vs_set (i := 4) sc__law_digits.nd rfl (by first | exact Or.inl rfl | exact Or.inr rfl) (ve_cmp op_ge opv_ge (ve_name (pv 3)) (ve_op op_pow opv_pow ve_int ve_int) (nomark _)))
      (vss_cons (vs_set (i := 5) sc__law_digits.nd rfl (by first | exact Or.inl rfl | exact Or.inr rfl) (ve_op op_add3 opv_add (ve_op op_mod opv_mod (ve_name (pv 3)) ve_int) (ve_op op_mul opv_mul ve_int (ve_name (pv 1)))))
      (vss_cons (vs_set (i := 6) sc__law_digits.nd rfl (by first | exact Or.inl rfl | exact Or.inr rfl) (ve_lst va_nil))
      (vss_cons (vs_for (n := 9) (vi_enu (fun _ ha => pi_enum rfl M.b_enumerate ha) (va_cons (ve_name (pv 2)) va_nil)) (rd_gtup (rd_gcons (rd_gname (by decide)) (rd_gcons (rd_gname (by decide)) rd_gnil)))
      (vss_one (vs_if (vt_bool (vw_and (vt_val (ve_name (pv 4))) (vw_and1 (vt_cmp op_gt opv_gt (ve_name (pv 3)) ve_int (nomark _)))))
      (vss_cons (vs_expr (ve_met (fun _ ha => pe_bm PySem.F.plainAttrs_list PySem.F.slot_list_append PySem.F.type_list_append mt_append (pv 6) ha) metv_append (va_cons (ve_op op_mod opv_mod (ve_name (pv 3)) (ve_name (pv 8))) va_nil)))
      (vss_one (vs_set (i := 3) sc__law_digits.nd rfl (by first | exact Or.inl rfl | exact Or.inr rfl) (ve_op op_fdiv opv_fdiv (ve_name (pv 3)) (ve_name (pv 8))))))
      (vss_cons (vs_set (i := 5) sc__law_digits.nd rfl (by first | exact Or.inl rfl | exact Or.inr rfl) (ve_op op_mod opv_mod (ve_op op_pow opv_pow (ve_op op_add3 opv_add (ve_name (pv 5)) (ve_op op_mul opv_mul ve_int (ve_op op_add3 opv_add (ve_name (pv 7)) ve_int))) ve_int) ve_int))
      (vss_one (vs_expr (ve_met (fun _ ha => pe_bm PySem.F.plainAttrs_list PySem.F.slot_list_append PySem.F.type_list_append mt_append (pv 6) ha) metv_append (va_cons (ve_op op_mod opv_mod (ve_op op_fdiv opv_fdiv (ve_name (pv 5)) ve_int) (ve_name (pv 8))) va_nil))))))) (fun _ _ h1 h2 => ps_for PassesOwn.never rfl h1 (pg_tup rfl (pgs_cons (pg_name (i := 7) sc__law_digits.nd rfl (by first | exact Or.inl rfl | exact Or.inr rfl)) (pgs_cons (pg_name (i := 8) sc__law_digits.nd rfl (by first | exact Or.inl rfl | exact Or.inr rfl)) pgs_nil))) h2))
      (vss_one (vs_ret (ve_name (pv 6)))))))))
theorem sc__law_asks : FnScope ["_law_d", "_law_most", "_law_span", "_law_begin", "_law_many", "_law_asks_here"] ["_law_d", "_law_most"] (defScope s__law_asks) := ⟨rfl, rfl, rfl, by decide +kernel, rfl, by decide +kernel, by decide +kernel⟩
noncomputable def bm__law_asks  : M Fl :=
  (seqM (asgM 2 (op2 idxO (lstM (consM (M.pure (.val (.int 1))) (consM (M.pure (.val (.int 2))) (consM (M.pure (.val (.int 3))) (consM (M.pure (.val (.int 4))) (consM (M.pure (.val (.int 6))) (consM (M.pure (.val (.int 10))) (consM (M.pure (.val (.int 31))) (M.pure []))))))))) (op2 idxO (vName 0) (M.pure (.val (.int 0))))))
  (seqM (asgM 3 (op2 modO (op2 idxO (vName 0) (M.pure (.val (.int 1)))) (op2 subO (M.pure (.val (.int 32))) (vName 2))))
  (seqM (asgM 4 (op2 addO (M.pure (.val (.int 1))) (op2 modO (op2 idxO (vName 0) (M.pure (.val (.int 2)))) (vName 1))))
  (seqM (asgM 5 (compM (rng1 (consM (vName 4) (M.pure []))) [3, 0, 2] 1 (gN 0) (M.pure true) (op2 addO (vName 1) (op2 modO (op2 idxO (vName 2) (op2 addO (M.pure (.val (.int 4))) (vName 0))) (vName 3)))))
  (seqM (ifM (M.bind (op2 eqO2 (op2 idxO (vName 0) (M.pure (.val (.int 3)))) (M.pure (.val (.int 0)))) asB)
  (asgM 5 (callM sortedO (consM (vName 5) (M.pure []))))
  (M.pure .nx))
  (seqM (ifM (M.bind (op2 eqO2 (op2 idxO (vName 0) (M.pure (.val (.int 3)))) (M.pure (.val (.int 1)))) asB)
  (asgM 5 (op2 addO (slcM (pickO 2) (callM sortedO (consM (vName 5) (M.pure []))) (M.pure none) (M.pure none)) (slcM (pickO 2) (callM sortedO (consM (vName 5) (M.pure []))) (M.bind (M.pure (.val (.int 1))) asI) (M.pure none))))
  (M.pure .nx))
  (retM (vName 5))))))))
theorem vs__law_asks {fa : Addr} {cdv : Value} {A : Around} {outer : List Env} {s : Shared} {H : Hp} {E : XK} {k : Nat} {ios : List Addr} (M : Nm mg)  (hr : Room k (A.deeper (PyProof.Rows.envOfC "_law_asks" (defScope s__law_asks) s.heap.objs.size fa cdv))) :
    VSs (cxOf CX0 P w KC.K mg base ["_law_d", "_law_most", "_law_span", "_law_begin", "_law_many", "_law_asks_here"] "_law_asks" (defScope s__law_asks) fa cdv A outer s H E).nox EN ios (defBody s__law_asks) (bm__law_asks ) :=
  (vss_cons (vs_set (i := 2) sc__law_asks.nd rfl (by first | exact Or.inl rfl | exact Or.inr rfl) (ve_ix (ve_lst (va_cons ve_int (va_cons ve_int (va_cons ve_int (va_cons ve_int (va_cons ve_int (va_cons ve_int (va_cons ve_int va_nil)))))))) (ve_ix (ve_name (pv 0)) ve_int)))
      (vss_cons (vs_set (i := 3) sc__law_asks.nd rfl (by first | exact Or.inl rfl | exact Or.inr rfl) (ve_op op_mod opv_mod (ve_ix (ve_name (pv 0)) ve_int) (ve_op op_sub opv_sub ve_int (ve_name (pv 2)))))
      (vss_cons (vs_set (i := 4) sc__law_asks.nd rfl (by first | exact Or.inl rfl | exact Or.inr rfl) (ve_op op_add3 opv_add ve_int (ve_op op_mod opv_mod (ve_ix (ve_name (pv 0)) ve_int) (ve_name (pv 1)))))
      (vss_cons (vs_setlc (i := 5) sc__law_asks.nd rfl (by first | exact Or.inl rfl | exact Or.inr rfl) rfl (blk_of (Nc := ["_law_k", "_law_begin", "_law_d", "_law_span"]) (own := 1) (fr := [3, 0, 2]) (sc := defScope s__law_asks) (N := ["_law_d", "_law_most", "_law_span", "_law_begin", "_law_many", "_law_asks_here"]) rfl rfl (by decide +kernel)) (by decide) (vi_rng1 (fun _ ha => pi_range1 rfl M.b_range ha) (va_cons (ve_name (pv 4)) va_nil)) (own_name (by decide)) (fun _ _ _ _ _ _ => (pg_name (i := 0) (show (["_law_k", "_law_begin", "_law_d", "_law_span"] : List Str).Nodup by decide +kernel) rfl (by first | exact Or.inl rfl | exact Or.inr rfl))) (rd_gname (by decide)) (gk_name (by decide)) (fun _ _ _ _ _ _ => vts_nil) (fun _ _ _ _ _ _ => (ve_op op_add3 opv_add (ve_name (pv 1)) (ve_op op_mod opv_mod (ve_ix (ve_name (pv 2)) (ve_op op_add3 opv_add ve_int (ve_name (pv 0)))) (ve_name (pv 3))))))
      (vss_cons (vs_if (vt_cmp (op_eq2 hr) opv_eq2 (ve_ix (ve_name (pv 0)) ve_int) ve_int (nomark _))
      (vss_one (vs_set (i := 5) sc__law_asks.nd rfl (by first | exact Or.inl rfl | exact Or.inr rfl) (ve_blt (fun _ ha => pe_callB call_sorted_ints rfl M.b_sorted (by decide +kernel) ha) callv_sorted (va_cons (ve_name (pv 5)) va_nil))))
      vss_nil)
      (vss_cons (vs_if (vt_cmp (op_eq2 hr) opv_eq2 (ve_ix (ve_name (pv 0)) ve_int) ve_int (nomark _))
      (vss_one (vs_set (i := 5) sc__law_asks.nd rfl (by first | exact Or.inl rfl | exact Or.inr rfl) (ve_op op_add3 opv_add (ve_slcS (ve_blt (fun _ ha => pe_callB call_sorted_ints rfl M.b_sorted (by decide +kernel) ha) callv_sorted (va_cons (ve_name (pv 5)) va_nil)) vo_none vo_none pe_int) (ve_slcS (ve_blt (fun _ ha => pe_callB call_sorted_ints rfl M.b_sorted (by decide +kernel) ha) callv_sorted (va_cons (ve_name (pv 5)) va_nil)) (vo_some ve_int) vo_none pe_int))))
      vss_nil)
      (vss_one (vs_ret (ve_name (pv 5))))))))))
theorem sc__law_is_fence : FnScope ["_law_asks_here", "_law_thing", "_law_one", "_law_other", "_law_gap"] ["_law_asks_here", "_law_thing"] (defScope s__law_is_fence) := ⟨rfl, rfl, rfl, by decide +kernel, rfl, by decide +kernel, by decide +kernel⟩
noncomputable def bm__law_is_fence  : M Fl :=
  (seqM (ifM (orM (ngM (M.bind (isiM .tuple (vName 1)) asB)) (M.bind (op2 neO2 (callM lenO (consM (vName 1) (M.pure []))) (M.pure (.val (.int 3)))) asB))
  (retM (M.pure (.val (.bl false))))
  (M.pure .nx))
  (seqM (ifM (M.bind (op2 neO2 (compM (tupI (vName 1)) [] 1 (gN 0) (orM (ngM (M.bind (isiM .int (vName 0)) asB)) (M.bind (isiM .bool (vName 0)) asB)) (vName 0)) (lstM (M.pure []))) asB)
  (retM (M.pure (.val (.bl false))))
  (M.pure .nx))
  (seqM (asgG (gT 3 (gsC (gN 2) (gsC (gN 3) (gsC (gN 4) gs0)))) (vName 1))
  (seqM (ifM (ngM (op4 leO ltO ltO (M.pure (.val (.int 0))) (vName 2) (vName 3) (callM lenO (consM (vName 0) (M.pure [])))))
  (retM (M.pure (.val (.bl false))))
  (M.pure .nx))
  (retM (op3 leO ltO (callM min2O (consM (op2 idxO (vName 0) (vName 2)) (consM (op2 idxO (vName 0) (vName 3)) (M.pure [])))) (vName 4) (callM max2O (consM (op2 idxO (vName 0) (vName 2)) (consM (op2 idxO (vName 0) (vName 3)) (M.pure []))))))))))
theorem vs__law_is_fence {fa : Addr} {cdv : Value} {A : Around} {outer : List Env} {s : Shared} {H : Hp} {E : XK} {k : Nat} {ios : List Addr} (M : Nm mg)  (hr : Room k (A.deeper (PyProof.Rows.envOfC "_law_is_fence" (defScope s__law_is_fence) s.heap.objs.size fa cdv))) :
    VSs (cxOf CX0 P w KC.K mg base ["_law_asks_here", "_law_thing", "_law_one", "_law_other", "_law_gap"] "_law_is_fence" (defScope s__law_is_fence) fa cdv A outer s H E).nox EN ios (defBody s__law_is_fence) (bm__law_is_fence ) :=
  (vss_cons (vs_if (vt_bool (vw_or (vt_not (vt_val (ve_isi (T := .tuple) (fun _ ha => pe_callB call_isinst rfl M.b_isinstance (by decide +kernel) (pa_cons ha (pa_cons (pe_bltn (v := .ty "tuple") (u := .type "tuple") rfl M.b_tuple (by decide +kernel) rfl) pa_nil))) (ve_name (pv 1))))) (vw_or1 (vt_cmp (op_ne2 hr) opv_ne2 (ve_blt (fun _ ha => pe_callB call_len2 rfl M.b_len PySem.boot_len ha) callv_len (va_cons (ve_name (pv 1)) va_nil)) ve_int (nomark _)))))
      (vss_one (vs_ret ve_bl))
      vss_nil)
      (vss_cons (vs_if (vt_cmp (op_ne2 hr) opv_ne2 (ve_lc rfl (blk_of (Nc := ["_law_part"]) (own := 1) (fr := []) (sc := defScope s__law_is_fence) (N := ["_law_asks_here", "_law_thing", "_law_one", "_law_other", "_law_gap"]) rfl rfl (by decide +kernel)) (by decide) (vi_tup (ve_name (pv 1))) (own_name (by decide)) (fun _ _ _ _ _ _ => (pg_name (i := 0) (show (["_law_part"] : List Str).Nodup by decide +kernel) rfl (by first | exact Or.inl rfl | exact Or.inr rfl))) (rd_gname (by decide)) (gk_name (by decide)) (fun _ _ _ _ _ _ => vts_one (vt_bool (vw_or (vt_not (vt_val (ve_isi (T := .int) (fun _ ha => pe_callB call_isinst rfl M.b_isinstance (by decide +kernel) (pa_cons ha (pa_cons (pe_bltn (v := .ty "int") (u := .type "int") rfl M.b_int (by decide +kernel) rfl) pa_nil))) (ve_name (pv 0))))) (vw_or1 (vt_val (ve_isi (T := .bool) (fun _ ha => pe_callB call_isinst rfl M.b_isinstance (by decide +kernel) (pa_cons ha (pa_cons (pe_bltn (v := .ty "bool") (u := .type "bool") rfl M.b_bool (by decide +kernel) rfl) pa_nil))) (ve_name (pv 0)))))))) (fun _ _ _ _ _ _ => (ve_name (pv 0)))) (ve_lst va_nil) (nomark _))
      (vss_one (vs_ret ve_bl))
      vss_nil)
      (vss_cons (vs_asg (n := 5) (ve_name (pv 1)) (rd_gtup (rd_gcons (rd_gname (by decide)) (rd_gcons (rd_gname (by decide)) (rd_gcons (rd_gname (by decide)) rd_gnil)))) (fun _ h => ps_asg h (pg_tup rfl (pgs_cons (pg_name (i := 2) sc__law_is_fence.nd rfl (by first | exact Or.inl rfl | exact Or.inr rfl)) (pgs_cons (pg_name (i := 3) sc__law_is_fence.nd rfl (by first | exact Or.inl rfl | exact Or.inr rfl)) (pgs_cons (pg_name (i := 4) sc__law_is_fence.nd rfl (by first | exact Or.inl rfl | exact Or.inr rfl)) pgs_nil))))))
      (vss_cons (vs_if (vt_not (vt_chain3 op_le op_lt op_lt opv_le opv_lt opv_lt ve_int (ve_name (pv 2)) (ve_name (pv 3)) (ve_blt (fun _ ha => pe_callB call_len2 rfl M.b_len PySem.boot_len ha) callv_len (va_cons (ve_name (pv 0)) va_nil))))
      (vss_one (vs_ret ve_bl))
      vss_nil)
      (vss_one (vs_ret (ve_chain op_le op_lt opv_le opv_lt (ve_blt (fun _ ha => pe_callB (call_min2 rfl) rfl M.b_min (by decide +kernel) ha) callv_min2 (va_cons (ve_ix (ve_name (pv 0)) (ve_name (pv 2))) (va_cons (ve_ix (ve_name (pv 0)) (ve_name (pv 3))) va_nil))) (ve_name (pv 4)) (ve_blt (fun _ ha => pe_callB (call_max2 rfl) rfl M.b_max (by decide +kernel) ha) callv_max2 (va_cons (ve_ix (ve_name (pv 0)) (ve_name (pv 2))) (va_cons (ve_ix (ve_name (pv 0)) (ve_name (pv 3))) va_nil))))))))))
theorem sc__law_hinders : FnScope ["_law_asks_here", "_law_ahead", "_law_behind", "_law_begins", "_law_ends", "_law_both"] ["_law_asks_here", "_law_ahead", "_law_behind"] (defScope s__law_hinders) := ⟨rfl, rfl, rfl, by decide +kernel, rfl, by decide +kernel, by decide +kernel⟩
noncomputable def bm__law_hinders  : M Fl :=
  (seqM (asgM 3 (lstM (consM (op2 idxO (vName 0) (op2 idxO (vName 1) (M.pure (.val (.int 0))))) (consM (op2 idxO (vName 0) (op2 idxO (vName 1) (M.pure (.val (.int 1))))) (M.pure [])))))
  (seqM (asgM 4 (lstM (consM (op2 idxO (vName 0) (op2 idxO (vName 2) (M.pure (.val (.int 0))))) (consM (op2 idxO (vName 0) (op2 idxO (vName 2) (M.pure (.val (.int 1))))) (M.pure [])))))
  (seqM (ifM (M.bind (op2 neO2 (op2 ltO (op2 idxO (vName 3) (M.pure (.val (.int 0)))) (op2 idxO (vName 3) (M.pure (.val (.int 1))))) (op2 ltO (op2 idxO (vName 4) (M.pure (.val (.int 0)))) (op2 idxO (vName 4) (M.pure (.val (.int 1)))))) asB)
  (retM (M.pure (.val (.bl false))))
  (M.pure .nx))
  (seqM (ifM (orM (M.bind (op2 ltO (op2 idxO (vName 1) (M.pure (.val (.int 2)))) (callM minIO (consM (vName 4) (M.pure [])))) asB) (M.bind (op2 geO (op2 idxO (vName 1) (M.pure (.val (.int 2)))) (callM maxIO (consM (vName 4) (M.pure [])))) asB))
  (retM (M.pure (.val (.bl false))))
  (M.pure .nx))
  (seqM (asgM 5 (compM (rng2 (consM (op2 idxO (vName 1) (M.pure (.val (.int 0)))) (consM (op2 addO (op2 idxO (vName 1) (M.pure (.val (.int 1)))) (M.pure (.val (.int 1)))) (M.pure [])))) [2] 1 (gN 0) (M.bind (op3 leO leO (op2 idxO (vName 1) (M.pure (.val (.int 0)))) (vName 0) (op2 idxO (vName 1) (M.pure (.val (.int 1))))) asB) (vName 0)))
  (retM (op2 neO2 (vName 5) (lstM (M.pure [])))))))))
theorem vs__law_hinders {fa : Addr} {cdv : Value} {A : Around} {outer : List Env} {s : Shared} {H : Hp} {E : XK} {k : Nat} {ios : List Addr} (M : Nm mg)  (hr : Room k (A.deeper (PyProof.Rows.envOfC "_law_hinders" (defScope s__law_hinders) s.heap.objs.size fa cdv))) :
    VSs (cxOf CX0 P w KC.K mg base ["_law_asks_here", "_law_ahead", "_law_behind", "_law_begins", "_law_ends", "_law_both"] "_law_hinders" (defScope s__law_hinders) fa cdv A outer s H E).nox EN ios (defBody s__law_hinders) (bm__law_hinders ) :=
  (vss_cons (vs_set (i := 3) sc__law_hinders.nd rfl (by first | exact Or.inl rfl | exact Or.inr rfl) (ve_lst (va_cons (ve_ix (ve_name (pv 0)) (ve_ix (ve_name (pv 1)) ve_int)) (va_cons (ve_ix (ve_name (pv 0)) (ve_ix (ve_name (pv 1)) ve_int)) va_nil))))
      (vss_cons (vs_set (i := 4) sc__law_hinders.nd rfl (by first | exact Or.inl rfl | exact Or.inr rfl) (ve_lst (va_cons (ve_ix (ve_name (pv 0)) (ve_ix (ve_name (pv 2)) ve_int)) (va_cons (ve_ix (ve_name (pv 0)) (ve_ix (ve_name (pv 2)) ve_int)) va_nil))))
      (vss_cons (vs_if (vt_cmp (op_ne2 hr) opv_ne2 (ve_cmp op_lt opv_lt (ve_ix (ve_name (pv 3)) ve_int) (ve_ix (ve_name (pv 3)) ve_int) (nomark _)) (ve_cmp op_lt opv_lt (ve_ix (ve_name (pv 4)) ve_int) (ve_ix (ve_name (pv 4)) ve_int) (nomark _)) (nomark _))
      (vss_one (vs_ret ve_bl))
      vss_nil)
      (vss_cons (vs_if (vt_bool (vw_or (vt_cmp op_lt opv_lt (ve_ix (ve_name (pv 1)) ve_int) (ve_blt (fun _ ha => pe_callB (call_min_ints rfl) rfl M.b_min (by decide +kernel) ha) callv_minI (va_cons (ve_name (pv 4)) va_nil)) (nomark _)) (vw_or1 (vt_cmp op_ge opv_ge (ve_ix (ve_name (pv 1)) ve_int) (ve_blt (fun _ ha => pe_callB (call_max_ints rfl) rfl M.b_max (by decide +kernel) ha) callv_maxI (va_cons (ve_name (pv 4)) va_nil)) (nomark _)))))
      (vss_one (vs_ret ve_bl))
      vss_nil)
      (vss_cons (vs_setlc (i := 5) sc__law_hinders.nd rfl (by first | exact Or.inl rfl | exact Or.inr rfl) rfl (blk_of (Nc := ["_law_moment", "_law_behind"]) (own := 1) (fr := [2]) (sc := defScope s__law_hinders) (N := ["_law_asks_here", "_law_ahead", "_law_behind", "_law_begins", "_law_ends", "_law_both"]) rfl rfl (by decide +kernel)) (by decide) (vi_rng2 (fun _ ha => pi_range2 rfl M.b_range ha) (va_cons (ve_ix (ve_name (pv 1)) ve_int) (va_cons (ve_op op_add3 opv_add (ve_ix (ve_name (pv 1)) ve_int) ve_int) va_nil))) (own_name (by decide)) (fun _ _ _ _ _ _ => (pg_name (i := 0) (show (["_law_moment", "_law_behind"] : List Str).Nodup by decide +kernel) rfl (by first | exact Or.inl rfl | exact Or.inr rfl))) (rd_gname (by decide)) (gk_name (by decide)) (fun _ _ _ _ _ _ => vts_one (vt_chain op_le op_le opv_le opv_le (ve_ix (ve_name (pv 1)) ve_int) (ve_name (pv 0)) (ve_ix (ve_name (pv 1)) ve_int))) (fun _ _ _ _ _ _ => (ve_name (pv 0))))
      (vss_one (vs_ret (ve_cmp (op_ne2 hr) opv_ne2 (ve_name (pv 5)) (ve_lst va_nil) (nomark _)))))))))
theorem sc__law_are_fences : FnScope ["_law_asks_here", "_law_thing", "_law_k", "_law_fence"] ["_law_asks_here", "_law_thing"] (defScope s__law_are_fences) := ⟨rfl, rfl, rfl, by decide +kernel, rfl, by decide +kernel, by decide +kernel⟩
noncomputable def bm__law_are_fences (G__law_hinders : List D → Option Rt) (G__law_is_fence : List D → Option Rt) : M Fl :=
  (seqM (ifM (orM (ngM (M.bind (isiM .list (vName 1)) asB)) (ngM (M.bind (callM allO (consM (compM (lstI (vName 1)) [0] 1 (gN 0) (M.pure true) (callP G__law_is_fence (consM (vName 1) (consM (vName 0) (M.pure []))))) (M.pure []))) asB)))
  (retM (M.pure (.val (.bl false))))
  (M.pure .nx))
  (seqM (forM (enuI (consM (vName 1) (M.pure []))) (gT 2 (gsC (gN 2) (gsC (gN 3) gs0)))
  (ifM (M.bind (callM anyO (consM (compM (lstI (slcM cutO (vName 1) (M.pure none) (M.bind (vName 2) asI))) [0, 3] 1 (gN 0) (M.pure true) (callP G__law_hinders (consM (vName 1) (consM (vName 0) (consM (vName 2) (M.pure [])))))) (M.pure []))) asB)
  (retM (M.pure (.val (.bl false))))
  (M.pure .nx)))
  (retM (M.pure (.val (.bl true))))))
theorem vs__law_are_fences {fa : Addr} {cdv : Value} {A : Around} {outer : List Env} {s : Shared} {H : Hp} {E : XK} {k : Nat} {ios : List Addr} (M : Nm mg) {G__law_hinders : List D → Option Rt} {k__law_hinders : Nat} (C__law_hinders : Cal P w mg base "_law_hinders" k__law_hinders ["_law_asks_here", "_law_ahead", "_law_behind"] (spP G__law_hinders)) (L__law_hinders : k__law_hinders ≤ k) {G__law_is_fence : List D → Option Rt} {k__law_is_fence : Nat} (C__law_is_fence : Cal P w mg base "_law_is_fence" k__law_is_fence ["_law_asks_here", "_law_thing"] (spP G__law_is_fence)) (L__law_is_fence : k__law_is_fence ≤ k) (hr : Room k (A.deeper (PyProof.Rows.envOfC "_law_are_fences" (defScope s__law_are_fences) s.heap.objs.size fa cdv))) :
    VSs (cxOf CX0 P w KC.K mg base ["_law_asks_here", "_law_thing", "_law_k", "_law_fence"] "_law_are_fences" (defScope s__law_are_fences) fa cdv A outer s H E).nox EN ios (defBody s__law_are_fences) (bm__law_are_fences G__law_hinders G__law_is_fence) :=
  (vss_cons (vs_if (vt_bool (vw_or (vt_not (vt_val (ve_isi (T := .list) (fun _ ha => pe_callB call_isinst rfl M.b_isinstance (by decide +kernel) (pa_cons ha (pa_cons (pe_bltn (v := .ty "list") (u := .type "list") rfl M.b_list (by decide +kernel) rfl) pa_nil))) (ve_name (pv 1))))) (vw_or1 (vt_not (vt_val (ve_blt (fun _ ha => pe_callB (call_all_bl rfl) rfl M.b_all (by decide +kernel) ha) callv_all (va_cons (ve_lc rfl (blk_of (Nc := ["_law_fence", "_law_asks_here"]) (own := 1) (fr := [0]) (sc := defScope s__law_are_fences) (N := ["_law_asks_here", "_law_thing", "_law_k", "_law_fence"]) rfl rfl (by decide +kernel)) (by decide) (vi_list (ve_name (pv 1))) (own_name (by decide)) (fun _ _ _ _ _ _ => (pg_name (i := 0) (show (["_law_fence", "_law_asks_here"] : List Str).Nodup by decide +kernel) rfl (by first | exact Or.inl rfl | exact Or.inr rfl))) (rd_gname (by decide)) (gk_name (by decide)) (fun _ _ _ _ _ _ => vts_nil) (fun _ _ _ _ _ _ => (ve_call C__law_is_fence (hr.mono L__law_is_fence) rfl (va_cons (ve_name (pv 1)) (va_cons (ve_name (pv 0)) va_nil))))) va_nil)))))))
      (vss_one (vs_ret ve_bl))
      vss_nil)
      (vss_cons (vs_for (n := 4) (vi_enu (fun _ ha => pi_enum rfl M.b_enumerate ha) (va_cons (ve_name (pv 1)) va_nil)) (rd_gtup (rd_gcons (rd_gname (by decide)) (rd_gcons (rd_gname (by decide)) rd_gnil)))
      (vss_one (vs_if (vt_val (ve_blt (fun _ ha => pe_callB (call_any_bl rfl) rfl M.b_any (by decide +kernel) ha) callv_any (va_cons (ve_lc rfl (blk_of (Nc := ["_law_ahead", "_law_asks_here", "_law_fence"]) (own := 1) (fr := [0, 3]) (sc := defScope s__law_are_fences) (N := ["_law_asks_here", "_law_thing", "_law_k", "_law_fence"]) rfl rfl (by decide +kernel)) (by decide) (vi_list (ve_slc (ve_name (pv 1)) vo_none (vo_some (ve_name (pv 2))))) (own_name (by decide)) (fun _ _ _ _ _ _ => (pg_name (i := 0) (show (["_law_ahead", "_law_asks_here", "_law_fence"] : List Str).Nodup by decide +kernel) rfl (by first | exact Or.inl rfl | exact Or.inr rfl))) (rd_gname (by decide)) (gk_name (by decide)) (fun _ _ _ _ _ _ => vts_nil) (fun _ _ _ _ _ _ => (ve_call C__law_hinders (hr.mono L__law_hinders) rfl (va_cons (ve_name (pv 1)) (va_cons (ve_name (pv 0)) (va_cons (ve_name (pv 2)) va_nil)))))) va_nil)))
      (vss_one (vs_ret ve_bl))
      vss_nil)) (fun _ _ h1 h2 => ps_for PassesOwn.never rfl h1 (pg_tup rfl (pgs_cons (pg_name (i := 2) sc__law_are_fences.nd rfl (by first | exact Or.inl rfl | exact Or.inr rfl)) (pgs_cons (pg_name (i := 3) sc__law_are_fences.nd rfl (by first | exact Or.inl rfl | exact Or.inr rfl)) pgs_nil))) h2))
      (vss_one (vs_ret ve_bl))))
theorem sc__law_drawn_fences : FnScope ["_law_asks_here", "_law_digits_here", "_law_found", "_law_k", "_law_one", "_law_other", "_law_low", "_law_high", "_law_fence"] ["_law_asks_here", "_law_digits_here"] (defScope s__law_drawn_fences) := ⟨rfl, rfl, rfl, by decide +kernel, rfl, by decide +kernel, by decide +kernel⟩
noncomputable def bm__law_drawn_fences (G__law_hinders : List D → Option Rt) : M Fl :=
  (seqM (asgM 2 (lstM (M.pure [])))
  (seqM (forM (rng3 (consM (M.pure (.val (.int 0))) (consM (op2 subO (callM lenO (consM (vName 1) (M.pure []))) (M.pure (.val (.int 2)))) (consM (M.pure (.val (.int 3))) (M.pure []))))) (gN 3)
  (seqM (asgM 4 (op2 modO (op2 idxO (vName 1) (vName 3)) (callM lenO (consM (vName 0) (M.pure [])))))
  (seqM (asgM 5 (op2 modO (op2 idxO (vName 1) (op2 addO (vName 3) (M.pure (.val (.int 1))))) (callM lenO (consM (vName 0) (M.pure [])))))
  (seqM (parM 6 7 (consM (callM min2O (consM (op2 idxO (vName 0) (vName 4)) (consM (op2 idxO (vName 0) (vName 5)) (M.pure [])))) (consM (callM max2O (consM (op2 idxO (vName 0) (vName 4)) (consM (op2 idxO (vName 0) (vName 5)) (M.pure [])))) (M.pure []))))
  (ifM (M.bind (op2 ltO (vName 6) (vName 7)) asB)
  (seqM (asgM 8 (tupM (consM (callM min2O (consM (vName 4) (consM (vName 5) (M.pure [])))) (consM (callM max2O (consM (vName 4) (consM (vName 5) (M.pure [])))) (consM (op2 addO (vName 6) (op2 modO (op2 idxO (vName 1) (op2 addO (vName 3) (M.pure (.val (.int 2))))) (op2 subO (vName 7) (vName 6)))) (M.pure []))))))
  (ifM (ngM (M.bind (callM anyO (consM (compM (lstI (vName 2)) [0, 8] 1 (gN 0) (M.pure true) (callP G__law_hinders (consM (vName 1) (consM (vName 2) (consM (vName 0) (M.pure [])))))) (M.pure []))) asB))
  (asgM 2 (op2 addO (lstM (consM (vName 8) (M.pure []))) (vName 2)))
  (M.pure .nx)))
  (M.pure .nx))))))
  (retM (vName 2))))
theorem vs__law_drawn_fences {fa : Addr} {cdv : Value} {A : Around} {outer : List Env} {s : Shared} {H : Hp} {E : XK} {k : Nat} {ios : List Addr} (M : Nm mg) {G__law_hinders : List D → Option Rt} {k__law_hinders : Nat} (C__law_hinders : Cal P w mg base "_law_hinders" k__law_hinders ["_law_asks_here", "_law_ahead", "_law_behind"] (spP G__law_hinders)) (L__law_hinders : k__law_hinders ≤ k) (hr : Room k (A.deeper (PyProof.Rows.envOfC "_law_drawn_fences" (defScope s__law_drawn_fences) s.heap.objs.size fa cdv))) :
    VSs (cxOf CX0 P w KC.K mg base ["_law_asks_here", "_law_digits_here", "_law_found", "_law_k", "_law_one", "_law_other", "_law_low", "_law_high", "_law_fence"] "_law_drawn_fences" (defScope s__law_drawn_fences) fa cdv A outer s H E).nox EN ios (defBody s__law_drawn_fences) (bm__law_drawn_fences G__law_hinders) :=
  (vss_cons (vs_set (i := 2) sc__law_drawn_fences.nd rfl (by first | exact Or.inl rfl | exact Or.inr rfl) (ve_lst va_nil))
      (vss_cons (vs_for (n := 9) (vi_rng3 (fun _ ha => pi_range3 rfl M.b_range ha) (va_cons ve_int (va_cons (ve_op op_sub opv_sub (ve_blt (fun _ ha => pe_callB call_len2 rfl M.b_len PySem.boot_len ha) callv_len (va_cons (ve_name (pv 1)) va_nil)) ve_int) (va_cons ve_int va_nil)))) (rd_gname (by decide))
      (vss_cons (vs_set (i := 4) sc__law_drawn_fences.nd rfl (by first | exact Or.inl rfl | exact Or.inr rfl) (ve_op op_mod opv_mod (ve_ix (ve_name (pv 1)) (ve_name (pv 3))) (ve_blt (fun _ ha => pe_callB call_len2 rfl M.b_len PySem.boot_len ha) callv_len (va_cons (ve_name (pv 0)) va_nil))))
      (vss_cons (vs_set (i := 5) sc__law_drawn_fences.nd rfl (by first | exact Or.inl rfl | exact Or.inr rfl) (ve_op op_mod opv_mod (ve_ix (ve_name (pv 1)) (ve_op op_add3 opv_add (ve_name (pv 3)) ve_int)) (ve_blt (fun _ ha => pe_callB call_len2 rfl M.b_len PySem.boot_len ha) callv_len (va_cons (ve_name (pv 0)) va_nil))))
      (vss_cons (vs_par (i := 6) (j := 7) rfl sc__law_drawn_fences.nd rfl rfl (by decide) rfl rfl (va_cons (ve_blt (fun _ ha => pe_callB (call_min2 rfl) rfl M.b_min (by decide +kernel) ha) callv_min2 (va_cons (ve_ix (ve_name (pv 0)) (ve_name (pv 4))) (va_cons (ve_ix (ve_name (pv 0)) (ve_name (pv 5))) va_nil))) (va_cons (ve_blt (fun _ ha => pe_callB (call_max2 rfl) rfl M.b_max (by decide +kernel) ha) callv_max2 (va_cons (ve_ix (ve_name (pv 0)) (ve_name (pv 4))) (va_cons (ve_ix (ve_name (pv 0)) (ve_name (pv 5))) va_nil))) va_nil)) rfl)
      (vss_one (vs_if (vt_cmp op_lt opv_lt (ve_name (pv 6)) (ve_name (pv 7)) (nomark _))
      (vss_cons (vs_set (i := 8) sc__law_drawn_fences.nd rfl (by first | exact Or.inl rfl | exact Or.inr rfl) (ve_tup (va_cons (ve_blt (fun _ ha => pe_callB (call_min2 rfl) rfl M.b_min (by decide +kernel) ha) callv_min2 (va_cons (ve_name (pv 4)) (va_cons (ve_name (pv 5)) va_nil))) (va_cons (ve_blt (fun _ ha => pe_callB (call_max2 rfl) rfl M.b_max (by decide +kernel) ha) callv_max2 (va_cons (ve_name (pv 4)) (va_cons (ve_name (pv 5)) va_nil))) (va_cons (ve_op op_add3 opv_add (ve_name (pv 6)) (ve_op op_mod opv_mod (ve_ix (ve_name (pv 1)) (ve_op op_add3 opv_add (ve_name (pv 3)) ve_int)) (ve_op op_sub opv_sub (ve_name (pv 7)) (ve_name (pv 6))))) va_nil)))))
      (vss_one (vs_if (vt_not (vt_val (ve_blt (fun _ ha => pe_callB (call_any_bl rfl) rfl M.b_any (by decide +kernel) ha) callv_any (va_cons (ve_lc rfl (blk_of (Nc := ["_law_behind", "_law_asks_here", "_law_fence"]) (own := 1) (fr := [0, 8]) (sc := defScope s__law_drawn_fences) (N := ["_law_asks_here", "_law_digits_here", "_law_found", "_law_k", "_law_one", "_law_other", "_law_low", "_law_high", "_law_fence"]) rfl rfl (by decide +kernel)) (by decide) (vi_list (ve_name (pv 2))) (own_name (by decide)) (fun _ _ _ _ _ _ => (pg_name (i := 0) (show (["_law_behind", "_law_asks_here", "_law_fence"] : List Str).Nodup by decide +kernel) rfl (by first | exact Or.inl rfl | exact Or.inr rfl))) (rd_gname (by decide)) (gk_name (by decide)) (fun _ _ _ _ _ _ => vts_nil) (fun _ _ _ _ _ _ => (ve_call C__law_hinders (hr.mono L__law_hinders) rfl (va_cons (ve_name (pv 1)) (va_cons (ve_name (pv 2)) (va_cons (ve_name (pv 0)) va_nil)))))) va_nil))))
      (vss_one (vs_set (i := 2) sc__law_drawn_fences.nd rfl (by first | exact Or.inl rfl | exact Or.inr rfl) (ve_op op_add3 opv_add (ve_lst (va_cons (ve_name (pv 8)) va_nil)) (ve_name (pv 2)))))
      vss_nil)))
      vss_nil))))) (fun _ _ h1 h2 => ps_for PassesOwn.never rfl h1 (pg_name (i := 3) sc__law_drawn_fences.nd rfl (by first | exact Or.inl rfl | exact Or.inr rfl)) h2))
      (vss_one (vs_ret (ve_name (pv 2))))))
theorem sc__law_bent : FnScope ["_law_asks_here", "_law_thing", "_law_d", "_law_at", "_law_to", "_law_fence", "_law_one", "_law_other", "_law_gap", "_law_some", "_law_more", "_law_swung"] ["_law_asks_here", "_law_thing", "_law_d"] (defScope s__law_bent) := ⟨rfl, rfl, rfl, by decide +kernel, rfl, by decide +kernel, by decide +kernel⟩
noncomputable def bm__law_bent  : M Fl :=
  (seqM (asgM 3 (op2 modO (op2 idxO (vName 2) (M.pure (.val (.int 0)))) (callM max2O (consM (M.pure (.val (.int 1))) (consM (callM lenO (consM (vName 1) (M.pure []))) (M.pure []))))))
  (seqM (asgM 4 (op2 modO (op2 idxO (vName 2) (M.pure (.val (.int 1)))) (callM max2O (consM (M.pure (.val (.int 1))) (consM (callM lenO (consM (vName 1) (M.pure []))) (M.pure []))))))
  (seqM (asgM 5 (op2 idxO (op2 addO (vName 1) (lstM (consM (tupM (consM (M.pure (.val (.int 0))) (consM (M.pure (.val (.int 1))) (consM (M.pure (.val (.int 0))) (M.pure []))))) (M.pure [])))) (vName 3)))
  (seqM (asgG (gT 3 (gsC (gN 6) (gsC (gN 7) (gsC (gN 8) gs0)))) (vName 5))
  (seqM (asgM 9 (lstM (consM (tupM (consM (vName 6) (consM (vName 7) (consM (op2 addO (vName 8) (M.pure (.val (.int 1)))) (M.pure []))))) (consM (tupM (consM (vName 6) (consM (vName 7) (consM (op2 subO (vName 8) (M.pure (.val (.int 1)))) (M.pure []))))) (consM (tupM (consM (op2 addO (vName 6) (M.pure (.val (.int 1)))) (consM (vName 7) (consM (vName 8) (M.pure []))))) (consM (tupM (consM (vName 6) (consM (op2 addO (vName 7) (M.pure (.val (.int 1)))) (consM (vName 8) (M.pure []))))) (M.pure [])))))))
  (seqM (asgM 9 (op2 addO (vName 9) (lstM (consM (tupM (consM (vName 7) (consM (vName 6) (consM (vName 8) (M.pure []))))) (consM (tupM (consM (vName 6) (consM (vName 6) (consM (vName 8) (M.pure []))))) (consM (tupM (consM (vName 6) (consM (M.pure (.val (.bl true))) (consM (vName 8) (M.pure []))))) (consM (tupM (consM (vName 6) (consM (vName 7) (consM (M.pure (.val .non)) (M.pure []))))) (consM (tupM (consM (M.pure (.val (.str "0"))) (consM (vName 7) (consM (vName 8) (M.pure []))))) (M.pure [])))))))))
  (seqM (asgM 9 (op2 addO (vName 9) (lstM (consM (lstM (consM (vName 6) (consM (vName 7) (consM (vName 8) (M.pure []))))) (consM (tupM (consM (vName 6) (consM (vName 7) (M.pure [])))) (consM (tupM (consM (vName 6) (consM (vName 7) (consM (vName 8) (consM (M.pure (.val (.int 0))) (M.pure [])))))) (consM (M.pure (.val .non)) (M.pure []))))))))
  (seqM (asgM 10 (lstM (consM (op2 addO (vName 1) (lstM (consM (vName 5) (M.pure [])))) (consM (op2 addO (lstM (consM (vName 5) (M.pure []))) (vName 1)) (consM (slcM (pickO (-1)) (vName 1) (M.pure none) (M.pure none)) (M.pure []))))))
  (seqM (ifM (M.bind (op2 ltO (op2 idxO (vName 2) (M.pure (.val (.int 2)))) (M.pure (.val (.int 13)))) asB)
  (retM (op2 addO (op2 addO (slcM cutO (vName 1) (M.pure none) (M.bind (vName 3) asI)) (lstM (consM (op2 idxO (vName 9) (op2 idxO (vName 2) (M.pure (.val (.int 2))))) (M.pure [])))) (slcM cutO (vName 1) (M.bind (op2 addO (vName 3) (M.pure (.val (.int 1)))) asI) (M.pure none))))
  (M.pure .nx))
  (seqM (ifM (M.bind (op2 ltO (op2 idxO (vName 2) (M.pure (.val (.int 2)))) (M.pure (.val (.int 16)))) asB)
  (retM (op2 idxO (vName 10) (op2 subO (op2 idxO (vName 2) (M.pure (.val (.int 2)))) (M.pure (.val (.int 13))))))
  (M.pure .nx))
  (seqM (asgM 11 (callM listO (consM (vName 1) (M.pure []))))
  (seqM (ifM (M.bind (op2 neO2 (vName 1) (lstM (M.pure []))) asB)
  (asgG (gT 2 (gsC (gS 11 (vName 3)) (gsC (gS 11 (vName 4)) gs0))) (tupM (consM (op2 idxO (vName 11) (vName 4)) (consM (op2 idxO (vName 11) (vName 3)) (M.pure [])))))
  (M.pure .nx))
  (retM (vName 11))))))))))))))
theorem vs__law_bent {fa : Addr} {cdv : Value} {A : Around} {outer : List Env} {s : Shared} {H : Hp} {E : XK} {k : Nat} {ios : List Addr} (M : Nm mg)  (hr : Room k (A.deeper (PyProof.Rows.envOfC "_law_bent" (defScope s__law_bent) s.heap.objs.size fa cdv))) :
    VSs (cxOf CX0 P w KC.K mg base ["_law_asks_here", "_law_thing", "_law_d", "_law_at", "_law_to", "_law_fence", "_law_one", "_law_other", "_law_gap", "_law_some", "_law_more", "_law_swung"] "_law_bent" (defScope s__law_bent) fa cdv A outer s H E).nox EN ios (defBody s__law_bent) (bm__law_bent ) :=
  (vss_cons (vs_set (i := 3) sc__law_bent.nd rfl (by first | exact Or.inl rfl | exact Or.inr rfl) (ve_op op_mod opv_mod (ve_ix (ve_name (pv 2)) ve_int) (ve_blt (fun _ ha => pe_callB (call_max2 rfl) rfl M.b_max (by decide +kernel) ha) callv_max2 (va_cons ve_int (va_cons (ve_blt (fun _ ha => pe_callB call_len2 rfl M.b_len PySem.boot_len ha) callv_len (va_cons (ve_name (pv 1)) va_nil)) va_nil)))))
      (vss_cons (vs_set (i := 4) sc__law_bent.nd rfl (by first | exact Or.inl rfl | exact Or.inr rfl) (ve_op op_mod opv_mod (ve_ix (ve_name (pv 2)) ve_int) (ve_blt (fun _ ha => pe_callB (call_max2 rfl) rfl M.b_max (by decide +kernel) ha) callv_max2 (va_cons ve_int (va_cons (ve_blt (fun _ ha => pe_callB call_len2 rfl M.b_len PySem.boot_len ha) callv_len (va_cons (ve_name (pv 1)) va_nil)) va_nil)))))
      (vss_cons (vs_set (i := 5) sc__law_bent.nd rfl (by first | exact Or.inl rfl | exact Or.inr rfl) (ve_ix (ve_op op_add3 opv_add (ve_name (pv 1)) (ve_lst (va_cons (ve_tup (va_cons ve_int (va_cons ve_int (va_cons ve_int va_nil)))) va_nil))) (ve_name (pv 3))))
      (vss_cons (vs_asg (n := 12) (ve_name (pv 5)) (rd_gtup (rd_gcons (rd_gname (by decide)) (rd_gcons (rd_gname (by decide)) (rd_gcons (rd_gname (by decide)) rd_gnil)))) (fun _ h => ps_asg h (pg_tup rfl (pgs_cons (pg_name (i := 6) sc__law_bent.nd rfl (by first | exact Or.inl rfl | exact Or.inr rfl)) (pgs_cons (pg_name (i := 7) sc__law_bent.nd rfl (by first | exact Or.inl rfl | exact Or.inr rfl)) (pgs_cons (pg_name (i := 8) sc__law_bent.nd rfl (by first | exact Or.inl rfl | exact Or.inr rfl)) pgs_nil))))))
      (vss_cons (vs_set (i := 9) sc__law_bent.nd rfl (by first | exact Or.inl rfl | exact Or.inr rfl) (ve_lst (va_cons (ve_tup (va_cons (ve_name (pv 6)) (va_cons (ve_name (pv 7)) (va_cons (ve_op op_add3 opv_add (ve_name (pv 8)) ve_int) va_nil)))) (va_cons (ve_tup (va_cons (ve_name (pv 6)) (va_cons (ve_name (pv 7)) (va_cons (ve_op op_sub opv_sub (ve_name (pv 8)) ve_int) va_nil)))) (va_cons (ve_tup (va_cons (ve_op op_add3 opv_add (ve_name (pv 6)) ve_int) (va_cons (ve_name (pv 7)) (va_cons (ve_name (pv 8)) va_nil)))) (va_cons (ve_tup (va_cons (ve_name (pv 6)) (va_cons (ve_op op_add3 opv_add (ve_name (pv 7)) ve_int) (va_cons (ve_name (pv 8)) va_nil)))) va_nil))))))
      (vss_cons (vs_set (i := 9) sc__law_bent.nd rfl (by first | exact Or.inl rfl | exact Or.inr rfl) (ve_op op_add3 opv_add (ve_name (pv 9)) (ve_lst (va_cons (ve_tup (va_cons (ve_name (pv 7)) (va_cons (ve_name (pv 6)) (va_cons (ve_name (pv 8)) va_nil)))) (va_cons (ve_tup (va_cons (ve_name (pv 6)) (va_cons (ve_name (pv 6)) (va_cons (ve_name (pv 8)) va_nil)))) (va_cons (ve_tup (va_cons (ve_name (pv 6)) (va_cons ve_bl (va_cons (ve_name (pv 8)) va_nil)))) (va_cons (ve_tup (va_cons (ve_name (pv 6)) (va_cons (ve_name (pv 7)) (va_cons ve_non va_nil)))) (va_cons (ve_tup (va_cons ve_str (va_cons (ve_name (pv 7)) (va_cons (ve_name (pv 8)) va_nil)))) va_nil))))))))
      (vss_cons (vs_set (i := 9) sc__law_bent.nd rfl (by first | exact Or.inl rfl | exact Or.inr rfl) (ve_op op_add3 opv_add (ve_name (pv 9)) (ve_lst (va_cons (ve_lst (va_cons (ve_name (pv 6)) (va_cons (ve_name (pv 7)) (va_cons (ve_name (pv 8)) va_nil)))) (va_cons (ve_tup (va_cons (ve_name (pv 6)) (va_cons (ve_name (pv 7)) va_nil))) (va_cons (ve_tup (va_cons (ve_name (pv 6)) (va_cons (ve_name (pv 7)) (va_cons (ve_name (pv 8)) (va_cons ve_int va_nil))))) (va_cons ve_non va_nil)))))))
      (vss_cons (vs_set (i := 10) sc__law_bent.nd rfl (by first | exact Or.inl rfl | exact Or.inr rfl) (ve_lst (va_cons (ve_op op_add3 opv_add (ve_name (pv 1)) (ve_lst (va_cons (ve_name (pv 5)) va_nil))) (va_cons (ve_op op_add3 opv_add (ve_lst (va_cons (ve_name (pv 5)) va_nil)) (ve_name (pv 1))) (va_cons (ve_slcS (ve_name (pv 1)) vo_none vo_none pe_negc) va_nil)))))
      (vss_cons (vs_if (vt_cmp op_lt opv_lt (ve_ix (ve_name (pv 2)) ve_int) ve_int (nomark _))
      (vss_one (vs_ret (ve_op op_add3 opv_add (ve_op op_add3 opv_add (ve_slc (ve_name (pv 1)) vo_none (vo_some (ve_name (pv 3)))) (ve_lst (va_cons (ve_ix (ve_name (pv 9)) (ve_ix (ve_name (pv 2)) ve_int)) va_nil))) (ve_slc (ve_name (pv 1)) (vo_some (ve_op op_add3 opv_add (ve_name (pv 3)) ve_int)) vo_none))))
      vss_nil)
      (vss_cons (vs_if (vt_cmp op_lt opv_lt (ve_ix (ve_name (pv 2)) ve_int) ve_int (nomark _))
      (vss_one (vs_ret (ve_ix (ve_name (pv 10)) (ve_op op_sub opv_sub (ve_ix (ve_name (pv 2)) ve_int) ve_int))))
      vss_nil)
      (vss_cons (vs_set (i := 11) sc__law_bent.nd rfl (by first | exact Or.inl rfl | exact Or.inr rfl) (ve_blt (fun _ ha => pe_callTy call_list_of rfl M.b_list (by decide +kernel) ha) callv_list (va_cons (ve_name (pv 1)) va_nil)))
      (vss_cons (vs_if (vt_cmp (op_ne2 hr) opv_ne2 (ve_name (pv 1)) (ve_lst va_nil) (nomark _))
      (vss_one (vs_asg (n := 12) (ve_tup (va_cons (ve_ix (ve_name (pv 11)) (ve_name (pv 4))) (va_cons (ve_ix (ve_name (pv 11)) (ve_name (pv 3))) va_nil))) (rd_gtup (rd_gcons (rd_gsub (EE := EN) rd_self) (rd_gcons (rd_gsub (EE := EN) rd_self) rd_gnil))) (fun _ h => ps_asg h (pg_tup rfl (pgs_cons (pg_sub (pv 11) (VE.pe (EE := EN) (ve_name (pv 3))) set_list) (pgs_cons (pg_sub (pv 11) (VE.pe (EE := EN) (ve_name (pv 4))) set_list) pgs_nil))))))
      vss_nil)
      (vss_one (vs_ret (ve_name (pv 11))))))))))))))))
theorem sc__law_right : FnScope ["_law_asks_here", "_law_thing", "_law_kept", "_law_found", "_law_due", "_law_ups"] ["_law_asks_here", "_law_thing"] (defScope s__law_right) := ⟨rfl, rfl, rfl, by decide +kernel, rfl, by decide +kernel, by decide +kernel⟩
noncomputable def bm__law_right (G__law_are_fences : List D → Option Rt) (G_are_fences : List D → Option Rt) (G_floor_of : List D → Option Rt) : M Fl :=
  (seqM (asgM 2 (callM reprO2 (consM (lstM (consM (vName 0) (consM (vName 1) (M.pure [])))) (M.pure []))))
  (seqM (asgM 3 (callP G_are_fences (consM (vName 0) (consM (vName 1) (M.pure [])))))
  (seqM (asgM 4 (callP G__law_are_fences (consM (vName 0) (consM (vName 1) (M.pure [])))))
  (seqM (ifM (orM (ngM (M.bind (isiM .bool (vName 3)) asB)) (M.bind (op2 neO2 (vName 3) (vName 4)) asB))
  (retM (M.pure (.val (.bl false))))
  (M.pure .nx))
  (seqM (ifM (M.bind (vName 4) asB)
  (seqM (asgM 5 (callM lenO (consM (compM (lstI (vName 1)) [0] 1 (gN 0) (M.bind (op2 ltO (op2 idxO (vName 1) (op2 idxO (vName 0) (M.pure (.val (.int 0))))) (op2 idxO (vName 1) (op2 idxO (vName 0) (M.pure (.val (.int 1)))))) asB) (vName 0)) (M.pure []))))
  (ifM (M.bind (op2 neO2 (callM reprO2 (consM (callP G_floor_of (consM (vName 0) (consM (vName 1) (M.pure [])))) (M.pure []))) (callM reprO2 (consM (op2 addO (callM lenO (consM (vName 0) (M.pure []))) (callM max2O (consM (vName 5) (consM (op2 subO (callM lenO (consM (vName 1) (M.pure []))) (vName 5)) (M.pure []))))) (M.pure [])))) asB)
  (retM (M.pure (.val (.bl false))))
  (M.pure .nx)))
  (M.pure .nx))
  (retM (op2 eqO2 (callM reprO2 (consM (lstM (consM (vName 0) (consM (vName 1) (M.pure [])))) (M.pure []))) (vName 2))))))))
theorem vs__law_right {fa : Addr} {cdv : Value} {A : Around} {outer : List Env} {s : Shared} {H : Hp} {E : XK} {k : Nat} {ios : List Addr} (M : Nm mg) {G__law_are_fences : List D → Option Rt} {k__law_are_fences : Nat} (C__law_are_fences : Cal P w mg base "_law_are_fences" k__law_are_fences ["_law_asks_here", "_law_thing"] (spP G__law_are_fences)) (L__law_are_fences : k__law_are_fences ≤ k) {G_are_fences : List D → Option Rt} {k_are_fences : Nat} (C_are_fences : Cal P w mg base "are_fences" k_are_fences ["asks", "thing"] (spP G_are_fences)) (L_are_fences : k_are_fences ≤ k) {G_floor_of : List D → Option Rt} {k_floor_of : Nat} (C_floor_of : Cal P w mg base "floor_of" k_floor_of ["asks", "fences"] (spP G_floor_of)) (L_floor_of : k_floor_of ≤ k) (hr : Room k (A.deeper (PyProof.Rows.envOfC "_law_right" (defScope s__law_right) s.heap.objs.size fa cdv))) :
    VSs (cxOf CX0 P w KC.K mg base ["_law_asks_here", "_law_thing", "_law_kept", "_law_found", "_law_due", "_law_ups"] "_law_right" (defScope s__law_right) fa cdv A outer s H E).nox EN ios (defBody s__law_right) (bm__law_right G__law_are_fences G_are_fences G_floor_of) :=
  (vss_cons (vs_set (i := 2) sc__law_right.nd rfl (by first | exact Or.inl rfl | exact Or.inr rfl) (ve_blt (fun _ ha => pe_callB (call_repr2 hr) rfl M.b_repr (by decide +kernel) ha) callv_repr2 (va_cons (ve_lst (va_cons (ve_name (pv 0)) (va_cons (ve_name (pv 1)) va_nil))) va_nil)))
      (vss_cons (vs_set (i := 3) sc__law_right.nd rfl (by first | exact Or.inl rfl | exact Or.inr rfl) (ve_call C_are_fences (hr.mono L_are_fences) rfl (va_cons (ve_name (pv 0)) (va_cons (ve_name (pv 1)) va_nil))))
      (vss_cons (vs_set (i := 4) sc__law_right.nd rfl (by first | exact Or.inl rfl | exact Or.inr rfl) (ve_call C__law_are_fences (hr.mono L__law_are_fences) rfl (va_cons (ve_name (pv 0)) (va_cons (ve_name (pv 1)) va_nil))))
      (vss_cons (vs_if (vt_bool (vw_or (vt_not (vt_val (ve_isi (T := .bool) (fun _ ha => pe_callB call_isinst rfl M.b_isinstance (by decide +kernel) (pa_cons ha (pa_cons (pe_bltn (v := .ty "bool") (u := .type "bool") rfl M.b_bool (by decide +kernel) rfl) pa_nil))) (ve_name (pv 3))))) (vw_or1 (vt_cmp (op_ne2 hr) opv_ne2 (ve_name (pv 3)) (ve_name (pv 4)) (nomark _)))))
      (vss_one (vs_ret ve_bl))
      vss_nil)
      (vss_cons (vs_if (vt_val (ve_name (pv 4)))
      (vss_cons (vs_set (i := 5) sc__law_right.nd rfl (by first | exact Or.inl rfl | exact Or.inr rfl) (ve_blt (fun _ ha => pe_callB call_len2 rfl M.b_len PySem.boot_len ha) callv_len (va_cons (ve_lc rfl (blk_of (Nc := ["_law_fence", "_law_asks_here"]) (own := 1) (fr := [0]) (sc := defScope s__law_right) (N := ["_law_asks_here", "_law_thing", "_law_kept", "_law_found", "_law_due", "_law_ups"]) rfl rfl (by decide +kernel)) (by decide) (vi_list (ve_name (pv 1))) (own_name (by decide)) (fun _ _ _ _ _ _ => (pg_name (i := 0) (show (["_law_fence", "_law_asks_here"] : List Str).Nodup by decide +kernel) rfl (by first | exact Or.inl rfl | exact Or.inr rfl))) (rd_gname (by decide)) (gk_name (by decide)) (fun _ _ _ _ _ _ => vts_one (vt_cmp op_lt opv_lt (ve_ix (ve_name (pv 1)) (ve_ix (ve_name (pv 0)) ve_int)) (ve_ix (ve_name (pv 1)) (ve_ix (ve_name (pv 0)) ve_int)) (nomark _))) (fun _ _ _ _ _ _ => (ve_name (pv 0)))) va_nil)))
      (vss_one (vs_if (vt_cmp (op_ne2 hr) opv_ne2 (ve_blt (fun _ ha => pe_callB (call_repr2 hr) rfl M.b_repr (by decide +kernel) ha) callv_repr2 (va_cons (ve_call C_floor_of (hr.mono L_floor_of) rfl (va_cons (ve_name (pv 0)) (va_cons (ve_name (pv 1)) va_nil))) va_nil)) (ve_blt (fun _ ha => pe_callB (call_repr2 hr) rfl M.b_repr (by decide +kernel) ha) callv_repr2 (va_cons (ve_op op_add3 opv_add (ve_blt (fun _ ha => pe_callB call_len2 rfl M.b_len PySem.boot_len ha) callv_len (va_cons (ve_name (pv 0)) va_nil)) (ve_blt (fun _ ha => pe_callB (call_max2 rfl) rfl M.b_max (by decide +kernel) ha) callv_max2 (va_cons (ve_name (pv 5)) (va_cons (ve_op op_sub opv_sub (ve_blt (fun _ ha => pe_callB call_len2 rfl M.b_len PySem.boot_len ha) callv_len (va_cons (ve_name (pv 1)) va_nil)) (ve_name (pv 5))) va_nil)))) va_nil)) (nomark _))
      (vss_one (vs_ret ve_bl))
      vss_nil)))
      vss_nil)
      (vss_one (vs_ret (ve_cmp (op_eq2 hr) opv_eq2 (ve_blt (fun _ ha => pe_callB (call_repr2 hr) rfl M.b_repr (by decide +kernel) ha) callv_repr2 (va_cons (ve_lst (va_cons (ve_name (pv 0)) (va_cons (ve_name (pv 1)) va_nil))) va_nil)) (ve_name (pv 2)) (nomark _)))))))))
theorem sc_law : FnScope ["_law_script", "_law_at", "_law_cells", "_law_most", "_law_d", "_law_asks_here", "_law_e", "_law_good", "_law_bent_here", "_law_thing"] ["_law_script"] (defScope s_law) := ⟨rfl, rfl, rfl, by decide +kernel, rfl, by decide +kernel, by decide +kernel⟩
noncomputable def bm_law (G__law_are_fences : List D → Option Rt) (G__law_asks : List D → Option Rt) (G__law_bent : List D → Option Rt) (G__law_digits : List D → Option Rt) (G__law_drawn_fences : List D → Option Rt) (G__law_right : List D → Option Rt) : M Fl :=
  (seqM (forM (rng3 (consM (M.pure (.val (.int 0))) (consM (callM max2O (consM (M.pure (.val (.int 1))) (consM (callM min2O (consM (callM lenO (consM (vName 0) (M.pure []))) (consM (M.pure (.val (.int 16))) (M.pure [])))) (M.pure [])))) (consM (M.pure (.val (.int 2))) (M.pure []))))) (gN 1)
  (seqM (asgM 2 (slcM cutO (op2 addO (slcM cutO (vName 0) (M.bind (vName 1) asI) (M.bind (op2 addO (vName 1) (M.pure (.val (.int 2)))) asI)) (lstM (consM (M.pure (.val (.int 1))) (consM (M.pure (.val (.int 2))) (M.pure []))))) (M.pure none) (M.bind (M.pure (.val (.int 2))) asI)))
  (seqM (asgM 3 (op2 idxO (lstM (consM (M.pure (.val (.int 10))) (consM (M.pure (.val (.int 10))) (consM (M.pure (.val (.int 31))) (M.pure []))))) (op2 modO (vName 1) (M.pure (.val (.int 3))))))
  (seqM (asgM 4 (callP G__law_digits (consM (op2 idxO (vName 2) (M.pure (.val (.int 0)))) (consM (vName 1) (consM (op2 addO (lstM (consM (M.pure (.val (.int 7))) (consM (M.pure (.val (.int 31))) (consM (vName 3) (consM (M.pure (.val (.int 3))) (M.pure [])))))) (op2 repO (lstM (consM (M.pure (.val (.int 31))) (M.pure []))) (vName 3))) (M.pure []))))))
  (seqM (asgM 5 (callP G__law_asks (consM (vName 4) (consM (vName 3) (M.pure [])))))
  (seqM (asgM 6 (callP G__law_digits (consM (op2 idxO (vName 2) (M.pure (.val (.int 1)))) (consM (op2 addO (vName 1) (M.pure (.val (.int 1)))) (consM (op2 addO (lstM (consM (M.pure (.val (.int 2))) (consM (M.pure (.val (.int 10))) (consM (M.pure (.val (.int 10))) (consM (M.pure (.val (.int 17))) (consM (M.pure (.val (.int 10))) (consM (M.pure (.val (.int 10))) (consM (M.pure (.val (.int 17))) (M.pure []))))))))) (op2 repO (lstM (consM (M.pure (.val (.int 31))) (consM (M.pure (.val (.int 31))) (consM (M.pure (.val (.int 30))) (M.pure []))))) (M.pure (.val (.int 8))))) (M.pure []))))))
  (seqM (asgM 7 (callP G__law_drawn_fences (consM (vName 5) (consM (slcM cutO (vName 6) (M.bind (M.pure (.val (.int 7))) asI) (M.pure none)) (M.pure [])))))
  (seqM (asgM 8 (callP G__law_bent (consM (vName 5) (consM (vName 7) (consM (slcM cutO (vName 6) (M.bind (M.pure (.val (.int 1))) asI) (M.bind (M.pure (.val (.int 4))) asI)) (M.pure []))))))
  (seqM (ifM (andM (M.bind (op2 eqO2 (op2 idxO (vName 6) (M.pure (.val (.int 0)))) (M.pure (.val (.int 1)))) asB) (M.bind (callP G__law_are_fences (consM (vName 5) (consM (vName 8) (M.pure [])))) asB))
  (asgM 8 (callP G__law_bent (consM (vName 5) (consM (vName 8) (consM (slcM cutO (vName 6) (M.bind (M.pure (.val (.int 4))) asI) (M.bind (M.pure (.val (.int 7))) asI)) (M.pure []))))))
  (M.pure .nx))
  (forM (lstI (lstM (consM (vName 7) (consM (vName 8) (consM (vName 7) (consM (M.pure (.val .non)) (consM (callM tupleO (consM (vName 7) (M.pure []))) (consM (M.pure (.val (.dic [] []))) (consM (M.pure (.val (.int 5))) (consM (M.pure (.val (.str "0"))) (consM (lstM (consM (tupM (M.pure [])) (M.pure []))) (M.pure [])))))))))))) (gN 9)
  (ifM (ngM (M.bind (callP G__law_right (consM (vName 5) (consM (vName 9) (M.pure [])))) asB))
  (retM (M.pure (.val (.bl false))))
  (M.pure .nx))))))))))))
  (retM (M.pure (.val (.bl true)))))
theorem vs_law {fa : Addr} {cdv : Value} {A : Around} {outer : List Env} {s : Shared} {H : Hp} {E : XK} {k : Nat} {ios : List Addr} (M : Nm mg) {G__law_are_fences : List D → Option Rt} {k__law_are_fences : Nat} (C__law_are_fences : Cal P w mg base "_law_are_fences" k__law_are_fences ["_law_asks_here", "_law_thing"] (spP G__law_are_fences)) (L__law_are_fences : k__law_are_fences ≤ k) {G__law_asks : List D → Option Rt} {k__law_asks : Nat} (C__law_asks : Cal P w mg base "_law_asks" k__law_asks ["_law_d", "_law_most"] (spP G__law_asks)) (L__law_asks : k__law_asks ≤ k) {G__law_bent : List D → Option Rt} {k__law_bent : Nat} (C__law_bent : Cal P w mg base "_law_bent" k__law_bent ["_law_asks_here", "_law_thing", "_law_d"] (spP G__law_bent)) (L__law_bent : k__law_bent ≤ k) {G__law_digits : List D → Option Rt} {k__law_digits : Nat} (C__law_digits : Cal P w mg base "_law_digits" k__law_digits ["_law_cell", "_law_turn", "_law_sizes"] (spP G__law_digits)) (L__law_digits : k__law_digits ≤ k) {G__law_drawn_fences : List D → Option Rt} {k__law_drawn_fences : Nat} (C__law_drawn_fences : Cal P w mg base "_law_drawn_fences" k__law_drawn_fences ["_law_asks_here", "_law_digits_here"] (spP G__law_drawn_fences)) (L__law_drawn_fences : k__law_drawn_fences ≤ k) {G__law_right : List D → Option Rt} {k__law_right : Nat} (C__law_right : Cal P w mg base "_law_right" k__law_right ["_law_asks_here", "_law_thing"] (spP G__law_right)) (L__law_right : k__law_right ≤ k) (hr : Room k (A.deeper (PyProof.Rows.envOfC "law" (defScope s_law) s.heap.objs.size fa cdv))) :
    VSs (cxOf CX0 P w KC.K mg base ["_law_script", "_law_at", "_law_cells", "_law_most", "_law_d", "_law_asks_here", "_law_e", "_law_good", "_law_bent_here", "_law_thing"] "law" (defScope s_law) fa cdv A outer s H E).nox EN ios (defBody s_law) (bm_law G__law_are_fences G__law_asks G__law_bent G__law_digits G__law_drawn_fences G__law_right) :=
  (vss_cons (vs_for (n := 10) (vi_rng3 (fun _ ha => pi_range3 rfl M.b_range ha) (va_cons ve_int (va_cons (ve_blt (fun _ ha => pe_callB (call_max2 rfl) rfl M.b_max (by decide +kernel) ha) callv_max2 (va_cons ve_int (va_cons (ve_blt (fun _ ha => pe_callB (call_min2 rfl) rfl M.b_min (by decide +kernel) ha) callv_min2 (va_cons (ve_blt (fun _ ha => pe_callB call_len2 rfl M.b_len PySem.boot_len ha) callv_len (va_cons (ve_name (pv 0)) va_nil)) (va_cons ve_int va_nil))) va_nil))) (va_cons ve_int va_nil)))) (rd_gname (by decide))
      (vss_cons (vs_set (i := 2) sc_law.nd rfl (by first | exact Or.inl rfl | exact Or.inr rfl) (ve_slc (ve_op op_add3 opv_add (ve_slc (ve_name (pv 0)) (vo_some (ve_name (pv 1))) (vo_some (ve_op op_add3 opv_add (ve_name (pv 1)) ve_int))) (ve_lst (va_cons ve_int (va_cons ve_int va_nil)))) vo_none (vo_some ve_int)))
      (vss_cons (vs_set (i := 3) sc_law.nd rfl (by first | exact Or.inl rfl | exact Or.inr rfl) (ve_ix (ve_lst (va_cons ve_int (va_cons ve_int (va_cons ve_int va_nil)))) (ve_op op_mod opv_mod (ve_name (pv 1)) ve_int)))
      (vss_cons (vs_set (i := 4) sc_law.nd rfl (by first | exact Or.inl rfl | exact Or.inr rfl) (ve_call C__law_digits (hr.mono L__law_digits) rfl (va_cons (ve_ix (ve_name (pv 2)) ve_int) (va_cons (ve_name (pv 1)) (va_cons (ve_op op_add3 opv_add (ve_lst (va_cons ve_int (va_cons ve_int (va_cons (ve_name (pv 3)) (va_cons ve_int va_nil))))) (ve_op op_rep opv_rep (ve_lst (va_cons ve_int va_nil)) (ve_name (pv 3)))) va_nil)))))
      (vss_cons (vs_set (i := 5) sc_law.nd rfl (by first | exact Or.inl rfl | exact Or.inr rfl) (ve_call C__law_asks (hr.mono L__law_asks) rfl (va_cons (ve_name (pv 4)) (va_cons (ve_name (pv 3)) va_nil))))
      (vss_cons (vs_set (i := 6) sc_law.nd rfl (by first | exact Or.inl rfl | exact Or.inr rfl) (ve_call C__law_digits (hr.mono L__law_digits) rfl (va_cons (ve_ix (ve_name (pv 2)) ve_int) (va_cons (ve_op op_add3 opv_add (ve_name (pv 1)) ve_int) (va_cons (ve_op op_add3 opv_add (ve_lst (va_cons ve_int (va_cons ve_int (va_cons ve_int (va_cons ve_int (va_cons ve_int (va_cons ve_int (va_cons ve_int va_nil)))))))) (ve_op op_rep opv_rep (ve_lst (va_cons ve_int (va_cons ve_int (va_cons ve_int va_nil)))) ve_int)) va_nil)))))
      (vss_cons (vs_set (i := 7) sc_law.nd rfl (by first | exact Or.inl rfl | exact Or.inr rfl) (ve_call C__law_drawn_fences (hr.mono L__law_drawn_fences) rfl (va_cons (ve_name (pv 5)) (va_cons (ve_slc (ve_name (pv 6)) (vo_some ve_int) vo_none) va_nil))))
      (vss_cons (vs_set (i := 8) sc_law.nd rfl (by first | exact Or.inl rfl | exact Or.inr rfl) (ve_call C__law_bent (hr.mono L__law_bent) rfl (va_cons (ve_name (pv 5)) (va_cons (ve_name (pv 7)) (va_cons (ve_slc (ve_name (pv 6)) (vo_some ve_int) (vo_some ve_int)) va_nil)))))
      (vss_cons (vs_if (vt_bool (vw_and (vt_cmp (op_eq2 hr) opv_eq2 (ve_ix (ve_name (pv 6)) ve_int) ve_int (nomark _)) (vw_and1 (vt_val (ve_call C__law_are_fences (hr.mono L__law_are_fences) rfl (va_cons (ve_name (pv 5)) (va_cons (ve_name (pv 8)) va_nil)))))))
      (vss_one (vs_set (i := 8) sc_law.nd rfl (by first | exact Or.inl rfl | exact Or.inr rfl) (ve_call C__law_bent (hr.mono L__law_bent) rfl (va_cons (ve_name (pv 5)) (va_cons (ve_name (pv 8)) (va_cons (ve_slc (ve_name (pv 6)) (vo_some ve_int) (vo_some ve_int)) va_nil))))))
      vss_nil)
      (vss_one (vs_for (n := 10) (vi_list (ve_lst (va_cons (ve_name (pv 7)) (va_cons (ve_name (pv 8)) (va_cons (ve_name (pv 7)) (va_cons ve_non (va_cons (ve_blt (fun _ ha => pe_callTy call_tuple_of rfl M.b_tuple (by decide +kernel) ha) callv_tuple (va_cons (ve_name (pv 7)) va_nil)) (va_cons ve_dic (va_cons ve_int (va_cons ve_str (va_cons (ve_lst (va_cons (ve_tup va_nil) va_nil)) va_nil))))))))))) (rd_gname (by decide))
      (vss_one (vs_if (vt_not (vt_val (ve_call C__law_right (hr.mono L__law_right) rfl (va_cons (ve_name (pv 5)) (va_cons (ve_name (pv 9)) va_nil)))))
      (vss_one (vs_ret ve_bl))
      vss_nil)) (fun _ _ h1 h2 => ps_for PassesOwn.never rfl h1 (pg_name (i := 9) sc_law.nd rfl (by first | exact Or.inl rfl | exact Or.inr rfl)) h2))))))))))) (fun _ _ h1 h2 => ps_for PassesOwn.never rfl h1 (pg_name (i := 1) sc_law.nd rfl (by first | exact Or.inl rfl | exact Or.inr rfl)) h2))
      (vss_one (vs_ret ve_bl)))
end
end K40
end

section
set_option Elab.async false
set_option linter.all false
set_option maxRecDepth 100000
set_option maxHeartbeats 5000000
namespace K40
open PySem L2 Ex Dv
noncomputable def G__law_hinders : List D → Option Rt := runP 3 ["_law_asks_here", "_law_ahead", "_law_behind", "_law_begins", "_law_ends", "_law_both"] (bm__law_hinders )
noncomputable def G__law_is_fence : List D → Option Rt := runP 2 ["_law_asks_here", "_law_thing", "_law_one", "_law_other", "_law_gap"] (bm__law_is_fence )
noncomputable def G__law_are_fences : List D → Option Rt := runP 2 ["_law_asks_here", "_law_thing", "_law_k", "_law_fence"] (bm__law_are_fences G__law_hinders G__law_is_fence)
noncomputable def G__law_asks : List D → Option Rt := runP 2 ["_law_d", "_law_most", "_law_span", "_law_begin", "_law_many", "_law_asks_here"] (bm__law_asks )
noncomputable def G__law_bent : List D → Option Rt := runP 3 ["_law_asks_here", "_law_thing", "_law_d", "_law_at", "_law_to", "_law_fence", "_law_one", "_law_other", "_law_gap", "_law_some", "_law_more", "_law_swung"] (bm__law_bent )
noncomputable def G__law_digits : List D → Option Rt := runP 3 ["_law_cell", "_law_turn", "_law_sizes", "_law_number", "_law_wide", "_law_seed", "_law_found", "_law_k", "_law_size"] (bm__law_digits )
noncomputable def G__law_drawn_fences : List D → Option Rt := runP 2 ["_law_asks_here", "_law_digits_here", "_law_found", "_law_k", "_law_one", "_law_other", "_law_low", "_law_high", "_law_fence"] (bm__law_drawn_fences G__law_hinders)
noncomputable def G_is_up : List D → Option Rt := runP 2 ["asks", "fence"] (bm_is_up )
noncomputable def G_sides : List D → Option Rt := runP 3 ["asks", "one", "other"] (bm_sides )
noncomputable def G_hinder : List D → Option Rt := runP 3 ["asks", "ahead", "behind", "low", "high"] (bm_hinder G_is_up G_sides)
noncomputable def G_is_key : List D → Option Rt := runP 1 ["thing"] (bm_is_key )
noncomputable def G_is_fence : List D → Option Rt := runP 2 ["asks", "thing", "one", "other", "gap", "low", "high"] (bm_is_fence G_is_key G_sides)
noncomputable def G_look_at_asks : List D → Option Rt := runP 1 ["thing", "number", "key"] (bm_look_at_asks G_is_key)
noncomputable def G_are_fences : List D → Option Rt := runP 2 ["asks", "thing", "number", "behind"] (bm_are_fences G_hinder G_is_fence G_look_at_asks)
noncomputable def G_floor_of : List D → Option Rt := runP 2 ["asks", "fences", "ups"] (bm_floor_of G_is_up G_look_at_asks)
noncomputable def G__law_right : List D → Option Rt := runP 2 ["_law_asks_here", "_law_thing", "_law_kept", "_law_found", "_law_due", "_law_ups"] (bm__law_right G__law_are_fences G_are_fences G_floor_of)
noncomputable def G_law : List D → Option Rt := runP 1 ["_law_script", "_law_at", "_law_cells", "_law_most", "_law_d", "_law_asks_here", "_law_e", "_law_good", "_law_bent_here", "_law_thing"] (bm_law G__law_are_fences G__law_asks G__law_bent G__law_digits G__law_drawn_fences G__law_right)
section
variable [KC] {P : Program} {w : World} {mg : Str → Option Value} {base : Heap}
/-- the defs of the text -/
structure Ats (mg : Str → Option Value) : Prop where
  a__law_hinders : At mg "_law_hinders" s__law_hinders
  a__law_is_fence : At mg "_law_is_fence" s__law_is_fence
  a__law_are_fences : At mg "_law_are_fences" s__law_are_fences
  a__law_asks : At mg "_law_asks" s__law_asks
  a__law_bent : At mg "_law_bent" s__law_bent
  a__law_digits : At mg "_law_digits" s__law_digits
  a__law_drawn_fences : At mg "_law_drawn_fences" s__law_drawn_fences
  a_is_up : At mg "is_up" s_is_up
  a_sides : At mg "sides" s_sides
  a_hinder : At mg "hinder" s_hinder
  a_is_key : At mg "is_key" s_is_key
  a_is_fence : At mg "is_fence" s_is_fence
  a_look_at_asks : At mg "look_at_asks" s_look_at_asks
  a_are_fences : At mg "are_fences" s_are_fences
  a_floor_of : At mg "floor_of" s_floor_of
  a__law_right : At mg "_law_right" s__law_right
  a_law : At mg "law" s_law
theorem cal__law_hinders (T : Ats mg) (M : Nm mg) : Cal P w mg base "_law_hinders" 1 ["_law_asks_here", "_law_ahead", "_law_behind"] (spP G__law_hinders) :=
  cal_of T.a__law_hinders sc__law_hinders (fun _ _ _ _ _ _ us hl => match us, hl with | [_, _, _], _ => rfl) (fun _ _ _ _ _ _ _ hr => vs__law_hinders M  hr) (fun _ _ h => runP_ok h)
theorem cal__law_is_fence (T : Ats mg) (M : Nm mg) : Cal P w mg base "_law_is_fence" 1 ["_law_asks_here", "_law_thing"] (spP G__law_is_fence) :=
  cal_of T.a__law_is_fence sc__law_is_fence (fun _ _ _ _ _ _ us hl => match us, hl with | [_, _], _ => rfl) (fun _ _ _ _ _ _ _ hr => vs__law_is_fence M  hr) (fun _ _ h => runP_ok h)
theorem cal__law_are_fences (T : Ats mg) (M : Nm mg) : Cal P w mg base "_law_are_fences" 2 ["_law_asks_here", "_law_thing"] (spP G__law_are_fences) :=
  cal_of T.a__law_are_fences sc__law_are_fences (fun _ _ _ _ _ _ us hl => match us, hl with | [_, _], _ => rfl) (fun _ _ _ _ _ _ _ hr => vs__law_are_fences M (cal__law_hinders T M) (by omega) (cal__law_is_fence T M) (by omega) hr) (fun _ _ h => runP_ok h)
theorem cal__law_asks (T : Ats mg) (M : Nm mg) : Cal P w mg base "_law_asks" 1 ["_law_d", "_law_most"] (spP G__law_asks) :=
  cal_of T.a__law_asks sc__law_asks (fun _ _ _ _ _ _ us hl => match us, hl with | [_, _], _ => rfl) (fun _ _ _ _ _ _ _ hr => vs__law_asks M  hr) (fun _ _ h => runP_ok h)
theorem cal__law_bent (T : Ats mg) (M : Nm mg) : Cal P w mg base "_law_bent" 1 ["_law_asks_here", "_law_thing", "_law_d"] (spP G__law_bent) :=
  cal_of T.a__law_bent sc__law_bent (fun _ _ _ _ _ _ us hl => match us, hl with | [_, _, _], _ => rfl) (fun _ _ _ _ _ _ _ hr => vs__law_bent M  hr) (fun _ _ h => runP_ok h)
theorem cal__law_digits (T : Ats mg) (M : Nm mg) : Cal P w mg base "_law_digits" 1 ["_law_cell", "_law_turn", "_law_sizes"] (spP G__law_digits) :=
  cal_of T.a__law_digits sc__law_digits (fun _ _ _ _ _ _ us hl => match us, hl with | [_, _, _], _ => rfl) (fun _ _ _ _ _ _ _ hr => vs__law_digits M  hr) (fun _ _ h => runP_ok h)
theorem cal__law_drawn_fences (T : Ats mg) (M : Nm mg) : Cal P w mg base "_law_drawn_fences" 2 ["_law_asks_here", "_law_digits_here"] (spP G__law_drawn_fences) :=
  cal_of T.a__law_drawn_fences sc__law_drawn_fences (fun _ _ _ _ _ _ us hl => match us, hl with | [_, _], _ => rfl) (fun _ _ _ _ _ _ _ hr => vs__law_drawn_fences M (cal__law_hinders T M) (by omega) hr) (fun _ _ h => runP_ok h)
theorem cal_is_up (T : Ats mg) (M : Nm mg) : Cal P w mg base "is_up" 1 ["asks", "fence"] (spP G_is_up) :=
  cal_of T.a_is_up sc_is_up (fun _ _ _ _ _ _ us hl => match us, hl with | [_, _], _ => rfl) (fun _ _ _ _ _ _ _ hr => vs_is_up M  hr) (fun _ _ h => runP_ok h)
theorem cal_sides (T : Ats mg) (M : Nm mg) : Cal P w mg base "sides" 1 ["asks", "one", "other"] (spP G_sides) :=
  cal_of T.a_sides sc_sides (fun _ _ _ _ _ _ us hl => match us, hl with | [_, _, _], _ => rfl) (fun _ _ _ _ _ _ _ hr => vs_sides M  hr) (fun _ _ h => runP_ok h)
theorem cal_hinder (T : Ats mg) (M : Nm mg) : Cal P w mg base "hinder" 2 ["asks", "ahead", "behind"] (spP G_hinder) :=
  cal_of T.a_hinder sc_hinder (fun _ _ _ _ _ _ us hl => match us, hl with | [_, _, _], _ => rfl) (fun _ _ _ _ _ _ _ hr => vs_hinder M (cal_is_up T M) (by omega) (cal_sides T M) (by omega) hr) (fun _ _ h => runP_ok h)
theorem cal_is_key (T : Ats mg) (M : Nm mg) : Cal P w mg base "is_key" 1 ["thing"] (spP G_is_key) :=
  cal_of T.a_is_key sc_is_key (fun _ _ _ _ _ _ us hl => match us, hl with | [_], _ => rfl) (fun _ _ _ _ _ _ _ hr => vs_is_key M  hr) (fun _ _ h => runP_ok h)
theorem cal_is_fence (T : Ats mg) (M : Nm mg) : Cal P w mg base "is_fence" 2 ["asks", "thing"] (spP G_is_fence) :=
  cal_of T.a_is_fence sc_is_fence (fun _ _ _ _ _ _ us hl => match us, hl with | [_, _], _ => rfl) (fun _ _ _ _ _ _ _ hr => vs_is_fence M (cal_is_key T M) (by omega) (cal_sides T M) (by omega) hr) (fun _ _ h => runP_ok h)
theorem cal_look_at_asks (T : Ats mg) (M : Nm mg) : Cal P w mg base "look_at_asks" 2 ["thing"] (spP G_look_at_asks) :=
  cal_of T.a_look_at_asks sc_look_at_asks (fun _ _ _ _ _ _ us hl => match us, hl with | [_], _ => rfl) (fun _ _ _ _ _ _ _ hr => vs_look_at_asks M (cal_is_key T M) (by omega) hr) (fun _ _ h => runP_ok h)
theorem cal_are_fences (T : Ats mg) (M : Nm mg) : Cal P w mg base "are_fences" 3 ["asks", "thing"] (spP G_are_fences) :=
  cal_of T.a_are_fences sc_are_fences (fun _ _ _ _ _ _ us hl => match us, hl with | [_, _], _ => rfl) (fun _ _ _ _ _ _ _ hr => vs_are_fences M (cal_hinder T M) (by omega) (cal_is_fence T M) (by omega) (cal_look_at_asks T M) (by omega) hr) (fun _ _ h => runP_ok h)
theorem cal_floor_of (T : Ats mg) (M : Nm mg) : Cal P w mg base "floor_of" 3 ["asks", "fences"] (spP G_floor_of) :=
  cal_of T.a_floor_of sc_floor_of (fun _ _ _ _ _ _ us hl => match us, hl with | [_, _], _ => rfl) (fun _ _ _ _ _ _ _ hr => vs_floor_of M (cal_is_up T M) (by omega) (cal_look_at_asks T M) (by omega) hr) (fun _ _ h => runP_ok h)
theorem cal__law_right (T : Ats mg) (M : Nm mg) : Cal P w mg base "_law_right" 4 ["_law_asks_here", "_law_thing"] (spP G__law_right) :=
  cal_of T.a__law_right sc__law_right (fun _ _ _ _ _ _ us hl => match us, hl with | [_, _], _ => rfl) (fun _ _ _ _ _ _ _ hr => vs__law_right M (cal__law_are_fences T M) (by omega) (cal_are_fences T M) (by omega) (cal_floor_of T M) (by omega) hr) (fun _ _ h => runP_ok h)
theorem cal_law (T : Ats mg) (M : Nm mg) : Cal P w mg base "law" 5 ["_law_script"] (spP G_law) :=
  cal_of T.a_law sc_law (fun _ _ _ _ _ _ us hl => match us, hl with | [_], _ => rfl) (fun _ _ _ _ _ _ _ hr => vs_law M (cal__law_are_fences T M) (by omega) (cal__law_asks T M) (by omega) (cal__law_bent T M) (by omega) (cal__law_digits T M) (by omega) (cal__law_drawn_fences T M) (by omega) (cal__law_right T M) (by omega) hr) (fun _ _ h => runP_ok h)
theorem fn_law (T : Ats mg) (M : Nm mg) {f : Addr} {fd : FuncData} (U : Fun KC.K "law" "law" s_law f fd) : FnOk P w KC.K mg base CX0 5 f fd ["_law_script"] (spP G_law) :=
  fn_pure U sc_law (fun _ _ _ _ _ _ hr => vs_law M (cal__law_are_fences T M) (by omega) (cal__law_asks T M) (by omega) (cal__law_bent T M) (by omega) (cal__law_digits T M) (by omega) (cal__law_drawn_fences T M) (by omega) (cal__law_right T M) (by omega) hr) (fun _ _ h => runP_ok h)
end
end K40
end

section
set_option Elab.async false
set_option linter.all false
set_option maxRecDepth 100000
set_option maxHeartbeats 5000000
/-! how the meanings run: rows for simp -/
namespace Dv
open PySem L2 Ex
section
variable {α β : Type} {Γ Γ' : En} {f g k : M RV} {fs : M (List RV)} {p q : M Bool} {s s' : M Fl} {d : D} {i : Nat}
@[simp] theorem r_pure {a : α} : M.pure a Γ = .ok a Γ := (rfl)
@[simp] theorem r_bind {f : M α} {g : α → M β} : M.bind f g Γ = match f Γ with
  | .ok a Γ' => g a Γ'
  | .ex x Γ' => .ex x Γ'
  | .st => .st := (rfl)
@[simp] theorem r_some {a : α} : M.ofO (some a) Γ = .ok a Γ := (rfl)
@[simp] theorem r_none : (M.ofO none : M α) Γ = .st := (rfl)
@[simp] theorem r_st : (M.st : M α) Γ = .st := (rfl)
@[simp] theorem r_ite {c : Prop} [Decidable c] {f g : M α} : (if c then f else g) Γ = if c then f Γ else g Γ := by split <;> rfl
@[simp] theorem r_name : vName i Γ = match Γ[i]? with
  | some (some (.frz, d)) => .ok (.val d) Γ
  | some (some _) => .ok (.var i) Γ
  | _ => .st := (rfl)
@[simp] theorem r_peekv : peek (.val d) Γ = .ok d Γ := (rfl)
@[simp] theorem r_peekn : peek (.new d) Γ = .ok d Γ := (rfl)
@[simp] theorem r_peeki : peek (.var i) Γ = match Γ[i]? with
  | some (some (_, d)) => .ok d Γ
  | _ => .st := (rfl)
@[simp] theorem r_matv : mat (.val d) Γ = .ok d Γ := (rfl)
@[simp] theorem r_matn : mat (.new d) Γ = .ok d Γ := (rfl)
@[simp] theorem r_mati : mat (.var i) Γ = match Γ[i]? with
  | some (some (_, d)) => .ok d (Γ.set i (some (.frz, d)))
  | _ => .st := (rfl)
@[simp] theorem r_op1 {o : D → Option RV} : op1 o f Γ = M.bind f (fun x => M.bind (peek x) fun d => M.ofO (o d)) Γ := (rfl)
@[simp] theorem r_op2 {o : D → D → Option RV} : op2 o f g Γ = M.bind f (fun x => M.bind g fun y => M.bind (peek x) fun d => M.bind (peek y) fun e => M.ofO (o d e)) Γ := (rfl)
@[simp] theorem r_op3 {o o' : D → D → Option RV} : op3 o o' f g k Γ = M.bind f (fun x => M.bind g fun y => M.bind (peek x) fun d => M.bind (peek y) fun e => M.bind (M.bind (M.ofO (o d e)) asB) fun q =>
  if q then M.bind k fun z => M.bind (peek y) fun e' => M.bind (peek z) fun u => M.ofO (o' e' u) else M.pure (.val (.bl false))) Γ := (rfl)
@[simp] theorem r_asB {b : Bool} : asB (.val (.bl b)) Γ = .ok b Γ := (rfl)
@[simp] theorem r_ng : ngM p Γ = M.bind p (fun b => M.pure (!b)) Γ := (rfl)
@[simp] theorem r_and : andM p q Γ = M.bind p (fun b => if b then q else M.pure false) Γ := (rfl)
@[simp] theorem r_or : orM p q Γ = M.bind p (fun b => if b then M.pure true else q) Γ := (rfl)
@[simp] theorem r_valB : valB p Γ = M.bind p (fun b => M.pure (.val (.bl b))) Γ := (rfl)
@[simp] theorem r_andV : andV f g Γ = M.bind (M.bind f asB) (fun b => if b then g else M.pure (.val (.bl false))) Γ := (rfl)
@[simp] theorem r_orV : orV f g Γ = M.bind (M.bind f asB) (fun b => if b then M.pure (.val (.bl true)) else g) Γ := (rfl)
@[simp] theorem r_iteM : iteM p f g Γ = M.bind p (fun b => if b then f else g) Γ := (rfl)
@[simp] theorem r_arg : argM f Γ = match f Γ with
  | .ok (.var i) Γ' => .ok (.var i) Γ'
  | .ok (.val d) Γ' => .ok (.val d) Γ'
  | .ok (.new d) Γ' => .ok (.val d) Γ'
  | .ex x Γ' => .ex x Γ'
  | .st => .st := by
  unfold argM M.bind
  cases f Γ with
  | ok rv Γ' => cases rv <;> rfl
  | ex _ _ => rfl
  | st => rfl
@[simp] theorem r_cons : consM f fs Γ = M.bind (argM f) (fun x => M.bind fs fun xs => M.pure (x :: xs)) Γ := (rfl)
@[simp] theorem r_mat0 : matAll [] Γ = .ok [] Γ := (rfl)
@[simp] theorem r_mat1 {rv : RV} {r : List RV} : matAll (rv :: r) Γ = M.bind (mat rv) (fun d => M.bind (matAll r) fun ds => M.pure (d :: ds)) Γ := (rfl)
@[simp] theorem r_peek0 : peekAll [] Γ = .ok [] Γ := (rfl)
@[simp] theorem r_peek1 {rv : RV} {r : List RV} : peekAll (rv :: r) Γ = M.bind (peek rv) (fun d => M.bind (peekAll r) fun ds => M.pure (d :: ds)) Γ := (rfl)
@[simp] theorem r_lst : lstM fs Γ = M.bind fs (fun rvs => M.bind (matAll rvs) fun ds => if ds.length ≤ sizeLine then M.pure (.new (.lst ds)) else M.st) Γ := (rfl)
@[simp] theorem r_tup : tupM fs Γ = M.bind fs (fun rvs => M.bind (matAll rvs) fun ds => if ds.length ≤ sizeLine then M.pure (.val (.tup ds)) else M.st) Γ := (rfl)
@[simp] theorem r_blt {g : List D → Option RV} : callM g fs Γ = M.bind fs (fun rvs => M.bind (peekAll rvs) fun ds => M.ofO (g ds)) Γ := (rfl)
@[simp] theorem r_isi {T : Ty} : isiM T f Γ = M.bind (argM f) (fun x => M.bind (peek x) fun d => M.ofO (isiO T d)) Γ := (rfl)
@[simp] theorem r_slc {o : D → Option Int → Option Int → Option RV} {lo hi : M (Option Int)} : slcM o f lo hi Γ = M.bind f (fun x => M.bind lo fun l => M.bind hi fun u => M.bind (peek x) fun d => M.ofO (o d l u)) Γ := (rfl)
@[simp] theorem r_asI {n : Int} : asI (.val (.int n)) Γ = .ok (some n) Γ := (rfl)
@[simp] theorem r_met {m : List D → List D → Option (List D × D)} : metM i m fs Γ = M.bind (recv i) (fun _ => M.bind fs fun rvs => M.bind (matAll rvs) fun es => metGo i m es) Γ := (rfl)
@[simp] theorem r_recv : recv i Γ = match Γ[i]? with
  | some (some (kd, .lst _)) => if owned kd then .ok () Γ else .st
  | _ => .st := (rfl)
@[simp] theorem r_metGo {m : List D → List D → Option (List D × D)} {es : List D} : metGo i m es Γ = match Γ[i]? with
  | some (some (kd, .lst ds)) => if owned kd then match m ds es with
    | some (ds', res) => .ok (.val res) (Γ.set i (some (kd, .lst ds')))
    | none => .st else .st
  | _ => .st := (rfl)
@[simp] theorem r_own : owned .own = true := (rfl)
@[simp] theorem r_io {n : Nat} : owned (.io n) = true := (rfl)
@[simp] theorem r_frz : owned .frz = false := (rfl)
@[simp] theorem r_seq : seqM s s' Γ = match s Γ with
  | .ok .nx Γ' => s' Γ'
  | .ok fl Γ' => .ok fl Γ'
  | .ex x Γ' => .ex x Γ'
  | .st => .st := by
  unfold seqM M.bind
  cases s Γ with
  | ok fl Γ' => cases fl <;> rfl
  | ex _ _ => rfl
  | st => rfl
@[simp] theorem r_drop : dropM f Γ = M.bind f (fun _ => M.pure .nx) Γ := (rfl)
@[simp] theorem r_ret : retM f Γ = M.bind f (fun rv => M.pure (.ret rv)) Γ := (rfl)
@[simp] theorem r_if : ifM p s s' Γ = M.bind p (fun b => if b then s else s') Γ := (rfl)
@[simp] theorem r_asg : asgM i f Γ = match f Γ with
  | .ok (.new d) Γ' => .ok .nx (Γ'.set i (some (.own, d)))
  | .ok (.val d) Γ' => .ok .nx (Γ'.set i (some (.frz, d)))
  | .ok (.var j) Γ' => M.bind (mat (.var j)) (fun d => M.bind (setS i (.frz, d)) fun _ => M.pure .nx) Γ'
  | .ex x Γ' => .ex x Γ'
  | .st => .st := by
  unfold asgM M.bind
  cases f Γ with
  | ok rv Γ' =>
    cases rv with
    | var j => dsimp only [M.bind]; cases mat (.var j) Γ' <;> rfl
    | _ => rfl
  | ex _ _ => rfl
  | st => rfl
@[simp] theorem r_setS {t : Kd × D} : setS i t Γ = .ok () (Γ.set i (some t)) := (rfl)
@[simp] theorem r_asgG {m : D → M Unit} : asgG m f Γ = M.bind f (fun rv => M.bind (mat rv) fun d => M.bind (noX (m d)) fun _ => M.pure .nx) Γ := (rfl)
@[simp] theorem r_noX {m : M Unit} : noX m Γ = match m Γ with
  | .ok a Γ' => .ok a Γ'
  | _ => .st := (rfl)
@[simp] theorem r_gN : gN i d Γ = .ok () (Γ.set i (some (.frz, d))) := (rfl)
@[simp] theorem r_gs0 : gs0 [] Γ = .ok () Γ := (rfl)
@[simp] theorem r_gsC {m : D → M Unit} {ms : List D → M Unit} {r : List D} : gsC m ms (d :: r) Γ = M.bind (m d) (fun _ => ms r) Γ := (rfl)
@[simp] theorem r_gT {n : Nat} {ms : List D → M Unit} {ds : List D} : gT n ms (.tup ds) Γ = (if ds.length = n then ms ds else M.st) Γ := (rfl)
@[simp] theorem r_g2 {ms : List D → M Unit} {x y : D} : g2 ms (.lst [x, y]) Γ = ms [x, y] Γ := (rfl)
@[simp] theorem r_gS {fi : M RV} : gS i fi d Γ = M.bind (recv i) (fun _ => M.bind fi fun ri => M.bind (peek ri) fun di => setAt i d di) Γ := (rfl)
@[simp] theorem r_setAt {n : Int} : setAt i d (.int n) Γ = match Γ[i]? with
  | some (some (kd, .lst ds)) => if owned kd then match ixN ds.length n with
    | some k => .ok () (Γ.set i (some (kd, .lst (ds.set k d))))
    | none => .st else .st
  | _ => .st := by
  unfold setAt
  cases Γ[i]? with
  | none => rfl
  | some o => cases o with
    | none => rfl
    | some t => obtain ⟨kd, d⟩ := t; cases d <;> rfl
@[simp] theorem r_for {items : M (List D)} {m : D → M Unit} : forM items m s Γ = M.bind items (fun ds => loopM m s ds) Γ := (rfl)
@[simp] theorem r_loop0 {m : D → M Unit} : loopM m s [] Γ = .ok .nx Γ := (rfl)
theorem r_loop1 {m : D → M Unit} {r : List D} : loopM m s (d :: r) Γ = match noX (m d) Γ with
  | .ok _ Γ1 => match s Γ1 with
    | .ok .nx Γ2 => loopM m s r Γ2
    | .ok .cont Γ2 => loopM m s r Γ2
    | .ok .brk Γ2 => .ok .nx Γ2
    | .ok (.ret rv) Γ2 => .ok (.ret rv) Γ2
    | .ex x Γ2 => .ex x Γ2
    | .st => .st
  | .ex x Γ1 => .ex x Γ1
  | .st => .st := by
  show turnM m s (loopM m s r) d Γ = _
  unfold turnM M.bind
  cases noX (m d) Γ with
  | ok a Γ1 =>
    dsimp only
    cases s Γ1 with
    | ok fl Γ2 => cases fl <;> rfl
    | ex _ _ => rfl
    | st => rfl
  | ex _ _ => rfl
  | st => rfl
theorem r_while {n : Nat} : whileM p s (n + 1) Γ = match p Γ with
  | .ok true Γ1 => (match s Γ1 with
    | .ok .nx Γ2 => whileM p s n Γ2
    | .ok .cont Γ2 => whileM p s n Γ2
    | .ok .brk Γ2 => .ok .nx Γ2
    | .ok (.ret rv) Γ2 => .ok (.ret rv) Γ2
    | .ex x Γ2 => .ex x Γ2
    | .st => .st)
  | .ok false Γ1 => .ok .nx Γ1
  | .ex x Γ1 => .ex x Γ1
  | .st => .st := by
  show M.bind p _ Γ = _
  unfold M.bind
  cases p Γ with
  | ok b Γ1 =>
    cases b with
    | false => rfl
    | true =>
      show M.bind s _ Γ1 = _
      unfold M.bind
      dsimp only
      cases s Γ1 with
      | ok fl Γ2 => cases fl <;> rfl
      | ex _ _ => rfl
      | st => rfl
  | ex _ _ => rfl
  | st => rfl
@[simp] theorem r_lstI : lstI f Γ = M.bind f (fun rv => M.bind (mat rv) fun d => match d with
  | .lst ds => M.pure ds
  | .scr ns => M.pure (ns.map D.int)
  | _ => M.st) Γ := (rfl)
@[simp] theorem r_tupI : tupI f Γ = M.bind f (fun rv => M.bind (mat rv) fun d => match d with
  | .tup ds => M.pure ds
  | _ => M.st) Γ := (rfl)
@[simp] theorem r_enuI : enuI fs Γ = M.bind fs (fun rvs => M.bind (matAll rvs) fun ds => match ds with
  | [.lst ds] => M.pure (numI ds)
  | _ => M.st) Γ := (rfl)
@[simp] theorem r_rng1 : rng1 fs Γ = M.bind fs (fun rvs => match rvs with
  | [.val (.int j)] => if small j then M.pure (upI 0 j.toNat) else M.st
  | _ => M.st) Γ := (rfl)
@[simp] theorem r_rng2 : rng2 fs Γ = M.bind fs (fun rvs => match rvs with
  | [.val (.int i), .val (.int j)] => if small i && small j then M.pure (upI i (j - i).toNat) else M.st
  | _ => M.st) Γ := (rfl)
@[simp] theorem r_callP {G : List D → Option Rt} : callP G fs Γ = M.bind fs (fun rvs => M.bind (peekAll rvs) fun ds => match G ds with
  | some r => if rvs.any isVar && !immR r then M.bind (matAll rvs) fun ds' => M.ofO ((G ds').map Rt.rv) else M.pure r.rv
  | none => M.st) Γ := (rfl)
@[simp] theorem r_callI {G : GI} : callI G fs Γ = M.bind fs (fun rvs => match rvs with
  | .var i :: r => M.bind (matAll r) fun ds => goI i G ds
  | _ => M.st) Γ := (rfl)
@[simp] theorem r_goI {G : GI} {ds : List D} : goI i G ds Γ = match Γ[i]? with
  | some (some (kd, .lst ds0)) => if owned kd then match G ds0 ds with
    | some (r, out) => .ok r.rv (Γ.set i (some (kd, .lst out)))
    | none => .st else .st
  | _ => .st := (rfl)
@[simp] theorem r_rvv : (Rt.val d).rv = .val d := (rfl)
@[simp] theorem r_rvn : (Rt.new d).rv = .new d := (rfl)
@[simp] theorem r_isv : isVar (.val d) = false := (rfl)
@[simp] theorem r_isn : isVar (.new d) = false := (rfl)
@[simp] theorem r_isi' : isVar (.var i) = true := (rfl)
end
@[simp] theorem modO_int {i j : Int} (h : 0 < j) : modO (.int i) (.int j) = some (.val (.int (i % j))) := by
  show (if cd (0 < j) = true then _ else _) = _
  rw [if_pos (cd_t h)]
@[simp] theorem fdivO_int {i j : Int} (h : 0 < j) (h' : j < 1073741824) : fdivO (.int i) (.int j) = some (.val (.int (i / j))) := by
  show (if cd (0 < j ∧ j < 1073741824) = true then _ else _) = _
  rw [if_pos (cd_t ⟨h, h'⟩)]
@[irreducible] def E18 : Int := 1000000000000000000
theorem pow18 : powO (.int 10) (.int 18) = some (.val (.int E18)) := by
  show (if cd ((0:Int) ≤ 18 ∧ (18:Int) ≤ 1000000 ∧ (10:Int).natAbs < 2 ^ 64) = true then some (RV.val (.int (10 ^ (18:Int).toNat))) else none) = _
  rw [if_pos (cd_t (by decide))]
  have : (10 : Int) ^ (18 : Int).toNat = E18 := by unfold E18; decide +kernel
  rw [this]
@[simp] theorem o_int {g : Int → Int → D} {i j : Int} : intO g (.int i) (.int j) = some (.val (g i j)) := (rfl)
@[simp] theorem o_addI {i j : Int} : addO (.int i) (.int j) = some (.val (.int (i + j))) := (rfl)
@[simp] theorem o_addL {xs ys : List D} (h : xs.length + ys.length ≤ sizeLine) : addO (.lst xs) (.lst ys) = some (.new (.lst (xs ++ ys))) := by
  show (if _ then _ else _) = _
  rw [if_pos h]
@[simp] theorem o_mul {i j : Int} (h : mulOk i j = true) : mulO (.int i) (.int j) = some (.val (.int (i * j))) := by
  show (if _ then _ else _) = _
  rw [if_pos h]
@[simp] theorem o_is {d : D} : isO d .non = some (.val (.bl (isNone d))) := (rfl)
@[simp] theorem o_isnt {d : D} : isntO d .non = some (.val (.bl (!isNone d))) := (rfl)
@[simp] theorem o_nn : isNone .non = true := (rfl)
@[simp] theorem o_nt {xs : List D} : isNone (.tup xs) = false := (rfl)
@[simp] theorem o_nl {xs : List D} : isNone (.lst xs) = false := (rfl)
@[simp] theorem o_ni {i : Int} : isNone (.int i) = false := (rfl)
@[simp] theorem o_lenL {xs : List D} : lenO [.lst xs] = some (.val (.int xs.length)) := (rfl)
@[simp] theorem o_lenT {xs : List D} : lenO [.tup xs] = some (.val (.int xs.length)) := (rfl)
@[simp] theorem o_lenS {xs : List Int} : lenO [.scr xs] = some (.val (.int xs.length)) := (rfl)
@[simp] theorem o_ixL {xs : List D} {i : Int} : idxO (.lst xs) (.int i) = (L2.atI xs i).map .val := (rfl)
@[simp] theorem o_ixT {xs : List D} {i : Int} : idxO (.tup xs) (.int i) = (L2.atI xs i).map .val := (rfl)
@[simp] theorem o_ixS {xs : List Int} {i : Int} : idxO (.scr xs) (.int i) = (L2.atI xs i).map fun n => .val (.int n) := (rfl)
@[simp] theorem o_neg {i : Int} : negO (.int i) = some (.val (.int (-i))) := (rfl)
@[simp] theorem o_cutL {xs : List D} {lo hi : Option Int} : cutO (.lst xs) lo hi = some (.new (.lst (cutL xs lo hi))) := (rfl)
@[simp] theorem o_cutS {xs : List Int} {lo hi : Option Int} : cutO (.scr xs) lo hi = some (.new (.lst ((cutL xs lo hi).map D.int))) := (rfl)
@[simp] theorem o_max {i j : Int} : max2O [.int i, .int j] = some (.val (.int (if j > i then j else i))) := (rfl)
@[simp] theorem o_min {i j : Int} : min2O [.int i, .int j] = some (.val (.int (if j < i then j else i))) := (rfl)
@[simp] theorem o_abs {i : Int} : absO [.int i] = some (.val (.int (if i < 0 then -i else i))) := (rfl)
@[simp] theorem o_int1 {i : Int} : intO1 [.int i] = some (.val (.int i)) := (rfl)
@[simp] theorem o_int2 {k : Bool} : intO1 [.bl k] = some (.val (.int (if k then 1 else 0))) := (rfl)
@[simp] theorem o_list {xs : List D} : listO [.lst xs] = some (.new (.lst xs)) := (rfl)
@[simp] theorem o_isiT {T : Ty} {xs : List D} : isiO T (.tup xs) = some (.val (.bl (isTy T (.tup xs)))) := (rfl)
@[simp] theorem o_isiI {T : Ty} {i : Int} : isiO T (.int i) = some (.val (.bl (isTy T (.int i)))) := (rfl)
@[simp] theorem o_isiN {T : Ty} : isiO T .non = some (.val (.bl (isTy T .non))) := (rfl)
@[simp] theorem o_isiB {T : Ty} {b : Bool} : isiO T (.bl b) = some (.val (.bl (isTy T (.bl b)))) := (rfl)
@[simp] theorem o_isiS {T : Ty} {z : Str} : isiO T (.str z) = some (.val (.bl (isTy T (.str z)))) := (rfl)
@[simp] theorem o_isiL {T : Ty} {xs : List D} : isiO T (.lst xs) = some (.val (.bl (isTy T (.lst xs)))) := (rfl)
@[simp] theorem o_isiD {T : Ty} {xs ys : List D} : isiO T (.dic xs ys) = some (.val (.bl (isTy T (.dic xs ys)))) := (rfl)
@[simp] theorem o_app {ds : List D} {d : D} (h : ds.length < sizeLine) : appendG ds [d] = some (ds ++ [d], .non) := by
  show (if _ then _ else _) = _
  rw [if_pos h]
@[simp] theorem small_t {j : Int} (h : -4611686018427387904 ≤ j ∧ j < 4611686018427387904) : small j = true := cd_t (by omega)
theorem mulOk_l {i j : Int} (h : -18446744073709551616 < i ∧ i < 18446744073709551616) : mulOk i j = true := cd_t (.inl (by omega))
theorem mulOk_r {i j : Int} (h : -18446744073709551616 < j ∧ j < 18446744073709551616) : mulOk i j = true := cd_t (.inr (by omega))
end Dv
namespace Dv
open PySem L2 Ex
/-! loops by what holds between their turns -/
theorem loop_inv {m : D → M Unit} {s : M Fl} (I : Nat → En → Prop) {ds : List D} {Γ : En} (h0 : I 0 Γ)
    (step : ∀ (i : Nat) (d : D) (Γ : En), ds[i]? = some d → I i Γ → ∃ Γ1 Γ2, m d Γ = .ok () Γ1 ∧ (s Γ1 = .ok .nx Γ2 ∨ s Γ1 = .ok .cont Γ2) ∧ I (i + 1) Γ2) : ∃ Γ', loopM m s ds Γ = .ok .nx Γ' ∧ I ds.length Γ' := by
  induction ds generalizing Γ I with
  | nil => exact ⟨Γ, rfl, h0⟩
  | cons d r ih =>
    obtain ⟨Γ1, Γ2, h1, h2, h3⟩ := step 0 d Γ rfl h0
    obtain ⟨Γ', h4, h5⟩ := ih (fun i => I (i + 1)) h3 fun i d Γ hd hi => step (i + 1) d Γ (by simpa using hd) hi
    refine ⟨Γ', ?_, h5⟩
    rw [r_loop1, r_noX, h1]
    rcases h2 with h2 | h2 <;> simp only [h2] <;> exact h4
theorem while_inv {p : M Bool} {s : M Fl} (I : Nat → En → Prop) (Post : En → Prop)
    (step : ∀ m Γ, I m Γ → (∃ Γ1, p Γ = .ok false Γ1 ∧ Post Γ1) ∨ ∃ Γ1 Γ2 m', p Γ = .ok true Γ1 ∧ s Γ1 = .ok .nx Γ2 ∧ m' < m ∧ I m' Γ2) : ∀ (n m : Nat) (Γ : En), m < n → I m Γ → ∃ Γ', whileM p s n Γ = .ok .nx Γ' ∧ Post Γ' := by
  intro n
  induction n with
  | zero => intro m Γ h; omega
  | succ n ih =>
    intro m Γ h hi
    rcases step m Γ hi with ⟨Γ1, h1, h2⟩ | ⟨Γ1, Γ2, m', h1, h2, h3, h4⟩
    · exact ⟨Γ1, by rw [r_while, h1], h2⟩
    · obtain ⟨Γ', h5, h6⟩ := ih m' Γ2 (by omega) h4
      exact ⟨Γ', by rw [r_while, h1]; simp only [h2]; exact h5, h6⟩
end Dv
end

section
set_option Elab.async false
set_option linter.all false
set_option maxRecDepth 100000
set_option maxHeartbeats 5000000
/-! how comprehensions run -/
namespace Dv
open PySem L2 Ex
section
variable {Γ Γ' : En} {f g k l : M RV} {fs : M (List RV)} {p q : M Bool} {d : D} {i j : Nat} {m : D → M Unit} {fr : List Nat} {own : Nat}
@[simp] theorem r_comp {items : M (List D)} : compM items fr own m p f Γ = M.bind items (fun ds => if ds.length < sizeLine then M.bind (lcM fr own m p f ds) fun ys => M.pure (.new (.lst ys)) else M.st) Γ := (rfl)
@[simp] theorem r_elt : eltM m p f d Γ = M.bind (noX (m d)) (fun _ => M.bind p fun b => if b then M.bind f fun rv => M.bind (mat rv) fun y => M.pure (some y) else M.pure none) Γ := (rfl)
@[simp] theorem r_par : parM i j fs Γ = M.bind fs (fun rvs => M.bind (matAll rvs) fun ds => match ds with
  | [d, e] => M.bind (setS i (.frz, d)) fun _ => M.bind (setS j (.frz, e)) fun _ => M.pure .nx
  | _ => M.st) Γ := (rfl)
@[simp] theorem r_op4 {o o' o'' : D → D → Option RV} : op4 o o' o'' f g k l Γ = M.bind f (fun x => M.bind g fun y => M.bind (peek x) fun d => M.bind (peek y) fun e => M.bind (M.bind (M.ofO (o d e)) asB) fun q =>
  if q then M.bind k fun z => M.bind (peek y) fun e' => M.bind (peek z) fun u => M.bind (M.bind (M.ofO (o' e' u)) asB) fun q' =>
    if q' then M.bind l fun v => M.bind (peek z) fun u' => M.bind (peek v) fun t => M.bind (M.ofO (o'' u' t)) asB else M.pure false
  else M.pure false) Γ := (rfl)
theorem lc_eq (F : D → Option D) : ∀ (ds : List D), (∀ d ∈ ds, ∃ Γb, eltM m p f d (blkG fr own Γ) = .ok (F d) Γb ∧ unblk fr own Γ Γb = Γ) → lcM fr own m p f ds Γ = .ok (ds.filterMap F) Γ
  | [], _ => rfl
  | d :: r, h => by
    obtain ⟨Γb, h1, h2⟩ := h d (List.mem_cons_self ..)
    have ih := lc_eq F r fun d hd => h d (List.mem_cons_of_mem _ hd)
    unfold lcM
    rw [h1]
    simp only [h2, ih]
    cases e : F d <;> simp [List.filterMap_cons, e]
theorem lc_map (F : D → D) {ds : List D} (h : ∀ d ∈ ds, ∃ Γb, eltM m p f d (blkG fr own Γ) = .ok (some (F d)) Γb ∧ unblk fr own Γ Γb = Γ) : lcM fr own m p f ds Γ = .ok (ds.map F) Γ := by
  rw [lc_eq (fun d => some (F d)) ds h]
  exact congrArg (fun z => Res.ok z Γ) (by induction ds with
    | nil => rfl
    | cons a r ih => rw [List.filterMap_cons, List.map_cons, ih fun d hd => h d (List.mem_cons_of_mem _ hd)])
end
end Dv
end

section
set_option Elab.async false
set_option linter.all false
set_option maxRecDepth 100000
set_option maxHeartbeats 1000000
/-! trees -/
namespace Tr
open PySem L2 Ex Dv
inductive T where
  | nil | node (k : Int) (l r : T)
  deriving DecidableEq
def T.d : T → D
  | .nil => .non
  | .node k l r => .tup [.int k, l.d, r.d]
def T.ht : T → Nat
  | .nil => 0
  | .node _ l r => max l.ht r.ht + 1
def T.size : T → Nat
  | .nil => 0
  | .node _ l r => l.size + r.size + 1
def T.ino : T → List Int
  | .nil => []
  | .node k l r => l.ino ++ k :: r.ino
def T.pre : T → List Int
  | .nil => []
  | .node k l r => k :: (l.pre ++ r.pre)
abbrev ofI (ns : List Int) : D := .lst (ns.map D.int)
abbrev ofT (ts : List T) : D := .lst (ts.map T.d)
theorem line : 20000 ≤ sizeLine := by decide
theorem ino_len : ∀ t : T, t.ino.length = t.size
  | .nil => rfl
  | .node k l r => by simp [T.ino, T.size, ino_len l, ino_len r]; omega
theorem ht_size : ∀ t : T, t.ht ≤ t.size
  | .nil => Nat.le_refl _
  | .node k l r => by have := ht_size l; have := ht_size r; simp [T.ht, T.size]; omega
/-- keys from 0 to 30, in order, between two bounds -/
def T.B : Int → Int → T → Prop
  | _, _, .nil => True
  | lo, hi, .node k l r => (0 ≤ k ∧ k ≤ 30) ∧ (lo < k ∧ k < hi) ∧ T.B lo k l ∧ T.B k hi r
/-- a rising list between two bounds -/
def Up : Int → Int → List Int → Prop
  | _, _, [] => True
  | lo, hi, k :: r => lo < k ∧ k < hi ∧ Up k hi r
theorem Up.lt {lo hi : Int} : ∀ {ns : List Int}, Up lo hi ns → ∀ k ∈ ns, lo < k ∧ k < hi
  | [], _, k, h => nomatch h
  | n :: r, ⟨h1, h2, h3⟩, k, hk => by
    rcases List.mem_cons.mp hk with rfl | hk
    · exact ⟨h1, h2⟩
    · have := Up.lt h3 k hk; omega
theorem Up.weak {lo lo' hi hi' : Int} (h1 : lo' ≤ lo) (h2 : hi ≤ hi') : ∀ {ns : List Int}, Up lo hi ns → Up lo' hi' ns
  | [], _ => trivial
  | n :: r, ⟨a, b, c⟩ => ⟨by omega, by omega, Up.weak (Int.le_refl n) h2 c⟩
theorem up_app {lo hi k : Int} : ∀ {ns ms : List Int}, Up lo hi (ns ++ k :: ms) ↔ Up lo k ns ∧ lo < k ∧ k < hi ∧ Up k hi ms
  | [], ms => by simp [Up]
  | n :: r, ms => by
    simp only [List.cons_append, Up]
    rw [up_app (lo := n)]
    constructor
    · rintro ⟨a, b, c, d, e, f⟩; exact ⟨⟨a, d, c⟩, by omega, e, f⟩
    · rintro ⟨⟨a, d, c⟩, _, e, f⟩; exact ⟨a, by omega, c, d, e, f⟩
theorem B_iff : ∀ (t : T) (lo hi : Int), t.B lo hi ↔ Up lo hi t.ino ∧ ∀ k ∈ t.ino, 0 ≤ k ∧ k ≤ 30
  | .nil, _, _ => by simp [T.B, Up, T.ino]
  | .node k l r, lo, hi => by
    simp only [T.B, T.ino, up_app, B_iff l, B_iff r]
    constructor
    · rintro ⟨a, ⟨b, c⟩, ⟨d, e⟩, f, g⟩
      refine ⟨⟨d, b, c, f⟩, fun x hx => ?_⟩
      rcases List.mem_append.1 hx with hx | hx
      · exact e x hx
      · rcases List.mem_cons.mp hx with rfl | hx
        · exact a
        · exact g x hx
    · rintro ⟨⟨d, b, c, f⟩, h⟩
      exact ⟨h k (by simp), ⟨b, c⟩, ⟨d, fun x hx => h x (by simp [hx])⟩, f, fun x hx => h x (by simp [hx])⟩
theorem Up.len {lo hi : Int} : ∀ {ns : List Int}, Up lo hi ns → lo < hi → (ns.length : Int) < hi - lo
  | [], _, h => by simp; omega
  | n :: r, ⟨a, b, c⟩, _ => by have := Up.len c b; simp; omega
theorem B_size {t : T} (h : t.B (-1) 31) : t.size ≤ 31 := by
  have := Up.len ((B_iff t _ _).mp h).1 (by omega)
  rw [ino_len] at this; omega
theorem Up.nodup {lo hi : Int} : ∀ {ns : List Int}, Up lo hi ns → ns.Nodup
  | [], _ => List.nodup_nil
  | n :: r, ⟨a, b, c⟩ => List.nodup_cons.mpr ⟨fun z => by have := Up.lt c n z; omega, Up.nodup c⟩
theorem Up.pw {lo hi : Int} : ∀ {ns : List Int}, Up lo hi ns → ns.Pairwise (· < ·)
  | [], _ => .nil
  | n :: r, ⟨a, b, c⟩ => List.pairwise_cons.mpr ⟨fun k hk => (Up.lt c k hk).1, Up.pw c⟩
theorem up_of_pw {lo hi : Int} : ∀ {ns : List Int}, ns.Pairwise (· < ·) → (∀ k ∈ ns, lo < k ∧ k < hi) → Up lo hi ns
  | [], _, _ => trivial
  | n :: r, h, hb => by
    obtain ⟨h1, h2⟩ := List.pairwise_cons.1 h
    exact ⟨(hb n (by simp)).1, (hb n (by simp)).2, up_of_pw h2 fun k hk => ⟨h1 k hk, (hb k (by simp [hk])).2⟩⟩
/-! as data -/
theorem d_lay : ∀ t : T, t.d.py.canLay0 = true
  | .nil => rfl
  | .node k l r => by simp [T.d, D.py, D.pys, PyData.canLay0, PyData.canLayAll0, d_lay l, d_lay r]
theorem d_depth : ∀ t : T, t.d.py.depth = t.ht
  | .nil => rfl
  | .node k l r => by simp [T.d, D.py, D.pys, PyData.depth, PyData.depthAll, d_depth l, d_depth r, T.ht]
theorem d_bulk : ∀ t : T, t.d.py.bulk = 3 * t.size
  | .nil => rfl
  | .node k l r => by simp [T.d, D.py, D.pys, PyData.bulk, PyData.bulkAll, d_bulk l, d_bulk r, T.size]; omega
theorem int_show : ∀ r : Nat, r < 31 → ((PyData.int r).showable && (PyData.int r).leavesShort 30) = true := by decide +kernel
theorem int_show' {k : Int} (h : 0 ≤ k ∧ k ≤ 30) : (PyData.int k).showable = true ∧ (PyData.int k).leavesShort 30 = true := by
  have := int_show k.toNat (by omega)
  rw [Int.toNat_of_nonneg h.1, Bool.and_eq_true] at this
  exact this
theorem d_show : ∀ t : T, (∀ k ∈ t.ino, 0 ≤ k ∧ k ≤ 30) → t.d.py.showable = true ∧ t.d.py.leavesShort 30 = true
  | .nil, _ => ⟨rfl, by decide +kernel⟩
  | .node k l r, h => by
    obtain ⟨a, b⟩ := d_show l fun x hx => h x (by simp [T.ino, hx])
    obtain ⟨a', b'⟩ := d_show r fun x hx => h x (by simp [T.ino, hx])
    obtain ⟨c, c'⟩ := int_show' (h k (by simp [T.ino]))
    exact ⟨by simp [T.d, D.py, D.pys, PyData.showable, PyData.showableAll, a, a'] ; simpa [PyData.showable] using c, by simp [T.d, D.py, D.pys, PyData.leavesShort, PyData.leavesShortAll, b, b']; simpa [PyData.leavesShort] using c'⟩
theorem pys_map {α : Type} (f : α → D) : ∀ xs : List α, D.pys (xs.map f) = xs.map fun x => (f x).py
  | [] => rfl
  | x :: r => by simp [D.pys, pys_map f r]
theorem lay_all {ds : List PyData} (h : ∀ d ∈ ds, d.canLay0 = true) : PyData.canLayAll0 ds = true := by
  induction ds with
  | nil => rfl
  | cons d r ih => simp [PyData.canLayAll0, h d (by simp), ih fun x hx => h x (by simp [hx])]
theorem depth_all {ds : List PyData} {n : Nat} (h : ∀ d ∈ ds, d.depth ≤ n) : PyData.depthAll ds ≤ n := by
  induction ds with
  | nil => simp [PyData.depthAll]
  | cons d r ih => have := h d (by simp); have := ih fun x hx => h x (by simp [hx]); simp [PyData.depthAll]; omega
theorem eqOk_t {t : T} (h : t.ht ≤ 60) : eqOk t.d = true := by
  unfold eqOk SeqAt.shaped
  rw [d_lay, d_depth, decide_eq_true (by omega)]; rfl
theorem eqOk_ts {ts : List T} (h : ∀ t ∈ ts, t.ht ≤ 60) : eqOk (ofT ts) = true := by
  unfold eqOk SeqAt.shaped
  have e : (ofT ts).py = .list (ts.map fun t => t.d.py) := by show PyData.list (D.pys (ts.map T.d)) = _; rw [pys_map]
  rw [e]
  have h1 : PyData.canLayAll0 (ts.map fun t => t.d.py) = true := lay_all fun d hd => by obtain ⟨t, _, rfl⟩ := List.mem_map.mp hd; exact d_lay t
  have h2 : PyData.depthAll (ts.map fun t => t.d.py) ≤ 60 := depth_all fun d hd => by obtain ⟨t, ht, rfl⟩ := List.mem_map.mp hd; rw [d_depth]; exact h t ht
  simp [PyData.canLay0, PyData.depth, h1]; omega
theorem eqOk_is (ns : List Int) : eqOk (ofI ns) = true := by
  unfold eqOk SeqAt.shaped
  have e : (ofI ns).py = .list (ns.map fun t => .int t) := by show PyData.list (D.pys (ns.map D.int)) = _; rw [pys_map]; rfl
  rw [e]
  have h1 : PyData.canLayAll0 (ns.map fun t => .int t) = true := lay_all fun d hd => by obtain ⟨t, _, rfl⟩ := List.mem_map.mp hd; rfl
  have h2 : PyData.depthAll (ns.map fun t => .int t) ≤ 60 := depth_all fun d hd => by obtain ⟨t, ht, rfl⟩ := List.mem_map.mp hd; simp [PyData.depth]
  simp [PyData.canLay0, PyData.depth, h1]; omega
theorem eqB_self {d : D} (h : eqOk d = true) : eqB d d = true := SeqAt.eqv_refl _ (SeqAt.canLay_of_shaped h)
theorem eq2_of {d e : D} (h : ∀ x, d ≠ .str x) : eqO2 d e = eqO d e := by
  unfold eqO2
  split
  · exact absurd rfl (h _)
  · rfl
theorem ne2_of {d e : D} (h : ∀ x, d ≠ .str x) : neO2 d e = neO d e := by
  unfold neO2
  split
  · exact absurd rfl (h _)
  · rfl
theorem eqO_self {d : D} (h : eqOk d = true) : eqO2 d d = some (.val (.bl true)) := by
  unfold eqO2
  split
  · simp
  · unfold eqO; rw [h, eqB_self h]; rfl
theorem neO_self {d : D} (h : eqOk d = true) : neO2 d d = some (.val (.bl false)) := by
  unfold neO2
  split
  · simp
  · unfold neO; rw [h, eqB_self h]; rfl
theorem neO_str (x : Str) : neO2 (.str x) (.str x) = some (.val (.bl false)) := by
  show some (RV.val (.bl (!decide (x = x)))) = _
  simp
theorem eqB_nil (ds : List D) : eqB (.lst ds) (.lst []) = ds.isEmpty := by
  cases ds with
  | nil => rfl
  | cons d r => simp [eqB, D.py, D.pys, PyData.eqv, PyData.eqvAll]
theorem rpr_two {a b : T} (ha : a.B (-1) 31) (hb : b.B (-1) 31) : rprOk (.lst [a.d, b.d]) = true := by
  have s1 := B_size ha
  have s2 := B_size hb
  have t1 := ht_size a
  have t2 := ht_size b
  obtain ⟨a1, a2⟩ := d_show a ((B_iff a _ _).mp ha).2
  obtain ⟨b1, b2⟩ := d_show b ((B_iff b _ _).mp hb).2
  have lay : (D.lst [a.d, b.d]).py.canLay0 = true := by simp [D.py, D.pys, PyData.canLay0, PyData.canLayAll0, d_lay]
  have sh := PyData.shown_le_bulk 30 (by decide) (D.lst [a.d, b.d]).py (by simp [D.py, D.pys, PyData.leavesShort, PyData.leavesShortAll, a2, b2])
  have bk : (D.lst [a.d, b.d]).py.bulk ≤ 200 := by simp [D.py, D.pys, PyData.bulk, PyData.bulkAll, d_bulk]; omega
  have dp : (D.lst [a.d, b.d]).py.depth ≤ 50 := by simp [D.py, D.pys, PyData.depth, PyData.depthAll, d_depth]; omega
  have := line
  unfold rprOk
  rw [lay, PyData.hasDict_of_canLay _ lay, decide_eq_true dp, decide_eq_true (by omega)]
  simp [D.py, D.pys, PyData.showable, PyData.showableAll, a1, b1]
theorem imm_t : ∀ t : T, immD t.d = true
  | .nil => rfl
  | .node k l r => by simp [T.d, immD, immDs, imm_t l, imm_t r]
theorem imm_ts (ts : List T) : immDs (ts.map T.d) = true := by
  induction ts with
  | nil => rfl
  | cons t r ih => simp [immDs, imm_t, ih]
theorem imm_is (ns : List Int) : immDs (ns.map D.int) = true := by
  induction ns with
  | nil => rfl
  | cons t r ih => simp [immDs, immD, ih]
@[simp] theorem immR_t {t : T} : immR (.val t.d) = true := imm_t t
@[simp] theorem immR_ts {ts : List T} : immR (.new (ofT ts)) = true := imm_ts ts
@[simp] theorem immR_is {ns : List Int} : immR (.new (ofI ns)) = true := imm_is ns
@[simp] theorem immR_int {n : Int} : immR (.val (.int n)) = true := rfl
@[simp] theorem immR_bl {n : Bool} : immR (.val (.bl n)) = true := rfl
@[simp] theorem immR_non : immR (.val .non) = true := rfl
end Tr
end

section
set_option Elab.async false
set_option linter.all false
set_option maxRecDepth 100000
set_option maxHeartbeats 1000000
namespace K40
open PySem L2 Ex Dv Tr
/-- asks that are such -/
structure Asks (as : List Int) : Prop where
  one : 1 ≤ as.length
  most : as.length ≤ 31
  key : ∀ a ∈ as, 0 ≤ a ∧ a ≤ 30
def keyB : D → Bool
  | .int i => decide (0 ≤ i) && decide (i ≤ 30)
  | _ => false
/-- no script, no object -/
def plD : D → Bool
  | .scr _ => false
  | .ins _ _ _ => false
  | _ => true
theorem is_key_eq (d : D) (h : plD d = true) : G_is_key [d] = some (.val (.bl (keyB d))) := by
  cases d with
  | scr _ => cases h
  | ins _ _ _ => cases h
  | int i => by_cases h : 0 ≤ i <;> by_cases h' : i ≤ 30 <;> simp [G_is_key, bm_is_key, runP, finR, gam, isTy, keyB, h, h']
  | _ => simp [G_is_key, bm_is_key, runP, finR, gam, isTy, keyB]
theorem num_at {ds : List D} {i : Nat} {x : D} (h : (numI ds)[i]? = some x) : ∃ d, ds[i]? = some d ∧ x = .tup [.int i, d] := by
  unfold numI at h
  rw [List.getElem?_map, List.getElem?_zipIdx] at h
  cases e : ds[i]? with
  | none => rw [e] at h; cases h
  | some d =>
    rw [e] at h
    cases h
    exact ⟨d, rfl, by simp⟩
theorem look_eq {as : List Int} (A : Asks as) : G_look_at_asks [ofI as] = some (.val .non) := by
  obtain ⟨Γ', hl, y1, y2, rfl⟩ := loop_inv (m := gT 2 (gsC (gN 1) (gsC (gN 2) gs0))) (s := ifM (ngM (M.bind (callP G_is_key (consM (vName 2) (M.pure []))) asB)) M.st (M.pure .nx))
    (fun _ Γ => ∃ y1 y2 : Sl, Γ = [some (.frz, ofI as), y1, y2]) (ds := numI (as.map D.int)) (Γ := [some (.frz, ofI as), none, none]) ⟨none, none, rfl⟩ (by
      rintro i d Γ hd ⟨y1, y2, rfl⟩
      obtain ⟨e, he, rfl⟩ := num_at hd
      rw [List.getElem?_map] at he
      cases q : as[i]? with
      | none => rw [q] at he; cases he
      | some a =>
        rw [q] at he
        cases he
        obtain ⟨k1, k2⟩ := A.key a (List.mem_of_getElem? q)
        refine ⟨[some (.frz, ofI as), some (.frz, .int i), some (.frz, .int a)], _, by simp, .inl ?_, some (.frz, .int i), some (.frz, .int a), rfl⟩
        simp [is_key_eq (.int a) rfl, keyB, k1, k2])
  have h1 : (1 : Int) ≤ as.length := by have := A.one; omega
  have h2 : (as.length : Int) ≤ 31 := by have := A.most; omega
  simp [G_look_at_asks, bm_look_at_asks, runP, finR, gam, isTy, h1, h2, hl]
end K40
end

section
set_option Elab.async false
set_option linter.all false
set_option maxRecDepth 100000
set_option maxHeartbeats 2000000
namespace K40
open PySem L2 Ex Dv Tr
theorem eqO_int (i j : Int) : eqO2 (.int i) (.int j) = some (.val (.bl (decide (i = j)))) := by
  have : eqB (.int i) (.int j) = decide (i = j) := by show (i == j) = _; by_cases h : i = j <;> simp [h]
  rw [eq2_of (fun _ => by simp)]
  unfold eqO
  rw [this]
  rfl
theorem neO_int (i j : Int) : neO2 (.int i) (.int j) = some (.val (.bl (!decide (i = j)))) := by
  have : eqB (.int i) (.int j) = decide (i = j) := by show (i == j) = _; by_cases h : i = j <;> simp [h]
  rw [ne2_of (fun _ => by simp)]
  unfold neO
  rw [this]
  rfl
theorem neO_bl (i j : Bool) : neO2 (.bl i) (.bl j) = some (.val (.bl (i != j))) := by
  cases i <;> cases j <;> first | exact neO_self (by decide) | (rw [ne2_of (fun _ => by simp)]; rfl)
/-- the key at a place -/
def gA (as : List Int) (i : Int) : Int := as.getD i.toNat 0
theorem at_as {as : List Int} {i : Int} (h : 0 ≤ i) (h' : i < as.length) : L2.atI (as.map D.int) i = some (.int (gA as i)) := by
  have e : as[i.toNat]? = some (gA as i) := by
    unfold gA
    rw [List.getD_eq_getElem?_getD, List.getElem?_eq_getElem (by omega)]
    rfl
  have q : (as.map D.int)[i.toNat]? = some (.int (gA as i)) := by rw [List.getElem?_map, e]; rfl
  have z := atI_nat q
  rwa [Int.toNat_of_nonneg h] at z
theorem gA_key {as : List Int} (A : Asks as) {i : Int} (h : 0 ≤ i) (h' : i < as.length) : 0 ≤ gA as i ∧ gA as i ≤ 30 := by
  apply A.key
  unfold gA
  rw [List.getD_eq_getElem?_getD, List.getElem?_eq_getElem (by omega)]
  exact List.getElem_mem _
def lo2 (a b : Int) : Int := if b < a then b else a
def hi2 (a b : Int) : Int := if b > a then b else a
theorem srt_two (a b : Int) : srt [a, b] = [lo2 a b, hi2 a b] := by
  refine srt_uniq ((srt_perm _).trans ?_) (srt_pw _) ?_
  · unfold lo2 hi2
    by_cases h : b < a
    · rw [if_pos h, if_neg (by omega)]; exact List.Perm.swap ..
    · by_cases h' : b > a
      · rw [if_neg h, if_pos h']
      · have : a = b := by omega
        subst this
        rw [if_neg h]
  · unfold lo2 hi2
    rw [List.pairwise_cons]
    refine ⟨fun x hx => ?_, List.pairwise_singleton _ _⟩
    rw [List.mem_singleton] at hx
    subst hx
    split <;> split <;> omega
theorem sorted_is {ns : List Int} (h : ns.length < 64) : sortedO [ofI ns] = some (.new (ofI (srt ns))) := by
  show (asIs (ns.map D.int)).bind _ = _
  rw [asIs_map]
  show (if ns.length < 64 then _ else _) = _
  rw [if_pos h]
theorem sides_eq {as : List Int} {i j : Int} (h : 0 ≤ i) (h' : i < as.length) (g : 0 ≤ j) (g' : j < as.length) : G_sides [ofI as, .int i, .int j] = some (.new (.lst [.int (lo2 (gA as i) (gA as j)), .int (hi2 (gA as i) (gA as j))])) := by
  have s := sorted_is (ns := [gA as i, gA as j]) (by simp)
  rw [srt_two] at s
  have ln := line
  have e : 2 ≤ sizeLine := by omega
  have s : sortedO [.lst [.int (gA as i), .int (gA as j)]] = some (.new (.lst [.int (lo2 (gA as i) (gA as j)), .int (hi2 (gA as i) (gA as j))])) := s
  simp [G_sides, bm_sides, runP, finR, gam, at_as h h', at_as g g', s, e]
theorem is_up_eq {as : List Int} {i j : Int} {c : D} (h : 0 ≤ i) (h' : i < as.length) (g : 0 ≤ j) (g' : j < as.length) : G_is_up [ofI as, .tup [.int i, .int j, c]] = some (.val (.bl (decide (gA as i < gA as j)))) := by
  have a0 : L2.atI [D.int i, D.int j, c] 0 = some (.int i) := rfl
  have a1 : L2.atI [D.int i, D.int j, c] 1 = some (.int j) := rfl
  simp [G_is_up, bm_is_up, runP, finR, gam, a0, a1, at_as h h', at_as g g']
def fenceB (as : List Int) : D → Bool
  | .tup [.int a, .int b, .int c] => decide (0 ≤ a) && decide (a < b) && decide (b < as.length) && decide (lo2 (gA as a) (gA as b) ≤ c) && decide (c < hi2 (gA as a) (gA as b))
  | _ => false
theorem all_bl (bs : List Bool) : allO [.lst (bs.map D.bl)] = some (.val (.bl (bs.all id))) := by
  show (asBs (bs.map D.bl)).map _ = _
  rw [asBs_map]
  rfl
theorem any_bl (bs : List Bool) : anyO [.lst (bs.map D.bl)] = some (.val (.bl (bs.any id))) := by
  show (asBs (bs.map D.bl)).map _ = _
  rw [asBs_map]
  rfl
theorem keys_all {ps : List D} (hp : ∀ p ∈ ps, plD p = true) {Γ : En} : lcM [] 1 (gN 0) (M.pure true) (callP G_is_key (consM (vName 0) (M.pure []))) ps Γ = .ok ((ps.map keyB).map D.bl) Γ := by
  rw [lc_map (fun d => .bl (keyB d)) (fun d hd => ⟨[some (.frz, d)], by simp [blkG, is_key_eq d (hp d hd)], rfl⟩)]
  simp
theorem three {ps : List D} (h : ps.length = 3) : ∃ x y z, ps = [x, y, z] := by
  match ps, h with
  | [x, y, z], _ => exact ⟨x, y, z, rfl⟩
/-- data that may be asked whether it is a fence -/
def flD : D → Bool
  | .non => true
  | .bl _ => true
  | .int _ => true
  | .str x => (PyData.str x).canLay0
  | _ => false
theorem fl_pl {d : D} (h : flD d = true) : plD d = true := by cases d <;> first | rfl | cases h
def okD (d : D) : Bool := plD d && match d with
  | .tup ps => ps.all flD && decide (ps.length ≤ 10)
  | _ => true
theorem lo_key {as : List Int} (A : Asks as) {i j : Int} (h : 0 ≤ i) (h' : i < as.length) (g : 0 ≤ j) (g' : j < as.length) : 0 ≤ lo2 (gA as i) (gA as j) ∧ hi2 (gA as i) (gA as j) ≤ 30 := by
  have := gA_key A h h'
  have := gA_key A g g'
  unfold lo2 hi2
  constructor <;> split <;> omega
theorem fence_key {as : List Int} (A : Asks as) {x y z : D} (h : fenceB as (.tup [x, y, z]) = true) : keyB x = true ∧ keyB y = true ∧ keyB z = true := by
  unfold fenceB at h
  split at h
  · rename_i a b c e
    cases e
    simp only [Bool.and_eq_true, decide_eq_true_eq] at h
    obtain ⟨⟨⟨⟨h1, h2⟩, h3⟩, h4⟩, h5⟩ := h
    have := A.most
    have := lo_key A h1 (by omega : a < as.length) (by omega : 0 ≤ b) h3
    simp [keyB]
    omega
  · cases h
theorem fence_len {as : List Int} {ps : List D} (h : ps.length ≠ 3) : fenceB as (.tup ps) = false := by
  unfold fenceB
  split
  · rename_i e
    cases e
    exact absurd rfl h
  · rfl
theorem is_fence_eq {as : List Int} (A : Asks as) (d : D) (hd : okD d = true) : G_is_fence [ofI as, d] = some (.val (.bl (fenceB as d))) := by
  have ln := line
  cases d with
  | scr _ => cases hd
  | ins _ _ _ => cases hd
  | tup ps =>
    have hd : (ps.all flD && decide (ps.length ≤ 10)) = true := hd
    rw [Bool.and_eq_true, List.all_eq_true, decide_eq_true_eq] at hd
    obtain ⟨hp, hl⟩ := hd
    have hp := fun p h => fl_pl (hp p h)
    have sz : ps.length < sizeLine := by omega
    have hk := fun Γ => keys_all hp (Γ := Γ)
    by_cases h3 : ps.length = 3
    · obtain ⟨x, y, z, rfl⟩ := three h3
      have e3 : neO2 (.int 3) (.int 3) = some (.val (.bl false)) := neO_int 3 3
      have s3 : 3 < sizeLine := by omega
      have s2 : 2 + 1 < sizeLine := by omega
      have al := all_bl [keyB x, keyB y, keyB z]
      have hk' : ∀ Γ, lcM [] 1 (gN 0) (M.pure true) (callP G_is_key (consM (vName 0) (M.pure []))) [x, y, z] Γ = .ok [.bl (keyB x), .bl (keyB y), .bl (keyB z)] Γ := hk
      have al : allO [.lst [.bl (keyB x), .bl (keyB y), .bl (keyB z)]] = some (.val (.bl (keyB x && (keyB y && (keyB z && true))))) := al
      by_cases hh : (keyB x && (keyB y && (keyB z && true))) = true
      · rw [hh] at al
        simp only [Bool.and_eq_true, and_true] at hh
        obtain ⟨hx, hy, hz⟩ := hh
        obtain ⟨a, rfl⟩ : ∃ a, x = .int a := by cases x <;> first | exact ⟨_, rfl⟩ | cases hx
        obtain ⟨b, rfl⟩ : ∃ a, y = .int a := by cases y <;> first | exact ⟨_, rfl⟩ | cases hy
        obtain ⟨c, rfl⟩ : ∃ a, z = .int a := by cases z <;> first | exact ⟨_, rfl⟩ | cases hz
        simp [keyB] at hx hy hz
        by_cases h1 : a < b
        · by_cases h2 : b < as.length
          · have sd := sides_eq (as := as) hx.1 (by omega : a < as.length) hy.1 h2
            by_cases h4 : lo2 (gA as a) (gA as b) ≤ c <;> by_cases h5 : c < hi2 (gA as a) (gA as b) <;>
              simp [G_is_fence, bm_is_fence, runP, finR, gam, isTy, fenceB, e3, hk', al, s3, h1, h2, hx.1, sd, h4, h5]
          · simp [G_is_fence, bm_is_fence, runP, finR, gam, isTy, fenceB, e3, hk', al, s3, h1, h2]
        · simp [G_is_fence, bm_is_fence, runP, finR, gam, isTy, fenceB, e3, hk', al, s3, h1]
      · have nf : fenceB as (.tup [x, y, z]) = false := by
          cases q : fenceB as (.tup [x, y, z]) with
          | false => rfl
          | true => obtain ⟨q1, q2, q3⟩ := fence_key A q; exact absurd (by rw [q1, q2, q3]; rfl) hh
        rw [Bool.not_eq_true] at hh
        rw [hh] at al
        simp [G_is_fence, bm_is_fence, runP, finR, gam, isTy, nf, e3, hk', al, s3]
    · have n3 : ¬ ((ps.length : Int) = 3) := by omega
      simp [G_is_fence, bm_is_fence, runP, finR, gam, isTy, fence_len h3, neO_int, n3]
  | _ => simp [G_is_fence, bm_is_fence, runP, finR, gam, isTy, fenceB]
end K40
end

section
set_option Elab.async false
set_option linter.all false
set_option maxRecDepth 100000
set_option maxHeartbeats 2000000
namespace K40
open PySem L2 Ex Dv Tr
def intB : D → Bool
  | .int _ => true
  | _ => false
theorem pys_all : ∀ (ds : List D), D.pys ds = ds.map D.py
  | [] => rfl
  | d :: r => by show D.py d :: D.pys r = _; rw [pys_all r]; rfl
theorem eqOk_fl {ds : List D} (h : ∀ d ∈ ds, flD d = true) : eqOk (.lst ds) = true := by
  unfold eqOk SeqAt.shaped
  have e : (D.lst ds).py = .list (ds.map D.py) := by show PyData.list (D.pys ds) = _; rw [pys_all]
  rw [e]
  have h1 : PyData.canLayAll0 (ds.map D.py) = true := lay_all fun d hd => by
    obtain ⟨t, ht, rfl⟩ := List.mem_map.mp hd
    have := h t ht
    cases t <;> first | rfl | exact this | cases this
  have h2 : PyData.depthAll (ds.map D.py) ≤ 60 := depth_all fun d hd => by
    obtain ⟨t, ht, rfl⟩ := List.mem_map.mp hd
    have := h t ht
    cases t <;> first | (simp [D.py, PyData.depth]; done) | cases this
  simp [PyData.canLay0, PyData.depth, h1]; omega
theorem ne_nil {ds : List D} (h : eqOk (.lst ds) = true) : neO2 (.lst ds) (.lst []) = some (.val (.bl (!ds.isEmpty))) := by
  rw [ne2_of (fun _ => by simp)]
  unfold neO
  rw [h, eqB_nil]
  rfl
def notInt (d : D) : Option D := if intB d then none else some d
theorem parts_lc {ps : List D} (hp : ∀ p ∈ ps, flD p = true) {Γ : En} : lcM [] 1 (gN 0) (orM (ngM (M.bind (isiM .int (vName 0)) asB)) (M.bind (isiM .bool (vName 0)) asB)) (vName 0) ps Γ = .ok (ps.filterMap notInt) Γ := by
  refine lc_eq notInt ps fun d hd => ⟨[some (.frz, d)], ?_, rfl⟩
  have := hp d hd
  cases d <;> first | (simp [blkG, isTy, notInt, intB]; done) | cases this
theorem notInt_fl {ps : List D} (hp : ∀ p ∈ ps, flD p = true) : ∀ d ∈ ps.filterMap notInt, flD d = true := by
  intro d hd
  obtain ⟨x, hx, e⟩ := List.mem_filterMap.mp hd
  unfold notInt at e
  split at e
  · cases e
  · cases e; exact hp _ hx
theorem fence_int {as : List Int} {x y z : D} (h : fenceB as (.tup [x, y, z]) = true) : intB x = true ∧ intB y = true ∧ intB z = true := by
  unfold fenceB at h
  split at h
  · rename_i a b c e
    cases e
    exact ⟨rfl, rfl, rfl⟩
  · cases h
theorem lfence_eq {as : List Int} (A : Asks as) (d : D) (hd : okD d = true) : G__law_is_fence [ofI as, d] = some (.val (.bl (fenceB as d))) := by
  have ln := line
  have s0 : 0 ≤ sizeLine := by omega
  cases d with
  | scr _ => cases hd
  | ins _ _ _ => cases hd
  | tup ps =>
    have hd : (ps.all flD && decide (ps.length ≤ 10)) = true := hd
    rw [Bool.and_eq_true, List.all_eq_true, decide_eq_true_eq] at hd
    obtain ⟨hp, hl⟩ := hd
    by_cases h3 : ps.length = 3
    · have nn := ne_nil (eqOk_fl (notInt_fl hp))
      have hk := fun Γ => parts_lc hp (Γ := Γ)
      obtain ⟨x, y, z, rfl⟩ := three h3
      have e3 : neO2 (.int 3) (.int 3) = some (.val (.bl false)) := neO_int 3 3
      have s3 : 3 < sizeLine := by omega
      by_cases hh : intB x = true ∧ intB y = true ∧ intB z = true
      · obtain ⟨hx, hy, hz⟩ := hh
        obtain ⟨a, rfl⟩ : ∃ a, x = .int a := by cases x <;> first | exact ⟨_, rfl⟩ | cases hx
        obtain ⟨b, rfl⟩ : ∃ a, y = .int a := by cases y <;> first | exact ⟨_, rfl⟩ | cases hy
        obtain ⟨c, rfl⟩ : ∃ a, z = .int a := by cases z <;> first | exact ⟨_, rfl⟩ | cases hz
        have ef : [D.int a, D.int b, D.int c].filterMap notInt = [] := rfl
        rw [ef] at nn
        simp only [ef] at hk
        have nn : neO2 (.lst []) (.lst []) = some (.val (.bl false)) := nn
        by_cases h0 : 0 ≤ a
        · by_cases h1 : a < b
          · by_cases h2 : b < as.length
            · have a1 := at_as (as := as) h0 (by omega : a < as.length)
              have a2 := at_as (as := as) (by omega : 0 ≤ b) h2
              by_cases h4 : lo2 (gA as a) (gA as b) ≤ c <;> by_cases h5 : c < hi2 (gA as a) (gA as b) <;>
                (have h4' := h4; have h5' := h5; unfold lo2 at h4'; unfold hi2 at h5'
                 simp [G__law_is_fence, bm__law_is_fence, runP, finR, gam, isTy, fenceB, e3, hk, nn, s0, s3, h0, h1, h2, a1, a2, h4, h5, h4', h5'])
            · simp [G__law_is_fence, bm__law_is_fence, runP, finR, gam, isTy, fenceB, e3, hk, nn, s0, s3, h0, h1, h2]
          · simp [G__law_is_fence, bm__law_is_fence, runP, finR, gam, isTy, fenceB, e3, hk, nn, s0, s3, h0, h1]
        · simp [G__law_is_fence, bm__law_is_fence, runP, finR, gam, isTy, fenceB, e3, hk, nn, s0, s3, h0]
      · have nf : fenceB as (.tup [x, y, z]) = false := by
          cases q : fenceB as (.tup [x, y, z]) with
          | false => rfl
          | true => exact absurd (fence_int q) hh
        have ne : ([x, y, z].filterMap notInt).isEmpty = false := by
          cases q : [x, y, z].filterMap notInt with
          | cons _ _ => rfl
          | nil =>
            refine absurd ?_ hh
            have := List.filterMap_eq_nil_iff.mp q
            have f : ∀ d, notInt d = none → intB d = true := fun d h => by unfold notInt at h; split at h; assumption; cases h
            exact ⟨f _ (this x (by simp)), f _ (this y (by simp)), f _ (this z (by simp))⟩
        rw [ne] at nn
        simp [G__law_is_fence, bm__law_is_fence, runP, finR, gam, isTy, nf, e3, hk, nn, s0, s3]
    · have n3 : ¬ ((ps.length : Int) = 3) := by omega
      simp [G__law_is_fence, bm__law_is_fence, runP, finR, gam, isTy, fence_len h3, neO_int, n3]
  | _ => simp [G__law_is_fence, bm__law_is_fence, runP, finR, gam, isTy, fenceB]
end K40
end

section
set_option Elab.async false
set_option linter.all false
set_option maxRecDepth 100000
set_option maxHeartbeats 4000000
namespace K40
open PySem L2 Ex Dv Tr
abbrev F3 (a b c : Int) : D := .tup [.int a, .int b, .int c]
/-- places of a fence -/
structure Pl (as : List Int) (a b : Int) : Prop where
  h0 : 0 ≤ a
  h1 : a < b
  h2 : b < as.length
theorem Pl.of {as : List Int} {a b c : Int} (h : fenceB as (F3 a b c) = true) : Pl as a b := by
  simp only [fenceB, Bool.and_eq_true, decide_eq_true_eq] at h
  exact ⟨h.1.1.1.1, h.1.1.1.2, h.1.1.2⟩
def hindB (as : List Int) (a b c a' b' : Int) : Bool :=
  (decide (gA as a < gA as b) == decide (gA as a' < gA as b')) && !(decide (b < a') || decide (b' < a)) && decide (lo2 (gA as a') (gA as b') ≤ c) && decide (c < hi2 (gA as a') (gA as b'))
theorem hinder_eq {as : List Int} {a b c a' b' c' : Int} (p : Pl as a b) (q : Pl as a' b') : G_hinder [ofI as, F3 a b c, F3 a' b' c'] = some (.val (.bl (hindB as a b c a' b'))) := by
  obtain ⟨p0, p1, p2⟩ := p
  obtain ⟨q0, q1, q2⟩ := q
  have u1 := is_up_eq (as := as) (c := .int c) p0 (by omega : a < as.length) (by omega : 0 ≤ b) p2
  have u2 := is_up_eq (as := as) (c := .int c') q0 (by omega : a' < as.length) (by omega : 0 ≤ b') q2
  have sd := sides_eq (as := as) q0 (by omega : a' < as.length) (by omega : 0 ≤ b') q2
  have x1 : L2.atI [D.int a, D.int b, D.int c] 1 = some (.int b) := rfl
  have x0 : L2.atI [D.int a, D.int b, D.int c] 0 = some (.int a) := rfl
  have x2 : L2.atI [D.int a, D.int b, D.int c] 2 = some (.int c) := rfl
  have y1 : L2.atI [D.int a', D.int b', D.int c'] 1 = some (.int b') := rfl
  have y0 : L2.atI [D.int a', D.int b', D.int c'] 0 = some (.int a') := rfl
  generalize hg : decide (gA as a < gA as b) = g1 at u1
  generalize hg' : decide (gA as a' < gA as b') = g2 at u2
  have nb := neO_bl g1 g2
  by_cases e : g1 = g2
  · subst e
    have e0 : (g1 != g1) = false := by cases g1 <;> rfl
    rw [e0] at nb
    by_cases h1 : b < a'
    · simp [G_hinder, bm_hinder, runP, finR, gam, u1, u2, sd, x0, x1, x2, y0, y1, nb, h1, hindB, hg, hg']
    · by_cases h2 : b' < a
      · simp [G_hinder, bm_hinder, runP, finR, gam, u1, u2, sd, x0, x1, x2, y0, y1, nb, h1, h2, hindB, hg, hg']
      · by_cases h4 : lo2 (gA as a') (gA as b') ≤ c <;> by_cases h5 : c < hi2 (gA as a') (gA as b') <;>
          simp [G_hinder, bm_hinder, runP, finR, gam, u1, u2, sd, x0, x1, x2, y0, y1, nb, h1, h2, h4, h5, hindB, hg, hg']
  · have e0 : (g1 != g2) = true := by revert e; cases g1 <;> cases g2 <;> simp
    rw [e0] at nb
    simp [G_hinder, bm_hinder, runP, finR, gam, u1, u2, sd, x0, x1, x2, y0, y1, nb, hindB, hg, hg', e]
theorem min_two (x y : Int) : minIO [.lst [.int x, .int y]] = some (.val (.int (lo2 x y))) := by
  show some (RV.val (.int (minI [x, y]))) = _
  unfold lo2
  by_cases h : y < x <;> simp [minI, h] <;> omega
theorem max_two (x y : Int) : maxIO [.lst [.int x, .int y]] = some (.val (.int (hi2 x y))) := by
  show some (RV.val (.int (maxI [x, y]))) = _
  unfold hi2
  by_cases h : y > x <;> simp [maxI, h] <;> omega
def inR (a' b' : Int) : D → Option D
  | .int m => if a' ≤ m ∧ m ≤ b' then some (.int m) else none
  | _ => none
theorem both_lc {a' b' c' : Int} {Γ : En} (h : Γ[2]? = some (some (.frz, F3 a' b' c'))) : ∀ (lo : Int) (n : Nat),
    lcM [2] 1 (gN 0) (M.bind (op3 leO leO (op2 idxO (vName 1) (M.pure (.val (.int 0)))) (vName 0) (op2 idxO (vName 1) (M.pure (.val (.int 1))))) asB) (vName 0) (upI lo n) Γ = .ok ((upI lo n).filterMap (inR a' b')) Γ := by
  intro lo n
  refine lc_eq (inR a' b') (upI lo n) fun d hd => ?_
  obtain ⟨i, _, rfl⟩ := List.mem_map.mp hd
  generalize lo + (i : Int) = m
  have y1 : L2.atI [D.int a', D.int b', D.int c'] 1 = some (.int b') := rfl
  have y0 : L2.atI [D.int a', D.int b', D.int c'] 0 = some (.int a') := rfl
  have eb : blkG [2] 1 Γ = [none, some (.frz, F3 a' b' c')] := by simp [blkG, h]
  refine ⟨[some (.frz, .int m), some (.frz, F3 a' b' c')], ?_, ?_⟩
  · rw [eb]
    by_cases h1 : a' ≤ m <;> by_cases h2 : m ≤ b' <;> simp [y0, y1, h1, h2, inR]
  · show Γ.set 2 (some (.frz, F3 a' b' c')) = Γ
    obtain ⟨hl, he⟩ := List.getElem?_eq_some_iff.mp h
    rw [← he, List.set_getElem_self]
theorem both_empty {a b a' b' : Int} (h : a < b) (h' : a' < b') : ((upI a (b + 1 - a).toNat).filterMap (inR a' b')).isEmpty = (decide (b < a') || decide (b' < a)) := by
  by_cases q : b < a' ∨ b' < a
  · have e : (upI a (b + 1 - a).toNat).filterMap (inR a' b') = [] := by
      refine List.filterMap_eq_nil_iff.mpr fun d hd => ?_
      obtain ⟨i, hi, rfl⟩ := List.mem_map.mp hd
      have := List.mem_range.mp hi
      unfold inR
      exact if_neg (by omega)
    rw [e]
    rcases q with q | q <;> simp [q]
  · obtain ⟨m, hm⟩ : ∃ m : Int, a ≤ m ∧ m ≤ b ∧ a' ≤ m ∧ m ≤ b' := by
      by_cases h : a < a'
      · exact ⟨a', by omega⟩
      · exact ⟨a, by omega⟩
    have m : D.int m ∈ (upI a (b + 1 - a).toNat).filterMap (inR a' b') := by
      refine List.mem_filterMap.mpr ⟨.int m, List.mem_map.mpr ⟨(m - a).toNat, List.mem_range.mpr (by omega), ?_⟩, ?_⟩
      · congr 1
        omega
      · unfold inR
        exact if_pos ⟨hm.2.2.1, hm.2.2.2⟩
    have : ((upI a (b + 1 - a).toNat).filterMap (inR a' b')).isEmpty = false := by
      cases e : (upI a (b + 1 - a).toNat).filterMap (inR a' b') with
      | nil => rw [e] at m; cases m
      | cons _ _ => rfl
    rw [this]
    simp; omega
theorem inR_fl {a' b' : Int} (ds : List D) : ∀ d ∈ ds.filterMap (inR a' b'), flD d = true := by
  intro d hd
  obtain ⟨x, _, e⟩ := List.mem_filterMap.mp hd
  unfold inR at e
  split at e
  · split at e
    · cases e; rfl
    · cases e
  · cases e
theorem lhinder_eq {as : List Int} (A : Asks as) {a b c a' b' c' : Int} (p : Pl as a b) (q : Pl as a' b') : G__law_hinders [ofI as, F3 a b c, F3 a' b' c'] = some (.val (.bl (hindB as a b c a' b'))) := by
  obtain ⟨p0, p1, p2⟩ := p
  obtain ⟨q0, q1, q2⟩ := q
  have ln := line
  have am := A.most
  have s2 : 2 ≤ sizeLine := by omega
  have s0 : 0 ≤ sizeLine := by omega
  have u1 := at_as (as := as) p0 (by omega : a < as.length)
  have u2 := at_as (as := as) (by omega : 0 ≤ b) p2
  have v1 := at_as (as := as) q0 (by omega : a' < as.length)
  have v2 := at_as (as := as) (by omega : 0 ≤ b') q2
  have x1 : L2.atI [D.int a, D.int b, D.int c] 1 = some (.int b) := rfl
  have x0 : L2.atI [D.int a, D.int b, D.int c] 0 = some (.int a) := rfl
  have x2 : L2.atI [D.int a, D.int b, D.int c] 2 = some (.int c) := rfl
  have y1 : L2.atI [D.int a', D.int b', D.int c'] 1 = some (.int b') := rfl
  have y0 : L2.atI [D.int a', D.int b', D.int c'] 0 = some (.int a') := rfl
  have w0 : ∀ x y : Int, L2.atI [D.int x, D.int y] 0 = some (.int x) := fun _ _ => rfl
  have w1 : ∀ x y : Int, L2.atI [D.int x, D.int y] 1 = some (.int y) := fun _ _ => rfl
  have sm1 : small a = true := small_t (by omega)
  have sm2 : small (b + 1) = true := small_t (by omega)
  have ul : (upI a (b + 1 - a).toNat).length < sizeLine := by simp [upI]; omega
  generalize hg : decide (gA as a < gA as b) = g1
  generalize hg' : decide (gA as a' < gA as b') = g2
  have nb := neO_bl g1 g2
  have nn := ne_nil (eqOk_fl (inR_fl (a' := a') (b' := b') (upI a (b + 1 - a).toNat)))
  rw [both_empty p1 q1] at nn
  by_cases e : g1 = g2
  · subst e
    have e0 : (g1 != g1) = false := by cases g1 <;> rfl
    rw [e0] at nb
    by_cases h4 : c < lo2 (gA as a') (gA as b')
    · have h4' : ¬ lo2 (gA as a') (gA as b') ≤ c := by omega
      simp [G__law_hinders, bm__law_hinders, runP, finR, gam, u1, u2, v1, v2, x0, x1, x2, y0, y1, w0, w1, s2, nb, hg, hg', min_two, max_two, h4, h4', hindB]
    · have h4' : lo2 (gA as a') (gA as b') ≤ c := by omega
      by_cases h5 : hi2 (gA as a') (gA as b') ≤ c
      · have h5' : ¬ c < hi2 (gA as a') (gA as b') := by omega
        simp [G__law_hinders, bm__law_hinders, runP, finR, gam, u1, u2, v1, v2, x0, x1, x2, y0, y1, w0, w1, s2, nb, hg, hg', min_two, max_two, h4, h4', h5, h5', hindB]
      · have h5' : c < hi2 (gA as a') (gA as b') := by omega
        have lc := fun (t t' : Sl) => both_lc (a' := a') (b' := b') (c' := c') (Γ := [some (.frz, ofI as), some (.frz, F3 a b c), some (.frz, F3 a' b' c'), t, t', none]) rfl a (b + 1 - a).toNat
        simp [G__law_hinders, bm__law_hinders, runP, finR, gam, u1, u2, v1, v2, x0, x1, x2, y0, y1, w0, w1, s0, s2, nb, hg, hg', min_two, max_two, h4, h4', h5, h5', sm1, sm2, ul, lc, nn, hindB]
  · have e0 : (g1 != g2) = true := by revert e; cases g1 <;> cases g2 <;> simp
    rw [e0] at nb
    simp [G__law_hinders, bm__law_hinders, runP, finR, gam, u1, u2, v1, v2, x0, x1, x2, y0, y1, w0, w1, s2, nb, hg, hg', hindB, e]
end K40
end

section
set_option Elab.async false
set_option linter.all false
set_option maxRecDepth 100000
set_option maxHeartbeats 4000000
namespace K40
open PySem L2 Ex Dv Tr
theorem cut_lo {α : Type} (xs : List α) (n : Nat) : cutL xs none (some (n : Int)) = xs.take n := by
  unfold cutL
  rw [HT.sIx_nat]
  simp [HT.sIx]
/-- a loop that may hand something back at some turn -/
theorem loop_ret {m : D → M Unit} {s : M Fl} {rv : RV} (I : Nat → En → Prop) (c : Nat → Bool) {ds : List D} {Γ : En} (h0 : I 0 Γ)
    (step : ∀ (i : Nat) (d : D) (Γ : En), ds[i]? = some d → I i Γ → ∃ Γ1 Γ2, m d Γ = .ok () Γ1 ∧ ((c i = false ∧ s Γ1 = .ok .nx Γ2 ∧ I (i + 1) Γ2) ∨ (c i = true ∧ s Γ1 = .ok (.ret rv) Γ2))) :
    ((∀ i, i < ds.length → c i = false) ∧ ∃ Γ', loopM m s ds Γ = .ok .nx Γ' ∧ I ds.length Γ') ∨ ((∃ i, i < ds.length ∧ c i = true) ∧ ∃ Γ', loopM m s ds Γ = .ok (.ret rv) Γ') := by
  induction ds generalizing Γ I c with
  | nil => exact .inl ⟨fun i hi => absurd hi (Nat.not_lt_zero i), Γ, rfl, h0⟩
  | cons d r ih =>
    obtain ⟨Γ1, Γ2, h1, h2⟩ := step 0 d Γ rfl h0
    rcases h2 with ⟨q1, q2, q3⟩ | ⟨q1, q2⟩
    · rcases ih (fun i => I (i + 1)) (fun i => c (i + 1)) q3 (fun i d Γ hd hi => step (i + 1) d Γ (by simpa using hd) hi) with ⟨z1, Γ', z2, z3⟩ | ⟨⟨i, z1, z2⟩, Γ', z3⟩
      · refine .inl ⟨fun i hi => ?_, Γ', ?_, z3⟩
        · cases i with
          | zero => exact q1
          | succ i => exact z1 i (by simpa using hi)
        · rw [r_loop1, r_noX, h1]; simp only [q2]; exact z2
      · refine .inr ⟨⟨i + 1, by simpa using z1, z2⟩, Γ', ?_⟩
        rw [r_loop1, r_noX, h1]; simp only [q2]; exact z3
    · refine .inr ⟨⟨0, Nat.zero_lt_succ _, q1⟩, Γ2, ?_⟩
      rw [r_loop1, r_noX, h1]; simp only [q2]
noncomputable def bodyA (Gh Gf : List D → Option Rt) : M Fl :=
  (seqM (ifM (orM (ngM (M.bind (isiM .list (vName 1)) asB)) (ngM (M.bind (callM allO (consM (compM (lstI (vName 1)) [0] 1 (gN 0) (M.pure true) (callP Gf (consM (vName 1) (consM (vName 0) (M.pure []))))) (M.pure []))) asB)))
  (retM (M.pure (.val (.bl false))))
  (M.pure .nx))
  (seqM (forM (enuI (consM (vName 1) (M.pure []))) (gT 2 (gsC (gN 2) (gsC (gN 3) gs0)))
  (ifM (M.bind (callM anyO (consM (compM (lstI (slcM cutO (vName 1) (M.pure none) (M.bind (vName 2) asI))) [0, 3] 1 (gN 0) (M.pure true) (callP Gh (consM (vName 1) (consM (vName 0) (consM (vName 2) (M.pure [])))))) (M.pure []))) asB)
  (retM (M.pure (.val (.bl false))))
  (M.pure .nx)))
  (retM (M.pure (.val (.bl true))))))
def hindD (as : List Int) : D → D → Bool
  | .tup [.int a, .int b, .int c], .tup [.int a', .int b', .int _] => hindB as a b c a' b'
  | _, _ => false
def apart (as : List Int) (ds : List D) (i : Nat) : Bool := (ds.take i).any fun x => hindD as x (ds.getD i .non)
def areB (as : List Int) : D → Bool
  | .lst ds => ds.all (fenceB as) && (List.range ds.length).all fun i => !apart as ds i
  | _ => false
def okT (d : D) : Bool := plD d && match d with
  | .lst ds => ds.all okD && decide (ds.length ≤ 100)
  | _ => true
theorem fence_is {as : List Int} {d : D} (h : fenceB as d = true) : ∃ a b c, d = F3 a b c ∧ Pl as a b := by
  unfold fenceB at h
  split at h
  · rename_i a b c
    exact ⟨a, b, c, rfl, Pl.of h⟩
  · cases h
theorem body_eq {as : List Int} {Gh Gf : List D → Option Rt} (hf : ∀ d, okD d = true → Gf [ofI as, d] = some (.val (.bl (fenceB as d))))
    (hh : ∀ a b c a' b' c', Pl as a b → Pl as a' b' → Gh [ofI as, F3 a b c, F3 a' b' c'] = some (.val (.bl (hindB as a b c a' b')))) {d : D} (hd : okT d = true) :
    ∃ Γ', bodyA Gh Gf [some (.frz, ofI as), some (.frz, d), none, none] = .ok (.ret (.val (.bl (areB as d)))) Γ' := by
  have ln := line
  cases d with
  | scr _ => cases hd
  | ins _ _ _ => cases hd
  | lst ds =>
    have hd : (ds.all okD && decide (ds.length ≤ 100)) = true := hd
    rw [Bool.and_eq_true, List.all_eq_true, decide_eq_true_eq] at hd
    obtain ⟨hp, hl⟩ := hd
    have sz : ds.length < sizeLine := by omega
    have l1 : ∀ t t' : Sl, lcM [0] 1 (gN 0) (M.pure true) (callP Gf (consM (vName 1) (consM (vName 0) (M.pure [])))) ds [some (.frz, ofI as), some (.frz, .lst ds), t, t'] = .ok ((ds.map (fenceB as)).map D.bl) [some (.frz, ofI as), some (.frz, .lst ds), t, t'] := by
      intro t t'
      rw [lc_map (fun d => .bl (fenceB as d)) (fun d hd => ⟨[some (.frz, d), some (.frz, ofI as)], by simp [blkG, hf d (hp d hd)], rfl⟩), List.map_map]
      rfl
    have al := all_bl (ds.map (fenceB as))
    generalize hL : (ds.map (fenceB as)).map D.bl = L at l1 al
    by_cases q : (ds.map (fenceB as)).all id = true
    · have allF : ∀ d ∈ ds, fenceB as d = true := by
        intro d hd
        exact List.all_eq_true.mp q _ (List.mem_map.mpr ⟨d, hd, rfl⟩)
      rw [q] at al
      have qa : ds.all (fenceB as) = true := List.all_eq_true.mpr allF
      rcases loop_ret (m := gT 2 (gsC (gN 2) (gsC (gN 3) gs0))) (s := ifM (M.bind (callM anyO (consM (compM (lstI (slcM cutO (vName 1) (M.pure none) (M.bind (vName 2) asI))) [0, 3] 1 (gN 0) (M.pure true) (callP Gh (consM (vName 1) (consM (vName 0) (consM (vName 2) (M.pure [])))))) (M.pure []))) asB) (retM (M.pure (.val (.bl false)))) (M.pure .nx)) (rv := .val (.bl false))
        (fun _ Γ => ∃ t t' : Sl, Γ = [some (.frz, ofI as), some (.frz, .lst ds), t, t']) (apart as ds) (ds := numI ds) (Γ := [some (.frz, ofI as), some (.frz, .lst ds), none, none]) ⟨none, none, rfl⟩ (by
          rintro i x Γ hx ⟨t, t', rfl⟩
          obtain ⟨e, he, rfl⟩ := num_at hx
          obtain ⟨a', b', c', rfl, p'⟩ := fence_is (allF e (List.mem_of_getElem? he))
          have ge : ds.getD i .non = F3 a' b' c' := by rw [List.getD_eq_getElem?_getD, he]; rfl
          have l2 : lcM [0, 3] 1 (gN 0) (M.pure true) (callP Gh (consM (vName 1) (consM (vName 0) (consM (vName 2) (M.pure []))))) (ds.take i) [some (.frz, ofI as), some (.frz, .lst ds), some (.frz, .int i), some (.frz, F3 a' b' c')] = .ok (((ds.take i).map fun x => hindD as x (F3 a' b' c')).map D.bl) [some (.frz, ofI as), some (.frz, .lst ds), some (.frz, .int i), some (.frz, F3 a' b' c')] := by
            rw [lc_map (fun x => .bl (hindD as x (F3 a' b' c'))) (fun x hx => ?_), List.map_map]
            · rfl
            · obtain ⟨a, b, c, rfl, p⟩ := fence_is (allF x (List.mem_of_mem_take hx))
              exact ⟨[some (.frz, F3 a b c), some (.frz, ofI as), some (.frz, F3 a' b' c')], by simp [blkG, hh a b c a' b' c' p p', hindD], rfl⟩
          have an := any_bl ((ds.take i).map fun x => hindD as x (F3 a' b' c'))
          have ae : ((ds.take i).map fun x => hindD as x (F3 a' b' c')).any id = apart as ds i := by unfold apart; rw [ge, List.any_map]; rfl
          rw [ae] at an
          generalize hL2 : ((ds.take i).map fun x => hindD as x (F3 a' b' c')).map D.bl = L2 at l2 an
          have s1 : (ds.take i).length < sizeLine := by rw [List.length_take]; omega
          refine ⟨[some (.frz, ofI as), some (.frz, .lst ds), some (.frz, .int i), some (.frz, F3 a' b' c')], [some (.frz, ofI as), some (.frz, .lst ds), some (.frz, .int i), some (.frz, F3 a' b' c')], by simp, ?_⟩
          rw [List.length_take] at s1
          cases hc : apart as ds i with
          | false => rw [hc] at an; exact .inl ⟨rfl, by simp [cut_lo, s1, l2, an], _, _, rfl⟩
          | true => rw [hc] at an; exact .inr ⟨rfl, by simp [cut_lo, s1, l2, an]⟩) with ⟨z1, Γ', z2, t, t', rfl⟩ | ⟨⟨i, z1, z2⟩, Γ', z3⟩
      · have nl : (numI ds).length = ds.length := by simp [numI]
        have ar : areB as (.lst ds) = true := by
          show (ds.all (fenceB as) && (List.range ds.length).all fun i => !apart as ds i) = true
          rw [qa, Bool.true_and, List.all_eq_true]
          intro i hi
          rw [z1 i (by rw [nl]; exact List.mem_range.mp hi)]; rfl
        rw [ar]
        exact ⟨[some (.frz, ofI as), some (.frz, .lst ds), t, t'], by simp [bodyA, isTy, sz, l1, al, z2]⟩
      · have nl : (numI ds).length = ds.length := by simp [numI]
        have ar : areB as (.lst ds) = false := by
          show (ds.all (fenceB as) && (List.range ds.length).all fun i => !apart as ds i) = false
          rw [qa, Bool.true_and]
          refine Bool.eq_false_iff.mpr fun h => ?_
          have := List.all_eq_true.mp h i (List.mem_range.mpr (by rw [← nl]; exact z1))
          rw [z2] at this; cases this
        rw [ar]
        exact ⟨Γ', by simp [bodyA, isTy, sz, l1, al, z3]⟩
    · rw [Bool.not_eq_true] at q
      rw [q] at al
      have ar : areB as (.lst ds) = false := by
        show (ds.all (fenceB as) && _) = false
        have : ds.all (fenceB as) = false := by
          rw [← q, List.all_map]; rfl
        rw [this]; rfl
      rw [ar]
      exact ⟨[some (.frz, ofI as), some (.frz, .lst ds), none, none], by simp [bodyA, isTy, sz, l1, al]⟩
  | non => exact ⟨[some (.frz, ofI as), some (.frz, .non), none, none], by simp [bodyA, isTy, areB]⟩
  | bl b => exact ⟨[some (.frz, ofI as), some (.frz, .bl b), none, none], by simp [bodyA, isTy, areB]⟩
  | int b => exact ⟨[some (.frz, ofI as), some (.frz, .int b), none, none], by simp [bodyA, isTy, areB]⟩
  | str b => exact ⟨[some (.frz, ofI as), some (.frz, .str b), none, none], by simp [bodyA, isTy, areB]⟩
  | tup b => exact ⟨[some (.frz, ofI as), some (.frz, .tup b), none, none], by simp [bodyA, isTy, areB]⟩
  | dic b c => exact ⟨[some (.frz, ofI as), some (.frz, .dic b c), none, none], by simp [bodyA, isTy, areB]⟩
end K40
end

section
set_option Elab.async false
set_option linter.all false
set_option maxRecDepth 100000
set_option maxHeartbeats 4000000
namespace K40
open PySem L2 Ex Dv Tr
theorem lare_eq {as : List Int} (A : Asks as) {d : D} (hd : okT d = true) : G__law_are_fences [ofI as, d] = some (.val (.bl (areB as d))) := by
  obtain ⟨Γ', h⟩ := body_eq (lfence_eq A) (fun a b c a' b' c' p q => lhinder_eq A p q) hd
  have e : bm__law_are_fences G__law_hinders G__law_is_fence = bodyA G__law_hinders G__law_is_fence := rfl
  simp [G__law_are_fences, e, runP, finR, gam, h]
theorem are_eq {as : List Int} (A : Asks as) {d : D} (hd : okT d = true) : G_are_fences [ofI as, d] = some (.val (.bl (areB as d))) := by
  obtain ⟨Γ', h⟩ := body_eq (is_fence_eq A) (fun a b c a' b' c' p q => hinder_eq p q) hd
  have e : bm_are_fences G_hinder G_is_fence G_look_at_asks = seqM (dropM (callP G_look_at_asks (consM (vName 0) (M.pure [])))) (bodyA G_hinder G_is_fence) := rfl
  simp [G_are_fences, e, runP, finR, gam, look_eq A, h]
def upF (as : List Int) : D → Option D
  | .tup [.int a, .int b, .int c] => if gA as a < gA as b then some (F3 a b c) else none
  | _ => none
def upsN (as : List Int) (ds : List D) : Int := (ds.filterMap (upF as)).length
def flr (as : List Int) (ds : List D) : Int := as.length + (if ds.length - upsN as ds > upsN as ds then ds.length - upsN as ds else upsN as ds)
theorem floor_eq {as : List Int} (A : Asks as) {ds : List D} (hl : ds.length ≤ 100) (hf : ∀ d ∈ ds, fenceB as d = true) : G_floor_of [ofI as, .lst ds] = some (.val (.int (flr as ds))) := by
  have ln := line
  have sz : ds.length < sizeLine := by omega
  have l1 : lcM [0] 1 (gN 0) (M.bind (callP G_is_up (consM (vName 1) (consM (vName 0) (M.pure [])))) asB) (vName 0) ds [some (.frz, ofI as), some (.frz, .lst ds), none] = .ok (ds.filterMap (upF as)) [some (.frz, ofI as), some (.frz, .lst ds), none] := by
    refine lc_eq (upF as) ds fun d hd => ?_
    obtain ⟨a, b, c, rfl, p⟩ := fence_is (hf d hd)
    have u := is_up_eq (as := as) (c := .int c) p.h0 (by have := p.h1; have := p.h2; omega : a < as.length) (by have := p.h0; have := p.h1; omega : 0 ≤ b) p.h2
    refine ⟨[some (.frz, F3 a b c), some (.frz, ofI as)], ?_, rfl⟩
    by_cases h : gA as a < gA as b <;> simp [blkG, u, upF, h]
  have un : ((ds.filterMap (upF as)).length : Int) = upsN as ds := rfl
  simp [G_floor_of, bm_floor_of, runP, finR, gam, look_eq A, sz, l1, un, subO, flr]
theorem repr_i {i : Int} (h : i.natAbs ≤ 1000) : reprO2 [.int i] = some (.val (.str (toString i))) := by
  have : i.natAbs.log2 < 1920 := Nat.lt_of_le_of_lt (Nat.log2_le_self _) (by omega)
  show (if cd (i.natAbs.log2 < 1920) = true then _ else _) = _
  rw [if_pos (cd_t this)]
theorem filt_len (f : D → Option D) (ds : List D) : (ds.filterMap f).length ≤ ds.length := List.length_filterMap_le ..
theorem flr_small {as : List Int} (A : Asks as) {ds : List D} (hl : ds.length ≤ 100) : (flr as ds).natAbs ≤ 1000 := by
  have := filt_len (upF as) ds
  have := A.most
  unfold flr upsN
  split <;> omega
theorem right_eq {as : List Int} (A : Asks as) {d : D} (hd : okT d = true) {z : Str} (hr : reprO2 [.lst [ofI as, d]] = some (.val (.str z))) : G__law_right [ofI as, d] = some (.val (.bl true)) := by
  have ln := line
  have s2 : 2 ≤ sizeLine := by omega
  have r1 := are_eq A hd
  have r2 := lare_eq A hd
  have e2 : eqO2 (.str z) (.str z) = some (.val (.bl true)) := by show some (RV.val (.bl (decide (z = z)))) = _; simp
  cases hb : areB as d with
  | false =>
    rw [hb] at r1 r2
    have nb : neO2 (.bl false) (.bl false) = some (.val (.bl false)) := neO_bl false false
    simp [G__law_right, bm__law_right, runP, finR, gam, s2, hr, r1, r2, nb, isTy, e2]
  | true =>
    rw [hb] at r1 r2
    have nb : neO2 (.bl true) (.bl true) = some (.val (.bl false)) := neO_bl true true
    cases d with
    | lst ds =>
      have hd' : (ds.all okD && decide (ds.length ≤ 100)) = true := hd
      rw [Bool.and_eq_true, List.all_eq_true, decide_eq_true_eq] at hd'
      obtain ⟨hp, hl⟩ := hd'
      have hb' : (ds.all (fenceB as) && (List.range ds.length).all fun i => !apart as ds i) = true := hb
      rw [Bool.and_eq_true, List.all_eq_true] at hb'
      have hf := hb'.1
      have sz : ds.length < sizeLine := by omega
      have fl := floor_eq A hl hf
      have rf := repr_i (flr_small A hl)
      obtain ⟨w, rf⟩ : ∃ w : Str, reprO2 [.int (flr as ds)] = some (.val (.str w)) := ⟨_, rf⟩
      have ns := neO_str w
      have l1 : ∀ t1 t2 t3 t4 : Sl, lcM [0] 1 (gN 0) (M.bind (op2 ltO (op2 idxO (vName 1) (op2 idxO (vName 0) (M.pure (.val (.int 0))))) (op2 idxO (vName 1) (op2 idxO (vName 0) (M.pure (.val (.int 1)))))) asB) (vName 0) ds [some (.frz, ofI as), some (.frz, .lst ds), t1, t2, t3, t4] = .ok (ds.filterMap (upF as)) [some (.frz, ofI as), some (.frz, .lst ds), t1, t2, t3, t4] := by
        intro t1 t2 t3 t4
        refine lc_eq (upF as) ds fun d hd => ?_
        obtain ⟨a, b, c, rfl, p⟩ := fence_is (hf d hd)
        have u1 := at_as (as := as) p.h0 (by have := p.h1; have := p.h2; omega : a < as.length)
        have u2 := at_as (as := as) (by have := p.h0; have := p.h1; omega : 0 ≤ b) p.h2
        have x1 : L2.atI [D.int a, D.int b, D.int c] 1 = some (.int b) := rfl
        have x0 : L2.atI [D.int a, D.int b, D.int c] 0 = some (.int a) := rfl
        refine ⟨[some (.frz, F3 a b c), some (.frz, ofI as)], ?_, rfl⟩
        by_cases h : gA as a < gA as b <;> simp [blkG, u1, u2, x0, x1, upF, h]
      have un : ((ds.filterMap (upF as)).length : Int) = upsN as ds := rfl
      have fe : (as.length : Int) + (if ds.length - upsN as ds > upsN as ds then ds.length - upsN as ds else upsN as ds) = flr as ds := rfl
      have so : ∀ i j : Int, subO (.int i) (.int j) = some (.val (.int (i - j))) := fun _ _ => rfl
      simp only [gt_iff_lt] at fe
      simp [G__law_right, bm__law_right, runP, finR, gam, s2, hr, r1, r2, nb, isTy, e2, sz, l1, un, so, fl, rf, ns, fe]
    | _ => cases hb
end K40
end

section
set_option Elab.async false
set_option linter.all false
set_option maxRecDepth 100000
set_option maxHeartbeats 4000000
namespace K40
open PySem L2 Ex Dv Tr
theorem pow2 {i : Int} (h : i.natAbs < 2 ^ 64) : powO (.int i) (.int 2) = some (.val (.int (i ^ 2))) := by
  show (if cd ((0:Int) ≤ 2 ∧ (2:Int) ≤ 1000000 ∧ i.natAbs < 2 ^ 64) = true then some (RV.val (.int (i ^ (2:Int).toNat))) else none) = _
  rw [if_pos (cd_t ⟨by decide, by decide, h⟩)]
  rfl
/-- each below its size -/
structure Fits (F sizes : List Int) : Prop where
  at_ : ∀ (j : Nat) (x : Int), F[j]? = some x → ∃ z, sizes[j]? = some z ∧ 0 ≤ x ∧ x < z
theorem Fits.snoc {F sizes : List Int} {x z : Int} (h : Fits F sizes) (hz : sizes[F.length]? = some z) (h0 : 0 ≤ x) (h1 : x < z) : Fits (F ++ [x]) sizes := ⟨fun j y e => by
  by_cases hj : j < F.length
  · rw [List.getElem?_append_left hj] at e
    exact h.at_ j y e
  · rw [List.getElem?_append_right (by omega)] at e
    have : j - F.length = 0 := by
      by_cases q : j - F.length = 0
      · exact q
      · rw [List.getElem?_eq_none (by simp; omega)] at e; cases e
    rw [this] at e
    cases e
    have : j = F.length := by omega
    subst this
    exact ⟨z, hz, h0, h1⟩⟩
noncomputable def turn : M Fl :=
  (ifM (andM (M.bind (vName 4) asB) (M.bind (op2 gtO (vName 3) (M.pure (.val (.int 0)))) asB))
  (seqM (dropM (metM 6 appendG (consM (op2 modO (vName 3) (vName 8)) (M.pure []))))
  (asgM 3 (op2 fdivO (vName 3) (vName 8))))
  (seqM (asgM 5 (op2 modO (op2 powO (op2 addO (vName 5) (op2 mulO (M.pure (.val (.int 104729))) (op2 addO (vName 7) (M.pure (.val (.int 1)))))) (M.pure (.val (.int 2)))) (M.pure (.val (.int 2147483587)))))
  (dropM (metM 6 appendG (consM (op2 modO (op2 fdivO (vName 5) (M.pure (.val (.int 16)))) (vName 8)) (M.pure []))))))
theorem turn_step {d0 d1 d2 : Sl} {n s : Int} {w : Bool} {F : List Int} {i : Nat} {z : Int} (hi : i < 100) (hF : F.length < 1000) (hs : 0 ≤ s ∧ s < 4294967296) (hz : 0 < z ∧ z < 1000) :
    ∃ (n' s' x : Int), turn [d0, d1, d2, some (.frz, .int n), some (.frz, .bl w), some (.frz, .int s), some (.own, ofI F), some (.frz, .int i), some (.frz, .int z)] = .ok .nx [d0, d1, d2, some (.frz, .int n'), some (.frz, .bl w), some (.frz, .int s'), some (.own, ofI (F ++ [x])), some (.frz, .int i), some (.frz, .int z)] ∧ (0 ≤ s' ∧ s' < 4294967296) ∧ 0 ≤ x ∧ x < z := by
  have ln := line
  have sz : F.length < sizeLine := by omega
  by_cases hw : w = true ∧ 0 < n
  · obtain ⟨rfl, hn⟩ := hw
    refine ⟨n / z, s, n % z, ?_, hs, Int.emod_nonneg _ (by omega), Int.emod_lt_of_pos _ hz.1⟩
    have z2 : z < 1073741824 := by omega
    simp [turn, hn, hz.1, z2, sz]
  · have m1 : mulOk 104729 ((i : Int) + 1) = true := mulOk_l (by omega)
    have p1 : (s + 104729 * ((i : Int) + 1)).natAbs < 2 ^ 64 := by omega
    have p2 := pow2 p1
    generalize hq : (s + 104729 * ((i : Int) + 1)) ^ 2 = q at p2
    have r1 : 0 ≤ q % 2147483587 := Int.emod_nonneg _ (by decide)
    have r2 : q % 2147483587 < 2147483587 := Int.emod_lt_of_pos _ (by decide)
    refine ⟨n, q % 2147483587, q % 2147483587 / 16 % z, ?_, ⟨r1, by omega⟩, Int.emod_nonneg _ (by omega), Int.emod_lt_of_pos _ hz.1⟩
    cases w with
    | false => simp [turn, m1, p2, hz.1, sz]
    | true =>
      have hn : ¬ 0 < n := fun h => hw ⟨rfl, h⟩
      simp [turn, hn, m1, p2, hz.1, sz]
theorem digits_ex (c : Int) (t : Nat) (ht : t < 100) (sizes : List Int) (hl : sizes.length < 100) (hz : ∀ z ∈ sizes, 0 < z ∧ z < 1000) :
    ∃ F, G__law_digits [.int c, .int t, ofI sizes] = some (.new (ofI F)) ∧ F.length = sizes.length ∧ Fits F sizes := by
  have ln := line
  have s0 : 0 ≤ sizeLine := by omega
  generalize ha : (if c < 0 then -c else c) = n
  have m1 : mulOk 7919 (t : Int) = true := mulOk_l (by omega)
  have q1 : 0 ≤ n % 2147483647 := Int.emod_nonneg _ (by decide)
  have q2 : n % 2147483647 < 2147483647 := Int.emod_lt_of_pos _ (by decide)
  obtain ⟨Γ', hlp, n', s', F, t7, t8, rfl, hs', hF, hfit⟩ := loop_inv (m := gT 2 (gsC (gN 7) (gsC (gN 8) gs0))) (s := turn)
    (fun i Γ => ∃ (n s : Int) (F : List Int) (t7 t8 : Sl), Γ = [some (.frz, .int c), some (.frz, .int t), some (.frz, ofI sizes), some (.frz, .int n), some (.frz, .bl (decide (E18 ≤ (if c < 0 then -c else c)))), some (.frz, .int s), some (.own, ofI F), t7, t8] ∧ (0 ≤ s ∧ s < 4294967296) ∧ F.length = i ∧ Fits F sizes)
    (ds := numI (sizes.map D.int)) (Γ := [some (.frz, .int c), some (.frz, .int t), some (.frz, ofI sizes), some (.frz, .int n), some (.frz, .bl (decide (E18 ≤ (if c < 0 then -c else c)))), some (.frz, .int (n % 2147483647 + 7919 * t)), some (.own, .lst []), none, none])
    ⟨n, n % 2147483647 + 7919 * t, [], none, none, rfl, ⟨by omega, by omega⟩, rfl, ⟨fun j x e => by simp at e⟩⟩ (by
      rintro i d Γ hd ⟨n, s, F, t7, t8, rfl, hs, hF, hfit⟩
      obtain ⟨e, he, rfl⟩ := num_at hd
      rw [List.getElem?_map] at he
      cases q : sizes[i]? with
      | none => rw [q] at he; cases he
      | some z =>
        rw [q] at he
        cases he
        have hi : i < sizes.length := (List.getElem?_eq_some_iff.mp q).1
        obtain ⟨n', s', x, h1, h2, h3, h4⟩ := turn_step (d0 := some (.frz, .int c)) (d1 := some (.frz, .int t)) (d2 := some (.frz, ofI sizes)) (n := n) (s := s) (w := decide (E18 ≤ (if c < 0 then -c else c))) (F := F) (i := i) (z := z) (by omega) (by omega) hs (hz z (List.mem_of_getElem? q))
        refine ⟨_, _, by simp, .inl h1, n', s', F ++ [x], _, _, rfl, h2, by simp [hF], hfit.snoc (by rw [hF]; exact q) h3 h4⟩)
  refine ⟨F, ?_, by simpa [numI] using hF, hfit⟩
  have e : bm__law_digits = seqM (asgM 3 (callM absO (consM (vName 0) (M.pure []))))
    (seqM (asgM 4 (op2 geO (vName 3) (op2 powO (M.pure (.val (.int 10))) (M.pure (.val (.int 18))))))
    (seqM (asgM 5 (op2 addO (op2 modO (vName 3) (M.pure (.val (.int 2147483647)))) (op2 mulO (M.pure (.val (.int 7919))) (vName 1))))
    (seqM (asgM 6 (lstM (M.pure [])))
    (seqM (forM (enuI (consM (vName 2) (M.pure []))) (gT 2 (gsC (gN 7) (gsC (gN 8) gs0))) turn)
    (retM (vName 6)))))) := rfl
  unfold G__law_digits
  rw [e]
  simp only [ha] at hlp
  simp [runP, finR, gam, ha, pow18, m1, s0, hlp]
end K40
end

section
set_option Elab.async false
set_option linter.all false
set_option maxRecDepth 100000
set_option maxHeartbeats 4000000
namespace K40
open PySem L2 Ex Dv Tr
theorem evens_len : ∀ n : Nat, n ≤ 31 → (sliceRange (sliceBounds none none (some 2) n).1 (sliceBounds none none (some 2) n).2.1 (sliceBounds none none (some 2) n).2.2).length + (sliceRange (sliceBounds (some 1) none (some 2) n).1 (sliceBounds (some 1) none (some 2) n).2.1 (sliceBounds (some 1) none (some 2) n).2.2).length ≤ 31 := by decide +kernel
theorem evens_zero : ∀ n : Nat, n ≤ 31 → 1 ≤ n → 0 ∈ sliceRange (sliceBounds none none (some 2) n).1 (sliceBounds none none (some 2) n).2.1 (sliceBounds none none (some 2) n).2.2 := by decide +kernel
theorem pick_le {α : Type} {xs : List α} {lo hi : Option Int} {st : Int} : (pickL xs lo hi st).length ≤ (sliceRange (sliceBounds lo hi (some st) xs.length).1 (sliceBounds lo hi (some st) xs.length).2.1 (sliceBounds lo hi (some st) xs.length).2.2).length := List.length_filterMap_le ..
theorem pick_evens {xs : List Int} (h1 : 1 ≤ xs.length) (h2 : xs.length ≤ 31) : 1 ≤ (pickL xs none none 2).length + (pickL xs (some 1) none 2).length ∧ (pickL xs none none 2).length + (pickL xs (some 1) none 2).length ≤ 31 := by
  have a := pick_le (xs := xs) (lo := none) (hi := none) (st := 2)
  have b := pick_le (xs := xs) (lo := some 1) (hi := none) (st := 2)
  have c := evens_len xs.length h2
  refine ⟨?_, by omega⟩
  have z := evens_zero xs.length h2 h1
  have m : xs[0] ∈ pickL xs none none 2 := List.mem_filterMap.mpr ⟨0, z, List.getElem?_eq_getElem h1⟩
  have := List.length_pos_of_mem m
  omega
theorem pick_in {xs : List Int} {lo hi : Option Int} {st y : Int} (h : y ∈ pickL xs lo hi st) : y ∈ xs := by
  obtain ⟨i, _, e⟩ := List.mem_filterMap.mp h
  exact List.mem_of_getElem? e
theorem pick_map (xs : List Int) (lo hi : Option Int) (st : Int) : pickL (xs.map D.int) lo hi st = (pickL xs lo hi st).map D.int := by
  unfold pickL
  rw [List.length_map, List.map_filterMap]
  congr 1
  funext i
  rw [List.getElem?_map]
theorem pickO_is {xs : List Int} {lo hi : Option Int} {st : Int} (h : st ≠ 0) (hl : (pickL xs lo hi st).length ≤ sizeLine) : pickO st (ofI xs) lo hi = some (.new (ofI (pickL xs lo hi st))) := by
  show (if st ≠ 0 ∧ (pickL (xs.map D.int) lo hi st).length ≤ sizeLine then some (RV.new (.lst (pickL (xs.map D.int) lo hi st))) else none) = _
  rw [pick_map, List.length_map, if_pos ⟨h, hl⟩]
theorem span_ex {i : Int} (h : 0 ≤ i) (h' : i < 7) : ∃ sp : Int, L2.atI [D.int 1, .int 2, .int 3, .int 4, .int 6, .int 10, .int 31] i = some (.int sp) ∧ 1 ≤ sp ∧ sp ≤ 31 := by
  have : i = 0 ∨ i = 1 ∨ i = 2 ∨ i = 3 ∨ i = 4 ∨ i = 5 ∨ i = 6 := by omega
  rcases this with rfl | rfl | rfl | rfl | rfl | rfl | rfl
  · exact ⟨1, rfl, by decide, by decide⟩
  · exact ⟨2, rfl, by decide, by decide⟩
  · exact ⟨3, rfl, by decide, by decide⟩
  · exact ⟨4, rfl, by decide, by decide⟩
  · exact ⟨6, rfl, by decide, by decide⟩
  · exact ⟨10, rfl, by decide, by decide⟩
  · exact ⟨31, rfl, by decide, by decide⟩
theorem asks_ex {F : List Int} {most : Nat} (hm : 1 ≤ most) (hm' : most ≤ 31) (hl : F.length = 4 + most) (h0 : 0 ≤ gA F 0 ∧ gA F 0 < 7) : ∃ as, G__law_asks [ofI F, .int most] = some (.new (ofI as)) ∧ Asks as := by
  have ln := line
  have s7 : 7 ≤ sizeLine := by omega
  have a0 := at_as (as := F) (i := 0) (by omega) (by omega)
  have a1 := at_as (as := F) (i := 1) (by omega) (by omega)
  have a2 := at_as (as := F) (i := 2) (by omega) (by omega)
  have a3 := at_as (as := F) (i := 3) (by omega) (by omega)
  obtain ⟨sp, e1, g1, g2⟩ := span_ex h0.1 h0.2
  have c1 : 0 < 32 - sp := by omega
  have c2 : 0 < (most : Int) := by omega
  generalize hb : gA F 1 % (32 - sp) = bg
  have b1 : 0 ≤ bg ∧ bg < 32 - sp := by rw [← hb]; exact ⟨Int.emod_nonneg _ (by omega), Int.emod_lt_of_pos _ c1⟩
  generalize hn : gA F 2 % (most : Int) = mn
  have n1 : 0 ≤ mn ∧ mn < most := by rw [← hn]; exact ⟨Int.emod_nonneg _ (by omega), Int.emod_lt_of_pos _ c2⟩
  have sm : small (1 + mn) = true := small_t (by omega)
  have mo1 : modO (.int (gA F 1)) (.int (32 - sp)) = some (.val (.int bg)) := by rw [modO_int c1, hb]
  have mo2 : modO (.int (gA F 2)) (.int most) = some (.val (.int mn)) := by rw [modO_int c2, hn]
  have so : ∀ i j : Int, subO (.int i) (.int j) = some (.val (.int (i - j))) := fun _ _ => rfl
  let B : List Int := (List.range (1 + mn).toNat).map fun (k : Nat) => bg + gA F (4 + k) % sp
  have lB : B.length = (1 + mn).toNat := by simp [B]
  have kB : ∀ a ∈ B, 0 ≤ a ∧ a ≤ 30 := by
    intro a ha
    obtain ⟨k, _, rfl⟩ := List.mem_map.mp ha
    have := Int.emod_nonneg (gA F (4 + k)) (by omega : sp ≠ 0)
    have := Int.emod_lt_of_pos (gA F (4 + k)) (by omega : 0 < sp)
    omega
  have AB : Asks B := ⟨by omega, by omega, kB⟩
  have lc : ∀ t5 : Sl, lcM [3, 0, 2] 1 (gN 0) (M.pure true) (op2 addO (vName 1) (op2 modO (op2 idxO (vName 2) (op2 addO (M.pure (.val (.int 4))) (vName 0))) (vName 3))) (upI 0 (1 + mn).toNat) [some (.frz, ofI F), some (.frz, .int most), some (.frz, .int sp), some (.frz, .int bg), some (.frz, .int (1 + mn)), t5] = .ok (B.map D.int) [some (.frz, ofI F), some (.frz, .int most), some (.frz, .int sp), some (.frz, .int bg), some (.frz, .int (1 + mn)), t5] := by
    intro t5
    rw [lc_map (fun d => match d with | .int k => .int (bg + gA F (4 + k) % sp) | d => d) (fun d hd => ?_)]
    · congr 1
      simp [upI, B]
    · obtain ⟨k, hk, rfl⟩ := List.mem_map.mp hd
      have hk := List.mem_range.mp hk
      have ak := at_as (as := F) (i := 4 + (0 + (k : Int))) (by omega) (by omega)
      have gs : 0 < sp := by omega
      rw [Int.zero_add] at ak
      refine ⟨[some (.frz, .int (0 + (k : Int))), some (.frz, .int bg), some (.frz, ofI F), some (.frz, .int sp)], ?_, rfl⟩
      rw [Int.zero_add]
      simp [blkG, ak, gs]
  have ul : (upI 0 (1 + mn).toNat).length < sizeLine := by simp [upI]; omega
  have sB := sorted_is (ns := B) (by omega)
  have As : Asks (srt B) := ⟨by rw [(srt_perm B).length_eq]; exact AB.one, by rw [(srt_perm B).length_eq]; exact AB.most, fun a ha => kB a ((srt_perm B).mem_iff.mp ha)⟩
  have sS := sorted_is (ns := srt B) (by have := As.most; omega)
  clear_value B
  by_cases q0 : gA F 3 = 0
  · refine ⟨srt B, ?_, As⟩
    have z0 := eqO_int (gA F 3) 0
    have z1 := eqO_int (gA F 3) 1
    rw [q0] at z0 z1
    simp at z0 z1
    simp [G__law_asks, bm__law_asks, runP, finR, gam, a0, a1, a2, a3, e1, mo1, mo2, so, sm, s7, lc, ul, q0, z0, z1, sB]
  · by_cases q1 : gA F 3 = 1
    · have pe := pick_evens As.one As.most
      have p1 := pickO_is (xs := srt B) (lo := none) (hi := none) (st := 2) (by decide) (by omega)
      have p2 := pickO_is (xs := srt B) (lo := some 1) (hi := none) (st := 2) (by decide) (by omega)
      refine ⟨pickL (srt B) none none 2 ++ pickL (srt B) (some 1) none 2, ?_, by rw [List.length_append]; exact pe.1, by rw [List.length_append]; exact pe.2, fun a ha => ?_⟩
      · have z0 := eqO_int (gA F 3) 0
        have z1 := eqO_int (gA F 3) 1
        rw [q1] at z0 z1
        simp at z0 z1
        have sl : (pickL (srt B) none none 2).length + (pickL (srt B) (some 1) none 2).length ≤ sizeLine := by omega
        generalize pickL (srt B) none none 2 = P1 at p1 sl
        generalize pickL (srt B) (some 1) none 2 = P2 at p2 sl
        simp [G__law_asks, bm__law_asks, runP, finR, gam, a0, a1, a2, a3, e1, mo1, mo2, so, sm, s7, lc, ul, q1, z0, z1, sB, p1, p2, sl]
      · exact As.key a ((List.mem_append.1 ha).elim pick_in pick_in)
    · refine ⟨B, ?_, AB⟩
      have z0 := eqO_int (gA F 3) 0
      have z1 := eqO_int (gA F 3) 1
      simp [q0, q1] at z0 z1
      simp [G__law_asks, bm__law_asks, runP, finR, gam, a0, a1, a2, a3, e1, mo1, mo2, so, sm, s7, lc, ul, z0, z1, sB]
end K40
end

section
set_option Elab.async false
set_option linter.all false
set_option maxRecDepth 100000
set_option maxHeartbeats 4000000
namespace K40
open PySem L2 Ex Dv Tr
@[simp] theorem r_rng3' {fs : M (List RV)} {Γ : En} : rng3 fs Γ = M.bind fs (fun rvs => match rvs with
  | [.val (.int i), .val (.int j), .val (.int c)] => if cd (c ≠ 0 ∧ c.natAbs < 1073741824 ∧ Builtin.Range.small i j c = true ∧ 0 ≤ Builtin.Range.rangeSize i j c) then M.pure (upC i c (Builtin.Range.rangeSize i j c).toNat) else M.st
  | _ => M.st) Γ := (rfl)
theorem rng_24 : cd ((3 : Int) ≠ 0 ∧ (3 : Int).natAbs < 1073741824 ∧ Builtin.Range.small 0 22 3 = true ∧ 0 ≤ Builtin.Range.rangeSize 0 22 3) = true := cd_t (by decide +kernel)
theorem rng_n : (Builtin.Range.rangeSize 0 22 3).toNat = 8 := by decide +kernel
noncomputable def dstep : M Fl :=
  (seqM (asgM 4 (op2 modO (op2 idxO (vName 1) (vName 3)) (callM lenO (consM (vName 0) (M.pure [])))))
  (seqM (asgM 5 (op2 modO (op2 idxO (vName 1) (op2 addO (vName 3) (M.pure (.val (.int 1))))) (callM lenO (consM (vName 0) (M.pure [])))))
  (seqM (parM 6 7 (consM (callM min2O (consM (op2 idxO (vName 0) (vName 4)) (consM (op2 idxO (vName 0) (vName 5)) (M.pure [])))) (consM (callM max2O (consM (op2 idxO (vName 0) (vName 4)) (consM (op2 idxO (vName 0) (vName 5)) (M.pure [])))) (M.pure []))))
  (ifM (M.bind (op2 ltO (vName 6) (vName 7)) asB)
  (seqM (asgM 8 (tupM (consM (callM min2O (consM (vName 4) (consM (vName 5) (M.pure [])))) (consM (callM max2O (consM (vName 4) (consM (vName 5) (M.pure [])))) (consM (op2 addO (vName 6) (op2 modO (op2 idxO (vName 1) (op2 addO (vName 3) (M.pure (.val (.int 2))))) (op2 subO (vName 7) (vName 6)))) (M.pure []))))))
  (ifM (ngM (M.bind (callM anyO (consM (compM (lstI (vName 2)) [0, 8] 1 (gN 0) (M.pure true) (callP G__law_hinders (consM (vName 1) (consM (vName 2) (consM (vName 0) (M.pure [])))))) (M.pure []))) asB))
  (asgM 2 (op2 addO (lstM (consM (vName 8) (M.pure []))) (vName 2)))
  (M.pure .nx)))
  (M.pure .nx)))))
theorem dstep_ex {as E : List Int} (A : Asks as) (hE : E.length = 24) {i : Nat} (hi : i < 8) {kd : Kd} (hk : kd = .own ∨ kd = .frz) {fs : List D} (hf : ∀ d ∈ fs, fenceB as d = true) (hl : fs.length ≤ i) {x4 x5 x6 x7 x8 : Sl} :
    ∃ (kd' : Kd) (fs' : List D) (y4 y5 y6 y7 y8 : Sl), dstep [some (.frz, ofI as), some (.frz, ofI E), some (kd, .lst fs), some (.frz, .int (0 + (i : Int) * 3)), x4, x5, x6, x7, x8] = .ok .nx [some (.frz, ofI as), some (.frz, ofI E), some (kd', .lst fs'), some (.frz, .int (0 + (i : Int) * 3)), y4, y5, y6, y7, y8] ∧ (kd' = .own ∨ kd' = .frz) ∧ (∀ d ∈ fs', fenceB as d = true) ∧ fs'.length ≤ i + 1 := by
  have ln := line
  have a0 := at_as (as := E) (i := 0 + (i : Int) * 3) (by omega) (by omega)
  have a1 := at_as (as := E) (i := 0 + (i : Int) * 3 + 1) (by omega) (by omega)
  have a2 := at_as (as := E) (i := 0 + (i : Int) * 3 + 2) (by omega) (by omega)
  have am := A.most
  have ao := A.one
  have c0 : 0 < (as.length : Int) := by omega
  generalize h1 : gA E (0 + (i : Int) * 3) % (as.length : Int) = one
  generalize h2 : gA E (0 + (i : Int) * 3 + 1) % (as.length : Int) = oth
  have mo1 : modO (.int (gA E (0 + (i : Int) * 3))) (.int as.length) = some (.val (.int one)) := by rw [modO_int c0, h1]
  have mo2 : modO (.int (gA E (0 + (i : Int) * 3 + 1))) (.int as.length) = some (.val (.int oth)) := by rw [modO_int c0, h2]
  have b1 : 0 ≤ one ∧ one < as.length := by rw [← h1]; exact ⟨Int.emod_nonneg _ (by omega), Int.emod_lt_of_pos _ c0⟩
  have b2 : 0 ≤ oth ∧ oth < as.length := by rw [← h2]; exact ⟨Int.emod_nonneg _ (by omega), Int.emod_lt_of_pos _ c0⟩
  have u1 := at_as (as := as) b1.1 b1.2
  have u2 := at_as (as := as) b2.1 b2.2
  have mn : ∀ x y : Int, min2O [.int x, .int y] = some (.val (.int (lo2 x y))) := fun x y => o_min
  have mx : ∀ x y : Int, max2O [.int x, .int y] = some (.val (.int (hi2 x y))) := fun x y => o_max
  have so : ∀ i j : Int, subO (.int i) (.int j) = some (.val (.int (i - j))) := fun _ _ => rfl
  generalize hp : (0 : Int) + (i : Int) * 3 = p at *
  by_cases hlt : lo2 (gA as one) (gA as oth) < hi2 (gA as one) (gA as oth)
  · have c3 : 0 < hi2 (gA as one) (gA as oth) - lo2 (gA as one) (gA as oth) := by omega
    generalize hq : gA E (p + 2) % (hi2 (gA as one) (gA as oth) - lo2 (gA as one) (gA as oth)) = q
    have mo3 : modO (.int (gA E (p + 2))) (.int (hi2 (gA as one) (gA as oth) - lo2 (gA as one) (gA as oth))) = some (.val (.int q)) := by rw [modO_int c3, hq]
    have b3 : 0 ≤ q ∧ q < hi2 (gA as one) (gA as oth) - lo2 (gA as one) (gA as oth) := by rw [← hq]; exact ⟨Int.emod_nonneg _ (by omega), Int.emod_lt_of_pos _ c3⟩
    have ne : one ≠ oth := fun z => by subst z; simp [lo2, hi2] at hlt
    have pw : fenceB as (F3 (lo2 one oth) (hi2 one oth) (lo2 (gA as one) (gA as oth) + q)) = true := by
      by_cases z : oth < one
      · have e1 : lo2 one oth = oth := if_pos z
        have e2 : hi2 one oth = one := if_neg (by omega)
        have e3 : lo2 (gA as oth) (gA as one) = lo2 (gA as one) (gA as oth) := by unfold lo2; split <;> split <;> omega
        have e4 : hi2 (gA as oth) (gA as one) = hi2 (gA as one) (gA as oth) := by unfold hi2; split <;> split <;> omega
        rw [e1, e2]
        simp only [fenceB, Bool.and_eq_true, decide_eq_true_eq, e3, e4]
        omega
      · have e1 : lo2 one oth = one := if_neg z
        have e2 : hi2 one oth = oth := if_pos (by omega)
        rw [e1, e2]
        simp only [fenceB, Bool.and_eq_true, decide_eq_true_eq]
        omega
    have pP := Pl.of pw
    generalize hL : lo2 one oth = L at *
    generalize hM : hi2 one oth = M' at *
    have lc : ∀ kd' : Kd, ∀ t4 t5 t6 t7 : Sl, lcM [0, 8] 1 (gN 0) (M.pure true) (callP G__law_hinders (consM (vName 1) (consM (vName 2) (consM (vName 0) (M.pure []))))) fs [some (.frz, ofI as), some (.frz, ofI E), some (kd', .lst fs), some (.frz, .int p), t4, t5, t6, t7, some (.frz, F3 L M' (lo2 (gA as one) (gA as oth) + q))] = .ok ((fs.map fun x => hindD as (F3 L M' (lo2 (gA as one) (gA as oth) + q)) x).map D.bl) [some (.frz, ofI as), some (.frz, ofI E), some (kd', .lst fs), some (.frz, .int p), t4, t5, t6, t7, some (.frz, F3 L M' (lo2 (gA as one) (gA as oth) + q))] := by
      intro kd' t4 t5 t6 t7
      rw [lc_map (fun x => .bl (hindD as (F3 L M' (lo2 (gA as one) (gA as oth) + q)) x)) (fun x hx => ?_), List.map_map]
      · rfl
      · obtain ⟨a', b', c', rfl, p'⟩ := fence_is (hf x hx)
        exact ⟨[some (.frz, F3 a' b' c'), some (.frz, ofI as), some (.frz, F3 L M' (lo2 (gA as one) (gA as oth) + q))], by simp [blkG, lhinder_eq A pP p', hindD], rfl⟩
    have an := any_bl (fs.map fun x => hindD as (F3 L M' (lo2 (gA as one) (gA as oth) + q)) x)
    generalize hY : (fs.map fun x => hindD as (F3 L M' (lo2 (gA as one) (gA as oth) + q)) x).map D.bl = Y at lc an
    have s1 : 1 ≤ sizeLine := by omega
    have s3 : 3 ≤ sizeLine := by omega
    have sf : fs.length < sizeLine := by omega
    have sc : 1 + fs.length ≤ sizeLine := by omega
    cases hb : (fs.map fun x => hindD as (F3 L M' (lo2 (gA as one) (gA as oth) + q)) x).any id with
    | false =>
      rw [hb] at an
      refine ⟨.own, F3 L M' (lo2 (gA as one) (gA as oth) + q) :: fs, some (.frz, .int one), some (.frz, .int oth), some (.frz, .int (lo2 (gA as one) (gA as oth))), some (.frz, .int (hi2 (gA as one) (gA as oth))), some (.frz, F3 L M' (lo2 (gA as one) (gA as oth) + q)), ?_, .inl rfl, fun d hd => ?_, by simp; omega⟩
      · rcases hk with rfl | rfl <;> simp [-o_min, -o_max, dstep, a0, a1, a2, mo1, mo2, u1, u2, mn, mx, so, hlt, mo3, hL, hM, s1, s3, sf, lc, an, sc]
      · rcases List.mem_cons.1 hd with rfl | hd
        · exact pw
        · exact hf d hd
    | true =>
      rw [hb] at an
      refine ⟨.frz, fs, some (.frz, .int one), some (.frz, .int oth), some (.frz, .int (lo2 (gA as one) (gA as oth))), some (.frz, .int (hi2 (gA as one) (gA as oth))), some (.frz, F3 L M' (lo2 (gA as one) (gA as oth) + q)), ?_, .inr rfl, hf, by omega⟩
      rcases hk with rfl | rfl <;> simp [-o_min, -o_max, dstep, a0, a1, a2, mo1, mo2, u1, u2, mn, mx, so, hlt, mo3, hL, hM, s1, s3, sf, lc, an, sc]
  · refine ⟨kd, fs, some (.frz, .int one), some (.frz, .int oth), some (.frz, .int (lo2 (gA as one) (gA as oth))), some (.frz, .int (hi2 (gA as one) (gA as oth))), x8, ?_, hk, hf, by omega⟩
    simp [-o_min, -o_max, dstep, a0, a1, a2, mo1, mo2, u1, u2, mn, mx, so, hlt]
theorem upC_at {c : Int} {n i : Nat} {x : D} (h : (upC 0 c n)[i]? = some x) : i < n ∧ x = .int (0 + (i : Int) * c) := by
  unfold upC at h
  rw [List.getElem?_map] at h
  cases e : (List.range n)[i]? with
  | none => rw [e] at h; cases h
  | some k =>
    rw [e] at h
    cases h
    obtain ⟨h1, h2⟩ := List.getElem?_eq_some_iff.mp e
    rw [List.getElem_range] at h2
    subst h2
    exact ⟨by simpa using h1, rfl⟩
theorem drawn_ex {as E : List Int} (A : Asks as) (hE : E.length = 24) : ∃ (r : Rt) (fs : List D), G__law_drawn_fences [ofI as, ofI E] = some r ∧ (r = .new (.lst fs) ∨ r = .val (.lst fs)) ∧ (∀ d ∈ fs, fenceB as d = true) ∧ fs.length ≤ 8 := by
  have ln := line
  have s0 : 0 ≤ sizeLine := by omega
  obtain ⟨Γ', hlp, kd, fs, y3, y4, y5, y6, y7, y8, rfl, hk, hf, hl⟩ := loop_inv (m := gN 3) (s := dstep)
    (fun i Γ => ∃ (kd : Kd) (fs : List D) (y3 y4 y5 y6 y7 y8 : Sl), Γ = [some (.frz, ofI as), some (.frz, ofI E), some (kd, .lst fs), y3, y4, y5, y6, y7, y8] ∧ (kd = .own ∨ kd = .frz) ∧ (∀ d ∈ fs, fenceB as d = true) ∧ fs.length ≤ i)
    (ds := upC 0 3 8) (Γ := [some (.frz, ofI as), some (.frz, ofI E), some (.own, .lst []), none, none, none, none, none, none])
    ⟨.own, [], none, none, none, none, none, none, rfl, .inl rfl, fun _ h => (nomatch h), by simp⟩ (by
      rintro i d Γ hd ⟨kd, fs, y3, y4, y5, y6, y7, y8, rfl, hk, hf, hl⟩
      obtain ⟨hi, rfl⟩ := upC_at hd
      obtain ⟨kd', fs', z4, z5, z6, z7, z8, h1, h2, h3, h4⟩ := dstep_ex A hE hi hk hf hl (x4 := y4) (x5 := y5) (x6 := y6) (x7 := y7) (x8 := y8)
      exact ⟨_, _, rfl, .inl h1, kd', fs', _, z4, z5, z6, z7, z8, rfl, h2, h3, h4⟩)
  have e : bm__law_drawn_fences G__law_hinders = seqM (asgM 2 (lstM (M.pure []))) (seqM (forM (rng3 (consM (M.pure (.val (.int 0))) (consM (op2 subO (callM lenO (consM (vName 1) (M.pure []))) (M.pure (.val (.int 2)))) (consM (M.pure (.val (.int 3))) (M.pure []))))) (gN 3) dstep) (retM (vName 2))) := rfl
  have so : subO (.int (24 : Nat)) (.int 2) = some (.val (.int 22)) := rfl
  have so' : subO (.int 24) (.int 2) = some (.val (.int 22)) := rfl
  have hl : fs.length ≤ 8 := by simpa [upC] using hl
  have r8 := rng_n
  have r24 : cd (Builtin.Range.small 0 22 3 = true ∧ 0 ≤ Builtin.Range.rangeSize 0 22 3) = true := cd_t (by decide +kernel)
  rcases hk with rfl | rfl
  · refine ⟨.new (.lst fs), fs, ?_, .inl rfl, hf, hl⟩
    unfold G__law_drawn_fences
    rw [e]
    simp [runP, finR, gam, s0, hE, so, so', r24, r8, hlp]
  · refine ⟨.val (.lst fs), fs, ?_, .inr rfl, hf, hl⟩
    unfold G__law_drawn_fences
    rw [e]
    simp [runP, finR, gam, s0, hE, so, so', r24, r8, hlp]
end K40
end

section
set_option Elab.async false
set_option linter.all false
set_option maxRecDepth 100000
set_option maxHeartbeats 8000000
namespace K40
open PySem L2 Ex Dv Tr
theorem cut_hi {α : Type} (xs : List α) (n : Nat) : cutL xs (some (n : Int)) none = xs.drop n := by
  unfold cutL
  rw [HT.sIx_nat]
  simp [HT.sIx]
  by_cases h : n ≤ xs.length
  · rw [Nat.min_eq_left h, List.take_of_length_le (by rw [List.length_drop]; omega)]
  · have h' : xs.length ≤ n := by omega
    rw [Nat.min_eq_right h', List.drop_of_length_le h', List.drop_of_length_le (Nat.le_refl _)]
    simp
theorem fence_ok {as : List Int} {d : D} (h : fenceB as d = true) : okD d = true := by
  obtain ⟨a, b, c, rfl, _⟩ := fence_is h
  rfl
/-- what a bent fence may be -/
def some13 (a b c : Int) : List D := [.tup [.int a, .int b, .int (c + 1)], .tup [.int a, .int b, .int (c - 1)], .tup [.int (a + 1), .int b, .int c], .tup [.int a, .int (b + 1), .int c],
  .tup [.int b, .int a, .int c], .tup [.int a, .int a, .int c], .tup [.int a, .bl true, .int c], .tup [.int a, .int b, .non], .tup [.str "0", .int b, .int c],
  .lst [.int a, .int b, .int c], .tup [.int a, .int b], .tup [.int a, .int b, .int c, .int 0], .non]
theorem some_ex (a b c : Int) {e : Int} (h : 0 ≤ e) (h' : e < 13) : ∃ x, L2.atI (some13 a b c) e = some x ∧ x ∈ some13 a b c := by
  have q : (some13 a b c)[e.toNat]? = some ((some13 a b c)[e.toNat]'(by show e.toNat < 13; omega)) := List.getElem?_eq_getElem _
  have z := atI_nat q
  rw [Int.toNat_of_nonneg h] at z
  exact ⟨_, z, List.getElem_mem _⟩
theorem some_ok (a b c : Int) : ∀ x ∈ some13 a b c, okD x = true := by
  intro x hx
  have s : (PyData.str "0").canLay0 = true := by decide +kernel
  simp only [some13, List.mem_cons, List.not_mem_nil, or_false] at hx
  rcases hx with rfl | rfl | rfl | rfl | rfl | rfl | rfl | rfl | rfl | rfl | rfl | rfl | rfl <;> first | rfl | simp [okD, plD, flD, s]
theorem okT_of {ds : List D} (h : ∀ d ∈ ds, okD d = true) (hl : ds.length ≤ 100) : okT (.lst ds) = true := by
  show (ds.all okD && decide (ds.length ≤ 100)) = true
  rw [Bool.and_eq_true, List.all_eq_true, decide_eq_true_eq]
  exact ⟨h, hl⟩
theorem bent_low {as : List Int} {fs : List D} (hf : ∀ d ∈ fs, fenceB as d = true) (hl : fs.length ≤ 20) {X : D} (e0 e1 e2 : Int) (h2 : 0 ≤ e2) (h3 : e2 < 13) :
    ∃ (ds : List D) (a b c : Int), G__law_bent [X, .lst fs, ofI [e0, e1, e2]] = some (.new (.lst ds)) ∧ ds.length ≤ fs.length + 1 ∧ (F3 a b c ∈ fs ∨ F3 a b c = F3 0 1 0) ∧ (∀ d ∈ ds, d ∈ fs ∨ d ∈ some13 a b c) := by
  have ln := line
  have x0 : L2.atI [D.int e0, D.int e1, D.int e2] 0 = some (.int e0) := rfl
  have x1 : L2.atI [D.int e0, D.int e1, D.int e2] 1 = some (.int e1) := rfl
  have x2 : L2.atI [D.int e0, D.int e1, D.int e2] 2 = some (.int e2) := rfl
  have so : ∀ i j : Int, subO (.int i) (.int j) = some (.val (.int (i - j))) := fun _ _ => rfl
  generalize hm : (if (fs.length : Int) > 1 then (fs.length : Int) else 1) = m
  have m1 : 1 ≤ m ∧ m ≤ fs.length + 1 := by rw [← hm]; split <;> omega
  have m0 : 0 < m := by omega
  have hm' : max2O [.int 1, .int fs.length] = some (.val (.int m)) := by rw [o_max, hm]
  generalize ha : e0 % m = at_
  generalize hb : e1 % m = to_
  have mo1 : modO (.int e0) (.int m) = some (.val (.int at_)) := by rw [modO_int m0, ha]
  have mo2 : modO (.int e1) (.int m) = some (.val (.int to_)) := by rw [modO_int m0, hb]
  have b1 : 0 ≤ at_ ∧ at_ < m := by rw [← ha]; exact ⟨Int.emod_nonneg _ (by omega), Int.emod_lt_of_pos _ m0⟩
  obtain ⟨n, rfl⟩ : ∃ n : Nat, at_ = n := ⟨at_.toNat, by omega⟩
  have hn : n < (fs ++ [F3 0 1 0]).length := by simp; omega
  obtain ⟨a, b, c, hx⟩ : ∃ a b c, (fs ++ [F3 0 1 0])[n]? = some (F3 a b c) := by
    rw [List.getElem?_eq_getElem hn]
    have : (fs ++ [F3 0 1 0])[n] ∈ fs ++ [F3 0 1 0] := List.getElem_mem _
    rcases List.mem_append.1 this with z | z
    · obtain ⟨a, b, c, e, _⟩ := fence_is (hf _ z)
      exact ⟨a, b, c, by rw [e]⟩
    · exact ⟨0, 1, 0, by rw [List.mem_singleton.1 z]⟩
  have ax := atI_nat hx
  obtain ⟨x, sx, sm⟩ := some_ex a b c h2 h3
  have sx : L2.atI [D.tup [.int a, .int b, .int (c + 1)], .tup [.int a, .int b, .int (c - 1)], .tup [.int (a + 1), .int b, .int c], .tup [.int a, .int (b + 1), .int c], .tup [.int b, .int a, .int c], .tup [.int a, .int a, .int c], .tup [.int a, .bl true, .int c], .tup [.int a, .int b, .non], .tup [.str "0", .int b, .int c], .lst [.int a, .int b, .int c], .tup [.int a, .int b], .tup [.int a, .int b, .int c, .int 0], .non] e2 = some x := sx
  have s1 : 1 ≤ sizeLine := by omega
  have s2 : 2 ≤ sizeLine := by omega
  have s3 : 3 ≤ sizeLine := by omega
  have s4 : 4 ≤ sizeLine := by omega
  have s5 : 5 ≤ sizeLine := by omega
  have s9 : 9 ≤ sizeLine := by omega
  have s13 : 13 ≤ sizeLine := by omega
  have sf : fs.length + 1 ≤ sizeLine := by omega
  have sf' : 1 + fs.length ≤ sizeLine := by omega
  have pk : (pickL fs none none (-1)).length ≤ sizeLine := Nat.le_trans (List.length_filterMap_le ..) (by
    have : ∀ n : Nat, n ≤ 20 → (sliceRange (sliceBounds none none (some (-1)) n).1 (sliceBounds none none (some (-1)) n).2.1 (sliceBounds none none (some (-1)) n).2.2).length ≤ 20 := by decide +kernel
    exact Nat.le_trans (this fs.length hl) (by omega))
  have po : pickO (-1) (.lst fs) none none = some (.new (.lst (pickL fs none none (-1)))) := by
    show (if _ then _ else _) = _
    rw [if_pos ⟨by decide, pk⟩]
  generalize pickL fs none none (-1) = P at po
  have c1 : cutL fs (some ((n : Int) + 1)) none = fs.drop (n + 1) := cut_hi fs (n + 1)
  have l1 : (fs.take n).length + 1 ≤ sizeLine := by rw [List.length_take]; omega
  have l2 : (fs.take n).length + 1 + (fs.drop (n + 1)).length ≤ sizeLine := by rw [List.length_take, List.length_drop]; omega
  rw [List.length_take] at l1 l2
  rw [List.length_drop] at l2
  have l3 : min n fs.length + (1 + (fs.length - (n + 1))) ≤ sizeLine := by omega
  have fx : F3 a b c ∈ fs ∨ F3 a b c = F3 0 1 0 := by
    rcases List.mem_append.1 (List.mem_of_getElem? hx) with z | z
    · exact .inl z
    · exact .inr (List.mem_singleton.1 z)
  refine ⟨fs.take n ++ [x] ++ fs.drop (n + 1), a, b, c, ?_, ?_, fx, ?_⟩
  · simp [-o_max, G__law_bent, bm__law_bent, runP, finR, gam, x0, x1, x2, so, hm', mo1, mo2, s1, s2, s3, s4, s5, s9, s13, sf, sf', ax, po, h3, sx, cut_lo, c1, l1, l2, l3]
  · simp; omega
  · intro d hd
    rcases List.mem_append.1 hd with hd | hd
    · rcases List.mem_append.1 hd with hd | hd
      · exact .inl (List.mem_of_mem_take hd)
      · rw [List.mem_singleton.1 hd]; exact .inr sm
    · exact .inl (List.mem_of_mem_drop hd)
end K40
end

section
set_option Elab.async false
set_option linter.all false
set_option maxRecDepth 100000
set_option maxHeartbeats 8000000
namespace K40
open PySem L2 Ex Dv Tr
theorem bent_mid {as : List Int} {fs : List D} (hf : ∀ d ∈ fs, fenceB as d = true) (hl : fs.length ≤ 20) {X : D} (e0 e1 e2 : Int) (h2 : 13 ≤ e2) (h3 : e2 < 16) :
    ∃ (ds : List D), G__law_bent [X, .lst fs, ofI [e0, e1, e2]] = some (.val (.lst ds)) ∧ ds.length ≤ fs.length + 1 ∧ (∀ d ∈ ds, d ∈ fs ∨ ∃ a b c, d = F3 a b c ∧ (F3 a b c ∈ fs ∨ F3 a b c = F3 0 1 0)) := by
  have ln := line
  have x0 : L2.atI [D.int e0, D.int e1, D.int e2] 0 = some (.int e0) := rfl
  have x1 : L2.atI [D.int e0, D.int e1, D.int e2] 1 = some (.int e1) := rfl
  have x2 : L2.atI [D.int e0, D.int e1, D.int e2] 2 = some (.int e2) := rfl
  have so : ∀ i j : Int, subO (.int i) (.int j) = some (.val (.int (i - j))) := fun _ _ => rfl
  generalize hm : (if (fs.length : Int) > 1 then (fs.length : Int) else 1) = m
  have m1 : 1 ≤ m ∧ m ≤ fs.length + 1 := by rw [← hm]; split <;> omega
  have m0 : 0 < m := by omega
  have hm' : max2O [.int 1, .int fs.length] = some (.val (.int m)) := by rw [o_max, hm]
  generalize ha : e0 % m = at_
  generalize hb : e1 % m = to_
  have mo1 : modO (.int e0) (.int m) = some (.val (.int at_)) := by rw [modO_int m0, ha]
  have mo2 : modO (.int e1) (.int m) = some (.val (.int to_)) := by rw [modO_int m0, hb]
  have b1 : 0 ≤ at_ ∧ at_ < m := by rw [← ha]; exact ⟨Int.emod_nonneg _ (by omega), Int.emod_lt_of_pos _ m0⟩
  obtain ⟨n, rfl⟩ : ∃ n : Nat, at_ = n := ⟨at_.toNat, by omega⟩
  have hn : n < (fs ++ [F3 0 1 0]).length := by simp; omega
  obtain ⟨a, b, c, hx⟩ : ∃ a b c, (fs ++ [F3 0 1 0])[n]? = some (F3 a b c) := by
    rw [List.getElem?_eq_getElem hn]
    have : (fs ++ [F3 0 1 0])[n] ∈ fs ++ [F3 0 1 0] := List.getElem_mem _
    rcases List.mem_append.1 this with z | z
    · obtain ⟨a, b, c, e, _⟩ := fence_is (hf _ z)
      exact ⟨a, b, c, by rw [e]⟩
    · exact ⟨0, 1, 0, by rw [List.mem_singleton.1 z]⟩
  have ax := atI_nat hx
  have s1 : 1 ≤ sizeLine := by omega
  have s2 : 2 ≤ sizeLine := by omega
  have s3 : 3 ≤ sizeLine := by omega
  have s4 : 4 ≤ sizeLine := by omega
  have s5 : 5 ≤ sizeLine := by omega
  have s9 : 9 ≤ sizeLine := by omega
  have s13 : 13 ≤ sizeLine := by omega
  have sf : fs.length + 1 ≤ sizeLine := by omega
  have sf' : 1 + fs.length ≤ sizeLine := by omega
  have pk : (pickL fs none none (-1)).length ≤ sizeLine := Nat.le_trans (List.length_filterMap_le ..) (by
    have : ∀ n : Nat, n ≤ 20 → (sliceRange (sliceBounds none none (some (-1)) n).1 (sliceBounds none none (some (-1)) n).2.1 (sliceBounds none none (some (-1)) n).2.2).length ≤ 20 := by decide +kernel
    exact Nat.le_trans (this fs.length hl) (by omega))
  have po : pickO (-1) (.lst fs) none none = some (.new (.lst (pickL fs none none (-1)))) := by
    show (if _ then _ else _) = _
    rw [if_pos ⟨by decide, pk⟩]
  have fx : F3 a b c ∈ fs ∨ F3 a b c = F3 0 1 0 := by
    rcases List.mem_append.1 (List.mem_of_getElem? hx) with z | z
    · exact .inl z
    · exact .inr (List.mem_singleton.1 z)
  have pl : (pickL fs none none (-1)).length ≤ fs.length := Nat.le_trans (List.length_filterMap_le ..) (by
    have : ∀ n : Nat, n ≤ 20 → (sliceRange (sliceBounds none none (some (-1)) n).1 (sliceBounds none none (some (-1)) n).2.1 (sliceBounds none none (some (-1)) n).2.2).length ≤ n := by decide +kernel
    exact this fs.length hl)
  have pm : ∀ d ∈ pickL fs none none (-1), d ∈ fs := fun d hd => by
    obtain ⟨i, _, e⟩ := List.mem_filterMap.mp hd
    exact List.mem_of_getElem? e
  generalize pickL fs none none (-1) = P at po pl pm
  have n3 : ¬ e2 < 13 := by omega
  have y0 : ∀ u v w : D, L2.atI [u, v, w] 0 = some u := fun _ _ _ => rfl
  have y1 : ∀ u v w : D, L2.atI [u, v, w] 1 = some v := fun _ _ _ => rfl
  have y2 : ∀ u v w : D, L2.atI [u, v, w] 2 = some w := fun _ _ _ => rfl
  have : e2 = 13 ∨ e2 = 14 ∨ e2 = 15 := by omega
  rcases this with rfl | rfl | rfl
  · refine ⟨fs ++ [F3 a b c], ?_, by simp, fun d hd => ?_⟩
    · simp [-o_max, G__law_bent, bm__law_bent, runP, finR, gam, x0, x1, x2, so, hm', mo1, mo2, s1, s2, s3, s4, s5, s9, s13, sf, sf', ax, po, y0, y1, y2]
    · rcases List.mem_append.1 hd with hd | hd
      · exact .inl hd
      · rw [List.mem_singleton.1 hd]; exact .inr ⟨a, b, c, rfl, fx⟩
  · refine ⟨F3 a b c :: fs, ?_, by simp, fun d hd => ?_⟩
    · simp [-o_max, G__law_bent, bm__law_bent, runP, finR, gam, x0, x1, x2, so, hm', mo1, mo2, s1, s2, s3, s4, s5, s9, s13, sf, sf', ax, po, y0, y1, y2]
    · rcases List.mem_cons.1 hd with rfl | hd
      · exact .inr ⟨a, b, c, rfl, fx⟩
      · exact .inl hd
  · refine ⟨P, ?_, by omega, fun d hd => .inl (pm d hd)⟩
    simp [-o_max, G__law_bent, bm__law_bent, runP, finR, gam, x0, x1, x2, so, hm', mo1, mo2, s1, s2, s3, s4, s5, s9, s13, sf, sf', ax, po, y0, y1, y2]
end K40
end

section
set_option Elab.async false
set_option linter.all false
set_option maxRecDepth 100000
set_option maxHeartbeats 8000000
namespace K40
open PySem L2 Ex Dv Tr
theorem eqOk_fs {as : List Int} {ds : List D} (h : ∀ d ∈ ds, fenceB as d = true) : eqOk (.lst ds) = true := by
  unfold eqOk SeqAt.shaped
  have e : (D.lst ds).py = .list (ds.map D.py) := by show PyData.list (D.pys ds) = _; rw [pys_all]
  rw [e]
  have h1 : PyData.canLayAll0 (ds.map D.py) = true := lay_all fun d hd => by
    obtain ⟨t, ht, rfl⟩ := List.mem_map.mp hd
    obtain ⟨a, b, c, rfl, _⟩ := fence_is (h t ht)
    rfl
  have h2 : PyData.depthAll (ds.map D.py) ≤ 60 := depth_all fun d hd => by
    obtain ⟨t, ht, rfl⟩ := List.mem_map.mp hd
    obtain ⟨a, b, c, rfl, _⟩ := fence_is (h t ht)
    simp [D.py, D.pys, PyData.depth, PyData.depthAll]
  simp [PyData.canLay0, PyData.depth, h1]; omega
theorem ixN_nat {l n : Nat} (h : n < l) : L2.ixN l (n : Int) = some n := by
  unfold L2.ixN
  rw [if_pos (by omega), if_pos (by omega)]
  simp
theorem bent_high {as : List Int} {fs : List D} (hf : ∀ d ∈ fs, fenceB as d = true) (hl : fs.length ≤ 20) {X : D} (e0 e1 e2 : Int) (h2 : e2 = 16) :
    ∃ (ds : List D), G__law_bent [X, .lst fs, ofI [e0, e1, e2]] = some (.new (.lst ds)) ∧ ds.length ≤ fs.length + 1 ∧ (∀ d ∈ ds, d ∈ fs) := by
  have ln := line
  have x0 : L2.atI [D.int e0, D.int e1, D.int e2] 0 = some (.int e0) := rfl
  have x1 : L2.atI [D.int e0, D.int e1, D.int e2] 1 = some (.int e1) := rfl
  have x2 : L2.atI [D.int e0, D.int e1, D.int e2] 2 = some (.int e2) := rfl
  have so : ∀ i j : Int, subO (.int i) (.int j) = some (.val (.int (i - j))) := fun _ _ => rfl
  generalize hm : (if (fs.length : Int) > 1 then (fs.length : Int) else 1) = m
  have m1 : 1 ≤ m ∧ m ≤ fs.length + 1 := by rw [← hm]; split <;> omega
  have m0 : 0 < m := by omega
  have hm' : max2O [.int 1, .int fs.length] = some (.val (.int m)) := by rw [o_max, hm]
  generalize ha : e0 % m = at_
  generalize hb : e1 % m = to_
  have mo1 : modO (.int e0) (.int m) = some (.val (.int at_)) := by rw [modO_int m0, ha]
  have mo2 : modO (.int e1) (.int m) = some (.val (.int to_)) := by rw [modO_int m0, hb]
  have b1 : 0 ≤ at_ ∧ at_ < m := by rw [← ha]; exact ⟨Int.emod_nonneg _ (by omega), Int.emod_lt_of_pos _ m0⟩
  obtain ⟨n, rfl⟩ : ∃ n : Nat, at_ = n := ⟨at_.toNat, by omega⟩
  have hn : n < (fs ++ [F3 0 1 0]).length := by simp; omega
  obtain ⟨a, b, c, hx⟩ : ∃ a b c, (fs ++ [F3 0 1 0])[n]? = some (F3 a b c) := by
    rw [List.getElem?_eq_getElem hn]
    have : (fs ++ [F3 0 1 0])[n] ∈ fs ++ [F3 0 1 0] := List.getElem_mem _
    rcases List.mem_append.1 this with z | z
    · obtain ⟨a, b, c, e, _⟩ := fence_is (hf _ z)
      exact ⟨a, b, c, by rw [e]⟩
    · exact ⟨0, 1, 0, by rw [List.mem_singleton.1 z]⟩
  have ax := atI_nat hx
  have s1 : 1 ≤ sizeLine := by omega
  have s2 : 2 ≤ sizeLine := by omega
  have s3 : 3 ≤ sizeLine := by omega
  have s4 : 4 ≤ sizeLine := by omega
  have s5 : 5 ≤ sizeLine := by omega
  have s9 : 9 ≤ sizeLine := by omega
  have s13 : 13 ≤ sizeLine := by omega
  have sf : fs.length + 1 ≤ sizeLine := by omega
  have sf' : 1 + fs.length ≤ sizeLine := by omega
  have pk : (pickL fs none none (-1)).length ≤ sizeLine := Nat.le_trans (List.length_filterMap_le ..) (by
    have : ∀ n : Nat, n ≤ 20 → (sliceRange (sliceBounds none none (some (-1)) n).1 (sliceBounds none none (some (-1)) n).2.1 (sliceBounds none none (some (-1)) n).2.2).length ≤ 20 := by decide +kernel
    exact Nat.le_trans (this fs.length hl) (by omega))
  have po : pickO (-1) (.lst fs) none none = some (.new (.lst (pickL fs none none (-1)))) := by
    show (if _ then _ else _) = _
    rw [if_pos ⟨by decide, pk⟩]
  generalize pickL fs none none (-1) = P at po
  subst h2
  have s0 : 0 ≤ sizeLine := by omega
  have nn := ne_nil (eqOk_fs hf)
  cases fs with
  | nil =>
    refine ⟨[], ?_, by simp, fun _ h => h⟩
    have nn : neO2 (.lst []) (.lst []) = some (.val (.bl false)) := nn
    have hm' : max2O [.int 1, .int 0] = some (.val (.int m)) := hm'
    have ax : L2.atI [F3 0 1 0] (n : Int) = some (F3 a b c) := ax
    clear hm
    simp [-o_max, G__law_bent, bm__law_bent, runP, finR, gam, x0, x1, x2, so, hm', mo1, mo2, s0, s1, s2, s3, s4, s5, s9, s13, sf, sf', ax, po, nn]
  | cons f r =>
    have nn : neO2 (.lst (f :: r)) (.lst []) = some (.val (.bl true)) := nn
    have b2 : 0 ≤ to_ ∧ to_ < m := by rw [← hb]; exact ⟨Int.emod_nonneg _ (by omega), Int.emod_lt_of_pos _ m0⟩
    obtain ⟨k, rfl⟩ : ∃ n : Nat, to_ = n := ⟨to_.toNat, by omega⟩
    generalize hfs : f :: r = fs at *
    have l1 : 1 ≤ fs.length := by rw [← hfs]; simp
    have hnl : n < fs.length := by rw [← hm] at b1; split at b1 <;> omega
    have hkl : k < fs.length := by rw [← hm] at b2; split at b2 <;> omega
    have w1 := atI_nat (List.getElem?_eq_getElem hnl)
    have w2 := atI_nat (List.getElem?_eq_getElem hkl)
    have i1 := ixN_nat hnl
    have i2 := ixN_nat hkl
    refine ⟨(fs.set n fs[k]).set k fs[n], ?_, by simp, fun d hd => ?_⟩
    · simp [-o_max, G__law_bent, bm__law_bent, runP, finR, gam, x0, x1, x2, so, hm', mo1, mo2, s0, s1, s2, s3, s4, s5, s9, s13, sf, sf', ax, po, nn, w1, w2, i1, i2]
    · rcases List.mem_or_eq_of_mem_set hd with hd | rfl
      · rcases List.mem_or_eq_of_mem_set hd with hd | rfl
        · exact hd
        · exact List.getElem_mem _
      · exact List.getElem_mem _
end K40
end

section
set_option Elab.async false
set_option linter.all false
set_option maxRecDepth 100000
set_option maxHeartbeats 8000000
namespace K40
open PySem L2 Ex Dv Tr
/-- data whose text is short -/
structure Gd (k n : Nat) (d : D) : Prop where
  lay : d.py.canLay0 = true
  sh : d.py.showable = true
  ls : d.py.leavesShort 30 = true
  dp : d.py.depth ≤ k
  bk : d.py.bulk ≤ n
theorem int_all : ∀ r : Nat, r < 200 → ((PyData.int ((r : Int) - 100)).showable && (PyData.int ((r : Int) - 100)).leavesShort 30) = true := by decide +kernel
theorem Gd.int {i : Int} (h : -100 ≤ i) (h' : i < 100) : Gd 0 1 (.int i) := by
  have := int_all (i + 100).toNat (by omega)
  rw [show (((i + 100).toNat : Int) - 100) = i by omega, Bool.and_eq_true] at this
  exact ⟨rfl, this.1, this.2, by simp [D.py, PyData.depth], by simp [D.py, PyData.bulk]⟩
theorem Gd.non : Gd 0 1 .non := ⟨rfl, rfl, by decide +kernel, by simp [D.py, PyData.depth], by simp [D.py, PyData.bulk]⟩
theorem Gd.bl : Gd 0 1 (.bl true) := ⟨rfl, rfl, by decide +kernel, by simp [D.py, PyData.depth], by simp [D.py, PyData.bulk]⟩
theorem Gd.str : Gd 0 1 (.str "0") := ⟨by decide +kernel, by decide +kernel, by decide +kernel, by simp [D.py, PyData.depth], by decide +kernel⟩
theorem Gd.mono {k k' n n' : Nat} {d : D} (h : Gd k n d) (hk : k ≤ k') (hn : n ≤ n') : Gd k' n' d := ⟨h.lay, h.sh, h.ls, Nat.le_trans h.dp hk, Nat.le_trans h.bk hn⟩
theorem gd_all {k n : Nat} : ∀ {ds : List D}, (∀ d ∈ ds, Gd k n d) → PyData.canLayAll0 (D.pys ds) = true ∧ PyData.showableAll (D.pys ds) = true ∧ PyData.leavesShortAll 30 (D.pys ds) = true ∧ PyData.depthAll (D.pys ds) ≤ k ∧ PyData.bulkAll (D.pys ds) ≤ ds.length * (n + 1)
  | [], _ => ⟨rfl, rfl, by decide +kernel, by simp [D.pys, PyData.depthAll], by simp [D.pys, PyData.bulkAll]⟩
  | d :: r, h => by
    obtain ⟨a1, a2, a3, a4, a5⟩ := gd_all (ds := r) fun x hx => h x (List.mem_cons_of_mem _ hx)
    obtain ⟨b1, b2, b3, b4, b5⟩ := h d (List.mem_cons_self ..)
    refine ⟨by simp [D.pys, PyData.canLayAll0, a1, b1], by simp [D.pys, PyData.showableAll, a2, b2], by simp [D.pys, PyData.leavesShortAll, a3, b3], by simp [D.pys, PyData.depthAll]; omega, ?_⟩
    simp only [D.pys, PyData.bulkAll, List.length_cons]
    rw [Nat.add_mul, Nat.one_mul]
    omega
theorem Gd.tup {k n : Nat} {ds : List D} (h : ∀ d ∈ ds, Gd k n d) : Gd (k + 1) (ds.length * (n + 1)) (.tup ds) := by
  obtain ⟨a1, a2, a3, a4, a5⟩ := gd_all h
  exact ⟨by simpa [D.py, PyData.canLay0] using a1, by simpa [D.py, PyData.showable] using a2, by simpa [D.py, PyData.leavesShort] using a3, by simp [D.py, PyData.depth]; omega, by simpa [D.py, PyData.bulk] using a5⟩
theorem Gd.lst {k n : Nat} {ds : List D} (h : ∀ d ∈ ds, Gd k n d) : Gd (k + 1) (ds.length * (n + 1)) (.lst ds) := by
  obtain ⟨a1, a2, a3, a4, a5⟩ := gd_all h
  exact ⟨by simpa [D.py, PyData.canLay0] using a1, by simpa [D.py, PyData.showable] using a2, by simpa [D.py, PyData.leavesShort] using a3, by simp [D.py, PyData.depth]; omega, by simpa [D.py, PyData.bulk] using a5⟩
theorem Gd.rpr {k n : Nat} {d : D} (h : Gd k n d) (hk : k ≤ 50) (hn : n ≤ 500) : rprOk d = true := by
  have ln := line
  have sh := PyData.shown_le_bulk 30 (by decide) d.py h.ls
  have b := h.bk
  have dp := h.dp
  unfold rprOk
  rw [h.lay, h.sh, PyData.hasDict_of_canLay _ h.lay, decide_eq_true (by omega : d.py.depth ≤ 50), decide_eq_true (by omega)]
  rfl
theorem gd_asks {as : List Int} (A : Asks as) : Gd 1 62 (ofI as) := by
  have := Gd.lst (k := 0) (n := 1) (ds := as.map D.int) fun d hd => by
    obtain ⟨a, ha, rfl⟩ := List.mem_map.mp hd
    have := A.key a ha
    exact Gd.int (by omega) (by omega)
  have am := A.most
  exact this.mono (by omega) (by rw [List.length_map]; omega)
theorem rep_is {as : List Int} (A : Asks as) {d : D} (h : Gd 2 150 d) : ∃ z, reprO2 [.lst [ofI as, d]] = some (.val (.str z)) := by
  have g : Gd 3 302 (.lst [ofI as, d]) := by
    have := Gd.lst (k := 2) (n := 150) (ds := [ofI as, d]) fun x hx => by
      simp only [List.mem_cons, or_false, List.not_mem_nil] at hx
      rcases hx with rfl | rfl
      · exact (gd_asks A).mono (by omega) (by omega)
      · exact h
    exact this
  have r := g.rpr (by omega) (by omega)
  have e : reprO2 [.lst [ofI as, d]] = reprO [.lst [ofI as, d]] := by
    unfold reprO2
    split
    · rename_i z; cases z
    · rename_i z; cases z; exact absurd h.lay (by decide)
    · rfl
  refine ⟨(D.lst [ofI as, d]).py.shown, ?_⟩
  rw [e]
  show (if (true && rprOk (.lst [ofI as, d])) = true then _ else _) = _
  rw [r]
  exact if_pos rfl
theorem rep_dic {as : List Int} (A : Asks as) : ∃ z, reprO2 [.lst [ofI as, .dic [] []]] = some (.val (.str z)) := by
  have ln := line
  have g := gd_asks A
  have r := g.rpr (by omega) (by omega)
  have sz : (twoT (ofI as).py).shown.length ≤ sizeLine := by
    have sh := PyData.shown_le_bulk 30 (by decide) (twoT (ofI as).py) (by simp [twoT, PyData.leavesShort, PyData.leavesShortAll, PyData.leavesShortKv]; exact g.ls)
    have b := g.bk
    have : (twoT (ofI as).py).bulk ≤ 64 := by simp [twoT, PyData.bulk, PyData.bulkAll, PyData.bulkKv]; omega
    omega
  refine ⟨(twoT (ofI as).py).shown, ?_⟩
  show (if (rprOk (ofI as) && cd ((twoT (ofI as).py).shown.length ≤ sizeLine)) = true then _ else _) = _
  rw [r, cd_t sz]
  exact if_pos rfl
end K40
end

section
set_option Elab.async false
set_option linter.all false
set_option maxRecDepth 100000
set_option maxHeartbeats 8000000
namespace K40
open PySem L2 Ex Dv Tr
/-- a fence's numbers are small -/
def Sm3 (a b c : Int) : Prop := 0 ≤ a ∧ a ≤ 31 ∧ 0 ≤ b ∧ b ≤ 31 ∧ 0 ≤ c ∧ c ≤ 31
theorem sm_of {as : List Int} (A : Asks as) {a b c : Int} (h : fenceB as (F3 a b c) = true) : Sm3 a b c := by
  have h' := h
  simp only [fenceB, Bool.and_eq_true, decide_eq_true_eq] at h'
  have := A.most
  have := lo_key A h'.1.1.1.1 (by omega : a < as.length) (by omega : 0 ≤ b) h'.1.1.2
  unfold Sm3
  omega
theorem Gd.t3 {a b c : Int} (ha : -100 ≤ a ∧ a < 100) (hb : -100 ≤ b ∧ b < 100) (hc : -100 ≤ c ∧ c < 100) : Gd 1 8 (.tup [.int a, .int b, .int c]) :=
  (Gd.tup (k := 0) (n := 1) (ds := [.int a, .int b, .int c]) fun d hd => by
    simp only [List.mem_cons, List.not_mem_nil, or_false] at hd
    rcases hd with rfl | rfl | rfl
    · exact Gd.int ha.1 ha.2
    · exact Gd.int hb.1 hb.2
    · exact Gd.int hc.1 hc.2).mono (by omega) (by simp)
theorem some_gd {a b c : Int} (h : Sm3 a b c) : ∀ x ∈ some13 a b c, Gd 1 8 x := by
  obtain ⟨h1, h2, h3, h4, h5, h6⟩ := h
  have ia : Gd 0 1 (.int a) := Gd.int (by omega) (by omega)
  have ib : Gd 0 1 (.int b) := Gd.int (by omega) (by omega)
  have ic : Gd 0 1 (.int c) := Gd.int (by omega) (by omega)
  have i0 : Gd 0 1 (.int 0) := Gd.int (by omega) (by omega)
  intro x hx
  simp only [some13, List.mem_cons, List.not_mem_nil, or_false] at hx
  rcases hx with rfl | rfl | rfl | rfl | rfl | rfl | rfl | rfl | rfl | rfl | rfl | rfl | rfl
  · exact Gd.t3 (by omega) (by omega) (by omega)
  · exact Gd.t3 (by omega) (by omega) (by omega)
  · exact Gd.t3 (by omega) (by omega) (by omega)
  · exact Gd.t3 (by omega) (by omega) (by omega)
  · exact Gd.t3 (by omega) (by omega) (by omega)
  · exact Gd.t3 (by omega) (by omega) (by omega)
  · exact (Gd.tup (k := 0) (n := 1) fun d hd => by
      simp only [List.mem_cons, List.not_mem_nil, or_false] at hd
      rcases hd with rfl | rfl | rfl <;> first | assumption | exact Gd.bl).mono (by omega) (by simp)
  · exact (Gd.tup (k := 0) (n := 1) fun d hd => by
      simp only [List.mem_cons, List.not_mem_nil, or_false] at hd
      rcases hd with rfl | rfl | rfl <;> first | assumption | exact Gd.non).mono (by omega) (by simp)
  · exact (Gd.tup (k := 0) (n := 1) fun d hd => by
      simp only [List.mem_cons, List.not_mem_nil, or_false] at hd
      rcases hd with rfl | rfl | rfl <;> first | assumption | exact Gd.str).mono (by omega) (by simp)
  · exact (Gd.lst (k := 0) (n := 1) fun d hd => by
      simp only [List.mem_cons, List.not_mem_nil, or_false] at hd
      rcases hd with rfl | rfl | rfl <;> assumption).mono (by omega) (by simp)
  · exact (Gd.tup (k := 0) (n := 1) fun d hd => by
      simp only [List.mem_cons, List.not_mem_nil, or_false] at hd
      rcases hd with rfl | rfl <;> assumption).mono (by omega) (by simp)
  · exact (Gd.tup (k := 0) (n := 1) fun d hd => by
      simp only [List.mem_cons, List.not_mem_nil, or_false] at hd
      rcases hd with rfl | rfl | rfl | rfl <;> assumption).mono (by omega) (by simp)
  · exact Gd.non.mono (by omega) (by omega)
theorem fence_gd {as : List Int} (A : Asks as) {d : D} (h : fenceB as d = true) : Gd 1 8 d := by
  obtain ⟨a, b, c, rfl, _⟩ := fence_is h
  obtain ⟨h1, h2, h3, h4, h5, h6⟩ := sm_of A h
  exact Gd.t3 (by omega) (by omega) (by omega)
/-- the list handed back by _law_bent -/
structure Bn (n : Nat) (ds : List D) : Prop where
  len : ds.length ≤ n
  ok : ∀ d ∈ ds, okD d = true
  gd : ∀ d ∈ ds, Gd 1 8 d
theorem bent_ex {as : List Int} (A : Asks as) {fs : List D} (hf : ∀ d ∈ fs, fenceB as d = true) (hl : fs.length ≤ 20) {X : D} (e0 e1 e2 : Int) (h2 : 0 ≤ e2) (h3 : e2 < 17) :
    ∃ (r : Rt) (ds : List D), G__law_bent [X, .lst fs, ofI [e0, e1, e2]] = some r ∧ (r = .new (.lst ds) ∨ r = .val (.lst ds)) ∧ Bn (fs.length + 1) ds := by
  have z0 : Sm3 0 1 0 := by unfold Sm3; omega
  have f0 : okD (F3 0 1 0) = true := rfl
  by_cases q1 : e2 < 13
  · obtain ⟨ds, a, b, c, h, hl', fx, hm⟩ := bent_low (X := X) hf hl e0 e1 e2 h2 q1
    have sm : Sm3 a b c := by
      rcases fx with z | z
      · exact sm_of A (hf _ z)
      · cases z; exact z0
    exact ⟨_, ds, h, .inl rfl, hl', fun d hd => (hm d hd).elim (fun z => fence_ok (hf d z)) (some_ok a b c d), fun d hd => (hm d hd).elim (fun z => fence_gd A (hf d z)) (some_gd sm d)⟩
  · by_cases q2 : e2 < 16
    · obtain ⟨ds, h, hl', hm⟩ := bent_mid (X := X) hf hl e0 e1 e2 (by omega) q2
      refine ⟨_, ds, h, .inr rfl, hl', fun d hd => ?_, fun d hd => ?_⟩
      · rcases hm d hd with z | ⟨a, b, c, rfl, z | z⟩
        · exact fence_ok (hf d z)
        · exact fence_ok (hf _ z)
        · rw [z]; exact f0
      · rcases hm d hd with z | ⟨a, b, c, rfl, z | z⟩
        · exact fence_gd A (hf d z)
        · exact fence_gd A (hf _ z)
        · rw [z]; exact Gd.t3 (by omega) (by omega) (by omega)
    · obtain ⟨ds, h, hl', hm⟩ := bent_high (X := X) hf hl e0 e1 e2 (by omega)
      exact ⟨_, ds, h, .inl rfl, hl', fun d hd => fence_ok (hf d (hm d hd)), fun d hd => fence_gd A (hf d (hm d hd))⟩
theorem right_lst {as : List Int} (A : Asks as) {n : Nat} {ds : List D} (h : Bn n ds) (hn : n ≤ 12) : G__law_right [ofI as, .lst ds] = some (.val (.bl true)) := by
  have hl := h.len
  obtain ⟨z, hz⟩ := rep_is A ((Gd.lst h.gd).mono (by omega) (by omega) : Gd 2 150 (.lst ds))
  exact right_eq A (okT_of h.ok (by omega)) hz
theorem right_tup {as : List Int} (A : Asks as) {n : Nat} {ds : List D} (h : Bn n ds) (hn : n ≤ 12) : G__law_right [ofI as, .tup ds] = some (.val (.bl true)) := by
  have hl := h.len
  obtain ⟨z, hz⟩ := rep_is A ((Gd.tup h.gd).mono (by omega) (by omega) : Gd 2 150 (.tup ds))
  exact right_eq A rfl hz
theorem right_non {as : List Int} (A : Asks as) : G__law_right [ofI as, .non] = some (.val (.bl true)) := by
  obtain ⟨z, hz⟩ := rep_is A (Gd.non.mono (by omega) (by omega))
  exact right_eq A rfl hz
theorem right_dic {as : List Int} (A : Asks as) : G__law_right [ofI as, .dic [] []] = some (.val (.bl true)) := by
  obtain ⟨z, hz⟩ := rep_dic A
  exact right_eq A rfl hz
theorem right_int {as : List Int} (A : Asks as) : G__law_right [ofI as, .int 5] = some (.val (.bl true)) := by
  obtain ⟨z, hz⟩ := rep_is A ((Gd.int (i := 5) (by omega) (by omega)).mono (by omega) (by omega))
  exact right_eq A rfl hz
theorem right_str {as : List Int} (A : Asks as) : G__law_right [ofI as, .str "0"] = some (.val (.bl true)) := by
  obtain ⟨z, hz⟩ := rep_is A (Gd.str.mono (by omega) (by omega))
  exact right_eq A rfl hz
theorem right_emp {as : List Int} (A : Asks as) : G__law_right [ofI as, .lst [.tup []]] = some (.val (.bl true)) :=
  right_lst A (n := 1) ⟨by simp, fun d hd => by rw [List.mem_singleton.1 hd]; rfl, fun d hd => by
    rw [List.mem_singleton.1 hd]
    exact (Gd.tup (k := 0) (n := 1) (ds := []) fun _ h => (nomatch h)).mono (by omega) (by simp)⟩ (by omega)
end K40
end

section
set_option Elab.async false
set_option linter.all false
set_option maxRecDepth 100000
set_option maxHeartbeats 8000000
namespace K40
open PySem L2 Ex Dv Tr
theorem two_of (L : List Int) : ∃ c0 c1 : Int, (L.map D.int ++ [D.int 1, D.int 2]).take 2 = [D.int c0, D.int c1] := by
  match L with
  | [] => exact ⟨1, 2, rfl⟩
  | [a] => exact ⟨a, 1, rfl⟩
  | a :: b :: _ => exact ⟨a, b, rfl⟩
theorem most_ex {i : Int} : ∃ m : Nat, L2.atI [D.int 10, .int 10, .int 31] (i % 3) = some (.int m) ∧ 1 ≤ m ∧ m ≤ 31 := by
  have h0 := Int.emod_nonneg i (by decide : (3 : Int) ≠ 0)
  have h1 := Int.emod_lt_of_pos i (by decide : (0 : Int) < 3)
  generalize i % 3 = k at *
  have : k = 0 ∨ k = 1 ∨ k = 2 := by omega
  rcases this with rfl | rfl | rfl
  · exact ⟨10, rfl, by decide, by decide⟩
  · exact ⟨10, rfl, by decide, by decide⟩
  · exact ⟨31, rfl, by decide, by decide⟩
theorem flat_map (xs : List Int) : ∀ m : Nat, (List.replicate m (xs.map D.int)).flatten = ((List.replicate m xs).flatten).map D.int
  | 0 => rfl
  | m + 1 => by rw [List.replicate_succ, List.replicate_succ, List.flatten_cons, List.flatten_cons, List.map_append, flat_map xs m]
theorem rep_ofI {xs : List Int} {m : Nat} (hx : xs.length ≤ 10) (hm : m ≤ 40) : repO (ofI xs) (.int m) = some (.new (ofI (List.replicate m xs).flatten)) := by
  have ln := line
  have : xs.length * m ≤ 10 * 40 := Nat.mul_le_mul hx hm
  have c : cd (-(2 ^ 63) ≤ (m : Int) ∧ (m : Int) < 2 ^ 63 ∧ (xs.map D.int).length * (m : Int).toNat ≤ sizeLine) = true := cd_t ⟨by omega, by omega, by rw [List.length_map, Int.toNat_natCast]; omega⟩
  show (if cd (-(2 ^ 63) ≤ (m : Int) ∧ (m : Int) < 2 ^ 63 ∧ (xs.map D.int).length * (m : Int).toNat ≤ sizeLine) = true then some (RV.new (.lst (List.replicate (m : Int).toNat (xs.map D.int)).flatten)) else none) = _
  rw [if_pos c, Int.toNat_natCast, flat_map]
theorem add_ofI {xs ys : List Int} (h : xs.length + ys.length ≤ 1000) : addO (ofI xs) (ofI ys) = some (.new (ofI (xs ++ ys))) := by
  have ln := line
  show addO (.lst (xs.map D.int)) (.lst (ys.map D.int)) = _
  rw [o_addL (by simp; omega), ← List.map_append]
noncomputable def e4 : M RV := (op2 addO (lstM (consM (M.pure (.val (.int 7))) (consM (M.pure (.val (.int 31))) (consM (vName 3) (consM (M.pure (.val (.int 3))) (M.pure [])))))) (op2 repO (lstM (consM (M.pure (.val (.int 31))) (M.pure []))) (vName 3)))
noncomputable def e6 : M RV := (op2 addO (lstM (consM (M.pure (.val (.int 2))) (consM (M.pure (.val (.int 10))) (consM (M.pure (.val (.int 10))) (consM (M.pure (.val (.int 17))) (consM (M.pure (.val (.int 10))) (consM (M.pure (.val (.int 10))) (consM (M.pure (.val (.int 17))) (M.pure []))))))))) (op2 repO (lstM (consM (M.pure (.val (.int 31))) (consM (M.pure (.val (.int 31))) (consM (M.pure (.val (.int 30))) (M.pure []))))) (M.pure (.val (.int 8)))))
noncomputable def p1 : M Fl := (asgM 2 (slcM cutO (op2 addO (slcM cutO (vName 0) (M.bind (vName 1) asI) (M.bind (op2 addO (vName 1) (M.pure (.val (.int 2)))) asI)) (lstM (consM (M.pure (.val (.int 1))) (consM (M.pure (.val (.int 2))) (M.pure []))))) (M.pure none) (M.bind (M.pure (.val (.int 2))) asI)))
noncomputable def p2 : M Fl := (asgM 3 (op2 idxO (lstM (consM (M.pure (.val (.int 10))) (consM (M.pure (.val (.int 10))) (consM (M.pure (.val (.int 31))) (M.pure []))))) (op2 modO (vName 1) (M.pure (.val (.int 3))))))
noncomputable def p3 : M Fl := (asgM 4 (callP G__law_digits (consM (op2 idxO (vName 2) (M.pure (.val (.int 0)))) (consM (vName 1) (consM e4 (M.pure []))))))
noncomputable def p4 : M Fl := (asgM 5 (callP G__law_asks (consM (vName 4) (consM (vName 3) (M.pure [])))))
noncomputable def p5 : M Fl := (asgM 6 (callP G__law_digits (consM (op2 idxO (vName 2) (M.pure (.val (.int 1)))) (consM (op2 addO (vName 1) (M.pure (.val (.int 1)))) (consM e6 (M.pure []))))))
noncomputable def p6 : M Fl := (asgM 7 (callP G__law_drawn_fences (consM (vName 5) (consM (slcM cutO (vName 6) (M.bind (M.pure (.val (.int 7))) asI) (M.pure none)) (M.pure [])))))
noncomputable def p7 : M Fl := (asgM 8 (callP G__law_bent (consM (vName 5) (consM (vName 7) (consM (slcM cutO (vName 6) (M.bind (M.pure (.val (.int 1))) asI) (M.bind (M.pure (.val (.int 4))) asI)) (M.pure []))))))
noncomputable def p8 : M Fl := (ifM (andM (M.bind (op2 eqO2 (op2 idxO (vName 6) (M.pure (.val (.int 0)))) (M.pure (.val (.int 1)))) asB) (M.bind (callP G__law_are_fences (consM (vName 5) (consM (vName 8) (M.pure [])))) asB))
  (asgM 8 (callP G__law_bent (consM (vName 5) (consM (vName 8) (consM (slcM cutO (vName 6) (M.bind (M.pure (.val (.int 4))) asI) (M.bind (M.pure (.val (.int 7))) asI)) (M.pure []))))))
  (M.pure .nx))
noncomputable def q9 : M Fl := (ifM (ngM (M.bind (callP G__law_right (consM (vName 5) (consM (vName 9) (M.pure [])))) asB))
  (retM (M.pure (.val (.bl false))))
  (M.pure .nx))
noncomputable def p9 : M Fl := (forM (lstI (lstM (consM (vName 7) (consM (vName 8) (consM (vName 7) (consM (M.pure (.val .non)) (consM (callM tupleO (consM (vName 7) (M.pure []))) (consM (M.pure (.val (.dic [] []))) (consM (M.pure (.val (.int 5))) (consM (M.pure (.val (.str "0"))) (consM (lstM (consM (tupM (M.pure [])) (M.pure []))) (M.pure [])))))))))))) (gN 9) q9)
noncomputable def lb : M Fl := seqM p1 (seqM p2 (seqM p3 (seqM p4 (seqM p5 (seqM p6 (seqM p7 (seqM p8 p9)))))))
/-- own or not -/
def Kw (k : Kd) : Prop := k = .own ∨ k = .frz
variable {ns : List Int} {i : Int} {x2 x3 x4 x5 x6 x7 x8 x9 : Sl}
theorem p1_ex (hn : ns.length ≤ 63) : ∃ c0 c1, p1 [some (.frz, .scr ns), some (.frz, .int i), x2, x3, x4, x5, x6, x7, x8, x9] = .ok .nx [some (.frz, .scr ns), some (.frz, .int i), some (.own, ofI [c0, c1]), x3, x4, x5, x6, x7, x8, x9] := by
  have ln := line
  have cl : (cutL ns (some i) (some (i + 2))).length ≤ ns.length := by unfold cutL; rw [List.length_take, List.length_drop]; omega
  generalize hL : cutL ns (some i) (some (i + 2)) = L at cl
  obtain ⟨c0, c1, h⟩ := two_of L
  refine ⟨c0, c1, ?_⟩
  have s2 : 2 ≤ sizeLine := by omega
  have sl : L.length + 2 ≤ sizeLine := by omega
  have c2 : cutL (L.map D.int ++ [D.int 1, D.int 2]) none (some 2) = [D.int c0, D.int c1] := by rw [← h]; exact cut_lo _ 2
  simp [p1, s2, hL, sl, c2]
theorem p2_ex : ∃ m : Nat, p2 [some (.frz, .scr ns), some (.frz, .int i), x2, x3, x4, x5, x6, x7, x8, x9] = .ok .nx [some (.frz, .scr ns), some (.frz, .int i), x2, some (.frz, .int m), x4, x5, x6, x7, x8, x9] ∧ 1 ≤ m ∧ m ≤ 31 := by
  have ln := line
  obtain ⟨m, h, h1, h2⟩ := most_ex (i := i)
  have s3 : 3 ≤ sizeLine := by omega
  exact ⟨m, by simp [p2, s3, h], h1, h2⟩
def sz4 (m : Nat) : List Int := [7, 31, (m : Int), 3] ++ (List.replicate m [31]).flatten
def sz6 : List Int := [2, 10, 10, 17, 10, 10, 17] ++ (List.replicate 8 [31, 31, 30]).flatten
theorem e4_is {m : Nat} (h2 : m ≤ 31) {x0 x1 : Sl} : e4 [x0, x1, x2, some (.frz, .int m), x4, x5, x6, x7, x8, x9] = .ok (.new (ofI (sz4 m))) [x0, x1, x2, some (.frz, .int m), x4, x5, x6, x7, x8, x9] := by
  have ln := line
  have s1 : 1 ≤ sizeLine := by omega
  have s4 : 4 ≤ sizeLine := by omega
  have r := rep_ofI (xs := [31]) (m := m) (by simp) (by omega)
  have a := add_ofI (xs := [7, 31, (m : Int), 3]) (ys := (List.replicate m [31]).flatten) (by simp; omega)
  have r : repO (.lst [.int 31]) (.int m) = _ := r
  have a : addO (.lst [.int 7, .int 31, .int m, .int 3]) (ofI (List.replicate m [31]).flatten) = some (.new (ofI (sz4 m))) := a
  generalize (List.replicate m [(31 : Int)]).flatten = Y at r a
  simp [-o_addL, e4, s1, s4, r, a]
theorem e6_is {Γ : En} : e6 Γ = .ok (.new (ofI sz6)) Γ := by
  have ln := line
  have s3 : 3 ≤ sizeLine := by omega
  have s7 : 7 ≤ sizeLine := by omega
  have r := rep_ofI (xs := [31, 31, 30]) (m := 8) (by simp) (by omega)
  have a := add_ofI (xs := [2, 10, 10, 17, 10, 10, 17]) (ys := (List.replicate 8 [31, 31, 30]).flatten) (by simp)
  have r : repO (.lst [.int 31, .int 31, .int 30]) (.int 8) = _ := r
  have a : addO (.lst [.int 2, .int 10, .int 10, .int 17, .int 10, .int 10, .int 17]) (ofI (List.replicate 8 [31, 31, 30]).flatten) = some (.new (ofI sz6)) := a
  generalize (List.replicate 8 [(31 : Int), 31, 30]).flatten = Y at r a
  simp [-o_addL, e6, s3, s7, r, a]
theorem sz4_len (m : Nat) : (sz4 m).length = 4 + m := by simp [sz4]; omega
theorem sz4_ok {m : Nat} (h1 : 1 ≤ m) (h2 : m ≤ 31) : ∀ z ∈ sz4 m, 0 < z ∧ z < 1000 := by
  intro z hz
  simp [sz4, List.flatten_replicate_singleton] at hz
  omega
theorem sz6_ok : sz6.length = 31 ∧ ∀ z ∈ sz6, 0 < z ∧ z < 1000 := by decide +kernel
theorem gA_get {F : List Int} {j : Nat} (h : j < F.length) : F[j]? = some (gA F j) := by
  unfold gA
  rw [List.getD_eq_getElem?_getD, Int.toNat_natCast, List.getElem?_eq_getElem h]
  rfl
theorem p3_ex {c0 c1 : Int} {m k : Nat} (hk : k < 99) (h1 : 1 ≤ m) (h2 : m ≤ 31) {x0 : Sl} {kd : Kd} (hw : Kw kd) :
    ∃ F : List Int, p3 [x0, some (.frz, .int k), some (kd, ofI [c0, c1]), some (.frz, .int m), x4, x5, x6, x7, x8, x9] = .ok .nx [x0, some (.frz, .int k), some (kd, ofI [c0, c1]), some (.frz, .int m), some (.own, ofI F), x5, x6, x7, x8, x9] ∧ F.length = 4 + m ∧ 0 ≤ gA F 0 ∧ gA F 0 < 7 := by
  obtain ⟨F, hF, hl, hf⟩ := digits_ex c0 k (by omega) (sz4 m) (by rw [sz4_len]; omega) (sz4_ok h1 h2)
  rw [sz4_len] at hl
  have g := hf.at_ 0 (gA F 0) (gA_get (j := 0) (by omega))
  obtain ⟨z, hz, g1, g2⟩ := g
  have : z = 7 := by simpa [sz4] using hz.symm
  subst this
  have a0 : L2.atI [D.int c0, D.int c1] 0 = some (.int c0) := rfl
  refine ⟨F, ?_, hl, g1, g2⟩
  rcases hw with rfl | rfl <;> simp [p3, a0, e4_is h2, hF]
theorem p4_ex {F : List Int} {m : Nat} (h1 : 1 ≤ m) (h2 : m ≤ 31) (hl : F.length = 4 + m) (g : 0 ≤ gA F 0 ∧ gA F 0 < 7) {x0 x1 : Sl} :
    ∃ as, p4 [x0, x1, x2, some (.frz, .int m), some (.own, ofI F), x5, x6, x7, x8, x9] = .ok .nx [x0, x1, x2, some (.frz, .int m), some (.own, ofI F), some (.own, ofI as), x6, x7, x8, x9] ∧ Asks as := by
  obtain ⟨as, h, A⟩ := asks_ex h1 h2 hl g
  exact ⟨as, by simp [p4, h], A⟩
theorem p5_ex {c0 c1 : Int} {k : Nat} (hk : k < 98) {x0 : Sl} {kd : Kd} (hw : Kw kd) :
    ∃ E : List Int, p5 [x0, some (.frz, .int k), some (kd, ofI [c0, c1]), x3, x4, x5, x6, x7, x8, x9] = .ok .nx [x0, some (.frz, .int k), some (kd, ofI [c0, c1]), x3, x4, x5, some (.own, ofI E), x7, x8, x9] ∧ E.length = 31 ∧ Fits E sz6 := by
  obtain ⟨F, hF, hl, hf⟩ := digits_ex c1 (k + 1) (by omega) sz6 (by rw [sz6_ok.1]; omega) sz6_ok.2
  have a1 : L2.atI [D.int c0, D.int c1] 1 = some (.int c1) := rfl
  have hF : G__law_digits [.int c1, .int ((k : Int) + 1), ofI sz6] = some (.new (ofI F)) := by simpa using hF
  refine ⟨F, ?_, by rw [hl, sz6_ok.1], hf⟩
  rcases hw with rfl | rfl <;> simp [p5, a1, e6_is, hF]
theorem p6_ex {as E : List Int} (A : Asks as) (hE : E.length = 31) {x0 x1 : Sl} :
    ∃ (fs : List D) (k5 k7 : Kd), p6 [x0, x1, x2, x3, x4, some (.own, ofI as), some (.own, ofI E), x7, x8, x9] = .ok .nx [x0, x1, x2, x3, x4, some (k5, ofI as), some (.own, ofI E), some (k7, .lst fs), x8, x9] ∧ Kw k5 ∧ Kw k7 ∧ (∀ d ∈ fs, fenceB as d = true) ∧ fs.length ≤ 8 := by
  obtain ⟨r, fs, h, hr, hf, hl⟩ := drawn_ex (E := E.drop 7) A (by simp; omega)
  have c : cutL (E.map D.int) (some 7) none = (E.map D.int).drop 7 := cut_hi _ 7
  rw [← List.map_drop] at c
  generalize E.drop 7 = E' at *
  cases hi : immR r with
  | false =>
    rcases hr with rfl | rfl
    · exact ⟨fs, .frz, .own, by simp [p6, c, h, hi], .inr rfl, .inl rfl, hf, hl⟩
    · exact ⟨fs, .frz, .frz, by simp [p6, c, h, hi], .inr rfl, .inr rfl, hf, hl⟩
  | true =>
    rcases hr with rfl | rfl
    · exact ⟨fs, .own, .own, by simp [p6, c, h, hi], .inl rfl, .inl rfl, hf, hl⟩
    · exact ⟨fs, .own, .frz, by simp [p6, c, h, hi], .inl rfl, .inr rfl, hf, hl⟩
theorem cut3 {E : List Int} (hE : E.length = 31) (n : Nat) (hn : n ≤ 20) : cutL (E.map D.int) (some (n : Int)) (some ((n + 3 : Nat) : Int)) = [.int (gA E n), .int (gA E (n + 1)), .int (gA E (n + 2))] := by
  have e : cutL (E.map D.int) (some (n : Int)) (some ((n + 3 : Nat) : Int)) = ((E.map D.int).drop n).take 3 := by
    unfold cutL
    rw [HT.sIx_nat, HT.sIx_nat]
    simp [hE]
    rw [Nat.min_eq_left (by omega), Nat.min_eq_left (by omega)]
    simp
  rw [e]
  apply List.ext_getElem?
  intro j
  rw [List.getElem?_take]
  split
  · rw [List.getElem?_drop, List.getElem?_map]
    rename_i hj
    have q := gA_get (F := E) (j := n + j) (by omega)
    rw [q]
    have : j = 0 ∨ j = 1 ∨ j = 2 := by omega
    rcases this with rfl | rfl | rfl <;> simp
  · rw [List.getElem?_eq_none (by simp; omega)]
theorem e_at {E : List Int} (hE : E.length = 31) (ht : Fits E sz6) {j : Nat} {z : Int} (hj : sz6[j]? = some z) : 0 ≤ gA E j ∧ gA E j < z := by
  have lt : j < sz6.length := (List.getElem?_eq_some_iff.mp hj).1
  rw [sz6_ok.1] at lt
  obtain ⟨z', h, g1, g2⟩ := ht.at_ j (gA E j) (gA_get (by omega))
  rw [hj] at h
  cases h
  exact ⟨g1, g2⟩
theorem Bn.mono {n m : Nat} {ds : List D} (h : Bn n ds) (hm : n ≤ m) : Bn m ds := ⟨Nat.le_trans h.len hm, h.ok, h.gd⟩
theorem p7_ex {as E : List Int} (A : Asks as) (hE : E.length = 31) (ht : Fits E sz6) {x0 x1 : Sl} {fs : List D} {k5 k7 : Kd} (h5 : Kw k5) (h7 : Kw k7) (hf : ∀ d ∈ fs, fenceB as d = true) (hl : fs.length ≤ 8) :
    ∃ (ds : List D) (k5' k7' k8 : Kd), p7 [x0, x1, x2, x3, x4, some (k5, ofI as), some (.own, ofI E), some (k7, .lst fs), x8, x9] = .ok .nx [x0, x1, x2, x3, x4, some (k5', ofI as), some (.own, ofI E), some (k7', .lst fs), some (k8, .lst ds), x9] ∧ Kw k5' ∧ Kw k7' ∧ Kw k8 ∧ Bn 9 ds := by
  obtain ⟨g1, g2⟩ := e_at hE ht (j := 3) (z := 17) (by decide +kernel)
  obtain ⟨r, ds, h, hr, hb⟩ := bent_ex A hf (by omega) (X := ofI as) (gA E 1) (gA E 2) (gA E 3) g1 g2
  have hb := hb.mono (m := 9) (by omega)
  have c : cutL (E.map D.int) (some 1) (some 4) = [.int (gA E 1), .int (gA E 2), .int (gA E 3)] := cut3 hE 1 (by omega)
  have h : G__law_bent [ofI as, .lst fs, .lst [.int (gA E 1), .int (gA E 2), .int (gA E 3)]] = some r := h
  cases hi : immR r with
  | false =>
    rcases hr with rfl | rfl
    · refine ⟨ds, .frz, .frz, .own, ?_, .inr rfl, .inr rfl, .inl rfl, hb⟩
      rcases h5 with rfl | rfl <;> rcases h7 with rfl | rfl <;> simp [p7, c, h, hi]
    · refine ⟨ds, .frz, .frz, .frz, ?_, .inr rfl, .inr rfl, .inr rfl, hb⟩
      rcases h5 with rfl | rfl <;> rcases h7 with rfl | rfl <;> simp [p7, c, h, hi]
  | true =>
    rcases hr with rfl | rfl
    · refine ⟨ds, k5, k7, .own, ?_, h5, h7, .inl rfl, hb⟩
      rcases h5 with rfl | rfl <;> rcases h7 with rfl | rfl <;> simp [p7, c, h, hi]
    · refine ⟨ds, k5, k7, .frz, ?_, h5, h7, .inr rfl, hb⟩
      rcases h5 with rfl | rfl <;> rcases h7 with rfl | rfl <;> simp [p7, c, h, hi]
theorem p8_ex {as E : List Int} (A : Asks as) (hE : E.length = 31) (ht : Fits E sz6) {x0 x1 : Sl} {ds : List D} {k5 k8 : Kd} (h5 : Kw k5) (h8 : Kw k8) (hb : Bn 9 ds) :
    ∃ (ds' : List D) (k5' k8' : Kd), p8 [x0, x1, x2, x3, x4, some (k5, ofI as), some (.own, ofI E), x7, some (k8, .lst ds), x9] = .ok .nx [x0, x1, x2, x3, x4, some (k5', ofI as), some (.own, ofI E), x7, some (k8', .lst ds'), x9] ∧ Kw k5' ∧ Kw k8' ∧ Bn 10 ds' := by
  have a0 := at_as (as := E) (i := 0) (by omega) (by omega)
  have q := eqO_int (gA E 0) 1
  have bl := hb.len
  have la := lare_eq A (okT_of hb.ok (by omega))
  by_cases z0 : gA E 0 = 1
  · rw [decide_eq_true z0] at q
    cases z1 : areB as (.lst ds) with
    | false =>
      rw [z1] at la
      refine ⟨ds, k5, k8, ?_, h5, h8, hb.mono (by omega)⟩
      rcases h5 with rfl | rfl <;> rcases h8 with rfl | rfl <;> simp [p8, a0, q, la]
    | true =>
      rw [z1] at la
      have hf : ∀ d ∈ ds, fenceB as d = true := by
        have z1 : (ds.all (fenceB as) && (List.range ds.length).all fun i => !apart as ds i) = true := z1
        rw [Bool.and_eq_true, List.all_eq_true] at z1
        exact z1.1
      obtain ⟨g1, g2⟩ := e_at hE ht (j := 6) (z := 17) (by decide +kernel)
      obtain ⟨r, ds', h, hr, hb'⟩ := bent_ex A hf (by omega) (X := ofI as) (gA E 4) (gA E 5) (gA E 6) g1 g2
      have hb' := hb'.mono (m := 10) (by omega)
      have c : cutL (E.map D.int) (some 4) (some 7) = [.int (gA E 4), .int (gA E 5), .int (gA E 6)] := cut3 hE 4 (by omega)
      have h : G__law_bent [ofI as, .lst ds, .lst [.int (gA E 4), .int (gA E 5), .int (gA E 6)]] = some r := h
      cases hi : immR r with
      | false =>
        rcases hr with rfl | rfl
        · refine ⟨ds', .frz, .own, ?_, .inr rfl, .inl rfl, hb'⟩
          rcases h5 with rfl | rfl <;> rcases h8 with rfl | rfl <;> simp [p8, a0, q, la, c, h, hi]
        · refine ⟨ds', .frz, .frz, ?_, .inr rfl, .inr rfl, hb'⟩
          rcases h5 with rfl | rfl <;> rcases h8 with rfl | rfl <;> simp [p8, a0, q, la, c, h, hi]
      | true =>
        rcases hr with rfl | rfl
        · refine ⟨ds', k5, .own, ?_, h5, .inl rfl, hb'⟩
          rcases h5 with rfl | rfl <;> rcases h8 with rfl | rfl <;> simp [p8, a0, q, la, c, h, hi]
        · refine ⟨ds', k5, .frz, ?_, h5, .inr rfl, hb'⟩
          rcases h5 with rfl | rfl <;> rcases h8 with rfl | rfl <;> simp [p8, a0, q, la, c, h, hi]
  · rw [decide_eq_false z0] at q
    refine ⟨ds, k5, k8, ?_, h5, h8, hb.mono (by omega)⟩
    rcases h5 with rfl | rfl <;> rcases h8 with rfl | rfl <;> simp [p8, a0, q]
theorem p9_ex {as : List Int} (A : Asks as) {x0 x1 : Sl} {fs ds : List D} {k5 k7 k8 : Kd} (h5 : Kw k5) (h7 : Kw k7) (h8 : Kw k8) (hf : ∀ d ∈ fs, fenceB as d = true) (hl : fs.length ≤ 8) (hb : Bn 10 ds) :
    ∃ (k5' k7' k8' : Kd) (y9 : Sl), p9 [x0, x1, x2, x3, x4, some (k5, ofI as), x6, some (k7, .lst fs), some (k8, .lst ds), x9] = .ok .nx [x0, x1, x2, x3, x4, some (k5', ofI as), x6, some (k7', .lst fs), some (k8', .lst ds), y9] := by
  have ln := line
  have hbf : Bn 8 fs := ⟨hl, fun d hd => fence_ok (hf d hd), fun d hd => fence_gd A (hf d hd)⟩
  have s0 : 0 ≤ sizeLine := by omega
  have s1 : 1 ≤ sizeLine := by omega
  have s9 : 9 ≤ sizeLine := by omega
  have tu : tupleO [.lst fs] = some (.val (.tup fs)) := rfl
  have key : ∀ d ∈ [D.lst fs, .lst ds, .lst fs, .non, .tup fs, .dic [] [], .int 5, .str "0", .lst [.tup []]], G__law_right [ofI as, d] = some (.val (.bl true)) := by
    intro d hd
    simp only [List.mem_cons, List.not_mem_nil, or_false] at hd
    rcases hd with rfl | rfl | rfl | rfl | rfl | rfl | rfl | rfl | rfl
    · exact right_lst A hbf (by omega)
    · exact right_lst A hb (by omega)
    · exact right_lst A hbf (by omega)
    · exact right_non A
    · exact right_tup A hbf (by omega)
    · exact right_dic A
    · exact right_int A
    · exact right_str A
    · exact right_emp A
  generalize hT : [D.lst fs, .lst ds, .lst fs, .non, .tup fs, .dic [] [], .int 5, .str "0", .lst [.tup []]] = Ts at key
  obtain ⟨Γ', hlp, y9, rfl⟩ := loop_inv (m := gN 9) (s := q9)
    (fun _ Γ => ∃ y9 : Sl, Γ = [x0, x1, x2, x3, x4, some (k5, ofI as), x6, some (.frz, .lst fs), some (.frz, .lst ds), y9])
    (ds := Ts) (Γ := [x0, x1, x2, x3, x4, some (k5, ofI as), x6, some (.frz, .lst fs), some (.frz, .lst ds), x9]) ⟨x9, rfl⟩ (by
      rintro i d Γ hd ⟨y9, rfl⟩
      have k := key d (List.mem_of_getElem? hd)
      refine ⟨_, _, rfl, .inl ?_, some (.frz, d), rfl⟩
      rcases h5 with rfl | rfl <;> simp [q9, k])
  refine ⟨k5, .frz, .frz, y9, ?_⟩
  rw [← hT] at hlp
  rcases h7 with rfl | rfl <;> rcases h8 with rfl | rfl <;> simp [p9, s0, s1, s9, tu, hlp]
theorem seq_ok {s s' : M Fl} {Γ Γ1 : En} {r : Res Fl} (h : s Γ = .ok .nx Γ1) (h' : s' Γ1 = r) : seqM s s' Γ = r := by rw [r_seq, h]; exact h'
theorem lb_ex (hn : ns.length ≤ 63) {k : Nat} (hk : k < 90) : ∃ (y2 y3 y4 y5 y6 y7 y8 y9 : Sl), lb [some (.frz, .scr ns), some (.frz, .int k), x2, x3, x4, x5, x6, x7, x8, x9] = .ok .nx [some (.frz, .scr ns), some (.frz, .int k), y2, y3, y4, y5, y6, y7, y8, y9] := by
  obtain ⟨c0, c1, h1⟩ := p1_ex (ns := ns) (i := k) (x2 := x2) (x3 := x3) (x4 := x4) (x5 := x5) (x6 := x6) (x7 := x7) (x8 := x8) (x9 := x9) hn
  obtain ⟨m, h2, m1, m2⟩ := p2_ex (ns := ns) (i := k) (x2 := some (.own, ofI [c0, c1])) (x3 := x3) (x4 := x4) (x5 := x5) (x6 := x6) (x7 := x7) (x8 := x8) (x9 := x9)
  obtain ⟨F, h3, f1, f2⟩ := p3_ex (c0 := c0) (c1 := c1) (m := m) (k := k) (by omega) m1 m2 (kd := .own) (.inl rfl) (x0 := some (.frz, .scr ns)) (x4 := x4) (x5 := x5) (x6 := x6) (x7 := x7) (x8 := x8) (x9 := x9)
  obtain ⟨as, h4, A⟩ := p4_ex m1 m2 f1 f2 (x0 := some (.frz, .scr ns)) (x1 := some (.frz, .int k)) (x2 := some (.own, ofI [c0, c1])) (x5 := x5) (x6 := x6) (x7 := x7) (x8 := x8) (x9 := x9)
  obtain ⟨E, h5, e1, e2⟩ := p5_ex (c0 := c0) (c1 := c1) (k := k) (by omega) (kd := .own) (.inl rfl) (x0 := some (.frz, .scr ns)) (x3 := some (.frz, .int m)) (x4 := some (.own, ofI F)) (x5 := some (.own, ofI as)) (x6 := x6) (x7 := x7) (x8 := x8) (x9 := x9)
  obtain ⟨fs, k5, k7, h6, w5, w7, hf, hl⟩ := p6_ex A e1 (x0 := some (.frz, .scr ns)) (x1 := some (.frz, .int k)) (x2 := some (.own, ofI [c0, c1])) (x3 := some (.frz, .int m)) (x4 := some (.own, ofI F)) (x7 := x7) (x8 := x8) (x9 := x9)
  obtain ⟨ds, k5', k7', k8, h7, w5', w7', w8, hb⟩ := p7_ex A e1 e2 w5 w7 hf hl (x0 := some (.frz, .scr ns)) (x1 := some (.frz, .int k)) (x2 := some (.own, ofI [c0, c1])) (x3 := some (.frz, .int m)) (x4 := some (.own, ofI F)) (x8 := x8) (x9 := x9)
  obtain ⟨ds', k5'', k8', h8, w5'', w8', hb'⟩ := p8_ex A e1 e2 w5' w8 hb (x0 := some (.frz, .scr ns)) (x1 := some (.frz, .int k)) (x2 := some (.own, ofI [c0, c1])) (x3 := some (.frz, .int m)) (x4 := some (.own, ofI F)) (x7 := some (k7', .lst fs)) (x9 := x9)
  obtain ⟨j5, j7, j8, y9, h9⟩ := p9_ex A w5'' w7' w8' hf hl hb' (x0 := some (.frz, .scr ns)) (x1 := some (.frz, .int k)) (x2 := some (.own, ofI [c0, c1])) (x3 := some (.frz, .int m)) (x4 := some (.own, ofI F)) (x6 := some (.own, ofI E)) (x9 := x9)
  exact ⟨_, _, _, _, _, _, _, _, seq_ok h1 (seq_ok h2 (seq_ok h3 (seq_ok h4 (seq_ok h5 (seq_ok h6 (seq_ok h7 (seq_ok h8 h9)))))))⟩
theorem law_eq (ns : List Int) (h : ns.length ≤ 63) : G_law [.scr ns] = some (.val (.bl true)) := by
  generalize hn : (if (16 : Int) < (ns.length : Int) then (16 : Int) else (ns.length : Int)) = n1
  generalize hn2 : (if n1 > 1 then n1 else 1) = n2
  have b1 : 0 ≤ n1 ∧ n1 ≤ 16 := by rw [← hn]; split <;> omega
  have b2 : 1 ≤ n2 ∧ n2 ≤ 16 := by rw [← hn2]; split <;> omega
  have rg : ∀ n : Nat, n ≤ 16 → ((Builtin.Range.small 0 (n : Int) 2 = true ∧ 0 ≤ Builtin.Range.rangeSize 0 (n : Int) 2) ∧ (Builtin.Range.rangeSize 0 (n : Int) 2).toNat ≤ 8) := by decide +kernel
  have rg := rg n2.toNat (by omega)
  rw [Int.toNat_of_nonneg (by omega)] at rg
  obtain ⟨r1, r2⟩ := rg
  have r24 : cd (Builtin.Range.small 0 n2 2 = true ∧ 0 ≤ Builtin.Range.rangeSize 0 n2 2) = true := cd_t r1
  obtain ⟨Γ', hl, y1, y2, y3, y4, y5, y6, y7, y8, y9, rfl⟩ := loop_inv (m := gN 1) (s := lb)
    (fun _ Γ => ∃ (y1 y2 y3 y4 y5 y6 y7 y8 y9 : Sl), Γ = [some (.frz, .scr ns), y1, y2, y3, y4, y5, y6, y7, y8, y9])
    (ds := upC 0 2 (Builtin.Range.rangeSize 0 n2 2).toNat) (Γ := [some (.frz, .scr ns), none, none, none, none, none, none, none, none, none])
    ⟨none, none, none, none, none, none, none, none, none, rfl⟩ (by
      rintro i d Γ hd ⟨y1, y2, y3, y4, y5, y6, y7, y8, y9, rfl⟩
      obtain ⟨hi, rfl⟩ := upC_at hd
      obtain ⟨z2, z3, z4, z5, z6, z7, z8, z9, hz⟩ := lb_ex (ns := ns) h (k := i * 2) (by omega) (x2 := y2) (x3 := y3) (x4 := y4) (x5 := y5) (x6 := y6) (x7 := y7) (x8 := y8) (x9 := y9)
      have ei : (0 : Int) + (i : Int) * 2 = ((i * 2 : Nat) : Int) := by omega
      rw [ei]
      exact ⟨_, _, rfl, .inl hz, _, z2, z3, z4, z5, z6, z7, z8, z9, rfl⟩)
  have e : bm_law G__law_are_fences G__law_asks G__law_bent G__law_digits G__law_drawn_fences G__law_right = seqM (forM (rng3 (consM (M.pure (.val (.int 0))) (consM (callM max2O (consM (M.pure (.val (.int 1))) (consM (callM min2O (consM (callM lenO (consM (vName 0) (M.pure []))) (consM (M.pure (.val (.int 16))) (M.pure [])))) (M.pure [])))) (consM (M.pure (.val (.int 2))) (M.pure []))))) (gN 1) lb) (retM (M.pure (.val (.bl true)))) := rfl
  unfold G_law
  rw [e]
  simp [runP, finR, gam, hn, hn2, r24, hl]
end K40
end

section
set_option Elab.async false
set_option linter.all false
set_option maxRecDepth 100000
set_option maxHeartbeats 5000000
namespace K40
open PySem L2 Ex Dv
def spLaw (K : PySem.W.Frag) : Sp := fun vs H Q _ => ∃ (a : Addr) (ns : List Int), vs = [.ref a] ∧ SqL K H a (ns.map V.int) ∧ ns.length ≤ 63 ∧ ∀ H', Q (.bl true) H'
theorem law_imp [KC] (vs : List V) (H : Hp) (Q : VK) (E : XK) (h : spLaw KC.K vs H Q E) : spP G_law vs H Q E := by
  obtain ⟨a, ns, rfl, hS, hl, hQ⟩ := h
  refine ⟨H, [.scr ns], fun _ _ z => z, .cons (.scr hS) .nil, ?_⟩
  rw [law_eq ns hl]
  intro x H' R' _ hx
  cases hx
  exact hQ H'

theorem all_mk {l : PySem.W.OpenLaw} {w : World} {K : PySem.W.Frag} {h : Heap} {mg : Str → Option Value} {fa : Addr} (X : K.In h) (G : h.Ns mainGlobals mg) (hfa : mg "law" = some (.ref fa)) {f__law_hinders f__law_is_fence f__law_are_fences f__law_asks f__law_bent f__law_digits f__law_drawn_fences f_is_up f_sides f_hinder f_is_key f_is_fence f_look_at_asks f_are_fences f_floor_of f__law_right f_law : Addr} {t_LAST_KEY : Tok} {t_MOST_ASKS : Tok}
    (m__law_hinders : PySem.W.nsIn K mainGlobals "_law_hinders" = some (some (.ref f__law_hinders)))
    (m__law_is_fence : PySem.W.nsIn K mainGlobals "_law_is_fence" = some (some (.ref f__law_is_fence)))
    (m__law_are_fences : PySem.W.nsIn K mainGlobals "_law_are_fences" = some (some (.ref f__law_are_fences)))
    (m__law_asks : PySem.W.nsIn K mainGlobals "_law_asks" = some (some (.ref f__law_asks)))
    (m__law_bent : PySem.W.nsIn K mainGlobals "_law_bent" = some (some (.ref f__law_bent)))
    (m__law_digits : PySem.W.nsIn K mainGlobals "_law_digits" = some (some (.ref f__law_digits)))
    (m__law_drawn_fences : PySem.W.nsIn K mainGlobals "_law_drawn_fences" = some (some (.ref f__law_drawn_fences)))
    (m_is_up : PySem.W.nsIn K mainGlobals "is_up" = some (some (.ref f_is_up)))
    (m_sides : PySem.W.nsIn K mainGlobals "sides" = some (some (.ref f_sides)))
    (m_hinder : PySem.W.nsIn K mainGlobals "hinder" = some (some (.ref f_hinder)))
    (m_is_key : PySem.W.nsIn K mainGlobals "is_key" = some (some (.ref f_is_key)))
    (m_is_fence : PySem.W.nsIn K mainGlobals "is_fence" = some (some (.ref f_is_fence)))
    (m_look_at_asks : PySem.W.nsIn K mainGlobals "look_at_asks" = some (some (.ref f_look_at_asks)))
    (m_are_fences : PySem.W.nsIn K mainGlobals "are_fences" = some (some (.ref f_are_fences)))
    (m_floor_of : PySem.W.nsIn K mainGlobals "floor_of" = some (some (.ref f_floor_of)))
    (m__law_right : PySem.W.nsIn K mainGlobals "_law_right" = some (some (.ref f__law_right)))
    (m_law : PySem.W.nsIn K mainGlobals "law" = some (some (.ref f_law)))
    (z_abs : PySem.W.nsIn K mainGlobals "abs" = some none)
    (z_all : PySem.W.nsIn K mainGlobals "all" = some none)
    (z_any : PySem.W.nsIn K mainGlobals "any" = some none)
    (z_bool : PySem.W.nsIn K mainGlobals "bool" = some none)
    (z_enumerate : PySem.W.nsIn K mainGlobals "enumerate" = some none)
    (z_int : PySem.W.nsIn K mainGlobals "int" = some none)
    (z_isinstance : PySem.W.nsIn K mainGlobals "isinstance" = some none)
    (z_len : PySem.W.nsIn K mainGlobals "len" = some none)
    (z_list : PySem.W.nsIn K mainGlobals "list" = some none)
    (z_max : PySem.W.nsIn K mainGlobals "max" = some none)
    (z_min : PySem.W.nsIn K mainGlobals "min" = some none)
    (z_range : PySem.W.nsIn K mainGlobals "range" = some none)
    (z_repr : PySem.W.nsIn K mainGlobals "repr" = some none)
    (z_sorted : PySem.W.nsIn K mainGlobals "sorted" = some none)
    (z_tuple : PySem.W.nsIn K mainGlobals "tuple" = some none)
    (c_LAST_KEY : PySem.W.nsIn K mainGlobals "LAST_KEY" = some (some (.int 30 t_LAST_KEY)))
    (c_MOST_ASKS : PySem.W.nsIn K mainGlobals "MOST_ASKS" = some (some (.int 31 t_MOST_ASKS)))
    (u__law_hinders : ∃ fd, Fun K "_law_hinders" "_law_hinders" s__law_hinders f__law_hinders fd)
    (k__law_hinders : PySem.W.keepIn K (.ref f__law_hinders) = true)
    (u__law_is_fence : ∃ fd, Fun K "_law_is_fence" "_law_is_fence" s__law_is_fence f__law_is_fence fd)
    (k__law_is_fence : PySem.W.keepIn K (.ref f__law_is_fence) = true)
    (u__law_are_fences : ∃ fd, Fun K "_law_are_fences" "_law_are_fences" s__law_are_fences f__law_are_fences fd)
    (k__law_are_fences : PySem.W.keepIn K (.ref f__law_are_fences) = true)
    (u__law_asks : ∃ fd, Fun K "_law_asks" "_law_asks" s__law_asks f__law_asks fd)
    (k__law_asks : PySem.W.keepIn K (.ref f__law_asks) = true)
    (u__law_bent : ∃ fd, Fun K "_law_bent" "_law_bent" s__law_bent f__law_bent fd)
    (k__law_bent : PySem.W.keepIn K (.ref f__law_bent) = true)
    (u__law_digits : ∃ fd, Fun K "_law_digits" "_law_digits" s__law_digits f__law_digits fd)
    (k__law_digits : PySem.W.keepIn K (.ref f__law_digits) = true)
    (u__law_drawn_fences : ∃ fd, Fun K "_law_drawn_fences" "_law_drawn_fences" s__law_drawn_fences f__law_drawn_fences fd)
    (k__law_drawn_fences : PySem.W.keepIn K (.ref f__law_drawn_fences) = true)
    (u_is_up : ∃ fd, Fun K "is_up" "is_up" s_is_up f_is_up fd)
    (k_is_up : PySem.W.keepIn K (.ref f_is_up) = true)
    (u_sides : ∃ fd, Fun K "sides" "sides" s_sides f_sides fd)
    (k_sides : PySem.W.keepIn K (.ref f_sides) = true)
    (u_hinder : ∃ fd, Fun K "hinder" "hinder" s_hinder f_hinder fd)
    (k_hinder : PySem.W.keepIn K (.ref f_hinder) = true)
    (u_is_key : ∃ fd, Fun K "is_key" "is_key" s_is_key f_is_key fd)
    (k_is_key : PySem.W.keepIn K (.ref f_is_key) = true)
    (u_is_fence : ∃ fd, Fun K "is_fence" "is_fence" s_is_fence f_is_fence fd)
    (k_is_fence : PySem.W.keepIn K (.ref f_is_fence) = true)
    (u_look_at_asks : ∃ fd, Fun K "look_at_asks" "look_at_asks" s_look_at_asks f_look_at_asks fd)
    (k_look_at_asks : PySem.W.keepIn K (.ref f_look_at_asks) = true)
    (u_are_fences : ∃ fd, Fun K "are_fences" "are_fences" s_are_fences f_are_fences fd)
    (k_are_fences : PySem.W.keepIn K (.ref f_are_fences) = true)
    (u_floor_of : ∃ fd, Fun K "floor_of" "floor_of" s_floor_of f_floor_of fd)
    (k_floor_of : PySem.W.keepIn K (.ref f_floor_of) = true)
    (u__law_right : ∃ fd, Fun K "_law_right" "_law_right" s__law_right f__law_right fd)
    (k__law_right : PySem.W.keepIn K (.ref f__law_right) = true)
    (u_law : ∃ fd, Fun K "law" "law" s_law f_law fd)
    (k_law : PySem.W.keepIn K (.ref f_law) = true) :
    ∃ fd : FuncData, (∀ (s : Shared) (v : Value), BindsTo s fd ⟨[v], []⟩ [("_law_script", v)]) ∧ ∀ base : Heap, K.In base → base.Ns mainGlobals mg → FnOk l.prog w K mg base CX0 5 fa fd ["_law_script"] (spLaw K) := by
  have e := hfa.symm.trans (PySem.W.mg_of X G m_law)
  cases e
  letI : KC := ⟨K⟩
  have mg0 : ∀ {n : Str}, PySem.W.nsIn K mainGlobals n = some none → mg n = none := fun z => PySem.W.mg_none_of X G z
  have mg1 : ∀ {n : Str} {v : Value}, PySem.W.nsIn K mainGlobals n = some (some v) → mg n = some v := fun z => PySem.W.mg_of X G z
  have M : Nm mg := ⟨mg0 z_abs, mg0 z_all, mg0 z_any, mg0 z_bool, mg0 z_enumerate, mg0 z_int, mg0 z_isinstance, mg0 z_len, mg0 z_list, mg0 z_max, mg0 z_min, mg0 z_range, mg0 z_repr, mg0 z_sorted, mg0 z_tuple, ⟨_, mg1 c_LAST_KEY⟩, ⟨_, mg1 c_MOST_ASKS⟩⟩
  have at1 : ∀ {x : Str} {st : Stmt} {f : Addr}, (∃ fd, Fun K x x st f fd) → PySem.W.nsIn K mainGlobals x = some (some (.ref f)) → PySem.W.keepIn K (.ref f) = true → At mg x st := fun ⟨fd, U⟩ m k => ⟨_, fd, U, mg1 m, k⟩
  have T : Ats mg := ⟨at1 u__law_hinders m__law_hinders k__law_hinders, at1 u__law_is_fence m__law_is_fence k__law_is_fence, at1 u__law_are_fences m__law_are_fences k__law_are_fences, at1 u__law_asks m__law_asks k__law_asks, at1 u__law_bent m__law_bent k__law_bent, at1 u__law_digits m__law_digits k__law_digits, at1 u__law_drawn_fences m__law_drawn_fences k__law_drawn_fences, at1 u_is_up m_is_up k_is_up, at1 u_sides m_sides k_sides, at1 u_hinder m_hinder k_hinder, at1 u_is_key m_is_key k_is_key, at1 u_is_fence m_is_fence k_is_fence, at1 u_look_at_asks m_look_at_asks k_look_at_asks, at1 u_are_fences m_are_fences k_are_fences, at1 u_floor_of m_floor_of k_floor_of, at1 u__law_right m__law_right k__law_right, at1 u_law m_law k_law⟩
  obtain ⟨d, U⟩ := u_law
  refine ⟨d, fun s v => ?_, fun base _ _ => (fn_law T M U).imp fun vs H Q E q => law_imp vs H Q E q⟩
  obtain ⟨oc, od, kV, doc, pm, an, cdv, ct, osl, e, _, _⟩ := U.ex
  rw [e]
  exact .of_eq rfl
end K40
end

set_option Elab.async false
set_option linter.all false
set_option maxRecDepth 100000
namespace K40
open PySem L2 Ex
theorem walk {l : PySem.W.OpenLaw} {q : Program} {loose : List Str} {XP : (Str → Option Value) → Heap → Prop} {YP : World → Heap → Prop} {d : DefRec} {K : Params → PySem.W.Frag} (hn : l.most = some 63) (hdf : d.params.defaults = [])
    (hY : ∀ (w : World) (h : Heap), YP w h → (K w.params).In h)
    (F : ∀ (w : World) (mg : Str → Option Value) (fa : Addr) (h : Heap), (K w.params).In h → h.Ns mainGlobals mg → mg d.name = some (.ref fa) →
      ∃ fd : FuncData, (∀ (s : Shared) (u : Value), BindsTo s fd ⟨[u], []⟩ [("_law_script", u)]) ∧ ∀ base : Heap, (K w.params).In base → base.Ns mainGlobals mg → FnOk l.prog w (K w.params) mg base CX0 5 fa fd ["_law_script"] (spLaw (K w.params))) :
    PySem.W.WalkO q loose XP YP l.row.toRowW d [] (fun f vs => PySem.call f vs) :=
  L2.walk_of (n := 63) (k := 5) (x := "_law_script") (CX := fun _ => CX0) (sp := fun w => spLaw (K w.params)) hn (by decide) hdf ⟨rfl, by decide, by decide, rfl⟩ hY F (fun _ _ a ns hl _ hS => ⟨a, ns, rfl, hS, hl, fun _ => rfl⟩) fun _ _ _ _ _ z => z
end K40
open PySem PySem.W PyProof.Rows
set_option maxRecDepth 100000 in
set_option maxHeartbeats 0 in
theorem PySem.Challenge.cw_thirdpoint_k40_fences_let_by_or_not_holds : PySem.Challenge.rw_thirdpoint_k40_fences_let_by_or_not.Holds := by
  w_on; o_law; k_head; (case hw => w_witness2)
  k_fill
  refine K40.walk (l := PySem.Challenge.rw_thirdpoint_k40_fences_let_by_or_not) rfl rfl (fun w h Y => PySem.W.kIn_of Y) ?F
  case F =>
    intro w mg fa h KX G hmg
    refine' K40.all_mk KX G hmg ?m__law_hinders ?m__law_is_fence ?m__law_are_fences ?m__law_asks ?m__law_bent ?m__law_digits ?m__law_drawn_fences ?m_is_up ?m_sides ?m_hinder ?m_is_key ?m_is_fence ?m_look_at_asks ?m_are_fences ?m_floor_of ?m__law_right ?m_law ?z_abs ?z_all ?z_any ?z_bool ?z_enumerate ?z_int ?z_isinstance ?z_len ?z_list ?z_max ?z_min ?z_range ?z_repr ?z_sorted ?z_tuple ?c_LAST_KEY ?c_MOST_ASKS ?u__law_hinders ?k__law_hinders ?u__law_is_fence ?k__law_is_fence ?u__law_are_fences ?k__law_are_fences ?u__law_asks ?k__law_asks ?u__law_bent ?k__law_bent ?u__law_digits ?k__law_digits ?u__law_drawn_fences ?k__law_drawn_fences ?u_is_up ?k_is_up ?u_sides ?k_sides ?u_hinder ?k_hinder ?u_is_key ?k_is_key ?u_is_fence ?k_is_fence ?u_look_at_asks ?k_look_at_asks ?u_are_fences ?k_are_fences ?u_floor_of ?k_floor_of ?u__law_right ?k__law_right ?u_law ?k_law
    case m__law_hinders => k_is
    case m__law_is_fence => k_is
    case m__law_are_fences => k_is
    case m__law_asks => k_is
    case m__law_bent => k_is
    case m__law_digits => k_is
    case m__law_drawn_fences => k_is
    case m_is_up => k_is
    case m_sides => k_is
    case m_hinder => k_is
    case m_is_key => k_is
    case m_is_fence => k_is
    case m_look_at_asks => k_is
    case m_are_fences => k_is
    case m_floor_of => k_is
    case m__law_right => k_is
    case m_law => k_is
    case z_abs => k_is
    case z_all => k_is
    case z_any => k_is
    case z_bool => k_is
    case z_enumerate => k_is
    case z_int => k_is
    case z_isinstance => k_is
    case z_len => k_is
    case z_list => k_is
    case z_max => k_is
    case z_min => k_is
    case z_range => k_is
    case z_repr => k_is
    case z_sorted => k_is
    case z_tuple => k_is
    case c_LAST_KEY => k_is
    case c_MOST_ASKS => k_is
    case u__law_hinders =>
      refine' ⟨_, L2.fun_mk ?l ?c ?k⟩
      (case l => k_is); (case c => k_is); (case k => k_is)
    case k__law_hinders => k_is
    case u__law_is_fence =>
      refine' ⟨_, L2.fun_mk ?l ?c ?k⟩
      (case l => k_is); (case c => k_is); (case k => k_is)
    case k__law_is_fence => k_is
    case u__law_are_fences =>
      refine' ⟨_, L2.fun_mk ?l ?c ?k⟩
      (case l => k_is); (case c => k_is); (case k => k_is)
    case k__law_are_fences => k_is
    case u__law_asks =>
      refine' ⟨_, L2.fun_mk ?l ?c ?k⟩
      (case l => k_is); (case c => k_is); (case k => k_is)
    case k__law_asks => k_is
    case u__law_bent =>
      refine' ⟨_, L2.fun_mk ?l ?c ?k⟩
      (case l => k_is); (case c => k_is); (case k => k_is)
    case k__law_bent => k_is
    case u__law_digits =>
      refine' ⟨_, L2.fun_mk ?l ?c ?k⟩
      (case l => k_is); (case c => k_is); (case k => k_is)
    case k__law_digits => k_is
    case u__law_drawn_fences =>
      refine' ⟨_, L2.fun_mk ?l ?c ?k⟩
      (case l => k_is); (case c => k_is); (case k => k_is)
    case k__law_drawn_fences => k_is
    case u_is_up =>
      refine' ⟨_, L2.fun_mk ?l ?c ?k⟩
      (case l => k_is); (case c => k_is); (case k => k_is)
    case k_is_up => k_is
    case u_sides =>
      refine' ⟨_, L2.fun_mk ?l ?c ?k⟩
      (case l => k_is); (case c => k_is); (case k => k_is)
    case k_sides => k_is
    case u_hinder =>
      refine' ⟨_, L2.fun_mk ?l ?c ?k⟩
      (case l => k_is); (case c => k_is); (case k => k_is)
    case k_hinder => k_is
    case u_is_key =>
      refine' ⟨_, L2.fun_mk ?l ?c ?k⟩
      (case l => k_is); (case c => k_is); (case k => k_is)
    case k_is_key => k_is
    case u_is_fence =>
      refine' ⟨_, L2.fun_mk ?l ?c ?k⟩
      (case l => k_is); (case c => k_is); (case k => k_is)
    case k_is_fence => k_is
    case u_look_at_asks =>
      refine' ⟨_, L2.fun_mk ?l ?c ?k⟩
      (case l => k_is); (case c => k_is); (case k => k_is)
    case k_look_at_asks => k_is
    case u_are_fences =>
      refine' ⟨_, L2.fun_mk ?l ?c ?k⟩
      (case l => k_is); (case c => k_is); (case k => k_is)
    case k_are_fences => k_is
    case u_floor_of =>
      refine' ⟨_, L2.fun_mk ?l ?c ?k⟩
      (case l => k_is); (case c => k_is); (case k => k_is)
    case k_floor_of => k_is
    case u__law_right =>
      refine' ⟨_, L2.fun_mk ?l ?c ?k⟩
      (case l => k_is); (case c => k_is); (case k => k_is)
    case k__law_right => k_is
    case u_law =>
      refine' ⟨_, L2.fun_mk ?l ?c ?k⟩
      (case l => k_is); (case c => k_is); (case k => k_is)
    case k_law => k_is
