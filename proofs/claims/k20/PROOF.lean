import PyProof.Rows.All
import Wide.All
import OpenK.AllK
import Wide.FinOn
import Lean
import PyProof.EqAt
import PyProof.EqKinds
import PyProof.TupleCall
import PyProof.ExcClass3
import PyProof.ExcArgsOwn
import PyProof.InstStoreFacts
import PyProof.NsDelKeeps
import PyProof.CompUse
import PyProof.ConsumeWalk
import PyProof.ReprRoads
import PyProof.ReprBulk
import PyProof.ZipIter
import PyProof.TupleIter
import PyProof.EqLayable
import PyProof.EnumMake
import PyProof.EnumFor
import PyProof.WalkInts
import PyProof.SeqI3
import PyProof.Rows.SeqJoint
import PyProof.Rows.SortWalk
import PyProof.Rows.Range3
import PyProof.P3Eq
import PySem.Challenge.RW_thirdpoint_k20_runs_looked_at
set_option Elab.async false
set_option linter.all false
set_option maxRecDepth 100000
set_option maxHeartbeats 8000000
namespace L2
open PySem PySem.Spec PyProof.Rows
abbrev Key := Sum Int Str
def zpa : Key -> Value -> Bool
  | .inl k, v => Value.isInt k v
  | .inr x, v => Value.isStrOf x v
def zsi (w : World) : Key -> Int
  | .inl k => hashInt k
  | .inr x => hashStr w x
theorem zbA : ∀ {k : Key} {v : Value}, zpa k v = true -> (∃ i t, k = Sum.inl i /\ v = Value.int i t) \/ (∃ x t, k = Sum.inr x /\ v = Value.str x t)
  | .inl i, v, h => by
    obtain ⟨t, e⟩ := Value.isInt_shape (k := i) (v := v) h
    exact .inl ⟨i, t, rfl, e⟩
  | .inr x, v, h => by
    obtain ⟨t, e⟩ := Value.isStrOf_shape (x := x) (v := v) h
    exact .inr ⟨x, t, rfl, e⟩
theorem zqm (a b : Int) : decide ((Sum.inl a : Key) = Sum.inl b) = (a == b) := by
  by_cases e : a = b
  · subst e; simp
  · have h : ¬ (Sum.inl a : Key) = Sum.inl b := fun q => e (Sum.inl.inj q)
    rw [decide_eq_false h]
    exact (beq_eq_false_iff_ne.mpr e).symm
theorem zqo (a b : Str) : decide ((Sum.inr a : Key) = Sum.inr b) = decide (a = b) := by
  by_cases e : a = b
  · subst e; simp
  · have h : ¬ (Sum.inr a : Key) = Sum.inr b := fun q => e (Sum.inr.inj q)
    rw [decide_eq_false h, decide_eq_false e]
theorem zqH (a : Int) (b : Str) : decide ((Sum.inl a : Key) = Sum.inr b) = false := decide_eq_false (fun q => nomatch q)
theorem zpp (a : Str) (b : Int) : decide ((Sum.inr a : Key) = Sum.inl b) = false := decide_eq_false (fun q => nomatch q)
def zku (prog : Program) (w : World) : PySem.KeyKind prog w Key where
  is := zpa
  hash := zsi w
  inj := fun v a b ha hb => by
    rcases zbA ha with ⟨i, t, rfl, rfl⟩ | ⟨x, t, rfl, rfl⟩
    · rcases zbA hb with ⟨j, u, rfl, e⟩ | ⟨y, u, rfl, e⟩
      · injection e with e1 _; rw [e1]
      · exact nomatch e
    · rcases zbA hb with ⟨j, u, rfl, e⟩ | ⟨y, u, rfl, e⟩
      · exact nomatch e
      · injection e with e1 _; rw [e1]
  byValue := fun k v h => by
    rcases zbA h with ⟨i, t, rfl, rfl⟩ | ⟨x, t, rfl, rfl⟩ <;> rfl
  pyHash := fun hv h => by
    rcases zbA hv with ⟨i, t, rfl, rfl⟩ | ⟨x, t, rfl, rfl⟩
    · exact wpAny_pyHash_int h
    · exact wpAny_pyHash_str h
  eqBool := fun hu hv h => by
    rcases zbA hu with ⟨i, t, rfl, rfl⟩ | ⟨x, t, rfl, rfl⟩
    · rcases zbA hv with ⟨j, u, rfl, rfl⟩ | ⟨y, u, rfl, rfl⟩
      · rw [zqm] at h; exact wpAny_eqBool_int h
      · rw [zqH] at h; exact SeqAt.EqAt.int_str i t y u _ _ _ _ h
    · rcases zbA hv with ⟨j, u, rfl, rfl⟩ | ⟨y, u, rfl, rfl⟩
      · rw [zpp] at h; exact SeqAt.EqAt.str_int x t j u _ _ _ _ h
      · rw [zqo] at h; exact wpAny_eqBool_str h
  «strs» := fun k x t v h => by
    rcases zbA h with ⟨i, u, rfl, e⟩ | ⟨y, u, rfl, e⟩
    · exact nomatch e
    · injection e with e1 _
      subst e1
      cases v <;> rfl
end L2
namespace L2
open PySem PySem.Spec PyProof.Rows
inductive V where
  | non | bl (b : Bool) | int (i : Int) | str (x : Str) | byt (b : Array UInt8) | flt (b : UInt64) | ref (a : Addr) | ty (n : String)
  deriving DecidableEq
def RelV : V -> Value -> Prop
  | .non, u => u = Value.none
  | .bl b, u => u = Value.bool b
  | .int i, u => ∃ t, u = Value.int i t
  | .str x, u => ∃ t, u = Value.str x t
  | .byt b, u => ∃ t, u = Value.bytes b t
  | .flt b, u => ∃ t, u = Value.float b t
  | .ref a, u => u = Value.ref a
  | .ty n, u => u = Value.type n
abbrev Vals : List V -> List Value -> Prop := Paired RelV
theorem Vals.length {xs : List V} {us : List Value} (r : Vals xs us) : xs.length = us.length := Paired.length r
theorem Vals.get : ∀ {xs : List V} {us : List Value} {i : Nat} {x : V}, Vals xs us -> xs[i]? = some x -> ∃ u, us[i]? = some u /\ RelV x u
  | _, _, _, _, .nil, e => by simp at e
  | _, _, 0, _, .cons r _, e => by simp at e; subst e; exact ⟨_, rfl, r⟩
  | _, _, i + 1, x, .cons _ t, e => by
    obtain ⟨u, h1, h2⟩ := Vals.get (i := i) (x := x) t (by simpa using e)
    exact ⟨u, by simpa using h1, h2⟩
theorem Vals.set {x : V} {u : Value} (r : RelV x u) : ∀ {xs : List V} {us : List Value} (i : Nat), Vals xs us -> Vals (xs.set i x) (us.set i u)
  | _, _, _, .nil => .nil
  | _, _, 0, .cons _ t => .cons r t
  | _, _, i + 1, .cons q t => .cons q (Vals.set r i t)
theorem Vals.append : ∀ {xs ys : List V} {us ws : List Value}, Vals xs us -> Vals ys ws -> Vals (xs ++ ys) (us ++ ws)
  | _, _, _, _, .nil, s => s
  | _, _, _, _, .cons r t, s => .cons r (Vals.append t s)
theorem Vals.take : ∀ {xs : List V} {us : List Value} (n : Nat), Vals xs us -> Vals (xs.take n) (us.take n)
  | _, _, 0, _ => .nil
  | _, _, _ + 1, .nil => .nil
  | _, _, n + 1, .cons r t => .cons r (Vals.take n t)
theorem Vals.drop : ∀ {xs : List V} {us : List Value} (n : Nat), Vals xs us -> Vals (xs.drop n) (us.drop n)
  | _, _, 0, r => r
  | _, _, _ + 1, .nil => .nil
  | _, _, n + 1, .cons _ t => Vals.drop n t
theorem Vals.none_of : ∀ {xs : List V} {us : List Value} {i : Nat}, Vals xs us -> xs[i]? = none -> us[i]? = none := fun {xs us i} r e => by
  have h1 := r.length
  have h2 : xs.length <= i := List.getElem?_eq_none_iff.mp e
  exact List.getElem?_eq_none_iff.mpr (by omega)
def RelO : Option V -> Option Value -> Prop
  | some v, some u => RelV v u
  | none, none => True
  | _, _ => False
def KV {κ : Type} : List (κ × V) -> List (κ × Value) -> Prop := Paired fun (p : κ × V) (q : κ × Value) => p.1 = q.1 /\ RelV p.2 q.2
def kV : Key -> V
  | .inl i => .int i
  | .inr x => .str x
inductive HO where
  | lst (xs : List V)
  | tup (xs : List V)
  | dK (kvs : List (Key × V)) | dT (kvs : List (List Key × V))
  | set (S : Int -> Bool) (n : Nat)
  | ins (C dx : Addr) (fs : List (Str × V))
  | own (x : Addr)
  | xd (fs : List (Str × V))
  | met (f x : Addr)
  | rng (lo hi : Int)
  | frz (o : Obj) (u : HO)
  | tbl (ps : Array Value)
  | ext (φ : Heap -> Prop)
abbrev Hp := Addr -> Option HO
def upd (H : Hp) (a : Addr) (o : HO) : Hp := fun b => if b = a then some o else H b
theorem za3 {H : Hp} {a : Addr} {o : HO} : upd H a o a = some o := by unfold upd; rw [if_pos rfl]
theorem zay {H : Hp} {a b : Addr} {o : HO} (h : b ≠ a) : upd H a o b = H b := by unfold upd; rw [if_neg h]
theorem zga {H : Hp} {a : Addr} {o u : HO} : upd (upd H a o) a u = upd H a u := by
  funext b; unfold upd; split <;> rfl
theorem zfQ {H : Hp} {a b : Addr} {o u : HO} (h : H a = some o) (h' : H b = some u) (d : o ≠ u) : a ≠ b := by
  intro e; subst e; rw [h] at h'; exact d (Option.some.inj h')
theorem zaQ {H : Hp} {a b : Addr} {o : HO} (h : H a = some o) (h' : H b = none) : a ≠ b := by
  intro e; subst e; rw [h] at h'; cases h'
section
variable (P : Program) (w : World)
def ObjOk (H : Hp) (h : Heap) (a : Addr) : HO -> Prop
  | .lst xs => xs.length <= sizeLine /\ ∃ (its : List Value) (n : Nat), Vals xs its /\ h.get? a = some { cls := .type "list", data := .seq its.toArray n }
  | .tup xs => xs.length <= sizeLine /\ ∃ its : List Value, Vals xs its /\ IsTup h a its.toArray
  | .dK kvs => kvs.length <= sizeLine /\ (a == sysModules) = false /\ ∃ vs, KV kvs vs /\ h.DictOf (zku P w) a vs
  | .dT kvs => kvs.length <= sizeLine /\ (a == sysModules) = false /\ ∃ xs : List (List Key × Addr × Value),
      Paired (fun (p : List Key × V) (q : List Key × Addr × Value) => p.1 = q.1 /\ H q.2.1 = some (.tup (p.1.map kV)) /\ RelV p.2 q.2.2) kvs xs /\
      ∃ o es ep, h.get? a = some o /\ o.ExactDict /\ o.data = .dict es ep /\ es.toList = xs.map (entryOfKey (tupleKind (zku P w))) /\ (xs.map (·.1)).Nodup
  | .set S n => h.SetOf (intKind P w) a S n
  | .ins C dx fs => H dx = some (.own a) /\ fs.length <= 1000 /\ dx ≠ a /\ h.get? a = some (PySem.W.instObj C dx) /\
      ∃ mA, h.Ns1 dx mA /\ (∀ f, RelO (fs.lookup f) (mA f)) /\ PySem.Within mA (fs.map (·.1))
  | .own _ => ∃ o, h.get? a = some o
  | .xd fs => ∃ mA, h.Ns1 a mA /\ ∀ f, RelO (fs.lookup f) (mA f)
  | .rng lo hi => ∃ t u v, h.get? a = some { cls := .type "range", data := .fields #[.int lo t, .int hi u, .int 1 v] }
  | .frz o u => h.get? a = some o /\ ObjOk H h a u
  | .tbl ps => h.get? a = some { cls := .none, data := .fields ps }
  | .met f x => h.get? a = some (PySem.W.methodObj (.ref f) (.ref x))
  | .ext φ => φ h /\ (∃ o, h.get? a = some o) /\ ∀ h1 h2 : Heap, φ h1 -> (∀ o, h1.get? a = some o -> h2.get? a = some o) -> φ h2
def HOk (H : Hp) (h : Heap) : Prop := ∀ a o, H a = some o -> ObjOk P w H h a o
end
section
variable {P : Program} {w : World} {H H' : Hp} {h h' : Heap} {a : Addr} {o : HO}
theorem ObjOk.lt (x : ObjOk P w H h a o) : a < h.objs.size := by
  cases o with
  | lst xs => obtain ⟨_, _, _, _, e⟩ := x; exact Heap.lt_size e
  | tup xs => obtain ⟨_, _, _, p⟩ := x; exact p.lt
  | dK kvs => obtain ⟨_, _, _, _, o, _, _, e, _⟩ := x; exact Heap.lt_size e
  | dT kvs => obtain ⟨_, _, _, _, o, _, _, e, _⟩ := x; exact Heap.lt_size e
  | set S n => obtain ⟨o, _, _, _, e, _⟩ := x; exact Heap.lt_size e
  | ins C dx fs => obtain ⟨_, _, _, e, _⟩ := x; exact Heap.lt_size e
  | own y => obtain ⟨_, e⟩ := x; exact Heap.lt_size e
  | xd fs => obtain ⟨_, ⟨_, _, _, e, _⟩, _⟩ := x; exact Heap.lt_size e
  | rng lo hi => obtain ⟨_, _, _, e⟩ := x; exact Heap.lt_size e
  | frz ob u => obtain ⟨e, _⟩ := x; exact Heap.lt_size e
  | tbl ps => exact Heap.lt_size (show h.get? a = some _ from x)
  | met f y => exact Heap.lt_size (show h.get? a = some _ from x)
  | ext φ => obtain ⟨_, ⟨_, e⟩, _⟩ := x; exact Heap.lt_size e
theorem Paired.mapP {α β : Type} {F G : α -> β -> Prop} : ∀ {l₁ : List α} {l₂ : List β}, Paired F l₁ l₂ -> (∀ a b, F a b -> G a b) -> Paired G l₁ l₂
  | _, _, .nil, _ => .nil
  | _, _, .cons r t, f => .cons (f _ _ r) (Paired.mapP t f)
theorem ObjOk.stay (x : ObjOk P w H h a o) (k : ∀ b u, (b = a \/ H b = some (.own a)) -> h.get? b = some u -> h'.get? b = some u)
    (ho : ∀ b, H b = some (.own a) -> H' b = some (.own a)) (ht : ∀ b xs, H b = some (.tup xs) -> H' b = some (.tup xs)) : ObjOk P w H' h' a o := by
  induction o with
  | lst xs => obtain ⟨z, its, n, r, e⟩ := x; exact ⟨z, its, n, r, k _ _ (.inl rfl) e⟩
  | tup xs => obtain ⟨z, its, r, ob, e, c⟩ := x; exact ⟨z, its, r, ob, k _ _ (.inl rfl) e, c⟩
  | dK kvs => obtain ⟨z, y, vs, r, ob, es, ep, e, c⟩ := x; exact ⟨z, y, vs, r, ob, es, ep, k _ _ (.inl rfl) e, c⟩
  | dT kvs =>
    obtain ⟨z, y, xs, r, ob, es, ep, e, c⟩ := x
    exact ⟨z, y, xs, Paired.mapP r fun p q z => ⟨z.1, ht _ _ z.2.1, z.2.2⟩, ob, es, ep, k _ _ (.inl rfl) e, c⟩
  | set S n => obtain ⟨ob, es, ep, t, e, c⟩ := x; exact ⟨ob, es, ep, t, k _ _ (.inl rfl) e, c⟩
  | ins C dx fs =>
    obtain ⟨d, z, ne, e, mA, ⟨od, es, ep, e2, c⟩, r⟩ := x
    exact ⟨ho _ d, z, ne, k _ _ (.inl rfl) e, mA, ⟨od, es, ep, k _ _ (.inr d) e2, c⟩, r⟩
  | own y => obtain ⟨ob, e⟩ := x; exact ⟨ob, k _ _ (.inl rfl) e⟩
  | xd fs => obtain ⟨mA, ⟨od, es, ep, e, c⟩, r⟩ := x; exact ⟨mA, ⟨od, es, ep, k _ _ (.inl rfl) e, c⟩, r⟩
  | rng lo hi => obtain ⟨t, u, v, e⟩ := x; exact ⟨t, u, v, k _ _ (.inl rfl) e⟩
  | frz ob u ih => obtain ⟨e, q⟩ := x; exact ⟨k _ _ (.inl rfl) e, ih q⟩
  | tbl ps =>
    have e : h.get? a = some { cls := .none, data := .fields ps } := x
    show h'.get? a = some { cls := .none, data := .fields ps }
    exact k a _ (.inl rfl) e
  | met f y =>
    have e : h.get? a = some (PySem.W.methodObj (.ref f) (.ref y)) := x
    show h'.get? a = some (PySem.W.methodObj (.ref f) (.ref y))
    exact k a _ (.inl rfl) e
  | ext φ => obtain ⟨p, ⟨o, e⟩, st⟩ := x; exact ⟨st _ _ p fun o q => k _ _ (.inl rfl) q, ⟨o, k _ _ (.inl rfl) e⟩, st⟩
theorem HOk.lt (x : HOk P w H h) (e : H a = some o) : a < h.objs.size := (x a o e).lt
theorem HOk.fresh (x : HOk P w H h) (e : h.objs.size <= a) : H a = none := by
  cases q : H a with
  | none => rfl
  | some u => exact absurd (Nat.lt_of_lt_of_le (x.lt q) e) (Nat.lt_irrefl _)
theorem HOk.kept (x : HOk P w H h) (k : ∀ b u, h.get? b = some u -> h'.get? b = some u) : HOk P w H h' := fun a o e =>
  (x a o e).stay (fun b u _ q => k b u q) (fun _ q => q) fun _ _ q => q
theorem HOk.laid (x : HOk P w H h) (k : ∀ b u, h.get? b = some u -> h'.get? b = some u) (hp : h.objs.size <= a) (new : ObjOk P w (upd H a o) h' a o) : HOk P w (upd H a o) h' := fun b u e => by
  have hn := x.fresh hp
  by_cases hb : b = a
  · subst hb; rw [za3] at e; cases e; exact new
  · rw [zay hb] at e
    exact (x b u e).stay (fun c v _ q => k c v q) (fun c q => by rw [zay (zaQ q hn)]; exact q) fun c xs q => by rw [zay (zaQ q hn)]; exact q
end
def Rd (H : Hp) (a : Addr) (u : HO) : Prop := H a = some u \/ ∃ o, H a = some (.frz o u)
theorem Rd.ok {P : Program} {w : World} {H : Hp} {h : Heap} {a : Addr} {u : HO} (r : Rd H a u) (x : HOk P w H h) : ObjOk P w H h a u := by
  rcases r with r | ⟨o, r⟩
  · exact x a u r
  · obtain ⟨_, q⟩ := x a _ r
    exact q
def Mut : Option HO -> Prop
  | some (.lst _) => True
  | some (.dK _) => True
  | some (.dT _) => True
  | some (.set _ _) => True
  | some (.ins _ _ _) => True
  | some (.ext _) => True
  | _ => False
section
variable {P : Program} {w : World} {H : Hp} {h h' : Heap} {x e : Addr} {o' : HO}
theorem HOk.write (ok : HOk P w H h) (mu : Mut (H x)) (he : e = x \/ H e = some (.own x)) (k : ∀ b u, b ≠ e -> h.get? b = some u -> h'.get? b = some u) (heo : ∃ u, h'.get? e = some u)
    (new : ObjOk P w (upd H x o') h' x o') : HOk P w (upd H x o') h' := fun b u q => by
  have nown : ∀ c y, H c = some (.own y) -> c ≠ x := fun c y r z => by subst z; rw [r] at mu; exact mu
  have ntup : ∀ c xs, H c = some (.tup xs) -> c ≠ x := fun c xs r z => by subst z; rw [r] at mu; exact mu
  by_cases hb : b = x
  · subst hb; rw [za3] at q; cases q; exact new
  · rw [zay hb] at q
    by_cases hbe : b = e
    · have q' : H b = some (.own x) := by
        rcases he with z | z
        · exact absurd (hbe.trans z) hb
        · rw [hbe]; exact z
      rw [q] at q'; cases q'
      obtain ⟨v, hv⟩ := heo
      exact ⟨v, by rw [hbe]; exact hv⟩
    · refine (ok b u q).stay (fun c v hc r => k c v ?_ r) (fun c r => by rw [zay (nown c b r)]; exact r) fun c xs r => by rw [zay (ntup c xs r)]; exact r
      rcases hc with rfl | hc
      · exact hbe
      · rintro rfl
        rcases he with z | z
        · exact nown c b hc z
        · rw [hc] at z; cases z; exact hb rfl
end
structure Un (fs ex : List Addr) (H H' : Hp) (h h' : Heap) : Prop where
  keep : ∀ b o, h.get? b = some o -> H b = none -> b ∉ fs -> b ∉ ex -> h'.get? b = some o
  slot : ∀ b o, h.get? b = some o -> H b = none -> b ∈ fs -> b ∉ ex -> ∃ sl, h'.get? b = some { o with slots := sl }
  free : ∀ b o, h.get? b = some o -> H b = none -> b ∉ ex -> H' b = none
  there : ∀ b o, h.get? b = some o -> b ∉ ex -> ∃ o', h'.get? b = some o'
  tups : ∀ b xs, H b = some (.tup xs) -> H' b = some (.tup xs)
  frzs : ∀ b o u, H b = some (.frz o u) -> H' b = some (.frz o u)
  tbls : ∀ b ps, H b = some (.tbl ps) -> ∃ more, H' b = some (.tbl (ps ++ more))
section
variable {fs fs' ex ex' : List Addr} {H H1 H2 : Hp} {h h1 h2 h' : Heap} {a x e : Addr} {o : HO}
theorem Un.any (u : Un fs ex H H1 h h1) {b : Addr} {ob : Obj} (q : h.get? b = some ob) (n : H b = none) (hx : b ∉ ex) : ∃ sl, h1.get? b = some { ob with slots := sl } := by
  by_cases hb : b ∈ fs
  · exact u.slot b ob q n hb hx
  · exact ⟨ob.slots, u.keep b ob q n hb hx⟩
theorem Un.kept (k : ∀ b u, h.get? b = some u -> h'.get? b = some u) : Un fs ex H H h h' :=
  ⟨fun b ob q _ _ _ => k b ob q, fun b ob q _ _ _ => ⟨ob.slots, k b ob q⟩, fun _ _ _ n _ => n, fun b ob q _ => ⟨ob, k b ob q⟩, fun _ _ q => q, fun _ _ _ q => q, fun _ ps q => ⟨#[], by rw [q]; simp⟩⟩
theorem Un.refl : Un fs ex H H h h := Un.kept fun _ _ q => q
theorem Un.laid (k : ∀ b u, h.get? b = some u -> h'.get? b = some u) (hp : h.objs.size <= a) (hn : H a = none) : Un fs ex H (upd H a o) h h' where
  keep := fun b u q _ _ _ => k b u q
  slot := fun b u q _ _ _ => ⟨u.slots, k b u q⟩
  free := fun b u q n _ => by rw [zay (Nat.ne_of_lt (Nat.lt_of_lt_of_le (Heap.lt_size q) hp))]; exact n
  there := fun b u q _ => ⟨u, k b u q⟩
  tups := fun b xs q => by rw [zay (zaQ q hn)]; exact q
  frzs := fun b u xs q => by rw [zay (zaQ q hn)]; exact q
  tbls := fun b ps q => ⟨#[], by rw [zay (zaQ q hn), q]; simp⟩
theorem Un.write (mu : Mut (H x)) (he : e = x \/ H e = some (.own x)) (k : ∀ b u, b ≠ e -> h.get? b = some u -> h'.get? b = some u) (heo : ∃ u, h'.get? e = some u) : Un fs ex H (upd H x o) h h' := by
  have hx : ∀ b, H b = none -> b ≠ x := fun b n z => by subst z; rw [n] at mu; exact mu
  have hb : ∀ b, H b = none -> b ≠ e := fun b n z => by
    subst z
    rcases he with r | r
    · exact hx b n r
    · rw [n] at r; cases r
  have hm : ∀ b u, H b = some u -> ¬ Mut (some u) -> b ≠ x := fun b u q nm z => by subst z; rw [q] at mu; exact nm mu
  refine ⟨fun b u q n _ _ => k b u (hb b n) q, fun b u q n _ _ => ⟨u.slots, k b u (hb b n) q⟩, fun b u q n _ => by rw [zay (hx b n)]; exact n, fun b u q _ => ?_,
    fun b xs q => by rw [zay (hm b _ q fun z => z)]; exact q, fun b u xs q => by rw [zay (hm b _ q fun z => z)]; exact q, fun b ps q => ⟨#[], by rw [zay (hm b _ q fun z => z), q]; simp⟩⟩
  by_cases hbe : b = e
  · subst hbe; exact heo
  · exact ⟨u, k b u hbe q⟩
end
def trk (h : Heap) (H : Hp) : List Addr := (List.range h.objs.size).filter fun a => (H a).isSome
def zia (h : Heap) (H : Hp) : Heap := PySem.W.hideAll h (trk h H)
theorem zlD (h : Heap) (H : Hp) : (zia h H).objs.size = h.objs.size := PySem.W.hideAll_size _ _
theorem znr {h : Heap} {H : Hp} {b : Addr} {o : Obj} (e : h.get? b = some o) (n : H b = none) : (zia h H).get? b = some o :=
  PySem.W.hideAll_get _ e fun hm => by
    have q : (H b).isSome = true := (List.mem_filter.mp hm).2
    rw [n] at q; simp at q
theorem zor {h : Heap} {H : Hp} {b : Addr} {o : Obj} (e : (zia h H).get? b = some o) : h.get? b = some o /\ H b = none := by
  have e' : h.get? b = some o := PySem.W.of_hideAll (trk h H) e
  refine ⟨e', ?_⟩
  cases q : H b with
  | none => rfl
  | some x =>
    have hm : b ∈ trk h H := List.mem_filter.mpr ⟨List.mem_range.mpr (Heap.lt_size e'), by simp [q]⟩
    have z : (zia h H).get? b = none := PySem.W.hideAll_none (trk h H) hm
    rw [z] at e; cases e
end L2
namespace L2
open PySem PySem.Spec PyProof.Rows
structure Mod (K : PySem.W.Frag) (mg : Str -> Option Value) (base : Heap) : Prop where
  kin : K.In base
  glob : base.Ns mainGlobals mg
  blt : ∃ mb, base.Ns builtinsNs mb /\ ∀ x : Str, x ≠ "__name__" -> mb x = bootBuiltins x
  nolimit : base.NoLimit
structure Cx where
  prog : Program
  w : World
  K : PySem.W.Frag
  mg : Str -> Option Value
  base : Heap
  A : Around
  N : List Str
  s₀ : Shared
  H₀ : Hp
  env : Env
  outer : List Env
  stack : List Env
  ex : List Addr
  fn : Str -> Bool
  calm : Bool
  pn : List (Addr × Obj)
  xe : Value -> Shared -> Prop
def frs (l : List Env) : List Addr := l.filterMap (·.frame)
abbrev Cx.fs (X : Cx) : List Addr := frs X.outer
def Vis (sc : Scope) (x : Str) : Prop := sc.names.lookup x = some .local \/ sc.names.lookup x = some .cell \/ sc.names.lookup x = some .free
def Loc (sc : Scope) (x : Str) : Prop := sc.names.lookup x = some .local \/ sc.names.lookup x = some .cell
def Look (env : Env) (h : Heap) (m : Str -> Option Value) (x : Str) (u : Value) : Prop :=
  (env.kindOf x = some .local /\ m x = some u) \/ ((env.kindOf x = some .cell \/ env.kindOf x = some .free) /\ ∃ c, env.cells.lookup x = some c /\ h.IsCell c (some u))
structure Cx.Ok (X : Cx) : Prop where
  mod : Mod X.K X.mg X.base
  kind : X.env.scope.kind = .function
  glob : X.env.globals = mainGlobals
  blt : X.env.builtins = builtinsNs
  above : X.s₀.heap.objs.size <= X.env.locals
  inj : ∀ x y c, X.env.cells.lookup x = some c -> X.env.cells.lookup y = some c -> x = y
  has : ∀ x, (X.env.kindOf x = some .cell \/ X.env.kindOf x = some .free) -> ∃ c, X.env.cells.lookup x = some c
  cab : ∀ x c, X.fn x = true -> X.env.cells.lookup x = some c -> X.s₀.heap.objs.size <= c
  hd : X.calm = true -> X.A.handled = none
  frames : X.A.frames = some X.stack
  stk : X.stack = X.outer \/ (X.stack = X.env :: X.outer /\ X.env.frame = some X.env.locals)
  exf : ∀ b ∈ X.ex, b ≠ X.env.locals /\ ∀ x c, X.env.cells.lookup x = some c -> c ≠ b
  bs : ∀ b o, X.base.get? b = some o -> X.s₀.heap.get? b = some o /\ X.H₀ b = none
  bsz : X.base.objs.size <= X.s₀.heap.objs.size
  noex : ∀ b o, X.base.get? b = some o -> b ∉ X.ex
  exfs : ∀ b ∈ X.ex, b ∉ X.fs
  funs : X.s₀.heap.FunFrames X.base X.outer
  frf : ∀ b ∈ X.fs, X.H₀ b = none
structure Inv (X : Cx) (pins : List (Addr × Obj)) (σ : List (Option V)) (H : Hp) (s : Shared) : Prop where
  ok : X.Ok
  os : s.os = X.s₀.os
  bare : AllBare s.gens
  base : Un X.fs X.ex X.H₀ H X.s₀.heap s.heap
  loc : ∃ m, s.heap.Ns X.env.locals m /\ ∀ (i : Nat) (x : Str) (v : V), X.N[i]? = some x -> σ[i]? = some (some v) -> Vis X.env.scope x -> ∃ u, RelV v u /\ Look X.env s.heap m x u
  cell : ∀ x c, X.env.cells.lookup x = some c -> ∃ v, s.heap.IsCell c v
  free : H X.env.locals = none
  freeC : ∀ x c, X.env.cells.lookup x = some c -> H c = none
  pin : ∀ p ∈ X.pn ++ pins, s.heap.get? p.1 = some p.2 /\ H p.1 = none /\ p.1 ≠ X.env.locals /\ p.1 ∉ X.fs /\ ∀ v, p.2.data ≠ .cell v
  hok : HOk X.prog X.w H s.heap
  len : σ.length = X.N.length
section
variable {X : Cx} {pins : List (Addr × Obj)} {σ : List (Option V)} {H H' : Hp} {s : Shared} {h' : Heap}
theorem Cx.Ok.nofr (ok : X.Ok) {b : Addr} {o : Obj} (e : X.base.get? b = some o) : b ∉ X.fs := fun hb => by
  have := (ok.funs.mem hb).1
  rw [e] at this; cases this
theorem Inv.bs (I : Inv X pins σ H s) : ∀ b o, X.base.get? b = some o -> s.heap.get? b = some o /\ H b = none := fun b o e =>
  ⟨I.base.keep b o (I.ok.bs b o e).1 (I.ok.bs b o e).2 (I.ok.nofr e) (I.ok.noex b o e), I.base.free b o (I.ok.bs b o e).1 (I.ok.bs b o e).2 (I.ok.noex b o e)⟩
theorem Inv.bk (I : Inv X pins σ H s) : ∀ b o, X.base.get? b = some o -> s.heap.get? b = some o := fun b o e => (I.bs b o e).1
theorem Inv.mod (I : Inv X pins σ H s) : Mod X.K X.mg X.base := I.ok.mod
theorem Inv.kIn (I : Inv X pins σ H s) : X.K.In s.heap := I.ok.mod.kin.keeps I.bk
theorem Inv.fr (I : Inv X pins σ H s) : ∃ m, Fr X.base X.env.locals s.heap m :=
  let ⟨m, hn, _⟩ := I.loc
  ⟨m, hn, I.bk, Nat.le_trans I.ok.bsz I.ok.above⟩
theorem Inv.lt (I : Inv X pins σ H s) : X.env.locals < s.heap.objs.size := let ⟨_, hn, _⟩ := I.loc; hn.lt
theorem Inv.sz (I : Inv X pins σ H s) : X.s₀.heap.objs.size <= s.heap.objs.size := Nat.le_trans I.ok.above (Nat.le_of_lt I.lt)
theorem Inv.nofs (I : Inv X pins σ H s) {a : Addr} (h : s.heap.objs.size <= a) : a ∉ X.fs := fun hb => by
  obtain ⟨_, o, ho, _⟩ := I.ok.funs.mem hb
  exact absurd (Nat.lt_of_lt_of_le (Heap.lt_size ho) (Nat.le_trans I.sz h)) (Nat.lt_irrefl _)
theorem Inv.cne (I : Inv X pins σ H s) : ∀ x c, X.env.cells.lookup x = some c -> c ≠ X.env.locals := fun x c e z => by
  obtain ⟨v, o, ho, hd⟩ := I.cell x c e
  obtain ⟨m, ⟨o', es, ep, ho', hd', _⟩, _⟩ := I.loc
  rw [z, ho'] at ho; cases ho; rw [hd'] at hd; cases hd
theorem Inv.funs (I : Inv X pins σ H s) : s.heap.FunFrames X.base X.outer := by
  have all : ∀ (l : List Env), (∀ b ∈ frs l, b ∈ X.fs) -> X.s₀.heap.FunFrames X.base l -> s.heap.FunFrames X.base l := by
    intro l
    induction l with
    | nil => intro _ _; trivial
    | cons env r ih =>
      intro hs hl
      obtain ⟨hk, ⟨L, o, hf, hn, ho, hd⟩, hr⟩ := hl
      have hL : L ∈ X.fs := hs L (by unfold frs; rw [List.filterMap_cons, hf]; exact List.mem_cons_self)
      obtain ⟨sl, e⟩ := I.base.slot L o ho (I.ok.frf L hL) hL fun z => I.ok.exfs L z hL
      exact ⟨hk, ⟨L, _, hf, hn, e, hd⟩, ih (fun b hb => hs b (by unfold frs; rw [List.filterMap_cons, hf]; exact List.mem_cons_of_mem _ hb)) hr⟩
  exact all X.outer (fun _ hb => hb) I.ok.funs
theorem Inv.stack (I : Inv X pins σ H s) : s.heap.FunFrames X.base X.stack := by
  rcases I.ok.stk with e | ⟨e, hf⟩
  · rw [e]; exact I.funs
  · rw [e]
    obtain ⟨m, hn, _⟩ := I.loc
    refine .cons (by rw [I.ok.kind]; decide) hf hn ?_ I.funs
    exact Heap.get?_none_of_le (Nat.le_trans I.ok.bsz I.ok.above)
theorem Inv.stkSub (I : Inv X pins σ H s) : ∀ b ∈ frs X.stack, b ∈ X.env.locals :: X.fs := fun b hb => by
  rcases I.ok.stk with e | ⟨e, hf⟩
  · rw [e] at hb; exact List.mem_cons_of_mem _ hb
  · rw [e] at hb
    unfold frs at hb
    rw [List.filterMap_cons, hf] at hb
    exact hb
theorem Inv.stkFree (I : Inv X pins σ H s) : ∀ b ∈ frs X.stack, H b = none := fun b hb => by
  rcases List.mem_cons.mp (I.stkSub b hb) with e | hb
  · rw [e]; exact I.free
  · obtain ⟨_, o, ho, _⟩ := I.ok.funs.mem hb
    exact I.base.free b o ho (I.ok.frf b hb) fun z => I.ok.exfs b z hb
theorem Inv.step {g' : Array GenState} {t' : Nat} {d' : Drawn} {ch : List Addr} (I : Inv X pins σ H s)
    (hch : ∀ b ∈ ch, (b ∈ X.ex \/ X.s₀.heap.objs.size <= b) /\ b ≠ X.env.locals /\ (∀ x c, X.env.cells.lookup x = some c -> c ≠ b) /\ ∀ p ∈ X.pn ++ pins, p.1 ≠ b)
    (keep : ∀ b o, b ≠ X.env.locals -> b ∉ X.fs -> b ∉ ch -> s.heap.get? b = some o -> H b = none -> h'.get? b = some o)
    (slot : ∀ b o, b ≠ X.env.locals -> b ∈ X.fs -> b ∉ ch -> s.heap.get? b = some o -> H b = none -> ∃ sl, h'.get? b = some { o with slots := sl }) (free : ∀ b o, b ∉ ch -> s.heap.get? b = some o -> H b = none -> H' b = none)
    (there : ∀ b o, b ∉ ch -> s.heap.get? b = some o -> ∃ o', h'.get? b = some o')
    (tups : ∀ b xs, H b = some (.tup xs) -> H' b = some (.tup xs)) (frzs : ∀ b o u, H b = some (.frz o u) -> H' b = some (.frz o u)) (tbls : ∀ b ps, H b = some (.tbl ps) -> ∃ more, H' b = some (.tbl (ps ++ more)))
    (ns : ∀ m, s.heap.Ns X.env.locals m -> h'.Ns X.env.locals m) (hok : HOk X.prog X.w H' h') (hg : AllBare g') :
    Inv X pins σ H' { s with heap := h', gens := g', drawn := d', toks := t' } := by
  have neL : ∀ b o, X.s₀.heap.get? b = some o -> b ≠ X.env.locals := fun b o e => Nat.ne_of_lt (Nat.lt_of_lt_of_le (Heap.lt_size e) I.ok.above)
  have neC : ∀ b o, X.s₀.heap.get? b = some o -> b ∉ X.ex -> b ∉ ch := fun b o e hx hb => by
    rcases (hch b hb).1 with z | z
    · exact hx z
    · exact absurd (Nat.lt_of_lt_of_le (Heap.lt_size e) z) (Nat.lt_irrefl _)
  have cellK : ∀ x c, X.env.cells.lookup x = some c -> ∀ v, s.heap.IsCell c v -> h'.IsCell c v := fun x c e v ⟨o, ho, hd⟩ => by
    have nch : c ∉ ch := fun z => (hch c z).2.2.1 x c e rfl
    by_cases hc : c ∈ X.fs
    · obtain ⟨sl, q⟩ := slot c o (I.cne x c e) hc nch ho (I.freeC x c e)
      exact ⟨_, q, hd⟩
    · exact ⟨o, keep c o (I.cne x c e) hc nch ho (I.freeC x c e), hd⟩
  refine ⟨I.ok, I.os, hg, ⟨fun b o e n hb hx => ?_, fun b o e n hb hx => ?_, fun b o e n hx => ?_, fun b o e hx => ?_, fun b xs e => tups b xs (I.base.tups b xs e), fun b o xs e => frzs b o xs (I.base.frzs b o xs e), fun b ps e => ?_⟩, ?_, fun x c e => ?_, ?_, fun x c e => ?_, fun p hp => ?_, hok, I.len⟩
  · exact keep b o (neL b o e) hb (neC b o e hx) (I.base.keep b o e n hb hx) (I.base.free b o e n hx)
  · obtain ⟨sl, e1⟩ := I.base.slot b o e n hb hx
    obtain ⟨sl', e2⟩ := slot b _ (neL b o e) hb (neC b o e hx) e1 (I.base.free b o e n hx)
    exact ⟨sl', e2⟩
  · obtain ⟨o', e1⟩ := I.base.there b o e hx
    exact free b o' (neC b o e hx) e1 (I.base.free b o e n hx)
  · obtain ⟨o', e1⟩ := I.base.there b o e hx
    exact there b o' (neC b o e hx) e1
  · obtain ⟨m1, e1⟩ := I.base.tbls b ps e
    obtain ⟨m2, e2⟩ := tbls b _ e1
    exact ⟨m1 ++ m2, by rw [e2, Array.append_assoc]⟩
  · obtain ⟨m, hn, hl⟩ := I.loc
    refine ⟨m, ns m hn, fun i x v e1 e2 e3 => ?_⟩
    obtain ⟨u, r, l⟩ := hl i x v e1 e2 e3
    refine ⟨u, r, ?_⟩
    rcases l with l | ⟨k, c, e, z⟩
    · exact .inl l
    · exact .inr ⟨k, c, e, cellK x c e _ z⟩
  · obtain ⟨v, z⟩ := I.cell x c e
    exact ⟨v, cellK x c e v z⟩
  · obtain ⟨m, ⟨o, _, _, ho, _⟩, _⟩ := I.loc
    exact free _ o (fun z => (hch _ z).2.1 rfl) ho I.free
  · obtain ⟨v, o, ho, hd⟩ := I.cell x c e
    exact free c o (fun z => (hch c z).2.2.1 x c e rfl) ho (I.freeC x c e)
  · obtain ⟨e, n, ne, nf, d⟩ := I.pin p hp
    have nch : p.1 ∉ ch := fun z => (hch p.1 z).2.2.2 p hp rfl
    exact ⟨keep p.1 p.2 ne nf nch e n, free p.1 p.2 nch e n, ne, nf, d⟩
theorem Inv.un {t' : Nat} (I : Inv X pins σ H s) (u : Un X.fs [] H H' s.heap h') (hok : HOk X.prog X.w H' h') : Inv X pins σ H' { s with heap := h', toks := t' } := by
  obtain ⟨m, ⟨o, es, ep, ho, r⟩, _⟩ := id I.loc
  obtain ⟨sl, hL⟩ := u.any ho I.free (by simp)
  exact I.step (g' := s.gens) (d' := s.drawn) (ch := []) (fun _ z => nomatch z) (fun b o _ hb _ e n => u.keep b o e n hb (by simp)) (fun b o _ hb _ e n => u.slot b o e n hb (by simp)) (fun b o _ e n => u.free b o e n (by simp)) (fun b o _ e => u.there b o e (by simp)) u.tups u.frzs u.tbls (fun m' hm => by
    obtain ⟨o', es', ep', ho', r'⟩ := hm
    rw [ho] at ho'; cases ho'
    exact ⟨_, es', ep', hL, r'⟩) hok I.bare
theorem Inv.call {g' : Array GenState} {t' : Nat} {d' : Drawn} {ch : List Addr} (I : Inv X pins σ H s) (u : Un (frs X.stack) ch H H' s.heap h') (hok : HOk X.prog X.w H' h') (hg : AllBare g')
    (hch : ∀ b ∈ ch, (b ∈ X.ex \/ X.s₀.heap.objs.size <= b) /\ b ≠ X.env.locals /\ (∀ x c, X.env.cells.lookup x = some c -> c ≠ b) /\ ∀ p ∈ X.pn ++ pins, p.1 ≠ b) :
    Inv X pins σ H' { s with heap := h', gens := g', drawn := d', toks := t' } := by
  obtain ⟨m, ⟨o, es, ep, ho, r⟩, _⟩ := id I.loc
  obtain ⟨sl, hL⟩ := u.any ho I.free fun z => (hch _ z).2.1 rfl
  exact I.step (ch := ch) hch (fun b o hL hb hc e n => u.keep b o e n (fun z => (List.mem_cons.mp (I.stkSub b z)).elim hL hb) hc) (fun b o _ _ hc e n => u.any e n hc) (fun b o hc e n => u.free b o e n hc) (fun b o hc e => u.there b o e hc) u.tups u.frzs u.tbls (fun m' hm => by
    obtain ⟨o', es', ep', ho', r'⟩ := hm
    rw [ho] at ho'; cases ho'
    exact ⟨_, es', ep', hL, r'⟩) hok hg
theorem Inv.turned {t' : Nat} {it : Addr} (I : Inv X pins σ H s) (k : ∀ b o, b ≠ it -> s.heap.get? b = some o -> h'.get? b = some o) (hn : H it = none) (hL : it ≠ X.env.locals)
    (h1 : it ∈ X.ex \/ X.s₀.heap.objs.size <= it) (h2 : ∀ x c, X.env.cells.lookup x = some c -> c ≠ it) (h3 : ∀ p ∈ X.pn ++ pins, p.1 ≠ it) : Inv X pins σ H { s with heap := h', toks := t' } := by
  have nit : ∀ b u, H b = some u -> b ≠ it := fun b u e z => by rw [z, hn] at e; cases e
  refine I.step (g' := s.gens) (d' := s.drawn) (ch := [it]) (fun b hb => ?_) (fun b o _ _ hc e _ => k b o (fun z => hc (by simp [z])) e) (fun b o _ _ hc e _ => ⟨o.slots, k b o (fun z => hc (by simp [z])) e⟩) (fun _ _ _ _ n => n)
    (fun b o hc e => ⟨o, k b o (fun z => hc (by simp [z])) e⟩) (fun _ _ e => e) (fun _ _ _ e => e) (fun b ps e => ⟨#[], by rw [e]; simp⟩) (fun m hm => ?_) (fun b u e => ?_) I.bare
  · have e : b = it := by simpa using hb
    subst e
    exact ⟨h1, hL, h2, h3⟩
  · obtain ⟨o, es, ep, ho, r⟩ := hm
    exact ⟨o, es, ep, k _ o (Ne.symm hL) ho, r⟩
  · refine (I.hok b u e).stay (fun c v hc q => k c v ?_ q) (fun _ q => q) fun _ _ q => q
    rcases hc with z | z
    · rw [z]; exact nit b u e
    · exact nit c _ z
theorem Inv.tok (I : Inv X pins σ H s) (t : Nat) : Inv X pins σ H { s with toks := t } := I.un (h' := s.heap) (t' := t) Un.refl I.hok
theorem Inv.kept {t' : Nat} (I : Inv X pins σ H s) (k : ∀ b u, s.heap.get? b = some u -> h'.get? b = some u) : Inv X pins σ H { s with heap := h', toks := t' } := I.un (Un.kept k) (I.hok.kept k)
theorem Inv.laid {a : Addr} {o : HO} {t' : Nat} (I : Inv X pins σ H s) (k : ∀ b u, s.heap.get? b = some u -> h'.get? b = some u) (hp : s.heap.objs.size <= a) (new : ObjOk X.prog X.w (upd H a o) h' a o) :
    Inv X pins σ (upd H a o) { s with heap := h', toks := t' } := I.un (Un.laid k hp (I.hok.fresh hp)) (I.hok.laid k hp new)
theorem Inv.write {x e : Addr} {o : HO} {t' : Nat} (I : Inv X pins σ H s) (mu : Mut (H x)) (he : e = x \/ H e = some (.own x)) (k : ∀ b u, b ≠ e -> s.heap.get? b = some u -> h'.get? b = some u) (heo : ∃ u, h'.get? e = some u)
    (new : ObjOk X.prog X.w (upd H x o) h' x o) : Inv X pins σ (upd H x o) { s with heap := h', toks := t' } := I.un (Un.write mu he k heo) (I.hok.write mu he k heo new)
theorem Inv.weak {σ' : List (Option V)} (I : Inv X pins σ H s) (hl : σ'.length = σ.length) (w : ∀ (i : Nat) v, σ'[i]? = some (some v) -> σ[i]? = some (some v)) : Inv X pins σ' H s :=
  ⟨I.ok, I.os, I.bare, I.base, let ⟨m, hn, hl'⟩ := I.loc; ⟨m, hn, fun i x v e1 e2 e3 => hl' i x v e1 (w i v e2) e3⟩, I.cell, I.free, I.freeC, I.pin, I.hok, hl.trans I.len⟩
theorem Inv.pins_of {pins' : List (Addr × Obj)} (I : Inv X pins σ H s) (h : ∀ p ∈ pins', s.heap.get? p.1 = some p.2 /\ H p.1 = none /\ p.1 ≠ X.env.locals /\ p.1 ∉ X.fs /\ ∀ v, p.2.data ≠ .cell v) : Inv X pins' σ H s :=
  ⟨I.ok, I.os, I.bare, I.base, I.loc, I.cell, I.free, I.freeC, fun p hp => (List.mem_append.mp hp).elim (fun z => I.pin p (List.mem_append_left _ z)) (h p), I.hok, I.len⟩
theorem zgF {N : List Str} (hN : N.Nodup) {i j : Nat} {x : Str} (a : N[i]? = some x) (b : N[j]? = some x) : i = j := by
  obtain ⟨h1, e1⟩ := List.getElem?_eq_some_iff.mp a
  obtain ⟨h2, e2⟩ := List.getElem?_eq_some_iff.mp b
  exact (List.getElem_inj hN).mp (e1.trans e2.symm)
theorem zlF {M : Model} {A : Around} {E : Value -> Shared -> Prop} {i : Nat} {x : Str} {v : V} {u : Value} {Q : Unit -> Shared -> Prop} (I : Inv X pins σ H s) (hN : X.N.Nodup) (hi : X.N[i]? = some x) (hx : Loc X.env.scope x) (r : RelV v u)
    (h : ∀ s', Inv X pins (σ.set i (some v)) H s' -> (∃ a, Heap.SameBut a s.heap s'.heap /\ (a = X.env.locals \/ X.env.cells.lookup x = some a)) -> Q () s') (hf : X.fn x = true \/ X.env.scope.names.lookup x = some .local := by first | exact .inl rfl | exact .inr rfl | assumption) : wpAny M A (storeName X.env x u) Q E s := by
  obtain ⟨m, hn, hl⟩ := id I.loc
  have hcls : (X.env.scope.kind == .class || (X.env.scope.kind == .module && X.env.locals != X.env.globals)) = false := by rw [I.ok.kind]; rfl
  have hiσ : i < σ.length := by rw [I.len]; exact (List.getElem?_eq_some_iff.mp hi).1
  have cne := I.cne
  have tracked : ∀ {a : Addr} {h' : Heap}, (∃ o, s.heap.get? a = some o /\ H a = none) -> Heap.SameBut a s.heap h' -> HOk X.prog X.w H h' := fun {a h'} ha hs b ob e => by
    obtain ⟨_, _, hfree⟩ := ha
    refine (I.hok b ob e).stay (fun c w' hc q => (hs.2 c ?_).trans q) (fun _ q => q) fun _ _ q => q
    rintro rfl
    rcases hc with rfl | hc
    · rw [hfree] at e; cases e
    · rw [hfree] at hc; cases hc
  rcases hx with hk | hk
  · refine wpAny_storeName_local hk hn (fun h' hn' hs => ?_) hcls
    obtain ⟨oL, _, _, hoL, _⟩ := id hn
    refine h _ ⟨I.ok, I.os, I.bare, ⟨fun b o e n hb hx => ?_, fun b o e n hb hx => ?_, I.base.free, fun b o e hx => ?_, I.base.tups, I.base.frzs, I.base.tbls⟩, ⟨_, hn', fun j y v' e1 e2 e3 => ?_⟩, fun y c e => ?_, I.free, I.freeC, fun p hp => ?_, tracked ⟨oL, hoL, I.free⟩ hs, by simpa using I.len⟩ ⟨_, hs, .inl rfl⟩
    · exact (hs.2 b (Nat.ne_of_lt (Nat.lt_of_lt_of_le (Heap.lt_size e) I.ok.above))).trans (I.base.keep b o e n hb hx)
    · obtain ⟨sl, e1⟩ := I.base.slot b o e n hb hx
      exact ⟨sl, (hs.2 b (Nat.ne_of_lt (Nat.lt_of_lt_of_le (Heap.lt_size e) I.ok.above))).trans e1⟩
    · obtain ⟨o', e1⟩ := I.base.there b o e hx
      exact ⟨o', (hs.2 b (Nat.ne_of_lt (Nat.lt_of_lt_of_le (Heap.lt_size e) I.ok.above))).trans e1⟩
    · by_cases hj : j = i
      · subst hj
        rw [hi] at e1; cases e1
        rw [List.getElem?_set_self hiσ] at e2
        cases e2
        exact ⟨u, r, .inl ⟨hk, by simp⟩⟩
      · rw [List.getElem?_set_ne (Ne.symm hj)] at e2
        obtain ⟨u', r', q⟩ := hl j y v' e1 e2 e3
        refine ⟨u', r', ?_⟩
        rcases q with ⟨k, e⟩ | ⟨k, c, e, z⟩
        · refine .inl ⟨k, ?_⟩
          have : y ≠ x := fun e => hj (zgF hN e1 (e ▸ hi))
          simp [this, e]
        · exact .inr ⟨k, c, e, z.sameBut hs (cne y c e)⟩
    · obtain ⟨w', z⟩ := I.cell y c e
      exact ⟨w', z.sameBut hs (cne y c e)⟩
    · obtain ⟨e, n, ne, nf, d⟩ := I.pin p hp
      exact ⟨(hs.2 p.1 ne).trans e, n, ne, nf, d⟩
  · have hfn : X.fn x = true := by
      rcases hf with z | z
      · exact z
      · rw [z] at hk; cases hk
    obtain ⟨c, hc⟩ := I.ok.has x (.inl hk)
    obtain ⟨w', z⟩ := I.cell x c hc
    refine wpAny_storeName_cell I.ok.kind hk hc z (fun h' hc' hs => ?_)
    obtain ⟨oc, hoc, hocd⟩ := id z
    refine h { s with heap := h' } ⟨I.ok, I.os, I.bare, ⟨fun b o e n hb hx => ?_, fun b o e n hb hx => ?_, I.base.free, fun b o e hx => ?_, I.base.tups, I.base.frzs, I.base.tbls⟩, ⟨m, hn.sameBut hs (Ne.symm (cne x c hc)), fun j y v' e1 e2 e3 => ?_⟩, fun y c' e => ?_, I.free, I.freeC, fun p hp => ?_, tracked ⟨oc, hoc, I.freeC x c hc⟩ hs, by simpa using I.len⟩ ⟨c, hs, .inr hc⟩
    · exact (hs.2 b (Nat.ne_of_lt (Nat.lt_of_lt_of_le (Heap.lt_size e) (I.ok.cab x c hfn hc)))).trans (I.base.keep b o e n hb hx)
    · obtain ⟨sl, e1⟩ := I.base.slot b o e n hb hx
      exact ⟨sl, (hs.2 b (Nat.ne_of_lt (Nat.lt_of_lt_of_le (Heap.lt_size e) (I.ok.cab x c hfn hc)))).trans e1⟩
    · obtain ⟨o', e1⟩ := I.base.there b o e hx
      exact ⟨o', (hs.2 b (Nat.ne_of_lt (Nat.lt_of_lt_of_le (Heap.lt_size e) (I.ok.cab x c hfn hc)))).trans e1⟩
    · by_cases hj : j = i
      · subst hj
        rw [hi] at e1; cases e1
        rw [List.getElem?_set_self hiσ] at e2
        cases e2
        exact ⟨u, r, .inr ⟨.inl hk, c, hc, hc'⟩⟩
      · rw [List.getElem?_set_ne (Ne.symm hj)] at e2
        obtain ⟨u', r', q⟩ := hl j y v' e1 e2 e3
        refine ⟨u', r', ?_⟩
        rcases q with q | ⟨k, c', e, z'⟩
        · exact .inl q
        · refine .inr ⟨k, c', e, z'.sameBut hs ?_⟩
          rintro rfl
          exact hj (zgF hN e1 (I.ok.inj _ _ _ e hc ▸ hi))
    · by_cases hcc : c' = c
      · subst hcc; exact ⟨_, hc'⟩
      · obtain ⟨w2, z2⟩ := I.cell y c' e
        exact ⟨w2, z2.sameBut hs hcc⟩
    · obtain ⟨e, n, ne, nf, d⟩ := I.pin p hp
      refine ⟨(hs.2 p.1 ?_).trans e, n, ne, nf, d⟩
      intro q
      rw [q, hoc] at e
      have q' : oc = p.2 := Option.some.inj e
      exact d w' (by rw [<- q']; exact hocd)
theorem zfb {M : Model} {A : Around} {E : Value -> Shared -> Prop} {i : Nat} {x : Str} {v : V} {u : Value} {Q : Unit -> Shared -> Prop} (I : Inv X pins σ H s) (hN : X.N.Nodup) (hi : X.N[i]? = some x) (hx : Loc X.env.scope x) (r : RelV v u)
    (h : ∀ s', Inv X pins (σ.set i (some v)) H s' -> Q () s') (hf : X.fn x = true \/ X.env.scope.names.lookup x = some .local := by first | exact .inl rfl | exact .inr rfl | assumption) : wpAny M A (storeName X.env x u) Q E s :=
  zlF I hN hi hx r (fun s' I' _ => h s' I') hf
theorem Inv.call' {s' : Shared} {ch : List Addr} (I : Inv X pins σ H s) (ho : s'.os = s.os) (u : Un (frs X.stack) ch H H' s.heap s'.heap) (hok : HOk X.prog X.w H' s'.heap) (hg : AllBare s'.gens)
    (hch : ∀ b ∈ ch, (b ∈ X.ex \/ X.s₀.heap.objs.size <= b) /\ b ≠ X.env.locals /\ (∀ x c, X.env.cells.lookup x = some c -> c ≠ b) /\ ∀ p ∈ X.pn ++ pins, p.1 ≠ b) : Inv X pins σ H' s' := by
  obtain ⟨h', g', d', t', o'⟩ := s'
  have e : o' = s.os := ho
  subst e
  exact I.call (g' := g') (t' := t') (d' := d') u hok hg hch
end
abbrev XK := Value -> Option Addr -> Hp -> Prop
abbrev St := List (Option V)
abbrev VK := V -> Hp -> Prop
abbrev TE := St -> Hp -> VK -> Prop
abbrev TT := St -> Hp -> (Bool -> Hp -> Prop) -> Prop
abbrev TA := St -> Hp -> (List V -> Hp -> Prop) -> Prop
structure Ends where
  nx : St -> Hp -> Prop
  rt : VK
  bk : St -> Hp -> Prop := fun _ _ => False
  ct : St -> Hp -> Prop := fun _ _ => False
abbrev TS := Ends -> St -> Hp -> Prop
def EP (X : Cx) (pins : List (Addr × Obj)) (σ : St) (Q : VK) (u : Value) (s' : Shared) : Prop := ∃ v H', Inv X pins σ H' s' /\ RelV v u /\ Q v H'
def TP (X : Cx) (pins : List (Addr × Obj)) (σ : St) (Q : Bool -> Hp -> Prop) (b : Bool) (s' : Shared) : Prop := ∃ H', Inv X pins σ H' s' /\ Q b H'
def AP (X : Cx) (pins : List (Addr × Obj)) (σ : St) (Q : List V -> Hp -> Prop) (us : List Value) (s' : Shared) : Prop := ∃ vs H', Inv X pins σ H' s' /\ Vals vs us /\ Q vs H'
def SP (X : Cx) (pins : List (Addr × Obj)) (D : Ends) (f : Flow) (s' : Shared) : Prop :=
  match f with
  | .next => ∃ σ' H', Inv X pins σ' H' s' /\ D.nx σ' H'
  | .brk => ∃ σ' H', Inv X pins σ' H' s' /\ D.bk σ' H'
  | .cont => ∃ σ' H', Inv X pins σ' H' s' /\ D.ct σ' H'
  | .ret u => ∃ v σ' H', Inv X pins σ' H' s' /\ RelV v u /\ D.rt v H'
def PE (X : Cx) (e : Expr) (t : TE) : Prop :=
  ∀ (pins : List (Addr × Obj)) (s : Shared) (σ : St) (H : Hp) (Q : VK), Inv X pins σ H s -> t σ H Q -> wpAny (model X.prog X.w) X.A (eval e X.env) (EP X pins σ Q) X.xe s
def PT (X : Cx) (e : Expr) (t : TT) : Prop :=
  ∀ (pins : List (Addr × Obj)) (s : Shared) (σ : St) (H : Hp) (Q : Bool -> Hp -> Prop), Inv X pins σ H s -> t σ H Q -> wpAny (model X.prog X.w) X.A (isTrue e X.env (eval e X.env)) (TP X pins σ Q) X.xe s
def PW (X : Cx) (e : Expr) (t : TT) : Prop :=
  ∀ (whole : Sem Value) (pins : List (Addr × Obj)) (s : Shared) (σ : St) (H : Hp) (Q : Bool -> Hp -> Prop), Inv X pins σ H s -> t σ H Q -> wpAny (model X.prog X.w) X.A (isTrue e X.env whole) (TP X pins σ Q) X.xe s
theorem PW.pt {X : Cx} {e : Expr} {t : TT} (h : PW X e t) : PT X e t := h _
def PA (X : Cx) (es : List Expr) (t : TA) : Prop :=
  ∀ (pos : Pos) (pins : List (Addr × Obj)) (s : Shared) (σ : St) (H : Hp) (Q : List V -> Hp -> Prop), Inv X pins σ H s -> t σ H Q -> wpAny (model X.prog X.w) X.A (spliced (backTo pos (starEach es X.env))) (AP X pins σ Q) X.xe s
def PS (X : Cx) (st : Stmt) (t : TS) : Prop :=
  ∀ (pins : List (Addr × Obj)) (s : Shared) (σ : St) (H : Hp) (D : Ends), Inv X pins σ H s -> t D σ H -> wpAny (model X.prog X.w) X.A (exec st X.env) (SP X pins D) X.xe s
def PSs (X : Cx) (st : List Stmt) (t : TS) : Prop :=
  ∀ (pins : List (Addr × Obj)) (s : Shared) (σ : St) (H : Hp) (D : Ends), Inv X pins σ H s -> t D σ H -> wpAny (model X.prog X.w) X.A (execs st X.env) (SP X pins D) X.xe s
theorem thn {α : Type} {t : Sem α} {Q Q' : α -> Shared -> Prop} {M : Model} {A : Around} {E : Value -> Shared -> Prop} {s : Shared} (h : wpAny M A t Q E s) (hQ : ∀ a s, Q a s -> Q' a s) : wpAny M A t Q' E s := wpAny_mono h hQ fun _ _ x => x
end L2
namespace L2
open PySem PySem.Spec PyProof.Rows
section
variable {X : Cx}
def zlA (i : Nat) : TE := fun σ H Q => ∃ v, σ[i]? = some (some v) /\ Q v H
def tC (v : V) : TE := fun _ H Q => Q v H
theorem zqa {i : Nat} {x : Str} {pos : Pos} (hN : X.N[i]? = some x) (hv : Vis X.env.scope x) (hd : (x == ("__debug__" : Str)) = false := by decide) (hcd : (x == ("__classdict__" : Str)) = false := by decide) : PE X (.Name x pos) (zlA i) := by
  intro pins s σ H Q I h
  obtain ⟨v, e, h⟩ := h
  obtain ⟨m, hn, hl⟩ := I.loc
  obtain ⟨u, r, l⟩ := hl i x v hN e hv
  have fin : EP X pins σ Q u s := ⟨v, H, I, r, h⟩
  rcases l with ⟨hk, hm⟩ | ⟨hk, c, hc, hcell⟩
  · exact wpAny_Name (wpAny_loadName_local I.ok.kind hk hn hm fin) hd
  · rcases hk with hk | hk
    · exact wpAny_Name (wpAny_loadName_cell I.ok.kind hk hc hcell fin) hd
    · exact wpAny_Name (wpAny_loadName_free I.ok.kind hk hc hcell fin hcd) hd
theorem znE {i j pos} : PE X (.Constant (.int i) j pos) (tC (.int i)) := fun _ _ _ H _ I h => wpAny_Constant_int ⟨.int i, H, I.tok _, ⟨_, rfl⟩, h⟩
theorem zqP {b j pos} : PE X (.Constant (.bool b) j pos) (tC (.bl b)) := fun _ _ _ H _ I h => Constant_bool ⟨.bl b, H, I, rfl, h⟩
theorem zpF {j pos} : PE X (.Constant .none j pos) (tC .non) := fun _ _ _ H _ I h => Constant_none ⟨.non, H, I, rfl, h⟩
theorem zjy {x j pos} : PE X (.Constant (.str x) j pos) (tC (.str x)) := fun _ _ _ H _ I h => Calls.Constant_str ⟨.str x, H, I.tok _, ⟨_, rfl⟩, h⟩
def Gl (X : Cx) (x : Str) : Prop := X.env.kindOf x = some .globalImplicit
theorem zeq {E : Value -> Shared -> Prop} {pins : List (Addr × Obj)} {s : Shared} {σ : St} {H : Hp} {x : Str} {u : Value} {pos : Pos} {Q : Value -> Shared -> Prop} (I : Inv X pins σ H s) (hg : Gl X x) (hm : X.mg x = some u) (h : Q u s)
    (hd : (x == ("__debug__" : Str)) = false := by decide) : wpAny (model X.prog X.w) X.A (eval (.Name x pos) X.env) Q E s :=
  Calls.Name_function_global I.ok.kind hg (Calls.loadGlobal_global (by rw [I.ok.glob]; exact I.mod.glob.keeps I.bk) hm h) hd
theorem zfF {E : Value -> Shared -> Prop} {pins : List (Addr × Obj)} {s : Shared} {σ : St} {H : Hp} {x : Str} {u : Value} {pos : Pos} {Q : Value -> Shared -> Prop} (I : Inv X pins σ H s) (hg : Gl X x) (hm : X.mg x = none) (hv : bootBuiltins x = some u) (h : Q u s)
    (hn : x ≠ "__name__" := by decide) (hd : (x == ("__debug__" : Str)) = false := by decide) : wpAny (model X.prog X.w) X.A (eval (.Name x pos) X.env) Q E s := by
  obtain ⟨mb, h1, h2⟩ := I.mod.blt
  exact Calls.Name_function_global I.ok.kind hg (Calls.loadGlobal_builtin (by rw [I.ok.glob]; exact I.mod.glob.keeps I.bk) hm (by rw [I.ok.blt]; exact h1.keeps I.bk) ((h2 x hn).trans hv) h) hd
theorem zbq {x : Str} {v : V} {u : Value} {pos : Pos} (hg : Gl X x) (hm : X.mg x = some u) (r : RelV v u) (hd : (x == ("__debug__" : Str)) = false := by decide) : PE X (.Name x pos) (tC v) :=
  fun _ _ _ H _ I h => zeq I hg hm ⟨v, H, I, r, h⟩ hd
theorem zdf {x : Str} {v : V} {u : Value} {pos : Pos} (hg : Gl X x) (hm : X.mg x = none) (hv : bootBuiltins x = some u) (r : RelV v u) (hn : x ≠ "__name__" := by decide) (hd : (x == ("__debug__" : Str)) = false := by decide) : PE X (.Name x pos) (tC v) :=
  fun _ _ _ H _ I h => zfF I hg hm hv ⟨v, H, I, r, h⟩ hn hd
variable {a b : Expr} {ta tb : TE} {pos : Pos}
def tB (t : TE) : TT := fun σ H Q => t σ H fun x H1 => ∃ c, x = .bl c /\ Q c H1
theorem zp4 {e : Expr} {t : TE} (h : PE X e t) (he : ∀ whole, isTrue e X.env whole = (do let v <- whole; standAt e.pos; holding [v] (truthy v)) := by intro _; rfl) : PT X e (tB t) := by
  intro pins s σ H Q I hw
  refine isTrue_plain (thn (h pins s σ H _ I hw) fun v s1 ⟨x, H1, I1, r1, q1⟩ => ?_) (he _)
  obtain ⟨d, rfl, q⟩ := q1
  cases r1
  exact wpAny_truthy_bool ⟨H1, I1, q⟩
variable {tA tB' : TT} {rest : List Expr}
def zrH (t u : TT) : TT := fun σ H Q => t σ H fun c H1 => if c = true then u σ H1 Q else Q false H1
def tOr (t u : TT) : TT := fun σ H Q => t σ H fun c H1 => if c = true then Q true H1 else u σ H1 Q
def zrN (t : TT) : TT := fun σ H Q => t σ H fun c H1 => Q (!c) H1
theorem zos (ha : PT X a tA) : PW X (.BoolOp .And [a] pos) tA := by
  intro wh pins s σ H Q I h
  refine isTrue_and (thn (ha pins s σ H Q I h) fun c s1 e => ?_)
  cases c with
  | true => exact isTrue_and_nil e
  | false => exact e
theorem zqf (ha : PT X a tA) : PW X (.BoolOp .Or [a] pos) tA := by
  intro wh pins s σ H Q I h
  refine isTrue_or (thn (ha pins s σ H Q I h) fun c s1 e => ?_)
  cases c with
  | false => exact isTrue_or_nil e
  | true => exact e
theorem zp6 (ha : PT X a tA) (hb : PW X (.BoolOp .And (b :: rest) pos) tB') : PW X (.BoolOp .And (a :: b :: rest) pos) (zrH tA tB') := by
  intro wh pins s σ H Q I h
  refine isTrue_and (thn (ha pins s σ H _ I h) fun c s1 ⟨H1, I1, q1⟩ => ?_)
  cases c with
  | true => exact hb wh pins s1 σ H1 Q I1 q1
  | false => exact ⟨H1, I1, q1⟩
theorem zrO (ha : PT X a tA) (hb : PW X (.BoolOp .Or (b :: rest) pos) tB') : PW X (.BoolOp .Or (a :: b :: rest) pos) (tOr tA tB') := by
  intro wh pins s σ H Q I h
  refine isTrue_or (thn (ha pins s σ H _ I h) fun c s1 ⟨H1, I1, q1⟩ => ?_)
  cases c with
  | true => exact ⟨H1, I1, q1⟩
  | false => exact hb wh pins s1 σ H1 Q I1 q1
theorem zpx (ha : PT X a tA) : PT X (.UnaryOp .Not a pos) (zrN tA) := by
  intro pins s σ H Q I h
  exact isTrue_not (ha pins s σ H (fun c H1 => Q (!c) H1) I h)
def zrJ (ta tb : TE) : TE := fun σ H Q => ta σ H fun x H1 => ∃ c, x = .bl c /\ if c = true then tb σ H1 Q else Q (.bl false) H1
def zq2 (ta : TE) : TE := fun σ H Q => ta σ H fun x H1 => ∃ c, x = .bl c /\ Q (.bl (!c)) H1
theorem zpG {op} {t : TE} (h : PE X a t) : PE X (.BoolOp op [a] pos) t := fun pins s σ H Q I hw => BoolOp_one (h pins s σ H Q I hw)
theorem zpz (ha : PE X a ta) (hb : PE X (.BoolOp .And (b :: rest) pos) tb) : PE X (.BoolOp .And (a :: b :: rest) pos) (zrJ ta tb) := by
  intro pins s σ H Q I h
  refine BoolOp_and (thn (ha pins s σ H _ I h) fun v s1 ⟨x, H1, I1, r1, q1⟩ => ?_)
  obtain ⟨c, rfl, q1⟩ := q1
  cases r1
  refine wpAny_truthy_bool ?_
  cases c with
  | true => exact hb pins s1 σ H1 Q I1 q1
  | false => exact ⟨.bl false, H1, I1, rfl, q1⟩
theorem zpX (ha : PE X a ta) : PE X (.UnaryOp .Not a pos) (zq2 ta) := by
  intro pins s σ H Q I h
  refine UnaryOp_ (thn (ha pins s σ H _ I h) fun v s1 ⟨x, H1, I1, r1, q1⟩ => ?_)
  obtain ⟨c, rfl, q1⟩ := q1
  cases r1
  exact not_of (wpAny_truthy_bool ⟨.bl (!c), H1, I1, rfl, q1⟩)
def tIf (t : TT) (ta tb : TE) : TE := fun σ H Q => t σ H fun c H1 => if c = true then ta σ H1 Q else tb σ H1 Q
theorem zlX {c : Expr} (hc : PT X c tA) (ha : PE X a ta) (hb : PE X b tb) : PE X (.IfExp c a b pos) (tIf tA ta tb) := by
  intro pins s σ H Q I h
  refine wpAny_IfExp (thn (hc pins s σ H _ I h) fun d s1 ⟨H1, I1, q1⟩ => ?_)
  cases d with
  | true => exact ha pins s1 σ H1 Q I1 q1
  | false => exact hb pins s1 σ H1 Q I1 q1
end
end L2
namespace L2
open PySem PySem.Spec PyProof.Rows
def SqL (K : PySem.W.Frag) (H : Hp) (a : Addr) (xs : List V) : Prop :=
  Rd H a (.lst xs) \/
    ∃ (o : Obj) (its : Array Value) (n : Nat), K.lookup a = some o /\ o.cls = .type "list" /\ o.dict = none /\ o.data = .seq its n /\ its.size <= sizeLine /\ Vals xs its.toList
def SqT (K : PySem.W.Frag) (H : Hp) (a : Addr) (xs : List V) : Prop :=
  Rd H a (.tup xs) \/
    ∃ (o : Obj) (its : Array Value) (n : Nat), K.lookup a = some o /\ o.cls = .type "tuple" /\ o.data = .seq its n /\ its.size <= sizeLine /\ Vals xs its.toList
def zse : Value -> Option V
  | .none => some .non
  | .bool b => some (.bl b)
  | .int i _ => some (.int i)
  | .str x _ => some (.str x)
  | .bytes b _ => some (.byt b)
  | .float b _ => some (.flt b)
  | .ref a => some (.ref a)
  | .type n => some (.ty n)
  | _ => none
theorem RelV.abs {x : V} {u : Value} (r : RelV x u) : zse u = some x := by
  cases x with
  | non => cases r; rfl
  | bl _ => cases r; rfl
  | int _ => obtain ⟨t, rfl⟩ := r; rfl
  | str _ => obtain ⟨t, rfl⟩ := r; rfl
  | byt _ => obtain ⟨t, rfl⟩ := r; rfl
  | flt _ => obtain ⟨t, rfl⟩ := r; rfl
  | ref _ => cases r; rfl
  | ty _ => cases r; rfl
theorem RelV.inj {x y : V} {u : Value} (r : RelV x u) (q : RelV y u) : x = y := Option.some.inj (r.abs.symm.trans q.abs)
theorem Vals.inj : ∀ {xs ys : List V} {us : List Value}, Vals xs us -> Vals ys us -> xs = ys
  | _, _, _, .nil, .nil => rfl
  | _, _, _, .cons r t, .cons r' t' => by rw [r.inj r', Vals.inj t t']
section
variable {X : Cx} {pins : List (Addr × Obj)} {σ : St} {H : Hp} {s : Shared} {a : Addr} {xs ys : List V}
theorem SqL.of {K : PySem.W.Frag} (h : H a = some (.lst xs)) : SqL K H a xs := .inl (.inl h)
theorem SqT.of {K : PySem.W.Frag} (h : H a = some (.tup xs)) : SqT K H a xs := .inl (.inl h)
theorem Inv.list (I : Inv X pins σ H s) (h : SqL X.K H a xs) : ∃ its : List Value, Vals xs its /\ PlainL s.heap a its.toArray /\ xs.length <= sizeLine := by
  rcases h with h | ⟨o, its, n, hk, hc, hd, hs, hz, r⟩
  · obtain ⟨z, its, n, r, e⟩ := h.ok I.hok
    exact ⟨its, r, ⟨_, n, e, rfl, rfl, rfl⟩, z⟩
  · refine ⟨its.toList, r, ⟨o, n, I.kIn a o hk, hc, hd, by simpa using hs⟩, ?_⟩
    have e := r.length
    simp only [Array.length_toList] at e
    omega
theorem Inv.tuple (I : Inv X pins σ H s) (h : SqT X.K H a xs) : ∃ its : List Value, Vals xs its /\ IsTup s.heap a its.toArray /\ xs.length <= sizeLine := by
  rcases h with h | ⟨o, its, n, hk, hc, hs, hz, r⟩
  · obtain ⟨z, its, r, p⟩ := h.ok I.hok
    exact ⟨its, r, p, z⟩
  · refine ⟨its.toList, r, ⟨o, I.kIn a o hk, hc, n, by simpa using hs⟩, ?_⟩
    have e := r.length
    simp only [Array.length_toList] at e
    omega
theorem Inv.list_inj (I : Inv X pins σ H s) (h : SqL X.K H a xs) (h' : SqL X.K H a ys) : xs = ys := by
  obtain ⟨its, r, ⟨o, n, e, _, _, d⟩, _⟩ := I.list h
  obtain ⟨its', r', ⟨o', n', e', _, _, d'⟩, _⟩ := I.list h'
  rw [e] at e'; cases e'
  rw [d] at d'
  injection d' with d1 _
  have : its = its' := by simpa using congrArg Array.toList d1
  subst this
  exact r.inj r'
end
abbrev Cx.wish (X : Cx) (E : Value -> Shared -> Prop) : Cx := { X with xe := E }
abbrev Cx.nox (X : Cx) : Cx := X.wish fun _ _ => False
theorem Cx.Ok.wish {X : Cx} (ok : X.Ok) (E : Value -> Shared -> Prop) : (X.wish E).Ok :=
  ⟨ok.mod, ok.kind, ok.glob, ok.blt, ok.above, ok.inj, ok.has, ok.cab, ok.hd, ok.frames, ok.stk, ok.exf, ok.bs, ok.bsz, ok.noex, ok.exfs, ok.funs, ok.frf⟩
theorem Cx.Ok.unwish {X : Cx} {E : Value -> Shared -> Prop} (ok : (X.wish E).Ok) : X.Ok :=
  ⟨ok.mod, ok.kind, ok.glob, ok.blt, ok.above, ok.inj, ok.has, ok.cab, ok.hd, ok.frames, ok.stk, ok.exf, ok.bs, ok.bsz, ok.noex, ok.exfs, ok.funs, ok.frf⟩
section
variable {X : Cx} {pins : List (Addr × Obj)} {σ : St} {H : Hp} {s : Shared} {E : Value -> Shared -> Prop}
theorem Inv.wish (I : Inv X pins σ H s) (E : Value -> Shared -> Prop) : Inv (X.wish E) pins σ H s := ⟨I.ok.wish E, I.os, I.bare, I.base, I.loc, I.cell, I.free, I.freeC, I.pin, I.hok, I.len⟩
theorem Inv.unwish (I : Inv (X.wish E) pins σ H s) : Inv X pins σ H s := ⟨I.ok.unwish, I.os, I.bare, I.base, I.loc, I.cell, I.free, I.freeC, I.pin, I.hok, I.len⟩
theorem SP.unwish {D : Ends} {f : Flow} {s' : Shared} (h : SP (X.wish E) pins D f s') : SP X pins D f s' := by
  cases f with
  | next => obtain ⟨σ', H', I, q⟩ := h; exact ⟨σ', H', I.unwish, q⟩
  | brk => obtain ⟨σ', H', I, q⟩ := h; exact ⟨σ', H', I.unwish, q⟩
  | cont => obtain ⟨σ', H', I, q⟩ := h; exact ⟨σ', H', I.unwish, q⟩
  | ret u => obtain ⟨v, σ', H', I, r, q⟩ := h; exact ⟨v, σ', H', I.unwish, r, q⟩
theorem PSs.nox {st : List Stmt} {t : TS} (h : PSs X.nox st t) : PSs X st t := fun pins s σ H D I hw =>
  wpAny_mono (h pins s σ H D (I.wish _) hw) (fun _ _ q => q.unwish) fun _ _ z => False.elim z
end
section
variable {X : Cx} {st : Stmt} {rest : List Stmt} {t u : TS} {e : Expr} {te : TE} {pos : Pos}
def zq3 : TS := fun D σ H => D.nx σ H
def zr7 (t u : TS) : TS := fun D σ H => t { D with nx := u D } σ H
theorem zoc : PSs X [] zq3 := fun _ _ σ H _ I h => wpAny_execs_nil ⟨σ, H, I, h⟩
theorem zgo (h1 : PS X st t) (h2 : PSs X rest u) : PSs X (st :: rest) (zr7 t u) := by
  intro pins s σ H D I h
  refine wpAny_execs_cons (thn (h1 pins s σ H { D with nx := u D } I h) fun f s1 q => ?_)
  cases f with
  | next =>
    obtain ⟨σ', H', I', q⟩ := q
    exact h2 pins s1 σ' H' D I' q
  | ret v => exact q
  | brk => exact q
  | cont => exact q
theorem zh2 (h1 : PS X st t) : PSs X [st] t := by
  intro pins s σ H D I h
  refine wpAny_execs_cons (thn (h1 pins s σ H D I h) fun f s1 q => ?_)
  cases f with
  | next => exact wpAny_execs_nil q
  | ret v => exact q
  | brk => exact q
  | cont => exact q
theorem Inv.quiet {pins : List (Addr × Obj)} {σ : St} {H : Hp} {s : Shared} (I : Inv X pins σ H s) : interactive X.env = false := by simp [interactive, I.ok.kind]
def zrd (te : TE) : TS := fun D σ H => te σ H fun _ H1 => D.nx σ H1
theorem zhR (he : PE X e te) (hs : swapsWith e none pos.line X.env = pure false := by rfl) : PS X (.Expr e pos) (zrd te) := by
  intro pins s σ H D I h
  exact wpAny_Expr_any (thn (he pins s σ H _ I h) fun v s1 ⟨x, H1, I1, r1, q1⟩ => ⟨σ, H1, I1, q1⟩) I.quiet hs
def zsb (te : TE) : TS := fun D σ H => te σ H D.rt
theorem zqC (he : PE X e te) : PS X (.Return (some e) pos) (zsb te) := by
  intro pins s σ H D I h
  exact wpAny_Return_some (thn (he pins s σ H _ I h) fun v s1 ⟨x, H1, I1, r1, q1⟩ => ⟨x, σ, H1, I1, r1, q1⟩)
def zsh (c : TT) (t u : TS) : TS := fun D σ H => c σ H fun b H1 => if b = true then t D σ H1 else u D σ H1
theorem zrU {c : Expr} {a b : List Stmt} {tc : TT} (hc : PT X c tc) (ha : PSs X a t) (hb : PSs X b u) : PS X (.If c a b pos) (zsh tc t u) := by
  intro pins s σ H D I h
  refine wpAny_If (thn (hc pins s σ H _ I h) fun d s1 ⟨H1, I1, q1⟩ => ?_)
  cases d with
  | true => exact ha pins s1 σ H1 D I1 q1
  | false => exact hb pins s1 σ H1 D I1 q1
end
abbrev TG := V -> St -> Hp -> (St -> Hp -> Prop) -> Prop
abbrev TGs := List V -> St -> Hp -> (St -> Hp -> Prop) -> Prop
def PG (X : Cx) (target : Expr) (t : TG) : Prop :=
  ∀ (pins : List (Addr × Obj)) (s : Shared) (σ : St) (H : Hp) (v : V) (u : Value) (Q : St -> Hp -> Prop), Inv X pins σ H s -> RelV v u -> t v σ H Q ->
    wpAny (model X.prog X.w) X.A (assign target X.env u) (fun _ s' => ∃ σ' H', Inv X pins σ' H' s' /\ Q σ' H') X.xe s
def PGs (X : Cx) (ts : List Expr) (t : TGs) : Prop :=
  ∀ (pins : List (Addr × Obj)) (s : Shared) (σ : St) (H : Hp) (vs : List V) (us : List Value) (Q : St -> Hp -> Prop), Inv X pins σ H s -> Vals vs us -> t vs σ H Q ->
    wpAny (model X.prog X.w) X.A (assignInOrder ((assignEach ts X.env).map (·.2)) us) (fun _ s' => ∃ σ' H', Inv X pins σ' H' s' /\ Q σ' H') X.xe s
abbrev zpl := V -> V -> V -> Hp -> (Hp -> Prop) -> Prop
def zry (X : Cx) (t : zpl) : Prop :=
  ∀ (pins : List (Addr × Obj)) (s : Shared) (σ : St) (H : Hp) (o i v : V) (ov iv u : Value) (Q : Hp -> Prop), Inv X pins σ H s -> RelV o ov -> RelV i iv -> RelV v u -> t o i v H Q ->
    wpAny (model X.prog X.w) X.A (setItem ov iv u) (fun _ s' => ∃ H', Inv X pins σ H' s' /\ Q H') X.xe s
section
variable {X : Cx} {pos : Pos}
def zhe (i : Nat) : TG := fun v σ H Q => Q (σ.set i (some v)) H
theorem zaU {i : Nat} {x : Str} (hN : X.N.Nodup) (hi : X.N[i]? = some x) (hx : Loc X.env.scope x) (hf : X.fn x = true \/ X.env.scope.names.lookup x = some .local := by first | exact .inl rfl | exact .inr rfl | assumption) : PG X (.Name x pos) (zhe i) := by
  intro pins s σ H v u Q I r h
  exact wpAny_assign_Name (zfb I hN hi hx r (fun s' I' => ⟨_, H, I', h⟩) hf)
def zqT : TGs := fun vs σ H Q => vs = [] /\ Q σ H
def zoZ (t : TG) (u : TGs) : TGs := fun vs σ H Q => ∃ v r, vs = v :: r /\ t v σ H fun σ' H' => u r σ' H' Q
theorem zde : PGs X [] zqT := by
  intro pins s σ H vs us Q I r h
  obtain ⟨e, h⟩ := h
  subst e
  cases r
  exact assignInOrder_nil ⟨σ, H, I, h⟩
theorem zbd {e : Expr} {es : List Expr} {t : TG} {u : TGs} (h1 : PG X e t) (h2 : PGs X es u)
    (hs : (assignEach (e :: es) X.env).map (·.2) = assign e X.env :: (assignEach es X.env).map (·.2) := by rfl) : PGs X (e :: es) (zoZ t u) := by
  intro pins s σ H vs us Q I r h
  obtain ⟨v, vr, e1, h⟩ := h
  subst e1
  cases r with
  | cons r rr =>
    rw [hs]
    refine assignInOrder_cons (thn (h1 pins s σ H _ _ _ I r h) fun _ s1 ⟨σ1, H1, I1, q1⟩ => ?_)
    exact h2 pins s1 σ1 H1 _ _ Q I1 rr q1
def zrx (K : PySem.W.Frag) (n : Nat) (t : TGs) : TG := fun v σ H Q => ∃ a xs, v = .ref a /\ SqT K H a xs /\ xs.length = n /\ t xs σ H Q
theorem zdS {es : List Expr} {k : Nat} {t : TGs} {n : Nat} (hc : X.calm = true) (h : PGs X es t)
    (hn : (assignEach es X.env).length = n := by rfl) (hst : (assignEach es X.env).findIdx? (·.1) = none := by rfl) : PG X (.Tuple es k pos) (zrx X.K n t) := by
  intro pins s σ H v u Q I r hw
  obtain ⟨a, xs, e1, hq, hl, hw⟩ := hw
  subst e1
  cases r
  obtain ⟨its, rv, ht, hz⟩ := I.tuple hq
  refine assign_Tuple_tuple (I.ok.hd hc) ht (by simp [hn, <- hl, rv.length]) hst fun h' hx => ?_
  have I1 : Inv X pins σ H { s with heap := h' } := I.kept (t' := s.toks) fun b o e => hx b o (Nat.ne_of_lt (Heap.lt_size e)) e
  exact h pins _ σ H xs _ Q I1 (by simpa using rv) hw
def zrg (to ti : TE) (t : zpl) : TG := fun v σ H Q => to σ H fun o H1 => ti σ H1 fun i H2 => t o i v H2 fun H3 => Q σ H3
theorem zmS {o i : Expr} {to ti : TE} {t : zpl} (ho : PE X o to) (hi : PE X i ti) (hs : zry X t)
    (ha : ∀ v, assign (.Subscript o i pos) X.env v = (do
      let ov <- holding [v] (eval o X.env)
      let iv <- holding [v, ov] (eval i X.env)
      standAt pos
      holding [v, ov, iv] (setItem ov iv v)
      release [v, ov, iv] []) := by intro _; rfl) : PG X (.Subscript o i pos) (zrg to ti t) := by
  intro pins s σ H v u Q I r h
  rw [ha]
  refine wpAny_bind (wpAny_holding (thn (ho pins s σ H _ I h) fun ov s1 ⟨x, H1, I1, r1, q1⟩ => ?_))
  refine wpAny_bind (wpAny_holding (thn (hi pins s1 σ H1 _ I1 q1) fun iv s2 ⟨y, H2, I2, r2, q2⟩ => ?_))
  refine wpAny_bind (wpAny_standAt (wpAny_bind (wpAny_holding (thn (hs pins s2 σ H2 x y v ov iv u _ I2 r1 r2 r q2) fun _ s3 ⟨H3, I3, q3⟩ => ?_))))
  exact wpAny_release ⟨σ, H3, I3, q3⟩
def zlL (te : TE) (g : TG) : TS := fun D σ H => te σ H fun x H1 => g x σ H1 D.nx
theorem zeR {tg e : Expr} {te : TE} {g : TG} (he : PE X e te) (hg : PG X tg g) (hs : swapsWithSole [tg] e pos.line X.env = pure false := by rfl) (hw : swappedStores [tg] e X.env = pure none := by rfl)
    (h1 : (assignEach [tg] X.env).map (·.2) = [assign tg X.env] := by rfl) : PS X (.Assign [tg] e pos) (zlL te g) := by
  intro pins s σ H D I h
  refine wpAny_Assign_stores (thn (he pins s σ H _ I h) fun v s1 ⟨x, H1, I1, r1, q1⟩ => ?_) hs hw
  rw [h1]
  exact thn (hg pins s1 σ H1 x v _ I1 r1 q1) fun _ s2 q => q
theorem zpL {i : Nat} {x : Str} {e : Expr} {te : TE} {pos' : Pos} (hN : X.N.Nodup) (hi : X.N[i]? = some x) (hx : Loc X.env.scope x) (he : PE X e te) (hs : swapsWith e (some (.Name x pos')) pos.line X.env = pure false := by rfl) (hf : X.fn x = true \/ X.env.scope.names.lookup x = some .local := by first | exact .inl rfl | exact .inr rfl | assumption) :
    PS X (.Assign [.Name x pos'] e pos) (zlL te (zhe i)) := by
  intro pins s σ H D I h
  refine wpAny_Assign_Name (thn (he pins s σ H _ I h) fun v s1 ⟨y, H1, I1, r1, q1⟩ => ?_) hs
  exact zfb I1 hN hi hx r1 (fun s2 I2 => ⟨_, H1, I2, q1⟩) hf
end
section
variable {X : Cx} {pos : Pos}
def zl1 (c : TT) (tb : TS) : TS := fun D σ H => ∃ W : Nat -> St -> Hp -> Prop, (∃ m, W m σ H) /\ ∀ m σ H, W m σ H ->
  c σ H fun b H1 => if b = true then ∃ N : St -> Hp -> Prop, (∀ σ' H', N σ' H' -> ∃ m', m' < m /\ W m' σ' H') /\ tb { D with nx := N, ct := N, bk := D.nx } σ H1 else D.nx σ H1
theorem zmo {c : Expr} {body : List Stmt} {tc : TT} {tb : TS} (hp : PassesOwn (model X.prog X.w) X.A X.env X.xe) (hc : PT X c tc) (hb : PSs X body tb) : PS X (.While c body [] pos) (zl1 tc tb) := by
  intro pins s σ H D I h
  obtain ⟨W, ⟨m0, w0⟩, turn⟩ := h
  refine wpAny_While (codeAny_whileLoop (fun n s' => ∃ σ' H', Inv X pins σ' H' s' /\ W n σ' H') ?_ m0 ⟨σ, H, I, w0⟩)
  rintro n s1 ⟨σ1, H1, I1, w1⟩
  refine wpAny_passesOwn hp (thn (hc pins s1 σ1 H1 _ I1 (turn n σ1 H1 w1)) fun b s2 ⟨H2, I2, q2⟩ => ?_)
  cases b with
  | true =>
    obtain ⟨N, hN, q2⟩ := q2
    rw [if_pos rfl]
    refine wpAny_passesOwn hp (thn (hb pins s2 σ1 H2 _ I2 q2) fun f s3 q3 => ?_)
    cases f with
    | next =>
      obtain ⟨σ3, H3, I3, n3⟩ := q3
      obtain ⟨m', hm, w3⟩ := hN σ3 H3 n3
      exact ⟨m', hm, σ3, H3, I3, w3⟩
    | cont =>
      obtain ⟨σ3, H3, I3, n3⟩ := q3
      obtain ⟨m', hm, w3⟩ := hN σ3 H3 n3
      exact ⟨m', hm, σ3, H3, I3, w3⟩
    | brk => exact q3
    | ret v => exact q3
  | false =>
    rw [if_neg Bool.false_ne_true]
    exact wpAny_execs_nil ⟨σ1, H2, I2, q2⟩
end
structure It where
  go : Nat -> Hp -> Prop
  yld : Nat -> Hp -> V -> Hp -> Prop
  stop : Nat -> Hp -> Prop
def zfu (X : Cx) (pins : List (Addr × Obj)) (H : Hp) (b : Addr) : Prop :=
  H b = none /\ b ≠ X.env.locals /\ b ∉ X.fs /\ (b ∈ X.ex \/ X.s₀.heap.objs.size <= b) /\ (∀ x c, X.env.cells.lookup x = some c -> c ≠ b) /\ ∀ p ∈ X.pn ++ pins, p.1 ≠ b
theorem Inv.fpOk {X : Cx} {pins : List (Addr × Obj)} {σ : St} {H H' : Hp} {s : Shared} {b : Addr} (I : Inv X pins σ H s) (hb : s.heap.objs.size <= b) (hn : H' b = none) : zfu X pins H' b := by
  refine ⟨hn, Nat.ne_of_gt (Nat.lt_of_lt_of_le I.lt hb), I.nofs hb, .inr (Nat.le_trans I.sz hb), fun x c e z => ?_, fun p hp z => ?_⟩
  · obtain ⟨v, q⟩ := I.cell x c e
    exact absurd (Nat.lt_of_lt_of_le q.lt (by rw [z]; exact hb)) (Nat.lt_irrefl _)
  · exact absurd (Nat.lt_of_lt_of_le (Heap.lt_size (I.pin p hp).1) (by rw [z]; exact hb)) (Nat.lt_irrefl _)
structure Turn (P : Program) (w : World) (K : PySem.W.Frag) (tg : Expr) (J : It) (fp : List Addr) (it : Addr) (tn : Nat -> Heap -> Prop) : Prop where
  mem : it ∈ fp
  obj : ∀ i h, tn i h -> ∀ b ∈ fp, ∃ o, h.get? b = some o /\ ∀ v, o.data ≠ .cell v
  keep : ∀ i h h', tn i h -> (∀ b ∈ fp, ∀ o, h.get? b = some o -> h'.get? b = some o) -> tn i h'
  item : ∀ (X : Cx), X.prog = P -> X.w = w -> X.K = K -> X.calm = true -> ∀ (i : Nat) (pins : List (Addr × Obj)) (s : Shared) (σ : St) (H : Hp) (E : Value -> Shared -> Prop), Inv X pins σ H s -> (∀ b ∈ fp, zfu X pins H b) -> tn i s.heap -> J.go i H ->
    wpAny (model P w) X.A (pyNext (.ref it)) (fun r s1 => ∃ u, r = some u /\
      wpAny (model P w) X.A (letOwnedTupleGo tg (.ref it) u) (fun _ s2 => ∃ x H', Inv X pins σ H' s2 /\ RelV x u /\ J.yld i H x H' /\ tn (i + 1) s2.heap /\ ∀ b ∈ fp, H' b = none) E s1) E s
  done : ∀ (X : Cx), X.prog = P -> X.w = w -> X.K = K -> X.calm = true -> ∀ (i : Nat) (pins : List (Addr × Obj)) (s : Shared) (σ : St) (H : Hp) (E : Value -> Shared -> Prop), Inv X pins σ H s -> (∀ b ∈ fp, zfu X pins H b) -> tn i s.heap -> J.stop i H ->
    wpAny (model P w) X.A (pyNext (.ref it)) (fun r s1 => r = none /\ Inv X pins σ H s1) E s
  self : ∀ (A : Around) (i : Nat) (s : Shared) (Q : Value -> Shared -> Prop) (E : Value -> Shared -> Prop), tn i s.heap -> Q (.ref it) s -> wpAny (model P w) A (pyIter (.ref it)) Q E s
abbrev TI := St -> Hp -> (It -> Hp -> Prop) -> Prop
def PIE (X : Cx) (pins : List (Addr × Obj)) (σ : St) (tg : Expr) (R : It -> Hp -> Prop) (itv : Value) (s2 : Shared) : Prop :=
  ∃ (it : Addr) (fp : List Addr) (tn : Nat -> Heap -> Prop) (J : It) (H' : Hp), itv = .ref it /\ Inv X pins σ H' s2 /\ Turn X.prog X.w X.K tg J fp it tn /\ tn 0 s2.heap /\ (∀ b ∈ fp, zfu X pins H' b) /\ R J H'
def PI (X : Cx) (tg iter : Expr) (wi : TI) : Prop :=
  ∀ (pins : List (Addr × Obj)) (s : Shared) (σ : St) (H : Hp) (R : It -> Hp -> Prop), Inv X pins σ H s -> wi σ H R ->
    wpAny (model X.prog X.w) X.A (eval iter X.env) (fun v s1 => wpAny (model X.prog X.w) X.A (pyIter v) (PIE X pins σ tg R) X.xe s1) X.xe s
theorem zm2 {M : Model} {A : Around} {E : Value -> Shared -> Prop} {s : Shared} {tg : Expr} {it : Addr} {u : Value} {o : Obj} {n : String} {vs : Array Value} {Q : Unit -> Shared -> Prop} (ho : s.heap.get? it = some o) (hc : o.cls = .type n) (hd : o.data = .fields vs)
    (hn : ["enumerate", "zip", "dict_itemiterator", "dict_reverseitemiterator", "odict_iterator", "itertools.zip_longest", "itertools.pairwise"].contains n = false) (hQ : Q () s) : wpAny M A (letOwnedTupleGo tg (.ref it) u) Q E s := by
  unfold letOwnedTupleGo
  cases tg <;> first
    | exact wpAny_pure hQ
    | (cases u <;> first
        | exact wpAny_pure hQ
        | (refine wpAny_bind (wpAny_load ho ?_)
           rw [hc, hd]
           show wpAny M A (if (["enumerate", "zip", "dict_itemiterator", "dict_reverseitemiterator", "odict_iterator", "itertools.zip_longest", "itertools.pairwise"].contains n && vs[0]? == some (rawInt _)) = true then _ else _) Q E s
           rw [if_neg (by intro h; rw [hn, Bool.false_and] at h; cases h)]
           exact wpAny_pure hQ))
def Itl (K : PySem.W.Frag) (a : Addr) : It :=
  ⟨fun i H => ∃ xs x, SqL K H a xs /\ xs[i]? = some x, fun i H x H' => H' = H /\ ∀ xs, SqL K H a xs -> xs[i]? = some x, fun i H => ∃ xs, SqL K H a xs /\ xs.length <= i⟩
def Itr (lo : Int) (n : Nat) : It := ⟨fun i _ => i < n, fun i H x H' => H' = H /\ x = .int (lo + i), fun i _ => n <= i⟩
theorem zlK {P : Program} {w : World} {K : PySem.W.Frag} {tg : Expr} (a it : Addr) : Turn P w K tg (Itl K a) [it] it (fun i h => h.IsListIter it a i) where
  mem := by simp
  obj := fun i h st b hb => by
    have e : b = it := by simpa using hb
    subst e
    obtain ⟨o, e, c, d⟩ := st
    exact ⟨o, e, fun v z => by rw [d] at z; cases z⟩
  keep := fun i h h' st k => st.at fun o e => k it (by simp) o e
  item := by
    intro X hP hw hK hc i pins s σ H E I hf st hg
    subst hP hw hK
    obtain ⟨xs, x, hq, hx⟩ := hg
    obtain ⟨its, rv, p, hz⟩ := I.list hq
    obtain ⟨u, hu, ru⟩ := rv.get hx
    obtain ⟨f0, f1, f2, f3, f4, f5⟩ := hf it (by simp)
    refine wpAny_pyNext_list_item st p.isList (x := u) (by simpa using hu) fun h' st' sb => ?_
    have I1 : Inv X pins σ H { s with heap := h' } := I.turned (t' := s.toks) (fun b o hb e => (sb.2 b hb).trans e) f0 f1 f3 f4 f5
    obtain ⟨o, e, c, d⟩ := id st'
    exact ⟨u, rfl, zm2 (s := { s with heap := h' }) e c d (by decide) ⟨x, H, I1, ru, ⟨rfl, fun ys hy => by rw [I.list_inj hy hq]; exact hx⟩, st', fun b hb => (hf b hb).1⟩⟩
  done := by
    intro X hP hw hK hc i pins s σ H E I hf st hg
    subst hP hw hK
    obtain ⟨xs, hq, hx⟩ := hg
    obtain ⟨its, rv, p, hz⟩ := I.list hq
    obtain ⟨f0, f1, f2, f3, f4, f5⟩ := hf it (by simp)
    have hl := rv.length
    exact wpAny_pyNext_list_end (I.ok.hd hc) st p.isList (by simp; omega) fun h' eb => ⟨rfl, I.turned (t' := s.toks) (fun b o hb e => eb b o hb e) f0 f1 f3 f4 f5⟩
  self := fun _ _ _ _ _ st h => wpAny_pyIter_listiter st h
theorem zjG {P : Program} {w : World} {K : PySem.W.Frag} {tg : Expr} (it : Addr) (lo : Int) (n : Nat) : Turn P w K tg (Itr lo n) [it] it (fun i h => IsRangeIter h it (lo + (i : Nat) * 1) ((n : Int) - (i : Nat)) 1) where
  mem := by simp
  obj := fun i h st b hb => by
    have e : b = it := by simpa using hb
    subst e
    exact ⟨_, st, fun v z => by
      have z' : Data.fields _ = Data.cell v := z
      cases z'⟩
  keep := fun i h h' st k => k it (by simp) _ st
  item := by
    intro X hP hw hK hc i pins s σ H E I hf st hg
    subst hP hw hK
    obtain ⟨f0, f1, f2, f3, f4, f5⟩ := hf it (by simp)
    have W := Walks.range (prog := X.prog) (w := X.w) (I.ok.hd hc) it lo 1 n
    refine W.item i s _ _ hg st fun v h' tk hv st' kk => ?_
    obtain ⟨t, rfl⟩ := hv
    have I1 : Inv X pins σ H { s with heap := h', toks := tk } := I.turned (fun b o hb e => kk b o (by simpa using hb) e) f0 f1 f3 f4 f5
    refine ⟨_, rfl, zm2 (s := { s with heap := h', toks := tk }) (n := "range_iterator") st' rfl rfl (by decide) ⟨.int (lo + i), H, I1, ⟨t, ?_⟩, ⟨rfl, rfl⟩, st', fun b hb => (hf b hb).1⟩⟩
    rw [Int.mul_one]
  done := by
    intro X hP hw hK hc i pins s σ H E I hf st hg
    subst hP hw hK
    obtain ⟨f0, f1, f2, f3, f4, f5⟩ := hf it (by simp)
    exact wpAny_pyNext_range_end (I.ok.hd hc) st (by have : n <= i := hg; omega) fun h' eb => ⟨rfl, I.turned (t' := s.toks) (fun b o hb e => eb b o hb e) f0 f1 f3 f4 f5⟩
  self := fun _ _ _ _ _ st h => wpAny_pyIter_rangeiter st h
end L2
namespace L2
open PySem PySem.Spec PyProof.Rows
section
variable {X : Cx} {tg : Expr}
def zrK (K : PySem.W.Frag) (tl : TE) : TI := fun σ H R => tl σ H fun x H1 => ∃ a, x = .ref a /\ (∃ xs, SqL K H1 a xs) /\ R (Itl K a) H1
theorem zoM {l : Expr} {tl : TE} (hl : PE X l tl) : PI X tg l (zrK X.K tl) := by
  intro pins s σ H R I h
  refine thn (hl pins s σ H _ I h) fun v s1 ⟨x, H1, I1, r1, q1⟩ => ?_
  obtain ⟨a, e, ⟨xs, hq⟩, q⟩ := q1
  subst e
  cases r1
  obtain ⟨its, rv, p, hz⟩ := I1.list hq
  refine wpAny_pyIter_list p.isList ?_
  refine ⟨s1.heap.objs.size, [s1.heap.objs.size], _, _, H1, rfl, I1.kept (t' := s1.toks) fun b o e => Heap.get?_push_of_some _ e, zlK a _, ⟨_, Heap.get?_push_size _ rfl, rfl, rfl⟩, fun b hb => ?_, q⟩
  have e : b = s1.heap.objs.size := by simpa using hb
  subst e
  exact I1.fpOk (Nat.le_refl _) (I1.hok.fresh (Nat.le_refl _))
theorem zm0 {pins : List (Addr × Obj)} {σ : St} {H : Hp} {s : Shared} {R : It -> Hp -> Prop} {E : Value -> Shared -> Prop} {lo hi : Int} {t u v : Tok} {tk : Nat} (I : Inv X pins σ H s) (h1 : -(2 ^ 62) <= lo) (h2 : lo < 2 ^ 62) (h3 : -(2 ^ 62) <= hi) (h4 : hi < 2 ^ 62)
    (q : R (Itr lo (hi - lo).toNat) H) : wpAny (model X.prog X.w) X.A (pyIter (.ref s.heap.objs.size)) (PIE X pins σ tg R) E { s with heap := s.heap.push { cls := .type "range", data := .fields #[.int lo t, .int hi u, .int 1 v] }, toks := tk } := by
  refine wpAny_pyIter_range (IsRange.new ..) (small_one h1 h2 h3 h4) ?_
  have I1 : Inv X pins σ H { s with heap := s.heap.push { cls := .type "range", data := .fields #[.int lo t, .int hi u, .int 1 v] }, toks := tk } := I.kept fun b o e => Heap.get?_push_of_some _ e
  refine ⟨(s.heap.push { cls := .type "range", data := .fields #[.int lo t, .int hi u, .int 1 v] }).objs.size, [(s.heap.push { cls := .type "range", data := .fields #[.int lo t, .int hi u, .int 1 v] }).objs.size], _, _, H, rfl,
    I1.kept (t' := tk) fun b o e => Heap.get?_push_of_some _ e, zjG _ lo (hi - lo).toNat, ?_, fun b hb => ?_, q⟩
  · have e1 : lo + ((0 : Nat) : Int) * 1 = lo := by simp
    have e2 : (((hi - lo).toNat : Nat) : Int) - ((0 : Nat) : Int) = Builtin.Range.rangeSize lo hi 1 := by rw [rangeSize_one]; split <;> omega
    show IsRangeIter _ _ (lo + ((0 : Nat) : Int) * 1) ((((hi - lo).toNat : Nat) : Int) - ((0 : Nat) : Int)) 1
    rw [e1, e2]
    exact Heap.get?_push_size _ rfl
  · have e : b = (s.heap.push { cls := .type "range", data := .fields #[.int lo t, .int hi u, .int 1 v] }).objs.size := by simpa using hb
    subst e
    exact I1.fpOk (Nat.le_refl _) (I1.hok.fresh (Nat.le_refl _))
def zo5 (ta : TA) : TI := fun σ H R => ta σ H fun vs H1 => ∃ j : Int, vs = [.int j] /\ -(2 ^ 62) <= j /\ j < 2 ^ 62 /\ R (Itr 0 j.toNat) H1
theorem zet {a : Expr} {ta : TA} {p pos : Pos} (hg : Gl X "range") (hm : X.mg "range" = none) (ha : PA X [a] ta) (hs : starEach [a] X.env = [(false, eval a X.env)] := by rfl) : PI X tg (.Call (.Name "range" p) [a] [] pos) (zo5 ta) := by
  intro pins s σ H R I h
  refine Call_ (zfF I hg hm boot_range (PyProof.Rows.callWith_type1 (thn (ha pos pins s σ H _ I h) fun us s1 ⟨vs, H1, I1, r1, q1⟩ => ?_) hs rfl))
  obtain ⟨j, e, q1, q2, q⟩ := q1
  subst e
  cases r1 with
  | cons r rr =>
    cases rr
    obtain ⟨t, rfl⟩ := r
    exact call_range_1 (zm0 I1 (by omega) (by omega) q1 q2 (by simpa using q))
def zpf (wi : TI) (g : TG) (tb : TS) : TS := fun D σ H => wi σ H fun J H1 => ∃ W : Nat -> Nat -> St -> Hp -> Prop, (∃ m, W 0 m σ H1) /\ ∀ i m σ H, W i m σ H ->
  (J.stop i H /\ D.nx σ H) \/ (J.go i H /\ ∃ N : St -> Hp -> Prop, (∀ σ' H', N σ' H' -> ∃ m', m' < m /\ W (i + 1) m' σ' H') /\ ∀ x H', J.yld i H x H' -> g x σ H' fun σ2 H2 => tb { D with nx := N, ct := N, bk := D.nx } σ2 H2)
def zgy (fp : List Addr) (h : Heap) : List (Addr × Obj) := fp.filterMap fun b => (h.get? b).map fun o => (b, o)
theorem zdB {fp : List Addr} {h : Heap} {b : Addr} {o : Obj} (hb : b ∈ fp) (e : h.get? b = some o) : (b, o) ∈ zgy fp h := List.mem_filterMap.mpr ⟨b, hb, by rw [e]; rfl⟩
theorem zlI {fp : List Addr} {h : Heap} {p : Addr × Obj} (hp : p ∈ zgy fp h) : p.1 ∈ fp /\ h.get? p.1 = some p.2 := by
  obtain ⟨b, hb, e⟩ := List.mem_filterMap.mp hp
  cases q : h.get? b with
  | none => rw [q] at e; cases e
  | some o =>
    rw [q] at e
    have e' : (b, o) = p := Option.some.inj e
    subst e'
    exact ⟨hb, q⟩
theorem Inv.pinned {pins : List (Addr × Obj)} {σ : St} {H : Hp} {s : Shared} {fp : List Addr} (I : Inv X pins σ H s) (hf : ∀ b ∈ fp, zfu X pins H b) (ho : ∀ b ∈ fp, ∃ o, s.heap.get? b = some o /\ ∀ v, o.data ≠ .cell v) : Inv X (pins ++ zgy fp s.heap) σ H s :=
  I.pins_of fun p hp => (List.mem_append.mp hp).elim (fun z => I.pin p (List.mem_append_right _ z)) fun z => by
    obtain ⟨hb, e⟩ := zlI z
    obtain ⟨f0, f1, f2, _⟩ := hf p.1 hb
    obtain ⟨o, e', d⟩ := ho p.1 hb
    rw [e] at e'; cases e'
    exact ⟨e, f0, f1, f2, d⟩
theorem Inv.unpinned {pins pl : List (Addr × Obj)} {σ : St} {H : Hp} {s : Shared} (I : Inv X (pins ++ pl) σ H s) : Inv X pins σ H s := I.pins_of fun p hp => I.pin p (List.mem_append_right _ (List.mem_append_left _ hp))
theorem zcX {iter : Expr} {body : List Stmt} {wi : TI} {g : TG} {tb : TS} {pos : Pos} (hp : PassesOwn (model X.prog X.w) X.A X.env X.xe) (hc : X.calm = true) (hi : PI X tg iter wi) (hg : PG X tg g) (hb : PSs X body tb)
    (hs : ∀ x, foldedSetIterable iter X.env x = pure x := by intro _; rfl) : PS X (.For tg iter body [] pos) (zpf wi g tb) := by
  intro pins s σ H D I h
  refine wpAny_For (thn (hi pins s σ H _ I h) fun v s1 h1 => thn h1 fun itv s2 h2 => ?_) hs
  obtain ⟨it, fp, tn, J, H2, e, I2, T, st2, f2, W, ⟨m0, w0⟩, turn⟩ := h2
  subst e
  have stat : ∀ {H' : Hp}, (∀ b ∈ fp, H' b = none) -> ∀ b ∈ fp, zfu X pins H' b := fun hn b hb => ⟨hn b hb, (f2 b hb).2⟩
  refine codeAny_forLoop_any (fun n s' => ∃ i σ' H', Inv X pins σ' H' s' /\ tn i s'.heap /\ (∀ b ∈ fp, H' b = none) /\ W i n σ' H') ?_ m0 ⟨0, σ, H2, I2, st2, fun b hb => (f2 b hb).1, w0⟩
  rintro n s3 ⟨i, σ3, H3, I3, st3, fr3, w3⟩
  rcases turn i n σ3 H3 w3 with ⟨stop, qn⟩ | ⟨go, N, hN, step⟩
  · refine wpAny_passesOwn hp (thn (T.done X rfl rfl rfl hc i pins s3 σ3 H3 X.xe I3 (stat fr3) st3 stop) fun r s4 ⟨hr, I4⟩ => ?_)
    subst hr
    exact wpAny_execs_nil ⟨σ3, H3, I4, qn⟩
  · refine wpAny_passesOwn hp (thn (T.item X rfl rfl rfl hc i pins s3 σ3 H3 X.xe I3 (stat fr3) st3 go) fun r s4 ⟨u, hr, h4⟩ => ?_)
    subst hr
    refine wpAny_passesOwn hp (thn h4 fun _ s5 ⟨x, H5, I5, r5, y5, st5, fr5⟩ => ?_)
    have I5' := I5.pinned (stat fr5) (T.obj _ _ st5)
    refine wpAny_passesOwn hp (thn (hg _ s5 σ3 H5 x u _ I5' r5 (step x H5 y5)) fun _ s6 ⟨σ6, H6, I6, q6⟩ => ?_)
    refine wpAny_passesOwn hp (thn (hb _ s6 σ6 H6 _ I6 q6) fun f s7 q7 => ?_)
    have again : ∀ {σ7 : St} {H7 : Hp}, Inv X (pins ++ zgy fp s5.heap) σ7 H7 s7 -> N σ7 H7 -> ∃ m, m < n /\ ∃ i σ' H', Inv X pins σ' H' s7 /\ tn i s7.heap /\ (∀ b ∈ fp, H' b = none) /\ W i m σ' H' := fun {σ7 H7} I7 n7 => by
      obtain ⟨m', hm, w7⟩ := hN σ7 H7 n7
      refine ⟨m', hm, i + 1, σ7, H7, I7.unpinned, T.keep _ _ _ st5 fun b hb o e => (I7.pin (b, o) (List.mem_append_right _ (List.mem_append_right _ (zdB hb e)))).1, fun b hb => ?_, w7⟩
      obtain ⟨o, e, d⟩ := T.obj _ _ st5 b hb
      exact (I7.pin (b, o) (List.mem_append_right _ (List.mem_append_right _ (zdB hb e)))).2.1
    cases f with
    | next => obtain ⟨σ7, H7, I7, n7⟩ := q7; exact again I7 n7
    | cont => obtain ⟨σ7, H7, I7, n7⟩ := q7; exact again I7 n7
    | brk => obtain ⟨σ7, H7, I7, q7⟩ := q7; exact ⟨σ7, H7, I7.unpinned, q7⟩
    | ret v => obtain ⟨x7, σ7, H7, I7, r7, q7⟩ := q7; exact ⟨x7, σ7, H7, I7.unpinned, r7, q7⟩
end
end L2
namespace L2
open PySem PySem.Spec PyProof.Rows
abbrev R2 := V -> V -> Hp -> VK -> Prop
def OpR (X : Cx) (f : Value -> Value -> Sem Value) (r : R2) : Prop :=
  ∀ (pins : List (Addr × Obj)) (s : Shared) (σ : St) (H : Hp) (x y : V) (v u : Value) (Q : VK), Inv X pins σ H s -> RelV x v -> RelV y u -> r x y H Q ->
    wpAny (model X.prog X.w) X.A (f v u) (EP X pins σ Q) X.xe s
def UnR (X : Cx) (f : Value -> Sem Value) (r : V -> Hp -> VK -> Prop) : Prop :=
  ∀ (pins : List (Addr × Obj)) (s : Shared) (σ : St) (H : Hp) (x : V) (v : Value) (Q : VK), Inv X pins σ H s -> RelV x v -> r x H Q ->
    wpAny (model X.prog X.w) X.A (f v) (EP X pins σ Q) X.xe s
def CallR (X : Cx) (f : Value) (r : List V -> Hp -> VK -> Prop) : Prop :=
  ∀ (pins : List (Addr × Obj)) (s : Shared) (σ : St) (H : Hp) (xs : List V) (us : List Value) (Q : VK), Inv X pins σ H s -> Vals xs us -> r xs H Q ->
    wpAny (model X.prog X.w) X.A (call f us) (EP X pins σ Q) X.xe s
def tOp (r : R2) (ta tb : TE) : TE := fun σ H Q => ta σ H fun x H1 => tb σ H1 fun y H2 => r x y H2 Q
def tUn (r : V -> Hp -> VK -> Prop) (ta : TE) : TE := fun σ H Q => ta σ H fun x H1 => r x H1 Q
def rI (C : Int -> Int -> Prop) (g : Int -> Int -> V) : R2 := fun x y H Q => ∃ i j, x = .int i /\ y = .int j /\ C i j /\ Q (g i j) H
def rI0 (g : Int -> Int -> V) : R2 := fun x y H Q => ∃ i j, x = .int i /\ y = .int j /\ Q (g i j) H
def rU (g : Int -> V) : V -> Hp -> VK -> Prop := fun x H Q => ∃ i, x = .int i /\ Q (g i) H
section
variable {X : Cx} {a b c : Expr} {ta tb tc : TE} {pos : Pos}
theorem zpN (ha : PE X a ta) (hb : PE X b tb) {pins : List (Addr × Obj)} {s : Shared} {σ : St} {H : Hp} {R : V -> V -> Hp -> Prop} (I : Inv X pins σ H s)
    (h : ta σ H fun x H1 => tb σ H1 fun y H2 => R x y H2) {Q : Value -> Shared -> Prop} {f : Value -> Value -> Sem Value}
    (hf : ∀ v u s2 x y H2, Inv X pins σ H2 s2 -> RelV x v -> RelV y u -> R x y H2 -> wpAny (model X.prog X.w) X.A (f v u) Q X.xe s2) :
    wpAny (model X.prog X.w) X.A (eval a X.env) (fun v s₁ => wpAny (model X.prog X.w) X.A (eval b X.env) (fun u s₂ => wpAny (model X.prog X.w) X.A (f v u) Q X.xe s₂) X.xe s₁) X.xe s := by
  refine thn (ha pins s σ H _ I h) fun v s1 ⟨x, H1, I1, r1, q1⟩ => ?_
  refine thn (hb pins s1 σ H1 _ I1 q1) fun u s2 ⟨y, H2, I2, r2, q2⟩ => ?_
  exact hf v u s2 x y H2 I2 r1 r2 q2
theorem zrA {op : Operator} {r : R2} (ho : OpR X (binaryOp op) r) (ha : PE X a ta) (hb : PE X b tb) : PE X (.BinOp a op b pos) (tOp r ta tb) := by
  intro pins s σ H Q I h
  exact wpAny_BinOp (zpN ha hb I h fun v u s2 x y H2 I2 rx ry q => ho pins s2 σ H2 x y v u Q I2 rx ry q)
theorem zo7 {op : UnaryOp} {r : V -> Hp -> VK -> Prop} (ho : UnR X (unaryOp op) r) (ha : PE X a ta) : PE X (.UnaryOp op a pos) (tUn r ta) := by
  intro pins s σ H Q I h
  exact UnaryOp_ (thn (ha pins s σ H _ I h) fun v s1 ⟨x, H1, I1, r1, q1⟩ => ho pins s1 σ H1 x v Q I1 r1 q1)
theorem opI {f : Value -> Value -> Sem Value} {C : Int -> Int -> Prop} {g : Int -> Int -> Int}
    (rule : ∀ (i j : Int) (t u : Tok) (s : Shared) (Q : Value -> Shared -> Prop) (E : Value -> Shared -> Prop), C i j -> Q (.int (g i j) s.toks) { s with toks := s.toks + 1 } -> wpAny (model X.prog X.w) X.A (f (.int i t) (.int j u)) Q E s) :
    OpR X f (rI C fun i j => .int (g i j)) := by
  intro pins s σ H x y v u Q I rx ry h
  obtain ⟨i, j, rfl, rfl, hc, q⟩ := h
  obtain ⟨t, rfl⟩ := rx
  obtain ⟨t', rfl⟩ := ry
  exact rule i j t t' s _ _ hc ⟨.int (g i j), H, I.tok _, ⟨_, rfl⟩, q⟩
theorem zr6 {f : Value -> Value -> Sem Value} {g : Int -> Int -> Int}
    (rule : ∀ (i j : Int) (t u : Tok) (s : Shared) (Q : Value -> Shared -> Prop) (E : Value -> Shared -> Prop), Q (.int (g i j) s.toks) { s with toks := s.toks + 1 } -> wpAny (model X.prog X.w) X.A (f (.int i t) (.int j u)) Q E s) :
    OpR X f (rI0 fun i j => .int (g i j)) := by
  intro pins s σ H x y v u Q I rx ry h
  obtain ⟨i, j, rfl, rfl, q⟩ := h
  obtain ⟨t, rfl⟩ := rx
  obtain ⟨t', rfl⟩ := ry
  exact rule i j t t' s _ _ ⟨.int (g i j), H, I.tok _, ⟨_, rfl⟩, q⟩
theorem zqk {f : Value -> Value -> Sem Value} {g : Int -> Int -> Bool}
    (rule : ∀ (i j : Int) (t u : Tok) (s : Shared) (Q : Value -> Shared -> Prop) (E : Value -> Shared -> Prop), Q (.bool (g i j)) s -> wpAny (model X.prog X.w) X.A (f (.int i t) (.int j u)) Q E s) :
    OpR X f (rI0 fun i j => .bl (g i j)) := by
  intro pins s σ H x y v u Q I rx ry h
  obtain ⟨i, j, rfl, rfl, q⟩ := h
  obtain ⟨t, rfl⟩ := rx
  obtain ⟨t', rfl⟩ := ry
  exact rule i j t t' s _ _ ⟨.bl (g i j), H, I, rfl, q⟩
def zqZ (i j : Int) : Prop := 0 < j /\ j < 1073741824
def zrM (i j : Int) : Prop := 0 <= j /\ j <= 1000000 /\ i.natAbs < 2 ^ 64
def CMul (i j : Int) : Prop := (-(2 ^ 64) < i /\ i < 2 ^ 64) \/ (-(2 ^ 64) < j /\ j < 2 ^ 64)
theorem CMul.ok {i j : Int} (h : CMul i j) : IntMulOk i j := by
  rcases h with ⟨h1, h2⟩ | ⟨h1, h2⟩
  · exact .of_left (intBits_le_64 h1 h2)
  · exact .of_right (intBits_le_64 h1 h2)
theorem op_add : OpR X (binaryOp .Add) (rI0 fun i j => .int (i + j)) := zr6 fun _ _ _ _ _ _ _ q => add_int q
theorem zeP : OpR X (binaryOp .Mult) (rI CMul fun i j => .int (i * j)) := opI fun _ _ _ _ _ _ _ hc q => mul_int q hc.ok
theorem zkP : OpR X (binaryOp .FloorDiv) (rI zqZ fun i j => .int (i / j)) := opI fun i j _ _ _ _ _ hc q => by
  have h1 : (0 : Int) < j := hc.1
  have h2 : j < 1073741824 := hc.2
  exact floordiv_int (by omega) (by rw [Int.fdiv_eq_ediv_of_nonneg i (by omega)]; exact q) (.inl (PyProof.noPylong_small (by omega)))
theorem zeO : OpR X (binaryOp .Mod) (rI (fun _ j => 0 < j) fun i j => .int (i % j)) := opI fun i j _ _ _ _ _ hc q => by
  have h1 : (0 : Int) < j := hc
  exact mod_int' (by omega) (by rw [Int.fmod_eq_emod_of_nonneg i (by omega)]; exact q)
theorem zqs : OpR X (binaryOp .Pow) (rI zrM fun i j => .int (i ^ j.toNat)) := opI fun _ _ _ _ _ _ _ hc q => pow_int_small hc.1 hc.2.1 hc.2.2 q
theorem unI {f : Value -> Sem Value} {g : Int -> Int}
    (rule : ∀ (i : Int) (t : Tok) (s : Shared) (Q : Value -> Shared -> Prop) (E : Value -> Shared -> Prop), Q (.int (g i) s.toks) { s with toks := s.toks + 1 } -> wpAny (model X.prog X.w) X.A (f (.int i t)) Q E s) :
    UnR X f (rU fun i => .int (g i)) := by
  intro pins s σ H x v Q I rx h
  obtain ⟨i, rfl, q⟩ := h
  obtain ⟨t, rfl⟩ := rx
  exact rule i t s _ _ ⟨.int (g i), H, I.tok _, ⟨_, rfl⟩, q⟩
theorem zmf : UnR X (unaryOp .USub) (rU fun i => .int (-i)) := unI fun _ _ _ _ _ q => neg_int q
end
def zrq : V -> V -> Bool
  | .non, .non => true | .non, .int _ => true | .int _, .non => true | .non, .bl _ => true | .bl _, .non => true | .non, .str _ => true | .str _, .non => true
  | .int _, .int _ => true | .bl _, .bl _ => true | .str _, .str _ => true | .byt _, .byt _ => true
  | .int _, .str _ => true | .str _, .int _ => true | .bl _, .str _ => true | .str _, .bl _ => true
  | _, _ => false
def rEq : R2 := fun x y H Q => zrq x y = true /\ Q (.bl (decide (x = y))) H
def rNe : R2 := fun x y H Q => zrq x y = true /\ Q (.bl (!decide (x = y))) H
theorem zj3 {i j : Int} : decide (V.int i = V.int j) = (i == j) := by
  rw [Bool.eq_iff_iff]
  simp
theorem zm1 {i j : Bool} : decide (V.bl i = V.bl j) = (i == j) := by
  rw [Bool.eq_iff_iff]
  simp
theorem zkT {i j : Str} : decide (V.str i = V.str j) = (i == j) := by
  rw [Bool.eq_iff_iff]
  simp
theorem zkk {i j : Array UInt8} : decide (V.byt i = V.byt j) = (i.toList == j.toList) := by
  rw [Bool.eq_iff_iff]
  cases i
  cases j
  simp
section
variable {X : Cx} {a b c : Expr} {ta tb tc : TE} {pos : Pos}
theorem za7 {pins : List (Addr × Obj)} {σ : St} {H : Hp} {s : Shared} {Q : VK} {k k' : Bool} (I : Inv X pins σ H s) (q : Q (.bl k) H) (e : k = k') : EP X pins σ Q (.bool k') s := by
  subst e
  exact ⟨.bl k, H, I, rfl, q⟩
theorem op_eq : OpR X (compareOp .Eq) rEq := by
  intro pins s σ H x y v u Q I rx ry h
  obtain ⟨hs, q⟩ := h
  cases x with
  | non =>
    cases rx
    cases y with
    | non => cases ry; exact PySem.EqNone.eq_none_none (za7 I q (by simp))
    | bl j => cases ry; exact PySem.EqNone.eq_none_bool (za7 I q (by simp))
    | int j => obtain ⟨t', rfl⟩ := ry; exact PySem.EqNone.eq_none_int (za7 I q (by simp))
    | str j => obtain ⟨t', rfl⟩ := ry; exact PySem.EqNone.eq_none_str (za7 I q (by simp))
    | _ => exact absurd (show false = true from hs) Bool.false_ne_true
  | bl i =>
    cases rx
    cases y with
    | non => cases ry; exact PySem.EqNone.eq_bool_none (za7 I q (by simp))
    | bl j => cases ry; exact eq_bool (za7 I q zm1)
    | str j => obtain ⟨t', rfl⟩ := ry; exact PySem.EqMixed.eq_bool_str (za7 I q (by simp))
    | _ => exact absurd (show false = true from hs) Bool.false_ne_true
  | int i =>
    obtain ⟨t, rfl⟩ := rx
    cases y with
    | non => cases ry; exact PySem.EqNone.eq_int_none (za7 I q (by simp))
    | int j => obtain ⟨t', rfl⟩ := ry; exact eq_int (za7 I q zj3)
    | str j => obtain ⟨t', rfl⟩ := ry; exact PySem.EqMixed.eq_int_str (za7 I q (by simp))
    | _ => exact absurd (show false = true from hs) Bool.false_ne_true
  | str i =>
    obtain ⟨t, rfl⟩ := rx
    cases y with
    | non => cases ry; exact PySem.EqNone.eq_str_none (za7 I q (by simp))
    | bl j => cases ry; exact PySem.EqMixed.eq_str_bool (za7 I q (by simp))
    | int j => obtain ⟨t', rfl⟩ := ry; exact PySem.EqMixed.eq_str_int (za7 I q (by simp))
    | str j => obtain ⟨t', rfl⟩ := ry; exact eq_str (za7 I q zkT)
    | _ => exact absurd (show false = true from hs) Bool.false_ne_true
  | byt i =>
    obtain ⟨t, rfl⟩ := rx
    cases y with
    | byt j => obtain ⟨t', rfl⟩ := ry; exact PySem.W.eq_bytes (za7 I q zkk)
    | _ => exact absurd (show false = true from hs) Bool.false_ne_true
  | _ => cases y <;> exact absurd (show false = true from hs) Bool.false_ne_true
theorem zrt : OpR X (compareOp .NotEq) rNe := by
  intro pins s σ H x y v u Q I rx ry h
  obtain ⟨hs, q⟩ := h
  cases x with
  | non =>
    cases rx
    cases y with
    | non => cases ry; exact PySem.EqNone.ne_none_none (za7 I q (by simp))
    | bl j => cases ry; exact PySem.EqNone.ne_none_bool (za7 I q (by simp))
    | int j => obtain ⟨t', rfl⟩ := ry; exact PySem.EqNone.ne_none_int (za7 I q (by simp))
    | str j => obtain ⟨t', rfl⟩ := ry; exact PySem.EqNone.ne_none_str (za7 I q (by simp))
    | _ => exact absurd (show false = true from hs) Bool.false_ne_true
  | bl i =>
    cases rx
    cases y with
    | non => cases ry; exact PySem.EqNone.ne_bool_none (za7 I q (by simp))
    | bl j => cases ry; exact ne_bool (za7 I q (congrArg not zm1))
    | str j => obtain ⟨t', rfl⟩ := ry; exact PySem.EqMixed.ne_bool_str (za7 I q (by simp))
    | _ => exact absurd (show false = true from hs) Bool.false_ne_true
  | int i =>
    obtain ⟨t, rfl⟩ := rx
    cases y with
    | non => cases ry; exact PySem.EqNone.ne_int_none (za7 I q (by simp))
    | int j => obtain ⟨t', rfl⟩ := ry; exact ne_int (za7 I q (congrArg not zj3))
    | str j => obtain ⟨t', rfl⟩ := ry; exact PySem.EqMixed.ne_int_str (za7 I q (by simp))
    | _ => exact absurd (show false = true from hs) Bool.false_ne_true
  | str i =>
    obtain ⟨t, rfl⟩ := rx
    cases y with
    | non => cases ry; exact PySem.EqNone.ne_str_none (za7 I q (by simp))
    | bl j => cases ry; exact PySem.EqMixed.ne_str_bool (za7 I q (by simp))
    | int j => obtain ⟨t', rfl⟩ := ry; exact PySem.EqMixed.ne_str_int (za7 I q (by simp))
    | str j => obtain ⟨t', rfl⟩ := ry; exact ne_str (za7 I q (congrArg not zkT))
    | _ => exact absurd (show false = true from hs) Bool.false_ne_true
  | byt i =>
    obtain ⟨t, rfl⟩ := rx
    cases y with
    | byt j => obtain ⟨t', rfl⟩ := ry; exact PySem.W.ne_bytes (za7 I q (congrArg not zkk))
    | _ => exact absurd (show false = true from hs) Bool.false_ne_true
  | _ => cases y <;> exact absurd (show false = true from hs) Bool.false_ne_true
theorem zgD : OpR X (compareOp .Lt) (rI0 fun i j => .bl (decide (i < j))) := zqk fun _ _ _ _ _ _ _ q => lt_int q
theorem zkA : OpR X (compareOp .LtE) (rI0 fun i j => .bl (decide (i <= j))) := zqk fun _ _ _ _ _ _ _ q => le_int q
theorem zrj : OpR X (compareOp .Gt) (rI0 fun i j => .bl (decide (j < i))) := zqk fun _ _ _ _ _ _ _ q => gt_int q
theorem zeb : OpR X (compareOp .Is) (fun x y H Q => y = .non /\ Q (.bl (decide (x = .non))) H) := by
  intro pins s σ H x y v u Q I rx ry h
  obtain ⟨rfl, q⟩ := h
  cases ry
  refine is_none_gen (za7 I q ?_)
  cases x <;> first
    | (cases rx; rfl)
    | (obtain ⟨t, rfl⟩ := rx; rfl)
theorem znO : OpR X (compareOp .IsNot) (fun x y H Q => y = .non /\ Q (.bl (!decide (x = .non))) H) := by
  intro pins s σ H x y v u Q I rx ry h
  obtain ⟨rfl, q⟩ := h
  cases ry
  refine isnot_none_gen (za7 I q ?_)
  cases x <;> first
    | (cases rx; rfl)
    | (obtain ⟨t, rfl⟩ := rx; rfl)
theorem OpR.or {f : Value -> Value -> Sem Value} {r r' : R2} (h : OpR X f r) (h' : OpR X f r') : OpR X f (fun x y H Q => r x y H Q \/ r' x y H Q) := by
  intro pins s σ H x y v u Q I rx ry q
  rcases q with q | q
  · exact h pins s σ H x y v u Q I rx ry q
  · exact h' pins s σ H x y v u Q I rx ry q
theorem zaF (b : Expr) {op : CmpOp} (h : op ≠ .In := by decide) (h2 : op ≠ .NotIn := by decide) : behindInMarks op b = false := by
  have e1 : (op == CmpOp.In) = false := by cases op <;> first | rfl | exact absurd rfl h
  have e2 : (op == CmpOp.NotIn) = false := by cases op <;> first | rfl | exact absurd rfl h2
  cases b <;> simp [behindInMarks, e1, e2]
theorem zow {op : CmpOp} {r : R2} (ho : OpR X (compareOp op) r) (ha : PE X a ta) (hb : PE X b tb) (hm : behindInMarks op b = false) : PE X (.Compare a [op] [b] pos) (tOp r ta tb) := by
  intro pins s σ H Q I h
  exact wpAny_Compare1 (zpN ha hb I h fun v u s2 x y H2 I2 rx ry q => ho pins s2 σ H2 x y v u Q I2 rx ry q) hm
def zmQ (t : TE) : TT := fun σ H Q => t σ H fun x H' => ∃ k, x = .bl k /\ Q k H'
theorem znQ {op : CmpOp} {r : R2} (ho : OpR X (compareOp op) r) (ha : PE X a ta) (hb : PE X b tb) (hm : behindInMarks op b = false) : PT X (.Compare a [op] [b] pos) (zmQ (tOp r ta tb)) := by
  intro pins s σ H Q I h
  refine wpAny_isTrue_Compare1 (thn (ha pins s σ H _ I h) fun v s1 ⟨x, H1, I1, r1, q1⟩ => thn (hb pins s1 σ H1 _ I1 q1) fun u s2 ⟨y, H2, I2, r2, q2⟩ =>
    thn (ho pins s2 σ H2 x y v u _ I2 r1 r2 q2) fun c s3 ⟨z, H3, I3, r3, k, e, q3⟩ => ?_) hm
  subst e
  cases r3
  exact wpAny_truthy_bool ⟨H3, I3, q3⟩
def zjK (r r' : R2) (ta tb tc : TE) : TE := fun σ H Q => ta σ H fun x H1 => tb σ H1 fun y H2 => r x y H2 fun z H3 => ∃ k, z = .bl k /\
  (if k = true then tc σ H3 fun w' H4 => r' y w' H4 Q else Q (.bl false) H3)
theorem zmh {op op' : CmpOp} {r r' : R2} (ho : OpR X (compareOp op) r) (ho' : OpR X (compareOp op') r') (ha : PE X a ta) (hb : PE X b tb) (hc : PE X c tc)
    (hm : lastMarks [op, op'] [b, c] = false := by with_unfolding_all rfl) : PE X (.Compare a [op, op'] [b, c] pos) (zjK r r' ta tb tc) := by
  intro pins s σ H Q I h
  refine Compare_chain (thn (ha pins s σ H _ I h) fun v s1 ⟨x, H1, I1, r1, q1⟩ => chain_link (thn (hb pins s1 σ H1 _ I1 q1) fun u s2 ⟨y, H2, I2, r2, q2⟩ =>
    thn (ho pins s2 σ H2 x y v u _ I2 r1 r2 q2) fun d s3 ⟨z, H3, I3, r3, k, e, q3⟩ => ?_)) hm
  subst e
  cases r3
  refine wpAny_truthy_bool ?_
  cases k with
  | false => exact ite_ff ⟨.bl false, H3, I3, rfl, q3⟩
  | true => exact ite_tt (chain_last (thn (hc pins s3 σ H3 _ I3 q3) fun w' s4 ⟨z', H4, I4, r4, q4⟩ => ho' pins s4 σ H4 y z' u w' Q I4 r2 r4 q4))
theorem znx {op op' : CmpOp} {r r' : R2} (ho : OpR X (compareOp op) r) (ho' : OpR X (compareOp op') r') (ha : PE X a ta) (hb : PE X b tb) (hc : PE X c tc)
    (hm : lastMarks [op, op'] [b, c] = false := by with_unfolding_all rfl) : PT X (.Compare a [op, op'] [b, c] pos) (zmQ (zjK r r' ta tb tc)) := by
  intro pins s σ H Q I h
  refine isTrue_chain (thn (ha pins s σ H _ I h) fun v s1 ⟨x, H1, I1, r1, q1⟩ => test_link (thn (hb pins s1 σ H1 _ I1 q1) fun u s2 ⟨y, H2, I2, r2, q2⟩ =>
    thn (ho pins s2 σ H2 x y v u _ I2 r1 r2 q2) fun d s3 ⟨z, H3, I3, r3, k, e, q3⟩ => ?_)) hm
  subst e
  cases r3
  refine wpAny_truthy_bool ?_
  cases k with
  | false =>
    obtain ⟨k', e', q'⟩ := q3
    cases e'
    exact ite_ff ⟨H3, I3, q'⟩
  | true =>
    refine ite_tt (test_last (thn (hc pins s3 σ H3 _ I3 q3) fun w' s4 ⟨z', H4, I4, r4, q4⟩ => thn (ho' pins s4 σ H4 y z' u w' _ I4 r2 r4 q4) fun d' s5 ⟨z2, H5, I5, r5, k2, e2, q5⟩ => ?_))
    subst e2
    cases r5
    exact wpAny_truthy_bool ⟨H5, I5, q5⟩
theorem zfm : (sizeLine : Nat) < 2 ^ 63 := by rw [sizeLine_eq]; decide
theorem zjo : OpR X (binaryOp .Add) (fun x y H Q => ∃ i j, x = .str i /\ y = .str j /\ i.length + j.length <= sizeLine /\ Q (.str (i ++ j)) H) := by
  intro pins s σ H x y v u Q I rx ry h
  obtain ⟨i, j, rfl, rfl, hz, q⟩ := h
  obtain ⟨t, rfl⟩ := rx
  obtain ⟨t', rfl⟩ := ry
  exact add_str (fun t' tk => ⟨.str (i ++ j), H, I.tok _, ⟨_, rfl⟩, q⟩) hz
theorem vals1 {x : V} {us : List Value} (r : Vals [x] us) : ∃ u, us = [u] /\ RelV x u := by
  cases r with
  | cons r1 r2 => cases r2; exact ⟨_, rfl, r1⟩
theorem vals2 {x y : V} {us : List Value} (r : Vals [x, y] us) : ∃ u w', us = [u, w'] /\ RelV x u /\ RelV y w' := by
  cases r with
  | cons r1 r2 =>
    cases r2 with
    | cons r3 r4 => cases r4; exact ⟨_, _, rfl, r1, r3⟩
theorem zli (hc : X.calm = true) : CallR X (.builtin "max") (fun xs H Q => ∃ i j, xs = [.int i, .int j] /\ Q (.int (if j > i then j else i)) H) := by
  intro pins s σ H xs us Q I r h
  obtain ⟨i, j, rfl, q⟩ := h
  obtain ⟨u, w', rfl, ⟨t, rfl⟩, ⟨t', rfl⟩⟩ := vals2 r
  refine max_two_ints (I.ok.hd hc) fun h' tk k => ⟨_, H, I.kept k, ?_, q⟩
  by_cases hj : j > i
  · rw [if_pos hj, if_pos hj]; exact ⟨_, rfl⟩
  · rw [if_neg hj, if_neg hj]; exact ⟨_, rfl⟩
theorem zkZ (hc : X.calm = true) : CallR X (.builtin "min") (fun xs H Q => ∃ i j, xs = [.int i, .int j] /\ Q (.int (if j < i then j else i)) H) := by
  intro pins s σ H xs us Q I r h
  obtain ⟨i, j, rfl, q⟩ := h
  obtain ⟨u, w', rfl, ⟨t, rfl⟩, ⟨t', rfl⟩⟩ := vals2 r
  refine min_two_ints (I.ok.hd hc) fun h' tk k => ⟨_, H, I.kept k, ?_, q⟩
  by_cases hj : j < i
  · rw [if_pos hj, if_pos hj]; exact ⟨_, rfl⟩
  · rw [if_neg hj, if_neg hj]; exact ⟨_, rfl⟩
theorem zll : CallR X (.type "int") (fun xs H Q => (∃ i, xs = [.int i] /\ Q (.int i) H) \/ ∃ k, xs = [.bl k] /\ Q (.int (if k then 1 else 0)) H) := by
  intro pins s σ H xs us Q I r h
  rcases h with ⟨i, rfl, q⟩ | ⟨k, rfl, q⟩
  · obtain ⟨u, rfl, t, rfl⟩ := vals1 r
    exact call_int_int ⟨.int i, H, I, ⟨_, rfl⟩, q⟩
  · obtain ⟨u, rfl, r1⟩ := vals1 r
    cases r1
    exact call_int_bool ⟨.int (if k then 1 else 0), H, I.tok _, ⟨_, rfl⟩, q⟩
end
end L2
namespace L2
open PySem PySem.Spec PyProof.Rows
structure ObjM (h : Heap) (x dx C : Addr) (mA : Str -> Option Value) : Prop where
  obj : h.get? x = some (PySem.W.instObj C dx)
  ns : h.Ns1 dx mA
  ne : dx ≠ x
theorem lookIn_ns {h : Heap} {dx : Addr} {mA : Str -> Option Value} (n : h.Ns1 dx mA) : ∃ od, h.get? dx = some od /\ ∀ name, PySem.W.lookIn name od = some (mA name) := by
  obtain ⟨o, es, ep, ho, hd, hk, _, hm⟩ := n
  refine ⟨o, ho, fun name => ?_⟩
  have e := hm name
  unfold nsFind findBy at e
  rw [<- Array.find?_toList] at e
  unfold PySem.W.lookIn
  rw [hd]
  dsimp only
  split
  · rename_i y q
    rw [q] at e
    exact congrArg some e
  · rename_i q
    rw [q] at e
    have a : es.toList.any (·.refKey) = false := by
      rw [List.any_eq_false]
      intro y hy
      obtain ⟨z, t, hkey⟩ := hk y (Array.mem_toList_iff.mp hy)
      simp [DictEntry.refKey, hkey]
    have a' : ¬ es.toList.any (·.refKey) = true := by rw [a]; exact Bool.false_ne_true
    rw [if_neg a']
    exact congrArg some e
theorem ObjM.look {h : Heap} {x dx C : Addr} {mA : Str -> Option Value} (I : ObjM h x dx C mA) : ∃ od, PySem.W.InstAt h x (PySem.W.instObj C dx) C (some od) /\ ∀ name, PySem.W.lookIn name od = some (mA name) :=
  let ⟨od, ho, hl⟩ := lookIn_ns I.ns
  ⟨od, ⟨I.obj, rfl, rfl, ho⟩, hl⟩
section
variable {prog : Program} {w : World} {A : Around} {E : Value -> Shared -> Prop} {s : Shared} {K : PySem.W.Frag} {x dx C f : Addr} {mA : Str -> Option Value} {name : Str} {v : Value}
end
def zgJ (f : Str) (v : V) : List (Str × V) -> List (Str × V)
  | [] => [(f, v)]
  | (g, x) :: r => if g = f then (g, v) :: r else (g, x) :: zgJ f v r
theorem zfW (f g : Str) (v : V) : ∀ fs : List (Str × V), (zgJ f v fs).lookup g = if g = f then some v else fs.lookup g
  | [] => by
    show List.lookup g [(f, v)] = _
    by_cases h : g = f
    · have hb : (g == f) = true := beq_iff_eq.mpr h
      simp only [List.lookup, hb, if_pos h]
    · have hb : (g == f) = false := beq_eq_false_iff_ne.mpr h
      simp only [List.lookup, hb, if_neg h]
  | (k, x) :: r => by
    have ih := zfW f g v r
    rw [show zgJ f v ((k, x) :: r) = (if k = f then (k, v) :: r else (k, x) :: zgJ f v r) from rfl]
    by_cases hk : k = f
    · rw [if_pos hk]
      by_cases h : g = k
      · have hb : (g == k) = true := beq_iff_eq.mpr h
        simp only [List.lookup, hb, if_pos (h.trans hk)]
      · have hb : (g == k) = false := beq_eq_false_iff_ne.mpr h
        simp only [List.lookup, hb, if_neg (fun e : g = f => h (e.trans hk.symm))]
    · rw [if_neg hk]
      by_cases h : g = k
      · have hb : (g == k) = true := beq_iff_eq.mpr h
        simp only [List.lookup, hb, if_neg (fun e : g = f => hk (h.symm.trans e))]
      · have hb : (g == k) = false := beq_eq_false_iff_ne.mpr h
        simp only [List.lookup, hb]
        exact ih
theorem zfA (f : Str) (v : V) : ∀ fs : List (Str × V), f ∈ (zgJ f v fs).map (·.1) /\ ∀ g, g ∈ fs.map (·.1) -> g ∈ (zgJ f v fs).map (·.1)
  | [] => ⟨by simp [zgJ], fun g h => by simp at h⟩
  | (k, x) :: r => by
    obtain ⟨i1, i2⟩ := zfA f v r
    rw [show zgJ f v ((k, x) :: r) = (if k = f then (k, v) :: r else (k, x) :: zgJ f v r) from rfl]
    by_cases hk : k = f
    · rw [if_pos hk]
      subst hk
      exact ⟨by simp, fun g h => by simpa using h⟩
    · rw [if_neg hk]
      refine ⟨?_, fun g h => ?_⟩
      · rw [List.map_cons]
        exact List.mem_cons_of_mem _ i1
      · rw [List.map_cons] at h ⊢
        rcases List.mem_cons.mp h with e | e
        · exact List.mem_cons.mpr (.inl e)
        · exact List.mem_cons_of_mem _ (i2 g e)
theorem RelO.some_of {v : V} {o : Option Value} (r : RelO (some v) o) : ∃ u, o = some u /\ RelV v u := by
  cases o with
  | none => exact (show False from r).elim
  | some u => exact ⟨u, rfl, r⟩
theorem zlt {v : V} {u : Value} (r : RelV v u) : PySem.W.handedIn u = true := by
  cases v with
  | non => cases (show u = Value.none from r); rfl
  | bl b => cases (show u = Value.bool b from r); rfl
  | int i => obtain ⟨t, e⟩ := (show ∃ t, u = Value.int i t from r); cases e; rfl
  | str x => obtain ⟨t, e⟩ := (show ∃ t, u = Value.str x t from r); cases e; rfl
  | byt b => obtain ⟨t, e⟩ := (show ∃ t, u = Value.bytes b t from r); cases e; rfl
  | flt b => obtain ⟨t, e⟩ := (show ∃ t, u = Value.float b t from r); cases e; rfl
  | ref a => cases (show u = Value.ref a from r); rfl
  | ty n => cases (show u = Value.type n from r); rfl
section
variable {P : Program} {w : World} {H H' : Hp} {h h' : Heap} {a C dx : Addr} {fs fs' : List (Str × V)}
theorem znY (hok : HOk P w H h) (e : H a = some (.ins C dx fs)) : ∃ mA, ObjM h a dx C mA /\ (∀ f, RelO (fs.lookup f) (mA f)) /\ PySem.Within mA (fs.map (·.1)) /\ fs.length <= 1000 /\ H dx = some (.own a) := by
  obtain ⟨d, z, ne, ob, mA, n, r, q⟩ := (show ObjOk P w H h a (.ins C dx fs) from hok a _ e)
  exact ⟨mA, ⟨ob, n, ne⟩, r, q, z, d⟩
end
structure Cls (K : PySem.W.Frag) (C : Addr) : Prop where
  pg : PySem.W.plainGet K C Str.empty = true
  hd : PySem.W.hasDictIn K C = true
  po : PySem.W.plainOver K C = true
  sa : PySem.W.findIn K (.ref C) "__setattr__" = some (some (.builtin "object.__setattr__"))
theorem Cls.get {K : PySem.W.Frag} {C : Addr} (c : Cls K C) (f : Str) : PySem.W.plainGet K C f = true := c.pg
def zfz (K : PySem.W.Frag) (C : Addr) (f : Str) : Prop := PySem.W.findIn K (.ref C) f = some none
section
variable {X : Cx} {pins : List (Addr × Obj)} {σ : St} {H : Hp} {s : Shared} {a C dx : Addr} {fs : List (Str × V)} {f : Str} {v : V} {A : Around} {E : Value -> Shared -> Prop}
theorem zov {prog : Program} {w : World} {env : Env} {e : Expr} {f : Str} {pos : Pos} {s : Shared} {Q : Value -> Shared -> Prop} (hb : attributeBase e f env (eval e env) = eval e env)
    (h : wpAny (model prog w) A (eval e env) (fun o s₁ => wpAny (model prog w) A (getAttr o f true) Q E s₁) E s) : wpAny (model prog w) A (eval (.Attribute e f pos) env) Q E s :=
  Attribute_any_ h (by rw [arm_eval_Attribute, hb])
end
section
variable {X : Cx} {o e value : Expr} {f : Str} {pos pos' tpos : Pos} {ta tv : TE}
end
section
variable {X : Cx} {pins : List (Addr × Obj)} {σ : St} {H : Hp} {s : Shared} {A : Around} {E : Value -> Shared -> Prop} {Q : Value -> Shared -> Prop} {c : Value} {b : Bool}
inductive TyOf (K : PySem.W.Frag) (H : Hp) : V -> Value -> Prop where
  | non : TyOf K H .non (.type "NoneType")
  | bl (x : Bool) : TyOf K H (.bl x) (.type "bool")
  | int (i : Int) : TyOf K H (.int i) (.type "int")
  | str (x : Str) : TyOf K H (.str x) (.type "str")
  | flt (x : UInt64) : TyOf K H (.flt x) (.type "float")
  | lst {a : Addr} {xs : List V} (e : H a = some (.lst xs)) : TyOf K H (.ref a) (.type "list")
  | frz {a : Addr} {o : Obj} {xs : List V} (e : H a = some (.frz o (.lst xs))) : TyOf K H (.ref a) (.type "list")
  | tup {a : Addr} {xs : List V} (e : H a = some (.tup xs)) : TyOf K H (.ref a) (.type "tuple")
  | dK {a : Addr} {kvs : List (Key × V)} (e : H a = some (.dK kvs)) : TyOf K H (.ref a) (.type "dict")
  | dT {a : Addr} {kvs : List (List Key × V)} (e : H a = some (.dT kvs)) : TyOf K H (.ref a) (.type "dict")
  | ins {a C dx : Addr} {fs : List (Str × V)} (e : H a = some (.ins C dx fs)) (cl : Cls K C) (ha : PySem.W.findIn K (.ref C) "__class__" = some (some (.builtin "object.__class__")))
      (hn : PySem.W.specialIn K (.builtin "object.__class__") "__get__" = some (some (.builtin "getset_descriptor.__get__"))) (htk : PySem.W.takesIn K (.builtin "object.__class__") = some true)
      (hm : PySem.W.mroIn K C (.type "object") = some true) : TyOf K H (.ref a) (.ref C)
theorem zlp {x : V} {u t : Value} (I : Inv X pins σ H s) (rx : RelV x u) (ty : TyOf X.K H x t) (e : PySem.W.kitOne X.K t c = some b) (h : ∀ tk, Q (.bool b) { s with toks := tk }) :
    wpAny (model X.prog X.w) A (call (.builtin "isinstance") [u, c]) Q E s := by
  cases ty with
  | non => cases (show u = Value.none from rx); exact PySem.W.kia_one PySem.W.kitx_none I.kIn True.intro e (fun z => nomatch z) h
  | bl y => cases (show u = Value.bool y from rx); exact PySem.W.kia_one PySem.W.kitx_bool I.kIn True.intro e (fun z => nomatch z) h
  | int i => obtain ⟨t, q⟩ := (show ∃ t, u = Value.int i t from rx); cases q; exact PySem.W.kia_one PySem.W.kitx_int I.kIn True.intro e (fun z => nomatch z) h
  | str y => obtain ⟨t, q⟩ := (show ∃ t, u = Value.str y t from rx); cases q; exact PySem.W.kia_one PySem.W.kitx_str I.kIn True.intro e (fun z => nomatch z) h
  | flt y => obtain ⟨t, q⟩ := (show ∃ t, u = Value.float y t from rx); cases q; exact PySem.W.kia_one PySem.W.kitx_float I.kIn True.intro e (fun z => nomatch z) h
  | @lst a xs ea =>
    cases (show u = Value.ref a from rx)
    obtain ⟨_, _, n, _, h1⟩ := (show ObjOk X.prog X.w H s.heap a (.lst xs) from I.hok a _ ea)
    exact PySem.W.kia_one PySem.W.kitx_list I.kIn ⟨_, h1, rfl⟩ e (fun z => nomatch z) h
  | @frz a ob xs ea =>
    cases (show u = Value.ref a from rx)
    obtain ⟨_, _, _, n, _, h1⟩ := (show ObjOk X.prog X.w H s.heap a (.frz ob (.lst xs)) from I.hok a _ ea)
    exact PySem.W.kia_one PySem.W.kitx_list I.kIn ⟨_, h1, rfl⟩ e (fun z => nomatch z) h
  | @tup a xs ea =>
    cases (show u = Value.ref a from rx)
    obtain ⟨_, _, _, p⟩ := (show ObjOk X.prog X.w H s.heap a (.tup xs) from I.hok a _ ea)
    obtain ⟨o, h1, h2, _⟩ := p
    exact PySem.W.kia_one PySem.W.kitx_tuple I.kIn ⟨o, h1, h2⟩ e (fun z => nomatch z) h
  | @dK a kvs ea =>
    cases (show u = Value.ref a from rx)
    obtain ⟨_, _, vs, _, p⟩ := (show ObjOk X.prog X.w H s.heap a (.dK kvs) from I.hok a _ ea)
    obtain ⟨o, es, ep, h1, h2, _⟩ := p
    exact PySem.W.kia_one PySem.W.kitx_dict I.kIn ⟨o, h1, h2.1⟩ e (fun z => nomatch z) h
  | @dT a kvs ea =>
    cases (show u = Value.ref a from rx)
    obtain ⟨_, _, xs, _, o, es, ep, h1, h2, _⟩ := (show ObjOk X.prog X.w H s.heap a (.dT kvs) from I.hok a _ ea)
    exact PySem.W.kia_one PySem.W.kitx_dict I.kIn ⟨o, h1, h2.1⟩ e (fun z => nomatch z) h
  | @ins a C dx fs ea cl ha hn htk hm =>
    cases (show u = Value.ref a from rx)
    obtain ⟨mA, O, _⟩ := znY I.hok ea
    obtain ⟨od, J, _⟩ := O.look
    exact PySem.W.kia_one (PySem.W.kitx_own (cl.get _) cl.hd ha hn htk hm) I.kIn J e (fun z => nomatch z) h
end
end L2
namespace L2
open PySem PySem.Spec PyProof.Rows
structure Room (k : Nat) (A : Around) : Prop where
  hd : A.handled = none
  dp : A.depth + 3 * k + 5 < recursionLimit
  un : A.units + 16 * k + 200 < cLine
  gd : A.guards = some []
theorem Room.mono {j k : Nat} {A : Around} (r : Room k A) (h : j <= k) : Room j A := ⟨r.hd, by have := r.dp; omega, by have := r.un; omega, r.gd⟩
theorem Room.deeper {k : Nat} {A : Around} (r : Room (k + 1) A) (env : Env) : Room k (A.deeper env) :=
  ⟨r.hd, by have := r.dp; show A.depth + 1 + 3 * k + 5 < _; omega, by have := r.un; show A.units + 3 + 16 * k + 200 < _; omega, r.gd⟩
theorem zjD {A : Around} {C : Addr} {us : List Value} {kw : List (Str × Value)} : (A.under (.builtin "type.__call__" ⟨.ref C :: us, kw⟩)).depth = A.depth + 1 := by
  first | rfl | simp [Around.under, Code.weight, Code.isCreation, Code.isGuard, Code.isCaller, Code.frames, Code.isFrame, guardIds]
theorem zjC {A : Around} {C : Addr} {us : List Value} {kw : List (Str × Value)} : (A.under (.builtin "type.__call__" ⟨.ref C :: us, kw⟩)).units = A.units + 1 := by
  first | rfl | simp [Around.under, Code.cUnits, Code.frames, Code.isFrame]
theorem ziw {A : Around} {C : Addr} {us : List Value} {kw : List (Str × Value)} (h : A.guards = some []) : (A.under (.builtin "type.__call__" ⟨.ref C :: us, kw⟩)).guards = some [] := by
  show pushGuards (Code.guards (.builtin "type.__call__" ⟨.ref C :: us, kw⟩)) A.guards = some []
  rw [h]; first | rfl | (simp [Code.guards, Code.isGuard, guardIds, pushGuards])
theorem Room.make {k : Nat} {A : Around} (r : Room (k + 1) A) (C : Addr) (us : List Value) (kw : List (Str × Value)) : Room k (A.under (.builtin "type.__call__" ⟨.ref C :: us, kw⟩)) :=
  ⟨r.hd, by have := r.dp; rw [zjD]; omega, by have := r.un; rw [zjC]; omega, ziw r.gd⟩
theorem Room.depth {k : Nat} {A : Around} (r : Room k A) : A.depth < recursionLimit := by have := r.dp; omega
theorem Room.units {k : Nat} {A : Around} (r : Room k A) : A.units + 64 < cLine := by have := r.un; omega
def zoz : TA := fun _ H Q => Q [] H
def zhu (ta : TE) (tr : TA) : TA := fun σ H Q => ta σ H fun x H1 => tr σ H1 fun xs H2 => Q (x :: xs) H2
section
variable {X : Cx} {e : Expr} {es : List Expr} {te : TE} {t : TA} {pos : Pos}
theorem zbh : PA X [] zoz := fun _ _ _ _ H Q I h => Calls.spliced_nil ⟨[], H, I, .nil, h⟩
theorem zap (ha : PE X e te) (hr : PA X es t) (hs : starEach (e :: es) X.env = (false, eval e X.env) :: starEach es X.env := by rfl) : PA X (e :: es) (zhu te t) := by
  intro pos pins s σ H Q I h
  rw [hs]
  show wpAny _ _ (spliced ((false, eval e X.env) :: backTo pos (starEach es X.env))) _ _ s
  refine Calls.spliced_cons (thn (ha pins s σ H _ I h) fun u s1 ⟨x, H1, I1, r1, q1⟩ => ?_)
  exact thn (hr pos pins s1 σ H1 _ I1 q1) fun us s2 ⟨xs, H2, I2, r2, q2⟩ => ⟨x :: xs, H2, I2, .cons r1 r2, q2⟩
def zr9 (t : TA) : TE := fun σ H Q => t σ H fun xs H1 => xs.length <= sizeLine /\ ∀ p, H1 p = none -> Q (.ref p) (upd H1 p (.tup xs))
def zsg (t : TA) : TE := fun σ H Q => t σ H fun xs H1 => xs.length <= sizeLine /\ ∀ p, H1 p = none -> Q (.ref p) (upd H1 p (.lst xs))
theorem zpP {x1} (h : PA X es t) : PE X (.Tuple es x1 pos) (zr9 t) := by
  intro pins s σ H Q I hq
  refine wpAny_Tuple_spliced (thn (h pos pins s σ H _ I hq) fun us s1 ⟨xs, H1, I1, r, z, q⟩ => ⟨by rw [<- r.length]; exact z, ?_⟩)
  have hf : H1 s1.heap.objs.size = none := I1.hok.fresh (Nat.le_refl _)
  refine ⟨.ref s1.heap.objs.size, upd H1 s1.heap.objs.size (.tup xs), I1.laid (t' := s1.toks) (fun b u e => Heap.get?_push_of_some _ e) (Nat.le_refl _) ?_, rfl, q _ hf⟩
  exact ⟨z, us, r, ⟨_, Heap.get?_push_size _ rfl, rfl, _, rfl⟩⟩
theorem zpk (h : PA X es t) : PE X (.List es pos) (zsg t) := by
  intro pins s σ H Q I hq
  refine wpAny_List_spliced (thn (h pos pins s σ H _ I hq) fun us s1 ⟨xs, H1, I1, r, z, q⟩ => ⟨by rw [<- r.length]; exact z, ?_⟩)
  have hf : H1 s1.heap.objs.size = none := I1.hok.fresh (Nat.le_refl _)
  refine ⟨.ref s1.heap.objs.size, upd H1 s1.heap.objs.size (.lst xs), I1.laid (t' := s1.toks) (fun b u e => Heap.get?_push_of_some _ e) (Nat.le_refl _) ?_, rfl, q _ hf⟩
  exact ⟨z, us, 0, r, Heap.get?_push_size _ rfl⟩
end
abbrev Sp := List V -> Hp -> VK -> XK -> Prop
abbrev CXT := List Env -> Hp -> Shared -> XK -> Value -> Shared -> Prop
structure Env0 (P : Program) (w : World) (K : PySem.W.Frag) (mg : Str -> Option Value) (base : Heap) (A : Around) (outer : List Env) (s : Shared) (H : Hp) : Prop where
  frames : A.frames = some outer
  mod : Mod K mg base
  bs : ∀ b o, base.get? b = some o -> s.heap.get? b = some o /\ H b = none
  bsz : base.objs.size <= s.heap.objs.size
  funs : s.heap.FunFrames base outer
  frf : ∀ b ∈ frs outer, H b = none
  hok : HOk P w H s.heap
  bare : AllBare s.gens
def CE (outer : List Env) (P : Program) (w : World) (H : Hp) (s : Shared) (Q : VK) (u : Value) (s' : Shared) : Prop :=
  ∃ v H', s'.os = s.os /\ AllBare s'.gens /\ Un (frs outer) [] H H' s.heap s'.heap /\ HOk P w H' s'.heap /\ RelV v u /\ Q v H'
def CR (CX : CXT) (outer : List Env) (P : Program) (w : World) (H : Hp) (s : Shared) (Q : VK) (E : XK) (r : Result) (s' : Shared) : Prop :=
  match r with
  | .ok (.ret u) => CE outer P w H s Q u s'
  | .ok _ => False
  | .error e => CX outer H s E e s'
structure FnOk (P : Program) (w : World) (K : PySem.W.Frag) (mg : Str -> Option Value) (base : Heap) (CX : CXT) (k : Nat) (f : Addr) (fd : FuncData) (ps : List Str) (sp : Sp) : Prop where
  len : ∀ vs H Q E, sp vs H Q E -> vs.length = ps.length
  run : ∀ (A : Around) (outer : List Env) (s : Shared) (H : Hp) (args : Args) (us : List Value) (vs : List V) (Q : VK) (E : XK), Room k A -> Env0 P w K mg base A outer s H -> BindsTo s fd args (ps.zip us) -> Vals vs us -> sp vs H Q E ->
    codeAny (model P w) A (.call (.ref f) args) (CR CX outer P w H s Q E) s
theorem FnOk.imp {P : Program} {w : World} {K : PySem.W.Frag} {mg : Str -> Option Value} {base : Heap} {CX : CXT} {k : Nat} {f : Addr} {fd : FuncData} {ps : List Str} {sp sp' : Sp} (F : FnOk P w K mg base CX k f fd ps sp)
    (h : ∀ vs H Q E, sp' vs H Q E -> sp vs H Q E) : FnOk P w K mg base CX k f fd ps sp' :=
  ⟨fun vs H Q E q => F.len vs H Q E (h _ _ _ _ q), fun A outer s H args us vs Q E hr he hb hv hs => F.run A outer s H args us vs Q E hr he hb hv (h _ _ _ _ hs)⟩
theorem Env0.make {P : Program} {w : World} {K : PySem.W.Frag} {mg : Str -> Option Value} {base : Heap} {A : Around} {outer : List Env} {s : Shared} {H : Hp} (e : Env0 P w K mg base A outer s H) (C : Addr) (us : List Value) (kw : List (Str × Value)) :
    Env0 P w K mg base (A.under (.builtin "type.__call__" ⟨.ref C :: us, kw⟩)) outer s H := ⟨by first | exact e.frames | (simpa [Around.under, Code.envs, Code.isFrame, pushEnvs] using e.frames), e.mod, e.bs, e.bsz, e.funs, e.frf, e.hok, e.bare⟩
section
variable {X : Cx} {pins : List (Addr × Obj)} {σ : St} {H : Hp} {s s' : Shared}
theorem Inv.env0 (I : Inv X pins σ H s) : Env0 X.prog X.w X.K X.mg X.base X.A X.stack s H :=
  ⟨I.ok.frames, I.ok.mod, I.bs, Nat.le_trans I.ok.bsz I.sz, I.stack, I.stkFree, I.hok, I.bare⟩
theorem Inv.after {Q : VK} {u : Value} (I : Inv X pins σ H s) (h : CE X.stack X.prog X.w H s Q u s') : EP X pins σ Q u s' := by
  obtain ⟨v, H', os, bare, un, hok, r, q⟩ := h
  obtain ⟨hh, g, d, t, os'⟩ := s'
  obtain rfl : os' = s.os := os
  exact ⟨v, H', I.call (h' := hh) (g' := g) (d' := d) (t' := t) (ch := []) un hok bare (fun b z => absurd z (by simp)), r, q⟩
end
def zkW (sp : Sp) (dvs : List V) (E : XK) (t : TA) : TE := fun σ H Q => t σ H fun vs H1 => sp (vs ++ dvs) H1 Q E
def Binds (K : PySem.W.Frag) (fd : FuncData) (ps : List Str) (ds : List Value) : Prop :=
  ∀ (s : Shared) (us : List Value), K.In s.heap -> (us ++ ds).length = ps.length -> BindsTo s fd ⟨us, []⟩ (ps.zip (us ++ ds))
theorem Binds.all {K : PySem.W.Frag} {fd : FuncData} {ps : List Str} (h : ∀ us : List Value, us.length = ps.length -> bindArgs fd ⟨us, []⟩ = pure (ps.zip us)) : Binds K fd ps [] := fun s us _ hl => by
  rw [List.append_nil] at hl ⊢
  exact .of_eq (h us hl)
def zie (CX : CXT) (X : Cx) (E : XK) : Prop := ∀ (pins : List (Addr × Obj)) (σ : St) (H : Hp) (s : Shared) (e : Value) (s' : Shared), Inv X pins σ H s -> CX X.stack H s E e s' -> X.xe e s'
section
variable {X : Cx} {CX : CXT} {k : Nat} {f C : Addr} {fd : FuncData} {ps : List Str} {sp : Sp} {dvs : List V} {ds : List Value} {E : XK} {x m : Str} {p pos apos : Pos} {e o : Expr} {es : List Expr} {ta : TE} {t : TA}
theorem zmq {pins : List (Addr × Obj)} {σ : St} {H : Hp} {s : Shared} {Q : VK} {us : List Value} {vs : List V} (F : FnOk X.prog X.w X.K X.mg X.base CX k f fd ps sp) (hr : Room k X.A) (hb : Binds X.K fd ps ds) (hd : Vals dvs ds) (hx : zie CX X E)
    (I : Inv X pins σ H s) (r : Vals vs us) (h : sp (vs ++ dvs) H Q E) : wpAny (model X.prog X.w) X.A (call (.ref f) us) (EP X pins σ Q) X.xe s := by
  have r2 : Vals (vs ++ dvs) (us ++ ds) := r.append hd
  have hl : (us ++ ds).length = ps.length := by rw [<- r2.length]; exact F.len _ _ _ _ h
  refine wpAny_call (codeAny_mono (F.run X.A X.stack s H ⟨us, []⟩ (us ++ ds) (vs ++ dvs) Q E hr I.env0 (hb s us I.kIn hl) r2 h) fun r s' hq => ?_)
  cases r with
  | error e => exact hx pins σ H s e s' I hq
  | ok fl =>
    cases fl with
    | ret u => exact I.after hq
    | next => exact False.elim hq
    | brk => exact False.elim hq
    | cont => exact False.elim hq
theorem zkJ (F : FnOk X.prog X.w X.K X.mg X.base CX k f fd ps sp) (hr : Room k X.A) (hg : Gl X x) (hm : X.mg x = some (.ref f)) (hk : PySem.W.keepIn X.K (.ref f) = true) (hb : Binds X.K fd ps ds) (hd : Vals dvs ds) (hx : zie CX X E)
    (ha : PA X (e :: es) t) (hdb : (x == ("__debug__" : Str)) = false := by decide) (he : starEach (e :: es) X.env = (false, eval e X.env) :: starEach es X.env := by rfl) (hpl : (backTo pos (starEach es X.env)).any (·.1) = false := by rfl) :
    PE X (.Call (.Name x p) (e :: es) [] pos) (zkW sp dvs E t) := by
  intro pins s σ H Q I h
  refine wpAny_Call_Name_kw (zeq I hg hm ?_ hdb)
  refine PySem.W.callWith_K (h₀ := X.base) I.ok.mod.kin hk (thn (ha pos pins s σ H _ I h) fun us s1 ⟨vs, H1, I1, r, q⟩ => ⟨I1.kIn, ?_⟩) he hpl
  exact zmq F hr hb hd hx I1 r q
theorem zlU (F : FnOk X.prog X.w X.K X.mg X.base CX k f fd ps sp) (hr : Room k X.A) (hg : Gl X x) (hm : X.mg x = some (.ref f)) (hk : PySem.W.keepIn X.K (.ref f) = true) (hb : Binds X.K fd ps ds) (hd : Vals dvs ds) (hx : zie CX X E)
    (hdb : (x == ("__debug__" : Str)) = false := by decide) : PE X (.Call (.Name x p) [] [] pos) (zkW sp dvs E zoz) := by
  intro pins s σ H Q I h
  refine wpAny_Call_Name_kw (zeq I hg hm ?_ hdb)
  exact PySem.W.callWith_K0 I.kIn hk (zmq (us := []) F hr hb hd hx I .nil h)
end
section
variable {X : Cx} {CX : CXT} {k : Nat} {f C : Addr} {fd : FuncData} {ps ks : List Str} {sp : Sp} {E : XK} {x m : Str} {p pos apos kpos : Pos} {e o : Expr} {es : List Expr} {kws : List Keyword} {te ta : TE} {t tk : TA} {nm : Option Str}
variable {g : List Value -> List Value -> List Value} {gV : List V -> List V -> List V}
end
structure FnScope (N P : List Str) (sc : Scope) : Prop where
  kind : sc.kind = .function
  co : sc.isCoroutine = false
  gen : sc.isGenerator = false
  nd : N.Nodup
  pre : N.take P.length = P
  par : ∀ x ∈ P, sc.names.lookup x = some .local \/ sc.names.lookup x = some .cell
  nofree : ∀ y ∈ sc.names, y.2 ≠ .free
theorem zhr {kindOf : Str -> Option NameKind} {x : Str} : ∀ {binds : List (Str × Value)} {m : Str -> Option Value}, (∀ v, (x, v) ∉ binds) -> bindL kindOf binds m x = m x
  | [], _, _ => rfl
  | (n, v) :: r, m, h => by
    unfold bindL
    rw [zhr fun w hw => h w (List.mem_cons_of_mem _ hw)]
    split
    · have : x ≠ n := by rintro rfl; exact h v List.mem_cons_self
      simp [this]
    · rfl
theorem zhp {kindOf : Str -> Option NameKind} {x : Str} : ∀ {binds : List (Str × Value)} {m : Str -> Option Value}, (∀ v, (x, v) ∉ binds) -> bindC kindOf binds m x = m x
  | [], _, _ => rfl
  | (n, v) :: r, m, h => by
    unfold bindC
    rw [zhp fun w hw => h w (List.mem_cons_of_mem _ hw)]
    split
    · rfl
    · have : x ≠ n := by rintro rfl; exact h v List.mem_cons_self
      simp [this]
theorem zht {kindOf : Str -> Option NameKind} {x : Str} {v : Value} : ∀ {P : List Str} {vs : List Value} {i : Nat} {m : Str -> Option Value}, P.Nodup -> P[i]? = some x -> vs[i]? = some v -> kindOf x = some .local ->
    bindL kindOf (P.zip vs) m x = some v
  | [], _, _, _, _, h, _, _ => by simp at h
  | _ :: _, [], _, _, _, _, h, _ => by simp at h
  | p :: P, w :: vs, 0, m, nd, h1, h2, hk => by
    simp at h1 h2; subst h1; subst h2
    show bindL kindOf ((p, w) :: P.zip vs) m p = _
    unfold bindL
    rw [zhr fun v hv => (List.nodup_cons.mp nd).1 (List.of_mem_zip hv).1, if_pos hk]
    simp
  | p :: P, w :: vs, i + 1, m, nd, h1, h2, hk => by
    show bindL kindOf ((p, w) :: P.zip vs) m x = _
    unfold bindL
    exact zht (i := i) (List.nodup_cons.mp nd).2 (by simpa using h1) (by simpa using h2) hk
theorem zhC {kindOf : Str -> Option NameKind} {x : Str} {v : Value} : ∀ {P : List Str} {vs : List Value} {i : Nat} {m : Str -> Option Value}, P.Nodup -> P[i]? = some x -> vs[i]? = some v -> kindOf x ≠ some .local ->
    bindC kindOf (P.zip vs) m x = some v
  | [], _, _, _, _, h, _, _ => by simp at h
  | _ :: _, [], _, _, _, _, h, _ => by simp at h
  | p :: P, w :: vs, 0, m, nd, h1, h2, hk => by
    simp at h1 h2; subst h1; subst h2
    show bindC kindOf ((p, w) :: P.zip vs) m p = _
    unfold bindC
    rw [zhp fun v hv => (List.nodup_cons.mp nd).1 (List.of_mem_zip hv).1, if_neg hk]
    simp
  | p :: P, w :: vs, i + 1, m, nd, h1, h2, hk => by
    show bindC kindOf ((p, w) :: P.zip vs) m x = _
    unfold bindC
    exact zhC (i := i) (List.nodup_cons.mp nd).2 (by simpa using h1) (by simpa using h2) hk
def start (N : List Str) (vs : List V) : St := vs.map some ++ List.replicate (N.length - vs.length) none
def zbB (CX : CXT) (P : Program) (w : World) (K : PySem.W.Frag) (mg : Str -> Option Value) (base : Heap) (N : List Str) (qual : Str) (scope : Scope) (f : Addr) (cd : Value) (A : Around) (outer : List Env) (s : Shared) (H : Hp) (E : XK) : Cx where
  prog := P
  w := w
  K := K
  mg := mg
  base := base
  A := A.deeper (envOfC qual scope s.heap.objs.size f cd)
  N := N
  s₀ := s
  H₀ := H
  env := envOfC qual scope s.heap.objs.size f cd
  outer := outer
  stack := envOfC qual scope s.heap.objs.size f cd :: outer
  ex := []
  calm := true
  fn := fun _ => true
  pn := []
  xe := fun e s' => wpAny (model P w) (A.deeper (envOfC qual scope s.heap.objs.size f cd)) (leaving (envOfC qual scope s.heap.objs.size f cd) e) (fun _ s'' => CX outer H s E e s'') (fun e' s'' => CX outer H s E e' s'') s'
theorem ziG {sc : Scope} {n : Nat} {x : Str} (h : sc.names.lookup x = some .cell) : ∃ c, (cellsFrom n sc.names []).lookup x = some c := by
  have q := PySem.W.cellsFrom_some sc.names n [] (.inl h)
  exact Option.isSome_iff_exists.mp q
theorem zlJ {CX : CXT} {P : Program} {w : World} {K : PySem.W.Frag} {mg : Str -> Option Value} {base : Heap} {N ps : List Str} {qual : Str} {scope : Scope} {f : Addr} {cd : Value} {A : Around} {outer : List Env} {s s1 : Shared} {H : Hp} {E : XK} {us : List Value} {vs : List V}
    (S : FnScope N ps scope) (hd : A.handled = none) (e0 : Env0 P w K mg base A outer s H) (hl : vs.length = ps.length) (r : Vals vs us)
    (x : InCallC s s.heap.objs.size (bindL (envOfC qual scope s.heap.objs.size f cd).kindOf (ps.zip us) fun _ => none) (cellsFrom (s.heap.objs.size + 1) scope.names []) (bindC (envOfC qual scope s.heap.objs.size f cd).kindOf (ps.zip us) fun _ => none) s1) :
    Inv (zbB CX P w K mg base N qual scope f cd A outer s H E) [] (start N vs) H s1 := by
  have hpl : ps.length <= N.length := by have := congrArg List.length S.pre; rw [List.length_take] at this; omega
  obtain ⟨h1, tk, rfl, hk⟩ := x.done
  have noA : ∀ b : Addr, b ∉ (zbB CX P w K mg base N qual scope f cd A outer s H E).ex := fun b z => absurd (show b ∈ ([] : List Addr) from z) (by simp)
  refine ⟨⟨e0.mod, S.kind, rfl, rfl, Nat.le_refl _, fun y z c h1 h2 => ?_, fun y hy => ?_, fun y c _ h => ?_, fun _ => hd, Around.frames_deeper e0.frames, .inr ⟨rfl, rfl⟩, fun b z => absurd z (noA b), e0.bs, e0.bsz, fun b _ _ => noA b, fun b z => absurd z (noA b), e0.funs, e0.frf⟩,
    rfl, e0.bare, Un.kept hk, ⟨_, x.toInCall.ns, fun i y v h1 h2 h3 => ?_⟩, fun y c h => ⟨_, x.cell y c h⟩, e0.hok.fresh (Nat.le_refl _), fun y c h => ?_, fun p hp => absurd (show p ∈ ([] : List (Addr × Obj)) from hp) (by simp), e0.hok.kept hk, ?_⟩
  · exact name_of_addr x.apart (PySem.mem_of_lookup h1) (PySem.mem_of_lookup h2)
  · have hy : scope.names.lookup y = some .cell \/ scope.names.lookup y = some .free := hy
    rcases hy with hy | hy
    · exact ziG hy
    · exact absurd rfl (S.nofree _ (PySem.mem_of_lookup hy))
  · exact Nat.le_of_lt (x.above y c (PySem.mem_of_lookup h))
  · have hi : i < vs.length := by
      unfold start at h2
      by_cases hi : i < vs.length
      · exact hi
      · rw [List.getElem?_append_right (by simpa using hi)] at h2
        rw [List.getElem?_replicate] at h2
        split at h2 <;> cases h2
    have ha : vs[i]? = some v := by
      unfold start at h2
      rw [List.getElem?_append_left (by simpa using hi), List.getElem?_map] at h2
      cases e : vs[i]? with
      | none => rw [e] at h2; cases h2
      | some a => rw [e] at h2; cases h2; rfl
    obtain ⟨u, hu, rv⟩ := r.get ha
    have hp : ps[i]? = some y := by
      rw [<- S.pre, List.getElem?_take_of_lt (by omega)]; exact h1
    have ndP : ps.Nodup := by rw [<- S.pre]; exact S.nd.sublist (List.take_sublist _ _)
    refine ⟨u, rv, ?_⟩
    rcases S.par y (List.mem_of_getElem? hp) with k | k
    · exact .inl ⟨k, zht ndP hp hu k⟩
    · obtain ⟨c, e⟩ := ziG (n := s.heap.objs.size + 1) k
      refine .inr ⟨.inl k, c, e, ?_⟩
      have q := x.cell y c e
      rw [zhC ndP hp hu (by show scope.names.lookup y ≠ _; rw [k]; decide)] at q
      exact q
  · exact e0.hok.fresh (Nat.le_of_lt (x.above y c (PySem.mem_of_lookup h)))
  · unfold start
    show _ = N.length
    rw [List.length_append, List.length_map, List.length_replicate]
    omega
theorem zoU {CX : CXT} {P : Program} {w : World} {K : PySem.W.Frag} {mg : Str -> Option Value} {base : Heap} {k : Nat} {f : Addr} {name qual : Str} {params : Arguments} {body : List Stmt} {scope : Scope} {dV kV doc pm cdv ct oc : Value} {an od : Option Addr}
    {osl : Array (Option Value)} {N ps : List Str} {sp : Sp} (lk : K.lookup f = some ⟨oc, od, .func (PySem.W.fnOf name qual params body scope dV kV doc pm an cdv ct), osl⟩) (hcd : PySem.W.codeIn K cdv qual = true) (S : FnScope N ps scope)
    (len : ∀ vs H Q E, sp vs H Q E -> vs.length = ps.length)
    (hbody : ∀ (A : Around) (outer : List Env) (s : Shared) (H : Hp) (vs : List V) (Q : VK) (E : XK), Room k (A.deeper (envOfC qual scope s.heap.objs.size f cdv)) -> sp vs H Q E ->
      ∃ t, PSs (zbB CX P w K mg base N qual scope f cdv A outer s H E) body t /\ t { nx := fun _ H' => Q .non H', rt := Q } (start N vs) H) :
    FnOk P w K mg base CX (k + 1) f (PySem.W.fnOf name qual params body scope dV kV doc pm an cdv ct) ps sp := by
  refine ⟨len, fun A outer s H args us vs Q E hr e0 hb r hsp => ?_⟩
  have hl := len _ _ _ _ hsp
  have KX : K.In s.heap := e0.mod.kin.keeps fun b o e => (e0.bs b o e).1
  have lim : s.heap.NoLimit := e0.mod.nolimit.keeps fun b o e => (e0.bs b o e).1
  have hkind : ∀ y ∈ ps.zip us, scope.names.lookup y.1 = some .local \/ (scope.names.lookup y.1 = some .cell /\ ((cellsFrom (s.heap.objs.size + 1) scope.names []).lookup y.1).isSome = true) := fun ⟨n, v⟩ hy => by
    rcases S.par n (List.of_mem_zip hy).1 with q | q
    · exact .inl q
    · exact .inr ⟨q, PySem.W.cellsFrom_some _ _ _ (.inl q)⟩
  refine codeAny_call_function hr.depth (KX _ _ lk) rfl S.co S.gen rfl (PySem.W.codeRec_of KX hcd) (hb _ _ _ _ ?_)
  refine wpAny_newFunctionEnv_cells S.kind hkind fun env he s1 x => ?_
  subst he
  refine ⟨lim.keeps x.toInCall.keep, codeAny_func ?_⟩
  obtain ⟨t, ht, hq⟩ := hbody A outer s H vs Q E (hr.deeper _) hsp
  have I : Inv (zbB CX P w K mg base N qual scope f cdv A outer s H E) [] (start N vs) H s1 := zlJ S hr.hd e0 hl r x
  refine wpAny_mono (ht [] s1 (start N vs) H _ I hq) (fun fl s' hs => ?_) fun e s' hs => hs
  have fin : ∀ {σ' : St} {H' : Hp} {v : V} {u : Value}, Inv (zbB CX P w K mg base N qual scope f cdv A outer s H E) [] σ' H' s' -> RelV v u -> Q v H' -> CE outer P w H s Q u s' :=
    fun {σ' H' v u} J rv q => ⟨v, H', J.os, J.bare, J.base, J.hok, rv, q⟩
  cases fl with
  | ret u =>
    obtain ⟨v, σ', H', J, rv, q⟩ := hs
    exact fin J rv q
  | next =>
    obtain ⟨σ', H', J, q⟩ := hs
    exact fin (v := V.non) (u := Value.none) J rfl q
  | brk =>
    obtain ⟨_, _, _, q⟩ := hs
    exact False.elim q
  | cont =>
    obtain ⟨_, _, _, q⟩ := hs
    exact False.elim q
end L2
namespace L2
open PySem PySem.Spec PyProof.Rows
section
variable {X : Cx} {x : Str} {p pos : Pos} {e : Expr} {es : List Expr} {t : TA} {id T : String} {r : List V -> Hp -> VK -> Prop}
def tCB (r : List V -> Hp -> VK -> Prop) (t : TA) : TE := fun σ H Q => t σ H fun vs H1 => r vs H1 Q
theorem zao (hc : CallR X (.builtin id) r) (hg : Gl X x) (hm : X.mg x = none) (hv : bootBuiltins x = some (.builtin id)) (ha : PA X (e :: es) t) (hn : x ≠ "__name__" := by decide) (hdb : (x == ("__debug__" : Str)) = false := by decide)
    (he : starEach (e :: es) X.env = (false, eval e X.env) :: starEach es X.env := by rfl) (hpl : (backTo pos (starEach es X.env)).any (·.1) = false := by rfl) : PE X (.Call (.Name x p) (e :: es) [] pos) (tCB r t) := by
  intro pins s σ H Q I h
  refine wpAny_Call_Name_kw (zfF I hg hm hv ?_ hn hdb)
  exact PyProof.Rows.callWith_builtin1 (thn (ha pos pins s σ H _ I h) fun us s1 ⟨vs, H1, I1, r1, q1⟩ => hc pins s1 σ H1 vs us Q I1 r1 q1) he hpl
theorem zcT (hc : CallR X (.type T) r) (hg : Gl X x) (hm : X.mg x = none) (hv : bootBuiltins x = some (.type T)) (ha : PA X (e :: es) t) (hn : x ≠ "__name__" := by decide) (hdb : (x == ("__debug__" : Str)) = false := by decide)
    (he : starEach (e :: es) X.env = (false, eval e X.env) :: starEach es X.env := by rfl) (hpl : (backTo pos (starEach es X.env)).any (·.1) = false := by rfl) : PE X (.Call (.Name x p) (e :: es) [] pos) (tCB r t) := by
  intro pins s σ H Q I h
  refine wpAny_Call_Name_kw (zfF I hg hm hv ?_ hn hdb)
  exact PyProof.Rows.callWith_type1 (thn (ha pos pins s σ H _ I h) fun us s1 ⟨vs, H1, I1, r1, q1⟩ => hc pins s1 σ H1 vs us Q I1 r1 q1) he hpl
end
end L2
namespace HT
open PySem PyProof.Rows
section
open PySem.SeqAt
open PySem.AutoSeq1 (wpAny_loadPart')
open PySem.MeetsSeq PySem.MeetsSeq2 PySem.MeetsSeq3
end
section
variable {prog : Program} {w : World} {A : Around} {E : Value -> Shared -> Prop} {s : Shared}
theorem cat_tup {t b : Addr} {vs ws : List Value} {Q : Value -> Shared -> Prop} (ht : IsTup s.heap t vs.toArray) (hb : IsTup s.heap b ws.toArray) (hv : vs ≠ [])
    (h1 : ws = [] -> Q (.ref t) s) (h2 : ws ≠ [] -> Q (.ref s.heap.objs.size) { s with heap := s.heap.push { cls := .type "tuple", data := .seq (vs ++ ws).toArray } })
    (hsz : vs.length + ws.length <= sizeLine) : wpAny (model prog w) A (binaryOp .Add (.ref t) (.ref b)) Q E s := by
  obtain ⟨⟨cls, dd, data, sl⟩, ho, hc, n, hd⟩ := id ht
  obtain ⟨⟨cls2, dd2, data2, sl2⟩, ho2, hc2, n2, hd2⟩ := id hb
  simp only at hc hd hc2 hd2
  subst hc hd hc2 hd2
  have e : vs.toArray ++ ws.toArray = (vs ++ ws).toArray := by simp
  by_cases hw : ws = []
  · exact concat_meets ⟨_, ho, rfl⟩ ⟨_, ho2, rfl⟩ noFill_tuple_add seq_tuple_add PySem.F.slot_tuple_add PySem.F.entry_tuple_add (PySem.F.args_tuple_add_2 _ _)
      (tuple_addW1 t b vs.toArray ws.toArray n n2 dd dd2 sl sl2 (by simpa using hv) (by simp [hw])) ⟨ho, ho2, h1 hw⟩
  · refine concat_meets ⟨_, ho, rfl⟩ ⟨_, ho2, rfl⟩ noFill_tuple_add seq_tuple_add PySem.F.slot_tuple_add PySem.F.entry_tuple_add (PySem.F.args_tuple_add_2 _ _)
      (tuple_addW2 t b vs.toArray ws.toArray n n2 dd dd2 sl sl2 (by simpa using hv) (by simpa using hw) (by rw [List.size_toArray, List.size_toArray]; exact hsz)) ⟨ho, ho2, ?_⟩
    rw [e]
    exact h2 hw
def sIx (n d : Nat) : Option Int -> Nat
  | none => d
  | some v => if v < 0 then (v + (n : Int)).toNat else min v.toNat n
theorem sIx_nat (n d k : Nat) : sIx n d (some (k : Int)) = min k n := by
  show (if (k : Int) < 0 then ((k : Int) + (n : Int)).toNat else min (k : Int).toNat n) = min k n
  rw [if_neg (by omega), Int.toNat_natCast]
theorem zpE (n d : Nat) (hd : d <= n) (o : Option Int) : sIx n d o <= n := by
  cases o with
  | none => exact hd
  | some v =>
    show (if v < 0 then (v + (n : Int)).toNat else min v.toNat n) <= n
    by_cases hv : v < 0
    · rw [if_pos hv]; omega
    · rw [if_neg hv]; exact Nat.min_le_right _ _
theorem zkL (v : Int) (n d : Nat) : (if v < 0 then max (v + (n : Int)) 0 else min v (n : Int)) = ((sIx n d (some v) : Nat) : Int) := by
  show (if v < 0 then max (v + (n : Int)) 0 else min v (n : Int)) = (((if v < 0 then (v + (n : Int)).toNat else min v.toNat n) : Nat) : Int)
  by_cases hv : v < 0
  · simp only [if_pos hv]; omega
  · simp only [if_neg hv]; omega
theorem zjp (lo hi : Option Int) (n : Nat) : Builtin.Slice.sliceAdjust lo hi 1 (n : Int) = (((sIx n 0 lo : Nat) : Int), ((sIx n n hi : Nat) : Int)) := by
  have h1 : ¬ ((1 : Int) < 0) := by omega
  unfold Builtin.Slice.sliceAdjust
  simp only [h1, if_false]
  refine Prod.ext ?_ ?_
  · cases lo with
    | none => rfl
    | some v => exact zkL v n 0
  · cases hi with
    | none => rfl
    | some v => exact zkL v n n
theorem zjO (i j : Nat) : Builtin.Slice.slicePlaces (i : Int) (j : Int) 1 = j - i := by
  unfold Builtin.Slice.slicePlaces
  have h1 : (1 : Int) > 0 := by omega
  simp only [h1, if_true, Int.ediv_one]
  split <;> omega
theorem zgW {v : Value} {o : Option Int} {Q : Option Int -> Shared -> Prop} (p : IsPart v o) (h : Q o s) : wpAny (model prog w) A (Builtin.Slice.slicePartIndex v) Q E s := by
  cases p with
  | none => exact slicePart_none h
  | int i t => exact slicePart_int h
theorem zfv {sl : Addr} {vl vu : Value} {lo hi : Option Int} {n : Nat} {Q : Int × Int × Nat -> Shared -> Prop} (hs : s.heap.IsSliceOf sl vl vu .none) (pl : IsPart vl lo) (pu : IsPart vu hi)
    (h : Q (((sIx n 0 lo : Nat) : Int), 1, sIx n n hi - sIx n 0 lo) s) : wpAny (model prog w) A (Builtin.Slice.sliceApplied (.ref sl) (pure (n : Int))) Q E s := by
  obtain ⟨os, hos, hcs, hds⟩ := id hs
  unfold Builtin.Slice.sliceApplied Builtin.Slice.sliceFields
  refine wpAny_bind (wpAny_bind (wpAny_field hos hds (x := vl) rfl (wpAny_bind (wpAny_field hos hds (x := vu) rfl (wpAny_bind (wpAny_field hos hds (x := .none) rfl (wpAny_pure ?_)))))))
  refine wpAny_bind (slicePart_none ?_)
  show wpAny _ _ (if ((1 : Int) == 0) = true then _ else _) _ _ s
  rw [if_neg (by decide)]
  refine wpAny_bind (zgW pl (wpAny_bind (zgW pu (wpAny_bind (wpAny_pure ?_)))))
  show wpAny _ _ (match Builtin.Slice.sliceAdjust lo hi 1 (n : Int) with | (lo, hi) => pure (lo, (1 : Int), Builtin.Slice.slicePlaces lo hi 1)) _ _ s
  rw [zjp lo hi n]
  show wpAny _ _ (pure (((sIx n 0 lo : Nat) : Int), (1 : Int), Builtin.Slice.slicePlaces ((sIx n 0 lo : Nat) : Int) ((sIx n n hi : Nat) : Int) 1)) _ _ s
  rw [zjO]
  exact wpAny_pure h
theorem zmZ (xs : Array Value) (i k : Nat) : ((List.range k).filterMap fun (m : Nat) => xs[((i : Int) + (m : Int) * 1).toNat]?).toArray = ((xs.toList.drop i).take k).toArray := by
  have e : (fun (m : Nat) => xs[((i : Int) + (m : Int) * 1).toNat]?) = fun m => xs[i + m]? := by
    funext m
    have : ((i : Int) + (m : Int) * 1).toNat = i + m := by omega
    rw [this]
  rw [e]
  have := pick_run xs i k
  rw [List.filterMap_map] at this
  have e2 : ((fun x => xs[x]?) ∘ fun x => i + x) = fun m => xs[i + m]? := rfl
  rw [e2] at this
  rw [this]
theorem getItem_tuple_cut {t sl : Addr} {items : Array Value} {vl vu : Value} {lo hi : Option Int} {Q : Value -> Shared -> Prop} (ht : IsTup s.heap t items) (hs : s.heap.IsSliceOf sl vl vu .none) (pl : IsPart vl lo) (pu : IsPart vu hi)
    (hw : ¬ (sIx items.size 0 lo = 0 /\ sIx items.size items.size hi = items.size))
    (h : Q (.ref s.heap.objs.size) { s with heap := s.heap.push { cls := .type "tuple", data := .seq ((items.toList.drop (sIx items.size 0 lo)).take (sIx items.size items.size hi - sIx items.size 0 lo)).toArray } })
    (hsz : items.size <= sizeLine) : wpAny (model prog w) A (getItem (.ref t) (.ref sl)) Q E s := by
  have htake : sizeOk (.seq ((items.toList.drop (sIx items.size 0 lo)).take (sIx items.size items.size hi - sIx items.size 0 lo)).toArray) := by
    show ((items.toList.drop (sIx items.size 0 lo)).take (sIx items.size items.size hi - sIx items.size 0 lo)).toArray.size <= sizeLine
    rw [List.size_toArray, List.length_take, List.length_drop, Array.length_toList]
    omega
  have hj : sIx items.size items.size hi <= items.size := zpE _ _ (Nat.le_refl _) hi
  obtain ⟨os, hos, hcs, hds⟩ := id hs
  have hTs : s.TypeIs (.ref sl) "slice" := ⟨os, hos, hcs⟩
  unfold getItem
  try with_reducible refine wpAny_holding ?_
  first | refine wpAny_bind (wpAny_pure ?_) | skip
  refine wpAny_bind (wpAny_sequenceKey ht.typeIs (by decide) ?_)
  refine wpAny_bind (wpAny_callSpecial?_slot (name := Str.ofString "__getitem__") ht.typeIs PyProof.Rows.slot_tuple_getitem
    (wpAny_call_entry PyProof.Rows.slot_tuple_getitem ht.typeIs entry_tuple_getitem ?_ (args_tuple_getitem _ _)))
  show wpAny _ _ (Builtin.Tuple.tupleItemsOf (.ref t) >>= _) _ _ s
  refine wpAny_bind (tupleItemsOf_ ht ?_)
  refine wpAny_bind (wpAny_typeOf hTs ?_)
  rw [if_pos (by decide)]
  refine wpAny_bind (zfv hs pl pu ?_)
  have hno : ¬ ((((sIx items.size 0 lo : Nat) : Int) == 0 && (1 : Int) == 1 && (sIx items.size items.size hi - sIx items.size 0 lo) == items.size) = true) := by
    intro q
    rw [Bool.and_eq_true, Bool.and_eq_true] at q
    have q1 : ((sIx items.size 0 lo : Nat) : Int) = 0 := eq_of_beq q.1.1
    have q2 : sIx items.size items.size hi - sIx items.size 0 lo = items.size := eq_of_beq q.2
    exact hw ⟨by omega, by omega⟩
  show wpAny _ _ (if (((sIx items.size 0 lo : Nat) : Int) == 0 && (1 : Int) == 1 && (sIx items.size items.size hi - sIx items.size 0 lo) == items.size) = true then _ else _) _ _ s
  rw [if_neg hno, zmZ]
  first
    | exact wpAny_bind (m := Builtin.Tuple.tupleExact _) (wpAny_newObj_type (wpAny_pure ⟨_, rfl, wpAny_pure h⟩) htake)
    | exact wpAny_bind (m := Builtin.Tuple.tupleExact _) (wpAny_newObj_type (wpAny_bind (wpAny_pure (wpAny_pure ⟨_, rfl, wpAny_pure h⟩))) htake)
    | exact wpAny_bind (wpAny_bind (m := Builtin.Tuple.tupleExact _) (wpAny_newObj_type (wpAny_pure (wpAny_pure ⟨_, rfl, wpAny_pure h⟩)) htake))
    | exact wpAny_bind (wpAny_bind (m := Builtin.Tuple.tupleExact _) (wpAny_newObj_type (wpAny_pure ⟨_, rfl, wpAny_pure h⟩) htake))
end
end HT
namespace L2
open PySem PySem.Spec PyProof.Rows
abbrev TO := St -> Hp -> (Option Int -> Hp -> Prop) -> Prop
def PO (X : Cx) (e : Option Expr) (t : TO) : Prop :=
  ∀ (pins : List (Addr × Obj)) (s : Shared) (σ : St) (H : Hp) (Q : Option Int -> Hp -> Prop), Inv X pins σ H s -> t σ H Q ->
    wpAny (model X.prog X.w) X.A (evalPart e X.env) (fun u s' => ∃ o H', Inv X pins σ H' s' /\ IsPart u o /\ Q o H') X.xe s
def zoi : TO := fun _ H Q => Q none H
def zrm (t : TE) : TO := fun σ H Q => t σ H fun x H1 => ∃ i, x = .int i /\ Q (some i) H1
theorem intsAre_of {ns : List Int} : ∀ {us : List Value}, Vals (ns.map V.int) us -> IntsAre us ns := by
  induction ns with
  | nil => intro us r; rw [List.map_nil] at r; cases r; exact .nil
  | cons n ns ih =>
    intro us r
    rw [List.map_cons] at r
    cases r with
    | cons r1 r2 =>
      obtain ⟨t, e⟩ := r1
      subst e
      exact .cons n t (ih r2)
section
variable {X : Cx} {e : Expr} {te : TE} {lo hi : Option Expr} {tl th : TO} {pos p2 : Pos}
theorem zoN : PO X none zoi := by
  intro pins s σ H Q I h
  rw [evalPart_none]
  exact wpAny_pure ⟨none, H, I, .none, h⟩
theorem znV (h : PE X e te) : PO X (some e) (zrm te) := by
  intro pins s σ H Q I hw
  rw [evalPart_some]
  refine thn (h pins s σ H _ I hw) fun u s1 ⟨x, H1, I1, r1, q1⟩ => ?_
  obtain ⟨i, rfl, q⟩ := q1
  obtain ⟨t, rfl⟩ := r1
  exact ⟨some i, H1, I1, .int i t, q⟩
def SlR (X : Cx) (r : V -> Option Int -> Option Int -> Hp -> VK -> Prop) : Prop :=
  ∀ (pins : List (Addr × Obj)) (s : Shared) (σ : St) (H : Hp) (x : V) (v vl vu : Value) (lo hi : Option Int) (sl : Addr) (Q : VK), Inv X pins σ H s -> RelV x v -> s.heap.IsSliceOf sl vl vu .none -> IsPart vl lo -> IsPart vu hi -> r x lo hi H Q ->
    ∃ T id, typeLookup (.type T) "__getitem__" = pure (some (.builtin id)) /\ s.TypeIs v T /\ wpAny (model X.prog X.w) X.A (getItem v (.ref sl)) (EP X pins σ Q) X.xe s
theorem SlR.or {r r' : V -> Option Int -> Option Int -> Hp -> VK -> Prop} (h : SlR X r) (h' : SlR X r') : SlR X (fun x lo hi H Q => r x lo hi H Q \/ r' x lo hi H Q) := by
  intro pins s σ H x v vl vu lo hi sl Q I rx hs pl pu q
  rcases q with q | q
  · exact h pins s σ H x v vl vu lo hi sl Q I rx hs pl pu q
  · exact h' pins s σ H x v vl vu lo hi sl Q I rx hs pl pu q
def tSl (r : V -> Option Int -> Option Int -> Hp -> VK -> Prop) (te : TE) (tl th : TO) : TE := fun σ H Q => te σ H fun x H1 => tl σ H1 fun l H2 => th σ H2 fun u H3 => r x l u H3 Q
theorem zi7 {r : V -> Option Int -> Option Int -> Hp -> VK -> Prop} (hr : SlR X r) (he : PE X e te) (hl : PO X lo tl) (hu : PO X hi th) : PE X (.Subscript e (.Slice lo hi none p2) pos) (tSl r te tl th) := by
  intro pins s σ H Q I h
  refine Subscript_ (thn (he pins s σ H _ I h) fun v s1 ⟨x, H1, I1, r1, q1⟩ => ?_)
  refine wpAny_Slice (thn (hl pins s1 σ H1 _ I1 q1) fun vl s2 ⟨l, H2, I2, pl, q2⟩ => thn (hu pins s2 σ H2 _ I2 q2) fun vu s3 ⟨u, H3, I3, pu, q3⟩ => ?_)
  rw [evalPart_none]
  refine wpAny_pure ?_
  have I4 : Inv X pins σ H3 { s3 with heap := s3.heap.push { cls := .type "slice", data := .fields #[vl, vu, .none] } } := I3.kept (t' := s3.toks) fun b ob q => Heap.get?_push_of_some _ q
  obtain ⟨T, id, hT, ht, hg⟩ := hr pins { s3 with heap := s3.heap.push { cls := .type "slice", data := .fields #[vl, vu, .none] } } σ H3 x v vl vu l u s3.heap.objs.size Q I4 r1 (Heap.IsSliceOf.new ..) pl pu q3
  show wpAny (model X.prog X.w) X.A (subscriptTail e (.Slice lo hi none p2) v (.ref s3.heap.objs.size)) (EP X pins σ Q) X.xe { s3 with heap := s3.heap.push { cls := .type "slice", data := .fields #[vl, vu, .none] } }
  exact tail_any (ops := [.ref s3.heap.objs.size, v]) ht hT hg (by with_unfolding_all rfl)
def zhc (xs : List V) (lo hi : Option Int) : List V := (xs.drop (HT.sIx xs.length 0 lo)).take (HT.sIx xs.length xs.length hi - HT.sIx xs.length 0 lo)
theorem zfU (xs : List V) (lo hi : Option Int) : (zhc xs lo hi).length <= xs.length := by
  unfold zhc
  rw [List.length_take, List.length_drop]
  omega
def zr0 (K : PySem.W.Frag) : V -> Option Int -> Option Int -> Hp -> VK -> Prop := fun x lo hi H Q => ∃ a xs, x = .ref a /\ SqT K H a xs /\
  ¬ (HT.sIx xs.length 0 lo = 0 /\ HT.sIx xs.length xs.length hi = xs.length) /\ ∀ p, H p = none -> Q (.ref p) (upd H p (.tup (zhc xs lo hi)))
theorem zpQ : SlR X (zr0 X.K) := by
  intro pins s σ H x v vl vu lo hi sl Q I rx hs pl pu h
  obtain ⟨a, xs, rfl, hx, hw, q⟩ := h
  cases rx
  obtain ⟨its, r, ht, hz⟩ := I.tuple hx
  have hlen : its.toArray.size = xs.length := by rw [List.size_toArray]; exact r.length.symm
  refine ⟨"tuple", _, PyProof.Rows.slot_tuple_getitem.lookup, ht.typeIs, ?_⟩
  refine HT.getItem_tuple_cut ht hs pl pu (by rw [hlen]; exact hw) ?_ (by rw [hlen]; exact hz)
  rw [hlen]
  refine ⟨.ref s.heap.objs.size, _, I.laid (t' := s.toks) (o := .tup (zhc xs lo hi)) (fun b ob q => Heap.get?_push_of_some _ q) (Nat.le_refl _) ?_, rfl, q _ (I.hok.fresh (Nat.le_refl _))⟩
  exact ⟨Nat.le_trans (zfU xs lo hi) hz, _, (r.drop (HT.sIx xs.length 0 lo)).take (HT.sIx xs.length xs.length hi - HT.sIx xs.length 0 lo), IsTup.new _ _⟩
def zpc (K : PySem.W.Frag) : R2 := fun x y H Q => ∃ a b xs ys, x = .ref a /\ y = .ref b /\ SqT K H a xs /\ SqT K H b ys /\ xs ≠ [] /\ xs.length + ys.length <= sizeLine /\
  (ys = [] -> Q (.ref a) H) /\ (ys ≠ [] -> ∀ p, H p = none -> Q (.ref p) (upd H p (.tup (xs ++ ys))))
theorem Vals.nil_iff {xs : List V} {us : List Value} (r : Vals xs us) : us = [] ↔ xs = [] := by
  cases r with
  | nil => simp
  | cons _ _ => simp
theorem znX : OpR X (binaryOp .Add) (zpc X.K) := by
  intro pins s σ H x y v u Q I rx ry h
  obtain ⟨a, b, xs, ys, rfl, rfl, ha, hb, hx, hz, q1, q2⟩ := h
  cases rx
  cases ry
  obtain ⟨its, r1, p1, _⟩ := I.tuple ha
  obtain ⟨its2, r2, p2, _⟩ := I.tuple hb
  refine HT.cat_tup p1 p2 (fun z => hx (r1.nil_iff.mp z)) (fun z => ⟨.ref a, H, I, rfl, q1 (r2.nil_iff.mp z)⟩) (fun z => ?_) (by rw [<- r1.length, <- r2.length]; exact hz)
  refine ⟨.ref s.heap.objs.size, _, I.laid (t' := s.toks) (o := .tup (xs ++ ys)) (fun b ob q => Heap.get?_push_of_some _ q) (Nat.le_refl _) ?_, rfl, q2 (fun w => z (r2.nil_iff.mpr w)) _ (I.hok.fresh (Nat.le_refl _))⟩
  exact ⟨by rw [List.length_append]; exact hz, _, r1.append r2, IsTup.new _ _⟩
end
end L2
namespace L2
open PySem PySem.Spec PyProof.Rows
def ixN (n : Nat) (i : Int) : Option Nat := if 0 <= i then (if i < n then some i.toNat else none) else if -(n : Int) <= i then some (i + n).toNat else none
def atI {α : Type} (xs : List α) (i : Int) : Option α := (ixN xs.length i).bind fun j => xs[j]?
theorem zkj {n : Nat} {i : Int} {j : Nat} (h : ixN n i = some j) : seqIndex? i n = some j /\ j < n /\ -(n : Int) <= i /\ i < n := by
  unfold ixN at h
  by_cases h0 : 0 <= i
  · rw [if_pos h0] at h
    by_cases h1 : i < n
    · rw [if_pos h1] at h
      have e : i.toNat = j := Option.some.inj h
      exact ⟨by rw [seqIndex_of h0 h1, e], by omega, by omega, h1⟩
    · rw [if_neg h1] at h; cases h
  · rw [if_neg h0] at h
    by_cases h1 : -(n : Int) <= i
    · rw [if_pos h1] at h
      have e : (i + n).toNat = j := Option.some.inj h
      exact ⟨by rw [seqIndex_neg (by omega) h1, e], by omega, h1, by omega⟩
    · rw [if_neg h1] at h; cases h
theorem zhL {α : Type} {xs : List α} {i : Int} {v : α} (h : atI xs i = some v) : ∃ j, seqIndex? i xs.length = some j /\ xs[j]? = some v /\ j < xs.length /\ -(xs.length : Int) <= i /\ i < xs.length := by
  unfold atI at h
  cases e : ixN xs.length i with
  | none => rw [e] at h; cases h
  | some j =>
    rw [e] at h
    obtain ⟨h1, h2, h3, h4⟩ := zkj e
    exact ⟨j, h1, h, h2, h3, h4⟩
theorem zdE {α : Type} {xs : List α} {j : Nat} {v : α} (h : xs[j]? = some v) : atI xs (j : Int) = some v := by
  have hj : j < xs.length := (List.getElem?_eq_some_iff.mp h).1
  have e : ixN xs.length (j : Int) = some j := by
    unfold ixN
    rw [if_pos (by omega), if_pos (by omega)]; simp
  unfold atI; rw [e]; exact h
def zkF (b : Expr) : Prop := ∀ o i, subscripted b false o i = operate [o, i] (getItem o i)
def IxR (X : Cx) (r : R2) : Prop :=
  ∀ (value slice : Expr) (pins : List (Addr × Obj)) (s : Shared) (σ : St) (H : Hp) (x y : V) (v u : Value) (Q : VK), Inv X pins σ H s -> RelV x v -> RelV y u -> r x y H Q ->
    subscripted slice false v u = operate [v, u] (getItem v u) -> wpAny (model X.prog X.w) X.A (subscriptTail value slice v u) (EP X pins σ Q) X.xe s
def MtR (X : Cx) (id : String) (r : V -> List V -> Hp -> VK -> Prop) : Prop :=
  ∀ (pins : List (Addr × Obj)) (s : Shared) (σ : St) (H : Hp) (x : V) (xs : List V) (v : Value) (us : List Value) (Q : VK), Inv X pins σ H s -> RelV x v -> Vals xs us -> r x xs H Q ->
    wpAny (model X.prog X.w) X.A (call (.builtin id) (v :: us)) (EP X pins σ Q) X.xe s
section
variable {X : Cx} {a b : Expr} {ta tb : TE} {pos : Pos}
theorem IxR.or {r r' : R2} (h : IxR X r) (h' : IxR X r') : IxR X (fun x y H Q => r x y H Q \/ r' x y H Q) := by
  intro value slice pins s σ H x y v u Q I rx ry q hs
  rcases q with q | q
  · exact h value slice pins s σ H x y v u Q I rx ry q hs
  · exact h' value slice pins s σ H x y v u Q I rx ry q hs
theorem zq0 {r : R2} (hr : IxR X r) (ha : PE X a ta) (hb : PE X b tb) (hs : zkF b) : PE X (.Subscript a b pos) (tOp r ta tb) := by
  intro pins s σ H Q I h
  exact Subscript_ (zpN ha hb I h fun v u s2 x y H2 I2 rx ry q => hr a b pins s2 σ H2 x y v u Q I2 rx ry q (hs _ _))
def zrT (K : PySem.W.Frag) : R2 := fun x y H Q => ∃ p xs i v, x = .ref p /\ y = .int i /\ SqL K H p xs /\ atI xs i = some v /\ Q v H
def zq1 (K : PySem.W.Frag) : R2 := fun x y H Q => ∃ p xs i v, x = .ref p /\ y = .int i /\ SqT K H p xs /\ atI xs i = some v /\ Q v H
def zq5 : R2 := fun x y H Q => ∃ z i c, x = .str z /\ y = .int i /\ z.length <= sizeLine /\ atI z.cps.toList i = some c /\ Q (.str ⟨#[c]⟩) H
theorem ix_list : IxR X (zrT X.K) := by
  intro value slice pins s σ H x y v u Q I rx ry h hs
  obtain ⟨p, xs, i, z, rfl, rfl, hq, he, q⟩ := h
  cases rx
  obtain ⟨t, rfl⟩ := ry
  obtain ⟨its, r, pl, hz⟩ := I.list hq
  obtain ⟨j, h1, h2, h3, h4, h5⟩ := zhL he
  obtain ⟨w, ew, rw'⟩ := r.get h2
  have hl := r.length
  have hn := zfm
  have fin : EP X pins σ Q w s := ⟨z, H, I, rw', q⟩
  by_cases h0 : 0 <= i
  · have hj : i.toNat = j := by
      rw [seqIndex_of h0 h5] at h1
      exact Option.some.inj h1
    exact item_listR pl.isList h0 (by omega) (by rw [hj]; simpa using ew) fin hs
  · have hj : (i + (its.toArray.size : Int)).toNat = j := by
      rw [seqIndex_neg (by omega) h4] at h1
      rw [List.size_toArray, <- hl]
      exact Option.some.inj h1
    exact subscriptTail_builtinR (x := w) pl.isList.typeIs slot_list_getitem.lookup
      (wpAny_getItem_list_neg (Q := fun r s' => r = w /\ EP X pins σ Q r s') pl.isList (by omega) (by rw [List.size_toArray] <;> omega) (by omega) (by rw [hj]; simpa using ew) ⟨rfl, fin⟩) hs
theorem ix_tup : IxR X (zq1 X.K) := by
  intro value slice pins s σ H x y v u Q I rx ry h hs
  obtain ⟨p, xs, i, z, rfl, rfl, hq, he, q⟩ := h
  cases rx
  obtain ⟨t, rfl⟩ := ry
  obtain ⟨its, r, pl, hz⟩ := I.tuple hq
  obtain ⟨j, h1, h2, h3, h4, h5⟩ := zhL he
  obtain ⟨w, ew, rw'⟩ := r.get h2
  have hl := r.length
  have hn := zfm
  have fin : EP X pins σ Q w s := ⟨z, H, I, rw', q⟩
  exact subscriptTail_builtinR (x := w) pl.typeIs slot_tuple_getitem.lookup
    (getItem_tuple (j := j) (Q := fun r s' => r = w /\ EP X pins σ Q r s') pl (by omega) (by omega) (by rw [List.size_toArray, <- hl]; exact h1) (by simpa using ew) ⟨rfl, fin⟩) hs
theorem zpt : IxR X zq5 := by
  intro value slice pins s σ H x y v u Q I rx ry h hs
  obtain ⟨z, i, c, rfl, rfl, hz, he, q⟩ := h
  obtain ⟨t, rfl⟩ := rx
  obtain ⟨t', rfl⟩ := ry
  obtain ⟨j, h1, h2, h3, h4, h5⟩ := zhL he
  have hl : z.cps.toList.length = z.length := by simp [Str.length]
  rw [hl] at h1 h4 h5
  have hn := zfm
  exact tail_any (typeIs_str s z t) slot_str_getitem.lookup (getItem_str (c := c) (by
    have e1 : decide (i < -(2 ^ 63 : Int)) = false := decide_eq_false (by omega)
    have e2 : decide (i ≥ 2 ^ 63) = false := decide_eq_false (by omega)
    rw [e1, e2, Bool.or_false]) (by rw [h1]; simpa using h2) ⟨.str ⟨#[c]⟩, H, I.tok _, ⟨_, rfl⟩, q⟩) hs
def rIx (K : PySem.W.Frag) : R2 := fun x y H Q => zrT K x y H Q \/ zq1 K x y H Q \/ zq5 x y H Q
theorem zpW : IxR X (rIx X.K) := ix_list.or (ix_tup.or zpt)
theorem zjF (its : List Value) (n j : Nat) (u : Value) : Obj.mapSeq (·.setIfInBounds j u) { cls := .type "list", data := .seq its.toArray n } = { cls := .type "list", data := .seq (its.set j u).toArray n } := by
  simp [Obj.mapSeq]
theorem Inv.lst {pins : List (Addr × Obj)} {σ : St} {H : Hp} {s : Shared} {p : Addr} {xs : List V} (I : Inv X pins σ H s) (h : H p = some (.lst xs)) :
    ∃ (its : List Value) (n : Nat), Vals xs its /\ s.heap.get? p = some { cls := .type "list", data := .seq its.toArray n } /\ xs.length <= sizeLine := by
  obtain ⟨z, its, n, r, e⟩ := I.hok p _ h
  exact ⟨its, n, r, e, z⟩
theorem Inv.lstUpd {pins : List (Addr × Obj)} {σ : St} {H : Hp} {s : Shared} {p : Addr} {xs ys : List V} {its its' : List Value} {n n' : Nat} {f : Obj -> Obj} (I : Inv X pins σ H s) (h : H p = some (.lst xs))
    (ho : s.heap.get? p = some { cls := .type "list", data := .seq its.toArray n }) (hf : f { cls := .type "list", data := .seq its.toArray n } = { cls := .type "list", data := .seq its'.toArray n' }) (r : Vals ys its') (hz : ys.length <= sizeLine) (t : Nat) :
    Inv X pins σ (upd H p (.lst ys)) { s with heap := s.heap.update p f, toks := t } := by
  have e : (s.heap.update p f).get? p = some { cls := .type "list", data := .seq its'.toArray n' } := by
    rw [Heap.get?_update_self f ho (by rw [hf] <;> rfl), hf]
  refine I.write (x := p) (e := p) (by rw [h]; trivial) (.inl rfl) (fun b u hb q => (Heap.get?_update_other _ _ (Ne.symm hb)).trans q) ⟨_, e⟩ ?_
  exact ⟨hz, its', n', r, e⟩
def zo0 : V -> V -> V -> Hp -> (Hp -> Prop) -> Prop := fun o i v H Q => ∃ p xs k j, o = .ref p /\ i = .int k /\ H p = some (.lst xs) /\ ixN xs.length k = some j /\ Q (upd H p (.lst (xs.set j v)))
theorem set_list : zry X zo0 := by
  intro pins s σ H o i v ov iv u Q I ro ri rv h
  obtain ⟨p, xs, k, j, rfl, rfl, hp, hj, q⟩ := h
  cases ro
  obtain ⟨t, rfl⟩ := ri
  obtain ⟨its, n, r, ho, hz⟩ := I.lst hp
  obtain ⟨h1, h2, h3, h4⟩ := zkj hj
  have hl := r.length
  have hn := zfm
  have I' : Inv X pins σ (upd H p (.lst (xs.set j v))) { s with heap := s.heap.update p (Obj.mapSeq (·.setIfInBounds j u)) } :=
    I.lstUpd hp ho (zjF its n j u) (r.set rv j) (by rw [List.length_set]; exact hz) s.toks
  by_cases h0 : 0 <= k
  · have hk : k.toNat = j := by
      rw [seqIndex_of h0 h4] at h1
      exact Option.some.inj h1
    exact PySem.W.ki_setAt ho h0 (by omega) (by rw [List.size_toArray, <- hl]; exact h4) (by rw [hk]; exact ⟨_, I', q⟩)
  · have hk : (k + (its.toArray.size : Int)).toNat = j := by
      rw [seqIndex_neg (by omega) h3] at h1
      rw [List.size_toArray, <- hl]
      exact Option.some.inj h1
    exact PySem.W.ki_setBack ho (by omega) (by rw [List.size_toArray, <- hl]; exact h3) (by omega) (by rw [hk]; exact ⟨_, I', q⟩)
theorem zh8 (lo hi : Option Int) (n : Nat) : (sliceBounds lo hi none n).1 = ((HT.sIx n 0 lo : Nat) : Int) /\ (sliceBounds lo hi none n).2.1 = ((HT.sIx n n hi : Nat) : Int) /\ (sliceBounds lo hi none n).2.2 = 1 := by
  refine ⟨?_, ?_, rfl⟩
  · cases lo with
    | none => simp [sliceBounds, HT.sIx]
    | some i =>
      simp only [sliceBounds, HT.sIx, Option.getD_none, show (1 : Int) > 0 by decide, if_true]
      by_cases h : i < 0
      · simp only [h, if_true] <;> omega
      · simp only [h, if_false] <;> omega
  · cases hi with
    | none => simp [sliceBounds, HT.sIx]
    | some i =>
      simp only [sliceBounds, HT.sIx, Option.getD_none, show (1 : Int) > 0 by decide, if_true]
      by_cases h : i < 0
      · simp only [h, if_true] <;> omega
      · simp only [h, if_false] <;> omega
theorem zg2 (its : List Value) (lo hi : Option Int) : slicePick its.toArray lo hi none = ((its.drop (HT.sIx its.length 0 lo)).take (HT.sIx its.length its.length hi - HT.sIx its.length 0 lo)).toArray := by
  obtain ⟨h1, h2, h3⟩ := zh8 lo hi its.toArray.size
  unfold slicePick
  rw [h1, h2, h3]
  simp only [sliceRange_one, pick_run, List.size_toArray] <;> rfl
def zr3 (K : PySem.W.Frag) : V -> Option Int -> Option Int -> Hp -> VK -> Prop := fun x lo hi H Q => ∃ a xs, x = .ref a /\ SqL K H a xs /\ ∀ p, H p = none -> Q (.ref p) (upd H p (.lst (zhc xs lo hi)))
theorem sl_list : SlR X (zr3 X.K) := by
  intro pins s σ H x v vl vu lo hi sl Q I rx hs pl pu h
  obtain ⟨a, xs, rfl, hx, q⟩ := h
  cases rx
  obtain ⟨its, r, ht, hz⟩ := I.list hx
  have hlen := r.length
  refine ⟨"list", _, slot_list_getitem.lookup, ht.isList.typeIs, ?_⟩
  refine wpAny_getItem_list_slice ht.isList hs pl pu .none (by simp) ?_ (by rw [List.size_toArray] <;> omega)
  rw [zg2, <- hlen]
  refine ⟨.ref s.heap.objs.size, _, I.laid (t' := s.toks) (o := .lst (zhc xs lo hi)) (fun b ob q => Heap.get?_push_of_some _ q) (Nat.le_refl _) ?_, rfl, q _ (I.hok.fresh (Nat.le_refl _))⟩
  exact ⟨Nat.le_trans (zfU xs lo hi) hz, _, 0, (r.drop (HT.sIx xs.length 0 lo)).take (HT.sIx xs.length xs.length hi - HT.sIx xs.length 0 lo), Heap.get?_push_size _ rfl⟩
def zcy : V -> Bool
  | .non => true
  | .bl _ => true
  | .int _ => true
  | .str _ => true
  | _ => false
def eqV : V -> V -> Bool
  | .non, .non => true
  | .bl a, .bl b => a == b
  | .bl a, .int b => (if a then 1 else 0) == b
  | .int a, .bl b => a == (if b then 1 else 0)
  | .int a, .int b => a == b
  | .str a, .str b => a == b
  | _, _ => false
theorem zqj {A : Around} {s : Shared} {y x : V} {u v : Value} (ry : RelV y u) (rx : RelV x v) (fy : zcy y = true) (fx : zcy x = true) : SeqAt.EqAt A s u v (eqV y x) := by
  cases y with
  | non =>
    cases ry
    cases x with
    | non => cases rx; exact SeqAt.EqAt.same _
    | bl b => cases rx; exact SeqAt.EqAt.none_bool b
    | int b => obtain ⟨t, rfl⟩ := rx; exact SeqAt.EqAt.none_int b t
    | str b => obtain ⟨t, rfl⟩ := rx; exact SeqAt.EqAt.none_str b t
    | _ => exact absurd (show false = true from fx) Bool.false_ne_true
  | bl a =>
    cases ry
    cases x with
    | non => cases rx; exact SeqAt.EqAt.bool_none a
    | bl b => cases rx; exact SeqAt.EqAt.bool_bool a b
    | int b => obtain ⟨t, rfl⟩ := rx; exact SeqAt.EqAt.bool_int a b t
    | str b => obtain ⟨t, rfl⟩ := rx; exact SeqAt.EqAt.bool_str a b t
    | _ => exact absurd (show false = true from fx) Bool.false_ne_true
  | int a =>
    obtain ⟨t', rfl⟩ := ry
    cases x with
    | non => cases rx; exact SeqAt.EqAt.int_none a t'
    | bl b => cases rx; exact SeqAt.EqAt.int_bool a t' b
    | int b => obtain ⟨t, rfl⟩ := rx; exact SeqAt.EqAt.int_int a t' b t
    | str b => obtain ⟨t, rfl⟩ := rx; exact SeqAt.EqAt.int_str a t' b t
    | _ => exact absurd (show false = true from fx) Bool.false_ne_true
  | str a =>
    obtain ⟨t', rfl⟩ := ry
    cases x with
    | non => cases rx; exact SeqAt.EqAt.str_none a t'
    | bl b => cases rx; exact SeqAt.EqAt.str_bool a t' b
    | int b => obtain ⟨t, rfl⟩ := rx; exact SeqAt.EqAt.str_int a t' b t
    | str b => obtain ⟨t, rfl⟩ := rx; exact SeqAt.EqAt.str_str a t' b t
    | _ => exact absurd (show false = true from fx) Bool.false_ne_true
  | _ => exact absurd (show false = true from fy) Bool.false_ne_true
def eqU (x : V) (u : Value) : Bool := match u with
  | .none => eqV .non x
  | .bool b => eqV (.bl b) x
  | .int i _ => eqV (.int i) x
  | .str z _ => eqV (.str z) x
  | _ => false
theorem zhJ {x y : V} {u : Value} (r : RelV y u) (f : zcy y = true) : eqU x u = eqV y x := by
  cases y with
  | non => cases r; rfl
  | bl b => cases r; rfl
  | int i => obtain ⟨t, rfl⟩ := r; rfl
  | str z => obtain ⟨t, rfl⟩ := r; rfl
  | _ => exact absurd (show false = true from f) Bool.false_ne_true
theorem ze6 {x : V} : ∀ {xs : List V} {us : List Value}, Vals xs us -> xs.all zcy = true -> us.any (eqU x) = xs.any fun y => eqV y x
  | _, _, .nil, _ => rfl
  | y :: xs, u :: us, .cons r t, f => by
    rw [List.all_cons, Bool.and_eq_true] at f
    rw [List.any_cons, List.any_cons, zhJ r f.1, ze6 t f.2]
theorem zcZ {A : Around} {s : Shared} {x : V} {v : Value} (rx : RelV x v) (fx : zcy x = true) : ∀ {xs : List V} {us : List Value}, Vals xs us -> xs.all zcy = true -> ∀ u ∈ us, SeqAt.EqAt A s u v (eqU x u)
  | _, _, .nil, _ => fun u hu => by cases hu
  | y :: xs, u :: us, .cons r t, f => fun u' hu => by
    rw [List.all_cons, Bool.and_eq_true] at f
    rcases List.mem_cons.mp hu with rfl | hu
    · rw [zhJ r f.1]; exact zqj r rx f.1 fx
    · exact zcZ rx fx t f.2 u' hu
def inV (x : V) (xs : List V) : Bool := xs.any fun y => eqV y x
def rIn (K : PySem.W.Frag) (neg : Bool) : R2 := fun x y H Q => ∃ p xs, y = .ref p /\ (SqL K H p xs \/ SqT K H p xs) /\ zcy x = true /\ xs.all zcy = true /\ Q (.bl (if neg then !inV x xs else inV x xs)) H
theorem zhs : OpR X (compareOp .In) (rIn X.K false) := by
  intro pins s σ H x y v u Q I rx ry h
  obtain ⟨p, xs, rfl, hq, fx, fs, q⟩ := h
  cases ry
  rcases hq with hq | hq
  · obtain ⟨its, r, pl, hz⟩ := I.list hq
    refine SeqAt.in_listAt (eqU x) pl.isList (fun w hw => zcZ rx fx r fs w (by simpa using hw)) ⟨.bl _, H, I, rfl, ?_⟩
    rw [show its.toArray.any (eqU x) = its.any (eqU x) by simp, ze6 r fs]
    exact q
  · obtain ⟨its, r, pl, hz⟩ := I.tuple hq
    refine SeqAt.in_tupleAt (eqU x) pl (fun w hw => zcZ rx fx r fs w (by simpa using hw)) ⟨.bl _, H, I, rfl, ?_⟩
    rw [show its.toArray.any (eqU x) = its.any (eqU x) by simp, ze6 r fs]
    exact q
theorem zb0 : OpR X (compareOp .NotIn) (rIn X.K true) := by
  intro pins s σ H x y v u Q I rx ry h
  obtain ⟨p, xs, rfl, hq, fx, fs, q⟩ := h
  cases ry
  rcases hq with hq | hq
  · obtain ⟨its, r, pl, hz⟩ := I.list hq
    refine SeqAt.notIn_listAt (eqU x) pl.isList (fun w hw => zcZ rx fx r fs w (by simpa using hw)) ⟨.bl _, H, I, rfl, ?_⟩
    rw [show its.toArray.any (eqU x) = its.any (eqU x) by simp, ze6 r fs]
    exact q
  · obtain ⟨its, r, pl, hz⟩ := I.tuple hq
    refine SeqAt.notIn_tupleAt (eqU x) pl (fun w hw => zcZ rx fx r fs w (by simpa using hw)) ⟨.bl _, H, I, rfl, ?_⟩
    rw [show its.toArray.any (eqU x) = its.any (eqU x) by simp, ze6 r fs]
    exact q
theorem call_len_seq : CallR X (.builtin "len") (fun xs H Q => ∃ p ys, xs = [.ref p] /\ (SqL X.K H p ys \/ SqT X.K H p ys) /\ Q (.int ys.length) H) := by
  intro pins s σ H xs us Q I r h
  obtain ⟨p, ys, rfl, hq, q⟩ := h
  obtain ⟨u, rfl, rx⟩ := vals1 r
  cases rx
  have hn := zfm
  rcases hq with hq | hq
  · obtain ⟨its, r', pl, hz⟩ := I.list hq
    have hlen := r'.length
    exact Calls.call_len_list pl.isList (by simp only [List.size_toArray] <;> omega) ⟨.int ys.length, H, I.tok _, ⟨s.toks + 1, by rw [List.size_toArray, hlen]⟩, q⟩
  · obtain ⟨its, r', pl, hz⟩ := I.tuple hq
    have hlen := r'.length
    exact len_tuple pl (by simp only [List.size_toArray] <;> omega) ⟨.int ys.length, H, I.tok _, ⟨s.toks + 1, by rw [List.size_toArray, hlen]⟩, q⟩
theorem ziq : CallR X (.builtin "len") (fun xs H Q => ∃ z, xs = [.str z] /\ z.length <= sizeLine /\ Q (.int z.length) H) := by
  intro pins s σ H xs us Q I r h
  obtain ⟨z, rfl, hz, q⟩ := h
  obtain ⟨u, rfl, t, rfl⟩ := vals1 r
  have hn := zfm
  exact len_str (by omega) ⟨.int z.length, H, I.tok _, ⟨_, rfl⟩, q⟩
theorem CallR.or {f : Value} {r r' : List V -> Hp -> VK -> Prop} (h : CallR X f r) (h' : CallR X f r') : CallR X f (fun xs H Q => r xs H Q \/ r' xs H Q) := by
  intro pins s σ H xs us Q I rs q
  rcases q with q | q
  · exact h pins s σ H xs us Q I rs q
  · exact h' pins s σ H xs us Q I rs q
theorem ze9 : CallR X (.type "list") (fun xs H Q => ∃ p ys, xs = [.ref p] /\ (SqL X.K H p ys \/ SqT X.K H p ys) /\ ∀ l, H l = none -> Q (.ref l) (upd H l (.lst ys))) := by
  intro pins s σ H xs us Q I r h
  obtain ⟨p, ys, rfl, hq, q⟩ := h
  obtain ⟨u, rfl, rx⟩ := vals1 r
  cases rx
  have fin : ∀ (its : List Value), Vals ys its -> ys.length <= sizeLine -> ∀ (h' : Heap) (c' : Nat), (∀ b o', s.heap.get? b = some o' -> h'.get? b = some o') ->
      h'.get? s.heap.objs.size = some { cls := .type "list", dict := none, data := .seq its.toArray c', slots := #[] } -> EP X pins σ Q (.ref s.heap.objs.size) { s with heap := h' } := fun its r' hz h' c' kp e =>
    ⟨.ref s.heap.objs.size, _, I.laid (t' := s.toks) kp (Nat.le_refl _) (show ObjOk X.prog X.w _ h' _ (.lst ys) from ⟨hz, its, c', r', e⟩), rfl, q _ (I.hok.fresh (Nat.le_refl _))⟩
  rcases hq with hq | hq
  · obtain ⟨its, r', pl, hz⟩ := I.list hq
    have hlen := r'.length
    obtain ⟨o, ho, hc, n, hd⟩ := pl.isList
    exact call_list_seq p (.inl rfl) ho hc hd (fun h' c' kp e => fin its r' hz h' c' kp e) (by simp only [List.size_toArray] <;> omega)
  · obtain ⟨its, r', pl, hz⟩ := I.tuple hq
    have hlen := r'.length
    obtain ⟨o, ho, hc, n, hd⟩ := pl
    exact call_list_seq p (.inr rfl) ho hc hd (fun h' c' kp e => fin its r' hz h' c' kp e) (by simp only [List.size_toArray] <;> omega)
theorem zg6 : CallR X (.type "tuple") (fun xs H Q => ∃ p ys, xs = [.ref p] /\ ((SqL X.K H p ys /\ ∀ l, H l = none -> Q (.ref l) (upd H l (.tup ys))) \/ (SqT X.K H p ys /\ Q (.ref p) H))) := by
  intro pins s σ H xs us Q I r h
  obtain ⟨p, ys, rfl, h⟩ := h
  obtain ⟨u, rfl, rx⟩ := vals1 r
  cases rx
  rcases h with ⟨hq, q⟩ | ⟨hq, q⟩
  · obtain ⟨its, r', pl, hz⟩ := I.list hq
    have hlen := r'.length
    refine call_tuple_list pl.isList (fun h' kp => ?_) (by simp only [List.size_toArray] <;> omega)
    have I1 : Inv X pins σ H { s with heap := h' } := I.kept (t' := s.toks) kp
    have I2 : Inv X pins σ (upd H h'.objs.size (.tup ys)) { s with heap := h'.push { cls := .type "tuple", data := .seq its.toArray } } :=
      I1.laid (t' := s.toks) (fun b o e => Heap.get?_push_of_some _ e) (Nat.le_refl _) (show ObjOk X.prog X.w _ _ _ (.tup ys) from ⟨hz, its, r', IsTup.new _ _⟩)
    exact ⟨.ref h'.objs.size, _, I2, rfl, q _ (I1.hok.fresh (Nat.le_refl _))⟩
  · obtain ⟨its, r', pl, hz⟩ := I.tuple hq
    exact call_tuple_same pl ⟨.ref p, H, I, rfl, q⟩
def tyV (K : PySem.W.Frag) (T : String) (x : V) (H : Hp) : Prop := match x with
  | .str _ => T = "str"
  | .int _ => T = "int"
  | .ref p => (T = "list" /\ ∃ xs, SqL K H p xs) \/ (T = "tuple" /\ ∃ o, K.lookup p = some o /\ o.cls = .type "tuple" /\ o.dict = none) \/
      (T = "dict" /\ ((∃ kvs, H p = some (.dK kvs)) \/ ∃ kvs, H p = some (.dT kvs))) \/ (T = "set" /\ ∃ S n, H p = some (.set S n))
  | _ => False
theorem zqB {pins : List (Addr × Obj)} {σ : St} {H : Hp} {s : Shared} {T : String} {x : V} {v : Value} (I : Inv X pins σ H s) (r : RelV x v) (ty : tyV X.K T x H) :
    s.TypeIs v T /\ ∀ a, v = .ref a -> ∃ ob, s.heap.get? a = some ob /\ ob.dict = none := by
  cases x with
  | str z =>
    obtain ⟨t, rfl⟩ := r
    cases (show T = "str" from ty)
    exact ⟨typeIs_str s z t, fun _ e => nomatch e⟩
  | int i =>
    obtain ⟨t, rfl⟩ := r
    cases (show T = "int" from ty)
    exact ⟨typeIs_int s i t, fun _ e => nomatch e⟩
  | ref p =>
    cases r
    rcases ty with ⟨rfl, xs, hq⟩ | ⟨rfl, o, hk, hc, hd⟩ | ⟨rfl, hk⟩ | ⟨rfl, S, n, hk⟩
    · obtain ⟨its, _, pl, _⟩ := I.list hq
      refine ⟨pl.isList.typeIs, fun a e => ?_⟩
      cases e
      obtain ⟨o, n, e, c, hd, _⟩ := pl
      exact ⟨o, e, hd⟩
    · refine ⟨⟨o, I.kIn p o hk, hc⟩, fun a e => ?_⟩
      cases e
      exact ⟨o, I.kIn _ o hk, hd⟩
    · have z : ∃ o, s.heap.get? p = some o /\ o.ExactDict := by
        rcases hk with ⟨kvs, hk⟩ | ⟨kvs, hk⟩
        · obtain ⟨_, _, _, _, o, _, _, e, ex, _⟩ := I.hok p _ hk
          exact ⟨o, e, ex⟩
        · obtain ⟨_, _, _, _, o, _, _, e, ex, _⟩ := I.hok p _ hk
          exact ⟨o, e, ex⟩
      obtain ⟨o, e, ex⟩ := z
      refine ⟨⟨o, e, ex.1⟩, fun a e2 => ?_⟩
      cases e2
      exact ⟨o, e, ex.2.1⟩
    · obtain ⟨o, _, _, _, e, ex, _⟩ := I.hok p _ hk
      refine ⟨⟨o, e, ex.1⟩, fun a e2 => ?_⟩
      cases e2
      exact ⟨o, e, ex.2.1⟩
  | _ => exact False.elim ty
def tBM (K : PySem.W.Frag) (T : String) (r : V -> List V -> Hp -> VK -> Prop) (to : TE) (t : TA) : TE := fun σ H Q => to σ H fun x H1 => tyV K T x H1 /\ t σ H1 fun xs H2 => r x xs H2 Q
variable {o e : Expr} {es : List Expr} {to : TE} {t : TA} {name : Str} {apos cpos : Pos} {T id : String} {r : V -> List V -> Hp -> VK -> Prop}
theorem ziV (pa : PlainAttrs T) (slot : Slot T name id) (hty : typeOf (.builtin id) = pure (.type "method_descriptor")) (hm : MtR X id r) (ho : PE X o to) (ha : PA X (e :: es) t)
    (hbase : attributeBase o name X.env (eval o X.env) = eval o X.env := by rfl)
    (hfew : ((backTo cpos (starEach (e :: es) X.env)).all (fun x => !x.1) && (backToKw cpos (keywordEach [] X.env)).all (fun x => x.1.isSome)
      && decide ((e :: es).length + ([] : List Keyword).length + (if ([] : List Keyword).isEmpty then 0 else 1) < 30)) = true := by rfl)
    (hline : (apos.endLine == cpos.line) = true := by rfl) (hs : starEach (e :: es) X.env = (false, eval e X.env) :: starEach es X.env := by rfl) (hplain : (backTo cpos (starEach es X.env)).any (·.1) = false := by rfl) :
    PE X (.Call (.Attribute o name apos) (e :: es) [] cpos) (tBM X.K T r to t) := by
  intro pins s σ H Q I h
  refine wpAny_Call_method_late hbase hfew hline rfl (thn (ho pins s σ H _ I h) fun v s1 ⟨x, H1, I1, r1, ty, q1⟩ => ?_)
  obtain ⟨h1, h2⟩ := zqB I1 r1 ty
  refine ⟨T, id, pa, slot, hty, h1, h2, ?_⟩
  have hA := ha cpos pins s1 σ H1 _ I1 q1
  rw [hs] at hA ⊢
  refine Calls.callWith_builtin (by show (false || (backTo cpos (starEach es X.env)).any (·.1)) = false; rw [hplain] <;> rfl) (Calls.evalArgs_plain ?_)
  exact thn hA fun us s2 ⟨vs, H2, I2, r2, q2⟩ => hm pins s2 σ H2 x vs v us Q I2 r1 r2 q2
end
end L2
namespace L2
open PySem PySem.Spec PyProof.Rows
def MtM (X : Cx) (id : String) (r : V -> List V -> Hp -> VK -> Prop) : Prop :=
  ∀ (pins : List (Addr × Obj)) (s : Shared) (σ : St) (H : Hp) (x : V) (xs : List V) (v : Value) (us : List Value) (Q : VK), Inv X pins σ H s -> RelV x v -> Vals xs us -> r x xs H Q ->
    wpAny (model X.prog X.w) X.A (call (.builtin id) (v :: us)) (EP X pins σ Q) X.xe s
theorem Vals.one : ∀ {x : V} {us : List Value}, Vals [x] us -> ∃ u, us = [u] /\ RelV x u
  | _, _, .cons r .nil => ⟨_, rfl, r⟩
theorem Vals.two : ∀ {x y : V} {us : List Value}, Vals [x, y] us -> ∃ u v, us = [u, v] /\ RelV x u /\ RelV y v
  | _, _, _, .cons r (.cons q .nil) => ⟨_, _, rfl, r, q⟩
theorem Vals.rep {xs : List V} {us : List Value} (h : Vals xs us) : ∀ k : Nat, Vals (List.replicate k xs).flatten (List.replicate k us).flatten
  | 0 => .nil
  | k + 1 => by
    rw [List.replicate_succ, List.replicate_succ, List.flatten_cons, List.flatten_cons]
    exact Vals.append h (Vals.rep h k)
theorem foldl_rep (its : List Value) : ∀ (k : Nat) (acc : List Value),
    List.foldl (fun x1 x2 => x1 ++ x2) acc.toArray (List.replicate k its.toArray) = (acc ++ (List.replicate k its).flatten).toArray
  | 0, acc => by simp
  | k + 1, acc => by
    have e : acc.toArray ++ its.toArray = (acc ++ its).toArray := by simp
    have e2 : (acc ++ its) ++ (List.replicate k its).flatten = acc ++ (List.replicate (k + 1) its).flatten := by
      rw [List.replicate_succ, List.flatten_cons, List.append_assoc]
    rw [<- e2, <- foldl_rep its k (acc ++ its), <- e, List.replicate_succ, List.foldl_cons]
section
variable {X : Cx} {pins : List (Addr × Obj)} {σ : St} {H : Hp} {s : Shared} {l b : Addr} {xs ys zs : List V}
theorem Inv.lset {its its' : List Value} {n : Nat} {f : Array Value -> Array Value} {t' : Nat} (I : Inv X pins σ H s) (hH : H l = some (.lst xs))
    (e : s.heap.get? l = some { cls := .type "list", data := .seq its.toArray n }) (hf : f its.toArray = its'.toArray) (hv : Vals ys its') (hz : ys.length <= sizeLine) :
    Inv X pins σ (upd H l (.lst ys)) { s with heap := s.heap.update l (Obj.mapSeq f), toks := t' } := by
  have q := PySem.IsL.update e f
  rw [hf] at q
  refine I.write (x := l) (e := l) (by rw [hH]; exact trivial) (.inl rfl) (fun b' u hb hu => (Heap.get?_update_other s.heap (Obj.mapSeq f) (Ne.symm hb)).trans hu) ⟨_, q⟩ ?_
  exact ⟨hz, its', _, hv, q⟩
theorem Inv.lnew {its : List Value} {t' : Nat} (I : Inv X pins σ H s) (hv : Vals ys its) (hz : ys.length <= sizeLine) :
    Inv X pins σ (upd H s.heap.objs.size (.lst ys)) { s with heap := s.heap.push { cls := .type "list", data := .seq its.toArray }, toks := t' } :=
  I.laid (fun _ _ q => Heap.get?_push_of_some _ q) (Nat.le_refl _) ⟨hz, its, 0, hv, Heap.get?_push_size _ rfl⟩
theorem Inv.fresh (I : Inv X pins σ H s) : H s.heap.objs.size = none := I.hok.fresh (Nat.le_refl _)
theorem Inv.lstM (I : Inv X pins σ H s) (hH : H l = some (.lst xs)) : xs.length <= sizeLine /\ ∃ (its : List Value) (n : Nat), Vals xs its /\ xs.length = its.length /\ s.heap.get? l = some { cls := .type "list", data := .seq its.toArray n } := by
  obtain ⟨z, its, n, r, e⟩ := I.hok l _ hH
  exact ⟨z, its, n, r, r.length, e⟩
theorem znJ {n : Nat} (h : n <= sizeLine) : Builtin.List.listTooLong n = false := by
  unfold Builtin.List.listTooLong
  exact decide_eq_false (by omega)
end
section
variable {X : Cx}
def zkO : V -> List V -> Hp -> VK -> Prop := fun x vs H Q => ∃ l xs y, x = .ref l /\ vs = [y] /\ H l = some (.lst xs) /\ xs.length < sizeLine /\ Q .non (upd H l (.lst (xs ++ [y])))
theorem zfx : MtM X "list.append" zkO := by
  intro pins s σ H x vs v us Q I rx rv h
  obtain ⟨l, xs, y, rfl, rfl, hH, hz, q⟩ := h
  cases rx
  obtain ⟨u, rfl, ru⟩ := rv.one
  obtain ⟨z, its, n, r, hl, e⟩ := I.lstM hH
  refine call_meets F.slot_list_append ⟨_, e, rfl⟩ F.entry_list_append (F.args_list_append_2 _ _) (PySem.list_append l its.toArray n u (by rw [List.size_toArray]; omega)) ⟨e, ?_⟩
  refine ⟨.non, _, I.lset (its' := its ++ [u]) hH e (by simp) (r.append (.cons ru .nil)) ?_, rfl, q⟩
  rw [List.length_append, List.length_singleton]
  omega
def zrw : R2 := fun x y H Q => ∃ l b xs zs, x = .ref l /\ y = .ref b /\ H l = some (.lst xs) /\ H b = some (.lst zs) /\ xs.length + zs.length <= sizeLine /\ ∀ p, H p = none -> Q (.ref p) (upd H p (.lst (xs ++ zs)))
theorem op_cat : OpR X (binaryOp .Add) zrw := by
  intro pins s σ H x y v u Q I rx ry h
  obtain ⟨l, b, xs, zs, rfl, rfl, hH, hB, hz, q⟩ := h
  cases rx
  cases ry
  obtain ⟨z, its, n, r, hl, e⟩ := I.lstM hH
  obtain ⟨z2, its2, n2, r2, hl2, e2⟩ := I.lstM hB
  refine PySem.P.add_list e e2 ?_ (by rw [List.size_toArray, List.size_toArray]; omega)
  have ea : its.toArray ++ its2.toArray = (its ++ its2).toArray := by simp
  rw [ea]
  exact ⟨.ref _, _, I.lnew (t' := s.toks) (r.append r2) (by rw [List.length_append]; omega), rfl, q _ I.fresh⟩
def zqQ : R2 := fun x y H Q => ∃ l k xs, x = .ref l /\ y = .int k /\ H l = some (.lst xs) /\ -(2 ^ 63) <= k /\ k < 2 ^ 63 /\ xs.length * k.toNat <= sizeLine /\
  ∀ p, H p = none -> Q (.ref p) (upd H p (.lst (List.replicate k.toNat xs).flatten))
theorem len_rep {α : Type} (xs : List α) (k : Nat) : (List.replicate k xs).flatten.length = k * xs.length := by
  induction k with
  | zero => simp
  | succ k ih => rw [List.replicate_succ, List.flatten_cons, List.length_append, ih, Nat.succ_mul, Nat.add_comm]
theorem zgB : OpR X (binaryOp .Mult) zqQ := by
  intro pins s σ H x y v u Q I rx ry h
  obtain ⟨l, k, xs, rfl, rfl, hH, h1, h2, hz, q⟩ := h
  cases rx
  obtain ⟨t, rfl⟩ := ry
  obtain ⟨z, its, n, r, hl, e⟩ := I.lstM hH
  have hlen : its.toArray.size * k.toNat <= sizeLine := by rw [List.size_toArray, <- hl]; exact hz
  have hcap : ¬ its.toArray.size * k.toNat > (2 ^ 63 - 1) / 8 := by
    have : (sizeLine : Nat) <= (2 ^ 63 - 1) / 8 := by decide
    omega
  have hfit : ¬ (!Builtin.List.listFitsIndex k) = true := by
    rw [fitsIndex_both h1 h2]
    exact Bool.false_ne_true
  have hlong : ¬ Builtin.List.listTooLong (its.toArray.size * k.toNat) = true := by
    rw [znJ hlen]
    exact Bool.false_ne_true
  have hnew : List.foldl (fun x1 x2 => x1 ++ x2) #[] (List.replicate (if its.toArray.isEmpty = true then 0 else k.toNat) its.toArray) = (List.replicate k.toNat its).flatten.toArray := by
    have f0 : ∀ m : Nat, List.foldl (fun x1 x2 => x1 ++ x2) #[] (List.replicate m its.toArray) = (List.replicate m its).flatten.toArray := fun m => by
      have := foldl_rep its m []
      rw [List.nil_append] at this
      exact this
    rw [f0]
    cases its with
    | nil => simp
    | cons a r' => rw [if_neg (by simp)]
  refine wpAny_binaryOp_repeat_ref (T := "list") (U := "int") (by decide) ⟨_, e, rfl⟩ (fun s' => typeIs_int s' k t) noFill_list_mul F.fills_int_mul F.slot_int_rmul repeat_list F.slot_int_index.lookup
    (call_meets F.slot_int_rmul (typeIs_int s k t) F.entry_int_rmul (F.args_int_rmul_2 _ _) (int___rmul___int_list k t l its.toArray n)
      ⟨e, rfl, ⟨_, e, rfl⟩, call_meets F.slot_list_mul ⟨_, e, rfl⟩ F.entry_list_mul (F.args_list_mul_2 _ _) (AutoListH.list___mul___list_int_3 l its.toArray n k t hfit hcap hlong) ⟨e, ?_⟩⟩)
  rw [hnew]
  exact ⟨.ref _, _, I.lnew (t' := s.toks) (r.rep k.toNat) (by rw [len_rep, Nat.mul_comm]; exact hz), rfl, q _ I.fresh⟩
end
section
variable {prog : Program} {w : World} {A : Around} {E : Value -> Shared -> Prop} {s : Shared}
end
section
variable {X : Cx}
end
end L2
namespace Att
open PySem PySem.W PySem.Calls PyProof.Rows
theorem zf7 {P : Params} {h : Heap} : ∀ (ns : List Int) (vs : List Value), WellAll P h vs (ns.map WData.int) -> IntsAre vs ns := by
  intro ns
  induction ns with
  | nil =>
    intro vs w
    rw [List.map_nil] at w
    cases w
    exact .nil
  | cons n ns ih =>
    intro vs w
    rw [List.map_cons] at w
    cases w with
    | cons a b =>
      cases a
      exact .cons _ _ (ih _ b)
theorem zlb {l : OpenLaw} {n : Nat} (hn : l.most = some n) {P : Params} {h : Heap} {args : List WData} {vals : List Value}
    (hpre : l.row.toRowW.claim.pre args = true) (hwl : WellAll P h vals args) :
    ∃ a vs ns, vals = [Value.ref a] /\ args = [WData.list (ns.map WData.int)] /\ h.get? a = some { cls := .type "list", data := .seq vs.toArray } /\ IntsAre vs ns /\ ns.length <= n := by
  have hsh : WShape.hasAll [] args [.list .int] = true := (pre_splitW hpre).1
  have hc : l.pre.holds [] { args := args } = true := (pre_splitW hpre).2
  obtain ⟨d, r, rfl, h1, h2⟩ := hasAllW_cons hsh
  obtain rfl := hasAllW_nil h2
  obtain ⟨xs, rfl, h3⟩ := hasW_list h1
  obtain ⟨ns, rfl⟩ := items_int h3
  have hlen : ns.length <= n := by
    unfold OpenLaw.pre at hc
    have h4 : (WTm.not (.lt (.lit (.int (n : Int))) (.len (.arg 0)))).holds [] { args := [.list (ns.map .int)] } = true := by
      have h4 := (holds_andW hc).1
      rw [hn] at h4
      exact h4
    have h5 := condW_of h4 (w_not (w_lt w_lit (w_len_list (w_arg rfl))))
    rw [List.length_map] at h5
    refine Nat.le_of_not_lt fun q => ?_
    have q' : (n : Int) < ((ns.length : Nat) : Int) := by omega
    first
      | (rw [decide_eq_true q'] at h5; exact absurd h5 (by decide))
      | (simp at h5; omega)
  cases hwl with
  | cons w1 w2 =>
    cases w2
    cases w1 with
    | list ho hall => exact ⟨_, _, ns, rfl, rfl, ho, zf7 ns _ hall, hlen⟩
theorem zlf (l : OpenLaw) (args : List WData) : l.row.toRowW.claim.post args (.bool true) args = true :=
  postW_of (r := l.row.toRowW) (X := (true == true))
    (show WShape.has [] (.bool true) .bool = true by first | rfl | decide | simp [WShape.has, WShape.arms, WShape.armsAll])
    (show (WTm.eq .res (.lit (.bool true))).value [] { args := args, res := some (.bool true), after := args } = some (.bool (true == true)) from w_eq_bool (w_res rfl) w_lit) rfl
theorem attach_call {l : OpenLaw} {n : Nat} {q : Program} {loose : List Str} {XP : (Str -> Option Value) -> Heap -> Prop} {YP : World -> Heap -> Prop} {d : DefRec}
    (hn : l.most = some n) (hdf : d.params.defaults = [])
    (call : ∀ (w : World) (s₀ s₁ : Shared) (mg mb : Str -> Option Value) (fa : Addr) (o : Obj) (pm cd doc : Value) (a : Addr) (vs : List Value) (ns : List Int),
      Ground q loose [] XP w s₀ mg mb s₁.heap -> YP w s₁.heap ->
      s₁.heap.get? fa = some o -> o.data = .func (docDef d.name d.params d.body d.scope pm cd doc) -> s₁.heap.CodeRec cd d.name -> mg d.name = some (.ref fa) ->
      s₁.heap.get? a = some { cls := .type "list", data := .seq vs.toArray } -> IntsAre vs ns -> ns.length <= n -> s₁.gens = #[] ->
      codeAny (model l.prog w) callerA (.call (.ref fa) ⟨[.ref a], []⟩) (fun r s' => r = .ok (.ret (.bool true)) /\ OldK s₁.heap s'.heap /\ s'.os = s₁.os /\ AllBare s'.gens) s₁) :
    WalkO q loose XP YP l.row.toRowW d [] (fun f vs => PySem.call f vs) := by
  intro w s₀ s₁ mg mb G Y fa o pm cd doc dV kV ho hd hcd hD hmg hg args vals as hpre hlay hrd hwl hlo
  obtain rfl : dV = .none := Dflts.none hD hdf
  obtain rfl : kV = .none := Dflts.noKw hD
  obtain ⟨a, vs, ns, rfl, rfl, hobj, hints, hlen⟩ := zlb hn hpre hwl
  refine enter_call (codeAny_mono (call w s₀ s₁ mg mb fa o pm cd doc a vs ns G Y ho (fd_plain hd) hcd hmg hobj hints hlen hg) fun r s' hq => ?_)
  obtain ⟨rfl, h2, h3, h4⟩ := hq
  exact ⟨.inl ⟨.bool true, .bool true, [], rfl, fun _ => rfl, .bool true, zlf l _, fun _ => ⟨List.Pairwise.nil, fun _ hm => (nomatch hm)⟩⟩, h2, h3, h4⟩
section
variable {prog : Program} {w : World} {A : Around} {E : Value -> Shared -> Prop} {s : Shared} {K : Frag}
end
end Att
namespace L2
open PySem PySem.Spec PyProof.Rows
theorem zhx : ∀ {vs : List Value} {ns : List Int}, IntsAre vs ns -> Vals (ns.map V.int) vs
  | _, _, .nil => .nil
  | _, _, .cons n t h => .cons ⟨t, rfl⟩ (zhx h)
def zpU (H : Hp) : Prop := ∀ b, H b = none \/ ∃ o xs, H b = some (.frz o (.lst xs))
theorem zmD {P : Program} {w : World} {K : PySem.W.Frag} {mg mb : Str -> Option Value} {CX : CXT} {k : Nat} {fa a : Addr} {fd : FuncData} {x : Str} {sp : Sp} {s₁ : Shared} {vs : List Value} {ns : List Int}
    (KX : K.In s₁.heap) (hns : s₁.heap.Ns mainGlobals mg) (hb : s₁.heap.Ns builtinsNs mb) (hbb : ∀ x : Str, x ≠ "__name__" -> mb x = bootBuiltins x) (hlim : s₁.heap.NoLimit) (hg : s₁.gens = #[])
    (ha : s₁.heap.get? a = some { cls := .type "list", data := .seq vs.toArray }) (hi : IntsAre vs ns) (hl : ns.length <= sizeLine) (hr : Room k callerA)
    (F : ∀ base : Heap, K.In base -> base.Ns mainGlobals mg -> FnOk P w K mg base CX k fa fd [x] sp) (hbind : ∀ (s : Shared) (u : Value), BindsTo s fd ⟨[u], []⟩ [(x, u)])
    (hsp : ∀ H : Hp, zpU H -> SqL K H a (ns.map V.int) -> sp [.ref a] H (fun v _ => v = .bl true) fun _ _ _ => False)
    (hCX : ∀ H e s', CX [] H s₁ (fun _ _ _ => False) e s' -> False) :
    codeAny (model P w) callerA (.call (.ref fa) ⟨[.ref a], []⟩) (fun r s' => r = .ok (.ret (.bool true)) /\ OldK s₁.heap s'.heap /\ s'.os = s₁.os /\ AllBare s'.gens) s₁ := by
  have rv := zhx hi
  have lenV := hi.length
  have core : ∀ H : Hp, zpU H -> SqL K H a (ns.map V.int) -> HOk P w H s₁.heap -> (∀ b, H b ≠ none -> b = a) -> (H a ≠ none -> K.lookup a = none) ->
      codeAny (model P w) callerA (.call (.ref fa) ⟨[.ref a], []⟩) (fun r s' => r = .ok (.ret (.bool true)) /\ OldK s₁.heap s'.heap /\ s'.os = s₁.os /\ AllBare s'.gens) s₁ := by
    intro H hO hS hok hA hK
    have base_of : ∀ {b : Addr} {o : Obj}, s₁.heap.get? b = some o -> H b = none -> (zia s₁.heap H).get? b = some o := fun e n => znr e n
    have noA : ∀ {b : Addr} {o : Obj} {es : Array DictEntry} {ep : Nat}, s₁.heap.get? b = some o -> o.data = .dict es ep -> H b = none := fun {b o es ep} e d => by
      cases q : H b with
      | none => rfl
      | some u =>
        have e' : b = a := hA b (by rw [q]; simp)
        subst e'
        rw [ha] at e; cases e
        have d' : Data.seq vs.toArray _ = Data.dict es ep := d
        cases d'
    have nsK : ∀ {b : Addr} {m : Str -> Option Value}, s₁.heap.Ns b m -> (zia s₁.heap H).Ns b m := fun {b m} ⟨o, es, ep, e, d, r⟩ => ⟨o, es, ep, base_of e (noA e d), d, r⟩
    have hKb : K.In (zia s₁.heap H) := fun b o e => base_of (KX b o e) (by
      cases q : H b with
      | none => rfl
      | some u =>
        have e' : b = a := hA b (by rw [q]; simp)
        subst e'
        rw [hK (by rw [q]; simp)] at e; cases e)
    have hM : Mod K mg (zia s₁.heap H) := ⟨hKb, nsK hns, ⟨mb, nsK hb, hbb⟩, let ⟨mc, h1, h2⟩ := hlim; ⟨mc, nsK h1, h2⟩⟩
    have e0 : Env0 P w K mg (zia s₁.heap H) callerA [] s₁ H := ⟨rfl, hM, fun b o e => zor e, Nat.le_of_eq (zlD _ _), trivial, fun b hb => absurd (show b ∈ ([] : List Addr) from hb) (by simp), hok, .of_eq hg⟩
    refine codeAny_mono ((F _ hKb (nsK hns)).run callerA [] s₁ H ⟨[.ref a], []⟩ [.ref a] [.ref a] _ _ hr e0 (hbind s₁ (.ref a)) (.cons rfl .nil) (hsp H hO hS)) fun r s' h => ?_
    cases r with
    | error e => exact (hCX H e s' h).elim
    | ok fl =>
      cases fl with
      | next => exact False.elim h
      | brk => exact False.elim h
      | cont => exact False.elim h
      | ret u =>
        obtain ⟨v, H', os, bare, un, hok', r', q⟩ := h
        have q' : v = .bl true := q
        subst q'
        obtain rfl : u = Value.bool true := r'
        refine ⟨rfl, OldK.of_keep fun b o e => ?_, os, bare⟩
        cases q : H b with
        | none => exact un.keep b o e q (by intro z; exact absurd (show b ∈ ([] : List Addr) from z) (by simp)) (by simp)
        | some u =>
          rcases hO b with z | ⟨ob, xs, z⟩
          · rw [q] at z; cases z
          · have z2 := un.frzs b ob _ z
            obtain ⟨e1, _⟩ := hok b _ z
            obtain ⟨e2, _⟩ := hok' b _ z2
            rw [e] at e1; cases e1
            exact e2
  cases hk : K.lookup a with
  | some o =>
    have e := KX a o hk
    rw [ha] at e
    cases e
    refine core (fun _ => none) (fun _ => .inl rfl) (.inr ⟨_, vs.toArray, _, hk, rfl, rfl, rfl, by rw [List.size_toArray, lenV]; exact hl, by simpa using rv⟩) (fun b u z => by have z' : (none : Option HO) = some u := z; cases z') (fun b z => absurd rfl z) fun z => absurd rfl z
  | none =>
    refine core (fun b => if b = a then some (.frz { cls := .type "list", data := .seq vs.toArray } (.lst (ns.map V.int))) else none) (fun b => ?_) (.inl (.inr ⟨{ cls := .type "list", data := .seq vs.toArray }, if_pos rfl⟩)) (fun b u z => ?_) (fun b z => ?_) fun _ => hk
    · by_cases hb : b = a
      · exact .inr ⟨_, _, if_pos hb⟩
      · exact .inl (if_neg hb)
    · by_cases hb : b = a
      · have z' := (if_pos hb).symm.trans z
        cases z'
        subst hb
        exact ⟨ha, by rw [List.length_map]; exact hl, vs, _, rv, ha⟩
      · have z' := (if_neg hb).symm.trans z
        cases z'
    · by_cases hb : b = a
      · exact hb
      · exact absurd (if_neg hb) z
end L2
namespace L2
open PySem PySem.Spec PyProof.Rows
theorem walk_of {l : PySem.W.OpenLaw} {n k : Nat} {q : Program} {loose : List Str} {XP : (Str -> Option Value) -> Heap -> Prop} {YP : World -> Heap -> Prop} {d : DefRec} {K : Params -> PySem.W.Frag} {CX : World -> CXT} {sp : World -> Sp} {x : Str}
    (hn : l.most = some n) (hn2 : n <= sizeLine) (hdf : d.params.defaults = []) (hr : Room k callerA)
    (hY : ∀ (w : World) (h : Heap), YP w h -> (K w.params).In h)
    (F : ∀ (w : World) (mg : Str -> Option Value) (fa : Addr) (h : Heap), (K w.params).In h -> h.Ns mainGlobals mg -> mg d.name = some (.ref fa) ->
      ∃ fd : FuncData, (∀ (s : Shared) (u : Value), BindsTo s fd ⟨[u], []⟩ [(x, u)]) /\
        ∀ base : Heap, (K w.params).In base -> base.Ns mainGlobals mg -> FnOk l.prog w (K w.params) mg base (CX w) k fa fd [x] (sp w))
    (hsp : ∀ (w : World) (H : Hp) (a : Addr) (ns : List Int), ns.length <= n -> zpU H -> SqL (K w.params) H a (ns.map V.int) -> sp w [.ref a] H (fun v _ => v = .bl true) fun _ _ _ => False)
    (hCX : ∀ (w : World) (H : Hp) (s : Shared) (e : Value) (s' : Shared), CX w [] H s (fun _ _ _ => False) e s' -> False) :
    PySem.W.WalkO q loose XP YP l.row.toRowW d [] (fun f vs => PySem.call f vs) := by
  refine Att.attach_call hn hdf fun w s₀ s₁ mg mb fa o pm cd doc a vs ns G Y ho hd hcd hmg hobj hints hlen hg => ?_
  have KX := hY w _ Y
  obtain ⟨fd, hb, hF⟩ := F w mg fa _ KX G.T.g hmg
  exact zmD KX G.T.g G.T.b G.T.builtins G.T.nolimit hg hobj hints (Nat.le_trans hlen hn2) hr hF hb (fun H hO hS => hsp w H a ns hlen hO hS) fun H e s' => hCX w H s₁ e s'
end L2
namespace L2
open PySem PySem.Spec PyProof.Rows
def inClass (s : Stmt) (j : Nat) : Stmt := match s with
  | .ClassDef _ _ _ body _ _ _ _ _ _ _ => body.getD j (.Pass ⟨0, 0, 0, 0⟩)
  | _ => .Pass ⟨0, 0, 0, 0⟩
def defArgs (s : Stmt) : Arguments := match s with
  | .FunctionDef _ a _ _ _ _ _ _ _ _ => a
  | _ => { posonlyargs := [], args := [], vararg := none, kwonlyargs := [], kw_defaults := [], kwarg := none, defaults := [] }
def defBody (s : Stmt) : List Stmt := match s with
  | .FunctionDef _ _ b _ _ _ _ _ _ _ => b
  | _ => []
def defScope (s : Stmt) : Scope := match s with
  | .FunctionDef _ _ _ _ _ _ sc _ _ _ => sc
  | _ => { kind := .function, names := [], isGenerator := false, isCoroutine := false }
abbrev CX0 : CXT := fun _ _ _ _ _ _ => False
abbrev E0 : XK := fun _ _ _ => False
theorem znc {X : Cx} : zie CX0 X E0 := fun _ _ _ _ _ _ _ h => h.elim
structure Fun (K : PySem.W.Frag) (x qual : Str) (st : Stmt) (f : Addr) (fd : FuncData) : Prop where
  ex : ∃ (oc : Value) (od : Option Addr) (kV doc pm : Value) (an : Option Addr) (cdv ct : Value) (osl : Array (Option Value)),
    fd = PySem.W.fnOf x qual (defArgs st) (defBody st) (defScope st) .none kV doc pm an cdv ct /\ K.lookup f = some ⟨oc, od, .func fd, osl⟩ /\ PySem.W.codeIn K cdv qual = true
  kp : PySem.W.keepIn K (.ref f) = true
section
variable {P : Program} {w : World} {K : PySem.W.Frag} {mg : Str -> Option Value} {base : Heap}
theorem Fun.ok {x qual : Str} {st : Stmt} {f : Addr} {fd : FuncData} {N ps : List Str} {k : Nat} {sp : Sp} (F : Fun K x qual st f fd) (S : FnScope N ps (defScope st)) (len : ∀ vs H Q E, sp vs H Q E -> vs.length = ps.length)
    (hbody : ∀ (cdv : Value) (A : Around) (outer : List Env) (s : Shared) (H : Hp) (vs : List V) (Q : VK) (E : XK), Room k (A.deeper (envOfC qual (defScope st) s.heap.objs.size f cdv)) -> sp vs H Q E ->
      ∃ t, PSs (zbB CX0 P w K mg base N qual (defScope st) f cdv A outer s H E).nox (defBody st) t /\ t { nx := fun _ H' => Q .non H', rt := Q } (start N vs) H) : FnOk P w K mg base CX0 (k + 1) f fd ps sp := by
  obtain ⟨oc, od, kV, doc, pm, an, cdv, ct, osl, rfl, lk, hcd⟩ := F.ex
  refine zoU lk hcd S len fun A outer s H vs Q E hr hsp => ?_
  obtain ⟨t, h, q⟩ := hbody cdv A outer s H vs Q E hr hsp
  exact ⟨t, h.nox, q⟩
theorem Fun.binds {x qual : Str} {st : Stmt} {f : Addr} {fd : FuncData} {ps : List Str} (F : Fun K x qual st f fd)
    (h : ∀ (kV doc pm : Value) (an : Option Addr) (cdv ct : Value) (us : List Value), us.length = ps.length -> bindArgs (PySem.W.fnOf x qual (defArgs st) (defBody st) (defScope st) .none kV doc pm an cdv ct) ⟨us, []⟩ = pure (ps.zip us)) : Binds K fd ps [] := by
  obtain ⟨oc, od, kV, doc, pm, an, cdv, ct, osl, rfl, lk, hcd⟩ := F.ex
  exact .all (h kV doc pm an cdv ct)
theorem fun_mk {x qual : Str} {st : Stmt} {f : Addr} {oc : Value} {od an : Option Addr} {osl : Array (Option Value)} {kV doc pm cdv ct : Value} (l : K.lookup f = some ⟨oc, od, .func (PySem.W.fnOf x qual (defArgs st) (defBody st) (defScope st) .none kV doc pm an cdv ct), osl⟩)
    (c : PySem.W.codeIn K cdv qual = true) (k : PySem.W.keepIn K (.ref f) = true) : Fun K x qual st f (PySem.W.fnOf x qual (defArgs st) (defBody st) (defScope st) .none kV doc pm an cdv ct) := ⟨⟨oc, od, kV, doc, pm, an, cdv, ct, osl, rfl, l, c⟩, k⟩
end
section
variable {X : Cx}
theorem pv (i : Nat) {x : Str} {pos : Pos} (hN : X.N[i]? = some x := by rfl) (hv : Vis X.env.scope x := by first | exact Or.inl rfl | exact Or.inr (Or.inl rfl) | exact Or.inr (Or.inr rfl)) (hd : (x == ("__debug__" : Str)) = false := by decide)
    (hcd : (x == ("__classdict__" : Str)) = false := by decide) : PE X (.Name x pos) (zlA i) := zqa hN hv hd hcd
end
theorem zjQ {A B : Prop} (h : B) : if false = true then A else B := by
  rw [if_neg Bool.false_ne_true]
  exact h
theorem zjA {A B : Prop} (h : A) : if true = true then A else B := by
  rw [if_pos rfl]
  exact h
def Same (H H' : Hp) : Prop := ∀ b o, H b = some o -> H' b = some o
theorem Same.refl (H : Hp) : Same H H := fun _ _ h => h
theorem Same.trans {H H1 H2 : Hp} (a : Same H H1) (b : Same H1 H2) : Same H H2 := fun c o h => b c o (a c o h)
theorem Same.free {H H' : Hp} (e : Same H H') {l : Addr} (h : H' l = Option.none) : H l = Option.none := by
  cases q : H l with
  | none => rfl
  | some o =>
    rw [e l o q] at h
    cases h
theorem Same.seq {K : PySem.W.Frag} {H H' : Hp} {a : Addr} {xs : List V} (e : Same H H') (h : SqL K H a xs) : SqL K H' a xs := by
  rcases h with (h | ⟨o, h⟩) | h
  · exact .inl (.inl (e _ _ h))
  · exact .inl (.inr ⟨o, e _ _ h⟩)
  · exact .inr h
end L2
section
namespace Ex
open PySem PySem.Spec PyProof.Rows PySem.W
structure XB (B ini : String) (up : List Value) : Prop where
  mroIs : mroOf (.type B) = pure up
  hasB : up.contains (.type B) = true
  noAttr : up.contains (.type "AttributeError") = false
  noName : up.contains (.type "NameError") = false
  slot : Slot B "__init__" ini
  entry : entryFor table ini = some Builtin.«BaseException.__init__»
  split : splitId ini = some (B, "__init__")
  kind : builtinKind ini = some .slot
  row : Manifest.signature? ini = some ⟨.positional, "*", B, .self, [⟨"args", .varPos, false⟩]⟩
  star : (B != "*") = true
theorem XB.of {B nw ini : String} {up : List Value} (f : ExcBaseFacts B nw ini up) : XB B ini up := ⟨f.mroIs, f.hasB, f.noAttr, f.noName, f.init, f.initEntry, f.initSplit, f.initKind, f.initRow, f.noStar⟩
theorem zmT : Slot "KeyError" "__init__" "KeyError.__init__" := by
  apply Slot.of (owner := "KeyError") (n := "__init__")
  case hl => rw [typeLookup_type, builtinLookup_eq_fast]; kernel_rfl
  all_goals first | decide +kernel | exact .inl (by decide +kernel) | exact .inr (by decide +kernel) | (rw [isSubtype_type]; kernel_rfl)
theorem zp2 : XB "KeyError" "KeyError.__init__" [.type "KeyError", .type "LookupError", .type "Exception", .type "BaseException", .type "object"] := by
  refine ⟨?_, ?_, ?_, ?_, zmT, ?_, ?_, ?_, ?_, ?_⟩
  case refine_1 => rw [mroOf_type]; kernel_rfl
  case refine_5 =>
    apply entryFor_alias (id' := "BaseException.__init__")
    all_goals first | decide +kernel | (rw [fastTable_eq_tree]; kernel_rfl) | rfl
  all_goals first | decide +kernel | kernel_rfl
def zd1 (h : Heap) (C : Addr) (as : List Value) : Heap :=
  (h.push { cls := .type "tuple", data := .seq as.toArray }).push { cls := .ref C, data := .fields #[.ref h.objs.size, .none, .none, .none, .bool false, .none] }
theorem zbY {h : Heap} {C : Addr} {as : List Value} : ∀ b o, h.get? b = some o -> (zd1 h C as).get? b = some o := fun b o e => Heap.get?_push_of_some _ (Heap.get?_push_of_some _ e)
theorem zfE {h : Heap} {C : Addr} {as : List Value} : (zd1 h C as).get? (h.objs.size + 1) = some { cls := .ref C, data := .fields #[.ref h.objs.size, .none, .none, .none, .bool false, .none] } :=
  Heap.get?_push_at (by rw [Heap.size_push]) rfl
section
variable {prog : Program} {w : World} {A : Around} {E : Value -> Shared -> Prop} {h : Heap} {g : Array GenState} {d : Drawn} {t : Nat} {os : OsState} {nm qn : Str} {C N : Addr} {bs tl up un : List Value} {hd : Bool} {sn : List Str} {sub : List Value} {ab : Bool} {col : Option Bool}
  {dd : Option Addr} {j0 j1 j2 j3 j5 : Option Value} {B D nw ini iniD : String} {K : Frag} {fI : Addr} {as : List Value}
theorem zoe {R : Result -> Shared -> Prop} (fn : ExcBaseFacts D nw iniD un) (hD : up.contains (.type D) = true) (F : XB B ini up) (T : OwnTail h up tl) (hC : h.get? C = some (excClassObj nm qn C N bs tl hd sn sub ab col dd j0 j1 j2 j3 j5 nw))
    (hl : as.length <= sizeLine) (q : R (.ok (.ret (.ref (h.objs.size + 1)))) ⟨zd1 h C as, g, d, t, os⟩) : codeAny (model prog w) A (.builtin nw ⟨.ref C :: as, []⟩) R ⟨h, g, d, t, os⟩ := by
  have isIn : ∀ {n : String} {b : Bool}, up.contains (.type n) = b -> (Value.ref C :: tl).contains (.type n) = b := fun {n b} e => by rw [List.contains_cons, T.hasType e]; exact Bool.false_or _
  have c1 := isIn hD; have c2 := isIn F.noAttr; have c3 := isIn F.noName; have ends := fn.ends
  apply codeAny_builtinAt fn.entry
  delta Builtin.«BaseException.__new__»
  apply PySem.wpAt_bind
  change PySem.wpAt _ _ _ (stack >>= _) _ _ _
  apply PySem.wpAt_bind; apply PySem.wpAt_stack; intro p below; apply PySem.wpAt_of_wpAny
  wp_walk
  apply PySem.wpAt_of_wpAny
  rw [fn.owner]
  repeat (first
    | (with_reducible apply wpAny_madeHere_exc fn.canon hC)
    | (with_reducible apply wpAny_loadPart_at hC)
    | (with_reducible apply wpAny_isSubtype_exc hC; first | rw [c1] | rw [c2] | rw [c3])
    | wp_step)
  change R _ _
  rw [Heap.size_push]
  exact q
theorem ziu {Q : Value -> Shared -> Prop} {iv : Value} (fn : ExcBaseFacts D nw iniD un) (hD : up.contains (.type D) = true) (F : XB B ini up) (T : OwnTail h up tl) (X : K.In h) (hC : h.get? C = some (excClassObj nm qn C N bs tl hd sn sub ab col dd j0 j1 j2 j3 j5 nw))
    (at_ : findIn K (.ref C) "__init__" = some (some iv)) (bd : Looks (model prog w) (zd1 h C as) (bindSpecial iv (.ref (h.objs.size + 1))) (iv, [.ref (h.objs.size + 1)])) (hl : as.length <= sizeLine)
    (q : wpAny (model prog w) (A.under (.builtin "type.__call__" ⟨.ref C :: as, []⟩)) (call iv (.ref (h.objs.size + 1) :: as)) (fun r s' => r = .none /\ Q (.ref (h.objs.size + 1)) s') E ⟨zd1 h C as, g, d, t, os⟩) :
    wpAny (model prog w) A (call (.ref C) as) Q E ⟨h, g, d, t, os⟩ := by
  have look := tc_lookup; have bnd := tc_bind (.ref C)
  have tyC : (⟨h, g, d, t, os⟩ : Shared).TypeIs (.ref C) "type" := ⟨_, hC, rfl⟩
  have X' : K.In (zd1 h C as) := X.keeps zbY
  have hC' := zbY (as := as) (C := C) _ _ hC
  have self : (Value.ref C :: tl).contains (.ref C) = true := by rw [List.contains_cons, beq_self_eq_true]; exact Bool.true_or _
  apply wpAny_call; apply codeAny_of_tree
  change wpAny _ _ (callAny (.ref C) _) _ _ _
  repeat (any_goals (first | assumption | (with_reducible apply wpAny_loadPart_at hC) | wp_step))
  constructor
  · rfl
  apply codeAny_call_builtin_at (Code.quiet_builtin _ (by decide +kernel)) entry_typeCall
  apply wpAny_check_type_call_sub hC
  repeat (first | (with_reducible apply wpAny_loadPart_at hC) | (with_reducible apply wpAny_madeBy_exc hC) | wp_step)
  apply codeAny_call_builtin_code (Code.quiet_builtin _ fn.quiet)
  apply wpAny_check_new_subU fn hD T hC
  apply zoe fn hD F T hC hl
  change wpAny _ _ _ _ _ _
  delta isInstance
  repeat (first | (with_reducible apply wpAny_loadPart_at zfE) | (with_reducible apply wpAny_isSubtype_exc hC'; rw [self]) | wp_step)
  change wpAny _ _ (typeLookup (.ref C) _) _ _ _
  apply (looks_findIn X' at_).here (s := ⟨_, g, d, t, os⟩)
  apply wpAny_holding; apply wpAny_bind
  apply bd.here (s := ⟨_, g, d, t, os⟩)
  apply wpAny_bind
  apply wpAny_mono q
  · rintro r s' ⟨rfl, k⟩
    wp_walk
    exact k
  · exact fun _ _ z => z
end
end Ex
end
section
namespace Ex
open PySem PySem.Spec PyProof.Rows PySem.W PySem.Calls Builtin Builtin.ObjectAttr
structure XC (K : Frag) (C : Addr) : Prop where
  ga : findIn K (.ref C) "__getattribute__" = some (some (.builtin "BaseException.__getattribute__"))
  gt : findIn K (.ref C) "__getattr__" = some none
  sa : findIn K (.ref C) "__setattr__" = some (some (.builtin "object.__setattr__"))
  be : mroIn K C (.type "BaseException") = some true
  ob : mroIn K C (.type "object") = some true
  pass : ∃ cd, clsIn K C = some cd /\ cd.hasDict = true /\ ∀ self, refuseLoop self "__setattr__" cd.mro = pure ()
  ca : findIn K (.ref C) "__class__" = some (some (.builtin "object.__class__"))
  cg : specialIn K (.builtin "object.__class__") "__get__" = some (some (.builtin "getset_descriptor.__get__"))
  ct : takesIn K (.builtin "object.__class__") = some true
  kc : kitCls K (.ref C) (.ref C) = some true
section
variable {prog : Program} {w : World} {A : Around} {E : Value -> Shared -> Prop} {s : Shared} {K : Frag} {x C : Addr} {ox : Obj} {od : Option Obj} {n : Str} {ex fl : Bool} {tk : Tok}
theorem xby {Q : Value -> Shared -> Prop} (X : K.In s.heap) (I : InstAt s.heap x ox C od) (c : XC K C)
    (k : wpAny (model prog w) A.in1 (Builtin.«object.__getattribute__» ⟨[.ref x, .str n tk], []⟩) (fun r s' => ∃ v, r = .done (.ret v) /\ wpAny (model prog w) A (handedOut v) Q E s') (fun _ _ => False) s) :
    wpAny (model prog w) A (getAttrBy (.ref x) (.str n tk) fl ex) Q E s := by
  have noObj : (Value.builtin "BaseException.__getattribute__" == Value.builtin "object.__getattribute__") = false := by decide +kernel
  have SL := PySem.F.attr_ValueError.ga
  have hook : Looks (model prog w) s.heap (hookBefore (.ref C)) none := looks_hook X (mc := .ref C) (show findIn K (.ref C) "__getattr__" = some none from c.gt)
  apply wpAny_holding; apply wpAny_bind; apply I.type.here; apply wpAny_bind; apply (looks_findIn X c.ga).here
  dsimp only
  rw [noObj, Bool.and_false, if_neg Bool.false_ne_true]
  apply wpAny_bind; apply hook.here; apply wpAny_bind; apply wpAny_attempt; apply wpAny_holding
  unfold callGetattribute
  rw [show (ex && onTheHeap (Value.builtin "BaseException.__getattribute__")) = false from Bool.and_false ex, if_neg Bool.false_ne_true]
  unfold boundAndCalled
  rw [SL.bind]
  apply wpAny_bind; apply wpAny_pure
  change wpAny _ _ (call (.builtin "BaseException.__getattribute__") [.ref x, .str n tk]) _ _ _
  apply wpAny_call; apply codeAny_call_builtin SL.plain PySem.F.entry_bexc_ga
  apply @check_slot (model prog w) A.in1 _ s "BaseException.__getattribute__" "BaseException" "__getattribute__" (.ref x) [.str n tk] []
  · decide +kernel
  · decide +kernel
  · exact I.type.andThen (looks_mroIn X c.be)
  · exact PySem.F.args_bexc_ga _ _
  · exact wpAny_mono k (fun r s' ⟨v, e, z⟩ => by subst e; exact z) fun _ _ z => z.elim
theorem zr4 {v : Value} {Q : Value -> Shared -> Prop} (X : K.In s.heap) (I : InstAt s.heap x ox C od) (c : XC K C) (hf : findObj K C od n = some (.value v)) (hh : handedIn v = true) (q : Q v { s with toks := s.toks + 1 }) :
    wpAny (model prog w) A (getAttr (.ref x) n ex) Q E s := by
  apply wpAny_bind; apply wpAny_mkText
  apply xby (s := { s with toks := s.toks + 1 }) X I c
  delta Builtin.«object.__getattribute__»
  apply wpAny_bind; apply wpAny_pure; apply wpAny_bind; apply wpAny_pure
  apply wpAny_bind; apply I.type.here (s := { s with toks := s.toks + 1 })
  apply wpAny_bind; apply (looks_find X I hf).here (s := { s with toks := s.toks + 1 })
  exact wpAny_pure ⟨v, rfl, by rw [handedOut_of hh]; exact wpAny_pure q⟩
theorem zqL {Q : Option Value -> Shared -> Prop} (X : K.In s.heap) (I : InstAt s.heap x ox C od) (c : XC K C) (q : Q (some (.ref C)) { s with toks := s.toks + 1 }) : wpAny (model prog w) A (getAttr? (.ref x) "__class__") Q E s := by
  obtain ⟨cd, hc, _, _⟩ := c.pass
  have fnd : findObj K C od "__class__" = some (.bind (.builtin "getset_descriptor.__get__") (.builtin "object.__class__")) := by
    unfold findObj
    rw [hc, Option.bind_some, c.ca, Option.bind_some]; dsimp only
    rw [c.cg, Option.bind_some]; dsimp only
    rw [c.ct, Option.bind_some]
  apply wpAny_bind; apply wpAny_mkText; apply wpAny_bind; apply wpAny_attempt
  apply xby (s := { s with toks := s.toks + 1 }) X I c
  delta Builtin.«object.__getattribute__»
  apply wpAny_bind; apply wpAny_pure; apply wpAny_bind; apply wpAny_pure
  apply wpAny_bind; apply I.type.here (s := { s with toks := s.toks + 1 })
  apply wpAny_bind; apply (looks_find X I fnd).here (s := { s with toks := s.toks + 1 })
  change wpAny _ _ (holding [_] (call (.builtin "getset_descriptor.__get__") [.builtin "object.__class__", .ref x, .ref C]) >>= ret) _ _ _
  apply wpAny_bind; apply wpAny_holding; apply wpAny_call
  exact class_get (s := { s with toks := s.toks + 1 }) (ox := ox) (od := od) X I c.ob (wpAny_pure ⟨_, rfl, handed_on rfl (wpAny_pure q)⟩)
end
theorem zmY {K : Frag} {x C : Addr} (c : XC K C) : KitX K (.ref x) (.ref C) (fun h => ∃ ox od, InstAt h x ox C od) where
  ty := fun _ _ _ ⟨_, _, I⟩ => I.type
  it := fun _ _ X _ => (kit_cls X c.kc).2.1
  ne := fun h tp _ _ _ _ X e => by
    obtain ⟨cd, hc, _⟩ := c.pass
    cases z : (Value.ref C == Value.ref tp) with
    | false => rfl
    | true =>
      cases beq_iff_eq.mp z
      unfold clsIn at hc
      split at hc
      · rename_i a
        cases (X _ _ a).symm.trans e
      · cases hc
  ca := fun X ⟨_, _, I⟩ k => zqL X I c k
end Ex
end
section
namespace Ex
open PySem PySem.Spec PyProof.Rows PySem.W PySem.Calls Builtin Builtin.ObjectAttr
section
variable {prog : Program} {w : World} {A : Around} {E : Value -> Shared -> Prop} {s : Shared} {K : Frag} {x C : Addr} {ox : Obj} {od : Option Obj} {n : Str} {v : Value}
theorem zmr {Q : Unit -> Shared -> Prop} (X : K.In s.heap) (I : InstAt s.heap x ox C od) (c : XC K C) (none_ : findIn K (.ref C) n = some none)
    (k : wpAny (model prog w) A.in1 (storeInOwnDict (.ref x) (.ref C) (.str n s.toks) n v false) (fun r s' => ∃ u, r = .done (.ret u) /\ Q () s') E { s with toks := s.toks + 1 }) : wpAny (model prog w) A (setAttr (.ref x) n v) Q E s := by
  have SO := PySem.F.store_object
  obtain ⟨cd, hc, _, pass⟩ := c.pass
  apply set_plain X I c.sa
  apply codeAny_call_builtin SO.slot.plain SO.entry
  apply @check_slot (model prog w) A.in1 _ { s with toks := s.toks + 1 } "object.__setattr__" "object" "__setattr__" (.ref x) [.str n s.toks, v] [] _ SO.kind SO.split
  · exact I.type.andThen (looks_mroIn X c.ob)
  · exact SO.args _ _ _
  rw [osa_eq, refuse_eq]
  apply wpAny_bind; apply wpAny_bind; apply I.type.here (s := { s with toks := s.toks + 1 })
  apply wpAny_bind; apply ((looks_clsIn X hc).andThen .now : Looks (model prog w) s.heap (mroOf (.ref C)) cd.mro).here (s := { s with toks := s.toks + 1 })
  rw [pass]
  apply wpAny_pure; apply wpAny_bind; apply I.type.here (s := { s with toks := s.toks + 1 })
  apply wpAny_bind; apply (looks_findIn X none_).here (s := { s with toks := s.toks + 1 })
  apply wpAny_bind; apply wpAny_pure
  exact wpAny_mono k (fun r s' ⟨u, e, z⟩ => by subst e; exact z) fun _ _ z => z
theorem zi8 {R : Fin -> Shared -> Prop} {dx : Addr} {mA : Str -> Option Value} {ks : List Str} {tk : Tok} (N : s.heap.Ns1 dx mA) (W : Within mA ks) (few : ks.length < sizeLine)
    (k : ∀ h' tk', Heap.SameBut dx s.heap h' -> h'.Ns1 dx (fun y => if y = n then some v else mA y) -> R (.done (.ret .none)) { s with heap := h', toks := tk' }) : wpAny (model prog w) A (storeInDict dx (.str n tk) n v) R E s := by
  unfold storeInDict newKeyGuard; apply wpAny_bind; apply wpAny_pure; apply wpAny_bind; apply wpAny_nsSet1 N
  intro h' N' sb
  obtain ⟨o, es, ep, ho, hd, le⟩ := N'.count (Within.cons n v W)
  apply wpAny_bind
  apply wpAny_lookBehind ho
  · rw [hd]; apply pastItsLine_dict; rw [List.length_cons] at le; omega
  · exact wpAny_pure (k h' _ sb N')
theorem zjZ (hx : s.heap.get? x = some ox) (cl : ox.cls = .ref C) {vs : Array Value} (hd : ox.data = .fields vs) (dict : match ox.dict, od with | some dx, some o => s.heap.get? dx = some o | none, none => True | _, _ => False) : InstAt s.heap x ox C od :=
  ⟨hx, cl, by unfold notCls; rw [hd], dict⟩
theorem zqU {Q : Unit -> Shared -> Prop} {vs : Array Value} (X : K.In s.heap) (hx : s.heap.get? x = some ox) (cl : ox.cls = .ref C) (hd : ox.data = .fields vs) (nod : ox.dict = none) (c : XC K C) (none_ : findIn K (.ref C) n = some none)
    (k : ∀ h' tk', (∀ b o, b ≠ x -> s.heap.get? b = some o -> h'.get? b = some o) -> h'.get? x = some { ox with dict := some s.heap.objs.size } -> h'.Ns1 s.heap.objs.size (fun y => if y = n then some v else none) -> Q () { s with heap := h', toks := tk' }) :
    wpAny (model prog w) A (setAttr (.ref x) n v) Q E s := by
  obtain ⟨cd, hc, own, _⟩ := c.pass
  apply zmr (od := none) X (zjZ hx cl hd (by rw [nod]; trivial)) c none_
  obtain ⟨p1, p2, p3, osl⟩ := ox
  dsimp only at cl hd nod
  subst cl hd nod
  obtain ⟨h, g, d, t, os⟩ := s
  dsimp only at hx X k
  have new : x ≠ h.objs.size := Nat.ne_of_lt (Heap.lt_size hx)
  have hx2 := Heap.get?_push_of_some emptyDict hx
  unfold storeInOwnDict
  apply wpAny_bind; apply wpAny_pure
  rw [if_neg (show ¬ ((Value.ref C == Value.type "module") = true) by intro z; cases beq_iff_eq.mp z)]
  change wpAny _ _ (instanceDict x true >>= _) _ _ _
  unfold instanceDict
  apply wpAny_bind; apply wpAny_bind; apply wpAny_loadPart_at hx; dsimp only
  apply wpAny_bind; apply (looks_clsIn X hc).here (s := ⟨h, g, d, t + 1, os⟩)
  rw [own, if_neg (by decide)]
  rw [if_neg (show ¬ ((!true || !typeHasDict (.ref C)) = true) from Bool.false_ne_true)]
  apply wpAny_bind; apply wpAny_alloc; apply wpAny_bind; apply wpAny_update hx2; apply wpAny_pure
  have gx : ((h.push emptyDict).update x fun o => { o with dict := some h.objs.size }).get? x = some ⟨.ref C, some h.objs.size, .fields vs, osl⟩ := Heap.get?_update_self _ hx2 rfl
  have gd : ((h.push emptyDict).update x fun o => { o with dict := some h.objs.size }).get? h.objs.size = some emptyDict := by
    rw [Heap.get?_update_other _ _ new]; exact Heap.get?_push_size h rfl
  apply zi8 (ks := []) (Heap.Ns1.of_empty ⟨_, #[], _, gd, rfl, (by intro e he; exact absurd he (by simp)), fun _ => rfl⟩) Within.nil (by rw [sizeLine_eq]; decide)
  intro h' tk' sb N
  refine ⟨_, rfl, k h' tk' (fun b o ne e => ?_) ((sb.2 x new).trans gx) N⟩
  rw [sb.2 b (Nat.ne_of_lt (Heap.lt_size e)), Heap.get?_update_other _ _ (Ne.symm ne)]
  exact Heap.get?_push_of_some emptyDict e
theorem zrR {Q : Unit -> Shared -> Prop} {vs : Array Value} {dx : Addr} {mA : Str -> Option Value} {ks : List Str} (X : K.In s.heap) (hx : s.heap.get? x = some ox) (cl : ox.cls = .ref C) (hd : ox.data = .fields vs) (hdx : ox.dict = some dx) (N : s.heap.Ns1 dx mA) (W : Within mA ks) (few : ks.length < sizeLine)
    (c : XC K C) (none_ : findIn K (.ref C) n = some none) (k : ∀ h' tk', Heap.SameBut dx s.heap h' -> h'.Ns1 dx (fun y => if y = n then some v else mA y) -> Q () { s with heap := h', toks := tk' }) : wpAny (model prog w) A (setAttr (.ref x) n v) Q E s := by
  obtain ⟨cd, hc, own, _⟩ := c.pass
  obtain ⟨oD, hD, _⟩ := L2.lookIn_ns N
  apply zmr (od := some oD) X (zjZ hx cl hd (by rw [hdx]; exact hD)) c none_
  obtain ⟨p1, p2, p3, osl⟩ := ox
  dsimp only at cl hd hdx
  subst cl hd hdx
  obtain ⟨h, g, d, t, os⟩ := s
  dsimp only at hx X k N
  unfold storeInOwnDict
  apply wpAny_bind; apply wpAny_pure
  rw [if_neg (show ¬ ((Value.ref C == Value.type "module") = true) by intro z; cases beq_iff_eq.mp z)]
  change wpAny _ _ (instanceDict x true >>= _) _ _ _
  unfold instanceDict
  apply wpAny_bind; apply wpAny_bind; apply wpAny_loadPart_at hx; dsimp only
  apply wpAny_bind; apply (looks_clsIn X hc).here (s := ⟨h, g, d, t + 1, os⟩)
  rw [own, if_neg (by decide)]
  apply wpAny_pure
  apply zi8 (s := ⟨h, g, d, t + 1, os⟩) N W few
  exact fun h' tk' sb N' => ⟨_, rfl, k h' tk' sb N'⟩
theorem zo1 {B ini : String} {up : List Value} {Q : Value -> Shared -> Prop} {vs : Array Value} {as : List Value} {t0 : Addr} (F : XB B ini up) (X : K.In s.heap) (I : InstAt s.heap x ox C od) (c : XC K C) (sub : mroIn K C (.type B) = some true) (hd : ox.data = .fields vs) (v0 : vs[0]? = some (.ref t0)) (few : as.length <= sizeLine)
    (k : ∀ h', (∀ b o, b ≠ x -> s.heap.get? b = some o -> h'.get? b = some o) -> h'.get? x = some { ox with data := .fields (vs.setIfInBounds 0 (.ref s.heap.objs.size)) } -> Q .none { s with heap := h' }) : wpAny (model prog w) A (call (.builtin ini) (.ref x :: as)) Q E s := by
  have isB : Looks (model prog w) s.heap (isInstance (.ref x) (.type B)) true := I.type.andThen (looks_mroIn X sub)
  obtain ⟨cd, hc, _, _⟩ := c.pass
  have lc := looks_clsIn (M := model prog w) X hc
  have hx := I.at_; have cl := I.cls
  obtain ⟨h, g, d, t, os⟩ := s
  obtain ⟨p1, p2, p3, p4⟩ := ox
  dsimp only at cl hd hx isB k
  subst cl hd
  have pos : 0 < vs.size := (Array.getElem?_eq_some_iff.mp v0).1
  have hx2 := Heap.get?_push_of_some { cls := .type "tuple", data := .seq as.toArray } hx
  have anyArgs : ∀ (a b : String) (m : Nat), Bind.check ⟨.positional, "*", B, .self, [⟨"args", .varPos, false⟩]⟩ a b m (List.map (·.fst) ({ pos := Value.ref x :: as } : Args).kw) = pure () := fun _ _ _ => check_star_args _ _ _ _ _ _
  have last : Q .none ⟨(h.push { cls := .type "tuple", data := .seq as.toArray }).update x (Obj.mapFields (·.setIfInBounds 0 (.ref h.objs.size))), g, d, t, os⟩ := k _ (fun b o ne e => by rw [Heap.get?_update_other _ _ (Ne.symm ne)]; exact Heap.get?_push_of_some _ e) (Heap.get?_update_self _ hx2 rfl)
  have notStar := F.star
  apply wpAny_call; apply codeAny_call_builtin F.slot.plain F.entry
  simp only [F.kind, F.split, F.row, checkBuiltinCall]
  apply wpAny_bind; apply isB.here (s := ⟨h, g, d, t, os⟩)
  rw [show (!true) = false from rfl, if_neg Bool.false_ne_true]
  repeat (first | apply wpAny_onRaise | (rw [anyArgs]; apply wpAny_pure) | (apply wpAny_bind; apply lc.here (s := ⟨h, g, d, t, os⟩)) | wp_step)
  rw [v0]
  apply wpAny_pure; apply wpAny_bind
  apply wpAny_setField hx2 rfl pos
  dsimp only
  repeat (first | exact last | wp_step)
end
end Ex
end
section
namespace Ex
open PySem PySem.Spec PyProof.Rows PySem.W PySem.Calls
def Fly (h : Heap) (e : Addr) (m : Value) : Option Addr -> Prop
  | none => ∃ oe vs, h.get? e = some oe /\ oe.data = .fields vs /\ vs[1]? = some .none
  | some T => ∃ oe vs oT ts, h.get? e = some oe /\ oe.data = .fields vs /\ vs[1]? = some (.ref T) /\ T ≠ e /\ h.get? T = some oT /\ oT.data = .fields ts /\ ts[3]? = some m
structure Step (fr : List Addr) (e : Addr) (tb : Option Addr) (h h' : Heap) : Prop where
  keep : ∀ b o, h.get? b = some o -> b ≠ e -> tb ≠ some b -> b ∉ fr -> h'.get? b = some o
  slot : ∀ b o, h.get? b = some o -> b ≠ e -> tb ≠ some b -> ∃ sl, h'.get? b = some { o with slots := sl }
  exc : ∀ oe vs, h.get? e = some oe -> oe.data = .fields vs -> ∃ vs' : Array Value, h'.get? e = some { oe with data := .fields vs' } /\ vs'[0]? = vs[0]? /\ vs'.size = vs.size
  there : ∀ b o, h.get? b = some o -> ∃ o', h'.get? b = some o'
theorem zr8 {o : Obj} {vs : Array Value} (hd : o.data = .fields vs) (f : Array Value -> Array Value) : o.mapFields f = { o with data := .fields (f vs) } := by
  cases o with
  | mk c d dt sl => cases hd; rfl
theorem zhZ {h : Heap} {a : Addr} {o : Obj} {vs : Array Value} (e : h.get? a = some o) (hd : o.data = .fields vs) (i : Nat) (v : Value) :
    (h.update a (Obj.mapFields (·.setIfInBounds i v))).get? a = some { o with data := .fields (vs.setIfInBounds i v) } := by
  rw [<- zr8 hd (·.setIfInBounds i v)]
  exact Heap.get?_update_self _ e (Obj.isFreed_of_fields (Obj.data_mapFields hd _))
section
variable {M : Model} {A : Around} {E : Value -> Shared -> Prop} {s : Shared} {env : Env} {outer : List Env} {base : Heap} {L e : Addr}
theorem zhf {oe : Obj} {vs : Array Value} {hd0 : Value} {more : Bool} {Q : Unit -> Shared -> Prop} (fr : A.frames = some (env :: outer)) (ff : s.heap.FunFrames base (env :: outer)) (at_ : env.frame = some L) (he : s.heap.get? e = some oe) (hd : oe.data = .fields vs) (two : 1 < vs.size)
    (k : ∀ h' T, Step (L2.frs (env :: outer)) e none s.heap h' -> s.heap.objs.size <= T -> Fly h' e (rawInt L) (some T) -> Q () { s with heap := h' }) :
    wpAny M A (do let fo <- frameOf env; let pl <- entryPlaceOf L more; let en <- EntryCells.newEntry hd0 fo .none (rawInt L) .none pl; setField (.ref e) 1 en) Q E s := by
  have eNo : e ∉ L2.frs (env :: outer) := fun m => let ⟨_, o, ho, no⟩ := ff.mem m; no vs (by rw [he] at ho; cases ho; exact hd)
  apply wpAny_bind; apply wpAny_frameOf_fun fr ff at_
  rintro h1 ⟨sz, same, sl1⟩
  apply wpAny_bind; apply wpAny_entryPlaceOf; intro pl isPl
  delta EntryCells.newEntry newFields
  apply wpAny_bind; apply wpAny_newObj_type _ (isPl.sizeOk5 _ _ _ _ _)
  generalize eN : ({ cls := .type "traceback", dict := none, data := .fields ([hd0, .ref L, .none, rawInt L, .none] ++ (if pl.isEmpty then List.replicate 6 Value.none else pl)).toArray } : Obj) = en
  have e1 : h1.get? e = some oe := (same e eNo).trans he
  have ne : h1.objs.size ≠ e := fun z => absurd (Heap.lt_size e1) (by rw [z]; exact Nat.lt_irrefl _)
  have e2 := zhZ (Heap.get?_push_of_some en e1) hd 1 (.ref h1.objs.size)
  have oth : ∀ b o, b ≠ e -> h1.get? b = some o -> ((h1.push en).update e (Obj.mapFields (·.setIfInBounds 1 (.ref h1.objs.size)))).get? b = some o := fun b o nb z => by
    rw [Heap.get?_update_other _ _ (Ne.symm nb)]; exact Heap.get?_push_of_some en z
  have tbAt : ((h1.push en).update e (Obj.mapFields (·.setIfInBounds 1 (.ref h1.objs.size)))).get? h1.objs.size = some en := by
    rw [Heap.get?_update_other _ _ (Ne.symm ne)]; exact Heap.get?_push_size h1 (by rw [<- eN]; rfl)
  apply wpAny_setField (Heap.get?_push_of_some en e1) hd two
  apply k _ h1.objs.size
  · constructor
    · exact fun b o z nb _ nf => oth b o nb ((same b nf).trans z)
    · intro b o z nb _
      obtain ⟨sl, z'⟩ := sl1 b o z
      exact ⟨sl, oth b _ nb z'⟩
    · intro oe' vs' z zd
      cases he.symm.trans z
      cases hd.symm.trans zd
      exact ⟨_, e2, Array.getElem?_setIfInBounds_ne (by decide), Array.size_setIfInBounds⟩
    · intro b o z
      by_cases nb : b = e
      · rw [nb]; exact ⟨_, e2⟩
      · obtain ⟨sl, z'⟩ := sl1 b o z
        exact ⟨_, oth b _ nb z'⟩
  · rw [sz]; exact Nat.le_refl _
  · refine ⟨_, _, _, _, e2, rfl, by simp [two], ne, tbAt, by rw [<- eN], ?_⟩
    rcases isPl with z | ⟨_, _, _, _, _, _, _, z⟩ <;> subst z <;> rfl
theorem ziX {tb : Option Addr} {Q : Unit -> Shared -> Prop} (fr : A.frames = some (env :: outer)) (ff : s.heap.FunFrames base (env :: outer)) (at_ : env.frame = some L) (F : Fly s.heap e .none tb) (two : ∀ oe vs, s.heap.get? e = some oe -> oe.data = .fields vs -> 1 < vs.size)
    (k : ∀ h' T, Step (L2.frs (env :: outer)) e tb s.heap h' -> s.heap.objs.size <= T -> Fly h' e (rawInt L) (some T) -> Q () { s with heap := h' }) : wpAny M A (noteFrame (.ref e) env) Q E s := by
  unfold noteFrame
  rw [at_]
  dsimp only
  cases tb with
  | none =>
    obtain ⟨oe, vs, he, hd, v1⟩ := F
    apply wpAny_bind; apply wpAny_field he hd v1
    rw [if_neg (show ¬ ((Value.none != Value.none) = true) by decide)]
    exact zhf fr ff at_ he hd (two _ _ he hd) k
  | some T =>
    obtain ⟨oe, vs, oT, ts, he, hd, v1, nT, hT, hdT, t3⟩ := F
    have oth : ∀ b, b ≠ T -> (s.heap.update T (Obj.mapFields (·.setIfInBounds 3 .none))).get? b = s.heap.get? b := fun b z => Heap.get?_update_other _ _ (Ne.symm z)
    have noT : ∀ b o, s.heap.get? b = some o -> (∀ vs, o.data ≠ .fields vs) -> b ≠ T := fun b o z no q => by subst q; cases hT.symm.trans z; exact no ts hdT
    apply wpAny_bind; apply wpAny_field he hd v1
    rw [if_pos (show (Value.ref T != Value.none) = true by rfl)]
    apply wpAny_bind; apply wpAny_field hT hdT t3
    rw [if_neg (show ¬ ((Value.none == rawInt L) = true) by intro z; cases beq_iff_eq.mp z)]
    apply wpAny_bind; apply wpAny_setField hT hdT (Array.getElem?_eq_some_iff.mp t3).1
    apply zhf (s := { s with heap := s.heap.update T (Obj.mapFields (·.setIfInBounds 3 .none)) }) fr (ff.of_keeps fun b o z no => ⟨o, (oth b (noT b o z no)).trans z, rfl⟩) at_ ((oth e (Ne.symm nT)).trans he) hd (two _ _ he hd)
    intro h' T' S le F'
    apply k h' T' _ (by rw [Heap.size_after_update] at le; exact le) F'
    have via : ∀ b, some T ≠ some b -> b ≠ T := fun b z q => z (by rw [q])
    constructor
    · exact fun b o z nb nt nf => S.keep b o ((oth b (via b nt)).trans z) nb (by intro q; cases q) nf
    · exact fun b o z nb nt => S.slot b o ((oth b (via b nt)).trans z) nb (by intro q; cases q)
    · exact fun oe' vs' z zd => S.exc oe' vs' ((oth e (Ne.symm nT)).trans z) zd
    · intro b o z
      by_cases q : b = T
      · rw [q]; exact S.there T _ (zhZ hT hdT 3 .none)
      · exact S.there b o ((oth b q).trans z)
theorem zgT {T : Addr} {m : Value} {Q : Unit -> Shared -> Prop} (F : Fly s.heap e m (some T))
    (k : ∀ h', (∀ b, b ≠ T -> h'.get? b = s.heap.get? b) -> Fly h' e .none (some T) -> Q () { s with heap := h' }) : wpAny M A (setFlight (.ref e) none) Q E s := by
  obtain ⟨oe, vs, oT, ts, he, hd, v1, nT, hT, hdT, t3⟩ := F
  have l3 : 3 < ts.size := (Array.getElem?_eq_some_iff.mp t3).1
  have oth : ∀ b, b ≠ T -> (s.heap.update T (Obj.mapFields (·.setIfInBounds 3 .none))).get? b = s.heap.get? b := fun b z => Heap.get?_update_other _ _ (Ne.symm z)
  unfold setFlight
  apply wpAny_bind; apply wpAny_field he hd v1
  rw [if_pos (show (Value.ref T != Value.none) = true by rfl)]
  apply wpAny_setField hT hdT l3
  exact k _ oth ⟨oe, vs, _, _, (oth e (Ne.symm nT)).trans he, hd, v1, nT, zhZ hT hdT 3 .none, rfl, by simp [l3]⟩
end
end Ex
end
section
namespace L2
open PySem PySem.Spec PyProof.Rows Ex
def ExO (C e : Addr) (dd : Option Addr) (fr : Bool) : HO := .ext fun h => ∃ oe vs t0, h.get? e = some oe /\ oe.cls = .ref C /\ oe.dict = dd /\ oe.data = .fields vs /\ vs[0]? = some (.ref t0) /\ 1 < vs.size /\ (fr = true -> vs[1]? = some .none)
def ExD (d : Addr) (fs : List (Str × V)) : HO := .ext fun h => ∃ mA, h.Ns1 d mA /\ (∀ f, RelO (fs.lookup f) (mA f)) /\ PySem.Within mA (fs.map (·.1))
section
variable {P : Program} {w : World} {H : Hp} {h : Heap} {e C d : Addr} {dd : Option Addr} {fr : Bool} {fs : List (Str × V)}
theorem zft {oe : Obj} {vs : Array Value} {t0 : Addr} (he : h.get? e = some oe) (hc : oe.cls = .ref C) (hdd : oe.dict = dd) (hd : oe.data = .fields vs) (h0 : vs[0]? = some (.ref t0)) (hs : 1 < vs.size) (hf : fr = true -> vs[1]? = some .none) :
    ObjOk P w H h e (ExO C e dd fr) :=
  ⟨⟨oe, vs, t0, he, hc, hdd, hd, h0, hs, hf⟩, ⟨oe, he⟩, fun _ _ ⟨oe, vs, t0, he, r⟩ k => ⟨oe, vs, t0, k _ he, r⟩⟩
theorem zmp {mA : Str -> Option Value} (hn : h.Ns1 d mA) (hr : ∀ f, RelO (fs.lookup f) (mA f)) (hw : PySem.Within mA (fs.map (·.1))) : ObjOk P w H h d (ExD d fs) :=
  ⟨⟨mA, hn, hr, hw⟩, let ⟨o, _, _, q, _⟩ := hn; ⟨o, q⟩, fun _ _ ⟨mA, ⟨o, es, ep, q, r⟩, r2⟩ k => ⟨mA, ⟨o, es, ep, k _ q, r⟩, r2⟩⟩
theorem zcu (ok : HOk P w H h) (q : H e = some (ExO C e dd fr)) : ∃ oe vs t0, h.get? e = some oe /\ oe.cls = .ref C /\ oe.dict = dd /\ oe.data = .fields vs /\ vs[0]? = some (.ref t0) /\ 1 < vs.size /\ (fr = true -> vs[1]? = some .none) := (ok _ _ q).1
theorem zig (ok : HOk P w H h) (q : H d = some (ExD d fs)) : ∃ mA, h.Ns1 d mA /\ (∀ f, RelO (fs.lookup f) (mA f)) /\ PySem.Within mA (fs.map (·.1)) := (ok _ _ q).1
end
structure Thr (X : Cx) (pins : List (Addr × Obj)) (H : Hp) (s : Shared) (e C : Addr) : Prop where
  ex : ∃ dd, H e = some (ExO C e dd false)
  lo : X.s₀.heap.objs.size <= e
  tr : ∃ tb, Fly s.heap e .none tb /\ ∀ T, tb = some T -> H T = none /\ X.s₀.heap.objs.size <= T /\ ∀ p ∈ X.pn ++ pins, p.1 ≠ T
abbrev XKS := St -> XK
def XOk (X : Cx) (EE : XKS) : Prop := ∀ (pins : List (Addr × Obj)) (σ : St) (H : Hp) (s : Shared) (e C : Addr), Inv X pins σ H s -> Thr X pins H s e C -> EE σ (.ref C) (some e) H -> X.xe (.ref e) s
def CXe (P : Program) (w : World) : CXT := fun outer H s E ev s' => ∃ e C H', ev = .ref e /\ s'.os = s.os /\ AllBare s'.gens /\ Un (frs outer) [] H H' s.heap s'.heap /\ HOk P w H' s'.heap /\
  (∃ dd, H' e = some (ExO C e dd false)) /\ s.heap.objs.size <= e /\ (∃ tb, Fly s'.heap e .none tb /\ ∀ T, tb = some T -> H' T = none /\ s.heap.objs.size <= T) /\ E (.ref C) (some e) H'
theorem zoS {X : Cx} {EE : XKS} (hX : XOk X EE) {pins : List (Addr × Obj)} {σ : St} {H : Hp} {s s' : Shared} {ev : Value} (I : Inv X pins σ H s) (h : CXe X.prog X.w X.stack H s (EE σ) ev s') : X.xe ev s' := by
  obtain ⟨e, C, H', rfl, os, bare, un, hok, ex, lo, ⟨tb, F, hT⟩, q⟩ := h
  have I' : Inv X pins σ H' s' := I.call' (ch := []) os un hok bare fun b z => absurd z (by simp)
  refine hX pins σ H' s' e C I' ⟨ex, Nat.le_trans I.sz lo, tb, F, fun T z => ⟨(hT T z).1, Nat.le_trans I.sz (hT T z).2, fun p hp => ?_⟩⟩ q
  have lt := Heap.lt_size (I.pin p hp).1
  have := (hT T z).2
  exact Nat.ne_of_lt (Nat.lt_of_lt_of_le lt this)
section
variable {P : Program} {w : World} {K : PySem.W.Frag} {mg : Str -> Option Value} {base : Heap} {N : List Str} {qual : Str} {scope : Scope} {f : Addr} {cd : Value} {A : Around} {outer : List Env} {s : Shared} {H : Hp} {E : XK}
theorem zcn : XOk (zbB (CXe P w) P w K mg base N qual scope f cd A outer s H E) (fun _ => E) := by
  intro pins σ H1 s1 e C I T q
  obtain ⟨⟨dd, ex⟩, lo, tb, F, hT⟩ := T
  show wpAny (model P w) (A.deeper (envOfC qual scope s.heap.objs.size f cd)) (leaving (envOfC qual scope s.heap.objs.size f cd) (.ref e)) (fun _ s'' => CXe P w outer H s E (.ref e) s'') (fun e' s'' => CXe P w outer H s E e' s'') s1
  have hfr : (A.deeper (envOfC qual scope s.heap.objs.size f cd)).frames = some (envOfC qual scope s.heap.objs.size f cd :: outer) := I.ok.frames
  have hl : s1.heap.FunFrames base (envOfC qual scope s.heap.objs.size f cd :: outer) := I.stack
  obtain ⟨oe, vs, t0, he, hc, hdd, hd, h0, hsz, _⟩ := zcu I.hok ex
  have s0 : ∀ b o, s.heap.get? b = some o -> b ≠ e /\ tb ≠ some b /\ b ≠ s.heap.objs.size := fun b o z => by
    have lt := Heap.lt_size z
    refine ⟨Nat.ne_of_lt (Nat.lt_of_lt_of_le lt lo), fun y => ?_, Nat.ne_of_lt lt⟩
    exact Nat.lt_irrefl _ (Nat.lt_of_lt_of_le lt (hT b y).2.1)
  unfold leaving
  refine wpAny_bind (ziX (L := s.heap.objs.size) hfr hl rfl F (fun oe' vs' a b => by rw [he] at a; cases a; rw [hd] at b; cases b; exact hsz) fun h' T' S hle FF => ?_)
  refine zgT (s := { s1 with heap := h' }) FF fun h'' oth F2 => ?_
  have szs : s.heap.objs.size <= s1.heap.objs.size := I.sz
  have hT' : ∀ b o, s1.heap.get? b = some o -> b ≠ T' := fun b o z => Nat.ne_of_lt (Nat.lt_of_lt_of_le (Heap.lt_size z) hle)
  have fresh : H1 T' = none := I.hok.fresh hle
  have keep : ∀ b o, s1.heap.get? b = some o -> b ≠ e -> tb ≠ some b -> b ∉ frs (envOfC qual scope s.heap.objs.size f cd :: outer) -> h''.get? b = some o := fun b o z a1 a2 a3 => (oth b (hT' b o z)).trans (S.keep b o z a1 a2 a3)
  have frsub : ∀ b, b ∈ frs (envOfC qual scope s.heap.objs.size f cd :: outer) -> b = s.heap.objs.size \/ b ∈ frs outer := fun b hb => by
    unfold frs at hb ⊢
    rw [List.filterMap_cons] at hb
    rcases List.mem_cons.mp hb with z | z
    · exact .inl z
    · exact .inr z
  have tracked : ∀ b u, H1 b = some u -> b ∉ frs (envOfC qual scope s.heap.objs.size f cd :: outer) := fun b u z hb => by
    have n : H1 b = none := I.stkFree b hb
    rw [z] at n
    cases n
  refine ⟨e, C, H1, rfl, I.os, I.bare, ⟨fun b o z n hb hx => ?_, fun b o z n hb hx => ?_, I.base.free, fun b o z hx => ?_, I.base.tups, I.base.frzs, I.base.tbls⟩, fun b u z => ?_, ⟨dd, ex⟩, lo, ⟨some T', F2, fun T z => ?_⟩, q⟩
  · obtain ⟨a1, a2, a3⟩ := s0 b o z
    exact keep b o (I.base.keep b o z n hb hx) a1 a2 fun y => (frsub b y).elim a3 hb
  · obtain ⟨a1, a2, a3⟩ := s0 b o z
    obtain ⟨sl, e1⟩ := I.base.slot b o z n hb hx
    obtain ⟨sl2, e2⟩ := S.slot b _ e1 a1 a2
    exact ⟨sl2, (oth b (hT' b _ e1)).trans e2⟩
  · obtain ⟨o', e1⟩ := I.base.there b o z hx
    obtain ⟨o2, e2⟩ := S.there b o' e1
    exact ⟨o2, (oth b (hT' b _ e1)).trans e2⟩
  · by_cases hb : b = e
    · subst hb
      rw [ex] at z
      cases z
      obtain ⟨vs', e1, e2, e3⟩ := S.exc oe vs he hd
      exact zft ((oth b (hT' b _ he)).trans e1) hc hdd rfl (by rw [e2]; exact h0) (by rw [e3]; exact hsz) fun z => nomatch z
    · refine (I.hok b u z).stay (fun c v hcv r => ?_) (fun _ r => r) fun _ _ r => r
      have ne : c ≠ e := by
        rcases hcv with rfl | hcv
        · exact hb
        · exact zfQ hcv ex (by intro y; cases y)
      have tr : ∃ u', H1 c = some u' := by
        rcases hcv with rfl | hcv
        · exact ⟨_, z⟩
        · exact ⟨_, hcv⟩
      obtain ⟨u', hu'⟩ := tr
      exact keep c v r ne (fun y => by have := (hT c y).1; rw [hu'] at this; cases this) (tracked c u' hu')
  · cases z
    exact ⟨fresh, Nat.le_trans szs hle⟩
end
end L2
end
section
namespace Ex
open PySem PySem.Spec PyProof.Rows PySem.W PySem.Calls Builtin Builtin.ObjectAttr
def ziZ (K : Frag) (h : Heap) (e : Addr) : Prop := ∃ oe vs C oC, h.get? e = some oe /\ oe.cls = .ref C /\ mroIn K C (.type "BaseException") = some true /\ K.lookup C = some oC /\ oC.cls = .type "type" /\ oe.data = .fields vs /\ vs[1]? = some .none
theorem zhV {M : Model} {A : Around} {E : Value -> Shared -> Prop} {s : Shared} {env : Env} {K : Frag} {x : Sem Value} {Q : Flow -> Shared -> Prop} (calm : A.handled = none)
    (k : wpAny M A x (fun v s' => ∃ e, v = .ref e /\ K.In s'.heap /\ ziZ K s'.heap e /\ E v s') E s) : wpAny M A (raiseStmt env (some x) none) Q E s := by
  delta raiseStmt
  apply wpAny_bind; apply wpAny_mono k _ fun _ _ z => z
  rintro v ⟨h, g, d, t, os⟩ ⟨e, rfl, X, ⟨⟨c1, c2, c3, c4⟩, vs, C, ⟨d1, d2, d3, d4⟩, he, hc, sub, hC, ht, hd, v1⟩, last⟩
  dsimp only at X he hc hd ht
  subst hc hd ht
  have LS := looks_mroIn (M := M) X sub
  have hC' := X _ _ hC
  repeat (first | (with_reducible apply wpAny_loadPart_at hC') | (with_reducible apply wpAny_loadPart_at he) | (with_reducible apply LS.here (s := ⟨h, g, d, t, os⟩)) | rw [v1] | wp_step)
  exact wpAny_raiseNew_none calm last
end Ex
end
section
namespace L2
open PySem PySem.Spec PyProof.Rows Ex
def zrY (K : PySem.W.Frag) (ta : TE) (f : Str) : TE := fun σ H Q => ta σ H fun x H1 => ∃ a C d fr fs v, x = .ref a /\ H1 a = some (ExO C a (some d) fr) /\ H1 d = some (ExD d fs) /\ XC K C /\ zfz K C f /\ fs.lookup f = some v /\ Q v H1
def zq7 (K : PySem.W.Frag) (ta tv : TE) (f : Str) : TS := fun D σ H => tv σ H fun y H1 => ta σ H1 fun x H2 => ∃ a C fr, x = .ref a /\ XC K C /\ zfz K C f /\
  ((H2 a = some (ExO C a none fr) /\ ∀ d, H2 d = none -> d ≠ a -> D.nx σ (upd (upd H2 d (ExD d [(f, y)])) a (ExO C a (some d) fr))) \/
   (∃ d fs, H2 a = some (ExO C a (some d) fr) /\ H2 d = some (ExD d fs) /\ fs.length < 1000 /\ D.nx σ (upd H2 d (ExD d (zgJ f y fs)))))
section
variable {X : Cx} {o e value : Expr} {f : Str} {pos pos' tpos : Pos} {ta tv : TE}
theorem ze7 {K : PySem.W.Frag} {P : Program} {w : World} {H : Hp} {h : Heap} {a C : Addr} {dd : Option Addr} {fr : Bool} (ok : HOk P w H h) (q : H a = some (ExO C a dd fr)) (hdd : ∀ d, dd = some d -> ∃ o, h.get? d = some o) :
    ∃ ox od, PySem.W.InstAt h a ox C od /\ ox.dict = dd /\ (∀ d, dd = some d -> ∃ o, od = some o /\ h.get? d = some o) := by
  obtain ⟨oe, vs, t0, he, hc, hd, hda, _⟩ := zcu ok q
  have hn : PySem.W.notCls oe = true := by unfold PySem.W.notCls; rw [hda]
  cases dd with
  | none => exact ⟨oe, none, ⟨he, hc, hn, by rw [hd]; trivial⟩, hd, fun d z => nomatch z⟩
  | some d =>
    obtain ⟨o, ho⟩ := hdd d rfl
    exact ⟨oe, some o, ⟨he, hc, hn, by rw [hd]; exact ho⟩, hd, fun d' z => by cases z; exact ⟨o, rfl, ho⟩⟩
theorem znZ (he : PE X e ta) (hb : attributeBase e f X.env (eval e X.env) = eval e X.env) : PE X (.Attribute e f pos) (zrY X.K ta f) := by
  intro pins s σ H Q I h
  refine zov hb (thn (he pins s σ H _ I h) fun u s1 ⟨x, H1, I1, rx, a, C, d, fr, fs, v, ex, ea, ed, c, n, l, q⟩ => ?_)
  subst ex
  obtain rfl : u = Value.ref a := rx
  obtain ⟨mA, hn, hr, _⟩ := zig I1.hok ed
  obtain ⟨od, ho, hlk⟩ := lookIn_ns hn
  obtain ⟨ox, od', Ins, _, hod⟩ := ze7 (K := X.K) I1.hok ea fun d' z => by cases z; exact ⟨od, ho⟩
  obtain ⟨o2, e2, ho2⟩ := hod d rfl
  rw [ho] at ho2
  cases ho2
  subst e2
  obtain ⟨u, hu, ru⟩ := RelO.some_of (v := v) (o := mA f) (by rw [<- l]; exact hr f)
  obtain ⟨cd, hcd, hhd, _⟩ := c.pass
  have hf : PySem.W.findObj X.K C (some od) f = some (.value u) := PySem.W.findObj_own (by unfold PySem.W.hasDictIn; rw [hcd]; exact hhd) n rfl (by rw [hlk, hu])
  exact zr4 I1.kIn Ins c hf (zlt ru) ⟨v, H1, I1.tok _, ru, q⟩
theorem zkx (ha : PE X o ta) (hv : PE X value tv) (hs : swapsWith value (some (.Attribute o f pos')) pos.line X.env = pure false) : PS X (.Assign [.Attribute o f pos'] value pos) (zq7 X.K ta tv f) := by
  intro pins s σ H D I h
  refine plainObj_wpAny_Assign_Attribute (thn (hv pins s σ H _ I h) fun u s1 ⟨y, H1, I1, ry, q⟩ => thn (ha pins s1 σ H1 _ I1 q) fun ov s2 ⟨x, H2, I2, rx, a, C, fr, ex, c, n, q2⟩ => ?_) hs
  subst ex
  obtain rfl : ov = Value.ref a := rx
  rcases q2 with ⟨ea, k⟩ | ⟨d, fs, ea, ed, hl, k⟩
  · obtain ⟨oe, vs, t0, he, hc, hd, hda, h0, hsz, hfr⟩ := zcu I2.hok ea
    have na : s2.heap.objs.size ≠ a := Nat.ne_of_gt (Heap.lt_size he)
    refine zqU I2.kIn he hc hda hd c n fun h' tk' kp hx hn => ?_
    refine ⟨σ, _, ?_, k s2.heap.objs.size (I2.hok.fresh (Nat.le_refl _)) na⟩
    have fresh : H2 s2.heap.objs.size = none := I2.hok.fresh (Nat.le_refl _)
    have hdn : ∃ o, h'.get? s2.heap.objs.size = some o := let ⟨o, _, _, z, _⟩ := hn; ⟨o, z⟩
    have od : ∀ (G : Hp), ObjOk X.prog X.w G h' s2.heap.objs.size (ExD s2.heap.objs.size [(f, y)]) := fun G => zmp hn (fun g => by
      show RelO (List.lookup g [(f, y)]) (if g = f then some u else none)
      rw [List.lookup_cons]
      by_cases z : g = f
      · subst z; rw [if_pos rfl]; simp only [beq_self_eq_true]; exact ry
      · have z' : (g == f) = false := by simpa using z
        rw [if_neg z, z']; exact True.intro) (fun g hg => by
      have z : g = f := by
        by_cases z : g = f
        · exact z
        · exact absurd (if_neg z) hg
      rw [z]; simp)
    have oe' : ∀ (G : Hp), ObjOk X.prog X.w G h' a (ExO C a (some s2.heap.objs.size) fr) := fun G => zft hx hc rfl hda h0 hsz hfr
    have un : Un X.fs [] H2 (upd (upd H2 s2.heap.objs.size (ExD s2.heap.objs.size [(f, y)])) a (ExO C a (some s2.heap.objs.size) fr)) s2.heap h' := by
      have ne : ∀ b, H2 b = none -> b ≠ a := fun b z e => by rw [e, ea] at z; cases z
      refine ⟨fun b ob z z2 _ _ => kp b ob (ne b z2) z, fun b ob z z2 _ _ => ⟨ob.slots, kp b ob (ne b z2) z⟩, fun b ob z z2 _ => ?_, fun b ob z _ => ?_, fun b xs z => ?_, fun b ob xs z => ?_, fun b ps z => ⟨#[], ?_⟩⟩
      · rw [zay (ne b z2), zay (Nat.ne_of_lt (Heap.lt_size z))]; exact z2
      · by_cases hb : b = a
        · subst hb; exact ⟨_, hx⟩
        · exact ⟨ob, kp b ob hb z⟩
      · rw [zay (zfQ z ea (by intro y; cases y)), zay (zaQ z fresh)]; exact z
      · rw [zay (zfQ z ea (by intro y; cases y)), zay (zaQ z fresh)]; exact z
      · rw [zay (zfQ z ea (by intro y; cases y)), zay (zaQ z fresh), z]; simp
    refine I2.un un fun b ob z => ?_
    by_cases hb : b = a
    · subst hb; rw [za3] at z; cases z; exact oe' _
    · rw [zay hb] at z
      by_cases hb2 : b = s2.heap.objs.size
      · subst hb2; rw [za3] at z; cases z; exact od _
      · rw [zay hb2] at z
        refine (I2.hok b ob z).stay (fun c v hcv r => kp c v ?_ r) (fun c r => ?_) fun c xs r => ?_
        · rcases hcv with rfl | hcv
          · exact hb
          · exact zfQ hcv ea (by intro y; cases y)
        · rw [zay (zfQ r ea (by intro y; cases y)), zay (zaQ r fresh)]; exact r
        · rw [zay (zfQ r ea (by intro y; cases y)), zay (zaQ r fresh)]; exact r
  · obtain ⟨oe, vs, t0, he, hc, hd, hda, h0, hsz, hfr⟩ := zcu I2.hok ea
    obtain ⟨mA, hn, hr, hw⟩ := zig I2.hok ed
    refine zrR I2.kIn he hc hda hd hn hw (by rw [List.length_map, sizeLine_eq]; omega) c n fun h' tk' sb hn' => ?_
    refine ⟨σ, _, I2.write (x := d) (e := d) (by rw [ed]; exact True.intro) (.inl rfl) (fun b q hb z => (sb.2 b hb).trans z) (let ⟨o, _, _, z, _⟩ := hn'; ⟨o, z⟩) ?_, k⟩
    refine zmp hn' (fun g => ?_) fun g hg => ?_
    · show RelO ((zgJ f y fs).lookup g) (if g = f then some u else mA g)
      rw [zfW]
      by_cases q : g = f
      · rw [if_pos q, if_pos q]; exact ry
      · rw [if_neg q, if_neg q]; exact hr g
    · by_cases q : g = f
      · rw [q]; exact (zfA f y fs).1
      · refine (zfA f y fs).2 g (hw g fun z => hg ?_)
        show (if g = f then some u else mA g) = none
        rw [if_neg q]; exact z
end
end L2
end
section
namespace L2
open PySem PySem.Spec PyProof.Rows Ex
structure RawAt (h h' : Heap) (e C : Addr) : Prop where
  keeps : ∀ c u, h.get? c = some u -> h'.get? c = some u
  le : h.objs.size <= e
  obj : ∃ t0, h'.get? e = some { cls := .ref C, data := .fields #[.ref t0, .none, .none, .none, .bool false, .none] }
def XMk (K : PySem.W.Frag) (C fI : Addr) : Prop := ∀ (prog : Program) (w : World) (A : Around) (E : Value -> Shared -> Prop) (s : Shared) (rest : List Value) (Q : Value -> Shared -> Prop), K.In s.heap -> rest.length <= sizeLine ->
  (∀ h' e, RawAt s.heap h' e C -> wpAny (model prog w) (A.under (.builtin "type.__call__" ⟨.ref C :: rest, []⟩)) (call (.ref fI) (.ref e :: rest)) (fun r s' => r = .none /\ Q (.ref e) s') E { s with heap := h' }) ->
  wpAny (model prog w) A (call (.ref C) rest) Q E s
def znd (K : PySem.W.Frag) (C : Addr) : Prop := ∀ (prog : Program) (w : World) (A : Around) (E : Value -> Shared -> Prop) (s : Shared) (rest : List Value) (Q : Value -> Shared -> Prop), K.In s.heap -> rest.length <= sizeLine ->
  (∀ h' e, RawAt s.heap h' e C -> Q (.ref e) { s with heap := h' }) -> wpAny (model prog w) A (call (.ref C) rest) Q E s
structure XK0 (K : PySem.W.Frag) (C : Addr) : Prop where
  xc : XC K C
  mt : ∃ oC, K.lookup C = some oC /\ oC.cls = .type "type"
  kp : PySem.W.keepIn K (.ref C) = true
section
variable {X : Cx} {k : Nat} {fI C : Addr} {fd : FuncData} {ps : List Str} {sp : Sp} {dvs : List V} {ds : List Value} {x : Str} {p pos cpos apos : Pos} {e : Expr} {es : List Expr} {t : TA} {EE : XKS}
theorem Inv.exc {pins : List (Addr × Obj)} {σ : St} {H : Hp} {s : Shared} {h' : Heap} {a : Addr} (I : Inv X pins σ H s) (m : RawAt s.heap h' a C) (fr : Bool) :
    Inv X pins σ (upd H a (ExO C a none fr)) { s with heap := h' } := by
  obtain ⟨t0, he⟩ := m.obj
  exact I.laid (a := a) (o := ExO C a none fr) (t' := s.toks) m.keeps m.le (zft he rfl rfl rfl rfl (by simp) fun _ => rfl)
theorem zn5 {pins : List (Addr × Obj)} {σ : St} {H : Hp} {s : Shared} {Q : VK} {us : List Value} {vs : List V} (M : XMk X.K C fI) (F : FnOk X.prog X.w X.K X.mg X.base CX0 k fI fd ps sp) (hr : Room (k + 1) X.A) (hb : Binds X.K fd ps ds) (hd : Vals dvs ds)
    (I : Inv X pins σ H s) (r : Vals vs us) (hlen : vs.length <= 1000)
    (h : ∀ a, H a = none -> sp (.ref a :: (vs ++ dvs)) (upd H a (ExO C a none true)) (fun v H2 => v = .non /\ Q (.ref a) H2) E0) :
    wpAny (model X.prog X.w) X.A (call (.ref C) us) (fun u s' => ∃ a H', u = .ref a /\ Inv X pins σ H' s' /\ s.heap.objs.size <= a /\ Q (.ref a) H') X.xe s := by
  refine M X.prog X.w X.A X.xe s us _ I.kIn (by rw [<- r.length, sizeLine_eq]; omega) fun h' a m => ?_
  have hq := h a (I.hok.fresh m.le)
  have I2 := I.exc m true
  have r2 : Vals (V.ref a :: (vs ++ dvs)) (Value.ref a :: (us ++ ds)) := .cons rfl (r.append hd)
  have hl : (Value.ref a :: us ++ ds).length = ps.length := by
    have e := r2.length
    rw [F.len _ _ _ _ hq] at e
    exact e.symm
  refine wpAny_call (codeAny_mono (F.run _ X.stack _ _ ⟨Value.ref a :: us, []⟩ (Value.ref a :: (us ++ ds)) _ _ E0 (hr.make C us [])
    (I2.env0.make C us []) (hb _ (Value.ref a :: us) I2.kIn hl) r2 hq) fun r s' hq' => ?_)
  cases r with
  | error e => exact False.elim hq'
  | ok fl =>
    cases fl with
    | ret u =>
      obtain ⟨v, H', I3, rv, ev, q3⟩ := I2.after hq'
      subst ev
      exact ⟨rv, a, H', rfl, I3, m.le, q3⟩
    | next => exact False.elim hq'
    | brk => exact False.elim hq'
    | cont => exact False.elim hq'
theorem zhz {pins : List (Addr × Obj)} {σ : St} {H : Hp} {s : Shared} {a : Addr} {dd : Option Addr} (hX : XOk X EE) (I : Inv X pins σ H s) (hle : X.s₀.heap.objs.size <= a) (ea : H a = some (ExO C a dd true)) (q : EE σ (.ref C) (some a) (upd H a (ExO C a dd false))) : X.xe (.ref a) s := by
  obtain ⟨oe, vs, t0, he, hc, hd, hda, h0, hsz, hfr⟩ := zcu I.hok ea
  have I' : Inv X pins σ (upd H a (ExO C a dd false)) s := I.write (x := a) (e := a) (t' := s.toks) (h' := s.heap) (by rw [ea]; exact True.intro) (.inl rfl) (fun b u _ z => z) ⟨_, he⟩ (zft he hc hd hda h0 hsz fun z => nomatch z)
  exact hX pins σ _ s a C I' ⟨⟨dd, za3⟩, hle, none, ⟨oe, vs, he, hda, hfr rfl⟩, fun T z => nomatch z⟩ q
def zpi (C : Addr) (sp : Sp) (dvs : List V) (EE : XKS) (t : TA) : TS := fun _ σ H => t σ H fun vs H1 => vs.length <= 1000 /\ ∀ a, H1 a = none ->
  sp (.ref a :: (vs ++ dvs)) (upd H1 a (ExO C a none true)) (fun v H2 => v = .non /\ ∃ dd, H2 a = some (ExO C a dd true) /\ EE σ (.ref C) (some a) (upd H2 a (ExO C a dd false))) E0
def zoA (C : Addr) (EE : XKS) (t : TA) : TS := fun _ σ H => t σ H fun vs H1 => vs.length <= 1000 /\ ∀ a, H1 a = none -> EE σ (.ref C) (some a) (upd H1 a (ExO C a none false))
theorem zjc {Q : Flow -> Shared -> Prop} {s : Shared} {xe : Expr} {pos : Pos} (hh : X.A.handled = none)
    (h : wpAny (model X.prog X.w) X.A (eval xe X.env) (fun v s₁ => ∃ e, v = .ref e /\ X.K.In s₁.heap /\ ziZ X.K s₁.heap e /\ X.xe v s₁) X.xe s) :
    wpAny (model X.prog X.w) X.A (exec (.Raise (some xe) none pos) X.env) Q X.xe s := by
  rw [arm_exec_Raise]
  first
    | exact wpAny_bind (wpAny_standAt (zhV hh (wpAny_bind (wpAny_mono h (fun v s₁ h₁ => wpAny_bind (wpAny_standAt (wpAny_pure h₁))) fun _ _ x => x))))
    | (simp only [evalOpt, Option.map]; exact wpAny_bind (wpAny_standAt (zhV hh (wpAny_bind (wpAny_mono h (fun v s₁ h₁ => wpAny_bind (wpAny_standAt (wpAny_pure h₁))) fun _ _ x => x)))))
    | (show wpAny _ _ (do standAt pos; raiseStmt X.env (some (do let v <- eval xe X.env; standAt pos; pure v)) none) Q X.xe s; exact wpAny_bind (wpAny_standAt (zhV hh (wpAny_bind (wpAny_mono h (fun v s₁ h₁ => wpAny_bind (wpAny_standAt (wpAny_pure h₁))) fun _ _ x => x)))))
theorem zmg (hX : XOk X EE) (hc : X.calm = true) (M : XMk X.K C fI) (Z : XK0 X.K C) (F : FnOk X.prog X.w X.K X.mg X.base CX0 k fI fd ps sp) (hr : Room (k + 1) X.A) (hg : Gl X x) (hm : X.mg x = some (.ref C)) (hb : Binds X.K fd ps ds) (hd : Vals dvs ds)
    (ha : PA X (e :: es) t) (hdb : (x == ("__debug__" : Str)) = false := by decide) (he : starEach (e :: es) X.env = (false, eval e X.env) :: starEach es X.env := by rfl) (hpl : (backTo cpos (starEach es X.env)).any (·.1) = false := by rfl) :
    PS X (.Raise (some (.Call (.Name x p) (e :: es) [] cpos)) none pos) (zpi C sp dvs EE t) := by
  intro pins s σ H D I h
  refine zjc (I.ok.hd hc) (wpAny_Call_Name_kw (zeq I hg hm ?_ hdb))
  refine PySem.W.callWith_K (h₀ := X.base) I.ok.mod.kin Z.kp (thn (ha cpos pins s σ H _ I h) fun us s1 ⟨vs, H1, I1, r, hlen, q⟩ => ⟨I1.kIn, ?_⟩) he hpl
  refine thn (zn5 (Q := fun v H2 => ∃ a dd, v = .ref a /\ H2 a = some (ExO C a dd true) /\ EE σ (.ref C) (some a) (upd H2 a (ExO C a dd false))) M F hr hb hd I1 r hlen fun a na => ?_) fun u s2 ⟨a, H2, eu, I2, hle, a', dd, ea', ex, q2⟩ => ?_
  · have q' := q a na
    have : (fun v H2 => v = V.non /\ ∃ dd, H2 a = some (ExO C a dd true) /\ EE σ (.ref C) (some a) (upd H2 a (ExO C a dd false))) = (fun v H2 => v = V.non /\ ∃ a' dd, V.ref a = V.ref a' /\ H2 a' = some (ExO C a' dd true) /\ EE σ (.ref C) (some a') (upd H2 a' (ExO C a' dd false))) := by
      funext v H2
      apply propext
      constructor
      · rintro ⟨z, dd, z1, z2⟩; exact ⟨z, a, dd, rfl, z1, z2⟩
      · rintro ⟨z, a', dd, z0, z1, z2⟩; cases z0; exact ⟨z, dd, z1, z2⟩
    rw [<- this]
    exact q'
  · cases ea'
    obtain ⟨oe, ws, t0, h1, h2, h3, h4, h5, h6, h7⟩ := zcu I2.hok ex
    obtain ⟨oC, m1, m2⟩ := Z.mt
    exact ⟨a, eu, I2.kIn, ⟨oe, ws, C, oC, h1, h2, Z.xc.be, m1, m2, h4, h7 rfl⟩, by rw [eu]; exact zhz hX I2 (Nat.le_trans I1.sz hle) ex q2⟩
theorem zls (hX : XOk X EE) (hc : X.calm = true) (M : znd X.K C) (Z : XK0 X.K C) (hg : Gl X x) (hm : X.mg x = some (.ref C))
    (ha : PA X (e :: es) t) (hdb : (x == ("__debug__" : Str)) = false := by decide) (he : starEach (e :: es) X.env = (false, eval e X.env) :: starEach es X.env := by rfl) (hpl : (backTo cpos (starEach es X.env)).any (·.1) = false := by rfl) :
    PS X (.Raise (some (.Call (.Name x p) (e :: es) [] cpos)) none pos) (zoA C EE t) := by
  intro pins s σ H D I h
  refine zjc (I.ok.hd hc) (wpAny_Call_Name_kw (zeq I hg hm ?_ hdb))
  refine PySem.W.callWith_K (h₀ := X.base) I.ok.mod.kin Z.kp (thn (ha cpos pins s σ H _ I h) fun us s1 ⟨vs, H1, I1, r, hlen, q⟩ => ⟨I1.kIn, ?_⟩) he hpl
  refine M X.prog X.w X.A X.xe s1 us _ I1.kIn (by rw [<- r.length, sizeLine_eq]; omega) fun h' a m => ?_
  have I2 := I1.exc m true
  obtain ⟨t0, h1⟩ := m.obj
  obtain ⟨oC, m1, m2⟩ := Z.mt
  refine ⟨a, rfl, I2.kIn, ⟨_, _, C, oC, h1, rfl, Z.xc.be, m1, m2, rfl, rfl⟩, zhz (dd := none) hX I2 (Nat.le_trans I1.sz m.le) za3 ?_⟩
  rw [zga]
  exact q a (I1.hok.fresh m.le)
end
end L2
end
section
namespace L2
open PySem PySem.Spec PyProof.Rows Ex
def zfT (K : PySem.W.Frag) (C : Addr) (up : List Value) (nw : String) : Bool := (K.lookup C).any fun o => o.cls == .type "type" && o.slots.size == 6 && o.slots.toList[4]? == some (some (.builtin nw)) &&
  match o.data with
  | .cls cd => cd.mro.head? == some (.ref C) && !cd.hasDel && cd.hasDict && PySem.W.tailIn K up cd.mro.tail && PySem.W.nsOkIn K cd.ns
  | _ => false
theorem zle {l : List (Option Value)} {v : Option Value} (h : l.length = 6) (q : l[4]? = some v) : ∃ a b c d e, l = [a, b, c, d, v, e] := by
  match l, h with
  | [a, b, c, d, x, e], _ =>
    cases q
    exact ⟨a, b, c, d, e, rfl⟩
theorem zgL {K : PySem.W.Frag} {C : Addr} {up : List Value} {nw : String} (q : zfT K C up nw = true) :
    ∃ tl N nm qn bs sn sub ab col dd j0 j1 j2 j3 j5, K.lookup C = some (excClassObj nm qn C N bs tl true sn sub ab col dd j0 j1 j2 j3 j5 nw) /\ PySem.W.tailIn K up tl = true /\ PySem.W.nsOkIn K N = true := by
  unfold zfT at q
  cases z : K.lookup C with
  | none => rw [z] at q; cases q
  | some o =>
    rw [z] at q
    cases o with
    | mk oc od oda osl =>
      simp only [Option.any_some, Bool.and_eq_true, beq_iff_eq] at q
      obtain ⟨⟨⟨rfl, sz⟩, s4⟩, q⟩ := q
      cases oda with
      | cls cd =>
        cases cd with
        | mk nm bs mro N qn hasD sn sub ab col del =>
          simp only [Bool.not_eq_true', Bool.and_eq_true, beq_iff_eq] at q
          obtain ⟨⟨⟨⟨hm, rfl⟩, rfl⟩, ht⟩, hn⟩ := q
          cases mro with
          | nil => cases hm
          | cons a tl =>
            cases hm
            obtain ⟨l⟩ := osl
            obtain ⟨a, b, c, d, e, rfl⟩ := zle (by simpa using sz) (by simpa using s4)
            exact ⟨tl, N, nm, qn, bs, sn, sub, ab, col, od, a, b, c, d, e, rfl, ht, hn⟩
      | _ => cases q
section
variable {K : PySem.W.Frag} {C fI : Addr} {B D nw iniD ini : String} {un up : List Value}
theorem zno (fn : ExcBaseFacts D nw iniD un) (hD : up.contains (.type D) = true) (F : XB B ini up) (q : zfT K C up nw = true) (at_ : PySem.W.findIn K (.ref C) "__init__" = some (some (.ref fI))) (isF : PySem.W.isFn K (.ref fI) = true) : XMk K C fI := by
  rintro prog w A E ⟨h, g, d, t, os⟩ as Q X few k
  obtain ⟨tl, N, nm, qn, bs, sn, sub, ab, col, dd, j0, j1, j2, j3, j5, hC, ht, hn⟩ := zgL q
  exact ziu fn hD F (PySem.W.tail_of_in X ht) X (X _ _ hC) at_ (PySem.W.bind_fn (X.keeps zbY) _ (beq_iff_eq.mp isF)) few (k _ _ ⟨zbY, Nat.le_succ _, _, zfE⟩)
theorem zkt (fn : ExcBaseFacts D nw iniD un) (hD : up.contains (.type D) = true) (F : XB B ini up) (q : zfT K C up nw = true) (c : XC K C) (sub : PySem.W.mroIn K C (.type B) = some true) (at_ : PySem.W.findIn K (.ref C) "__init__" = some (some (.builtin ini))) : znd K C := by
  rintro prog w A E ⟨h, g, d, t, os⟩ as Q X few k
  obtain ⟨tl, N, nm, qn, bs, sn, sub', ab, col, dd, j0, j1, j2, j3, j5, hC, ht, hn⟩ := zgL q
  apply ziu fn hD F (PySem.W.tail_of_in X ht) X (X _ _ hC) at_ (PySem.W.Looks.of_pure (F.slot.bind _)) few
  have X' : K.In (zd1 h C as) := X.keeps zbY
  apply zo1 (s := ⟨zd1 h C as, g, d, t, os⟩) F X' (od := none) ⟨zfE, rfl, rfl, trivial⟩ c sub rfl rfl few
  intro h' kp hx
  refine ⟨rfl, k h' _ ⟨fun b o e => kp b o ?_ (zbY b o e), Nat.le_succ _, _, hx⟩⟩
  exact Nat.ne_of_lt (Nat.lt_succ_of_lt (Heap.lt_size e))
theorem stores {self : Value} (ok : refuseLoop self "__setattr__" up = pure ()) : ∀ {l : List Value}, PySem.W.tailIn K up l = true -> refuseLoop self "__setattr__" l = pure ()
  | [], e => by
    have z : up = [] := beq_iff_eq.mp e
    rw [<- z]; exact ok
  | v :: r, e => by
    unfold PySem.W.tailIn at e
    cases z : ((v :: r) == up) with
    | true => rw [beq_iff_eq.mp z]; exact ok
    | false =>
      rw [z, Bool.false_or] at e
      cases v with
      | ref a =>
        dsimp only at e
        split at e
        · rw [Bool.and_eq_true] at e
          rw [refuseLoop_ref]
          exact stores ok e.2
        · cases e
      | _ => cases e
theorem zpr (ok : ∀ self, refuseLoop self "__setattr__" up = pure ()) (q : zfT K C up nw = true)
    (ga : PySem.W.findIn K (.ref C) "__getattribute__" = some (some (.builtin "BaseException.__getattribute__"))) (gt : PySem.W.findIn K (.ref C) "__getattr__" = some none) (sa : PySem.W.findIn K (.ref C) "__setattr__" = some (some (.builtin "object.__setattr__")))
    (be : PySem.W.mroIn K C (.type "BaseException") = some true) (ob : PySem.W.mroIn K C (.type "object") = some true) (ca : PySem.W.findIn K (.ref C) "__class__" = some (some (.builtin "object.__class__")))
    (cg : PySem.W.specialIn K (.builtin "object.__class__") "__get__" = some (some (.builtin "getset_descriptor.__get__"))) (ct : PySem.W.takesIn K (.builtin "object.__class__") = some true) (kc : PySem.W.kitCls K (.ref C) (.ref C) = some true) (kp : PySem.W.keepIn K (.ref C) = true) : XK0 K C := by
  obtain ⟨tl, N, nm, qn, bs, sn, sub, ab, col, dd, j0, j1, j2, j3, j5, hC, ht, hn⟩ := zgL q
  exact ⟨⟨ga, gt, sa, be, ob, ⟨_, by unfold PySem.W.clsIn; rw [hC], rfl, fun self => by rw [refuseLoop_ref]; exact stores (ok self) ht⟩, ca, cg, ct, kc⟩, ⟨_, hC, rfl⟩, kp⟩
end
end L2
end
section
namespace L2
open PySem PySem.Spec PyProof.Rows Ex
def ExAt (H : Hp) (a C : Addr) : Prop := ∃ fr, H a = some (ExO C a none fr) \/ ∃ d fs, H a = some (ExO C a (some d) fr) /\ H d = some (ExD d fs)
def zog : V -> Option Value
  | .ref a => some (.ref a)
  | .ty n => some (.type n)
  | _ => none
theorem zmN {c : V} {cv u : Value} (h : zog c = some cv) (r : RelV c u) : u = cv := by
  cases c <;> first | (cases h; exact r) | cases h
def TyX (K : PySem.W.Frag) (H : Hp) (x : V) (t : Value) : Prop := TyOf K H x t \/ ∃ a C, x = .ref a /\ t = .ref C /\ ExAt H a C /\ XC K C
section
variable {X : Cx}
theorem ExAt.inst {P : Program} {w : World} {H : Hp} {h : Heap} {a C : Addr} (ok : HOk P w H h) (q : ExAt H a C) : ∃ ox od, PySem.W.InstAt h a ox C od := by
  obtain ⟨fr, q | ⟨d, fs, q, q2⟩⟩ := q
  · obtain ⟨ox, od, I, _⟩ := ze7 (K := []) ok q fun d z => nomatch z
    exact ⟨ox, od, I⟩
  · obtain ⟨mA, hn, _⟩ := zig ok q2
    obtain ⟨ox, od, I, _⟩ := ze7 (K := []) ok q fun d' z => by cases z; exact let ⟨o, _, _, z, _⟩ := hn; ⟨o, z⟩
    exact ⟨ox, od, I⟩
theorem zav : CallR X (.builtin "isinstance") (fun xs H Q => ∃ x c t cv b, xs = [x, c] /\ zog c = some cv /\ TyX X.K H x t /\ PySem.W.kitOne X.K t cv = some b /\ Q (.bl b) H) := by
  intro pins s σ H xs us Q I r h
  obtain ⟨x, c, t, cv, b, rfl, hc, ty, e, q⟩ := h
  obtain ⟨u, u2, rfl, rx, rc⟩ := Vals.two r
  cases zmN hc rc
  rcases ty with ty | ⟨a, C, rfl, rfl, ea, c⟩
  · exact zlp I rx ty e fun tk => ⟨.bl b, H, I.tok _, rfl, q⟩
  · obtain rfl : u = Value.ref a := rx
    exact PySem.W.kia_one (zmY c) I.kIn (ea.inst I.hok) e (fun z => nomatch z) fun tk => ⟨.bl b, H, I.tok _, rfl, q⟩
structure XIn (K : PySem.W.Frag) (b : V) (B initId : String) : Prop where
  get : (∃ D, b = .ref D /\ PySem.W.specialIn K (.ref D) "__getattribute__" = some (some (.builtin "type.__getattribute__")) /\ PySem.W.readsIn K D (.type "type") = true /\ PySem.W.findCls K (.ref D) (.type "type") "__init__" = some (.val (.builtin initId))) \/
    (∃ T, b = .ty T /\ typeOf (.type T) = pure (.type "type") /\ Manifest.isStub T = false /\ PySem.W.findCls K (.type T) (.type "type") "__init__" = some (.val (.builtin initId)))
  hh : PySem.W.handedIn (.builtin initId) = true
  base : ∃ bmB, XB B initId bmB
def zqx (K : PySem.W.Frag) (B : String) (t : TA) : TE := fun σ H Q => t σ H fun vs H1 => ∃ a C fr rest, vs = .ref a :: rest /\ H1 a = some (ExO C a none fr) /\ XC K C /\ PySem.W.mroIn K C (.type B) = some true /\ rest.length <= 1000 /\ Q .non H1
theorem zjd {b : V} {B initId : String} {x : Str} {p apos pos : Pos} {e : Expr} {es : List Expr} {t : TA} {pl : Sem Bool} (hb : PE X (.Name x p) (tC b)) (Z : XIn X.K b B initId) (ha : PA X (e :: es) t)
    (hst : starEach (e :: es) X.env = (false, eval e X.env) :: starEach es X.env := by rfl) (hpl : (backTo pos (starEach es X.env)).any (·.1) = false := by rfl)
    (ht : eval (.Call (.Attribute (.Name x p) "__init__" apos) (e :: es) [] pos) X.env = (do
      let ov <- eval (.Name x p) X.env
      standAt apos.atName
      let (f, first) <- holding [ov] (getMethod ov "__init__" pl)
      callWith pos f first (backTo pos (starEach (e :: es) X.env)) (backToKw pos (keywordEach [] X.env))) := by rfl) :
    PE X (.Call (.Attribute (.Name x p) "__init__" apos) (e :: es) [] pos) (zqx X.K B t) := by
  intro pins s σ H Q I h
  refine PySem.W.methodCall_KW (pl := pl) (thn (hb pins s σ H (fun v H1 => v = b /\ H1 = H) I ⟨rfl, rfl⟩) fun u s1 ⟨x', H1, I1, rx, ex, eH⟩ => ?_) ht
  subst ex eH
  obtain ⟨bmB, F⟩ := Z.base
  have rest : ∀ tk, wpAny (model X.prog X.w) X.A (callWith pos (.builtin initId) [] (backTo pos (starEach (e :: es) X.env)) (backToKw pos (keywordEach [] X.env))) (EP X pins σ Q) X.xe { s1 with toks := tk } := fun tk => by
    refine PyProof.Rows.callWith_builtin1 (thn (ha pos pins _ σ H1 _ (I1.tok tk) h) fun us s2 ⟨vs, H2, I2, r, a, C, fr, rest, ev, ea, c, hm, hl, q⟩ => ?_) hst hpl
    subst ev
    cases r with
    | @cons _ u' _ us' ra rr =>
      obtain rfl : u' = Value.ref a := ra
      obtain ⟨oe, ws, t0, h1, h2, h3, h4, h5, h6, h7⟩ := zcu I2.hok ea
      obtain ⟨ox, od, Ins, hdd, _⟩ := ze7 (K := X.K) I2.hok ea fun d z => nomatch z
      have e1 := Ins.at_
      rw [h1] at e1
      cases e1
      refine zo1 F I2.kIn Ins c hm h4 h5 (by rw [<- rr.length, sizeLine_eq]; omega) fun h' kp hx => ?_
      refine ⟨.non, H2, ?_, rfl, q⟩
      have I3 := I2.write (x := a) (e := a) (o := ExO C a none fr) (t' := s2.toks) (h' := h') (by rw [ea]; exact True.intro) (.inl rfl) (fun b u hb z => kp b u hb z) ⟨_, hx⟩ (by
        exact zft hx h2 h3 rfl (show (ws.setIfInBounds 0 (Value.ref s2.heap.objs.size))[0]? = some (.ref s2.heap.objs.size) by have : 0 < ws.size := (by omega); simp [Array.getElem?_setIfInBounds, this]) (by simp; exact h6) (fun z => by rw [Array.getElem?_setIfInBounds_ne (by decide)]; exact h7 z))
      have e2 : upd H2 a (ExO C a none fr) = H2 := by
        funext b
        by_cases z : b = a
        · subst z; rw [za3, ea]
        · rw [zay z]
      rw [e2] at I3
      exact I3
  rcases Z.get with ⟨D, rfl, hg, hr, hc⟩ | ⟨T, rfl, h1, h2, hc⟩
  · obtain rfl : u = Value.ref D := rx
    exact PySem.W.method_cls I1.kIn hg (PySem.W.cls_value I1.kIn hr hc Z.hh (rest _))
  · obtain rfl : u = Value.type T := rx
    obtain ⟨m, Fr⟩ := I1.fr
    exact PySem.W.method_type Fr I1.ok.mod.kin h1 h2 hc Z.hh (rest _)
theorem zgm {M : Model} {A : Around} {E : Value -> Shared -> Prop} {pins : List (Addr × Obj)} {σ : St} {H : Hp} {s : Shared} {i : Nat} {n : Str} {pos : Pos} {Q : Unit -> Shared -> Prop} (I : Inv X pins σ H s) (hN : X.N.Nodup) (hi : X.N[i]? = some n) (hl : X.env.scope.names.lookup n = some .local)
    (h : ∀ s', Inv X pins (σ.set i none) H s' -> Q () s') : wpAny M A (do bindName X.env n .none; unbindBehindTheSuite X.env n pos) Q E s := by
  obtain ⟨m, hn, hlk⟩ := id I.loc
  have hcls : (X.env.scope.kind == .class || (X.env.scope.kind == .module && X.env.locals != X.env.globals)) = false := by rw [I.ok.kind]; rfl
  have cne := I.cne
  refine wpAny_nameGoes_keeps hl hn hcls fun h' v hn' hs => ?_
  obtain ⟨oL, _, _, hoL, _⟩ := id hn
  have tracked : HOk X.prog X.w H h' := fun b ob e => by
    refine (I.hok b ob e).stay (fun c w' hc q => (hs.2 c ?_).trans q) (fun _ q => q) fun _ _ q => q
    rintro rfl
    have hfree := I.free
    rcases hc with rfl | hc
    · rw [hfree] at e; cases e
    · rw [hfree] at hc; cases hc
  refine h _ ⟨I.ok, I.os, I.bare, ⟨fun b o e n hb hx => ?_, fun b o e n hb hx => ?_, I.base.free, fun b o e hx => ?_, I.base.tups, I.base.frzs, I.base.tbls⟩, ⟨_, hn', fun j y v' e1 e2 e3 => ?_⟩, fun y c e => ?_, I.free, I.freeC, fun p hp => ?_, tracked, by simpa using I.len⟩
  · exact (hs.2 b (Nat.ne_of_lt (Nat.lt_of_lt_of_le (Heap.lt_size e) I.ok.above))).trans (I.base.keep b o e n hb hx)
  · obtain ⟨sl, e1⟩ := I.base.slot b o e n hb hx
    exact ⟨sl, (hs.2 b (Nat.ne_of_lt (Nat.lt_of_lt_of_le (Heap.lt_size e) I.ok.above))).trans e1⟩
  · obtain ⟨o', e1⟩ := I.base.there b o e hx
    exact ⟨o', (hs.2 b (Nat.ne_of_lt (Nat.lt_of_lt_of_le (Heap.lt_size e) I.ok.above))).trans e1⟩
  · have hiσ : i < σ.length := by rw [I.len]; exact (List.getElem?_eq_some_iff.mp hi).1
    by_cases hj : j = i
    · subst hj
      rw [List.getElem?_set_self hiσ] at e2
      cases e2
    · rw [List.getElem?_set_ne (Ne.symm hj)] at e2
      obtain ⟨u', r', q⟩ := hlk j y v' e1 e2 e3
      refine ⟨u', r', ?_⟩
      rcases q with ⟨k, e⟩ | ⟨k, c, e, z⟩
      · refine .inl ⟨k, ?_⟩
        have : y ≠ n := fun e => hj (zgF hN e1 (e ▸ hi))
        simp [this, e]
      · exact .inr ⟨k, c, e, z.sameBut hs (cne y c e)⟩
  · obtain ⟨w', z⟩ := I.cell y c e
    exact ⟨w', z.sameBut hs (cne y c e)⟩
  · obtain ⟨e, n, ne, nf, d⟩ := I.pin p hp
    exact ⟨(hs.2 p.1 ne).trans e, n, ne, nf, d⟩
end
end L2
end
section
namespace Ex
open PySem PySem.Spec PyProof.Rows PySem.W PySem.Calls Builtin Builtin.ObjectAttr
def matchIn (K : Frag) (C : Addr) : List Value -> Option Bool
  | [] => some false
  | c :: r => if kitExc K c = true then (match subIn K (.ref C) c, matchIn K C r with
      | some a, some b => some (a || b)
      | _, _ => none) else none
where kitExc (K : Frag) (c : Value) : Bool := kitCls K c c == some true && subIn K c (.type "BaseException") == some true
section
variable {M : Model} {A : Around} {E : Value -> Shared -> Prop} {s : Shared} {K : Frag}
theorem zlh {c : Value} {h : Heap} (X : K.In h) (q : matchIn.kitExc K c = true) : Looks M h (isExcClass c) true := by
  unfold matchIn.kitExc at q
  rw [Bool.and_eq_true] at q
  exact (kit_cls X (beq_iff_eq.mp q.1)).2.1.andThen (looks_subIn X (beq_iff_eq.mp q.2))
theorem zlx {β : Type} {l : List Value} {b : β} {f : Value -> β -> Sem (ForInStep β)} {Q : β -> Shared -> Prop} (hf : ∀ c ∈ l, ∀ R : ForInStep β -> Shared -> Prop, R (.yield b) s -> wpAny M A (f c b) R E s) (h : Q b s) : wpAny M A (forIn l b f) Q E s := by
  induction l with
  | nil => exact wpAny_pure h
  | cons c r ih =>
    rw [List.forIn_cons]
    refine wpAny_bind (hf c (List.mem_cons_self ..) _ ?_)
    exact ih fun c' hc' => hf c' (List.mem_cons_of_mem _ hc')
theorem zmG {C : Addr} {cs : List Value} {b : Bool} {Q : Option Bool × Unit -> Shared -> Prop} (X : K.In s.heap) (q : matchIn K C cs = some b) (h : Q (if b then (some true, ()) else (none, ())) s) :
    wpAny M A (forIn cs ((none, ()) : Option Bool × Unit) fun c __s => do
      let __do_lift <- isSubtype (.ref C) c
      if __do_lift = true then pure (ForInStep.done (some true, ())) else pure (ForInStep.yield (none, ()))) Q E s := by
  induction cs generalizing b with
  | nil => cases q; exact wpAny_pure h
  | cons c r ih =>
    unfold matchIn at q
    split at q
    · split at q
      · rename_i a b' e1 e2
        cases q
        rw [List.forIn_cons]
        refine wpAny_bind (wpAny_bind ((looks_subIn X e1).here ?_))
        cases a with
        | true => exact wpAny_pure (wpAny_pure h)
        | false =>
          refine wpAny_pure ?_
          exact ih e2 (by simpa using h)
      · cases q
    · cases q
theorem zjV {C : Addr} : ∀ {cs : List Value} {b : Bool}, matchIn K C cs = some b -> ∀ c ∈ cs, matchIn.kitExc K c = true
  | [], _, _, c, hc => nomatch hc
  | c :: r, b, q, c', hc => by
    unfold matchIn at q
    split at q
    · rename_i hk
      split at q
      · rename_i a b' e1 e2
        cases hc with
        | head => exact hk
        | tail _ m => exact zjV e2 c' m
      · cases q
    · cases q
theorem ziN {e C p : Addr} {cs : List Value} {b : Bool} {Q : Bool -> Shared -> Prop} (X : K.In s.heap) (hty : Looks M s.heap (typeOf (.ref e)) (.ref C)) (hp : IsTup s.heap p cs.toArray) (q : matchIn K C cs = some b) (h : Q b s) :
    wpAny M A (excMatches (.ref e) (.ref p)) Q E s := by
  obtain ⟨o, ho, hc, n, hd⟩ := hp
  unfold excMatches
  refine wpAny_bind (wpAny_isInstance (T := "tuple") ⟨o, ho, hc⟩ (b := true) (by rw [isSubtype_type]; kernel_rfl) ?_)
  have hs : seqItems? (.ref p) = seqItems? (.ref p) := rfl
  obtain ⟨oc, odi, oda, osl⟩ := o
  dsimp only at hc hd
  subst hc hd
  have e0 : ((some cs.toArray).getD #[]).toList = cs := by simp
  rw [if_pos rfl]
  refine wpAny_bind (m := seqItems? (.ref p)) (wpAny_mono (Q := fun r s' => r = some cs.toArray /\ s' = s) (E := E) ?_ (fun r s' hr => ?_) fun _ _ x => x)
  · unfold seqItems?
    obtain ⟨h0, g, d, t, os⟩ := s
    repeat (first | with_reducible refine wpAny_loadPart_at ho ?_ | exact ⟨rfl, rfl⟩ | wp_step)
  obtain ⟨rfl, rfl⟩ := hr
  refine wpAny_bind (wpAny_pure ?_)
  rw [e0]
  dsimp only
  refine wpAny_bind (zlx (fun c hc R hR => ?_) ?_)
  · refine wpAny_bind ((zlh X (zjV q c hc)).here ?_)
    exact wpAny_pure hR
  refine wpAny_bind (hty.here (wpAny_bind (zmG X q ?_)))
  cases b <;> exact wpAny_pure h
end
end Ex
end
section
namespace L2
open PySem PySem.Spec PyProof.Rows Ex
abbrev Cx.body (X : Cx) (E' : Value -> Shared -> Prop) (pn' : List (Addr × Obj)) : Cx := { X with xe := E', pn := pn' }
abbrev Cx.hand (X : Cx) (e : Value) (E' : Value -> Shared -> Prop) : Cx := { X with A := X.A.mark (some e), calm := false, xe := E' }
section
variable {X : Cx} {pins : List (Addr × Obj)} {σ : St} {H : Hp} {s : Shared}
theorem Inv.tob (I : Inv X pins σ H s) (E' : Value -> Shared -> Prop) : Inv (X.body E' (X.pn ++ pins)) [] σ H s :=
  ⟨⟨I.ok.mod, I.ok.kind, I.ok.glob, I.ok.blt, I.ok.above, I.ok.inj, I.ok.has, I.ok.cab, I.ok.hd, I.ok.frames, I.ok.stk, I.ok.exf, I.ok.bs, I.ok.bsz, I.ok.noex, I.ok.exfs, I.ok.funs, I.ok.frf⟩, I.os, I.bare, I.base, I.loc, I.cell, I.free, I.freeC,
    fun p hp => I.pin p (by simpa using hp), I.hok, I.len⟩
theorem Inv.ofb {pins' : List (Addr × Obj)} {E' : Value -> Shared -> Prop} (I : Inv (X.body E' (X.pn ++ pins)) pins' σ H s) : Inv X pins σ H s :=
  ⟨⟨I.ok.mod, I.ok.kind, I.ok.glob, I.ok.blt, I.ok.above, I.ok.inj, I.ok.has, I.ok.cab, I.ok.hd, I.ok.frames, I.ok.stk, I.ok.exf, I.ok.bs, I.ok.bsz, I.ok.noex, I.ok.exfs, I.ok.funs, I.ok.frf⟩, I.os, I.bare, I.base, I.loc, I.cell, I.free, I.freeC,
    fun p hp => I.pin p (List.mem_append_left _ hp), I.hok, I.len⟩
theorem Inv.toh (I : Inv X pins σ H s) (e : Value) (E' : Value -> Shared -> Prop) : Inv (X.hand e E') pins σ H s :=
  ⟨⟨I.ok.mod, I.ok.kind, I.ok.glob, I.ok.blt, I.ok.above, I.ok.inj, I.ok.has, I.ok.cab, (fun z => nomatch z), I.ok.frames, I.ok.stk, I.ok.exf, I.ok.bs, I.ok.bsz, I.ok.noex, I.ok.exfs, I.ok.funs, I.ok.frf⟩, I.os, I.bare, I.base, I.loc, I.cell, I.free, I.freeC, I.pin, I.hok, I.len⟩
theorem Inv.ofh {e : Value} {E' : Value -> Shared -> Prop} (I : Inv (X.hand e E') pins σ H s) (hd : X.calm = true -> X.A.handled = none) : Inv X pins σ H s :=
  ⟨⟨I.ok.mod, I.ok.kind, I.ok.glob, I.ok.blt, I.ok.above, I.ok.inj, I.ok.has, I.ok.cab, hd, I.ok.frames, I.ok.stk, I.ok.exf, I.ok.bs, I.ok.bsz, I.ok.noex, I.ok.exfs, I.ok.funs, I.ok.frf⟩, I.os, I.bare, I.base, I.loc, I.cell, I.free, I.freeC, I.pin, I.hok, I.len⟩
theorem Inv.landed {e C T' : Addr} {tb : Option Addr} {h' h'' : Heap} (I : Inv X pins σ H s) (ex : ∃ dd, H e = some (ExO C e dd false)) (hT : ∀ T, tb = some T -> H T = none /\ X.s₀.heap.objs.size <= T /\ ∀ p ∈ X.pn ++ pins, p.1 ≠ T)
    (tbd : ∀ T, tb = some T -> ∃ oT ts, s.heap.get? T = some oT /\ oT.data = .fields ts) (S : Step (frs X.stack) e tb s.heap h') (hle : s.heap.objs.size <= T') (oth : ∀ b, b ≠ T' -> h''.get? b = h'.get? b) : Inv X pins σ H { s with heap := h'' } := by
  obtain ⟨dd, ex⟩ := ex
  obtain ⟨oe, vs, t0, he, hc, hdd, hd, h0, hsz, _⟩ := zcu I.hok ex
  have hT' : ∀ b o, s.heap.get? b = some o -> b ≠ T' := fun b o z => Nat.ne_of_lt (Nat.lt_of_lt_of_le (Heap.lt_size z) hle)
  have keep : ∀ b o, s.heap.get? b = some o -> b ≠ e -> tb ≠ some b -> b ∉ frs X.stack -> h''.get? b = some o := fun b o z a1 a2 a3 => (oth b (hT' b o z)).trans (S.keep b o z a1 a2 a3)
  have tracked : ∀ b u, H b = some u -> b ∉ frs X.stack := fun b u z hb => by
    have n := I.stkFree b hb
    rw [z] at n
    cases n
  have ne : ∀ b, H b = none -> b ≠ e := fun b z y => by rw [y, ex] at z; cases z
  refine I.call' (s' := { s with heap := h'' }) (ch := tb.toList) rfl ⟨fun b o z n hb hx => ?_, fun b o z n hb hx => ?_, fun b o z n _ => n, fun b o z _ => ?_, fun _ _ z => z, fun _ _ _ z => z, fun b ps z => ⟨#[], by rw [z]; simp⟩⟩ (fun b u z => ?_) I.bare fun b hb => ?_
  · exact keep b o z (ne b n) (fun y => hx (by rw [y]; simp)) hb
  · obtain ⟨sl, e1⟩ := S.slot b o z (ne b n) (fun y => hx (by rw [y]; simp))
    exact ⟨sl, (oth b (hT' b o z)).trans e1⟩
  · obtain ⟨o2, e2⟩ := S.there b o z
    exact ⟨o2, (oth b (hT' b o z)).trans e2⟩
  · by_cases hb : b = e
    · subst hb
      rw [ex] at z
      cases z
      obtain ⟨vs', e1, e2, e3⟩ := S.exc oe vs he hd
      exact zft ((oth b (hT' b _ he)).trans e1) hc hdd rfl (by rw [e2]; exact h0) (by rw [e3]; exact hsz) fun z => nomatch z
    · refine (I.hok b u z).stay (fun c v hcv r => ?_) (fun _ r => r) fun _ _ r => r
      have ne2 : c ≠ e := by
        rcases hcv with rfl | hcv
        · exact hb
        · exact zfQ hcv ex (by intro y; cases y)
      have tr : ∃ u', H c = some u' := by
        rcases hcv with rfl | hcv
        · exact ⟨_, z⟩
        · exact ⟨_, hcv⟩
      obtain ⟨u', hu'⟩ := tr
      exact keep c v r ne2 (fun y => by have := (hT c y).1; rw [hu'] at this; cases this) (tracked c u' hu')
  · cases tb with
    | none => simp at hb
    | some T =>
      have : b = T := by simpa using hb
      subst this
      obtain ⟨a1, a2, a3⟩ := hT b rfl
      obtain ⟨oT, ts, g1, g2⟩ := tbd b rfl
      refine ⟨.inr a2, fun y => ?_, fun x c hx y => ?_, a3⟩
      · obtain ⟨m, ⟨o, es, ep, ho, hd', _⟩, _⟩ := I.loc
        rw [y, ho] at g1
        cases g1
        rw [hd'] at g2
        cases g2
      · obtain ⟨v, o, ho, hd'⟩ := I.cell x c hx
        rw [y, g1] at ho
        cases ho
        rw [hd'] at g2
        cases g2
def PN (X : Cx) (es : List Expr) (us : List Value) : Prop :=
  ∀ (A : Around) (E : Value -> Shared -> Prop) (pos : Pos) (pins : List (Addr × Obj)) (σ : St) (H : Hp) (s : Shared) (Q : List Value -> Shared -> Prop), Inv X pins σ H s -> Q us s -> wpAny (model X.prog X.w) A (spliced (backTo pos (starEach es X.env))) Q E s
theorem zpq : PN X [] [] := fun _ _ _ _ _ _ _ _ _ h => Calls.spliced_nil h
theorem zh4 {x : Str} {p : Pos} {es : List Expr} {u : Value} {us : List Value} (hg : Gl X x) (hm : X.mg x = some u) (hr : PN X es us) (hd : (x == ("__debug__" : Str)) = false := by decide)
    (hs : starEach (.Name x p :: es) X.env = (false, eval (.Name x p) X.env) :: starEach es X.env := by rfl) : PN X (.Name x p :: es) (u :: us) := by
  intro A E pos pins σ H s Q I h
  rw [hs]
  show wpAny _ _ (spliced ((false, eval (.Name x p) X.env) :: backTo pos (starEach es X.env))) _ _ s
  refine Calls.spliced_cons (Calls.Name_function_global I.ok.kind hg (Calls.loadGlobal_global (by rw [I.ok.glob]; exact I.mod.glob.keeps I.bk) hm ?_) hd)
  exact hr A E pos pins σ H s _ I h
section
variable {X : Cx}
def zrQ (K : PySem.W.Frag) (cs : List Value) (i : Nat) (tb : XKS -> TS) (ts : TS) : TS := fun D σ H =>
  tb (fun σ' cls ea H' => ∃ a C, cls = .ref C /\ ea = some a /\ matchIn K C cs = some true /\
    ts { nx := fun σ'' H'' => D.nx (σ''.set i none) H'', rt := D.rt, bk := fun σ'' H'' => D.bk (σ''.set i none) H'', ct := fun σ'' H'' => D.ct (σ''.set i none) H'' } (σ'.set i (some (.ref a))) H') D σ H
theorem zpT {body suite : List Stmt} {b₀ : Stmt} {n : Str} {i : Nat} {es : List Expr} {cs : List Value} {k1 p1 hpos pos} {tb : XKS -> TS} {ts : TS} (hst : X.stack = X.env :: X.outer /\ X.env.frame = some X.env.locals)
    (hN : X.N.Nodup) (hi : X.N[i]? = some n) (hl : X.env.scope.names.lookup n = some .local) (hes : PN X es cs) (hcs : cs.length <= 1000)
    (hb : ∀ E' pn' EE, XOk (X.body E' pn') EE -> PSs (X.body E' pn') body (tb EE)) (hs : ∀ a, PSs (X.hand (.ref a) fun _ _ => False) (b₀ :: suite) ts) :
    PS X (.Try body [.ExceptHandler (some (.Tuple es k1 p1)) (some n) (b₀ :: suite) hpos] [] [] pos) (zrQ X.K cs i tb ts) := by
  intro pins s σ H D I h
  refine wpAny_Try_except ?_
  have fin : ∀ {f : Flow} {s1 : Shared}, SP X pins D f s1 -> (match f with | .next => wpAny (model X.prog X.w) X.A (execs [] X.env) (SP X pins D) X.xe s1 | f => SP X pins D f s1) := fun {f s1} hsp => by
    cases f <;> first | exact hsp | exact wpAny_execs_nil hsp
  refine wpAny_mono (hb _ (X.pn ++ pins) _ ?_ [] s σ H D (I.tob _) h) (fun f s1 hsp => fin ?_) fun e s1 z => z
  · -- what is wanted of exceptions
    intro pins' σ' H' s' e C I' T q
    obtain ⟨ex, lo, tb', F, hT⟩ := T
    have I1 : Inv X pins σ' H' s' := I'.ofb
    have hT1 : ∀ T, tb' = some T -> H' T = none /\ X.s₀.heap.objs.size <= T /\ ∀ p ∈ X.pn ++ pins, p.1 ≠ T := fun T z => ⟨(hT T z).1, (hT T z).2.1, fun p hp => (hT T z).2.2 p (List.mem_append_left _ hp)⟩
    have tbd : ∀ T, tb' = some T -> ∃ oT ts, s'.heap.get? T = some oT /\ oT.data = .fields ts := fun T z => by
      subst z
      obtain ⟨_, _, oT, ts, _, _, _, _, g1, g2, _⟩ := F
      exact ⟨oT, ts, g1, g2⟩
    obtain ⟨dd, ex'⟩ := id ex
    obtain ⟨oe, vs, t0, he, hc, hdd, hd, h0, hsz, _⟩ := zcu I1.hok ex'
    have hfr : X.A.frames = some (X.env :: X.outer) := by rw [I1.ok.frames, hst.1]
    have hfl : s'.heap.FunFrames X.base (X.env :: X.outer) := by rw [<- hst.1]; exact I1.stack
    show wpAny (model X.prog X.w) X.A (noteFrame (.ref e) X.env) _ X.xe s'
    refine ziX (L := X.env.locals) hfr hfl hst.2 F (fun oe' vs' a b => by rw [he] at a; cases a; rw [hd] at b; cases b; exact hsz) fun h' T' S hle FF => ?_
    refine zgT (s := { s' with heap := h' }) FF fun h'' oth F2 => ?_
    have I2 : Inv X pins σ' H' { s' with heap := h'' } := I1.landed ex hT1 tbd (by rw [hst.1]; exact S) hle oth
    obtain ⟨a, C', ec, ea, hm, hk⟩ := q
    cases ec
    cases ea
    obtain ⟨oe2, vs2, t2, he2, hc2, _⟩ := zcu I2.hok ex'
    refine wpAny_handleBy_cons (codeAny_handlers_test ?_) (by intro q; cases q)
    refine wpAny_Tuple_spliced (hes _ _ _ pins σ' H' _ _ I2 ⟨by rw [sizeLine_eq]; omega, ?_⟩)
    have I3 : Inv X pins σ' H' { s' with heap := h''.push { cls := .type "tuple", data := .seq cs.toArray } } := I2.kept (t' := s'.toks) fun b u z => Heap.get?_push_of_some _ z
    have he3 := Heap.get?_push_of_some { cls := .type "tuple", data := .seq cs.toArray } he2
    have F3 : Fly (h''.push { cls := .type "tuple", data := .seq cs.toArray }) e .none (some T') := by
      obtain ⟨o1, v1, o2, v2, g1, g2, g3, g4, g5, g6, g7⟩ := F2
      exact ⟨o1, v1, o2, v2, Heap.get?_push_of_some _ g1, g2, g3, g4, Heap.get?_push_of_some _ g5, g6, g7⟩
    have LT : PySem.W.Looks (model X.prog X.w) (h''.push { cls := .type "tuple", data := .seq cs.toArray }) (typeOf (.ref e)) (.ref C) := hc2 ▸ (PySem.W.Looks.ld he3).andThen .now
    refine ziN (s := { s' with heap := h''.push { cls := .type "tuple", data := .seq cs.toArray } }) I3.kIn LT ⟨_, Heap.get?_push_size _ rfl, rfl, _, rfl⟩ hm ?_
    apply codeAny_handlers_suite_as
    refine zgT (s := { s' with heap := h''.push { cls := .type "tuple", data := .seq cs.toArray } }) F3 fun h4 oth4 F4 => ?_
    have I4 : Inv X pins σ' H' { s' with heap := h4 } := by
      refine I3.turned (t' := s'.toks) (fun b o hb z => (oth4 b hb).trans z) (I1.hok.fresh hle) (Nat.ne_of_gt (Nat.lt_of_lt_of_le I1.lt hle)) (.inr (Nat.le_trans I1.sz hle)) (fun x c hx => ?_) fun p hp => ?_
      · obtain ⟨v, o, ho, _⟩ := I1.cell x c hx
        exact Nat.ne_of_lt (Nat.lt_of_lt_of_le (Heap.lt_size ho) hle)
      · exact Nat.ne_of_lt (Nat.lt_of_lt_of_le (Heap.lt_size (I1.pin p hp).1) hle)
    refine zfb (s := { s' with heap := h4 }) I4 hN hi (.inl hl) (v := .ref e) rfl (fun s5 I5 => ?_) (.inr hl)
    refine wpAny_mono (PSs.nox (X := X.hand (.ref e) _) (hs e) pins s5 _ _ _ (I5.toh _ _) hk) (fun f s6 hsp => ?_) fun x s6 z => z
    show wpAny _ _ _ _ _ _
    cases f with
    | next =>
      obtain ⟨σ6, H6, J, z⟩ := hsp
      exact zgm (J.ofh I.ok.hd) hN hi hl fun s7 I7 => ⟨_, _, I7, z⟩
    | brk =>
      obtain ⟨σ6, H6, J, z⟩ := hsp
      exact zgm (J.ofh I.ok.hd) hN hi hl fun s7 I7 => ⟨_, _, I7, z⟩
    | cont =>
      obtain ⟨σ6, H6, J, z⟩ := hsp
      exact zgm (J.ofh I.ok.hd) hN hi hl fun s7 I7 => ⟨_, _, I7, z⟩
    | ret u =>
      obtain ⟨v, σ6, H6, J, rv, z⟩ := hsp
      exact zgm (J.ofh I.ok.hd) hN hi hl fun s7 I7 => ⟨v, _, _, I7, rv, z⟩
  · cases f with
    | next => obtain ⟨σ6, H6, J, z⟩ := hsp; exact ⟨σ6, H6, J.ofb, z⟩
    | brk => obtain ⟨σ6, H6, J, z⟩ := hsp; exact ⟨σ6, H6, J.ofb, z⟩
    | cont => obtain ⟨σ6, H6, J, z⟩ := hsp; exact ⟨σ6, H6, J.ofb, z⟩
    | ret u => obtain ⟨v, σ6, H6, J, rv, z⟩ := hsp; exact ⟨v, σ6, H6, J.ofb, rv, z⟩
end
end
end L2
end
section
namespace L2
open PySem PySem.Spec PyProof.Rows Ex
structure Clo (env : Env) (scope : Scope) (cl : List (Str × Addr)) : Prop where
  clos : closureFor scope env = pure cl
  sub : ∀ x c, cl.lookup x = some c -> env.cells.lookup x = some c
  has : ∀ x, (x, NameKind.free) ∈ scope.names -> ∃ c, cl.lookup x = some c
theorem lookup_mem {α : Type} {x : Str} {c : α} : ∀ {l : List (Str × α)}, l.lookup x = some c -> (x, c) ∈ l
  | [], h => by simp at h
  | (y, d) :: r, h => by
    rw [List.lookup_cons] at h
    split at h
    · rename_i q
      cases h
      rw [beq_iff_eq.mp q]
      exact List.mem_cons_self ..
    · exact List.mem_cons_of_mem _ (lookup_mem h)
theorem mem_lookup {α : Type} {x : Str} {c : α} : ∀ {l : List (Str × α)}, (x, c) ∈ l -> ∃ d, l.lookup x = some d
  | [], h => nomatch h
  | (y, d) :: r, h => by
    rw [List.lookup_cons]
    split
    · exact ⟨d, rfl⟩
    · rename_i q
      rcases List.mem_cons.mp h with z | z
      · cases z; simp at q
      · exact mem_lookup z
theorem zpw {env : Env} {scope : Scope} (h : ∀ x, (x, NameKind.free) ∈ scope.names -> ∃ c, env.cells.lookup x = some c) : ∃ cl, Clo env scope cl := by
  have go : ∀ (names : List (Str × NameKind)) (cs : List (Str × Addr)), (∀ x, (x, NameKind.free) ∈ names -> ∃ c, env.cells.lookup x = some c) ->
      ∃ cl, (forIn (m := Sem) names cs fun x r => (match x with | (name, kind) => if (kind == NameKind.free) = true then do let a <- cellOf env name; pure (ForInStep.yield ((name, a) :: r)) else pure (ForInStep.yield r))) = pure cl /\
        (∀ y c, (y, c) ∈ cl -> (y, c) ∈ cs \/ env.cells.lookup y = some c) /\ (∀ y c, (y, c) ∈ cs -> (y, c) ∈ cl) /\ (∀ y, (y, NameKind.free) ∈ names -> ∃ c, (y, c) ∈ cl) := by
    intro names
    induction names with
    | nil => intro cs _; exact ⟨cs, rfl, fun _ _ z => .inl z, fun _ _ z => z, fun _ z => nomatch z⟩
    | cons p r ih =>
      intro cs hh
      obtain ⟨y, k⟩ := p
      by_cases hk : k = .free
      · subst hk
        obtain ⟨c, hc⟩ := hh y (List.mem_cons_self ..)
        obtain ⟨cl, e, h1, h2, h3⟩ := ih ((y, c) :: cs) fun x hx => hh x (List.mem_cons_of_mem _ hx)
        refine ⟨cl, ?_, fun z d hz => ?_, fun z d hz => h2 z d (List.mem_cons_of_mem _ hz), fun z hz => ?_⟩
        · have ec : cellOf env y = pure c := by simp only [cellOf, hc]
          rw [List.forIn_cons]
          simp only [beq_self_eq_true, if_true, ec, pure_bind]
          exact e
        · rcases h1 z d hz with q | q
          · rcases List.mem_cons.mp q with q | q
            · cases q; exact .inr hc
            · exact .inl q
          · exact .inr q
        · rcases List.mem_cons.mp hz with q | q
          · cases q; exact ⟨c, h2 _ _ (List.mem_cons_self ..)⟩
          · exact h3 z q
      · obtain ⟨cl, e, h1, h2, h3⟩ := ih cs fun x hx => hh x (List.mem_cons_of_mem _ hx)
        refine ⟨cl, ?_, h1, h2, fun z hz => ?_⟩
        · rw [List.forIn_cons]
          have : (k == NameKind.free) = false := by simpa using hk
          simp only [this, Bool.false_eq_true, if_false, pure_bind]
          exact e
        · rcases List.mem_cons.mp hz with q | q
          · cases q; exact absurd rfl hk
          · exact h3 z q
  obtain ⟨cl, e, h1, h2, h3⟩ := go scope.names [] h
  refine ⟨cl, ?_, fun x c hx => ?_, fun x hx => ?_⟩
  · unfold closureFor
    first
      | exact e
      | (show (forIn (m := Sem) scope.names ([] : List (Str × Addr)) _ >>= fun r => pure r) = pure cl; rw [bind_pure]; exact e)
      | (rw [bind_pure]; exact e)
      | (trace_state; fail "x")
  · exact (h1 x c (lookup_mem hx)).elim (fun z => nomatch z) id
  · obtain ⟨c, hc⟩ := h3 x hx
    exact mem_lookup hc
end L2
end
section
namespace Ex
open PySem PySem.Spec PyProof.Rows
abbrev zpY (M : Model) (A : Around) (env : Env) (tg : Expr) (it : Value) (ifs : List Expr) (el : Expr) (acc : Value) (N : Value -> Shared -> Prop) (next : Shared -> Prop) (v : Value) (s : Shared) : Prop :=
  wpAny M A (letOwnedTupleGo tg it v) (fun _ a => wpAny M A (assign tg env v) (fun _ b =>
    wpAny M A (forIn ifs true fun c r => if r = true then do let ok <- isTrue c env (eval c env); pure (ForInStep.yield ok) else pure (ForInStep.yield r)) (fun yes c =>
      if yes = true then wpAny M A (eval el env) (fun y d => wpAny M A (call (.builtin "list.append") [acc, y]) (fun _ => next) N d) N c else next c) N b) N a) N s
theorem zlo {prog : Program} {w : World} {A : Around} {R : Result -> Shared -> Prop} {s : Shared} {el tg src : Expr} {ifs : List Expr} {sc : Scope} {pos : Pos} {it acc : Value} {env : Env} (J : Nat -> Shared -> Prop) (n : Nat) (start : J n s)
    (turn : ∀ n s, J n s -> wpAny (model prog w) A (pyNext it) (fun r a => match r with
      | none => R (.ok .next) a
      | some v => zpY (model prog w) A env tg it ifs el acc (notedBy (model prog w) A env fun x => R (.error x)) (fun b => ∃ m, m < n /\ J m b) v a) (notedBy (model prog w) A env fun x => R (.error x)) s) :
    codeAny (model prog w) A (.compLoop (.ListComp el [⟨tg, src, ifs, 0⟩] sc pos) 0 it acc env) R s := by
  apply codeAny_loop rfl J _ n start
  intro n s j
  change wpAny _ A (Sem.onRaise (compTurn (.ListComp el [⟨tg, src, ifs, 0⟩] sc pos) 0 it acc env) fun x => do noteFrame x env; theTreesLotGoes x) _ _ s
  apply wpAny_noted; rw [compTurn_list]
  apply wpAny_bind; apply wpAny_standAt; apply wpAny_bind; apply wpAny_mono (turn n s j) _ fun _ _ z => z
  intro r a k
  cases r with
  | none => exact wpAny_pure k
  | some v =>
    apply wpAny_bind; apply wpAny_mono k _ fun _ _ z => z; intro _ b k
    apply wpAny_bind; apply wpAny_mono k _ fun _ _ z => z; intro _ c k
    apply wpAny_bind; apply wpAny_mono k _ fun _ _ z => z; intro yes d k
    cases yes
    · exact wpAny_pure (And.intro rfl k)
    · apply wpAny_bind; apply wpAny_bind; apply wpAny_mono k _ fun _ _ z => z; intro y e k
      apply wpAny_bind; apply wpAny_mono k _ fun _ _ z => z; intro _ f k
      exact wpAny_pure (wpAny_pure (And.intro rfl k))
end Ex
namespace L2
open PySem PySem.Spec PyProof.Rows Ex
abbrev Cx.blk (X : Cx) (Nc : List Str) (scope : Scope) (cl : List (Str × Addr)) (C : Addr) (s3 : Shared) (H3 : Hp) (fp : List Addr) (pn' : List (Addr × Obj)) (E' : Value -> Shared -> Prop) : Cx :=
  { X with N := Nc, s₀ := s3, H₀ := H3, env := compEnvC scope cl C X.env, outer := X.stack, ex := fp, fn := fun _ => false, pn := pn', xe := E' }
def compσ (fr : List Nat) (own : Nat) (σ : St) : St := List.replicate own none ++ fr.map fun j => (σ[j]?).join
structure BlkN (X : Cx) (scope : Scope) (Nc : List Str) (own : Nat) (fr : List Nat) : Prop where
  len : Nc.length = own + fr.length
  free : ∀ (k j : Nat) (x : Str), fr[k]? = some j -> Nc[own + k]? = some x -> X.N[j]? = some x /\ (X.env.scope.names.lookup x = some .cell \/ X.env.scope.names.lookup x = some .free) /\ scope.names.lookup x = some .free
  kind : scope.kind = .function
  nocell : ∀ y ∈ scope.names, y.2 ≠ .cell
  names : ∀ x ∈ scope.names, x.2 = .local -> scope.names.lookup x.1 = some .local
  frees : ∀ x, (x, NameKind.free) ∈ scope.names -> X.env.scope.names.lookup x = some .cell \/ X.env.scope.names.lookup x = some .free
def PTs (X : Cx) (ifs : List Expr) (t : TT) : Prop :=
  ∀ (pins : List (Addr × Obj)) (s : Shared) (σ : St) (H : Hp) (Q : Bool -> Hp -> Prop), Inv X pins σ H s -> t σ H Q ->
    wpAny (model X.prog X.w) X.A (forIn ifs true fun c r => if r = true then do let ok <- isTrue c X.env (eval c X.env); pure (ForInStep.yield ok) else pure (ForInStep.yield r)) (TP X pins σ Q) X.xe s
theorem zoP {X : Cx} : PTs X [] (fun _ H Q => Q true H) := fun _ _ _ H _ I h => wpAny_tests_nil ⟨H, I, h⟩
theorem zok {X : Cx} {c : Expr} {t : TT} (h : PT X c t) : PTs X [c] t := fun pins s σ H Q I q => wpAny_tests_one (h pins s σ H Q I q)
def tLC (fr : List Nat) (own : Nat) (wi : TI) (g : TG) (tc : TT) (te : TE) : TE := fun σ H Q => wi σ H fun J H1 => ∀ D, H1 D = none -> ∃ W : Nat -> Nat -> List V -> Hp -> Prop, (∃ m, W 0 m [] (upd H1 D (.lst []))) /\
  ∀ i m ys H2, H2 D = some (.lst ys) -> W i m ys H2 -> (J.stop i H2 /\ Q (.ref D) H2) \/ (J.go i H2 /\ ys.length < sizeLine /\ ∀ x H3, J.yld i H2 x H3 -> g x (compσ fr own σ) H3 fun σ4 H4 => tc σ4 H4 fun b H5 =>
    if b = true then te σ4 H5 fun y H6 => H6 D = some (.lst ys) /\ ∃ m', m' < m /\ W (i + 1) m' (ys ++ [y]) (upd H6 D (.lst (ys ++ [y]))) else H5 D = some (.lst ys) /\ ∃ m', m' < m /\ W (i + 1) m' ys H5)
theorem zfe {scope : Scope} {env : Env} {x : Str} (hn : ∀ y ∈ scope.names, y.2 ≠ .cell) {k : NameKind} (h : (relabel scope env).names.lookup x = some k) (hk : k = .cell \/ k = .free) : (x, NameKind.free) ∈ scope.names := by
  have m := lookup_mem h
  obtain ⟨⟨y, k'⟩, hy, e⟩ := List.mem_map.mp m
  dsimp only at e
  split at e
  · rename_i q
    rw [Bool.and_eq_true, Bool.and_eq_true] at q
    have q11 := beq_iff_eq.mp q.1.1
    cases e
    rw [q11] at hy
    exact hy
  · cases e
    rcases hk with rfl | rfl
    · exact absurd rfl (hn _ hy)
    · exact hy
theorem zic {scope : Scope} {env : Env} {x : Str} (h : scope.names.lookup x = some .free) : (relabel scope env).names.lookup x = some .cell \/ (relabel scope env).names.lookup x = some .free := by
  unfold relabel
  dsimp only
  generalize scope.names = l at h
  induction l with
  | nil => simp at h
  | cons p r ih =>
    obtain ⟨y, k⟩ := p
    rw [List.lookup_cons] at h
    rw [List.map_cons, ]
    split at h
    · rename_i q
      cases h
      dsimp only
      split
      · rw [List.lookup_cons, q]; exact .inl rfl
      · rw [List.lookup_cons, q]; exact .inr rfl
    · rename_i q
      dsimp only
      split
      · rw [List.lookup_cons, q]; exact ih h
      · rw [List.lookup_cons, q]; exact ih h
end L2
end
section
namespace L2
open PySem PySem.Spec PyProof.Rows Ex
section
variable {X : Cx} {pins : List (Addr × Obj)} {σ : St} {H : Hp} {s : Shared}
theorem Inv.block {scope : Scope} {Nc : List Str} {own : Nat} {fr : List Nat} {cl : List (Str × Addr)} {fp : List Addr} {h₁ : Heap} {t' : Nat} {E' : Value -> Shared -> Prop} (I : Inv X pins σ H s) (B : BlkN X scope Nc own fr) (cl0 : Clo X.env scope cl)
    (hfp : ∀ b ∈ fp, zfu X pins H b /\ ∃ o, s.heap.get? b = some o) (hns : h₁.Ns s.heap.objs.size (fun _ => none)) (keep : ∀ b o, s.heap.get? b = some o -> h₁.get? b = some o) :
    Inv (X.blk Nc scope cl s.heap.objs.size s H fp (X.pn ++ pins) E') [] (compσ fr own σ) H { s with heap := h₁, toks := t' } := by
  have lt : ∀ b ∈ fp, b < s.heap.objs.size := fun b hb => let ⟨_, _, e⟩ := hfp b hb; Heap.lt_size e
  have celllt : ∀ x c, X.env.cells.lookup x = some c -> c < s.heap.objs.size := fun x c e => let ⟨_, _, e, _⟩ := I.cell x c e; Heap.lt_size e
  refine ⟨⟨I.ok.mod, B.kind, I.ok.glob, I.ok.blt, Nat.le_refl _, fun x y c h1 h2 => I.ok.inj x y c (cl0.sub x c h1) (cl0.sub y c h2), fun x hx => ?_, (fun x c z => nomatch z), I.ok.hd, I.ok.frames, .inl rfl, fun b hb => ?_, I.bs, Nat.le_trans I.ok.bsz I.sz, fun b o e hb => ?_, fun b hb => ?_, I.stack, I.stkFree⟩,
    rfl, I.bare, Un.kept keep, ⟨_, hns, fun i x v e1 e2 e3 => ?_⟩, fun x c e => ?_, I.hok.fresh (Nat.le_refl _), fun x c e => I.freeC x c (cl0.sub x c e), fun p hp => ?_, I.hok.kept keep, ?_⟩
  · rcases hx with hx | hx
    · exact cl0.has x (zfe B.nocell hx (.inl rfl))
    · exact cl0.has x (zfe B.nocell hx (.inr rfl))
  · exact ⟨Nat.ne_of_lt (lt b hb), fun x c e z => (hfp b hb).1.2.2.2.2.1 x c (cl0.sub x c e) z⟩
  · -- a base object is no iterator of ours
    have e0 := I.ok.bs b o e
    rcases (hfp b hb).1.2.2.2.1 with z | z
    · exact I.ok.noex b o e z
    · exact absurd (Nat.lt_of_lt_of_le (Nat.lt_of_lt_of_le (Heap.lt_size e) I.ok.bsz) z) (Nat.lt_irrefl _)
  · intro z
    rcases List.mem_cons.mp (I.stkSub b z) with z | z
    · exact (hfp b hb).1.2.1 z
    · exact (hfp b hb).1.2.2.1 z
  · -- a slot
    unfold compσ at e2
    by_cases hi : i < own
    · rw [List.getElem?_append_left (by simpa using hi), List.getElem?_replicate, if_pos hi] at e2
      cases e2
    · have hge : own <= i := Nat.le_of_not_lt hi
      rw [List.getElem?_append_right (by simpa using hge), List.length_replicate, List.getElem?_map] at e2
      cases hj : fr[i - own]? with
      | none => rw [hj] at e2; cases e2
      | some j =>
        rw [hj] at e2
        have e2' : (σ[j]?).join = some v := by simpa using e2
        have e4 : σ[j]? = some (some v) := by
          cases q : σ[j]? with
          | none => rw [q] at e2'; cases e2'
          | some o => rw [q] at e2'; have : o = some v := e2'; rw [this]
        have e5 : Nc[own + (i - own)]? = some x := by rw [Nat.add_sub_cancel' hge]; exact e1
        obtain ⟨n1, n2, n3⟩ := B.free (i - own) j x hj e5
        obtain ⟨m, hn, hl⟩ := I.loc
        have vis : Vis X.env.scope x := n2.elim (fun z => .inr (.inl z)) fun z => .inr (.inr z)
        obtain ⟨u, r, l⟩ := hl j x v n1 e4 vis
        refine ⟨u, r, .inr ⟨zic n3, ?_⟩⟩
        rcases l with ⟨k, _⟩ | ⟨_, c, hc, hcell⟩
        · rcases n2 with n2 | n2
          · have k' : X.env.scope.names.lookup x = some .local := k
            rw [n2] at k'; cases k'
          · have k' : X.env.scope.names.lookup x = some .local := k
            rw [n2] at k'; cases k'
        · obtain ⟨c', hc'⟩ := cl0.has x (lookup_mem n3)
          have e6 := cl0.sub x c' hc'
          rw [hc] at e6
          cases e6
          obtain ⟨o, ho, hd⟩ := hcell
          exact ⟨c, hc', o, keep _ _ ho, hd⟩
  · obtain ⟨v, o, ho, hd⟩ := I.cell x c (cl0.sub x c e)
    exact ⟨v, o, keep _ _ ho, hd⟩
  · have hp' : p ∈ X.pn ++ pins := by simpa using hp
    obtain ⟨e, n, ne, nf, d⟩ := I.pin p hp'
    refine ⟨keep _ _ e, n, Nat.ne_of_lt (Heap.lt_size e), fun z => ?_, d⟩
    rcases List.mem_cons.mp (I.stkSub p.1 z) with z | z
    · exact ne z
    · exact nf z
  · show (compσ fr own σ).length = Nc.length
    unfold compσ
    rw [List.length_append, List.length_replicate, List.length_map, B.len]
theorem Inv.unblock {scope : Scope} {Nc : List Str} {cl : List (Str × Addr)} {fp : List Addr} {E' : Value -> Shared -> Prop} {pins' : List (Addr × Obj)} {σ' : St} {H' : Hp} {s' : Shared} {h' : Heap} (I : Inv X pins σ H s) (hfp : ∀ b ∈ fp, zfu X pins H b)
    (J : Inv (X.blk Nc scope cl s.heap.objs.size s H fp (X.pn ++ pins) E') pins' σ' H' s') (sb : Heap.SameBut s.heap.objs.size s'.heap h') : Inv X pins σ H' { s' with heap := h' } := by
  have ne : ∀ b o, s.heap.get? b = some o -> b ≠ s.heap.objs.size := fun b o e => Nat.ne_of_lt (Heap.lt_size e)
  have hC : H' s.heap.objs.size = none := J.free
  refine I.call' (s' := { s' with heap := h' }) (ch := fp) J.os ⟨fun b o e n hb hx => ?_, fun b o e n hb hx => ?_, J.base.free, fun b o e hx => ?_, J.base.tups, J.base.frzs, J.base.tbls⟩ (fun b u e => ?_) J.bare fun b hb => ?_
  · exact (sb.2 b (ne b o e)).trans (J.base.keep b o e n hb hx)
  · obtain ⟨sl, z⟩ := J.base.slot b o e n hb hx
    exact ⟨sl, (sb.2 b (ne b o e)).trans z⟩
  · obtain ⟨o', z⟩ := J.base.there b o e hx
    exact ⟨o', (sb.2 b (ne b o e)).trans z⟩
  · refine (J.hok b u e).stay (fun c v hc q => (sb.2 c ?_).trans q) (fun _ q => q) fun _ _ q => q
    rintro rfl
    rcases hc with rfl | hc
    · rw [hC] at e; cases e
    · rw [hC] at hc; cases hc
  · obtain ⟨f0, f1, f2, f3, f4, f5⟩ := hfp b hb
    exact ⟨f3, f1, f4, f5⟩
def zlc (own : Nat) (g : TG) : Prop := ∀ (x : V) (σ : St) (H : Hp) (Q : St -> Hp -> Prop), g x σ H Q -> g x σ H fun σ' H' => Q σ' H' /\ ∀ k, own <= k -> σ'[k]? = σ[k]?
theorem zfh {own i : Nat} (h : i < own) : zlc own (zhe i) := fun x σ H Q q => ⟨q, fun k hk => List.getElem?_set_ne (by omega)⟩
end
end L2
end
section
namespace L2
open PySem PySem.Spec PyProof.Rows Ex
section
variable {X : Cx} {pins : List (Addr × Obj)} {σ : St} {H : Hp} {s : Shared}
theorem zj9 {elt tg iter : Expr} {ifs : List Expr} {scope : Scope} {pos fpos : Pos} {Nc : List Str} {own : Nat} {fr : List Nat} {wi : TI} {g : TG} {tc : TT} {te : TE} {use : Option (Value -> Sem Unit)} {QQ : Value -> Shared -> Prop} {Q : VK} (hc : X.calm = true) (B : BlkN X scope Nc own fr) (hi : PI X tg iter wi) (hog : zlc own g)
    (hg : ∀ cl C s3 H3 fp pn', PG (X.blk Nc scope cl C s3 H3 fp pn' fun _ _ => False) tg g) (ht : ∀ cl C s3 H3 fp pn', PTs (X.blk Nc scope cl C s3 H3 fp pn' fun _ _ => False) ifs tc) (he : ∀ cl C s3 H3 fp pn', PE (X.blk Nc scope cl C s3 H3 fp pn' fun _ _ => False) elt te)
    (hs : ∀ x, foldedSetIterable iter X.env x = pure x) (I : Inv X pins σ H s) (h : tLC fr own wi g tc te σ H Q)
    (fin : ∀ (D C : Addr) (H3 : Hp) (s4 : Shared), (∃ m, s4.heap.Ns C m) -> zfu X pins H3 C -> (∀ h', Heap.SameBut C s4.heap h' -> Inv X pins σ H3 { s4 with heap := h' }) -> Q (.ref D) H3 -> compPost (model X.prog X.w) X.A X.xe use QQ (.ref D) C (.ok .next) s4) :
    wpAny (model X.prog X.w) X.A (comprehension (.ListComp elt [⟨tg, iter, ifs, 0⟩] scope pos) scope X.env fpos (newList []) false (eval iter X.env) use) QQ X.xe s := by
  obtain ⟨cl, cl0⟩ := zpw (env := X.env) (scope := scope) fun x hx => I.ok.has x (B.frees x hx)
  apply wpAny_comprehension_free rfl hs cl0.clos B.kind B.names
  apply wpAny_mono (hi pins s σ H _ I h) _ fun _ _ e => e
  intro xv s1 h1
  apply wpAny_mono h1 _ fun _ _ e => e
  intro itv s2 h2
  obtain ⟨it, fp, tn, J, H2, rfl, I2, T, st2, f2, q⟩ := h2
  refine wpAny_newObj_type (wpAny_newFunctionEnv B.nocell (by intro y hy; simp at hy) (fun h₁ hns₁ hsb₁ => ?_) B.kind)
  have hD : H2 s2.heap.objs.size = none := I2.hok.fresh (Nat.le_refl _)
  obtain ⟨W, ⟨m0, w0⟩, turn⟩ := q s2.heap.objs.size hD
  have I3 : Inv X pins σ (upd H2 s2.heap.objs.size (.lst [])) { s2 with heap := s2.heap.push { cls := .type "list", dict := none, data := .seq ([] : List Value).toArray } } :=
    I2.laid (t' := s2.toks) (fun b u e => Heap.get?_push_of_some _ e) (Nat.le_refl _) ⟨Nat.zero_le _, [], 0, .nil, Heap.get?_push_size _ rfl⟩
  have fpne : ∀ b ∈ fp, b ≠ s2.heap.objs.size := fun b hb => let ⟨o, e, _⟩ := T.obj _ _ st2 b hb; Nat.ne_of_lt (Heap.lt_size e)
  have f3 : ∀ b ∈ fp, zfu X pins (upd H2 s2.heap.objs.size (.lst [])) b := fun b hb => ⟨by rw [zay (fpne b hb)]; exact (f2 b hb).1, (f2 b hb).2⟩
  have keep : ∀ b o, (s2.heap.push { cls := .type "list", dict := none, data := .seq ([] : List Value).toArray }).get? b = some o -> h₁.get? b = some o := fun b o e =>
    (hsb₁.2 b (Nat.ne_of_lt (Heap.lt_size e))).trans (Heap.get?_push_of_some _ e)
  have IY := I3.block (h₁ := h₁) (t' := s2.toks + ([] : List (Str × Value)).length) (E' := fun _ _ => False) B cl0 (fun b hb => ⟨f3 b hb, let ⟨o, e, _⟩ := T.obj _ _ st2 b hb; ⟨o, Heap.get?_push_of_some _ e⟩⟩) hns₁ keep
  have st1 : tn 0 h₁ := T.keep _ _ _ st2 fun b hb o e => keep b o (Heap.get?_push_of_some _ e)
  have fY : ∀ {H' : Hp}, (∀ b ∈ fp, H' b = none) -> ∀ b ∈ fp, zfu (X.blk Nc scope cl (s2.heap.push { cls := .type "list", dict := none, data := .seq ([] : List Value).toArray }).objs.size { s2 with heap := s2.heap.push { cls := .type "list", dict := none, data := .seq ([] : List Value).toArray } } (upd H2 s2.heap.objs.size (.lst [])) fp (X.pn ++ pins) fun _ _ => False) [] H' b := fun hn b hb =>
    ⟨hn b hb, (IY.ok.exf b hb).1, IY.ok.exfs b hb, .inl hb, (IY.ok.exf b hb).2, fun p hp => (f2 b hb).2.2.2.2.2 p (by simpa using hp)⟩
  have loop : codeAny (model X.prog X.w) X.A (.compLoop (.ListComp elt [⟨tg, iter, ifs, 0⟩] scope pos) 0 (.ref it) (.ref s2.heap.objs.size) (compEnvC scope cl (s2.heap.push { cls := .type "list", dict := none, data := .seq ([] : List Value).toArray }).objs.size X.env))
      (compPost (model X.prog X.w) X.A X.xe use QQ (.ref s2.heap.objs.size) (s2.heap.push { cls := .type "list", dict := none, data := .seq ([] : List Value).toArray }).objs.size) { s2 with heap := h₁, toks := s2.toks + ([] : List (Str × Value)).length } := by
    refine zlo (fun n s' => ∃ i ys H', Inv (X.blk Nc scope cl (s2.heap.push { cls := .type "list", dict := none, data := .seq ([] : List Value).toArray }).objs.size { s2 with heap := s2.heap.push { cls := .type "list", dict := none, data := .seq ([] : List Value).toArray } } (upd H2 s2.heap.objs.size (.lst [])) fp (X.pn ++ pins) fun _ _ => False) [] (compσ fr own σ) H' s' /\ tn i s'.heap /\ (∀ b ∈ fp, H' b = none) /\ H' s2.heap.objs.size = some (.lst ys) /\ W i n ys H')
      m0 ⟨0, [], _, IY, st1, fun b hb => (f3 b hb).1, za3, w0⟩ ?_
    rintro n s3 ⟨i, ys, H3, J3, st3, fr3, e3, w3⟩
    rcases turn i n ys H3 e3 w3 with ⟨stop, qn⟩ | ⟨go, hlen, step⟩
    · refine thn (T.done (X.blk Nc scope cl (s2.heap.push { cls := .type "list", dict := none, data := .seq ([] : List Value).toArray }).objs.size { s2 with heap := s2.heap.push { cls := .type "list", dict := none, data := .seq ([] : List Value).toArray } } (upd H2 s2.heap.objs.size (.lst [])) fp (X.pn ++ pins) fun _ _ => False) rfl rfl rfl hc i [] s3 _ H3 _ J3 (fY fr3) st3 stop) fun r s4 ⟨hr, J4⟩ => ?_
      subst hr
      obtain ⟨m, hn, _⟩ := J4.loc
      exact fin _ _ H3 s4 ⟨m, hn⟩ (I3.fpOk (Nat.le_refl _) J4.free) (fun h' sb => I3.unblock f3 J4 sb) qn
    · refine thn (T.item (X.blk Nc scope cl (s2.heap.push { cls := .type "list", dict := none, data := .seq ([] : List Value).toArray }).objs.size { s2 with heap := s2.heap.push { cls := .type "list", dict := none, data := .seq ([] : List Value).toArray } } (upd H2 s2.heap.objs.size (.lst [])) fp (X.pn ++ pins) fun _ _ => False) rfl rfl rfl hc i [] s3 _ H3 _ J3 (fY fr3) st3 go) fun r s4 ⟨u, hr, h4⟩ => ?_
      subst hr
      refine thn h4 fun _ s5 ⟨x, H5, J5, r5, y5, st5, fr5⟩ => ?_
      have J5' := J5.pinned (fY fr5) (T.obj _ _ st5)
      have lift : ∀ {α : Type} {m : Sem α} {Q' : α -> Shared -> Prop} {E' : Value -> Shared -> Prop} {s' : Shared}, wpAny (model X.prog X.w) X.A m Q' (fun _ _ => False) s' -> wpAny (model X.prog X.w) X.A m Q' E' s' := fun h => wpAny_mono h (fun _ _ z => z) fun _ _ z => z.elim
      refine lift (thn (hg _ _ _ _ _ _ _ s5 _ H5 x u _ J5' r5 (hog _ _ _ _ (step x H5 y5))) fun _ s6 ⟨σ6, H6, J6, q6, hσ6⟩ => ?_)
      refine lift (thn (ht _ _ _ _ _ _ _ s6 σ6 H6 _ J6 q6) fun b s7 ⟨H7, J7, q7⟩ => ?_)
      have back : ∀ {H8 : Hp} {s8 : Shared} {ys' : List V} {m' : Nat}, Inv (X.blk Nc scope cl (s2.heap.push { cls := .type "list", dict := none, data := .seq ([] : List Value).toArray }).objs.size { s2 with heap := s2.heap.push { cls := .type "list", dict := none, data := .seq ([] : List Value).toArray } } (upd H2 s2.heap.objs.size (.lst [])) fp (X.pn ++ pins) fun _ _ => False) ([] ++ zgy fp s5.heap) σ6 H8 s8 -> H8 s2.heap.objs.size = some (.lst ys') -> m' < n -> W (i + 1) m' ys' H8 ->
          ∃ m, m < n /\ ∃ i ys H', Inv (X.blk Nc scope cl (s2.heap.push { cls := .type "list", dict := none, data := .seq ([] : List Value).toArray }).objs.size { s2 with heap := s2.heap.push { cls := .type "list", dict := none, data := .seq ([] : List Value).toArray } } (upd H2 s2.heap.objs.size (.lst [])) fp (X.pn ++ pins) fun _ _ => False) [] (compσ fr own σ) H' s8 /\ tn i s8.heap /\ (∀ b ∈ fp, H' b = none) /\ H' s2.heap.objs.size = some (.lst ys) /\ W i m ys H' := fun {H8 s8 ys' m'} J8 e8 hm w8 => by
        refine ⟨m', hm, i + 1, ys', H8, ?_, T.keep _ _ _ st5 fun b hb o e => (J8.pin (b, o) (List.mem_append_right _ (List.mem_append_right _ (zdB hb e)))).1, fun b hb => ?_, e8, w8⟩
        · refine (Inv.unpinned (pins := []) J8).weak ?_ fun j v' z => ?_
          · rw [IY.len]; exact J8.len.symm
          · by_cases hj : j < own
            · unfold compσ at z
              rw [List.getElem?_append_left (by simpa using hj), List.getElem?_replicate, if_pos hj] at z
              cases z
            · rw [hσ6 j (Nat.le_of_not_lt hj)]; exact z
        · obtain ⟨o, e, d⟩ := T.obj _ _ st5 b hb
          exact (J8.pin (b, o) (List.mem_append_right _ (List.mem_append_right _ (zdB hb e)))).2.1
      cases b with
      | false =>
        obtain ⟨e7, m', hm, w7⟩ := (show H7 s2.heap.objs.size = some (.lst ys) /\ ∃ m', m' < n /\ W (i + 1) m' ys H7 from by simpa using q7)
        exact back J7 e7 hm w7
      | true =>
        have q7' : te σ6 H7 fun y H6 => H6 s2.heap.objs.size = some (.lst ys) /\ ∃ m', m' < n /\ W (i + 1) m' (ys ++ [y]) (upd H6 s2.heap.objs.size (.lst (ys ++ [y]))) := by simpa using q7
        refine lift (thn (he _ _ _ _ _ _ _ s7 σ6 H7 _ J7 q7') fun v s8 ⟨y, H8, J8, r8, e8, m', hm, w8⟩ => ?_)
        refine lift (thn (zfx _ s8 σ6 H8 (.ref s2.heap.objs.size) [y] (.ref s2.heap.objs.size) [v] (fun _ H9 => H9 = upd H8 s2.heap.objs.size (.lst (ys ++ [y]))) J8 rfl (.cons r8 .nil) ⟨_, ys, y, rfl, rfl, e8, hlen, rfl⟩) fun _ s9 ⟨_, H9, J9, _, e9⟩ => ?_)
        subst e9
        exact back J9 za3 hm w8
  exact codeAny_compStart_list loop (T.self _ _ _ _ _ st1 loop)
theorem zrn {elt tg iter : Expr} {ifs : List Expr} {scope : Scope} {pos : Pos} {Nc : List Str} {own : Nat} {fr : List Nat} {wi : TI} {g : TG} {tc : TT} {te : TE} (hc : X.calm = true) (B : BlkN X scope Nc own fr) (hi : PI X tg iter wi) (hog : zlc own g)
    (hg : ∀ cl C s3 H3 fp pn', PG (X.blk Nc scope cl C s3 H3 fp pn' fun _ _ => False) tg g) (ht : ∀ cl C s3 H3 fp pn', PTs (X.blk Nc scope cl C s3 H3 fp pn' fun _ _ => False) ifs tc) (he : ∀ cl C s3 H3 fp pn', PE (X.blk Nc scope cl C s3 H3 fp pn' fun _ _ => False) elt te)
    (hs : ∀ x, foldedSetIterable iter X.env x = pure x := by intro _; rfl) : PE X (.ListComp elt [⟨tg, iter, ifs, 0⟩] scope pos) (tLC fr own wi g tc te) := by
  intro pins s σ H Q I h
  rw [eval_ListComp]
  exact zj9 (QQ := EP X pins σ Q) hc B hi hog hg ht he hs I h fun L C H3 s4 hn f unb q => let ⟨m, hm⟩ := hn; ⟨m, hm, fun h' sb => ⟨.ref L, H3, unb h' sb, rfl, q⟩⟩
theorem znn {elt tg iter : Expr} {ifs : List Expr} {scope : Scope} {pos py spos : Pos} {Nc : List Str} {own i : Nat} {fr : List Nat} {wi : TI} {g : TG} {tc : TT} {te : TE} {y : Str} (hN : X.N.Nodup) (hi' : X.N[i]? = some y) (hx : Loc X.env.scope y) (hc : X.calm = true) (B : BlkN X scope Nc own fr) (hi : PI X tg iter wi) (hog : zlc own g)
    (hg : ∀ cl C s3 H3 fp pn', PG (X.blk Nc scope cl C s3 H3 fp pn' fun _ _ => False) tg g) (ht : ∀ cl C s3 H3 fp pn', PTs (X.blk Nc scope cl C s3 H3 fp pn' fun _ _ => False) ifs tc) (he : ∀ cl C s3 H3 fp pn', PE (X.blk Nc scope cl C s3 H3 fp pn' fun _ _ => False) elt te)
    (hs : ∀ x, foldedSetIterable iter X.env x = pure x := by intro _; rfl) (hsw : swapsWith (.ListComp elt [⟨tg, iter, ifs, 0⟩] scope pos) (some (.Name y py)) spos.line X.env = pure true := by rfl)
    (hf : X.fn y = true \/ X.env.scope.names.lookup y = some .local := by first | exact .inl rfl | exact .inr rfl | assumption) :
    PS X (.Assign [.Name y py] (.ListComp elt [⟨tg, iter, ifs, 0⟩] scope pos) spos) (zlL (tLC fr own wi g tc te) (zhe i)) := by
  intro pins s σ H D I h
  rw [exec_Assign_Name_used (hs := hsw)]
  apply wpAny_bind; apply wpAny_standAt; apply wpAny_bind
  change wpAny _ _ (comprehension (.ListComp elt [⟨tg, iter, ifs, 0⟩] scope pos) scope X.env _ (newList []) false (eval iter X.env) (some (assign (.Name y py) X.env)) >>= fun _ => pure ()) _ _ _
  apply wpAny_bind
  refine wpAny_mono (zj9 (QQ := fun _ s' => SP X pins D .next s') hc B hi hog hg ht he hs I h (fun L C H3 s4 hn f unb q => ?_)) (fun _ s' q => wpAny_pure (wpAny_pure q)) fun _ _ e => e
  obtain ⟨m, o, es, ep, ho, hd, r⟩ := hn
  have I4 : Inv X pins σ H3 s4 := unb s4.heap (Heap.SameBut.refl _ _)
  obtain ⟨f0, f1, f2, f3, f4, f5⟩ := f
  have I5 : Inv X ((C, o) :: pins) σ H3 s4 := I4.pins_of fun p hp => by
    rcases List.mem_cons.mp hp with e | e
    · subst e; exact ⟨ho, f0, f1, f2, fun v z => by rw [hd] at z; cases z⟩
    · exact I4.pin p (List.mem_append_right _ e)
  show wpAny _ _ (assign (.Name y py) X.env (.ref L)) _ _ _
  apply wpAny_assign_Name
  apply zfb I5 hN hi' hx (v := .ref L) rfl _ hf
  intro s5 I6
  have hC := (I6.pin (C, o) (List.mem_append_right _ (List.mem_cons_self ..))).1
  refine ⟨m, ⟨o, es, ep, hC, hd, r⟩, fun h' sb => ⟨_, H3, ?_, q⟩⟩
  have I7 : Inv X pins (σ.set i (some (.ref L))) H3 s5 := I6.pins_of fun p hp => I6.pin p (List.mem_append_right _ (List.mem_cons_of_mem _ hp))
  exact I7.turned (t' := s5.toks) (fun b o hb e => (sb.2 b hb).trans e) f0 f1 f3 f4 f5
end
end L2
end
section
namespace L2
open PySem PySem.Spec PyProof.Rows Ex
section
variable {X : Cx}
theorem zhA {y : V} : ∀ {xs : List V} {us : List Value}, Vals xs us -> xs.all zcy = true -> us.countP (eqU y) = xs.countP fun z => eqV z y
  | _, _, .nil, _ => rfl
  | _, _, .cons r t, h => by
    have h := Bool.and_eq_true_iff.mp ((List.all_cons ..).symm.trans h)
    rw [List.countP_cons, List.countP_cons, zhA t h.2, zhJ r h.1]
def znH : V -> List V -> Hp -> VK -> Prop := fun x vs H Q => ∃ l xs y, x = .ref l /\ vs = [y] /\ H l = some (.lst xs) /\ zcy y = true /\ xs.all zcy = true /\ Q (.int (xs.countP fun z => eqV z y)) H
theorem zme : MtR X "list.count" znH := by
  intro pins s σ H x vs v us Q I rx rv h
  obtain ⟨l, xs, y, rfl, rfl, hH, fy, fx, q⟩ := h
  cases rx
  obtain ⟨u, rfl, ru⟩ := rv.one
  obtain ⟨z, its, n, r, hl, e⟩ := I.lstM hH
  refine call_meets (s := s) F.slot_list_count (show s.TypeIs (.ref l) "list" from ⟨_, e, rfl⟩) F.entry_list_count (F.args_list_count_2 _ _) (SeqAt.list_countAt l its.toArray n none #[] u (eqU y)) ?_
  refine ⟨e, fun w hw => zcZ ru fy r fx w (by simpa using hw), ?_⟩
  refine ⟨.int (xs.countP fun z => eqV z y), H, I.tok _, ⟨s.toks, ?_⟩, q⟩
  rw [<- zhA r fx]
def zmu : V -> List V -> Hp -> VK -> Prop := fun x vs H Q => ∃ l xs y j, x = .ref l /\ vs = [y] /\ H l = some (.lst xs) /\ zcy y = true /\ xs.all zcy = true /\ (∃ w, xs[j]? = some w /\ eqV w y = true) /\ (∀ (m : Nat) w, m < j -> xs[m]? = some w -> eqV w y = false) /\ j < 1000 /\ Q (.int j) H
theorem zl2 {y : V} {xs : List V} {us : List Value} (r : Vals xs us) (f : xs.all zcy = true) {m : Nat} {w : V} (h : xs[m]? = some w) : ∃ hm : m < us.length, eqU y us[m] = eqV w y := by
  obtain ⟨u, hu, ru⟩ := r.get h
  obtain ⟨hm, e⟩ := List.getElem?_eq_some_iff.mp hu
  exact ⟨hm, by rw [e]; exact zhJ ru (List.all_eq_true.mp f w (List.mem_of_getElem? h))⟩
theorem ziW : MtR X "list.index" zmu := by
  intro pins s σ H x vs v us Q I rx rv h
  obtain ⟨l, xs, y, j, rfl, rfl, hH, fy, fx, ⟨w, hw, hit⟩, no, small, q⟩ := h
  cases rx
  obtain ⟨u, rfl, ru⟩ := rv.one
  obtain ⟨z, its, n, r, hl, e⟩ := I.lstM hH
  obtain ⟨hj, ej⟩ := zl2 (y := y) r fx hw
  refine call_meets (s := s) F.slot_list_index (show s.TypeIs (.ref l) "list" from ⟨_, e, rfl⟩) F.entry_list_index (F.args_list_index_2 _ _) (SeqAt.list_indexAt l its.toArray n none #[] u (eqU y) j (by simpa using hj) (by omega) (by simpa [hit] using ej) ?_) ?_
  case refine_2 => exact ⟨e, fun w hw => zcZ ru fy r fx w (by simpa using hw), .int j, H, I.tok _, ⟨s.toks, rfl⟩, q⟩
  case refine_1 =>
    intro m hm lt
    have hm' : m < xs.length := by rw [r.length]; simpa using hm
    obtain ⟨_, em⟩ := zl2 (y := y) r fx (List.getElem?_eq_getElem hm')
    have := no m _ lt (List.getElem?_eq_getElem hm')
    simpa [this] using em
mutual
inductive DatV (H : Hp) : V -> PyData -> Prop
  | non : DatV H .non .none
  | bl (b : Bool) : DatV H (.bl b) (.bool b)
  | int (i : Int) : DatV H (.int i) (.int i)
  | str (x : Str) : DatV H (.str x) (.str x)
  | lst {a : Addr} {xs : List V} {ds : List PyData} : H a = some (.lst xs) -> DatsV H xs ds -> DatV H (.ref a) (.list ds)
  | tup {a : Addr} {xs : List V} {ds : List PyData} : H a = some (.tup xs) -> DatsV H xs ds -> DatV H (.ref a) (.tuple ds)
inductive DatsV (H : Hp) : List V -> List PyData -> Prop
  | nil : DatsV H [] []
  | cons {x : V} {d : PyData} {xs : List V} {ds : List PyData} : DatV H x d -> DatsV H xs ds -> DatsV H (x :: xs) (d :: ds)
end
mutual
theorem DatV.reads {P : Program} {w : World} {H : Hp} {h : Heap} (ok : HOk P w H h) : ∀ {x : V} {d : PyData} {u : Value}, DatV H x d -> RelV x u -> ∃ as, Reads h u d as
  | _, _, _, .non, r => by cases r; exact ⟨_, .none⟩
  | _, _, _, .bl b, r => by cases r; exact ⟨_, .bool b⟩
  | _, _, _, .int i, r => by obtain ⟨t, rfl⟩ := r; exact ⟨_, .int i t⟩
  | _, _, _, .str x, r => by obtain ⟨t, rfl⟩ := r; exact ⟨_, .str x t⟩
  | _, _, _, .lst e D, r => by
    cases r
    obtain ⟨_, its, n, rv, q⟩ := ok _ _ e
    obtain ⟨as, R⟩ := DatsV.reads ok D rv
    exact ⟨_, .list q rfl rfl R⟩
  | _, _, _, .tup e D, r => by
    cases r
    obtain ⟨_, its, rv, o, q, c, n, d⟩ := ok _ _ e
    obtain ⟨as, R⟩ := DatsV.reads ok D rv
    exact ⟨_, .tuple q c d R⟩
theorem DatsV.reads {P : Program} {w : World} {H : Hp} {h : Heap} (ok : HOk P w H h) : ∀ {xs : List V} {ds : List PyData} {us : List Value}, DatsV H xs ds -> Vals xs us -> ∃ as, ReadsAll h us ds as
  | _, _, _, .nil, r => by cases r; exact ⟨_, .nil⟩
  | _, _, _, .cons a b, r => by
    cases r with
    | cons r1 r2 =>
      obtain ⟨_, R1⟩ := DatV.reads ok a r1
      obtain ⟨_, R2⟩ := DatsV.reads ok b r2
      exact ⟨_, .cons R1 R2⟩
end
theorem zez {k : Nat} (hr : Room k X.A) : CallR X (.builtin "repr") (fun xs H Q => ∃ (a : Addr) (d : PyData), xs = [.ref a] /\ DatV H (.ref a) d /\ d.showable = true /\ d.hasDict = false /\ d.depth <= 50 /\ d.shown.length <= sizeLine /\ Q (.str d.shown) H) := by
  intro pins s σ H xs us Q I r h
  obtain ⟨a, d, rfl, D, sh, nd, dp, sz, q⟩ := h
  obtain ⟨u, rfl, ru⟩ := r.one
  cases ru
  obtain ⟨as, R⟩ := D.reads I.hok (u := .ref a) rfl
  have un := hr.units
  exact repr_of_reads' R sh (fun z => by rw [nd] at z; cases z) hr.gd (by omega) (fun _ _ z => z) (fun h' u tk kp => ⟨.str d.shown, H, I.kept kp, ⟨u, rfl⟩, q⟩) sz
end
end L2
end
section
namespace Ex
open PySem PySem.Spec PyProof.Rows PySem.Calls Builtin.SmallTypes
section
variable {prog : Program} {w : World} {A : Around} {E : Value -> Shared -> Prop} {s : Shared} {z TI TO i1 i2 : Addr} {f1 f2 : List Addr} {xs ys : Array Value} {S1 S2 : Nat -> Heap -> Prop}
end
end Ex
end
section
namespace L2
open PySem PySem.Spec PyProof.Rows Ex
section
variable {X : Cx} {pins : List (Addr × Obj)} {σ : St} {H : Hp} {s : Shared} {h' : Heap} {fp : List Addr}
theorem Inv.turnedAll {t' : Nat} (I : Inv X pins σ H s) (k : ∀ b o, b ∉ fp -> s.heap.get? b = some o -> h'.get? b = some o) (hf : ∀ b ∈ fp, zfu X pins H b) : Inv X pins σ H { s with heap := h', toks := t' } := by
  have apart : ∀ b u, H b = some u -> b ∉ fp := fun b u e z => by have q := (hf b z).1; rw [e] at q; cases q
  refine I.step (g' := s.gens) (d' := s.drawn) (ch := fp) (fun b hb => ?_) (fun b o _ _ hc e _ => k b o hc e) (fun b o _ _ hc e _ => ⟨o.slots, k b o hc e⟩) (fun _ _ _ _ n => n) (fun b o hc e => ⟨o, k b o hc e⟩) (fun _ _ e => e) (fun _ _ _ e => e) (fun b ps e => ⟨#[], by rw [e]; simp⟩) (fun m hm => ?_) (fun b u e => ?_) I.bare
  · obtain ⟨_, f1, _, f3, f4, f5⟩ := hf b hb
    exact ⟨f3, f1, f4, f5⟩
  · obtain ⟨o, es, ep, ho, r⟩ := hm
    exact ⟨o, es, ep, k _ o (fun z => (hf _ z).2.1 rfl) ho, r⟩
  · apply (I.hok b u e).stay (h' := h') (H' := H) _ (fun _ q => q) (fun _ _ q => q)
    intro c v hc q
    cases hc with
    | inl z => exact k c v (by rw [z]; exact apart b u e) q
    | inr z => exact k c v (apart c _ z) q
theorem Inv.turnedNew {t' : Nat} {a : Addr} {o : HO} (I : Inv X pins σ H s) (k : ∀ b o, b ∉ fp -> s.heap.get? b = some o -> h'.get? b = some o) (hf : ∀ b ∈ fp, zfu X pins H b) (ha : s.heap.objs.size <= a) (new : ObjOk X.prog X.w (upd H a o) h' a o) : Inv X pins σ (upd H a o) { s with heap := h', toks := t' } := by
  have apart : ∀ b u, H b = some u -> b ∉ fp := fun b u e z => by have q := (hf b z).1; rw [e] at q; cases q
  have fr : H a = none := I.hok.fresh ha
  have old : ∀ b u, H b = some u -> upd H a o b = some u := fun b u e => by rw [zay (zaQ e fr)]; exact e
  refine I.step (g' := s.gens) (d' := s.drawn) (ch := fp) (fun b hb => ?_) (fun b o _ _ hc e _ => k b o hc e) (fun b o _ _ hc e _ => ⟨o.slots, k b o hc e⟩) (fun b u _ e n => ?_) (fun b o hc e => ⟨o, k b o hc e⟩) (fun b xs e => old b _ e) (fun b o u e => old b _ e) (fun b ps e => ⟨#[], by rw [old b _ e]; simp⟩) (fun m hm => ?_) (fun b u e => ?_) I.bare
  · obtain ⟨_, f1, _, f3, f4, f5⟩ := hf b hb
    exact ⟨f3, f1, f4, f5⟩
  · have lt : b < s.heap.objs.size := Heap.lt_size e
    rw [zay (Nat.ne_of_lt (Nat.lt_of_lt_of_le lt ha))]; exact n
  · obtain ⟨o, es, ep, ho, r⟩ := hm
    exact ⟨o, es, ep, k _ o (fun z => (hf _ z).2.1 rfl) ho, r⟩
  · by_cases hb : b = a
    · subst hb; rw [za3] at e; cases e; exact new
    · rw [zay hb] at e
      apply (I.hok b u e).stay (h' := h') (H' := upd H a o) _ (fun c q => old c _ q) (fun c xs q => old c _ q)
      intro c v hc q
      cases hc with
      | inl z => exact k c v (by rw [z]; exact apart b u e) q
      | inr z => exact k c v (apart c _ z) q
end
end L2
namespace Ex
open PySem PySem.Spec PyProof.Rows PySem.Calls Builtin.SmallTypes
section
variable {prog : Program} {w : World} {A : Around} {E : Value -> Shared -> Prop} {s : Shared} {z TI TO i1 i2 l1 : Addr} {f2 : List Addr} {xs : Array Value}
end
end Ex
end
section
namespace Ex
open PySem PySem.Spec PyProof.Rows PySem.Calls Builtin.SmallTypes
end Ex
end
section
namespace L2
open PySem PySem.Spec PyProof.Rows Ex
section
variable {X : Cx}
end
end L2
end
section
namespace L2
open PySem PySem.Spec PyProof.Rows Ex
section
variable {X : Cx}
def zqb : R2 := fun x y H Q => ∃ d e, DatV H x d /\ DatV H y e /\ SeqAt.shaped d = true /\ SeqAt.shaped e = true /\ Q (.bl (PyData.eqv d e)) H
def zqw : R2 := fun x y H Q => ∃ d e, DatV H x d /\ DatV H y e /\ SeqAt.shaped d = true /\ SeqAt.shaped e = true /\ Q (.bl (!PyData.eqv d e)) H
theorem zlB {k : Nat} (hr : Room k X.A) : OpR X (compareOp .Eq) zqb := by
  intro pins s σ H x y v u Q I rx ry h
  obtain ⟨d, e, hd, he, sd, se, q⟩ := h
  obtain ⟨as, ra⟩ := hd.reads I.hok rx
  obtain ⟨bs, rb⟩ := he.reads I.hok ry
  exact SeqAt.compareEq_shaped ra rb sd se hr.units ⟨.bl _, H, I, rfl, q⟩
theorem zlg {k : Nat} (hr : Room k X.A) : OpR X (compareOp .NotEq) zqw := by
  intro pins s σ H x y v u Q I rx ry h
  obtain ⟨d, e, hd, he, sd, se, q⟩ := h
  obtain ⟨as, ra⟩ := hd.reads I.hok rx
  obtain ⟨bs, rb⟩ := he.reads I.hok ry
  exact SeqAt.compareNe_shaped ra rb sd se hr.units ⟨.bl _, H, I, rfl, q⟩
end
def Ite (l : Addr) : It where
  go := fun i H => ∃ xs x, H l = some (.lst xs) /\ xs[i]? = some x
  yld := fun i H v H' => ∃ p xs x, v = .ref p /\ H p = none /\ H' = upd H p (.tup [.int i, x]) /\ H l = some (.lst xs) /\ xs[i]? = some x
  stop := fun i H => ∃ xs, H l = some (.lst xs) /\ xs.length <= i
def efp (n : Addr) : List Addr := [n + 1, n]
theorem mem_efp {n b : Addr} : b ∈ efp n ↔ b = n + 1 \/ b = n := by simp [efp]
def etn (n l : Addr) (i : Nat) (h : Heap) : Prop := ∃ old, IsEnum h (n + 1) n i old /\ h.IsListIter n l i
theorem zlq {P : Program} {w : World} {K : PySem.W.Frag} {es : List Expr} {x1} {pos : Pos} (l n : Addr) : Turn P w K (.Tuple es x1 pos) (Ite l) (efp n) (n + 1) (etn n l) where
  mem := by simp [efp]
  obj := fun i h st b hb => by
    obtain ⟨old, he, ⟨o, e, c, d⟩⟩ := st
    rcases mem_efp.mp hb with z | z <;> subst z
    · exact ⟨_, he, fun v z => nomatch z⟩
    · exact ⟨_, e, fun v z => by rw [d] at z; cases z⟩
  keep := fun i h h' st k => by
    obtain ⟨old, he, ⟨o, e, r⟩⟩ := st
    exact ⟨old, k _ (mem_efp.mpr (.inl rfl)) _ he, ⟨o, k _ (mem_efp.mpr (.inr rfl)) _ e, r⟩⟩
  item := by
    intro X hP hw hK hc i pins s σ H E I hf st hg
    subst hP hw hK
    obtain ⟨xs, x, q1, hx⟩ := hg
    obtain ⟨old, he, st1⟩ := st
    have ne : n + 1 ≠ n := Nat.succ_ne_self n
    obtain ⟨us, r1, p1, z1⟩ := I.list (SqL.of q1)
    obtain ⟨u, hu, ru⟩ := r1.get hx
    have new : ∀ b ∈ efp n, b < s.heap.objs.size := fun b hb => by
      rcases mem_efp.mp hb with e | e <;> subst e
      · exact Heap.lt_size he
      · obtain ⟨_, e, _⟩ := st1; exact Heap.lt_size e
    apply wpAny_pyNext_enum_item he st1 p1.isList (x := u) (by simpa using hu) ne
    intro h1 ho1 s1 np sz kept
    refine ⟨_, rfl, wpAny_letOwnedTupleGo_enum ho1 fun h2 he2 sb => ?_⟩
    have k2 : ∀ b o, b ∉ efp n -> s.heap.get? b = some o -> h2.get? b = some o := fun b o hb e => by
      rw [mem_efp] at hb
      exact sb.extBut _ _ (fun z => hb (.inl z)) (kept b o (fun z => hb (.inl z)) (fun z => hb (.inr z)) e)
    have fr : H s.heap.objs.size = none := I.hok.fresh (Nat.le_refl _)
    have nz : s.heap.objs.size ≠ n + 1 := fun e => absurd (new (n + 1) (mem_efp.mpr (.inl rfl))) (by rw [e]; exact Nat.lt_irrefl _)
    refine ⟨.ref s.heap.objs.size, upd H s.heap.objs.size (.tup [.int i, x]), I.turnedNew (t' := s.toks + 1) k2 hf (Nat.le_refl _) ?_, rfl, ⟨_, xs, x, rfl, fr, rfl, q1, hx⟩, ⟨u, ?_, ?_⟩, fun b hb => ?_⟩
    · exact ⟨by show (2 : Nat) <= sizeLine; decide, [.int i s.toks, u], .cons ⟨_, rfl⟩ (.cons ru .nil), ⟨_, sb.extBut _ _ nz np, rfl, _, rfl⟩⟩
    · exact he2
    · obtain ⟨o, e, r⟩ := s1
      exact ⟨o, sb.extBut _ _ (Ne.symm ne) e, r⟩
    · rw [zay (Nat.ne_of_lt (new b hb))]; exact (hf b hb).1
  done := by
    intro X hP hw hK hc i pins s σ H E I hf st hg
    subst hP hw hK
    obtain ⟨xs, q1, hx⟩ := hg
    obtain ⟨old, he, st1⟩ := st
    obtain ⟨us, r1, p1, z1⟩ := I.list (SqL.of q1)
    have hl := r1.length
    apply wpAny_pyNext_enum_end (I.ok.hd hc) he st1 p1.isList (by simp; omega)
    intro h1 kept
    exact ⟨rfl, I.turnedAll (t' := s.toks) (fun b o hb e => kept b o (fun z => hb (mem_efp.mpr (.inr z))) e) hf⟩
  self := fun A i s Q E st h => by
    obtain ⟨old, he, _⟩ := st
    have ty : s.TypeIs (.ref (n + 1)) "enumerate" := ⟨_, he, rfl⟩
    apply wpAny_pyIter_slot ty F.slot_enumerate_iter
    apply wpAny_call_entry F.slot_enumerate_iter ty F.entry_enumerate_iter _ (F.args_enumerate_iter_1 _)
    change wpAny _ _ (ret (.ref (n + 1))) _ _ s
    exact wpAny_pure ⟨_, rfl, "enumerate", _, ty, F.slot_enumerate_next.lookup, h⟩
def zo4 (ta : TA) : TI := fun σ H R => ta σ H fun vs H1 => ∃ l xs, vs = [.ref l] /\ H1 l = some (.lst xs) /\ R (Ite l) H1
section
variable {X : Cx}
theorem zlG : bootBuiltins "enumerate" = some (.type "enumerate") := by decide +kernel
theorem zhX {a : Expr} {es : List Expr} {x1} {tp : Pos} {ta : TA} {p pos : Pos} (hg : Gl X "enumerate") (hm : X.mg "enumerate" = none) (ha : PA X [a] ta) (hs : starEach [a] X.env = [(false, eval a X.env)] := by rfl) : PI X (.Tuple es x1 tp) (.Call (.Name "enumerate" p) [a] [] pos) (zo4 ta) := by
  intro pins s σ H R I h
  refine Call_ (zfF I hg hm zlG (PyProof.Rows.callWith_type1 (thn (ha pos pins s σ H _ I h) fun us s1 ⟨vs, H1, I1, r1, q1⟩ => ?_) hs rfl))
  obtain ⟨l, xs, e, q1, q⟩ := q1
  subst e
  obtain ⟨u, rfl, e1⟩ := vals1 r1
  cases e1
  obtain ⟨us, r1, p1, z1⟩ := I1.list (SqL.of q1)
  apply call_enumerate_list p1.isList
  intro h' he st sz kept
  have T := zlq (P := X.prog) (w := X.w) (K := X.K) (es := es) (x1 := x1) (pos := tp) l s1.heap.objs.size
  apply T.self X.A 0 _ _ _ ⟨.none, he, st⟩
  refine ⟨_, efp s1.heap.objs.size, _, _, H1, rfl, I1.kept (t' := s1.toks) kept, T, ⟨.none, he, st⟩, fun b hb => ?_, q⟩
  have le : s1.heap.objs.size <= b := by
    rw [mem_efp] at hb
    rcases hb with e | e <;> rw [e] <;> first | exact Nat.le_refl _ | exact Nat.le_add_right _ _
  exact I1.fpOk le (I1.hok.fresh le)
end
end L2
end
section
namespace L2
open PySem PySem.Spec PyProof.Rows Ex
section
variable {X : Cx}
theorem ze5 : ∀ {us : List Value} {ns : List Int}, IntsAre us ns -> Vals (ns.map V.int) us
  | _, _, .nil => .nil
  | _, _, .cons n t r => .cons ⟨t, rfl⟩ (ze5 r)
theorem zfH : CallR X (.builtin "sorted") (fun xs H Q => ∃ (p : Addr) (ns : List Int), xs = [.ref p] /\ SqL X.K H p (ns.map V.int) /\ ns.length < 64 /\ ∀ (l : Addr) (ns' : List Int), H l = none -> ns'.Perm ns -> ns'.Pairwise (· <= ·) -> Q (.ref l) (upd H l (.lst (ns'.map V.int)))) := by
  intro pins s σ H xs us Q I r h
  obtain ⟨p, ns, rfl, hS, hn, q⟩ := h
  obtain ⟨u, rfl, ru⟩ := r.one
  cases ru
  obtain ⟨its, rv, pl, hz⟩ := I.list hS
  have hl := rv.length
  rw [List.length_map] at hl
  apply sorted_ints pl.isList (intsAre_of rv) (by omega)
  intro out ns' ia pm pw
  obtain ⟨e, he⟩ := sortedAll_at s.heap its out
  have fr : H (s.heap.objs.size + 1) = none := I.hok.fresh (Nat.le_succ _)
  refine ⟨.ref (s.heap.objs.size + 1), upd H (s.heap.objs.size + 1) (.lst (ns'.map V.int)), I.laid (t' := s.toks) (fun b o z => sortedAll_old z) (Nat.le_succ _) ?_, rfl, q _ ns' fr pm pw⟩
  refine ⟨?_, out.toList, e, ze5 ia, he⟩
  rw [List.length_map, pm.length_eq]
  have z : (64 : Nat) <= sizeLine := by decide
  omega
def zpH (lo c : Int) (n : Nat) : It := ⟨fun i _ => i < n, fun i H x H' => H' = H /\ x = .int (lo + i * c), fun i _ => n <= i⟩
end
theorem ziS {P : Program} {w : World} {K : PySem.W.Frag} {tg : Expr} (it : Addr) (lo c : Int) (n : Nat) : Turn P w K tg (zpH lo c n) [it] it (fun i h => IsRangeIter h it (lo + (i : Nat) * c) ((n : Int) - (i : Nat)) c) where
  mem := by simp
  obj := fun i h st b hb => by
    have e : b = it := by simpa using hb
    subst e
    exact ⟨_, st, fun v z => nomatch z⟩
  keep := fun i h h' st k => k it (by simp) _ st
  item := by
    intro X hP hw hK hc i pins s σ H E I hf st hg
    subst hP hw hK
    obtain ⟨f0, f1, f2, f3, f4, f5⟩ := hf it (by simp)
    have W := Walks.range (prog := X.prog) (w := X.w) (I.ok.hd hc) it lo c n
    refine W.item i s _ _ hg st fun v h' tk hv st' kk => ?_
    obtain ⟨t, rfl⟩ := hv
    have I1 : Inv X pins σ H { s with heap := h', toks := tk } := I.turned (fun b o hb e => kk b o (by simpa using hb) e) f0 f1 f3 f4 f5
    exact ⟨_, rfl, zm2 (s := { s with heap := h', toks := tk }) (n := "range_iterator") st' rfl rfl (by decide) ⟨.int (lo + i * c), H, I1, ⟨t, rfl⟩, ⟨rfl, rfl⟩, st', fun b hb => (hf b hb).1⟩⟩
  done := by
    intro X hP hw hK hc i pins s σ H E I hf st hg
    subst hP hw hK
    obtain ⟨f0, f1, f2, f3, f4, f5⟩ := hf it (by simp)
    exact wpAny_pyNext_range_end (I.ok.hd hc) st (by have : n <= i := hg; omega) fun h' eb => ⟨rfl, I.turned (t' := s.toks) (fun b o hb e => eb b o hb e) f0 f1 f3 f4 f5⟩
  self := fun _ _ _ _ _ st h => wpAny_pyIter_rangeiter st h
def zpd (ta : TA) : TI := fun σ H R => ta σ H fun vs H1 => ∃ (i j c : Int) (n : Nat), vs = [.int i, .int j, .int c] /\ c ≠ 0 /\ c.natAbs < 1073741824 /\ Builtin.Range.small i j c = true /\ Builtin.Range.rangeSize i j c = n /\ R (zpH i c n) H1
section
variable {X : Cx} {tg : Expr}
theorem zk0 {a b c : Expr} {ta : TA} {p pos : Pos} (hg : Gl X "range") (hm : X.mg "range" = none) (ha : PA X [a, b, c] ta) (hs : starEach [a, b, c] X.env = [(false, eval a X.env), (false, eval b X.env), (false, eval c X.env)] := by rfl) (hs2 : starEach [b, c] X.env = [(false, eval b X.env), (false, eval c X.env)] := by rfl) :
    PI X tg (.Call (.Name "range" p) [a, b, c] [] pos) (zpd ta) := by
  intro pins s σ H R I h
  refine Call_ (zfF I hg hm boot_range (PyProof.Rows.callWith_type1 (thn (ha pos pins s σ H _ I h) fun us s1 ⟨vs, H1, I1, r1, q1⟩ => ?_) (by rw [hs, hs2]) (by rw [hs2]; rfl)))
  obtain ⟨i, j, d, n, e, d0, d1, sm, sz, q⟩ := q1
  subst e
  cases r1 with
  | cons r rr => cases rr with
    | cons r' rr => cases rr with
      | cons r'' rr =>
        cases rr
        obtain ⟨t, rfl⟩ := r
        obtain ⟨t', rfl⟩ := r'
        obtain ⟨t'', rfl⟩ := r''
        apply call_range_3 d0 _ (.inl (PyProof.noPylong_small d1))
        apply wpAny_pyIter_range (IsRange.new ..) sm
        have I2 : Inv X pins σ H1 { s1 with heap := s1.heap.push { cls := .type "range", data := .fields #[.int i t, .int j t', .int d t''] } } := I1.kept (t' := s1.toks) fun b o e => Heap.get?_push_of_some _ e
        refine ⟨_, [(s1.heap.push { cls := .type "range", data := .fields #[.int i t, .int j t', .int d t''] }).objs.size], _, _, H1, rfl, I2.kept (t' := s1.toks) fun b o e => Heap.get?_push_of_some _ e, ziS _ i d n, ?_, fun b hb => ?_, q⟩
        · have e1 : i + ((0 : Nat) : Int) * d = i := by simp
          have e2 : (n : Int) - ((0 : Nat) : Int) = Builtin.Range.rangeSize i j d := by rw [sz]; simp
          show IsRangeIter _ _ (i + ((0 : Nat) : Int) * d) ((n : Int) - ((0 : Nat) : Int)) d
          rw [e1, e2]
          exact Heap.get?_push_size _ rfl
        · have e : b = (s1.heap.push { cls := .type "range", data := .fields #[.int i t, .int j t', .int d t''] }).objs.size := by simpa using hb
          subst e
          exact I2.fpOk (Nat.le_refl _) (I2.hok.fresh (Nat.le_refl _))
def zkq (xs : List V) (lo hi : Option Int) (st : Int) : List V := (sliceRange (sliceBounds lo hi (some st) xs.length).1 (sliceBounds lo hi (some st) xs.length).2.1 (sliceBounds lo hi (some st) xs.length).2.2).filterMap (xs[·]?)
theorem zfI {xs : List V} {us : List Value} (r : Vals xs us) : ∀ ps : List Nat, Vals (ps.filterMap (xs[·]?)) (ps.filterMap (us[·]?))
  | [] => .nil
  | p :: ps => by
    rw [List.filterMap_cons, List.filterMap_cons]
    cases e : xs[p]? with
    | none => rw [r.none_of e]; exact zfI r ps
    | some x =>
      obtain ⟨u, hu, ru⟩ := r.get e
      rw [hu]
      exact .cons ru (zfI r ps)
def zsj (K : PySem.W.Frag) (te : TE) (tl th : TO) (st : Int) : TE := fun σ H Q => te σ H fun x H1 => tl σ H1 fun l H2 => th σ H2 fun u H3 => ∃ a xs, x = .ref a /\ SqL K H3 a xs /\ st ≠ 0 /\ (zkq xs l u st).length <= sizeLine /\ ∀ p, H3 p = none -> Q (.ref p) (upd H3 p (.lst (zkq xs l u st)))
theorem zlP {e se : Expr} {te : TE} {lo hi : Option Expr} {tl th : TO} {st : Int} {pos p2 : Pos} (he : PE X e te) (hl : PO X lo tl) (hu : PO X hi th) (hse : PE X se (tC (.int st))) : PE X (.Subscript e (.Slice lo hi (some se) p2) pos) (zsj X.K te tl th st) := by
  intro pins s σ H Q I h
  refine Subscript_ (thn (he pins s σ H _ I h) fun v s1 ⟨x, H1, I1, r1, q1⟩ => ?_)
  refine wpAny_Slice (thn (hl pins s1 σ H1 _ I1 q1) fun vl s2 ⟨l, H2, I2, pl, q2⟩ => thn (hu pins s2 σ H2 _ I2 q2) fun vu s3 ⟨u, H3, I3, pu, q3⟩ => ?_)
  rw [evalPart_some]
  refine thn (hse pins s3 σ H3 (fun x H' => x = .int st /\ H' = H3) I3 ⟨rfl, rfl⟩) fun vs s4 ⟨y, H4, I4, r4, ey, eH⟩ => ?_
  subst ey eH
  obtain ⟨t, rfl⟩ := r4
  obtain ⟨a, xs, rfl, hx, s0, sz, q⟩ := q3
  cases r1
  have I5 : Inv X pins σ H4 { s4 with heap := s4.heap.push { cls := .type "slice", data := .fields #[vl, vu, .int st t] } } := I4.kept (t' := s4.toks) fun b ob q => Heap.get?_push_of_some _ q
  obtain ⟨its, r, ht, hz⟩ := I5.list hx
  have hlen := r.length
  show wpAny (model X.prog X.w) X.A (subscriptTail e (.Slice lo hi (some se) p2) (.ref a) (.ref s4.heap.objs.size)) (EP X pins σ Q) X.xe { s4 with heap := s4.heap.push { cls := .type "slice", data := .fields #[vl, vu, .int st t] } }
  refine tail_any (ops := [.ref a, .ref s4.heap.objs.size]) ht.isList.typeIs slot_list_getitem.lookup ?_ (by with_unfolding_all rfl)
  refine wpAny_getItem_list_slice ht.isList (Heap.IsSliceOf.new ..) pl pu (.int st t) (by simpa using s0) ?_ (by rw [List.size_toArray] <;> omega)
  have e1 : slicePick its.toArray l u (some st) = ((sliceRange (sliceBounds l u (some st) xs.length).1 (sliceBounds l u (some st) xs.length).2.1 (sliceBounds l u (some st) xs.length).2.2).filterMap (its[·]?)).toArray := by
    unfold slicePick
    rw [List.size_toArray, <- hlen]
    simp
  rw [e1]
  exact ⟨.ref _, _, I5.lnew (t' := s4.toks) (zfI r _) sz, rfl, q _ I5.fresh⟩
end
end L2
end
section
namespace L2
open PySem PySem.Spec PyProof.Rows Ex
def rIs (K : PySem.W.Frag) : List V -> Hp -> VK -> Prop := fun xs H Q => ∃ x c t cv b, xs = [x, c] /\ zog c = some cv /\ TyX K H x t /\ PySem.W.kitOne K t cv = some b /\ Q (.bl b) H
theorem zcw {H : Hp} {p : Addr} {o : HO} (h : H p = none) : Same H (upd H p o) := fun b u e => by rw [zay (zaQ e h)]; exact e
end L2
end
section
namespace Ex
open PySem PySem.Spec PyProof.Rows PySem.Calls Builtin.SmallTypes
section
variable {prog : Program} {w : World} {A : Around} {E : Value -> Shared -> Prop} {s : Shared}
end
end Ex
namespace L2
open PySem PySem.Spec PyProof.Rows Ex
section
variable {X : Cx} {pos : Pos}
end
end L2
end
section
namespace L2
open PySem PySem.Spec PyProof.Rows Ex
section
variable {X : Cx} {a b c d : Expr} {ta tb tc td : TE} {pos : Pos}
end
end L2
end
section
namespace Dv
open PySem L2 Ex
inductive Cn where
  | PointError | NoPoints | NoBox | NoAsks | NoRun | NoText | NoTurn | NoTree | NoTop | NotServed | NoRow | NoPoint | NoName | NoKey | NoBack | TooMany | Points | Grower | Search | Turner | Desk
  deriving DecidableEq
class KC where
  K : PySem.W.Frag
  cls : Cn -> Addr
variable [KC]
inductive D where
  | non | bl (b : Bool) | int (i : Int) | str (x : Str)
  | lst (xs : List D) | tup (xs : List D) | dic (ks vs : List D) | scr (ns : List Int) | ins (C : Cn) (ns : List Str) (vs : List D) | obj (C : Cn) (ns : List Str) (vs : List D)
mutual
inductive Rp (R : Hp) : V -> D -> Prop
  | non : Rp R .non .non
  | bl (b : Bool) : Rp R (.bl b) (.bl b)
  | int (i : Int) : Rp R (.int i) (.int i)
  | str (x : Str) : Rp R (.str x) (.str x)
  | lst {a : Addr} {xs : List V} {ds : List D} : R a = some (.lst xs) -> Rps R xs ds -> Rp R (.ref a) (.lst ds)
  | tup {a : Addr} {xs : List V} {ds : List D} : R a = some (.tup xs) -> Rps R xs ds -> Rp R (.ref a) (.tup ds)
  | dnil {a : Addr} : R a = some (.dK []) -> Rp R (.ref a) (.dic [] [])
  | scr {a : Addr} {ns : List Int} : SqL KC.K R a (ns.map V.int) -> Rp R (.ref a) (.scr ns)
  | exc0 {a : Addr} {C : Cn} : R a = some (ExO (KC.cls C) a none false) -> Rp R (.ref a) (.ins C [] [])
  | exc {a d : Addr} {C : Cn} {fs : List (Str × V)} {ds : List D} : R a = some (ExO (KC.cls C) a (some d) false) -> R d = some (ExD d fs) -> Rps R (fs.map (·.2)) ds -> Rp R (.ref a) (.ins C (fs.map (·.1)) ds)
  | obj {a dx : Addr} {C : Cn} {fs : List (Str × V)} {ds : List D} : R a = some (.ins (KC.cls C) dx fs) -> Rps R (fs.map (·.2)) ds -> Rp R (.ref a) (.obj C (fs.map (·.1)) ds)
inductive Rps (R : Hp) : List V -> List D -> Prop
  | nil : Rps R [] []
  | cons {x : V} {d : D} {xs : List V} {ds : List D} : Rp R x d -> Rps R xs ds -> Rps R (x :: xs) (d :: ds)
end
mutual
theorem Rp.sm {H H' : Hp} (s : Same H H') : ∀ {x : V} {d : D}, Rp H x d -> Rp H' x d
  | _, _, .non => .non
  | _, _, .bl b => .bl b
  | _, _, .int i => .int i
  | _, _, .str x => .str x
  | _, _, .lst e h => .lst (s _ _ e) (Rps.sm s h)
  | _, _, .tup e h => .tup (s _ _ e) (Rps.sm s h)
  | _, _, .dnil e => .dnil (s _ _ e)
  | _, _, .scr e => .scr (s.seq e)
  | _, _, .exc0 e => .exc0 (s _ _ e)
  | _, _, .exc e e' h => .exc (s _ _ e) (s _ _ e') (Rps.sm s h)
  | _, _, .obj e h => .obj (s _ _ e) (Rps.sm s h)
theorem Rps.sm {H H' : Hp} (s : Same H H') : ∀ {xs : List V} {ds : List D}, Rps H xs ds -> Rps H' xs ds
  | _, _, .nil => .nil
  | _, _, .cons a b => .cons (Rp.sm s a) (Rps.sm s b)
end
section
variable {R : Hp}
theorem Rps.len : ∀ {xs : List V} {ds : List D}, Rps R xs ds -> xs.length = ds.length
  | _, _, .nil => rfl
  | _, _, .cons _ h => congrArg Nat.succ (Rps.len h)
theorem Rps.at : ∀ {xs : List V} {ds : List D} {i : Nat} {x : V}, Rps R xs ds -> xs[i]? = some x -> ∃ d, ds[i]? = some d /\ Rp R x d
  | _, _, _, _, .nil, e => by simp at e
  | _, _, 0, _, .cons r _, e => by simp at e; subst e; exact ⟨_, rfl, r⟩
  | _, _, i + 1, x, .cons _ t, e => by
    obtain ⟨u, h1, h2⟩ := Rps.at (i := i) (x := x) t (by simpa using e)
    exact ⟨u, by simpa using h1, h2⟩
theorem Rps.ta {xs : List V} {ds : List D} {i : Nat} {d : D} (h : Rps R xs ds) (e : ds[i]? = some d) : ∃ x, xs[i]? = some x /\ Rp R x d := by
  have lt : i < xs.length := by rw [h.len]; exact (List.getElem?_eq_some_iff.mp e).1
  obtain ⟨d', e', r⟩ := h.at (List.getElem?_eq_getElem lt)
  rw [e] at e'; cases e'
  exact ⟨_, List.getElem?_eq_getElem lt, r⟩
theorem Rps.app : ∀ {xs ys : List V} {ds es : List D}, Rps R xs ds -> Rps R ys es -> Rps R (xs ++ ys) (ds ++ es)
  | _, _, _, _, .nil, h => h
  | _, _, _, _, .cons a b, h => .cons a (Rps.app b h)
theorem Rps.take : ∀ {xs : List V} {ds : List D} (n : Nat), Rps R xs ds -> Rps R (xs.take n) (ds.take n)
  | _, _, 0, _ => .nil
  | _, _, _ + 1, .nil => .nil
  | _, _, n + 1, .cons a b => .cons a (Rps.take n b)
theorem Rps.drop : ∀ {xs : List V} {ds : List D} (n : Nat), Rps R xs ds -> Rps R (xs.drop n) (ds.drop n)
  | _, _, 0, h => h
  | _, _, _ + 1, .nil => .nil
  | _, _, n + 1, .cons _ b => Rps.drop n b
theorem Rps.set {x : V} {d : D} (r : Rp R x d) : ∀ {xs : List V} {ds : List D} (n : Nat), Rps R xs ds -> Rps R (xs.set n x) (ds.set n d)
  | _, _, _, .nil => .nil
  | _, _, 0, .cons _ b => .cons r b
  | _, _, n + 1, .cons a b => .cons a (Rps.set r n b)
theorem Rps.ints : ∀ ns : List Int, Rps R (ns.map V.int) (ns.map D.int)
  | [] => .nil
  | n :: r => .cons (.int n) (Rps.ints r)
theorem Rps.ints_inv : ∀ {ns : List Int} {xs : List V}, Rps R xs (ns.map D.int) -> xs = ns.map V.int
  | [], _, .nil => rfl
  | _ :: _, _, .cons (.int _) b => by rw [Rps.ints_inv b]; rfl
theorem Rps.pick {xs : List V} {ds : List D} (h : Rps R xs ds) : ∀ ps : List Nat, Rps R (ps.filterMap (xs[·]?)) (ps.filterMap (ds[·]?))
  | [] => .nil
  | p :: r => by
    rw [List.filterMap_cons, List.filterMap_cons]
    cases e : xs[p]? with
    | none =>
      have : ds[p]? = none := by rw [List.getElem?_eq_none_iff] at e ⊢; rw [<- h.len]; exact e
      rw [this]; exact h.pick r
    | some x =>
      obtain ⟨d, e2, q⟩ := h.at e
      rw [e2]; exact .cons q (h.pick r)
end
inductive Kd where
  | frz | own | io (k : Nat)
  deriving DecidableEq
abbrev Sl := Option (Kd × D)
abbrev En := List Sl
inductive RV where
  | val (d : D) | new (d : D) | var (i : Nat)
def OwR (R H : Hp) (v : V) (d : D) : Prop := ∃ a xs ds, v = .ref a /\ R a = none /\ H a = some (.lst xs) /\ d = .lst ds /\ Rps R xs ds
def SlR (ios : List Addr) (R H : Hp) (v : V) : Kd × D -> Prop
  | (.frz, d) => Rp R v d
  | (.own, d) => OwR R H v d
  | (.io k, d) => OwR R H v d /\ ∃ a, ios[k]? = some a /\ v = .ref a
def owned : Kd -> Bool
  | .frz => false
  | _ => true
def Ow (σ : St) (Γ : En) (b : Addr) : Prop := ∃ (i : Nat) (k : Kd) (d : D), Γ[i]? = some (some (k, d)) /\ owned k = true /\ σ[i]? = some (some (.ref b))
structure ER (ios : List Addr) (R H : Hp) (σ : St) (Γ : En) : Prop where
  sub : Same R H
  len : σ.length = Γ.length
  sl : ∀ (i : Nat) (s : Kd × D), Γ[i]? = some (some s) -> ∃ v, σ[i]? = some (some v) /\ SlR ios R H v s
  dj : ∀ (i j : Nat) (k l : Kd) (d e : D) (b : Addr), Γ[i]? = some (some (k, d)) -> owned k = true -> Γ[j]? = some (some (l, e)) -> owned l = true -> σ[i]? = some (some (.ref b)) -> σ[j]? = some (some (.ref b)) -> i = j
structure Go (O : Addr -> Prop) (R H : Hp) (O' : Addr -> Prop) (R' H' : Hp) : Prop where
  rr : Same R R'
  hh : ∀ b o, H b = some o -> ¬ O b -> H' b = some o
  no : ∀ b o, H b = some o -> ¬ O b -> R b = none -> R' b = none
  oo : ∀ b, O' b -> O b \/ H b = none
  th : ∀ b o, H b = some o -> ∃ o', H' b = some o'
theorem Go.refl {O : Addr -> Prop} {R H : Hp} : Go O R H O R H := ⟨Same.refl _, fun _ _ h _ => h, fun _ _ _ _ h => h, fun _ h => .inl h, fun _ o h => ⟨o, h⟩⟩
theorem Go.trans {O O1 O2 : Addr -> Prop} {R H R1 H1 R2 H2 : Hp} (g : Go O R H O1 R1 H1) (k : Go O1 R1 H1 O2 R2 H2) : Go O R H O2 R2 H2 := by
  have nO : ∀ b o, H b = some o -> ¬ O b -> ¬ O1 b := fun b o h n z => (g.oo b z).elim n fun q => by rw [h] at q; cases q
  refine ⟨g.rr.trans k.rr, fun b o h n => k.hh b o (g.hh b o h n) (nO b o h n), fun b o h n r => k.no b o (g.hh b o h n) (nO b o h n) (g.no b o h n r), fun b z => ?_, fun b o h => let ⟨o1, h1⟩ := g.th b o h; k.th b o1 h1⟩
  rcases k.oo b z with q | q
  · exact g.oo b q
  · by_cases hO : O b
    · exact .inl hO
    · cases e : H b with
      | none => exact .inr rfl
      | some o => rw [g.hh b o e hO] at q; cases q
end Dv
end
section
namespace Dv
open PySem L2 Ex
variable [KC]
structure Xc where
  C : Cn
  fs : List (Str × D)
inductive Res (α : Type) where
  | ok (a : α) (Γ : En) | ex (x : Xc) (Γ : En) | st
abbrev M (α : Type) := En -> Res α
def M.pure {α : Type} (a : α) : M α := fun Γ => .ok a Γ
def M.bind {α β : Type} (f : M α) (g : α -> M β) : M β := fun Γ => match f Γ with
  | .ok a Γ' => g a Γ'
  | .ex x Γ' => .ex x Γ'
  | .st => .st
def M.st {α : Type} : M α := fun _ => .st
def M.ofO {α : Type} : Option α -> M α
  | some a => M.pure a
  | none => M.st
def wpM {α : Type} (r : Res α) (K : α -> En -> Prop) (E : Xc -> En -> Prop) : Prop := match r with
  | .ok a Γ => K a Γ
  | .ex x Γ => E x Γ
  | .st => False
theorem zac {α β : Type} {f : M α} {g : α -> M β} {Γ : En} {K : β -> En -> Prop} {E : Xc -> En -> Prop} : wpM (M.bind f g Γ) K E = wpM (f Γ) (fun a Γ' => wpM (g a Γ') K E) E := by
  unfold M.bind wpM
  cases f Γ <;> rfl
theorem zah {α : Type} {r : Res α} {K K' : α -> En -> Prop} {E E' : Xc -> En -> Prop} (h : wpM r K E) (hK : ∀ a Γ, K a Γ -> K' a Γ) (hE : ∀ x Γ, E x Γ -> E' x Γ) : wpM r K' E' := by
  cases r with
  | ok a Γ => exact hK _ _ h
  | ex x Γ => exact hE _ _ h
  | st => exact h
theorem zca {α : Type} {o : Option α} {Γ : En} {K : α -> En -> Prop} {E : Xc -> En -> Prop} (h : wpM (M.ofO o Γ) K E) : ∃ a, o = some a /\ K a Γ := by
  cases o with
  | none => exact False.elim h
  | some a => exact ⟨a, rfl, h⟩
structure Al (R H R' H' : Hp) : Prop where
  sub : Same R' H'
  rr : Same R R'
  hh : Same H H'
  no : ∀ b o, H b = some o -> R b = none -> R' b = none
theorem Al.refl {R H : Hp} (s : Same R H) : Al R H R H := ⟨s, Same.refl _, Same.refl _, fun _ _ _ h => h⟩
theorem Al.go {O : Addr -> Prop} {R H R' H' : Hp} (a : Al R H R' H') : Go O R H O R' H' := ⟨a.rr, fun b o h _ => a.hh b o h, fun b o h _ r => a.no b o h r, fun _ h => .inl h, fun b o h => ⟨o, a.hh b o h⟩⟩
theorem ER.ow {ios : List Addr} {R H : Hp} {σ : St} {Γ : En} (e : ER ios R H σ Γ) {b : Addr} (o : Ow σ Γ b) : R b = none /\ ∃ xs, H b = some (.lst xs) := by
  obtain ⟨i, k, d, h1, h2, h3⟩ := o
  obtain ⟨v, hv, s⟩ := e.sl i _ h1
  rw [h3] at hv
  cases hv
  cases k with
  | frz => cases h2
  | own => obtain ⟨a, xs, ds, e1, e2, e3, _⟩ := s; cases e1; exact ⟨e2, xs, e3⟩
  | io n => obtain ⟨⟨a, xs, ds, e1, e2, e3, _⟩, _⟩ := s; cases e1; exact ⟨e2, xs, e3⟩
theorem OwR.mono {R H R' H' : Hp} {v : V} {d : D} (h : OwR R H v d) (rr : Same R R') (k : ∀ a xs, v = .ref a -> H a = some (.lst xs) -> R a = none -> H' a = some (.lst xs) /\ R' a = none) : OwR R' H' v d := by
  obtain ⟨a, xs, ds, rfl, h1, h2, rfl, h3⟩ := h
  obtain ⟨k1, k2⟩ := k a xs rfl h2 h1
  exact ⟨a, xs, ds, rfl, k2, k1, rfl, h3.sm rr⟩
theorem SlR.mono {ios : List Addr} {R H R' H' : Hp} {v : V} {s : Kd × D} (h : SlR ios R H v s) (rr : Same R R') (k : owned s.1 = true -> ∀ a xs, v = .ref a -> H a = some (.lst xs) -> R a = none -> H' a = some (.lst xs) /\ R' a = none) : SlR ios R' H' v s := by
  obtain ⟨kd, d⟩ := s
  cases kd with
  | frz => exact Rp.sm rr h
  | own => exact OwR.mono h rr (k rfl)
  | io n => exact ⟨OwR.mono h.1 rr (k rfl), h.2⟩
theorem ER.al {ios : List Addr} {R H R' H' : Hp} {σ : St} {Γ : En} (e : ER ios R H σ Γ) (a : Al R H R' H') : ER ios R' H' σ Γ where
  sub := a.sub
  len := e.len
  sl := fun i s h => let ⟨v, hv, q⟩ := e.sl i s h; ⟨v, hv, q.mono a.rr fun _ b xs _ h1 h2 => ⟨a.hh _ _ h1, a.no _ _ h1 h2⟩⟩
  dj := e.dj
structure EPo (ios : List Addr) (R H : Hp) (σ : St) (Γ : En) (R' H' : Hp) (Γ' : En) : Prop where
  er : ER ios R' H' σ Γ'
  go : Go (Ow σ Γ) R H (Ow σ Γ') R' H'
  sh : ∀ b, Ow σ Γ' b -> Ow σ Γ b
section
variable {ios : List Addr} {R H R1 H1 R2 H2 : Hp} {σ : St} {Γ Γ1 Γ2 : En}
theorem EPo.refl (e : ER ios R H σ Γ) : EPo ios R H σ Γ R H Γ := ⟨e, Go.refl, fun _ h => h⟩
theorem EPo.trans (a : EPo ios R H σ Γ R1 H1 Γ1) (b : EPo ios R1 H1 σ Γ1 R2 H2 Γ2) : EPo ios R H σ Γ R2 H2 Γ2 := ⟨b.er, a.go.trans b.go, fun c h => a.sh c (b.sh c h)⟩
theorem EPo.al (a : EPo ios R H σ Γ R1 H1 Γ1) (b : Al R1 H1 R2 H2) : EPo ios R H σ Γ R2 H2 Γ1 := ⟨a.er.al b, a.go.trans b.go, a.sh⟩
def RvR (R H H' : Hp) (σ : St) (x : V) : RV -> Prop
  | .val d => Rp R x d
  | .new d => OwR R H' x d /\ ∃ a, x = .ref a /\ H a = none
  | .var i => σ[i]? = some (some x)
theorem RvR.go {rv : RV} {x : V} (e : ER ios R H σ Γ) (a : EPo ios R H σ Γ R1 H1 Γ1) (h : RvR R1 H H1 σ x rv) (b : Go (Ow σ Γ1) R1 H1 (Ow σ Γ2) R2 H2) : RvR R2 H H2 σ x rv := by
  cases rv with
  | val d => exact Rp.sm b.rr h
  | var i => exact h
  | new d =>
    obtain ⟨h1, p, hp, hn⟩ := h
    refine ⟨h1.mono b.rr fun q xs e1 e2 e3 => ?_, p, hp, hn⟩
    have : ¬ Ow σ Γ1 q := fun z => by
      have hq : q = p := by rw [hp] at e1; exact (V.ref.inj e1).symm
      obtain ⟨_, xs, e4⟩ := e.ow (a.sh q z)
      rw [hq, hn] at e4; cases e4
    exact ⟨b.hh _ _ e2 this, b.no _ _ e2 this e3⟩
def Pk (R H : Hp) (x : V) (d : D) : Prop := Rp R x d \/ ∃ a xs ds, x = .ref a /\ H a = some (.lst xs) /\ d = .lst ds /\ Rps R xs ds
theorem Pk.lst {ds : List D} {x : V} (s : Same R H) (h : Pk R H x (.lst ds)) : ∃ a xs, x = .ref a /\ H a = some (.lst xs) /\ Rps R xs ds := by
  rcases h with h | ⟨a, xs, ds', rfl, h1, h2, h3⟩
  · cases h with | lst e q => exact ⟨_, _, rfl, s _ _ e, q⟩
  · cases h2; exact ⟨a, xs, rfl, h1, h3⟩
theorem Pk.hv {d : D} {x : V} (s : Same R H) (h : Pk R H x d) : Rp H x d := by
  rcases h with h | ⟨a, xs, ds', rfl, h1, rfl, h3⟩
  · exact h.sm s
  · exact .lst h1 (h3.sm s)
theorem Pk.int {i : Int} {x : V} (h : Pk R H x (.int i)) : x = .int i := by
  rcases h with h | ⟨a, xs, ds', rfl, h1, h2, h3⟩
  · cases h; rfl
  · cases h2
theorem Pk.bl {i : Bool} {x : V} (h : Pk R H x (.bl i)) : x = .bl i := by
  rcases h with h | ⟨a, xs, ds', rfl, h1, h2, h3⟩
  · cases h; rfl
  · cases h2
theorem Pk.str {i : Str} {x : V} (h : Pk R H x (.str i)) : x = .str i := by
  rcases h with h | ⟨a, xs, ds', rfl, h1, h2, h3⟩
  · cases h; rfl
  · cases h2
theorem Pk.tup {ds : List D} {x : V} (h : Pk R H x (.tup ds)) : ∃ a xs, x = .ref a /\ R a = some (.tup xs) /\ Rps R xs ds := by
  rcases h with h | ⟨a, xs, ds', rfl, h1, h2, h3⟩
  · cases h with | tup e q => exact ⟨_, _, rfl, e, q⟩
  · cases h2
end
def peek : RV -> M D
  | .val d => M.pure d
  | .new d => M.pure d
  | .var i => fun Γ => match Γ[i]? with
    | some (some (_, d)) => .ok d Γ
    | _ => .st
def mat : RV -> M D
  | .val d => M.pure d
  | .new d => M.pure d
  | .var i => fun Γ => match Γ[i]? with
    | some (some (_, d)) => .ok d (Γ.set i (some (.frz, d)))
    | _ => .st
section
variable {ios : List Addr} {R H R1 H1 R2 H2 : Hp} {σ : St} {Γ Γ1 Γ2 : En}
theorem SlR.pk {v : V} {s : Kd × D} (h : SlR ios R H v s) : Pk R H v s.2 := by
  obtain ⟨kd, d⟩ := s
  cases kd with
  | frz => exact .inl h
  | own => obtain ⟨a, xs, ds, h1, _, h2, h3, h4⟩ := h; exact .inr ⟨a, xs, ds, h1, h2, h3, h4⟩
  | io n => obtain ⟨⟨a, xs, ds, h1, _, h2, h3, h4⟩, _⟩ := h; exact .inr ⟨a, xs, ds, h1, h2, h3, h4⟩
theorem zbS {rv : RV} {x : V} {K : D -> En -> Prop} {E : Xc -> En -> Prop} (e : ER ios R1 H1 σ Γ1) (h : RvR R1 H H1 σ x rv) (k : wpM (peek rv Γ1) K E) : ∃ d, Pk R1 H1 x d /\ K d Γ1 := by
  cases rv with
  | val d => exact ⟨d, .inl h, k⟩
  | new d =>
    obtain ⟨⟨a, xs, ds, h1, _, h2, h3, h4⟩, _⟩ := h
    exact ⟨d, .inr ⟨a, xs, ds, h1, h2, h3, h4⟩, k⟩
  | var i =>
    unfold peek at k
    dsimp only at k
    split at k
    · rename_i q
      obtain ⟨v, hv, s⟩ := e.sl i _ q
      have h : σ[i]? = some (some x) := h
      rw [h] at hv
      cases hv
      exact ⟨_, s.pk, k⟩
    · exact False.elim k
def ext (R H : Hp) (a : Addr) : Hp := fun b => if b = a then H a else R b
theorem zee {R H : Hp} {a : Addr} (h : R a = none) : Same R (ext R H a) := fun b o e => by
  unfold ext
  split
  · rename_i z; rw [z, h] at e; cases e
  · exact e
theorem zed {R H : Hp} {a : Addr} : ext R H a a = H a := by unfold ext; rw [if_pos rfl]
theorem zeh {R H : Hp} {a b : Addr} (h : b ≠ a) : ext R H a b = R b := by unfold ext; rw [if_neg h]
theorem zh7 {R H : Hp} {a : Addr} (s : Same R H) : Same (ext R H a) H := fun b o e => by
  unfold ext at e
  split at e
  · rename_i z; rw [z]; exact e
  · exact s b o e
theorem znp {i : Nat} {d : D} {b : Addr} (h : Ow σ (Γ.set i (some (.frz, d))) b) : Ow σ Γ b /\ ¬ (σ[i]? = some (some (.ref b)) /\ ∀ j k d, Γ[j]? = some (some (k, d)) -> owned k = true -> σ[j]? = some (some (.ref b)) -> j = i) := by
  obtain ⟨j, k, e, h1, h2, h3⟩ := h
  by_cases hj : j = i
  · subst hj
    by_cases hl : j < Γ.length
    · rw [List.getElem?_set_self hl] at h1; cases h1; cases h2
    · rw [List.getElem?_eq_none (by rw [List.length_set]; omega)] at h1; cases h1
  · rw [List.getElem?_set_ne (Ne.symm hj)] at h1
    exact ⟨⟨j, k, e, h1, h2, h3⟩, fun ⟨_, z⟩ => hj (z j k e h1 h2 h3)⟩
theorem ER.freeze {i : Nat} {k : Kd} {d : D} {x : V} (e : ER ios R H σ Γ) (hi : Γ[i]? = some (some (k, d))) (hx : σ[i]? = some (some x)) : ∃ R', EPo ios R H σ Γ R' H (Γ.set i (some (.frz, d))) /\ Rp R' x d := by
  obtain ⟨v, hv, s⟩ := e.sl i _ hi
  rw [hx] at hv
  cases hv
  have hlt : i < Γ.length := (List.getElem?_eq_some_iff.mp hi).1
  by_cases hk : owned k = true
  · obtain ⟨a, xs, ds, rfl, h1, h2, rfl, h3⟩ : OwR R H x d := by
      cases k with
      | frz => cases hk
      | own => exact s
      | io n => exact s.1
    have inj : ∀ j l z, Γ[j]? = some (some (l, z)) -> owned l = true -> σ[j]? = some (some (.ref a)) -> j = i := fun j l z q1 q2 q3 => (e.dj i j k l _ z a hi hk q1 q2 hx q3).symm
    have rr : Same R (ext R H a) := zee h1
    refine ⟨ext R H a, ⟨⟨zh7 e.sub, by rw [List.length_set]; exact e.len, fun j t hj => ?_, fun j j' l l' z z' b q1 q2 q3 q4 q5 q6 => ?_⟩, ⟨rr, fun _ _ h _ => h, fun b o hb nb rb => ?_, fun b z => .inl (znp z).1, fun b o h => ⟨o, h⟩⟩, fun b z => (znp z).1⟩, .lst (by rw [zed]; exact h2) (h3.sm rr)⟩
    · by_cases hji : j = i
      · subst hji
        rw [List.getElem?_set_self hlt] at hj
        cases hj
        exact ⟨_, hx, .lst (by rw [zed]; exact h2) (h3.sm rr)⟩
      · rw [List.getElem?_set_ne (Ne.symm hji)] at hj
        obtain ⟨v, hv, q⟩ := e.sl j t hj
        refine ⟨v, hv, q.mono rr fun ho b ys eb hb rb => ⟨hb, ?_⟩⟩
        rw [zeh]
        · exact rb
        · rintro rfl
          subst eb
          exact hji (inj j t.1 t.2 hj ho hv)
    · have g1 : Γ[j]? = some (some (l, z)) := by
        by_cases hji : j = i
        · subst hji; rw [List.getElem?_set_self hlt] at q1; cases q1; cases q2
        · rwa [List.getElem?_set_ne (Ne.symm hji)] at q1
      have g2 : Γ[j']? = some (some (l', z')) := by
        by_cases hji : j' = i
        · subst hji; rw [List.getElem?_set_self hlt] at q3; cases q3; cases q4
        · rwa [List.getElem?_set_ne (Ne.symm hji)] at q3
      exact e.dj j j' l l' z z' b g1 q2 g2 q4 q5 q6
    · rw [zeh]
      · exact rb
      · rintro rfl
        exact nb ⟨i, k, _, hi, hk, hx⟩
  · have hk : k = .frz := by cases k <;> first | rfl | exact absurd rfl hk
    subst hk
    have : Γ.set i (some (.frz, d)) = Γ := by
      apply List.ext_getElem?
      intro j
      by_cases hj : j = i
      · subst hj; rw [List.getElem?_set_self hlt, hi]
      · rw [List.getElem?_set_ne (Ne.symm hj)]
    rw [this]
    exact ⟨R, EPo.refl e, s⟩
theorem zec {rv : RV} {x : V} {K : D -> En -> Prop} {E : Xc -> En -> Prop} (e : ER ios R H σ Γ) (a : EPo ios R H σ Γ R1 H1 Γ1) (h : RvR R1 H H1 σ x rv) (k : wpM (mat rv Γ1) K E) : ∃ d Γ2 R2, EPo ios R H σ Γ R2 H1 Γ2 /\ Same R1 R2 /\ Rp R2 x d /\ K d Γ2 := by
  cases rv with
  | val d => exact ⟨d, Γ1, R1, a, Same.refl _, h, k⟩
  | new d =>
    obtain ⟨⟨p, xs, ds, rfl, h1, h2, rfl, h3⟩, q, hq, hn⟩ := h
    cases hq
    have rr : Same R1 (ext R1 H1 p) := zee h1
    have nO : ¬ Ow σ Γ p := fun z => by obtain ⟨_, xs, e4⟩ := e.ow z; rw [hn] at e4; cases e4
    refine ⟨_, Γ1, ext R1 H1 p, ⟨⟨zh7 a.er.sub, a.er.len, fun j t hj => ?_, a.er.dj⟩, ⟨a.go.rr.trans rr, a.go.hh, fun b o hb nb rb => ?_, a.go.oo, a.go.th⟩, a.sh⟩, rr, .lst (by rw [zed]; exact h2) (h3.sm rr), k⟩
    · obtain ⟨v, hv, s⟩ := a.er.sl j t hj
      refine ⟨v, hv, s.mono rr fun ho b ys eb hb rb => ⟨hb, ?_⟩⟩
      rw [zeh]
      · exact rb
      · rintro rfl
        subst eb
        exact nO (a.sh _ ⟨j, t.1, t.2, hj, ho, hv⟩)
    · rw [zeh]
      · exact a.go.no b o hb nb rb
      · rintro rfl
        rw [hn] at hb; cases hb
  | var i =>
    unfold mat at k
    dsimp only at k
    split at k
    · rename_i q
      obtain ⟨R', f, r⟩ := a.er.freeze q h
      exact ⟨_, _, R', a.trans f, f.go.rr, r, k⟩
    · exact False.elim k
end
end Dv
end
section
namespace Dv
open PySem L2 Ex
variable [KC]
def XcR (R H0 H : Hp) (e : Addr) (x : Xc) : Prop := R e = none /\ H0 e = none /\ ((x.fs = [] /\ H e = some (ExO (KC.cls x.C) e none false)) \/
  ∃ d fs, H e = some (ExO (KC.cls x.C) e (some d) false) /\ H d = some (ExD d fs) /\ R d = none /\ H0 d = none /\ fs.map (·.1) = x.fs.map (·.1) /\ Rps R (fs.map (·.2)) (x.fs.map (·.2)))
theorem XcR.back {R H0 H1 H : Hp} {e : Addr} {x : Xc} (b : ∀ a, H1 a = none -> H0 a = none) (h : XcR R H1 H e x) : XcR R H0 H e x := by
  obtain ⟨h1, h2, h3⟩ := h
  refine ⟨h1, b _ h2, h3.imp id fun ⟨d, fs, a1, a2, a3, a4, a5⟩ => ⟨d, fs, a1, a2, a3, b _ a4, a5⟩⟩
theorem EPo.since {ios : List Addr} {R H R' H' : Hp} {σ : St} {Γ Γ' : En} (h : EPo ios R H σ Γ R' H' Γ') : ∀ b, H' b = none -> H b = none := fun b hb => by
  cases q : H b with
  | none => rfl
  | some o =>
    obtain ⟨o', z⟩ := h.go.th b o q
    rw [hb] at z; cases z
def EXP (EE : XKS) (ios : List Addr) (R H : Hp) (σ : St) (Γ : En) : Xc -> En -> Prop := fun x Γ' => ∀ e H' R', EPo ios R H σ Γ R' H' Γ' -> XcR R' H H' e x -> EE σ (.ref (KC.cls x.C)) (some e) H'
theorem EXP.trans {EE : XKS} {ios : List Addr} {R H R1 H1 : Hp} {σ : St} {Γ Γ1 : En} (a : EPo ios R H σ Γ R1 H1 Γ1) {x : Xc} {Γ' : En} (h : EXP EE ios R H σ Γ x Γ') : EXP EE ios R1 H1 σ Γ1 x Γ' := fun e H' R' b q => h e H' R' (a.trans b) (q.back a.since)
def RdE (EE : XKS) (ios : List Addr) (t : TE) (f : M RV) : Prop := ∀ σ H R Γ Q, ER ios R H σ Γ ->
  wpM (f Γ) (fun rv Γ' => ∀ x H' R', EPo ios R H σ Γ R' H' Γ' -> RvR R' H H' σ x rv -> Q x H') (EXP EE ios R H σ Γ) -> t σ H Q
def RdT (EE : XKS) (ios : List Addr) (t : TT) (f : M Bool) : Prop := ∀ σ H R Γ Q, ER ios R H σ Γ ->
  wpM (f Γ) (fun b Γ' => ∀ H' R', EPo ios R H σ Γ R' H' Γ' -> Q b H') (EXP EE ios R H σ Γ) -> t σ H Q
def VE (X : Cx) (EE : XKS) (ios : List Addr) (e : Expr) (f : M RV) : Prop := ∃ t, PE X e t /\ RdE EE ios t f
def VT (X : Cx) (EE : XKS) (ios : List Addr) (e : Expr) (f : M Bool) : Prop := ∃ t, PT X e t /\ RdT EE ios t f
def VW (X : Cx) (EE : XKS) (ios : List Addr) (e : Expr) (f : M Bool) : Prop := ∃ t, PW X e t /\ RdT EE ios t f
def ArR (R : Hp) (σ : St) (x : V) : RV -> Prop
  | .val d => Rp R x d
  | .new _ => False
  | .var i => σ[i]? = some (some x)
inductive ArsR (R : Hp) (σ : St) : List V -> List RV -> Prop where
  | nil : ArsR R σ [] []
  | cons {x : V} {rv : RV} {xs : List V} {rvs : List RV} : ArR R σ x rv -> ArsR R σ xs rvs -> ArsR R σ (x :: xs) (rv :: rvs)
theorem ArR.sm {R R' : Hp} {σ : St} (s : Same R R') {x : V} {rv : RV} (h : ArR R σ x rv) : ArR R' σ x rv := by
  cases rv with
  | val d => exact Rp.sm s h
  | new d => exact h
  | var i => exact h
theorem ArsR.sm {R R' : Hp} {σ : St} (s : Same R R') : ∀ {xs : List V} {rvs : List RV}, ArsR R σ xs rvs -> ArsR R' σ xs rvs
  | _, _, .nil => .nil
  | _, _, .cons a b => .cons (a.sm s) (b.sm s)
theorem ArR.rv {R H H' : Hp} {σ : St} {x : V} {rv : RV} (h : ArR R σ x rv) : RvR R H H' σ x rv := by
  cases rv with
  | val d => exact h
  | new d => exact h.elim
  | var i => exact h
def RdA (EE : XKS) (ios : List Addr) (t : TA) (f : M (List RV)) : Prop := ∀ σ H R Γ Q, ER ios R H σ Γ ->
  wpM (f Γ) (fun rvs Γ' => ∀ xs H' R', EPo ios R H σ Γ R' H' Γ' -> ArsR R' σ xs rvs -> Q xs H') (EXP EE ios R H σ Γ) -> t σ H Q
def VA (X : Cx) (EE : XKS) (ios : List Addr) (es : List Expr) (f : M (List RV)) : Prop := ∃ t, PA X es t /\ RdA EE ios t f
section
variable {X : Cx} {EE : XKS} {ios : List Addr} {e a b c : Expr} {f g k : M RV} {pos : Pos}
def zaa (i : Nat) : M RV := fun Γ => match Γ[i]? with
  | some (some (.frz, d)) => .ok (.val d) Γ
  | some (some _) => .ok (.var i) Γ
  | _ => .st
theorem ZY {i : Nat} (h : PE X e (zlA i)) : VE X EE ios e (zaa i) := by
  refine ⟨_, h, fun σ H R Γ Q er w => ?_⟩
  unfold zaa at w
  split at w
  · rename_i q
    obtain ⟨v, hv, s⟩ := er.sl i _ q
    exact ⟨v, hv, w v H R (EPo.refl er) s⟩
  · rename_i q
    obtain ⟨v, hv, s⟩ := er.sl i _ q
    exact ⟨v, hv, w v H R (EPo.refl er) hv⟩
  · exact False.elim w
theorem zgx {v : V} {d : D} (h : PE X e (tC v)) (r : ∀ R, Rp R v d) : VE X EE ios e (M.pure (.val d)) :=
  ⟨_, h, fun σ H R Γ Q er w => w v H R (EPo.refl er) (r R)⟩
theorem zai {i : Int} {j : Nat} : VE X EE ios (.Constant (.int i) j pos) (M.pure (.val (.int i))) := zgx znE fun _ => .int i
theorem zb4 {i : Bool} {j : Nat} : VE X EE ios (.Constant (.bool i) j pos) (M.pure (.val (.bl i))) := zgx zqP fun _ => .bl i
theorem zaN {j : Nat} : VE X EE ios (.Constant .none j pos) (M.pure (.val .non)) := zgx zpF fun _ => .non
theorem zaX {i : Str} {j : Nat} : VE X EE ios (.Constant (.str i) j pos) (M.pure (.val (.str i))) := zgx zjy fun _ => .str i
def RvA (R H H' : Hp) (z : V) : RV -> Prop
  | .val d => Rp R z d
  | .new d => OwR R H' z d /\ ∃ a, z = .ref a /\ H a = none
  | .var _ => False
theorem RvA.rv {R H0 H H' : Hp} {σ : St} {z : V} {rv : RV} (h : RvA R H H' z rv) (s : ∀ b, H b = none -> H0 b = none) : RvR R H0 H' σ z rv := by
  cases rv with
  | val d => exact h
  | new d => obtain ⟨h1, a, h2, h3⟩ := h; exact ⟨h1, a, h2, s _ h3⟩
  | var i => exact h.elim
theorem EPo.back {R H R' H' : Hp} {σ : St} {Γ Γ' : En} (er : ER ios R H σ Γ) (h : EPo ios R H σ Γ R' H' Γ') : ∀ b, H' b = none -> H b = none := fun b hb => by
  cases q : H b with
  | none => rfl
  | some o =>
    obtain ⟨o', z⟩ := h.go.th b o q
    rw [hb] at z; cases z
end
end Dv
end
section
namespace Dv
open PySem L2 Ex
variable [KC]
section
variable {X : Cx} {EE : XKS} {ios : List Addr} {e a b c : Expr} {f g k : M RV} {pos : Pos} {ta tb tc t : TE} {r r' : R2}
def OpV (r : R2) (g : D -> D -> Option RV) : Prop := ∀ R H x y d e rv (Q : VK), Same R H -> Pk R H x d -> Pk R H y e -> g d e = some rv -> (∀ z H' R', Al R H R' H' -> RvA R' H H' z rv -> Q z H') -> r x y H Q
def op2 (o : D -> D -> Option RV) (f g : M RV) : M RV := M.bind f fun x => M.bind g fun y => M.bind (peek x) fun d => M.bind (peek y) fun e => M.ofO (o d e)
theorem zkv {o : D -> D -> Option RV} (ho : OpV r o) (ha : RdE EE ios ta f) (hb : RdE EE ios tb g) : RdE EE ios (tOp r ta tb) (op2 o f g) := by
  intro σ H R Γ Q er w
  unfold op2 at w
  rw [zac] at w
  refine ha σ H R Γ _ er (zah w (fun rx Γ1 w x H1 R1 p1 hx => ?_) fun _ _ z => z)
  rw [zac] at w
  refine hb σ H1 R1 Γ1 _ p1.er (zah w (fun ry Γ2 w y H2 R2 p2 hy => ?_) fun _ _ z => EXP.trans p1 z)
  rw [zac] at w
  obtain ⟨d, pd, w⟩ := zbS p2.er (hx.go er p1 p2.go) w
  rw [zac] at w
  obtain ⟨e, pe, w⟩ := zbS p2.er hy w
  obtain ⟨rv, hg, w⟩ := zca w
  exact ho R2 H2 x y d e rv Q p2.er.sub pd pe hg fun z H' R' al ra => w z H' R' ((p1.trans p2).al al) (ra.rv ((p1.trans p2).back er))
theorem zaS {op : Operator} {o : D -> D -> Option RV} (h : OpR X (binaryOp op) r) (ho : OpV r o) (ha : VE X EE ios a f) (hb : VE X EE ios b g) : VE X EE ios (.BinOp a op b pos) (op2 o f g) :=
  let ⟨_, h1, h2⟩ := ha; let ⟨_, h3, h4⟩ := hb; ⟨_, zrA h h1 h3, zkv ho h2 h4⟩
theorem zeK {op : CmpOp} {o : D -> D -> Option RV} (h : OpR X (compareOp op) r) (ho : OpV r o) (ha : VE X EE ios a f) (hb : VE X EE ios b g) (hm : behindInMarks op b = false) : VE X EE ios (.Compare a [op] [b] pos) (op2 o f g) :=
  let ⟨_, h1, h2⟩ := ha; let ⟨_, h3, h4⟩ := hb; ⟨_, zow h h1 h3 hm, zkv ho h2 h4⟩
def asB (rv : RV) : M Bool := match rv with
  | .val (.bl b) => M.pure b
  | _ => M.st
theorem zh0 (h : RdE EE ios t f) : RdT EE ios (zmQ t) (M.bind f asB) := by
  intro σ H R Γ Q er w
  rw [zac] at w
  refine h σ H R Γ _ er (zah w (fun rv Γ1 w x H1 R1 p1 hx => ?_) fun _ _ z => z)
  unfold asB at w
  split at w
  · cases hx; exact ⟨_, rfl, w H1 R1 p1⟩
  · exact False.elim w
theorem zaC {op : CmpOp} {o : D -> D -> Option RV} (h : OpR X (compareOp op) r) (ho : OpV r o) (ha : VE X EE ios a f) (hb : VE X EE ios b g) (hm : behindInMarks op b = false) : VT X EE ios (.Compare a [op] [b] pos) (M.bind (op2 o f g) asB) :=
  let ⟨_, h1, h2⟩ := ha; let ⟨_, h3, h4⟩ := hb; ⟨_, znQ h h1 h3 hm, zh0 (zkv ho h2 h4)⟩
theorem zc0 (ha : VE X EE ios e f) (he : ∀ whole, isTrue e X.env whole = (do let v <- whole; standAt e.pos; holding [v] (truthy v)) := by intro _; rfl) : VT X EE ios e (M.bind f asB) :=
  let ⟨_, h1, h2⟩ := ha; ⟨_, zp4 h1 he, zh0 h2⟩
def op3 (o o' : D -> D -> Option RV) (f g k : M RV) : M RV := M.bind f fun x => M.bind g fun y => M.bind (peek x) fun d => M.bind (peek y) fun e => M.bind (M.bind (M.ofO (o d e)) asB) fun q =>
  if q then M.bind k fun z => M.bind (peek y) fun e' => M.bind (peek z) fun u => M.ofO (o' e' u) else M.pure (.val (.bl false))
theorem ziC {o o' : D -> D -> Option RV} (ho : OpV r o) (ho' : OpV r' o') (ha : RdE EE ios ta f) (hb : RdE EE ios tb g) (hc : RdE EE ios tc k) : RdE EE ios (zjK r r' ta tb tc) (op3 o o' f g k) := by
  intro σ H R Γ Q er w
  unfold op3 at w
  rw [zac] at w
  refine ha σ H R Γ _ er (zah w (fun rx Γ1 w x H1 R1 p1 hx => ?_) fun _ _ z => z)
  rw [zac] at w
  refine hb σ H1 R1 Γ1 _ p1.er (zah w (fun ry Γ2 w y H2 R2 p2 hy => ?_) fun _ _ z => EXP.trans p1 z)
  have p12 := p1.trans p2
  rw [zac] at w
  obtain ⟨d, pd, w⟩ := zbS p2.er (hx.go er p1 p2.go) w
  rw [zac] at w
  obtain ⟨e, pe, w⟩ := zbS p2.er hy w
  rw [zac, zac] at w
  obtain ⟨rv, hg, w⟩ := zca w
  refine ho R2 H2 x y d e rv _ p2.er.sub pd pe hg fun z H3 R3 al ra => ?_
  unfold asB at w
  split at w
  · rename_i q
    cases ra
    refine ⟨q, rfl, ?_⟩
    have w : wpM ((if q = true then M.bind k fun z => M.bind (peek ry) fun e' => M.bind (peek z) fun u => M.ofO (o' e' u) else M.pure (.val (.bl false))) Γ2) _ _ := w
    cases q with
    | false => exact zjQ (w (.bl false) H3 R3 (p12.al al) (.bl false))
    | true =>
      refine zjA ?_
      simp only [if_true] at w
      rw [zac] at w
      have p13 := p12.al al
      refine hc σ H3 R3 Γ2 _ p13.er (zah w (fun rz Γ4 w z H4 R4 p4 hz => ?_) fun _ _ z => EXP.trans p13 z)
      rw [zac] at w
      have hy3 : RvR R3 H1 H3 σ y ry := hy.go p1.er p2 al.go
      obtain ⟨e', pe', w⟩ := zbS p4.er (hy3.go p1.er (p2.al al) p4.go) w
      rw [zac] at w
      obtain ⟨u, pu, w⟩ := zbS p4.er hz w
      obtain ⟨rv, hg', w⟩ := zca w
      exact ho' R4 H4 y z e' u rv Q p4.er.sub pe' pu hg' fun v H' R' al' ra' => w v H' R' ((p13.trans p4).al al') (ra'.rv ((p13.trans p4).back er))
  · exact False.elim w
theorem ziE {op op' : CmpOp} {o o' : D -> D -> Option RV} (h : OpR X (compareOp op) r) (h' : OpR X (compareOp op') r') (ho : OpV r o) (ho' : OpV r' o') (ha : VE X EE ios a f) (hb : VE X EE ios b g) (hc : VE X EE ios c k)
    (hm : lastMarks [op, op'] [b, c] = false := by with_unfolding_all rfl) : VE X EE ios (.Compare a [op, op'] [b, c] pos) (op3 o o' f g k) :=
  let ⟨_, h1, h2⟩ := ha; let ⟨_, h3, h4⟩ := hb; let ⟨_, h5, h6⟩ := hc; ⟨_, zmh h h' h1 h3 h5 hm, ziC ho ho' h2 h4 h6⟩
theorem zl4 {op op' : CmpOp} {o o' : D -> D -> Option RV} (h : OpR X (compareOp op) r) (h' : OpR X (compareOp op') r') (ho : OpV r o) (ho' : OpV r' o') (ha : VE X EE ios a f) (hb : VE X EE ios b g) (hc : VE X EE ios c k)
    (hm : lastMarks [op, op'] [b, c] = false := by with_unfolding_all rfl) : VT X EE ios (.Compare a [op, op'] [b, c] pos) (M.bind (op3 o o' f g k) asB) :=
  let ⟨_, h1, h2⟩ := ha; let ⟨_, h3, h4⟩ := hb; let ⟨_, h5, h6⟩ := hc; ⟨_, znx h h' h1 h3 h5 hm, zh0 (ziC ho ho' h2 h4 h6)⟩
variable {p q : M Bool}
def ngM (p : M Bool) : M Bool := M.bind p fun b => M.pure (!b)
def andM (p q : M Bool) : M Bool := M.bind p fun b => if b then q else M.pure false
def orM (p q : M Bool) : M Bool := M.bind p fun b => if b then M.pure true else q
theorem zpy {t : TT} (h : RdT EE ios t p) : RdT EE ios (zrN t) (ngM p) := by
  intro σ H R Γ Q er w
  unfold ngM at w
  rw [zac] at w
  exact h σ H R Γ _ er (zah w (fun b Γ1 w H1 R1 p1 => w H1 R1 p1) fun _ _ z => z)
theorem zpj {t u : TT} (h : RdT EE ios t p) (h' : RdT EE ios u q) : RdT EE ios (zrH t u) (andM p q) := by
  intro σ H R Γ Q er w
  unfold andM at w
  rw [zac] at w
  refine h σ H R Γ _ er (zah w (fun b Γ1 w H1 R1 p1 => ?_) fun _ _ z => z)
  cases b with
  | false => exact zjQ (w H1 R1 p1)
  | true => exact zjA (h' σ H1 R1 Γ1 _ p1.er (zah w (fun b Γ2 w H2 R2 p2 => w H2 R2 (p1.trans p2)) fun _ _ z => EXP.trans p1 z))
theorem zq9 {t u : TT} (h : RdT EE ios t p) (h' : RdT EE ios u q) : RdT EE ios (tOr t u) (orM p q) := by
  intro σ H R Γ Q er w
  unfold orM at w
  rw [zac] at w
  refine h σ H R Γ _ er (zah w (fun b Γ1 w H1 R1 p1 => ?_) fun _ _ z => z)
  cases b with
  | true => exact zjA (w H1 R1 p1)
  | false => exact zjQ (h' σ H1 R1 Γ1 _ p1.er (zah w (fun b Γ2 w H2 R2 p2 => w H2 R2 (p1.trans p2)) fun _ _ z => EXP.trans p1 z))
theorem zcG (h : VT X EE ios a p) : VT X EE ios (.UnaryOp .Not a pos) (ngM p) := let ⟨_, h1, h2⟩ := h; ⟨_, zpx h1, zpy h2⟩
theorem zka (h : VT X EE ios a p) : VW X EE ios (.BoolOp .And [a] pos) p := let ⟨_, h1, h2⟩ := h; ⟨_, zos h1, h2⟩
theorem zcr (h : VT X EE ios a p) : VW X EE ios (.BoolOp .Or [a] pos) p := let ⟨_, h1, h2⟩ := h; ⟨_, zqf h1, h2⟩
theorem znA {rest : List Expr} (h : VT X EE ios a p) (h' : VW X EE ios (.BoolOp .And (b :: rest) pos) q) : VW X EE ios (.BoolOp .And (a :: b :: rest) pos) (andM p q) := let ⟨_, h1, h2⟩ := h; let ⟨_, h3, h4⟩ := h'; ⟨_, zp6 h1 h3, zpj h2 h4⟩
theorem zdh {rest : List Expr} (h : VT X EE ios a p) (h' : VW X EE ios (.BoolOp .Or (b :: rest) pos) q) : VW X EE ios (.BoolOp .Or (a :: b :: rest) pos) (orM p q) := let ⟨_, h1, h2⟩ := h; let ⟨_, h3, h4⟩ := h'; ⟨_, zrO h1 h3, zq9 h2 h4⟩
theorem zbI (h : VW X EE ios a p) : VT X EE ios a p := let ⟨_, h1, h2⟩ := h; ⟨_, PW.pt h1, h2⟩
def zoF (p : M Bool) : M RV := M.bind p fun b => M.pure (.val (.bl b))
def zfj (f g : M RV) : M RV := M.bind (M.bind f asB) fun b => if b then g else M.pure (.val (.bl false))
def orV (f g : M RV) : M RV := M.bind (M.bind f asB) fun b => if b then M.pure (.val (.bl true)) else g
theorem zgQ {R0 H0 R H R' H' : Hp} {σ : St} {Γ0 Γ Γ' : En} {x : V} {rv : RV} (er : ER ios R0 H0 σ Γ0) (p1 : EPo ios R0 H0 σ Γ0 R H Γ) (h : RvR R' H H' σ x rv) : RvR R' H0 H' σ x rv := by
  cases rv with
  | val d => exact h
  | new d => obtain ⟨h1, a, h2, h3⟩ := h; exact ⟨h1, a, h2, p1.back er _ h3⟩
  | var i => exact h
theorem zin {op : BoolOp} (h : VE X EE ios a f) : VE X EE ios (.BoolOp op [a] pos) f := let ⟨_, h1, h2⟩ := h; ⟨_, zpG h1, h2⟩
theorem zdk {rest : List Expr} (h : VE X EE ios a f) (h' : VE X EE ios (.BoolOp .And (b :: rest) pos) g) : VE X EE ios (.BoolOp .And (a :: b :: rest) pos) (zfj f g) := by
  obtain ⟨_, h1, h2⟩ := h
  obtain ⟨_, h3, h4⟩ := h'
  refine ⟨_, zpz h1 h3, fun σ H R Γ Q er w => ?_⟩
  unfold zfj at w
  rw [zac] at w
  refine h2 σ H R Γ _ er (zah (by rw [zac] at w; exact w) (fun rv Γ1 w x H1 R1 p1 hx => ?_) fun _ _ z => z)
  unfold asB at w
  split at w
  · rename_i q
    cases hx
    refine ⟨_, rfl, ?_⟩
    cases q with
    | false => exact zjQ (w (.bl false) H1 R1 p1 (.bl false))
    | true => exact zjA (h4 σ H1 R1 Γ1 _ p1.er (zah w (fun rv Γ2 w y H2 R2 p2 hy => w y H2 R2 (p1.trans p2) (zgQ (Γ' := Γ2) er p1 hy)) fun _ _ z => EXP.trans p1 z))
  · exact False.elim w
theorem zp0 (h : VE X EE ios a f) : VE X EE ios (.UnaryOp .Not a pos) (zoF (ngM (M.bind f asB))) := by
  obtain ⟨_, h1, h2⟩ := h
  refine ⟨_, zpX h1, fun σ H R Γ Q er w => ?_⟩
  unfold zoF ngM at w
  rw [zac, zac, zac] at w
  refine h2 σ H R Γ _ er (zah w (fun rv Γ1 w x H1 R1 p1 hx => ?_) fun _ _ z => z)
  unfold asB at w
  split at w
  · cases hx
    exact ⟨_, rfl, w _ H1 R1 p1 (.bl _)⟩
  · exact False.elim w
def znU (p : M Bool) (f g : M RV) : M RV := M.bind p fun b => if b then f else g
theorem zqy (hc : VT X EE ios c p) (h : VE X EE ios a f) (h' : VE X EE ios b g) : VE X EE ios (.IfExp c a b pos) (znU p f g) := by
  obtain ⟨_, h0, h0'⟩ := hc
  obtain ⟨_, h1, h2⟩ := h
  obtain ⟨_, h3, h4⟩ := h'
  refine ⟨_, zlX h0 h1 h3, fun σ H R Γ Q er w => ?_⟩
  unfold znU at w
  rw [zac] at w
  refine h0' σ H R Γ _ er (zah w (fun b Γ1 w H1 R1 p1 => ?_) fun _ _ z => z)
  cases b with
  | true => exact zjA (h2 σ H1 R1 Γ1 _ p1.er (zah w (fun rv Γ2 w y H2 R2 p2 hy => w y H2 R2 (p1.trans p2) (zgQ (Γ' := Γ2) er p1 hy)) fun _ _ z => EXP.trans p1 z))
  | false => exact zjQ (h4 σ H1 R1 Γ1 _ p1.er (zah w (fun rv Γ2 w y H2 R2 p2 hy => w y H2 R2 (p1.trans p2) (zgQ (Γ' := Γ2) er p1 hy)) fun _ _ z => EXP.trans p1 z))
end
end Dv
end
section
namespace Dv
open PySem L2 Ex
variable [KC]
mutual
def D.py : D -> PyData
  | .non => .none
  | .bl b => .bool b
  | .int i => .int i
  | .str x => .str x
  | .lst xs => .list (D.pys xs)
  | .tup xs => .tuple (D.pys xs)
  | .dic _ _ => .dict []
  | .scr _ => .dict []
  | .ins _ _ _ => .dict []
  | .obj _ _ _ => .dict []
def D.pys : List D -> List PyData
  | [] => []
  | x :: r => x.py :: D.pys r
end
mutual
theorem Rp.dat {H : Hp} : ∀ {x : V} {d : D}, Rp H x d -> d.py.canLay0 = true -> DatV H x d.py
  | _, _, .non, _ => .non
  | _, _, .bl b, _ => .bl b
  | _, _, .int i, _ => .int i
  | _, _, .str x, _ => .str x
  | _, _, .lst e h, p => .lst e (Rps.dat h (by simpa [D.py, PyData.canLay0] using p))
  | _, _, .tup e h, p => .tup e (Rps.dat h (by simpa [D.py, PyData.canLay0] using p))
  | _, _, .dnil e, p => by simp [D.py, PyData.canLay0] at p
  | _, _, .scr e, p => by simp [D.py, PyData.canLay0] at p
  | _, _, .exc0 e, p => by simp [D.py, PyData.canLay0] at p
  | _, _, .exc e e' h, p => by simp [D.py, PyData.canLay0] at p
  | _, _, .obj e h, p => by simp [D.py, PyData.canLay0] at p
theorem Rps.dat {H : Hp} : ∀ {xs : List V} {ds : List D}, Rps H xs ds -> PyData.canLayAll0 (D.pys ds) = true -> DatsV H xs (D.pys ds)
  | _, _, .nil, _ => .nil
  | _, _, .cons a b, p => by
    have p := Bool.and_eq_true_iff.mp (show (PyData.canLay0 _ && PyData.canLayAll0 _) = true from by simpa only [D.pys, PyData.canLayAll0] using p)
    exact .cons (Rp.dat a p.1) (Rps.dat b p.2)
end
def eqB (d e : D) : Bool := PyData.eqv d.py e.py
def zeL (d : D) : Bool := SeqAt.shaped d.py
theorem zen {d : D} (h : zeL d = true) : d.py.canLay0 = true := SeqAt.canLay_of_shaped h
def eqO (d e : D) : Option RV := if zeL d && zeL e then some (.val (.bl (eqB d e))) else none
def neO (d e : D) : Option RV := if zeL d && zeL e then some (.val (.bl (!eqB d e))) else none
section
variable {K : PySem.W.Frag}
theorem zqn : OpV zqb eqO := by
  intro R H x y d e rv Q s px py hg q
  unfold eqO at hg
  split at hg
  · rename_i c
    rw [Bool.and_eq_true] at c
    cases hg
    exact ⟨d.py, e.py, (px.hv s).dat (zen c.1), (py.hv s).dat (zen c.2), c.1, c.2, q _ H R (Al.refl s) (.bl _)⟩
  · cases hg
theorem zp3 : OpV zqw neO := by
  intro R H x y d e rv Q s px py hg q
  unfold neO at hg
  split at hg
  · rename_i c
    rw [Bool.and_eq_true] at c
    cases hg
    exact ⟨d.py, e.py, (px.hv s).dat (zen c.1), (py.hv s).dat (zen c.2), c.1, c.2, q _ H R (Al.refl s) (.bl _)⟩
  · cases hg
def zbC : D -> D -> Option RV
  | .str x, .str y => some (.val (.bl (decide (x = y))))
  | d, e => eqO d e
def zbk : D -> D -> Option RV
  | .str x, .str y => some (.val (.bl (!decide (x = y))))
  | d, e => neO d e
def zq8 : R2 := fun x y H Q => zqb x y H Q \/ rEq x y H Q
def zrD : R2 := fun x y H Q => zqw x y H Q \/ rNe x y H Q
omit [KC] in
theorem zcf {X : Cx} {k : Nat} (hr : Room k X.A) : OpR X (compareOp .Eq) zq8 := (zlB hr).or op_eq
omit [KC] in
theorem zbR {X : Cx} {k : Nat} (hr : Room k X.A) : OpR X (compareOp .NotEq) zrD := (zlg hr).or zrt
omit [KC] in
theorem zky (x y : Str) : decide (V.str x = V.str y) = decide (x = y) := by
  by_cases h : x = y
  · subst h; simp
  · simp [h]
theorem zbT : OpV zq8 zbC := by
  intro R H x y d e rv Q s px py hg q
  unfold zbC at hg
  split at hg
  · cases hg
    cases px.str
    cases py.str
    refine .inr ⟨rfl, ?_⟩
    rw [zky]
    exact q _ H R (Al.refl s) (.bl _)
  · exact .inl (zqn R H x y _ _ rv Q s px py hg q)
theorem zbx : OpV zrD zbk := by
  intro R H x y d e rv Q s px py hg q
  unfold zbk at hg
  split at hg
  · cases hg
    cases px.str
    cases py.str
    refine .inr ⟨rfl, ?_⟩
    rw [zky]
    exact q _ H R (Al.refl s) (.bl _)
  · exact .inl (zp3 R H x y _ _ rv Q s px py hg q)
def zk6 (g : Int -> Int -> D) (d e : D) : Option RV := match d, e with
  | .int i, .int j => some (.val (g i j))
  | _, _ => none
def zmL (C : Int -> Int -> Bool) (g : Int -> Int -> D) (d e : D) : Option RV := match d, e with
  | .int i, .int j => if C i j then some (.val (g i j)) else none
  | _, _ => none
theorem zis {g : Int -> Int -> V} {g' : Int -> Int -> D} (h : ∀ R i j, Rp R (g i j) (g' i j)) : OpV (rI0 g) (zk6 g') := by
  intro R H x y d e rv Q s px py hg q
  unfold zk6 at hg
  split at hg
  · cases hg
    exact ⟨_, _, px.int, py.int, q _ H R (Al.refl s) (h R _ _)⟩
  · cases hg
theorem zgH {C : Int -> Int -> Prop} {C' : Int -> Int -> Bool} {g : Int -> Int -> V} {g' : Int -> Int -> D} (hC : ∀ i j, C' i j = true -> C i j) (h : ∀ R i j, Rp R (g i j) (g' i j)) : OpV (rI C g) (zmL C' g') := by
  intro R H x y d e rv Q s px py hg q
  unfold zmL at hg
  split at hg
  · split at hg
    · rename_i c
      cases hg
      exact ⟨_, _, px.int, py.int, hC _ _ c, q _ H R (Al.refl s) (h R _ _)⟩
    · cases hg
  · cases hg
noncomputable def cd (p : Prop) : Bool := @decide p (Classical.propDecidable p)
omit [KC] in
theorem zda {p : Prop} (h : p) : cd p = true := by unfold cd; exact @decide_eq_true p (Classical.propDecidable p) h
omit [KC] in
theorem zeC {p : Prop} (h : cd p = true) : p := by unfold cd at h; exact @of_decide_eq_true p (Classical.propDecidable p) h
abbrev ltO := zk6 fun i j => .bl (decide (i < j))
abbrev leO := zk6 fun i j => .bl (decide (i <= j))
abbrev gtO := zk6 fun i j => .bl (decide (j < i))
noncomputable abbrev zhQ := zmL (fun _ j => cd (0 < j)) fun i j => .int (i % j)
noncomputable abbrev zkK := zmL (fun _ j => cd (0 < j /\ j < 1073741824)) fun i j => .int (i / j)
noncomputable abbrev zpR := zmL (fun i j => cd (0 <= j /\ j <= 1000000 /\ i.natAbs < 2 ^ 64)) fun i j => .int (i ^ j.toNat)
theorem zeN : OpV (rI0 fun i j => .bl (decide (i < j))) ltO := zis fun _ _ _ => .bl _
theorem zhM : OpV (rI0 fun i j => .bl (decide (i <= j))) leO := zis fun _ _ _ => .bl _
theorem zqr : OpV (rI0 fun i j => .bl (decide (j < i))) gtO := zis fun _ _ _ => .bl _
theorem zdM : OpV (rI (fun _ j => 0 < j) fun i j => .int (i % j)) zhQ := zgH (fun _ _ h => zeC h) fun _ _ _ => .int _
theorem ziv : OpV (rI zqZ fun i j => .int (i / j)) zkK := zgH (fun _ _ h => zeC h) fun _ _ _ => .int _
theorem zot : OpV (rI zrM fun i j => .int (i ^ j.toNat)) zpR := zgH (fun _ _ h => zeC h) fun _ _ _ => .int _
theorem zcJ {R H : Hp} {p : Addr} {xs : List V} {ds : List D} (s : Same R H) (hp : H p = none) (h : Rps R xs ds) : Al R H R (upd H p (.lst xs)) /\ RvA R H (upd H p (.lst xs)) (.ref p) (.new (.lst ds)) :=
  ⟨⟨s.trans (zcw hp), Same.refl _, zcw hp, fun _ _ _ z => z⟩, ⟨p, xs, ds, rfl, s.free hp, za3, rfl, h⟩, p, rfl, hp⟩
theorem zgA {R H : Hp} {p : Addr} {xs : List V} {ds : List D} (s : Same R H) (hp : H p = none) (h : Rps R xs ds) : Al R H (upd R p (.tup xs)) (upd H p (.tup xs)) /\ RvA (upd R p (.tup xs)) H (upd H p (.tup xs)) (.ref p) (.val (.tup ds)) := by
  have hr : R p = none := s.free hp
  refine ⟨⟨fun b o e => ?_, zcw hr, zcw hp, fun b o e r => ?_⟩, .tup za3 (h.sm (zcw hr))⟩
  · by_cases hb : b = p
    · subst hb; rw [za3] at e ⊢; exact e
    · rw [zay hb] at e ⊢; exact s b o e
  · rw [zay (zaQ e hp)]; exact r
def zbb (d e : D) : Option RV := match d, e with
  | .int i, .int j => some (.val (.int (i + j)))
  | .lst xs, .lst ys => if xs.length + ys.length <= sizeLine then some (.new (.lst (xs ++ ys))) else none
  | .str i, .str j => if i.length + j.length <= sizeLine then some (.val (.str (i ++ j))) else none
  | _, _ => none
def znj : R2 := fun x y H Q => rI0 (fun i j => .int (i + j)) x y H Q \/ (zrw x y H Q \/ (∃ i j, x = .str i /\ y = .str j /\ i.length + j.length <= sizeLine /\ Q (.str (i ++ j)) H))
theorem op_add3 {X : Cx} : OpR X (binaryOp .Add) znj := op_add.or (op_cat.or zjo)
theorem zaO : OpV znj zbb := by
  intro R H x y d e rv Q s px py hg q
  unfold zbb at hg
  split at hg
  · cases hg
    exact .inl ⟨_, _, px.int, py.int, q _ H R (Al.refl s) (.int _)⟩
  · split at hg
    · rename_i c
      cases hg
      obtain ⟨a, xs, rfl, h1, h2⟩ := px.lst s
      obtain ⟨b, ys, rfl, h3, h4⟩ := py.lst s
      refine .inr (.inl ⟨a, b, xs, ys, rfl, rfl, h1, h3, by rw [h2.len, h4.len]; exact c, fun p hp => ?_⟩)
      obtain ⟨al, rv⟩ := zcJ s hp (h2.app h4)
      exact q _ _ _ al rv
    · cases hg
  · split at hg
    · rename_i c
      cases hg
      exact .inr (.inr ⟨_, _, px.str, py.str, c, q _ H R (Al.refl s) (.str _)⟩)
    · cases hg
  · cases hg
noncomputable def zfX (i j : Int) : Bool := cd (CMul i j)
noncomputable def zg8 (d e : D) : Option RV := match d, e with
  | .int i, .int j => if zfX i j then some (.val (.int (i * j))) else none
  | _, _ => none
theorem zns {i j : Int} (h : zfX i j = true) : CMul i j := zeC h
theorem zdD : OpV (rI CMul fun i j => .int (i * j)) zg8 := by
  intro R H x y d e rv Q s px py hg q
  unfold zg8 at hg
  split at hg
  · split at hg
    · rename_i c
      cases hg
      exact ⟨_, _, px.int, py.int, zns c, q _ H R (Al.refl s) (.int _)⟩
    · cases hg
  · cases hg
def isNone : D -> Bool
  | .non => true
  | _ => false
theorem Pk.isNone {R H : Hp} {x : V} {d : D} (h : Pk R H x d) : decide (x = .non) = isNone d := by
  rcases h with h | ⟨a, xs, ds, rfl, _, rfl, _⟩
  · cases h <;> first | rfl | exact decide_eq_false (fun z => nomatch z)
  · exact decide_eq_false (fun z => nomatch z)
def isO (d e : D) : Option RV := match e with
  | .non => some (.val (.bl (isNone d)))
  | _ => none
def ziP (d e : D) : Option RV := match e with
  | .non => some (.val (.bl (!isNone d)))
  | _ => none
theorem Pk.nonv {R H : Hp} {x : V} (h : Pk R H x .non) : x = .non := by
  rcases h with h | ⟨a, xs, ds, rfl, _, h2, _⟩
  · cases h; rfl
  · cases h2
theorem zdX : OpV (fun x y H Q => y = .non /\ Q (.bl (decide (x = .non))) H) isO := by
  intro R H x y d e rv Q s px py hg q
  unfold isO at hg
  split at hg
  · cases hg
    refine ⟨py.nonv, ?_⟩
    rw [px.isNone]
    exact q _ H R (Al.refl s) (.bl _)
  · cases hg
theorem zmd : OpV (fun x y H Q => y = .non /\ Q (.bl (!decide (x = .non))) H) ziP := by
  intro R H x y d e rv Q s px py hg q
  unfold ziP at hg
  split at hg
  · cases hg
    refine ⟨py.nonv, ?_⟩
    rw [px.isNone]
    exact q _ H R (Al.refl s) (.bl _)
  · cases hg
def zcF : D -> Bool
  | .non => true
  | .bl _ => true
  | .int _ => true
  | .str _ => true
  | _ => false
def eqF : D -> D -> Bool
  | .non, .non => true
  | .bl a, .bl b => a == b
  | .bl a, .int b => (if a then 1 else 0) == b
  | .int a, .bl b => a == (if b then 1 else 0)
  | .int a, .int b => a == b
  | .str a, .str b => a == b
  | _, _ => false
theorem Rp.flat {R : Hp} {x : V} {d : D} (h : Rp R x d) : zcy x = zcF d := by cases h <;> rfl
theorem Rp.eqf {R : Hp} {x y : V} {d e : D} (h : Rp R x d) (h' : Rp R y e) : eqV x y = eqF d e := by cases h <;> cases h' <;> rfl
theorem Rps.flats {R : Hp} : ∀ {xs : List V} {ds : List D}, Rps R xs ds -> xs.all zcy = ds.all zcF
  | _, _, .nil => rfl
  | _, _, .cons a b => by rw [List.all_cons, List.all_cons, a.flat, Rps.flats b]
theorem Rps.inf {R : Hp} {x : V} {d : D} (h : Rp R x d) : ∀ {xs : List V} {ds : List D}, Rps R xs ds -> inV x xs = ds.any (fun e => eqF e d)
  | _, _, .nil => rfl
  | _, _, .cons a b => by
    show (eqV _ x || inV x _) = _
    rw [List.any_cons, a.eqf h, Rps.inf h b]
def zrS : D -> Option (List D)
  | .lst xs => some xs
  | .tup xs => some xs
  | _ => none
def inO (neg : Bool) (d e : D) : Option RV := match zrS e with
  | some xs => if zcF d && xs.all zcF then some (.val (.bl (if neg then !xs.any (fun e => eqF e d) else xs.any (fun e => eqF e d)))) else none
  | none => none
theorem Pk.seq {R H : Hp} {x : V} {d : D} {ds : List D} (s : Same R H) (h : Pk R H x d) (e : zrS d = some ds) : ∃ p xs, x = .ref p /\ (SqL K H p xs \/ SqT K H p xs) /\ Rps R xs ds := by
  cases d <;> first | (cases e; done) | skip
  · cases e; obtain ⟨a, xs, rfl, h1, h2⟩ := h.lst s; exact ⟨a, xs, rfl, .inl (SqL.of h1), h2⟩
  · cases e; obtain ⟨a, xs, rfl, h1, h2⟩ := h.tup; exact ⟨a, xs, rfl, .inr (SqT.of (s _ _ h1)), h2⟩
theorem zdY {neg : Bool} : OpV (rIn K neg) (inO neg) := by
  intro R H x y d e rv Q s px py hg q
  unfold inO at hg
  split at hg
  · rename_i ds hs
    split at hg
    · rename_i c
      rw [Bool.and_eq_true] at c
      cases hg
      obtain ⟨p, xs, rfl, h1, h2⟩ := py.seq (K := K) s hs
      have px' := px.hv s
      have h2' := h2.sm s
      refine ⟨p, xs, rfl, h1, by rw [px'.flat]; exact c.1, by rw [h2'.flats]; exact c.2, ?_⟩
      rw [Rps.inf px' h2']
      exact q _ H R (Al.refl s) (.bl _)
    · cases hg
  · cases hg
end
end Dv
end
section
namespace Dv
open PySem L2 Ex
variable [KC]
section
variable {X : Cx} {EE : XKS} {ios : List Addr} {e a b c : Expr} {es : List Expr} {f g k : M RV} {fs : M (List RV)} {pos : Pos} {ta tb tc t : TE} {r r' : R2}
def zg0 (f : M RV) : M RV := M.bind f fun rv => match rv with
  | .var i => M.pure (.var i)
  | rv => M.bind (mat rv) fun d => M.pure (.val d)
def Zj (f : M RV) (g : M (List RV)) : M (List RV) := M.bind (zg0 f) fun x => M.bind g fun xs => M.pure (x :: xs)
theorem zjE (h : RdE EE ios t f) {σ : St} {H R : Hp} {Γ : En} {Q : VK} (er : ER ios R H σ Γ)
    (w : wpM (zg0 f Γ) (fun rv Γ' => ∀ x H' R', EPo ios R H σ Γ R' H' Γ' -> ArR R' σ x rv -> Q x H') (EXP EE ios R H σ Γ)) : t σ H Q := by
  unfold zg0 at w
  rw [zac] at w
  refine h σ H R Γ _ er (zah w (fun rv Γ1 w x H1 R1 p1 hx => ?_) fun _ _ z => z)
  cases rv with
  | var i => exact w x H1 R1 p1 hx
  | val d =>
    rw [zac] at w
    obtain ⟨d, Γ2, R2, e2, _, r2, w⟩ := zec er p1 hx w
    exact w x H1 R2 e2 r2
  | new d =>
    rw [zac] at w
    obtain ⟨d, Γ2, R2, e2, _, r2, w⟩ := zec er p1 hx w
    exact w x H1 R2 e2 r2
theorem zab : VA X EE ios [] (M.pure []) := ⟨_, zbh, fun σ H R Γ Q er w => w [] H R (EPo.refl er) .nil⟩
theorem zoL {u : TA} (h : RdE EE ios t f) (h' : RdA EE ios u fs) : RdA EE ios (zhu t u) (Zj f fs) := by
  intro σ H R Γ Q er w
  unfold Zj at w
  rw [zac] at w
  refine zjE h er (zah w (fun rv Γ1 w x H1 R1 p1 hx => ?_) fun _ _ z => z)
  rw [zac] at w
  refine h' σ H1 R1 Γ1 _ p1.er (zah w (fun rvs Γ2 w xs H2 R2 p2 hxs => ?_) fun _ _ z => EXP.trans p1 z)
  exact w (x :: xs) H2 R2 (p1.trans p2) (.cons (hx.sm p2.go.rr) hxs)
theorem ZS (ha : VE X EE ios e f) (hr : VA X EE ios es fs) (hs : starEach (e :: es) X.env = (false, eval e X.env) :: starEach es X.env := by rfl) : VA X EE ios (e :: es) (Zj f fs) :=
  let ⟨_, h1, h2⟩ := ha; let ⟨_, h3, h4⟩ := hr; ⟨_, zap h1 h3 hs, zoL h2 h4⟩
def za8 : List RV -> M (List D)
  | [] => M.pure []
  | rv :: r => M.bind (mat rv) fun d => M.bind (za8 r) fun ds => M.pure (d :: ds)
def za1 : List RV -> M (List D)
  | [] => M.pure []
  | rv :: r => M.bind (peek rv) fun d => M.bind (za1 r) fun ds => M.pure (d :: ds)
inductive Pks (R H : Hp) : List V -> List D -> Prop where
  | nil : Pks R H [] []
  | cons {x : V} {d : D} {xs : List V} {ds : List D} : Pk R H x d -> Pks R H xs ds -> Pks R H (x :: xs) (d :: ds)
theorem zdH {R H : Hp} {σ : St} {Γ : En} (er : ER ios R H σ Γ) : ∀ {xs : List V} {rvs : List RV} {K : List D -> En -> Prop} {E : Xc -> En -> Prop}, ArsR R σ xs rvs -> wpM (za1 rvs Γ) K E -> ∃ ds, Pks R H xs ds /\ K ds Γ
  | _, _, K, E, .nil, w => ⟨[], .nil, w⟩
  | _, _, K, E, .cons a b, w => by
    unfold za1 at w
    rw [zac] at w
    obtain ⟨d, pd, w⟩ := zbS (H := H) er a.rv w
    rw [zac] at w
    obtain ⟨ds, pds, w⟩ := zdH er b w
    exact ⟨d :: ds, .cons pd pds, w⟩
theorem zbE {R0 H0 H : Hp} {σ : St} {Γ0 : En} (er : ER ios R0 H0 σ Γ0) : ∀ {xs : List V} {rvs : List RV} {R : Hp} {Γ : En} {K : List D -> En -> Prop} {E : Xc -> En -> Prop}, EPo ios R0 H0 σ Γ0 R H Γ -> ArsR R σ xs rvs -> wpM (za8 rvs Γ) K E ->
    ∃ ds Γ' R', EPo ios R0 H0 σ Γ0 R' H Γ' /\ Same R R' /\ Rps R' xs ds /\ K ds Γ'
  | _, _, R, Γ, K, E, p, .nil, w => ⟨[], Γ, R, p, Same.refl _, .nil, w⟩
  | _, _, R, Γ, K, E, p, .cons a b, w => by
    unfold za8 at w
    rw [zac] at w
    obtain ⟨d, Γ1, R1, p1, s1, r1, w⟩ := zec er p a.rv w
    rw [zac] at w
    obtain ⟨ds, Γ2, R2, p2, s2, r2, w⟩ := zbE er p1 (b.sm s1) w
    exact ⟨d :: ds, Γ2, R2, p2, s1.trans s2, .cons (r1.sm s2) r2, w⟩
def lstM (fs : M (List RV)) : M RV := M.bind fs fun rvs => M.bind (za8 rvs) fun ds => if ds.length <= sizeLine then M.pure (.new (.lst ds)) else M.st
def zbp (fs : M (List RV)) : M RV := M.bind fs fun rvs => M.bind (za8 rvs) fun ds => if ds.length <= sizeLine then M.pure (.val (.tup ds)) else M.st
theorem zas (h : VA X EE ios es fs) : VE X EE ios (.List es pos) (lstM fs) := by
  obtain ⟨t, h1, h2⟩ := h
  refine ⟨_, zpk h1, fun σ H R Γ Q er w => ?_⟩
  unfold lstM at w
  rw [zac] at w
  refine h2 σ H R Γ _ er (zah w (fun rvs Γ1 w xs H1 R1 p1 hx => ?_) fun _ _ z => z)
  rw [zac] at w
  obtain ⟨ds, Γ2, R2, p2, s2, r2, w⟩ := zbE er p1 hx w
  split at w
  · rename_i c
    refine ⟨by rw [r2.len]; exact c, fun p hp => ?_⟩
    obtain ⟨al, rv⟩ := zcJ p2.er.sub hp r2
    exact w _ _ _ (p2.al al) (rv.rv (p2.back er))
  · exact False.elim w
theorem zbl {k1 : Nat} (h : VA X EE ios es fs) : VE X EE ios (.Tuple es k1 pos) (zbp fs) := by
  obtain ⟨t, h1, h2⟩ := h
  refine ⟨_, zpP h1, fun σ H R Γ Q er w => ?_⟩
  unfold zbp at w
  rw [zac] at w
  refine h2 σ H R Γ _ er (zah w (fun rvs Γ1 w xs H1 R1 p1 hx => ?_) fun _ _ z => z)
  rw [zac] at w
  obtain ⟨ds, Γ2, R2, p2, s2, r2, w⟩ := zbE er p1 hx w
  split at w
  · rename_i c
    refine ⟨by rw [r2.len]; exact c, fun p hp => ?_⟩
    obtain ⟨al, rv⟩ := zgA p2.er.sub hp r2
    exact w _ _ _ (p2.al al) (rv.rv (p2.back er))
  · exact False.elim w
def zeW (r : List V -> Hp -> VK -> Prop) (g : List D -> Option RV) : Prop := ∀ R H xs ds rv (Q : VK), Same R H -> Pks R H xs ds -> g ds = some rv -> (∀ z H' R', Al R H R' H' -> RvA R' H H' z rv -> Q z H') -> r xs H Q
def zaV (g : List D -> Option RV) (fs : M (List RV)) : M RV := M.bind fs fun rvs => M.bind (za1 rvs) fun ds => M.ofO (g ds)
theorem zbj {r : List V -> Hp -> VK -> Prop} {g : List D -> Option RV} {e0 : Expr} (hp : ∀ t, PA X es t -> PE X e0 (tCB r t)) (hv : zeW r g) (ha : VA X EE ios es fs) : VE X EE ios e0 (zaV g fs) := by
  obtain ⟨t, h1, h2⟩ := ha
  refine ⟨_, hp t h1, fun σ H R Γ Q er w => ?_⟩
  unfold zaV at w
  rw [zac] at w
  refine h2 σ H R Γ _ er (zah w (fun rvs Γ1 w xs H1 R1 p1 hx => ?_) fun _ _ z => z)
  rw [zac] at w
  obtain ⟨ds, pd, w⟩ := zdH p1.er hx w
  obtain ⟨rv, hg, w⟩ := zca w
  exact hv R1 H1 xs ds rv Q p1.er.sub pd hg fun z H' R' al ra => w z H' R' (p1.al al) (ra.rv (p1.back er))
theorem Pks.one {R H : Hp} {xs : List V} {d : D} (h : Pks R H xs [d]) : ∃ x, xs = [x] /\ Pk R H x d := by
  cases h with | cons a b => cases b; exact ⟨_, rfl, a⟩
theorem Pks.two {R H : Hp} {xs : List V} {d e : D} (h : Pks R H xs [d, e]) : ∃ x y, xs = [x, y] /\ Pk R H x d /\ Pk R H y e := by
  cases h with | cons a b => obtain ⟨y, rfl, q⟩ := b.one; exact ⟨_, _, rfl, a, q⟩
def zbZ : List D -> Option RV
  | [.lst xs] => some (.val (.int xs.length))
  | [.tup xs] => some (.val (.int xs.length))
  | [.scr xs] => some (.val (.int xs.length))
  | [.str z] => if z.length <= sizeLine then some (.val (.int z.length)) else none
  | _ => none
def zrs (K : PySem.W.Frag) : List V -> Hp -> VK -> Prop := fun xs H Q => (∃ p ys, xs = [.ref p] /\ (SqL K H p ys \/ SqT K H p ys) /\ Q (.int ys.length) H) \/ (∃ z, xs = [.str z] /\ z.length <= sizeLine /\ Q (.int z.length) H)
theorem za5 : CallR X (.builtin "len") (zrs X.K) := call_len_seq.or ziq
theorem za6 : zeW (zrs KC.K) zbZ := by
  intro R H xs ds rv Q s px hg q
  unfold zbZ at hg
  split at hg
  · cases hg
    obtain ⟨x, rfl, p⟩ := px.one
    obtain ⟨a, ys, rfl, h1, h2⟩ := p.lst s
    refine .inl ⟨a, ys, rfl, .inl (SqL.of h1), ?_⟩
    rw [h2.len]
    exact q _ H R (Al.refl s) (.int _)
  · cases hg
    obtain ⟨x, rfl, p⟩ := px.one
    obtain ⟨a, ys, rfl, h1, h2⟩ := p.tup
    refine .inl ⟨a, ys, rfl, .inr (SqT.of (s _ _ h1)), ?_⟩
    rw [h2.len]
    exact q _ H R (Al.refl s) (.int _)
  · cases hg
    obtain ⟨x, rfl, p⟩ := px.one
    rcases p with p | ⟨_, _, _, _, _, z, _⟩
    · cases p with
      | scr h1 =>
        refine .inl ⟨_, _, rfl, .inl (s.seq h1), ?_⟩
        rw [List.length_map]
        exact q _ H R (Al.refl s) (.int _)
    · cases z
  · split at hg
    · rename_i c
      cases hg
      obtain ⟨x, rfl, p⟩ := px.one
      cases p.str
      exact .inr ⟨_, rfl, c, q _ H R (Al.refl s) (.int _)⟩
    · cases hg
  · cases hg
def zr5 : List D -> Option RV
  | [.int i] => some (.val (.int (if i < 0 then -i else i)))
  | _ => none
def ziA : List D -> Option RV
  | [.int i, .int j] => some (.val (.int (if j > i then j else i)))
  | _ => none
def ziR : List D -> Option RV
  | [.int i, .int j] => some (.val (.int (if j < i then j else i)))
  | _ => none
theorem zjt : zeW (fun xs H Q => ∃ i j, xs = [.int i, .int j] /\ Q (.int (if j > i then j else i)) H) ziA := by
  intro R H xs ds rv Q s px hg q
  unfold ziA at hg
  split at hg
  · cases hg
    obtain ⟨x, y, rfl, p, p'⟩ := px.two
    exact ⟨_, _, by rw [p.int, p'.int], q _ H R (Al.refl s) (.int _)⟩
  · cases hg
theorem zjv : zeW (fun xs H Q => ∃ i j, xs = [.int i, .int j] /\ Q (.int (if j < i then j else i)) H) ziR := by
  intro R H xs ds rv Q s px hg q
  unfold ziR at hg
  split at hg
  · cases hg
    obtain ⟨x, y, rfl, p, p'⟩ := px.two
    exact ⟨_, _, by rw [p.int, p'.int], q _ H R (Al.refl s) (.int _)⟩
  · cases hg
def zhy : List D -> Option RV
  | [.int i] => some (.val (.int i))
  | [.bl k] => some (.val (.int (if k then 1 else 0)))
  | _ => none
theorem zlQ : zeW (fun xs H Q => (∃ i, xs = [.int i] /\ Q (.int i) H) \/ ∃ k, xs = [.bl k] /\ Q (.int (if k then 1 else 0)) H) zhy := by
  intro R H xs ds rv Q s px hg q
  unfold zhy at hg
  split at hg
  · cases hg
    obtain ⟨x, rfl, p⟩ := px.one
    exact .inl ⟨_, by rw [p.int], q _ H R (Al.refl s) (.int _)⟩
  · cases hg
    obtain ⟨x, rfl, p⟩ := px.one
    exact .inr ⟨_, by rw [p.bl], q _ H R (Al.refl s) (.int _)⟩
  · cases hg
def zeZ : List D -> Option RV
  | [.lst xs] => some (.new (.lst xs))
  | [.tup xs] => some (.new (.lst xs))
  | _ => none
theorem zgE {K : PySem.W.Frag} : zeW (fun xs H Q => ∃ p ys, xs = [.ref p] /\ (SqL K H p ys \/ SqT K H p ys) /\ ∀ l, H l = none -> Q (.ref l) (upd H l (.lst ys))) zeZ := by
  intro R H xs ds rv Q s px hg q
  unfold zeZ at hg
  split at hg
  · cases hg
    obtain ⟨x, rfl, p⟩ := px.one
    obtain ⟨a, ys, rfl, h1, h2⟩ := p.lst s
    refine ⟨a, ys, rfl, .inl (SqL.of h1), fun l hl => ?_⟩
    obtain ⟨al, rv⟩ := zcJ s hl h2
    exact q _ _ _ al rv
  · cases hg
    obtain ⟨x, rfl, p⟩ := px.one
    obtain ⟨a, ys, rfl, h1, h2⟩ := p.tup
    refine ⟨a, ys, rfl, .inr (SqT.of (s _ _ h1)), fun l hl => ?_⟩
    obtain ⟨al, rv⟩ := zcJ s hl h2
    exact q _ _ _ al rv
  · cases hg
def zgZ : List D -> Option RV
  | [.lst xs] => some (.val (.tup xs))
  | [.tup xs] => some (.val (.tup xs))
  | _ => none
theorem zja {K : PySem.W.Frag} : zeW (fun xs H Q => ∃ p ys, xs = [.ref p] /\ ((SqL K H p ys /\ ∀ l, H l = none -> Q (.ref l) (upd H l (.tup ys))) \/ (SqT K H p ys /\ Q (.ref p) H))) zgZ := by
  intro R H xs ds rv Q s px hg q
  unfold zgZ at hg
  split at hg
  · cases hg
    obtain ⟨x, rfl, p⟩ := px.one
    obtain ⟨a, ys, rfl, h1, h2⟩ := p.lst s
    refine ⟨a, ys, rfl, .inl ⟨SqL.of h1, fun l hl => ?_⟩⟩
    obtain ⟨al, rv⟩ := zgA s hl h2
    exact q _ _ _ al rv
  · cases hg
    obtain ⟨x, rfl, p⟩ := px.one
    obtain ⟨a, ys, rfl, h1, h2⟩ := p.tup
    exact ⟨a, ys, rfl, .inr ⟨SqT.of (s _ _ h1), q _ H R (Al.refl s) (.tup h1 h2)⟩⟩
  · cases hg
def zhT : List D -> Option (List Int)
  | [] => some []
  | .int b :: r => (zhT r).map (b :: ·)
  | _ => none
omit [KC] in
theorem zkl : ∀ {ds : List D} {bs : List Int}, zhT ds = some bs -> ds = bs.map D.int
  | [], bs, h => by cases h; rfl
  | d :: r, bs, h => by
    cases d <;> first | (cases h; done) | skip
    rename_i b
    have h : (zhT r).map (b :: ·) = some bs := h
    cases q : zhT r with
    | none => rw [q] at h; cases h
    | some l => rw [q] at h; cases h; rw [List.map_cons, <- zkl q]
omit [KC] in
theorem zmc (bs : List Int) : zhT (bs.map D.int) = some bs := by
  induction bs with
  | nil => rfl
  | cons b r ih => show (zhT (r.map D.int)).map (b :: ·) = _; rw [ih]; rfl
def srt (ns : List Int) : List Int := ns.mergeSort (fun a b => decide (a <= b))
omit [KC] in
theorem zdZ (ns : List Int) : (srt ns).Perm ns := List.mergeSort_perm ..
omit [KC] in
theorem znb (ns : List Int) : (srt ns).Pairwise (· <= ·) := by
  have h := List.pairwise_mergeSort (le := fun a b : Int => decide (a <= b)) (fun a b c h1 h2 => decide_eq_true (Int.le_trans (of_decide_eq_true h1) (of_decide_eq_true h2))) (fun a b => by
    rcases Int.le_total a b with h | h
    · rw [decide_eq_true h]; rfl
    · rw [decide_eq_true h, Bool.or_true]) ns
  exact h.imp fun h => of_decide_eq_true h
omit [KC] in
theorem zlV : ∀ {xs ys : List Int}, xs.Perm ys -> xs.Pairwise (· <= ·) -> ys.Pairwise (· <= ·) -> xs = ys := fun p h1 h2 => List.Perm.eq_of_pairwise (fun _ _ _ _ h h' => Int.le_antisymm h h') h1 h2 p
def zeV : List D -> Option RV
  | [.lst ds] => (zhT ds).bind fun ns => if ns.length < 64 then some (.new (.lst ((srt ns).map D.int))) else none
  | _ => none
theorem zhI {K : PySem.W.Frag} : zeW (fun xs H Q => ∃ (p : Addr) (ns : List Int), xs = [.ref p] /\ SqL K H p (ns.map V.int) /\ ns.length < 64 /\ ∀ (l : Addr) (ns' : List Int), H l = none -> ns'.Perm ns -> ns'.Pairwise (· <= ·) -> Q (.ref l) (upd H l (.lst (ns'.map V.int)))) zeV := by
  intro R H xs ds rv Q s px hg q
  unfold zeV at hg
  split at hg
  · rename_i l
    cases h : zhT l with
    | none => rw [h] at hg; cases hg
    | some ns =>
      rw [h] at hg
      have hg : (if ns.length < 64 then some (RV.new (.lst ((srt ns).map D.int))) else none) = some rv := hg
      split at hg
      · rename_i c
        cases hg
        obtain ⟨x, rfl, p⟩ := px.one
        obtain ⟨a, ys, rfl, h1, h2⟩ := p.lst s
        rw [zkl h] at h2
        rw [h2.ints_inv] at h1
        refine ⟨a, ns, rfl, SqL.of h1, c, fun l ns' hl pm pw => ?_⟩
        have e : ns' = srt ns := zlV (pm.trans (zdZ ns).symm) pw (znb ns)
        obtain ⟨al, rv⟩ := zcJ s hl (Rps.ints (R := R) (srt ns))
        rw [e]
        exact q _ _ _ al rv
      · cases hg
  · cases hg
end
end Dv
end
section
namespace Dv
open PySem L2 Ex
variable [KC]
section
variable {X : Cx} {EE : XKS} {ios : List Addr} {e a b c : Expr} {es : List Expr} {f g k : M RV} {fs : M (List RV)} {pos : Pos} {ta tb tc t : TE} {r r' : R2} {K : PySem.W.Frag}
def zaJ (d e : D) : Option RV := match d, e with
  | .lst xs, .int i => (atI xs i).map .val
  | .tup xs, .int i => (atI xs i).map .val
  | .scr ns, .int i => (atI ns i).map fun n => .val (.int n)
  | .str z, .int i => if z.length <= sizeLine then (atI z.cps.toList i).map fun c => .val (.str ⟨#[c]⟩) else none
  | _, _ => none
theorem Rps.atI {R : Hp} {xs : List V} {ds : List D} {i : Int} {d : D} (h : Rps R xs ds) (e : L2.atI ds i = some d) : ∃ x, L2.atI xs i = some x /\ Rp R x d := by
  unfold L2.atI at e ⊢
  rw [h.len]
  cases q : ixN ds.length i with
  | none => rw [q] at e; cases e
  | some j =>
    rw [q] at e
    exact h.ta e
theorem zou {α β : Type} (f : α -> β) (xs : List α) (i : Int) : L2.atI (xs.map f) i = (L2.atI xs i).map f := by
  unfold L2.atI
  rw [List.length_map]
  cases ixN xs.length i with
  | none => rfl
  | some j => simp
theorem zoE : OpV (rIx KC.K) zaJ := by
  intro R H x y d e rv Q s px py hg q
  unfold zaJ at hg
  split at hg
  · rename_i ds i
    cases h : L2.atI ds i with
    | none => rw [h] at hg; cases hg
    | some d =>
      rw [h] at hg
      cases hg
      obtain ⟨a, xs, rfl, h1, h2⟩ := px.lst s
      obtain ⟨v, hv, rv⟩ := h2.atI h
      exact .inl ⟨a, xs, i, v, rfl, py.int, SqL.of h1, hv, q _ H R (Al.refl s) rv⟩
  · rename_i ds i
    cases h : L2.atI ds i with
    | none => rw [h] at hg; cases hg
    | some d =>
      rw [h] at hg
      cases hg
      obtain ⟨a, xs, rfl, h1, h2⟩ := px.tup
      obtain ⟨v, hv, rv⟩ := h2.atI h
      exact .inr (.inl ⟨a, xs, i, v, rfl, py.int, SqT.of (s _ _ h1), hv, q _ H R (Al.refl s) rv⟩)
  · rename_i ns i
    cases h : L2.atI ns i with
    | none => rw [h] at hg; cases hg
    | some n =>
      rw [h] at hg
      cases hg
      rcases px with px | ⟨_, _, _, _, _, z, _⟩
      · cases px with
        | scr h1 => exact .inl ⟨_, _, i, .int n, rfl, py.int, s.seq h1, by rw [zou, h]; rfl, q _ H R (Al.refl s) (.int n)⟩
      · cases z
  · rename_i z i
    split at hg
    · rename_i c
      cases h : L2.atI z.cps.toList i with
      | none => rw [h] at hg; cases hg
      | some n =>
        rw [h] at hg
        cases hg
        exact .inr (.inr ⟨z, i, n, px.str, py.int, c, h, q _ H R (Al.refl s) (.str _)⟩)
    · cases hg
  · cases hg
theorem zaT (ha : VE X EE ios a f) (hb : VE X EE ios b g) (hs : zkF b := by intro _ _; rfl) (hK : X.K = KC.K := by rfl) : VE X EE ios (.Subscript a b pos) (op2 zaJ f g) :=
  let ⟨_, h1, h2⟩ := ha; let ⟨_, h3, h4⟩ := hb; ⟨_, zq0 zpW h1 h3 hs, zkv (by rw [hK]; exact zoE) h2 h4⟩
def zcQ {α : Type} (xs : List α) (lo hi : Option Int) : List α := (xs.drop (HT.sIx xs.length 0 lo)).take (HT.sIx xs.length xs.length hi - HT.sIx xs.length 0 lo)
def zdb (d : D) (lo hi : Option Int) : Option RV := match d with
  | .lst xs => some (.new (.lst (zcQ xs lo hi)))
  | .scr ns => some (.new (.lst ((zcQ ns lo hi).map D.int)))
  | _ => none
def RdO (EE : XKS) (ios : List Addr) (t : TO) (f : M (Option Int)) : Prop := ∀ σ H R Γ Q, ER ios R H σ Γ ->
  wpM (f Γ) (fun o Γ' => ∀ H' R', EPo ios R H σ Γ R' H' Γ' -> Q o H') (EXP EE ios R H σ Γ) -> t σ H Q
def VO (X : Cx) (EE : XKS) (ios : List Addr) (e : Option Expr) (f : M (Option Int)) : Prop := ∃ t, PO X e t /\ RdO EE ios t f
theorem zbJ : VO X EE ios none (M.pure none) := ⟨_, zoN, fun σ H R Γ Q er w => w H R (EPo.refl er)⟩
def asI (rv : RV) : M (Option Int) := match rv with
  | .val (.int i) => M.pure (some i)
  | _ => M.st
theorem zcg (h : VE X EE ios e f) : VO X EE ios (some e) (M.bind f asI) := by
  obtain ⟨t, h1, h2⟩ := h
  refine ⟨_, znV h1, fun σ H R Γ Q er w => ?_⟩
  rw [zac] at w
  refine h2 σ H R Γ _ er (zah w (fun rv Γ1 w x H1 R1 p1 hx => ?_) fun _ _ z => z)
  unfold asI at w
  split at w
  · cases hx; exact ⟨_, rfl, w H1 R1 p1⟩
  · exact False.elim w
def zcj (o : D -> Option Int -> Option Int -> Option RV) (f : M RV) (lo hi : M (Option Int)) : M RV := M.bind f fun x => M.bind lo fun l => M.bind hi fun u => M.bind (peek x) fun d => M.ofO (o d l u)
theorem Rps.cut {R : Hp} {xs : List V} {ds : List D} (h : Rps R xs ds) (lo hi : Option Int) : Rps R (zhc xs lo hi) (zcQ ds lo hi) := by
  unfold zhc zcQ
  rw [h.len]
  exact (h.drop _).take _
theorem zkQ {α β : Type} (f : α -> β) (xs : List α) (lo hi : Option Int) : (zcQ xs lo hi).map f = zcQ (xs.map f) lo hi := by
  unfold zcQ
  rw [List.length_map, List.map_take, List.map_drop]
theorem zdl {lo hi : Option Expr} {l u : M (Option Int)} {p2 : Pos} (ha : VE X EE ios a f) (hl : VO X EE ios lo l) (hu : VO X EE ios hi u) (hK : X.K = KC.K := by rfl) : VE X EE ios (.Subscript a (.Slice lo hi none p2) pos) (zcj zdb f l u) := by
  obtain ⟨t1, h1, h2⟩ := ha
  obtain ⟨t2, h3, h4⟩ := hl
  obtain ⟨t3, h5, h6⟩ := hu
  refine ⟨_, zi7 sl_list h1 h3 h5, fun σ H R Γ Q er w => ?_⟩
  unfold zcj at w
  rw [zac] at w
  refine h2 σ H R Γ _ er (zah w (fun rx Γ1 w x H1 R1 p1 hx => ?_) fun _ _ z => z)
  rw [zac] at w
  refine h4 σ H1 R1 Γ1 _ p1.er (zah w (fun l Γ2 w H2 R2 p2 => ?_) fun _ _ z => EXP.trans p1 z)
  rw [zac] at w
  have p12 := p1.trans p2
  refine h6 σ H2 R2 Γ2 _ p2.er (zah w (fun u Γ3 w H3 R3 p3 => ?_) fun _ _ z => EXP.trans p12 z)
  have p13 := p12.trans p3
  rw [zac] at w
  obtain ⟨d, pd, w⟩ := zbS p3.er (hx.go er p1 (p2.trans p3).go) w
  obtain ⟨rv, hg, w⟩ := zca w
  unfold zdb at hg
  split at hg
  · cases hg
    obtain ⟨a, xs, rfl, h1, h2⟩ := pd.lst p3.er.sub
    refine ⟨a, xs, rfl, SqL.of h1, fun p hp => ?_⟩
    obtain ⟨al, rv⟩ := zcJ p3.er.sub hp (h2.cut l u)
    exact w _ _ _ (p13.al al) (rv.rv (p13.back er))
  · cases hg
    rcases pd with pd | ⟨_, _, _, _, _, z, _⟩
    · cases pd with
      | scr h1 =>
        refine ⟨_, _, rfl, by rw [hK]; exact p3.er.sub.seq h1, fun p hp => ?_⟩
        rw [show zhc = zcQ from rfl, <- zkQ]
        obtain ⟨al, rv⟩ := zcJ p3.er.sub hp (Rps.ints (R := R3) _)
        exact w _ _ _ (p13.al al) (rv.rv (p13.back er))
    · cases z
  · cases hg
def zfZ {α : Type} (xs : List α) (lo hi : Option Int) (st : Int) : List α := (sliceRange (sliceBounds lo hi (some st) xs.length).1 (sliceBounds lo hi (some st) xs.length).2.1 (sliceBounds lo hi (some st) xs.length).2.2).filterMap (xs[·]?)
def zfR (st : Int) (d : D) (lo hi : Option Int) : Option RV := match d with
  | .lst xs => if st ≠ 0 /\ (zfZ xs lo hi st).length <= sizeLine then some (.new (.lst (zfZ xs lo hi st))) else none
  | _ => none
theorem Rps.pickS {R : Hp} {xs : List V} {ds : List D} (h : Rps R xs ds) (lo hi : Option Int) (st : Int) : Rps R (zkq xs lo hi st) (zfZ ds lo hi st) := by
  unfold zkq zfZ
  rw [h.len]
  exact h.pick _
theorem zkS {lo hi : Option Expr} {se : Expr} {st : Int} {l u : M (Option Int)} {p2 : Pos} (ha : VE X EE ios a f) (hl : VO X EE ios lo l) (hu : VO X EE ios hi u) (hse : PE X se (tC (.int st))) : VE X EE ios (.Subscript a (.Slice lo hi (some se) p2) pos) (zcj (zfR st) f l u) := by
  obtain ⟨t1, h1, h2⟩ := ha
  obtain ⟨t2, h3, h4⟩ := hl
  obtain ⟨t3, h5, h6⟩ := hu
  refine ⟨_, zlP h1 h3 h5 hse, fun σ H R Γ Q er w => ?_⟩
  unfold zcj at w
  rw [zac] at w
  refine h2 σ H R Γ _ er (zah w (fun rx Γ1 w x H1 R1 p1 hx => ?_) fun _ _ z => z)
  rw [zac] at w
  refine h4 σ H1 R1 Γ1 _ p1.er (zah w (fun l Γ2 w H2 R2 p2 => ?_) fun _ _ z => EXP.trans p1 z)
  rw [zac] at w
  have p12 := p1.trans p2
  refine h6 σ H2 R2 Γ2 _ p2.er (zah w (fun u Γ3 w H3 R3 p3 => ?_) fun _ _ z => EXP.trans p12 z)
  have p13 := p12.trans p3
  rw [zac] at w
  obtain ⟨d, pd, w⟩ := zbS p3.er (hx.go er p1 (p2.trans p3).go) w
  obtain ⟨rv, hg, w⟩ := zca w
  unfold zfR at hg
  split at hg
  · split at hg
    · rename_i c
      cases hg
      obtain ⟨a, xs, rfl, h1, h2⟩ := pd.lst p3.er.sub
      refine ⟨a, xs, rfl, SqL.of h1, c.1, by rw [(h2.pickS l u st).len]; exact c.2, fun p hp => ?_⟩
      obtain ⟨al, rv⟩ := zcJ p3.er.sub hp (h2.pickS l u st)
      exact w _ _ _ (p13.al al) (rv.rv (p13.back er))
    · cases hg
  · cases hg
def op1 (o : D -> Option RV) (f : M RV) : M RV := M.bind f fun x => M.bind (peek x) fun d => M.ofO (o d)
def zdO : D -> Option RV
  | .int i => some (.val (.int (-i)))
  | _ => none
theorem zea (ha : VE X EE ios a f) : VE X EE ios (.UnaryOp .USub a pos) (op1 zdO f) := by
  obtain ⟨t, h1, h2⟩ := ha
  refine ⟨_, zo7 zmf h1, fun σ H R Γ Q er w => ?_⟩
  unfold op1 at w
  rw [zac] at w
  refine h2 σ H R Γ _ er (zah w (fun rx Γ1 w x H1 R1 p1 hx => ?_) fun _ _ z => z)
  rw [zac] at w
  obtain ⟨d, pd, w⟩ := zbS p1.er hx w
  obtain ⟨rv, hg, w⟩ := zca w
  unfold zdO at hg
  split at hg
  · cases hg
    exact ⟨_, pd.int, w _ H1 R1 p1 (.int _)⟩
  · cases hg
def tyN : D -> String
  | .non => "NoneType"
  | .bl _ => "bool"
  | .int _ => "int"
  | .str _ => "str"
  | .lst _ => "list"
  | .tup _ => "tuple"
  | .dic _ _ => "dict"
  | .scr _ => "list"
  | .ins _ _ _ => "object"
  | .obj _ _ _ => "object"
def plain : D -> Bool
  | .scr _ => false
  | .ins _ _ _ => false
  | .obj _ _ _ => false
  | _ => true
theorem Rp.ty {H : Hp} {x : V} {d : D} (h : Rp H x d) (ns : plain d = true) : TyOf K H x (.type (tyN d)) := by
  cases h with
  | non => exact .non
  | bl b => exact .bl b
  | int i => exact .int i
  | str x => exact .str x
  | lst e _ => exact .lst e
  | tup e _ => exact .tup e
  | dnil e => exact .dK e
  | scr e => cases ns
  | exc0 e => cases ns
  | exc e _ _ => cases ns
  | obj e _ => cases ns
inductive Ty where
  | int | bool | str | list | tuple | dict
def Ty.nm : Ty -> String
  | .int => "int"
  | .bool => "bool"
  | .str => "str"
  | .list => "list"
  | .tuple => "tuple"
  | .dict => "dict"
def zcc : Ty -> D -> Bool
  | .int, .bl _ => true
  | .bool, .bl _ => true
  | .int, .int _ => true
  | .str, .str _ => true
  | .list, .lst _ => true
  | .list, .scr _ => true
  | .tuple, .tup _ => true
  | .dict, .dic _ _ => true
  | _, _ => false
theorem zpC (K : PySem.W.Frag) (d : D) (hd : plain d = true) (T : Ty) : PySem.W.kitOne K (.type (tyN d)) (.type T.nm) = some (zcc T d) := by
  cases T <;> cases d <;> first | kernel_rfl | cases hd
def zfy (T : Ty) : D -> Option RV
  | .scr _ => none
  | .ins _ _ _ => none
  | .obj _ _ _ => none
  | d => some (.val (.bl (zcc T d)))
def zd6 (T : Ty) (f : M RV) : M RV := M.bind (zg0 f) fun x => M.bind (peek x) fun d => M.ofO (zfy T d)
theorem zd2 {T : Ty} {e0 : Expr} (hp : ∀ t, PE X a t -> PE X e0 (tCB (rIs X.K) (zhu t (zhu (tC (.ty T.nm)) zoz)))) (ha : VE X EE ios a f) : VE X EE ios e0 (zd6 T f) := by
  obtain ⟨t, h1, h2⟩ := ha
  refine ⟨_, hp t h1, fun σ H R Γ Q er w => ?_⟩
  unfold zd6 at w
  rw [zac] at w
  refine zjE h2 er (zah w (fun rx Γ1 w x H1 R1 p1 hx => ?_) fun _ _ z => z)
  rw [zac] at w
  obtain ⟨d, pd, w⟩ := zbS (H := H) p1.er hx.rv w
  have hv := pd.hv p1.er.sub
  obtain ⟨rv, hg, w⟩ := zca w
  have ns : plain d = true := by cases d <;> first | rfl | cases hg
  have hg : rv = .val (.bl (zcc T d)) := by cases d <;> first | (cases hg; done) | exact (Option.some.inj hg).symm
  subst hg
  exact ⟨x, .ty T.nm, _, _, _, rfl, rfl, .inl (hv.ty ns), zpC X.K d ns T, w _ H1 R1 p1 (.bl _)⟩
def zhq (d : D) : Bool := d.py.canLay0 && d.py.showable && !d.py.hasDict && decide (d.py.depth <= 50) && decide (d.py.shown.length <= sizeLine)
def isRef : D -> Bool
  | .lst _ => true
  | .tup _ => true
  | _ => false
def zfY : List D -> Option RV
  | [d] => if isRef d && zhq d then some (.val (.str d.py.shown)) else none
  | _ => none
theorem zgP : zeW (fun xs H Q => ∃ (a : Addr) (d : PyData), xs = [.ref a] /\ DatV H (.ref a) d /\ d.showable = true /\ d.hasDict = false /\ d.depth <= 50 /\ d.shown.length <= sizeLine /\ Q (.str d.shown) H) zfY := by
  intro R H xs ds rv Q s px hg q
  unfold zfY at hg
  split at hg
  · rename_i d
    split at hg
    · rename_i c
      cases hg
      unfold zhq at c
      simp only [Bool.and_eq_true, decide_eq_true_eq, Bool.not_eq_true'] at c
      obtain ⟨c1, ⟨⟨⟨c2, c3⟩, c4⟩, c5⟩, c6⟩ := c
      obtain ⟨x, rfl, p⟩ := px.one
      have hv := p.hv s
      obtain ⟨a, rfl⟩ : ∃ a, x = .ref a := by cases hv <;> first | exact ⟨_, rfl⟩ | cases c1
      exact ⟨a, d.py, rfl, hv.dat c2, c3, c4, c5, c6, q _ H R (Al.refl s) (.str _)⟩
    · cases hg
  · cases hg
theorem ER.mut {R H : Hp} {σ : St} {Γ : En} {i : Nat} {kd : Kd} {ds ds' : List D} {x : V} (er : ER ios R H σ Γ) (hi : Γ[i]? = some (some (kd, .lst ds))) (ho : owned kd = true) (hx : σ[i]? = some (some x)) :
    ∃ p xs, x = .ref p /\ H p = some (.lst xs) /\ Rps R xs ds /\ ∀ xs', Rps R xs' ds' -> EPo ios R H σ Γ R (upd H p (.lst xs')) (Γ.set i (some (kd, .lst ds'))) := by
  obtain ⟨v, hv, s⟩ := er.sl i _ hi
  rw [hx] at hv
  cases hv
  have hlt : i < Γ.length := (List.getElem?_eq_some_iff.mp hi).1
  obtain ⟨⟨a, xs, ds0, rfl, h1, h2, h3, h4⟩, hio⟩ : OwR R H x (.lst ds) /\ ∀ n, kd = .io n -> ∃ a, ios[n]? = some a /\ x = .ref a := by
    cases kd with
    | frz => cases ho
    | own => exact ⟨s, fun _ z => nomatch z⟩
    | io n => exact ⟨s.1, fun m z => by cases z; exact s.2⟩
  cases h3
  have inj : ∀ j l z, Γ[j]? = some (some (l, z)) -> owned l = true -> σ[j]? = some (some (.ref a)) -> j = i := fun j l z q1 q2 q3 => (er.dj i j kd l _ z a hi ho q1 q2 hx q3).symm
  have ow' : ∀ b, Ow σ (Γ.set i (some (kd, .lst ds'))) b -> Ow σ Γ b := by
    rintro b ⟨j, l, z, q1, q2, q3⟩
    by_cases hj : j = i
    · subst hj
      rw [List.getElem?_set_self hlt] at q1
      cases q1
      exact ⟨j, kd, _, hi, ho, q3⟩
    · rw [List.getElem?_set_ne (Ne.symm hj)] at q1
      exact ⟨j, l, z, q1, q2, q3⟩
  refine ⟨a, xs, rfl, h2, h4, fun xs' h5 => ⟨⟨fun b o e => ?_, by rw [List.length_set]; exact er.len, fun j t hj => ?_, fun j j' l l' z z' b q1 q2 q3 q4 q5 q6 => ?_⟩, ⟨Same.refl _, fun b o h n => ?_, fun _ _ _ _ z => z, fun b z => .inl (ow' b z), fun b o h => ?_⟩, ow'⟩⟩
  · rw [zay]
    · exact er.sub b o e
    · rintro rfl; rw [h1] at e; cases e
  · by_cases hji : j = i
    · subst hji
      rw [List.getElem?_set_self hlt] at hj
      cases hj
      refine ⟨_, hx, ?_⟩
      have z : OwR R (upd H a (.lst xs')) (.ref a) (.lst ds') := ⟨a, xs', ds', rfl, h1, za3, rfl, h5⟩
      cases kd with
      | frz => cases ho
      | own => exact z
      | io n => exact ⟨z, hio n rfl⟩
    · rw [List.getElem?_set_ne (Ne.symm hji)] at hj
      obtain ⟨v, hv, q⟩ := er.sl j t hj
      refine ⟨v, hv, q.mono (Same.refl _) fun ho' b ys eb hb rb => ⟨?_, rb⟩⟩
      rw [zay]
      · exact hb
      · rintro rfl
        subst eb
        exact hji (inj j t.1 t.2 hj ho' hv)
  · have g : ∀ {j : Nat} {l : Kd} {z : D}, (Γ.set i (some (kd, .lst ds')))[j]? = some (some (l, z)) -> ∃ z', Γ[j]? = some (some (l, z')) := by
      intro j l z q
      by_cases hji : j = i
      · subst hji; rw [List.getElem?_set_self hlt] at q; cases q; exact ⟨_, hi⟩
      · rw [List.getElem?_set_ne (Ne.symm hji)] at q; exact ⟨z, q⟩
    obtain ⟨z1, g1⟩ := g q1
    obtain ⟨z2, g2⟩ := g q3
    exact er.dj j j' l l' z1 z2 b g1 q2 g2 q4 q5 q6
  · rw [zay]
    · exact h
    · rintro rfl; exact n ⟨i, kd, _, hi, ho, hx⟩
  · by_cases hb : b = a
    · subst hb; exact ⟨_, za3⟩
    · exact ⟨o, by rw [zay hb]; exact h⟩
def zqG (r : V -> List V -> Hp -> VK -> Prop) (g : List D -> List D -> Option (List D × D)) : Prop := ∀ R H p xs ds ys es ds' res (Q : VK), Same R H -> R p = none -> H p = some (.lst xs) -> Rps R xs ds -> Rps R ys es -> g ds es = some (ds', res) ->
  (∀ xs' z, Rps R xs' ds' -> Rp R z res -> Q z (upd H p (.lst xs'))) -> r (.ref p) ys H Q
def recv (i : Nat) : M Unit := fun Γ => match Γ[i]? with
  | some (some (kd, .lst _)) => if owned kd then .ok () Γ else .st
  | _ => .st
def ziT (i : Nat) (g : List D -> List D -> Option (List D × D)) (es : List D) : M RV := fun Γ => match Γ[i]? with
  | some (some (kd, .lst ds)) => if owned kd then match g ds es with
    | some (ds', res) => .ok (.val res) (Γ.set i (some (kd, .lst ds')))
    | none => .st else .st
  | _ => .st
def zjB (i : Nat) (g : List D -> List D -> Option (List D × D)) (fs : M (List RV)) : M RV := M.bind (recv i) fun _ => M.bind fs fun rvs => M.bind (za8 rvs) fun es => ziT i g es
theorem zj4 {H : Hp} {p : Addr} {xs : List V} (h : H p = some (.lst xs)) : tyV K "list" (.ref p) H := .inl ⟨rfl, _, SqL.of h⟩
theorem zkg {i : Nat} {σ : St} {H R : Hp} {Γ : En} {K' : Unit -> En -> Prop} {E : Xc -> En -> Prop} (er : ER ios R H σ Γ) (w : wpM (recv i Γ) K' E) : ∃ p xs, σ[i]? = some (some (.ref p)) /\ H p = some (.lst xs) /\ K' () Γ := by
  unfold recv at w
  split at w
  · rename_i kd ds q
    split at w
    · rename_i ho
      obtain ⟨v, hv, s⟩ := er.sl i _ q
      obtain ⟨p, xs, rfl, h2, _⟩ := er.mut (ds' := ds) q ho hv
      exact ⟨p, xs, hv, h2, w⟩
    · exact False.elim w
  · exact False.elim w
theorem znf {i : Nat} {r : V -> List V -> Hp -> VK -> Prop} {g : List D -> List D -> Option (List D × D)} (hv : zqG r g) {R0 H0 R H : Hp} {σ : St} {Γ0 Γ : En} {p : Addr} {ys : List V} {es : List D} {Q : VK} {E : Xc -> En -> Prop} (p1 : EPo ios R0 H0 σ Γ0 R H Γ)
    (hσ : σ[i]? = some (some (.ref p))) (hys : Rps R ys es) (w : wpM (ziT i g es Γ) (fun rv Γ' => ∀ x H' R', EPo ios R0 H0 σ Γ0 R' H' Γ' -> RvR R' H0 H' σ x rv -> Q x H') E) : r (.ref p) ys H Q := by
  unfold ziT at w
  split at w
  · rename_i kd ds q
    split at w
    · rename_i ho
      split at w
      · rename_i ds' res hg
        obtain ⟨p', xs, e, h2, h3, k⟩ := p1.er.mut (ds' := ds') q ho hσ
        cases e
        have hr : R p = none := (p1.er.ow ⟨i, kd, _, q, ho, hσ⟩).1
        exact hv R H p xs ds ys es ds' res Q p1.er.sub hr h2 h3 hys hg fun xs' z hxs hz => w z _ R (p1.trans (k xs' hxs)) hz
      · exact False.elim w
    · exact False.elim w
  · exact False.elim w
theorem znF {i : Nat} {r : V -> List V -> Hp -> VK -> Prop} {g : List D -> List D -> Option (List D × D)} {e0 : Expr} (hp : ∀ t, PA X es t -> PE X e0 (tBM X.K "list" r (zlA i) t)) (hv : zqG r g) (ha : VA X EE ios es fs) : VE X EE ios e0 (zjB i g fs) := by
  obtain ⟨t, h1, h2⟩ := ha
  refine ⟨_, hp t h1, fun σ H R Γ Q er w => ?_⟩
  unfold zjB at w
  rw [zac] at w
  obtain ⟨p, xs0, hσ, h0, w⟩ := zkg er w
  have ty := zj4 (K := X.K) h0
  refine ⟨_, hσ, ty, ?_⟩
  rw [zac] at w
  refine h2 σ H R Γ _ er (zah w (fun rvs Γ1 w xs H1 R1 p1 hx => ?_) fun _ _ z => z)
  rw [zac] at w
  obtain ⟨ds, Γ2, R2, p2, s2, r2, w⟩ := zbE er p1 hx w
  exact znf hv p2 hσ r2 w
def zdg (ds es : List D) : Option (List D × D) := match es with
  | [d] => if ds.length < sizeLine then some (ds ++ [d], .non) else none
  | _ => none
theorem zfV : zqG zkO zdg := by
  intro R H p xs ds ys es ds' res Q s hr hp hx hy hg q
  unfold zdg at hg
  split at hg
  · split at hg
    · rename_i c
      cases hg
      cases hy with
      | cons h1 h2 =>
        cases h2
        exact ⟨p, xs, _, rfl, rfl, hp, by rw [hx.len]; exact c, q _ _ (hx.app (.cons h1 .nil)) .non⟩
    · cases hg
  · cases hg
end
end Dv
end
section
namespace Dv
open PySem L2 Ex
variable [KC]
inductive Fl where
  | nx | ret (rv : RV) | brk | cont
structure SPo (ios : List Addr) (R H : Hp) (σ : St) (Γ : En) (R' H' : Hp) (σ' : St) (Γ' : En) : Prop where
  er : ER ios R' H' σ' Γ'
  go : Go (Ow σ Γ) R H (Ow σ' Γ') R' H'
section
variable {ios : List Addr} {R H R1 H1 R2 H2 : Hp} {σ σ1 σ2 : St} {Γ Γ1 Γ2 : En}
theorem SPo.refl (e : ER ios R H σ Γ) : SPo ios R H σ Γ R H σ Γ := ⟨e, Go.refl⟩
theorem SPo.trans (a : SPo ios R H σ Γ R1 H1 σ1 Γ1) (b : SPo ios R1 H1 σ1 Γ1 R2 H2 σ2 Γ2) : SPo ios R H σ Γ R2 H2 σ2 Γ2 := ⟨b.er, a.go.trans b.go⟩
theorem EPo.spo (a : EPo ios R H σ Γ R1 H1 Γ1) : SPo ios R H σ Γ R1 H1 σ Γ1 := ⟨a.er, a.go⟩
theorem SPo.back (h : SPo ios R H σ Γ R1 H1 σ1 Γ1) : ∀ b, H1 b = none -> H b = none := fun b hb => by
  cases q : H b with
  | none => rfl
  | some o => obtain ⟨o', z⟩ := h.go.th b o q; rw [hb] at z; cases z
theorem zfc {R' H' : Hp} {σ' : St} {x : V} {rv : RV} (p1 : ∀ b, H1 b = none -> H b = none) (h : RvR R' H1 H' σ' x rv) : RvR R' H H' σ' x rv := by
  cases rv with
  | val d => exact h
  | new d => obtain ⟨h1, a, h2, h3⟩ := h; exact ⟨h1, a, h2, p1 _ h3⟩
  | var i => exact h
end
def EXS (EE : XKS) (ios : List Addr) (R H : Hp) (σ : St) (Γ : En) : Xc -> En -> Prop := fun x Γ' => ∀ e σ' H' R', SPo ios R H σ Γ R' H' σ' Γ' -> XcR R' H H' e x -> EE σ' (.ref (KC.cls x.C)) (some e) H'
theorem EXS.exp {EE : XKS} {ios : List Addr} {R H : Hp} {σ : St} {Γ : En} {x : Xc} {Γ' : En} (h : EXS EE ios R H σ Γ x Γ') : EXP EE ios R H σ Γ x Γ' := fun e H' R' p q => h e σ H' R' p.spo q
theorem EXS.trans {EE : XKS} {ios : List Addr} {R H R1 H1 : Hp} {σ σ1 : St} {Γ Γ1 : En} (a : SPo ios R H σ Γ R1 H1 σ1 Γ1) {x : Xc} {Γ' : En} (h : EXS EE ios R H σ Γ x Γ') : EXS EE ios R1 H1 σ1 Γ1 x Γ' := fun e σ' H' R' b q => h e σ' H' R' (a.trans b) (q.back a.back)
def FlK (ios : List Addr) (R H : Hp) (σ : St) (Γ : En) (D : Ends) : Fl -> En -> Prop := fun fl Γ' => ∀ σ' H' R', SPo ios R H σ Γ R' H' σ' Γ' -> match fl with
  | .nx => D.nx σ' H'
  | .brk => D.bk σ' H'
  | .cont => D.ct σ' H'
  | .ret rv => ∀ x, RvR R' H H' σ' x rv -> D.rt x H'
def RdS (EE : XKS) (ios : List Addr) (t : TS) (f : M Fl) : Prop := ∀ σ H R Γ D, ER ios R H σ Γ -> wpM (f Γ) (FlK ios R H σ Γ D) (EXS EE ios R H σ Γ) -> t D σ H
def VS (X : Cx) (EE : XKS) (ios : List Addr) (st : Stmt) (f : M Fl) : Prop := ∃ t, PS X st t /\ RdS EE ios t f
def VSs (X : Cx) (EE : XKS) (ios : List Addr) (st : List Stmt) (f : M Fl) : Prop := ∃ t, PSs X st t /\ RdS EE ios t f
section
variable {X : Cx} {EE : XKS} {ios : List Addr} {e a b c : Expr} {es : List Expr} {f g k : M RV} {fs : M (List RV)} {p : M Bool} {s s' : M Fl} {st : Stmt} {sts sts' : List Stmt} {pos : Pos}
theorem zaz : VSs X EE ios [] (M.pure .nx) := ⟨_, zoc, fun σ H R Γ D er w => w σ H R (SPo.refl er)⟩
def zak (f g : M Fl) : M Fl := M.bind f fun fl => match fl with
  | .nx => g
  | fl => M.pure fl
theorem zad (h : VS X EE ios st s) (h' : VSs X EE ios sts s') : VSs X EE ios (st :: sts) (zak s s') := by
  obtain ⟨t, h1, h2⟩ := h
  obtain ⟨u, h3, h4⟩ := h'
  refine ⟨_, zgo h1 h3, fun σ H R Γ D er w => ?_⟩
  unfold zak at w
  rw [zac] at w
  refine h2 σ H R Γ _ er (zah w (fun fl Γ1 w σ1 H1 R1 p1 => ?_) fun _ _ z => z)
  cases fl with
  | nx =>
    refine h4 σ1 H1 R1 Γ1 D p1.er (zah w (fun fl Γ2 w σ2 H2 R2 p2 => ?_) fun _ _ z => EXS.trans p1 z)
    have := w σ2 H2 R2 (p1.trans p2)
    cases fl with
    | nx => exact this
    | brk => exact this
    | cont => exact this
    | ret rv => exact fun x hx => this x (zfc p1.back hx)
  | brk => exact w σ1 H1 R1 p1
  | cont => exact w σ1 H1 R1 p1
  | ret rv => exact w σ1 H1 R1 p1
theorem zaj (h : VS X EE ios st s) : VSs X EE ios [st] s := let ⟨_, h1, h2⟩ := h; ⟨_, zh2 h1, h2⟩
def zd8 (f : M RV) : M Fl := M.bind f fun _ => M.pure .nx
theorem zfd (h : VE X EE ios e f) (hs : swapsWith e none pos.line X.env = pure false := by rfl) : VS X EE ios (.Expr e pos) (zd8 f) := by
  obtain ⟨t, h1, h2⟩ := h
  refine ⟨_, zhR h1 hs, fun σ H R Γ D er w => ?_⟩
  unfold zd8 at w
  rw [zac] at w
  exact h2 σ H R Γ _ er (zah w (fun rv Γ1 w x H1 R1 p1 hx => w σ H1 R1 p1.spo) fun _ _ z => z.exp)
def zaP (f : M RV) : M Fl := M.bind f fun rv => M.pure (.ret rv)
theorem zat (h : VE X EE ios e f) : VS X EE ios (.Return (some e) pos) (zaP f) := by
  obtain ⟨t, h1, h2⟩ := h
  refine ⟨_, zqC h1, fun σ H R Γ D er w => ?_⟩
  unfold zaP at w
  rw [zac] at w
  exact h2 σ H R Γ _ er (zah w (fun rv Γ1 w x H1 R1 p1 hx => w σ H1 R1 p1.spo x hx) fun _ _ z => z.exp)
def ifM (p : M Bool) (s s' : M Fl) : M Fl := M.bind p fun b => if b then s else s'
theorem zbc (hc : VT X EE ios c p) (h : VSs X EE ios sts s) (h' : VSs X EE ios sts' s') : VS X EE ios (.If c sts sts' pos) (ifM p s s') := by
  obtain ⟨_, h0, h0'⟩ := hc
  obtain ⟨t, h1, h2⟩ := h
  obtain ⟨u, h3, h4⟩ := h'
  refine ⟨_, zrU h0 h1 h3, fun σ H R Γ D er w => ?_⟩
  unfold ifM at w
  rw [zac] at w
  refine h0' σ H R Γ _ er (zah w (fun b Γ1 w H1 R1 p1 => ?_) fun _ _ z => z.exp)
  have go : ∀ fl Γ2, FlK ios R H σ Γ D fl Γ2 -> FlK ios R1 H1 σ Γ1 D fl Γ2 := fun fl Γ2 w σ2 H2 R2 p2 => by
    have := w σ2 H2 R2 (p1.spo.trans p2)
    cases fl with
    | nx => exact this
    | brk => exact this
    | cont => exact this
    | ret rv => exact fun x hx => this x (zfc p1.spo.back hx)
  cases b with
  | true => exact zjA (h2 σ H1 R1 Γ1 D p1.er (zah w go fun _ _ z => EXS.trans p1.spo z))
  | false => exact zjQ (h4 σ H1 R1 Γ1 D p1.er (zah w go fun _ _ z => EXS.trans p1.spo z))
def zhd (i : Nat) (s : Kd × D) : M Unit := fun Γ => .ok () (Γ.set i (some s))
theorem zoy {σ : St} {Γ : En} {i : Nat} {x : V} {s : Kd × D} {b : Addr} (h : Ow (σ.set i (some x)) (Γ.set i (some s)) b) : Ow σ Γ b \/ (owned s.1 = true /\ x = .ref b) := by
  obtain ⟨j, k, d, h1, h2, h3⟩ := h
  by_cases hj : j = i
  · subst hj
    have l1 : j < Γ.length := by have := (List.getElem?_eq_some_iff.mp h1).1; rwa [List.length_set] at this
    have l2 : j < σ.length := by have := (List.getElem?_eq_some_iff.mp h3).1; rwa [List.length_set] at this
    rw [List.getElem?_set_self l1] at h1
    rw [List.getElem?_set_self l2] at h3
    cases h1
    cases h3
    exact .inr ⟨h2, rfl⟩
  · rw [List.getElem?_set_ne (Ne.symm hj)] at h1 h3
    exact .inl ⟨j, k, d, h1, h2, h3⟩
theorem SPo.set {R H R1 H1 : Hp} {σ : St} {Γ Γ1 : En} {i : Nat} {x : V} {s : Kd × D} (er : ER ios R H σ Γ) (p1 : EPo ios R H σ Γ R1 H1 Γ1) (hs : SlR ios R1 H1 x s) (hn : owned s.1 = true -> ∀ a, x = .ref a -> H a = none) :
    SPo ios R H σ Γ R1 H1 (σ.set i (some x)) (Γ1.set i (some s)) := by
  have hfresh : owned s.1 = true -> ∀ a, x = .ref a -> ¬ Ow σ Γ1 a := fun ho a ea z => by
    obtain ⟨_, xs, q⟩ := er.ow (p1.sh a z)
    rw [hn ho a ea] at q; cases q
  refine ⟨⟨p1.er.sub, by rw [List.length_set, List.length_set]; exact p1.er.len, fun j t hj => ?_, fun j j' l l' d d' b q1 q2 q3 q4 q5 q6 => ?_⟩, ⟨p1.go.rr, p1.go.hh, p1.go.no, fun b z => ?_, p1.go.th⟩⟩
  · by_cases hji : j = i
    · subst hji
      have l1 : j < Γ1.length := by have := (List.getElem?_eq_some_iff.mp hj).1; rwa [List.length_set] at this
      rw [List.getElem?_set_self l1] at hj
      cases hj
      exact ⟨x, by rw [List.getElem?_set_self (by rw [p1.er.len]; exact l1)], hs⟩
    · rw [List.getElem?_set_ne (Ne.symm hji)] at hj ⊢
      exact p1.er.sl j t hj
  · by_cases h1 : j = i
    · by_cases h2 : j' = i
      · rw [h1, h2]
      · subst h1
        have l1 : j < Γ1.length := by have := (List.getElem?_eq_some_iff.mp q1).1; rwa [List.length_set] at this
        rw [List.getElem?_set_self l1] at q1
        rw [List.getElem?_set_self (by rw [p1.er.len]; exact l1)] at q5
        rw [List.getElem?_set_ne (Ne.symm h2)] at q3 q6
        cases q1; cases q5
        exact absurd ⟨j', l', d', q3, q4, q6⟩ (hfresh q2 b rfl)
    · by_cases h2 : j' = i
      · subst h2
        have l1 : j' < Γ1.length := by have := (List.getElem?_eq_some_iff.mp q3).1; rwa [List.length_set] at this
        rw [List.getElem?_set_self l1] at q3
        rw [List.getElem?_set_self (by rw [p1.er.len]; exact l1)] at q6
        rw [List.getElem?_set_ne (Ne.symm h1)] at q1 q5
        cases q3; cases q6
        exact absurd ⟨j, l, d, q1, q2, q5⟩ (hfresh q4 b rfl)
      · rw [List.getElem?_set_ne (Ne.symm h1)] at q1 q5
        rw [List.getElem?_set_ne (Ne.symm h2)] at q3 q6
        exact p1.er.dj j j' l l' d d' b q1 q2 q3 q4 q5 q6
  · rcases zoy z with z | ⟨ho, rfl⟩
    · exact .inl (p1.sh b z)
    · exact .inr (hn ho b rfl)
def zaM (i : Nat) (f : M RV) : M Fl := M.bind f fun rv => M.bind (match rv with
  | .new d => zhd i (.own, d)
  | .val d => zhd i (.frz, d)
  | .var j => M.bind (mat (.var j)) fun d => zhd i (.frz, d)) fun _ => M.pure .nx
theorem zmn {t : TE} {i : Nat} (h : RdE EE ios t f) : RdS EE ios (zlL t (zhe i)) (zaM i f) := by
  intro σ H R Γ D er w
  unfold zaM at w
  rw [zac] at w
  refine h σ H R Γ _ er (zah w (fun rv Γ1 w x H1 R1 p1 hx => ?_) fun _ _ z => z.exp)
  show D.nx (σ.set i (some x)) H1
  rw [zac] at w
  cases rv with
  | val d => exact w _ H1 R1 (SPo.set er p1 (s := (.frz, d)) hx fun z => by cases z)
  | new d =>
    obtain ⟨h1, a, h2, h3⟩ := hx
    exact w _ H1 R1 (SPo.set er p1 (s := (.own, d)) h1 fun _ b eb => by rw [h2] at eb; cases eb; exact h3)
  | var j =>
    rw [zac] at w
    obtain ⟨d, Γ2, R2, p2, _, r2, w⟩ := zec er p1 hx w
    exact w _ H1 R2 (SPo.set er p2 (s := (.frz, d)) r2 fun z => by cases z)
theorem zaD {i : Nat} {x : Str} {pos' : Pos} (hN : X.N.Nodup) (hi : X.N[i]? = some x) (hx : Loc X.env.scope x) (he : VE X EE ios e f) (hs : swapsWith e (some (.Name x pos')) pos.line X.env = pure false := by rfl) (hf : X.fn x = true \/ X.env.scope.names.lookup x = some .local := by first | exact .inl rfl | exact .inr rfl | assumption) :
    VS X EE ios (.Assign [.Name x pos'] e pos) (zaM i f) := let ⟨_, h1, h2⟩ := he; ⟨_, zpL hN hi hx h1 hs hf, zmn h2⟩
def NoX : Xc -> En -> Prop := fun _ _ => False
def RdG (ios : List Addr) (n : Nat) (g : TG) (m : D -> M Unit) : Prop := ∀ σ H R Γ v d (Q : St -> Hp -> Prop), ER ios R H σ Γ -> Rp R v d ->
  wpM (m d Γ) (fun _ Γ' => ∀ σ' H' R', SPo ios R H σ Γ R' H' σ' Γ' -> (∀ k, n <= k -> σ'[k]? = σ[k]?) -> Same R R' -> Q σ' H') NoX -> g v σ H Q
def zn6 (ios : List Addr) (n : Nat) (g : TGs) (m : List D -> M Unit) : Prop := ∀ σ H R Γ vs ds (Q : St -> Hp -> Prop), ER ios R H σ Γ -> Rps R vs ds ->
  wpM (m ds Γ) (fun _ Γ' => ∀ σ' H' R', SPo ios R H σ Γ R' H' σ' Γ' -> (∀ k, n <= k -> σ'[k]? = σ[k]?) -> Same R R' -> Q σ' H') NoX -> g vs σ H Q
def gN (i : Nat) (d : D) : M Unit := zhd i (.frz, d)
theorem zaG {i n : Nat} (h : i < n) : RdG ios n (zhe i) (gN i) := fun σ H R Γ v d Q er hv w =>
  w _ H R (SPo.set er (EPo.refl er) (s := (.frz, d)) hv fun z => by cases z) (fun k hk => List.getElem?_set_ne (by omega)) (Same.refl _)
def gs0 : List D -> M Unit
  | [] => M.pure ()
  | _ => M.st
def gsC (m : D -> M Unit) (ms : List D -> M Unit) : List D -> M Unit
  | d :: r => M.bind (m d) fun _ => ms r
  | [] => M.st
theorem zdj {n : Nat} : zn6 ios n zqT gs0 := fun σ H R Γ vs ds Q er hv w => by
  cases hv with
  | nil => exact ⟨rfl, w σ H R (SPo.refl er) (fun _ _ => rfl) (Same.refl _)⟩
  | cons _ _ => exact False.elim w
theorem zbe {n : Nat} {g : TG} {gs : TGs} {m : D -> M Unit} {ms : List D -> M Unit} (h : RdG ios n g m) (h' : zn6 ios n gs ms) : zn6 ios n (zoZ g gs) (gsC m ms) := fun σ H R Γ vs ds Q er hv w => by
  cases hv with
  | nil => exact False.elim w
  | cons h1 h2 =>
    refine ⟨_, _, rfl, ?_⟩
    unfold gsC at w
    rw [zac] at w
    refine h σ H R Γ _ _ _ er h1 (zah w (fun _ Γ1 w σ1 H1 R1 p1 k1 s1 => ?_) fun _ _ z => z)
    exact h' σ1 H1 R1 Γ1 _ _ _ p1.er (h2.sm s1) (zah w (fun _ Γ2 w σ2 H2 R2 p2 k2 s2 => w σ2 H2 R2 (p1.trans p2) (fun k hk => (k2 k hk).trans (k1 k hk)) (s1.trans s2)) fun _ _ z => z)
def gT (n : Nat) (ms : List D -> M Unit) : D -> M Unit
  | .tup ds => if ds.length = n then ms ds else M.st
  | _ => M.st
theorem zdd {n m : Nat} {K : PySem.W.Frag} {gs : TGs} {ms : List D -> M Unit} (h : zn6 ios n gs ms) : RdG ios n (zrx K m gs) (gT m ms) := fun σ H R Γ v d Q er hv w => by
  unfold gT at w
  split at w
  · split at w
    · rename_i c
      cases hv with
      | tup e q => exact ⟨_, _, rfl, SqT.of (er.sub _ _ e), by rw [q.len]; exact c, h σ H R Γ _ _ Q er q w⟩
    · exact False.elim w
  · exact False.elim w
def g2 (ms : List D -> M Unit) : D -> M Unit
  | .lst [x, y] => ms [x, y]
  | _ => M.st
def noX (m : M Unit) : M Unit := fun Γ => match m Γ with
  | .ok a Γ' => .ok a Γ'
  | _ => .st
def zfs (m : D -> M Unit) (f : M RV) : M Fl := M.bind f fun rv => M.bind (mat rv) fun d => M.bind (noX (m d)) fun _ => M.pure .nx
theorem zgv {m : M Unit} {Γ : En} {K : Unit -> En -> Prop} {E : Xc -> En -> Prop} (h : wpM (noX m Γ) K E) : wpM (m Γ) K NoX := by
  unfold noX at h
  cases q : m Γ with
  | ok a Γ' => rw [q] at h; exact h
  | ex x Γ' => rw [q] at h; exact False.elim h
  | st => rw [q] at h; exact False.elim h
theorem zoa {t : TE} {g : TG} {m : D -> M Unit} {n : Nat} (h : RdE EE ios t f) (hg : RdG ios n g m) : RdS EE ios (zlL t g) (zfs m f) := by
  intro σ H R Γ D er w
  unfold zfs at w
  rw [zac] at w
  refine h σ H R Γ _ er (zah w (fun rv Γ1 w x H1 R1 p1 hx => ?_) fun _ _ z => z.exp)
  rw [zac] at w
  obtain ⟨d, Γ2, R2, p2, _, r2, w⟩ := zec er p1 hx w
  rw [zac] at w
  exact hg σ H1 R2 Γ2 x d _ p2.er r2 (zah (zgv w) (fun _ Γ3 w σ3 H3 R3 p3 _ _ => w σ3 H3 R3 (p2.spo.trans p3)) fun _ _ z => z)
theorem zeF {tg : Expr} {g : TG} {m : D -> M Unit} {n : Nat} (he : VE X EE ios e f) (hr : RdG ios n g m) (hp : ∀ t, PE X e t -> PS X (.Assign [tg] e pos) (zlL t g)) : VS X EE ios (.Assign [tg] e pos) (zfs m f) :=
  let ⟨_, h1, h2⟩ := he; ⟨_, hp _ h1, zoa h2 hr⟩
def setAt (j : Nat) (d di : D) : M Unit := fun Γ => match Γ[j]?, di with
  | some (some (kd, .lst ds)), .int i => if owned kd then match ixN ds.length i with
    | some k => .ok () (Γ.set j (some (kd, .lst (ds.set k d))))
    | none => .st else .st
  | _, _ => .st
def gS (j : Nat) (fi : M RV) (d : D) : M Unit := M.bind (recv j) fun _ => M.bind fi fun ri => M.bind (peek ri) fun di => setAt j d di
theorem zkX {j n : Nat} {ti : TE} {fi : M RV} (hi : RdE EE ios ti fi) : RdG ios n (zrg (zlA j) ti zo0) (gS j fi) := fun σ H R Γ v d Q er hv w => by
  unfold gS at w
  rw [zac] at w
  obtain ⟨p, _, hσ, _, w⟩ := zkg er w
  refine ⟨_, hσ, ?_⟩
  rw [zac] at w
  refine hi σ H R Γ _ er (zah w (fun ri Γ1 w y H1 R1 p1 hy => ?_) fun _ _ z => z.elim)
  rw [zac] at w
  obtain ⟨di, pd, w⟩ := zbS p1.er hy w
  unfold setAt at w
  split at w
  · rename_i kd ds i q
    split at w
    · rename_i ho
      split at w
      · rename_i k hk
        obtain ⟨p', xs, e, h2, h3, m⟩ := p1.er.mut (ds' := ds.set k d) q ho hσ
        cases e
        exact ⟨p, xs, i, k, rfl, pd.int, h2, by rw [h3.len]; exact hk, w σ _ R1 (p1.trans (m _ (h3.set (hv.sm p1.go.rr) k))).spo (fun _ _ => rfl) p1.go.rr⟩
      · exact False.elim w
    · exact False.elim w
  · exact False.elim w
def ItR (J : It) (R0 : Hp) (items : List D) : Prop := ∀ (i : Nat) (H R : Hp), Same R0 R -> Same R H ->
  (∀ d, items[i]? = some d -> J.go i H /\ ∀ x H', J.yld i H x H' -> ∃ R', Al R H R' H' /\ Rp R' x d) /\ (items.length <= i -> J.stop i H)
def RdI (EE : XKS) (ios : List Addr) (wi : TI) (f : M (List D)) : Prop := ∀ σ H R Γ Rk, ER ios R H σ Γ ->
  wpM (f Γ) (fun items Γ' => ∀ J H' R', EPo ios R H σ Γ R' H' Γ' -> ItR J R' items -> Rk J H') (EXP EE ios R H σ Γ) -> wi σ H Rk
def VI (X : Cx) (EE : XKS) (ios : List Addr) (tg iter : Expr) (f : M (List D)) : Prop := ∃ wi, PI X tg iter wi /\ RdI EE ios wi f
variable {tg : Expr}
def zey (f : M RV) : M (List D) := M.bind f fun rv => M.bind (mat rv) fun d => match d with
  | .lst ds => M.pure ds
  | .scr ns => M.pure (ns.map D.int)
  | _ => M.st
def tupI (f : M RV) : M (List D) := M.bind f fun rv => M.bind (mat rv) fun d => match d with
  | .tup ds => M.pure ds
  | _ => M.st
theorem zl8 {K : PySem.W.Frag} {R0 : Hp} {a : Addr} {xs : List V} {ds : List D} (h : ∀ H, Same R0 H -> SqL K H a xs) (r : Rps R0 xs ds) : ItR (Itl K a) R0 ds := by
  intro i H R s1 s2
  have s := s1.trans s2
  refine ⟨fun d hd => ?_, fun hl => ⟨xs, h H s, by rw [r.len]; exact hl⟩⟩
  obtain ⟨x, hx, rx⟩ := r.ta hd
  refine ⟨⟨xs, x, h H s, hx⟩, fun y H' hy => ?_⟩
  obtain ⟨rfl, hy⟩ := hy
  have := hy xs (h _ s)
  rw [hx] at this
  cases this
  exact ⟨R, Al.refl s2, rx.sm s1⟩
theorem zdI (h : VE X EE ios e f) (hK : X.K = KC.K := by rfl) : VI X EE ios tg e (zey f) := by
  obtain ⟨t, h1, h2⟩ := h
  refine ⟨_, zoM h1, fun σ H R Γ Rk er w => ?_⟩
  unfold zey at w
  rw [zac] at w
  refine h2 σ H R Γ _ er (zah w (fun rv Γ1 w x H1 R1 p1 hx => ?_) fun _ _ z => z)
  rw [zac] at w
  obtain ⟨d, Γ2, R2, p2, _, r2, w⟩ := zec er p1 hx w
  split at w
  · cases r2 with
    | lst e q => exact ⟨_, rfl, ⟨_, SqL.of (p2.er.sub _ _ e)⟩, w _ H1 R2 p2 (zl8 (fun H s => SqL.of (s _ _ e)) q)⟩
  · cases r2 with
    | scr e => exact ⟨_, rfl, ⟨_, by rw [hK]; exact p2.er.sub.seq e⟩, w _ H1 R2 p2 (zl8 (fun H s => by rw [hK]; exact s.seq e) (Rps.ints _))⟩
  · exact False.elim w
def upI (lo : Int) (n : Nat) : List D := (List.range n).map fun (i : Nat) => D.int (lo + i)
theorem zqD {R0 : Hp} {lo : Int} {n : Nat} : ItR (Itr lo n) R0 (upI lo n) := by
  intro i H R s1 s2
  refine ⟨fun d hd => ?_, fun hl => show n <= i by simpa [upI] using hl⟩
  unfold upI at hd
  rw [List.getElem?_map] at hd
  cases q : (List.range n)[i]? with
  | none => rw [q] at hd; cases hd
  | some j =>
    rw [q] at hd
    cases hd
    obtain ⟨h1, h2⟩ := List.getElem?_eq_some_iff.mp q
    rw [List.getElem_range] at h2
    subst h2
    refine ⟨show i < n by simpa using h1, fun x H' hx => ?_⟩
    obtain ⟨rfl, rfl⟩ := hx
    exact ⟨R, Al.refl s2, .int _⟩
noncomputable def small (j : Int) : Bool := cd (-(2 ^ 62) <= j /\ j < 2 ^ 62)
noncomputable def zgX (fs : M (List RV)) : M (List D) := M.bind fs fun rvs => match rvs with
  | [.val (.int j)] => if small j then M.pure (upI 0 j.toNat) else M.st
  | _ => M.st
noncomputable def zsd (fs : M (List RV)) : M (List D) := M.bind fs fun rvs => match rvs with
  | [.val (.int i), .val (.int j)] => if small i && small j then M.pure (upI i (j - i).toNat) else M.st
  | _ => M.st
theorem zgi {e0 : Expr} (hp : ∀ t, PA X es t -> PI X tg e0 (zo5 t)) (ha : VA X EE ios es fs) : VI X EE ios tg e0 (zgX fs) := by
  obtain ⟨t, h1, h2⟩ := ha
  refine ⟨_, hp t h1, fun σ H R Γ Rk er w => ?_⟩
  unfold zgX at w
  rw [zac] at w
  refine h2 σ H R Γ _ er (zah w (fun rvs Γ1 w xs H1 R1 p1 hx => ?_) fun _ _ z => z)
  split at w
  · split at w
    · rename_i c
      have c := zeC c
      cases hx with
      | cons a b =>
        cases b
        cases a
        exact ⟨_, rfl, c.1, c.2, w _ H1 R1 p1 zqD⟩
    · exact False.elim w
  · exact False.elim w
def upC (lo c : Int) (n : Nat) : List D := (List.range n).map fun (i : Nat) => D.int (lo + i * c)
theorem zol {R0 : Hp} {lo c : Int} {n : Nat} : ItR (zpH lo c n) R0 (upC lo c n) := by
  intro i H R s1 s2
  refine ⟨fun d hd => ?_, fun hl => show n <= i by simpa [upC] using hl⟩
  unfold upC at hd
  rw [List.getElem?_map] at hd
  cases q : (List.range n)[i]? with
  | none => rw [q] at hd; cases hd
  | some j =>
    rw [q] at hd
    cases hd
    obtain ⟨h1, h2⟩ := List.getElem?_eq_some_iff.mp q
    rw [List.getElem_range] at h2
    subst h2
    refine ⟨show i < n by simpa using h1, fun x H' hx => ?_⟩
    obtain ⟨rfl, rfl⟩ := hx
    exact ⟨R, Al.refl s2, .int _⟩
noncomputable def znz (fs : M (List RV)) : M (List D) := M.bind fs fun rvs => match rvs with
  | [.val (.int i), .val (.int j), .val (.int c)] => if cd (c ≠ 0 /\ c.natAbs < 1073741824 /\ Builtin.Range.small i j c = true /\ 0 <= Builtin.Range.rangeSize i j c) then M.pure (upC i c (Builtin.Range.rangeSize i j c).toNat) else M.st
  | _ => M.st
theorem zox {e0 : Expr} (hp : ∀ t, PA X es t -> PI X tg e0 (zpd t)) (ha : VA X EE ios es fs) : VI X EE ios tg e0 (znz fs) := by
  obtain ⟨t, h1, h2⟩ := ha
  refine ⟨_, hp t h1, fun σ H R Γ Rk er w => ?_⟩
  unfold znz at w
  rw [zac] at w
  refine h2 σ H R Γ _ er (zah w (fun rvs Γ1 w xs H1 R1 p1 hx => ?_) fun _ _ z => z)
  split at w
  · split at w
    · rename_i c
      have c := zeC c
      cases hx with
      | cons a b =>
        cases b with
        | cons b c' =>
          cases c' with
          | cons c' d' =>
            cases d'
            cases a
            cases b
            cases c'
            exact ⟨_, _, _, _, rfl, c.1, c.2.1, c.2.2.1, (by rw [Int.toNat_of_nonneg c.2.2.2]), w _ H1 R1 p1 zol⟩
    · exact False.elim w
  · exact False.elim w
def znB (ds : List D) : List D := ds.zipIdx.map fun p => D.tup [.int p.2, p.1]
theorem zph {R0 : Hp} {l : Addr} {xs : List V} {ds : List D} (h : R0 l = some (.lst xs)) (r : Rps R0 xs ds) : ItR (Ite l) R0 (znB ds) := by
  intro i H R s1 s2
  have hl : H l = some (.lst xs) := s2 _ _ (s1 _ _ h)
  refine ⟨fun d hd => ?_, fun hl' => ⟨xs, hl, by rw [r.len]; simpa [znB] using hl'⟩⟩
  have hd : ((ds.zipIdx)[i]?).map (fun p => D.tup [.int p.2, p.1]) = some d := by rw [<- List.getElem?_map]; exact hd
  rw [List.getElem?_zipIdx] at hd
  cases q : ds[i]? with
  | none => rw [q] at hd; cases hd
  | some d0 =>
    rw [q] at hd
    cases hd
    obtain ⟨x, hx, rx⟩ := r.ta q
    refine ⟨⟨xs, x, hl, hx⟩, fun v H' hv => ?_⟩
    obtain ⟨p, ys, y, rfl, hp, rfl, hy, hyi⟩ := hv
    rw [hl] at hy
    cases hy
    rw [hx] at hyi
    cases hyi
    obtain ⟨al, rv⟩ := zgA (xs := [.int i, x]) (ds := [.int i, d0]) s2 hp (.cons (.int _) (.cons (rx.sm s1) .nil))
    refine ⟨_, al, ?_⟩
    have rv : Rp _ _ _ := rv
    simpa using rv
def zg7 (fs : M (List RV)) : M (List D) := M.bind fs fun rvs => M.bind (za8 rvs) fun ds => match ds with
  | [.lst ds] => M.pure (znB ds)
  | _ => M.st
theorem zjP {e0 : Expr} (hp : ∀ t, PA X es t -> PI X tg e0 (zo4 t)) (ha : VA X EE ios es fs) : VI X EE ios tg e0 (zg7 fs) := by
  obtain ⟨t, h1, h2⟩ := ha
  refine ⟨_, hp t h1, fun σ H R Γ Rk er w => ?_⟩
  unfold zg7 at w
  rw [zac] at w
  refine h2 σ H R Γ _ er (zah w (fun rvs Γ1 w xs H1 R1 p1 hx => ?_) fun _ _ z => z)
  rw [zac] at w
  obtain ⟨ds, Γ2, R2, p2, _, r2, w⟩ := zbE er p1 hx w
  split at w
  · cases r2 with
    | cons a b =>
      cases b
      cases a with
      | lst e q => exact ⟨_, _, rfl, p2.er.sub _ _ e, w _ H1 R2 p2 (zph e q)⟩
  · exact False.elim w
end
end Dv
end
section
namespace Dv
open PySem L2 Ex
variable [KC]
section
variable {X : Cx} {EE : XKS} {ios : List Addr} {e a b c iter tg : Expr} {es : List Expr} {f g k : M RV} {fs : M (List RV)} {p : M Bool} {s s' : M Fl} {st : Stmt} {sts sts' : List Stmt} {pos : Pos}
theorem zih {α : Type} {a : α} {Γ : En} {K : α -> En -> Prop} {E : Xc -> En -> Prop} (h : K a Γ) : wpM (.ok a Γ) K E := h
theorem zjI {α : Type} {a : α} {Γ : En} {K : α -> En -> Prop} {E : Xc -> En -> Prop} (h : wpM (.ok a Γ) K E) : K a Γ := h
def ziD (m : D -> M Unit) (body : M Fl) (rest : M Fl) (d : D) : M Fl := M.bind (noX (m d)) fun _ => M.bind body fun fl => match fl with
  | .nx => rest
  | .cont => rest
  | .brk => M.pure .nx
  | .ret rv => M.pure (.ret rv)
def zce (m : D -> M Unit) (body : M Fl) : List D -> M Fl
  | [] => M.pure .nx
  | d :: r => ziD m body (zce m body r) d
def forM (items : M (List D)) (m : D -> M Unit) (body : M Fl) : M Fl := M.bind items fun ds => zce m body ds
theorem zp1 {wi : TI} {gt : TG} {tb : TS} {items : M (List D)} {m : D -> M Unit} {n : Nat} (hi : RdI EE ios wi items) (hg : RdG ios n gt m) (hb : RdS EE ios tb s) : RdS EE ios (zpf wi gt tb) (forM items m s) := by
  intro σ H R Γ D er w
  unfold forM at w
  rw [zac] at w
  refine hi σ H R Γ _ er (zah w (fun ds Γ1 w J H1 R1 p1 hJ => ?_) fun _ _ z => z.exp)
  refine ⟨fun i m' σ2 H2 => m' = ds.length - i /\ i <= ds.length /\ ∃ R2 Γ2, SPo ios R H σ Γ R2 H2 σ2 Γ2 /\ Same R1 R2 /\ wpM (zce m s (ds.drop i) Γ2) (FlK ios R H σ Γ D) (EXS EE ios R H σ Γ), ⟨ds.length, rfl, Nat.zero_le _, R1, Γ1, p1.spo, Same.refl _, w⟩, ?_⟩
  rintro i m' σ2 H2 ⟨rfl, hi', R2, Γ2, p2, s2, w⟩
  obtain ⟨go, stop⟩ := hJ i H2 R2 s2 p2.er.sub
  by_cases hlt : i < ds.length
  · have hd : ds[i]? = some ds[i] := List.getElem?_eq_getElem hlt
    obtain ⟨g1, g2⟩ := go _ hd
    rw [List.drop_eq_getElem_cons hlt] at w
    have w : wpM (ziD m s (zce m s (ds.drop (i + 1))) ds[i] Γ2) (FlK ios R H σ Γ D) (EXS EE ios R H σ Γ) := w
    unfold ziD at w
    rw [zac] at w
    refine .inr ⟨g1, fun σ3 H3 => ∃ R3 Γ3, SPo ios R H σ Γ R3 H3 σ3 Γ3 /\ Same R1 R3 /\ wpM (zce m s (ds.drop (i + 1)) Γ3) (FlK ios R H σ Γ D) (EXS EE ios R H σ Γ), ?_, fun x H3 hx => ?_⟩
    · rintro σ3 H3 ⟨R3, Γ3, q1, q2, q3⟩
      exact ⟨_, by omega, rfl, hlt, R3, Γ3, q1, q2, q3⟩
    · obtain ⟨R3, al, rx⟩ := g2 x H3 hx
      have er3 : ER ios R3 H3 σ2 Γ2 := p2.er.al al
      have p3 : SPo ios R H σ Γ R3 H3 σ2 Γ2 := ⟨er3, p2.go.trans al.go⟩
      refine hg σ2 H3 R3 Γ2 x _ _ er3 rx (zah (zgv w) (fun _ Γ4 w σ4 H4 R4 p4 _ s4 => ?_) fun _ _ z => z)
      rw [zac] at w
      have p34 := p3.trans p4
      refine hb σ4 H4 R4 Γ4 _ p4.er (zah w (fun fl Γ5 w σ5 H5 R5 p5 => ?_) fun _ _ z => EXS.trans p34 z)
      have p35 := p34.trans p5
      have s5 : Same R1 R5 := ((s2.trans al.rr).trans s4).trans p5.go.rr
      cases fl with
      | nx => exact ⟨R5, Γ5, p35, s5, w⟩
      | cont => exact ⟨R5, Γ5, p35, s5, w⟩
      | brk => exact w σ5 H5 R5 p35
      | ret rv => exact fun y hy => w σ5 H5 R5 p35 y (zfc p34.back hy)
  · have e : ds.drop i = [] := List.drop_eq_nil_of_le (by omega)
    rw [e] at w
    exact .inl ⟨stop (by omega), w σ2 H2 R2 p2⟩
theorem zc5 {gt : TG} {items : M (List D)} {m : D -> M Unit} {n : Nat} (hi : VI X EE ios tg iter items) (hr : RdG ios n gt m) (hb : VSs X EE ios sts s)
    (hps : ∀ wi tb, PI X tg iter wi -> PSs X sts tb -> PS X (.For tg iter sts [] pos) (zpf wi gt tb)) : VS X EE ios (.For tg iter sts [] pos) (forM items m s) :=
  let ⟨_, h1, h2⟩ := hi; let ⟨_, h3, h4⟩ := hb; ⟨_, hps _ _ h1 h3, zp1 h2 hr h4⟩
def zb1 (p : M Bool) (body : M Fl) : Nat -> M Fl
  | 0 => M.st
  | n + 1 => M.bind p fun b => if b then M.bind body fun fl => match fl with
    | .nx => zb1 p body n
    | .cont => zb1 p body n
    | .brk => M.pure .nx
    | .ret rv => M.pure (.ret rv) else M.pure .nx
theorem zms {tc : TT} {tb : TS} (hc : RdT EE ios tc p) (hb : RdS EE ios tb s) (n : Nat) : RdS EE ios (zl1 tc tb) (zb1 p s n) := by
  intro σ H R Γ D er w
  refine ⟨fun n' σ2 H2 => ∃ R2 Γ2, SPo ios R H σ Γ R2 H2 σ2 Γ2 /\ wpM (zb1 p s n' Γ2) (FlK ios R H σ Γ D) (EXS EE ios R H σ Γ), ⟨n, R, Γ, SPo.refl er, w⟩, ?_⟩
  rintro n' σ2 H2 ⟨R2, Γ2, p2, w⟩
  cases n' with
  | zero => exact False.elim w
  | succ n' =>
    unfold zb1 at w
    rw [zac] at w
    refine hc σ2 H2 R2 Γ2 _ p2.er (zah w (fun b Γ3 w H3 R3 p3 => ?_) fun _ _ z => (EXS.trans p2 z).exp)
    have p23 := p2.trans p3.spo
    cases b with
    | false => exact zjQ (w σ2 H3 R3 p23)
    | true =>
      refine zjA ⟨fun σ4 H4 => ∃ R4 Γ4, SPo ios R H σ Γ R4 H4 σ4 Γ4 /\ wpM (zb1 p s n' Γ4) (FlK ios R H σ Γ D) (EXS EE ios R H σ Γ), fun σ4 H4 q => ⟨n', Nat.lt_succ_self _, q⟩, ?_⟩
      simp only [if_true] at w
      rw [zac] at w
      refine hb σ2 H3 R3 Γ3 _ p3.er (zah w (fun fl Γ5 w σ5 H5 R5 p5 => ?_) fun _ _ z => EXS.trans p23 z)
      have p25 := p23.trans p5
      cases fl with
      | nx => exact ⟨R5, Γ5, p25, w⟩
      | cont => exact ⟨R5, Γ5, p25, w⟩
      | brk => exact w σ5 H5 R5 p25
      | ret rv => exact fun y hy => w σ5 H5 R5 p25 y (zfc p23.back hy)
theorem znh {n : Nat} (hc : VT X EE ios c p) (hb : VSs X EE ios sts s) (hp : PassesOwn (model X.prog X.w) X.A X.env X.xe := by exact PassesOwn.never) : VS X EE ios (.While c sts [] pos) (zb1 p s n) :=
  let ⟨_, h1, h2⟩ := hc; let ⟨_, h3, h4⟩ := hb; ⟨_, zmo hp h1 h3, zms h2 h4 n⟩
def zcb (fr : List Nat) (own : Nat) (Γ : En) : En := List.replicate own none ++ fr.map fun j => (Γ[j]?).join
def unblk : List Nat -> Nat -> En -> En -> En
  | [], _, Γ, _ => Γ
  | j :: r, k, Γ, Γb => unblk r (k + 1) (Γ.set j (Γb[k]?).join) Γb
theorem zm7 {α : Type} {fr : List Nat} {own : Nat} {L : List (Option α)} {i : Nat} (h : i < own) : (List.replicate own (none : Option α) ++ fr.map fun j => (L[j]?).join)[i]? = some none := by
  rw [List.getElem?_append_left (by rw [List.length_replicate]; exact h), List.getElem?_replicate, if_pos h]
theorem zh1 {α : Type} {fr : List Nat} {own : Nat} {L : List (Option α)} {i : Nat} (h : own <= i) : (List.replicate own (none : Option α) ++ fr.map fun j => (L[j]?).join)[i]? = (fr[i - own]?).map fun j => (L[j]?).join := by
  rw [List.getElem?_append_right (by rw [List.length_replicate]; exact h), List.length_replicate, List.getElem?_map]
theorem zew {α : Type} {o : Option (Option α)} {a : α} (h : o.join = some a) : o = some (some a) := by
  cases o with
  | none => cases h
  | some o => cases o with
    | none => cases h
    | some b => cases h; rfl
theorem zcU {fr : List Nat} {own i : Nat} {Γ : En} {s : Kd × D} (h : (zcb fr own Γ)[i]? = some (some s)) : own <= i /\ ∃ j, fr[i - own]? = some j /\ Γ[j]? = some (some s) := by
  unfold zcb at h
  by_cases hi : i < own
  · rw [zm7 hi] at h; cases h
  · rw [zh1 (by omega)] at h
    cases q : fr[i - own]? with
    | none => rw [q] at h; cases h
    | some j =>
      rw [q] at h
      exact ⟨by omega, j, rfl, zew (Option.some.inj h)⟩
theorem zoK {fr : List Nat} {own i j : Nat} {σ : St} {v : V} (hi : own <= i) (hj : fr[i - own]? = some j) (hv : σ[j]? = some (some v)) : (compσ fr own σ)[i]? = some (some v) := by
  unfold compσ
  rw [zh1 hi, hj]
  show some ((σ[j]?).join) = _
  rw [hv]; rfl
theorem zdq {fr : List Nat} {own i j : Nat} {σ : St} {v : V} (hi : own <= i) (hj : fr[i - own]? = some j) (h : (compσ fr own σ)[i]? = some (some v)) : σ[j]? = some (some v) := by
  unfold compσ at h
  rw [zh1 hi, hj] at h
  exact zew (Option.some.inj h)
theorem zlm {fr : List Nat} (hn : fr.Nodup) {i j x : Nat} (h1 : fr[i]? = some x) (h2 : fr[j]? = some x) : i = j := by
  obtain ⟨l1, e1⟩ := List.getElem?_eq_some_iff.mp h1
  obtain ⟨l2, e2⟩ := List.getElem?_eq_some_iff.mp h2
  exact (List.getElem_inj hn).mp (e1.trans e2.symm)
theorem ER.blk {R H : Hp} {σ : St} {Γ : En} {fr : List Nat} {own : Nat} (er : ER ios R H σ Γ) (hn : fr.Nodup) : ER ios R H (compσ fr own σ) (zcb fr own Γ) where
  sub := er.sub
  len := by unfold compσ zcb; simp
  sl := fun i s h => by
    obtain ⟨hi, j, hj, hs⟩ := zcU h
    obtain ⟨v, hv, q⟩ := er.sl j s hs
    exact ⟨v, zoK hi hj hv, q⟩
  dj := fun i j k l d e b q1 q2 q3 q4 q5 q6 => by
    obtain ⟨hi, i', hi', s1⟩ := zcU q1
    obtain ⟨hj, j', hj', s2⟩ := zcU q3
    have := er.dj i' j' k l d e b s1 q2 s2 q4 (zdq hi hi' q5) (zdq hj hj' q6)
    subst this
    have := zlm hn hi' hj'
    omega
theorem Ow.blk {σ : St} {Γ : En} {fr : List Nat} {own : Nat} {b : Addr} (h : Ow (compσ fr own σ) (zcb fr own Γ) b) : Ow σ Γ b := by
  obtain ⟨i, k, d, h1, h2, h3⟩ := h
  obtain ⟨hi, j, hj, hs⟩ := zcU h1
  exact ⟨j, k, d, hs, h2, zdq hi hj h3⟩
theorem zfO : ∀ {fr : List Nat} {k : Nat} {Γ Γb : En}, (unblk fr k Γ Γb).length = Γ.length
  | [], _, _, _ => rfl
  | j :: r, k, Γ, Γb => by unfold unblk; rw [zfO, List.length_set]
theorem zfL : ∀ {fr : List Nat} {k j : Nat} {Γ Γb : En}, j ∉ fr -> (unblk fr k Γ Γb)[j]? = Γ[j]?
  | [], _, _, _, _, _ => rfl
  | i :: r, k, j, Γ, Γb, h => by
    unfold unblk
    rw [zfL (fun z => h (List.mem_cons_of_mem _ z)), List.getElem?_set_ne (fun z => h (by rw [z]; exact List.mem_cons_self ..))]
theorem ziY : ∀ {fr : List Nat} {k i j : Nat} {Γ Γb : En}, fr.Nodup -> fr[i]? = some j -> j < Γ.length -> (unblk fr k Γ Γb)[j]? = some (Γb[k + i]?).join
  | [], _, _, _, _, _, _, h, _ => by simp at h
  | x :: r, k, 0, j, Γ, Γb, hn, h, hl => by
    simp at h
    subst h
    unfold unblk
    rw [zfL (List.nodup_cons.mp hn).1, List.getElem?_set_self hl]
    rfl
  | x :: r, k, i + 1, j, Γ, Γb, hn, h, hl => by
    unfold unblk
    rw [ziY (List.nodup_cons.mp hn).2 (by simpa using h) (by rw [List.length_set]; exact hl)]
    rw [show k + 1 + i = k + (i + 1) by omega]
theorem EPo.unblk {R H R1 H1 : Hp} {σ σb : St} {Γ Γb : En} {fr : List Nat} {own : Nat} (er : ER ios R H σ Γ) (hn : fr.Nodup) (p : SPo ios R H (compσ fr own σ) (zcb fr own Γ) R1 H1 σb Γb) (keep : ∀ k, own <= k -> σb[k]? = (compσ fr own σ)[k]?)
    (sh : ∀ b, Ow σb Γb b -> Ow (compσ fr own σ) (zcb fr own Γ) b) : EPo ios R H σ Γ R1 H1 (Dv.unblk fr own Γ Γb) := by
  have slot : ∀ (j : Nat) (s : Kd × D), (Dv.unblk fr own Γ Γb)[j]? = some (some s) -> (j ∉ fr /\ Γ[j]? = some (some s)) \/ ∃ i, fr[i]? = some j /\ Γb[own + i]? = some (some s) /\ σb[own + i]? = some ((σ[j]?).join) := by
    intro j s h
    by_cases hj : j ∈ fr
    · obtain ⟨i, hi, e⟩ := List.getElem_of_mem hj
      have hi' : fr[i]? = some j := by rw [List.getElem?_eq_getElem hi, e]
      have hl : j < Γ.length := by have := (List.getElem?_eq_some_iff.mp h).1; rwa [zfO] at this
      rw [ziY hn hi' hl] at h
      refine .inr ⟨i, hi', zew (Option.some.inj h), ?_⟩
      rw [keep _ (by omega)]
      unfold compσ
      rw [zh1 (by omega), show own + i - own = i by omega, hi']
      rfl
    · rw [zfL hj] at h
      exact .inl ⟨hj, h⟩
  have inside : ∀ (i j : Nat) (k : Kd) (d : D) (b : Addr), fr[i]? = some j -> Γb[own + i]? = some (some (k, d)) -> owned k = true -> σb[own + i]? = some ((σ[j]?).join) -> σ[j]? = some (some (.ref b)) -> ∃ j0 k0 d0, j0 ∈ fr /\ Γ[j0]? = some (some (k0, d0)) /\ owned k0 = true /\ σ[j0]? = some (some (.ref b)) := by
    intro i j k d b hi q h2 e h3
    have e : σb[own + i]? = some (some (.ref b)) := by rw [e, h3]; rfl
    obtain ⟨i0, k0, d0, g1, g2, g3⟩ := sh b ⟨own + i, k, d, q, h2, e⟩
    obtain ⟨hi0, j0, hj0, hs0⟩ := zcU g1
    exact ⟨j0, k0, d0, List.mem_of_getElem? hj0, hs0, g2, zdq hi0 hj0 g3⟩
  have sh' : ∀ b, Ow σ (Dv.unblk fr own Γ Γb) b -> Ow σ Γ b := by
    rintro b ⟨j, k, d, h1, h2, h3⟩
    rcases slot j _ h1 with ⟨_, q⟩ | ⟨i, hi, q, e⟩
    · exact ⟨j, k, d, q, h2, h3⟩
    · obtain ⟨j0, k0, d0, _, g1, g2, g3⟩ := inside i j k d b hi q h2 e h3
      exact ⟨j0, k0, d0, g1, g2, g3⟩
  have out : ∀ (j : Nat) (k : Kd) (d : D) (b : Addr), j ∉ fr -> Γ[j]? = some (some (k, d)) -> owned k = true -> σ[j]? = some (some (.ref b)) -> ¬ Ow (compσ fr own σ) (zcb fr own Γ) b := by
    rintro j k d b hj h1 h2 h3 ⟨i0, k0, d0, g1, g2, g3⟩
    obtain ⟨hi0, j0, hj0, hs0⟩ := zcU g1
    have := er.dj j j0 k k0 d d0 b h1 h2 hs0 g2 h3 (zdq hi0 hj0 g3)
    subst this
    exact hj (List.mem_of_getElem? hj0)
  refine ⟨⟨p.er.sub, by rw [zfO]; exact er.len, fun j t hj => ?_, fun j j' l l' d d' b q1 q2 q3 q4 q5 q6 => ?_⟩, ⟨p.go.rr, fun b o h n => p.go.hh b o h fun z => n z.blk, fun b o h n r => p.go.no b o h (fun z => n z.blk) r, fun b z => .inl (sh' b z), p.go.th⟩, sh'⟩
  · rcases slot j t hj with ⟨hf, q⟩ | ⟨i, hi, q, e⟩
    · obtain ⟨v, hv, q'⟩ := er.sl j t q
      refine ⟨v, hv, q'.mono p.go.rr fun ho b ys eb hb rb => ?_⟩
      subst eb
      have := out j t.1 t.2 b hf q ho hv
      exact ⟨p.go.hh b _ hb this, p.go.no b _ hb this rb⟩
    · obtain ⟨v, hv, q'⟩ := p.er.sl _ t q
      rw [e] at hv
      exact ⟨v, zew (Option.some.inj hv), q'⟩
  · rcases slot j _ q1 with ⟨hf, g1⟩ | ⟨i, hi, g1, e1⟩
    · rcases slot j' _ q3 with ⟨hf', g3⟩ | ⟨i', hi', g3, e3⟩
      · exact er.dj j j' l l' d d' b g1 q2 g3 q4 q5 q6
      · obtain ⟨j0, k0, d0, m0, z1, z2, z3⟩ := inside i' j' l' d' b hi' g3 q4 e3 q6
        have := er.dj j j0 l k0 d d0 b g1 q2 z1 z2 q5 z3
        subst this
        exact absurd m0 hf
    · rcases slot j' _ q3 with ⟨hf', g3⟩ | ⟨i', hi', g3, e3⟩
      · obtain ⟨j0, k0, d0, m0, z1, z2, z3⟩ := inside i j l d b hi g1 q2 e1 q5
        have := er.dj j' j0 l' k0 d' d0 b g3 q4 z1 z2 q6 z3
        subst this
        exact absurd m0 hf'
      · have := p.er.dj (own + i) (own + i') l l' d d' b g1 q2 g3 q4 (by rw [e1, q5]; rfl) (by rw [e3, q6]; rfl)
        have : i = i' := by omega
        subst this
        rw [hi] at hi'
        exact Option.some.inj hi'
def zjW (n : Nat) (m : D -> M Unit) : Prop := ∀ d Γ Γ', m d Γ = .ok () Γ' -> (∀ k, n <= k -> Γ'[k]? = Γ[k]?) /\ ∀ i s, i < n -> Γ'[i]? = some (some s) -> Γ[i]? = some (some s) \/ s.1 = .frz
theorem zgh {i n : Nat} (h : i < n) : zjW n (gN i) := fun d Γ Γ' e => by
  cases e
  refine ⟨fun k hk => List.getElem?_set_ne (by omega), fun j s hj q => ?_⟩
  by_cases hji : j = i
  · subst hji
    have l1 : j < Γ.length := by have := (List.getElem?_eq_some_iff.mp q).1; rwa [List.length_set] at this
    rw [List.getElem?_set_self l1] at q
    cases q
    exact .inr rfl
  · rw [List.getElem?_set_ne (Ne.symm hji)] at q
    exact .inl q
def zjj (m : D -> M Unit) (p : M Bool) (f : M RV) (d : D) : M (Option D) := M.bind (noX (m d)) fun _ => M.bind p fun b => if b then M.bind f fun rv => M.bind (mat rv) fun y => M.pure (some y) else M.pure none
def lcM (fr : List Nat) (own : Nat) (m : D -> M Unit) (p : M Bool) (f : M RV) : List D -> M (List D)
  | [] => M.pure []
  | d :: r => fun Γ => match zjj m p f d (zcb fr own Γ) with
    | .ok y Γb => match lcM fr own m p f r (unblk fr own Γ Γb) with
      | .ok ys Γ' => .ok (y.toList ++ ys) Γ'
      | _ => .st
    | _ => .st
def zds (items : M (List D)) (fr : List Nat) (own : Nat) (m : D -> M Unit) (p : M Bool) (f : M RV) : M RV := M.bind items fun ds => if ds.length < sizeLine then M.bind (lcM fr own m p f ds) fun ys => M.pure (.new (.lst ys)) else M.st
abbrev EN : XKS := fun _ _ _ _ => False
theorem zo6 {wi : TI} {gt : TG} {tc : TT} {te : TE} {items : M (List D)} {m : D -> M Unit} {fr : List Nat} {own : Nat} (hn : fr.Nodup) (hi : RdI EE ios wi items) (hg : RdG ios own gt m) (hk : zjW own m) (hc : RdT EN ios tc p) (he : RdE EN ios te f) : RdE EE ios (tLC fr own wi gt tc te) (zds items fr own m p f) := by
  intro σ H R Γ Q er w
  unfold zds at w
  rw [zac] at w
  refine hi σ H R Γ _ er (zah w (fun ds Γ1 w J H1 R1 p1 hJ => ?_) fun _ _ z => z)
  split at w
  · rename_i hsz
    rw [zac] at w
    intro A hA
    have hRA : R1 A = none := p1.er.sub.free hA
    have alA : Al R1 H1 R1 (upd H1 A (.lst [])) := ⟨p1.er.sub.trans (zcw hA), Same.refl _, zcw hA, fun _ _ _ z => z⟩
    refine ⟨fun i n ys H2 => n = ds.length - i /\ i <= ds.length /\ ∃ R2 Γ2 ys2 L, EPo ios R H σ Γ R2 H2 Γ2 /\ Same R1 R2 /\ R2 A = none /\ Rps R2 ys ys2 /\ ys.length <= i /\ lcM fr own m p f (ds.drop i) Γ2 = L /\ wpM L (fun zs Γ' => ∀ x H' R', EPo ios R H σ Γ R' H' Γ' -> RvR R' H H' σ x (.new (.lst (ys2 ++ zs))) -> Q x H') (EXP EE ios R H σ Γ), ⟨ds.length, rfl, Nat.zero_le _, R1, Γ1, [], _, p1.al alA, Same.refl _, hRA, .nil, by simp, rfl, w⟩, ?_⟩
    rintro i n ys H2 hA2 ⟨rfl, hi', R2, Γ2, ys2, L, p2, s2, hRA2, hys, hyl, rfl, w⟩
    obtain ⟨go, stop⟩ := hJ i H2 R2 s2 p2.er.sub
    have nOA : ¬ Ow σ Γ A := fun z => by
      obtain ⟨_, xs, q⟩ := er.ow z
      rw [p1.back er A hA] at q; cases q
    by_cases hlt : i < ds.length
    · have hd : ds[i]? = some ds[i] := List.getElem?_eq_getElem hlt
      obtain ⟨g1, g2⟩ := go _ hd
      rw [List.drop_eq_getElem_cons hlt] at w
      refine .inr ⟨g1, by omega, fun x H3 hx => ?_⟩
      obtain ⟨R3, al, rx⟩ := g2 x H3 hx
      unfold lcM at w
      have p3 : EPo ios R H σ Γ R3 H3 Γ2 := p2.al al
      have hA3 : H3 A = some (.lst ys) := al.hh _ _ hA2
      have hRA3 : R3 A = none := al.no _ _ hA2 hRA2
      have erb : ER ios R3 H3 (compσ fr own σ) (zcb fr own Γ2) := p3.er.blk hn
      have nOAb : ¬ Ow (compσ fr own σ) (zcb fr own Γ2) A := fun z => nOA (p3.sh A z.blk)
      have run : wpM (zjj m p f ds[i] (zcb fr own Γ2)) (fun y Γb => wpM (lcM fr own m p f (ds.drop (i + 1)) (Dv.unblk fr own Γ2 Γb)) (fun zs Γ' => ∀ x H' R', EPo ios R H σ Γ R' H' Γ' -> RvR R' H H' σ x (.new (.lst (ys2 ++ (y.toList ++ zs)))) -> Q x H') (fun _ _ => False)) NoX := by
        cases q : zjj m p f ds[i] (zcb fr own Γ2) with
        | ok y Γb =>
          rw [q] at w
          dsimp only at w
          show wpM (lcM fr own m p f (ds.drop (i + 1)) (Dv.unblk fr own Γ2 Γb)) _ _
          cases q' : lcM fr own m p f (ds.drop (i + 1)) (Dv.unblk fr own Γ2 Γb) with
          | ok zs Γ' => rw [q'] at w; exact w
          | ex _ _ => rw [q'] at w; exact False.elim w
          | st => rw [q'] at w; exact False.elim w
        | ex _ _ => rw [q] at w; exact False.elim w
        | st => rw [q] at w; exact False.elim w
      unfold zjj at run
      rw [zac] at run
      cases hm : m ds[i] (zcb fr own Γ2) with
      | ex _ _ => have := zgv run; rw [hm] at this; exact this.elim
      | st => have := zgv run; rw [hm] at this; exact this.elim
      | ok u Γ4 =>
        obtain ⟨k1, k2⟩ := hk _ _ _ hm
        have wm := zgv run
        rw [hm] at wm
        refine hg (compσ fr own σ) H3 R3 (zcb fr own Γ2) x _ _ erb rx ?_
        rw [hm]
        refine zih fun σ4 H4 R4 p4 keep s4 => ?_
        have w := zjI wm
        rw [zac] at w
        have base4 : ∀ b, Ow σ4 Γ4 b -> Ow (compσ fr own σ) (zcb fr own Γ2) b := by
          rintro b ⟨j, k, d, h1, h2, h3⟩
          by_cases hj : own <= j
          · rw [k1 j hj] at h1
            rw [keep j hj] at h3
            exact ⟨j, k, d, h1, h2, h3⟩
          · rcases k2 j (k, d) (by omega) h1 with z | z
            · unfold zcb at z; rw [zm7 (by omega)] at z; cases z
            · cases z; cases h2
        refine hc σ4 H4 R4 Γ4 _ p4.er (zah w (fun b Γ6 w H6 R6 p6 => ?_) fun _ _ z => z.elim)
        have p46 : SPo ios R3 H3 (compσ fr own σ) (zcb fr own Γ2) R6 H6 σ4 Γ6 := p4.trans p6.spo
        have sh6 : ∀ b, Ow σ4 Γ6 b -> Ow (compσ fr own σ) (zcb fr own Γ2) b := fun b z => base4 b (p6.sh b z)
        have hA6 : H6 A = some (.lst ys) := p46.go.hh _ _ hA3 nOAb
        have hRA6 : R6 A = none := p46.go.no _ _ hA3 nOAb hRA3
        cases b with
        | false =>
          simp only [Bool.false_eq_true, if_false] at w ⊢
          have pu : EPo ios R3 H3 σ Γ2 R6 H6 (Dv.unblk fr own Γ2 Γ6) := EPo.unblk p3.er hn p46 keep sh6
          refine ⟨hA6, _, Nat.sub_lt_sub_left hlt (Nat.lt_succ_self i), rfl, hlt, R6, _, ys2, _, p3.trans pu, (s2.trans al.rr).trans p46.go.rr, hRA6, hys.sm (al.rr.trans p46.go.rr), by omega, rfl, ?_⟩
          exact zah w (fun zs Γ' w x H' R' p q => w x H' R' p q) fun _ _ z => z.elim
        | true =>
          simp only [if_true] at w ⊢
          rw [zac] at w
          refine he σ4 H6 R6 Γ6 _ p6.er (zah w (fun rv Γ7 w y H7 R7 p7 hy => ?_) fun _ _ z => z.elim)
          rw [zac] at w
          obtain ⟨dy, Γ8, R8, p8, s8, ry, w⟩ := zec p6.er p7 hy w
          have p48 : SPo ios R3 H3 (compσ fr own σ) (zcb fr own Γ2) R8 H7 σ4 Γ8 := p46.trans p8.spo
          have sh8 : ∀ b, Ow σ4 Γ8 b -> Ow (compσ fr own σ) (zcb fr own Γ2) b := fun b z => sh6 b (p8.sh b z)
          have pu : EPo ios R3 H3 σ Γ2 R8 H7 (Dv.unblk fr own Γ2 Γ8) := EPo.unblk p3.er hn p48 keep sh8
          have hA7 : H7 A = some (.lst ys) := p48.go.hh _ _ hA3 nOAb
          have hRA8 : R8 A = none := p48.go.no _ _ hA3 nOAb hRA3
          have p38 := p3.trans pu
          have nO8 : ¬ Ow σ (Dv.unblk fr own Γ2 Γ8) A := fun z => nOA (p38.sh A z)
          have pA : EPo ios R H σ Γ R8 (upd H7 A (.lst (ys ++ [y]))) (Dv.unblk fr own Γ2 Γ8) := by
            have up : ∀ b, b ≠ A -> upd H7 A (.lst (ys ++ [y])) b = H7 b := fun b hb => zay hb
            refine ⟨⟨fun b o q => ?_, p38.er.len, fun j t hj => ?_, p38.er.dj⟩, ⟨p38.go.rr, fun b o q n => ?_, p38.go.no, p38.go.oo, fun b o q => ?_⟩, p38.sh⟩
            · rw [up b (fun z => by rw [z, hRA8] at q; cases q)]; exact p38.er.sub b o q
            · obtain ⟨v, hv, q⟩ := p38.er.sl j t hj
              refine ⟨v, hv, q.mono (Same.refl _) fun ho b zs eb hb rb => ⟨?_, rb⟩⟩
              rw [up b]
              · exact hb
              · rintro rfl; subst eb; exact nO8 ⟨j, t.1, t.2, hj, ho, hv⟩
            · rw [up b (fun z => by rw [z, p1.back er A hA] at q; cases q)]; exact p38.go.hh b o q n
            · by_cases hb : b = A
              · subst hb; exact ⟨_, za3⟩
              · rw [up b hb]; exact p38.go.th b o q
          refine ⟨hA7, _, Nat.sub_lt_sub_left hlt (Nat.lt_succ_self i), rfl, hlt, R8, _, ys2 ++ [dy], _, pA, ((s2.trans al.rr).trans p46.go.rr).trans p8.go.rr, hRA8, (hys.sm ((al.rr.trans p46.go.rr).trans p8.go.rr)).app (.cons ry .nil), by rw [List.length_append]; simp; omega, rfl, ?_⟩
          refine zah w (fun zs Γ' w x H' R' p q => w x H' R' p ?_) fun _ _ z => z.elim
          simpa using q
    · have e : ds.drop i = [] := List.drop_eq_nil_of_le (by omega)
      rw [e] at w
      refine .inl ⟨stop (by omega), w _ H2 R2 p2 ⟨⟨A, ys, ys2, rfl, hRA2, hA2, by simp, hys⟩, A, rfl, p1.back er A hA⟩⟩
  · exact False.elim w
end
end Dv
end
section
namespace Dv
open PySem L2 Ex
variable [KC]
section
variable {X : Cx} {EE : XKS} {ios : List Addr} {e a b c iter tg elt : Expr} {es ifs : List Expr} {f g k : M RV} {fs : M (List RV)} {p : M Bool} {s s' : M Fl} {st : Stmt} {sts sts' : List Stmt} {pos : Pos}
def zra (EE : XKS) (ios : List Addr) (f : M RV) : TE := fun σ H Q => ∃ R Γ, ER ios R H σ Γ /\ wpM (f Γ) (fun rv Γ' => ∀ x H' R', EPo ios R H σ Γ R' H' Γ' -> RvR R' H H' σ x rv -> Q x H') (EXP EE ios R H σ Γ)
def zrk (EE : XKS) (ios : List Addr) (f : M Bool) : TT := fun σ H Q => ∃ R Γ, ER ios R H σ Γ /\ wpM (f Γ) (fun b Γ' => ∀ H' R', EPo ios R H σ Γ R' H' Γ' -> Q b H') (EXP EE ios R H σ Γ)
theorem VE.pe (h : VE X EE ios e f) : PE X e (zra EE ios f) := let ⟨_, h1, h2⟩ := h; fun pins s σ H Q I ⟨R, Γ, er, w⟩ => h1 pins s σ H Q I (h2 σ H R Γ Q er w)
theorem VT.pt (h : VT X EE ios e p) : PT X e (zrk EE ios p) := let ⟨_, h1, h2⟩ := h; fun pins s σ H Q I ⟨R, Γ, er, w⟩ => h1 pins s σ H Q I (h2 σ H R Γ Q er w)
def VTs (X : Cx) (EE : XKS) (ios : List Addr) (ifs : List Expr) (p : M Bool) : Prop := PTs X ifs (zrk EE ios p)
theorem zke : VTs X EE ios [] (M.pure true) := fun pins s σ H Q I ⟨R, Γ, er, w⟩ => zoP pins s σ H Q I (w H R (EPo.refl er))
theorem zkz (h : VT X EE ios c p) : VTs X EE ios [c] p := zok h.pt
abbrev zk8 (X : Cx) (Nc : List Str) (scope : Scope) (cl : List (Str × Addr)) (C : Addr) (s3 : Shared) (H3 : Hp) (fp : List Addr) (pn' : List (Addr × Obj)) : Cx := X.blk Nc scope cl C s3 H3 fp pn' fun _ _ => False
theorem zoV {scope : Scope} {Nc : List Str} {own : Nat} {fr : List Nat} {gt : TG} {items : M (List D)} {m : D -> M Unit} (hc : X.calm = true) (B : BlkN X scope Nc own fr) (hn : fr.Nodup) (hi : VI X EE ios tg iter items) (hog : zlc own gt)
    (hg : ∀ cl C s3 H3 fp pn', PG (zk8 X Nc scope cl C s3 H3 fp pn') tg gt) (hr : RdG ios own gt m) (hk : zjW own m) (ht : ∀ cl C s3 H3 fp pn', VTs (zk8 X Nc scope cl C s3 H3 fp pn') EN ios ifs p) (he : ∀ cl C s3 H3 fp pn', VE (zk8 X Nc scope cl C s3 H3 fp pn') EN ios elt f)
    (hs : ∀ x, foldedSetIterable iter X.env x = pure x := by intro _; rfl) : VE X EE ios (.ListComp elt [⟨tg, iter, ifs, 0⟩] scope pos) (zds items fr own m p f) :=
  let ⟨_, h1, h2⟩ := hi
  ⟨_, zrn hc B h1 hog hg ht (fun cl C s3 H3 fp pn' => (he cl C s3 H3 fp pn').pe) hs, zo6 hn h2 hr hk (fun σ H R Γ Q er w => ⟨R, Γ, er, w⟩) (fun σ H R Γ Q er w => ⟨R, Γ, er, w⟩)⟩
theorem zji {scope : Scope} {Nc : List Str} {own i : Nat} {fr : List Nat} {gt : TG} {items : M (List D)} {m : D -> M Unit} {y : Str} {py spos : Pos} (hN : X.N.Nodup) (hi' : X.N[i]? = some y) (hx : Loc X.env.scope y) (hc : X.calm = true) (B : BlkN X scope Nc own fr) (hn : fr.Nodup) (hi : VI X EE ios tg iter items) (hog : zlc own gt)
    (hg : ∀ cl C s3 H3 fp pn', PG (zk8 X Nc scope cl C s3 H3 fp pn') tg gt) (hr : RdG ios own gt m) (hk : zjW own m) (ht : ∀ cl C s3 H3 fp pn', VTs (zk8 X Nc scope cl C s3 H3 fp pn') EN ios ifs p) (he : ∀ cl C s3 H3 fp pn', VE (zk8 X Nc scope cl C s3 H3 fp pn') EN ios elt f)
    (hs : ∀ x, foldedSetIterable iter X.env x = pure x := by intro _; rfl) (hsw : swapsWith (.ListComp elt [⟨tg, iter, ifs, 0⟩] scope pos) (some (.Name y py)) spos.line X.env = pure true := by rfl)
    (hf : X.fn y = true \/ X.env.scope.names.lookup y = some .local := by first | exact .inl rfl | exact .inr rfl | assumption) : VS X EE ios (.Assign [.Name y py] (.ListComp elt [⟨tg, iter, ifs, 0⟩] scope pos) spos) (zaM i (zds items fr own m p f)) :=
  let ⟨_, h1, h2⟩ := hi
  ⟨_, znn hN hi' hx hc B h1 hog hg ht (fun cl C s3 H3 fp pn' => (he cl C s3 H3 fp pn').pe) hs hsw hf, zmn (zo6 hn h2 hr hk (fun σ H R Γ Q er w => ⟨R, Γ, er, w⟩) (fun σ H R Γ Q er w => ⟨R, Γ, er, w⟩))⟩
inductive Rt where
  | val (d : D) | new (d : D)
def Rt.rv : Rt -> RV
  | .val d => .val d
  | .new d => .new d
def RtK (R H : Hp) (r : Option Rt) (Q : VK) : Prop := match r with
  | some r => ∀ x H' R', Al R H R' H' -> RvA R' H H' x r.rv -> Q x H'
  | none => False
def spP (G : List D -> Option Rt) : Sp := fun vs H Q _ => ∃ R ds, Same R H /\ Rps R vs ds /\ RtK R H (G ds) Q
def gam (N : List Str) (ds : List D) : En := ds.map (fun d => some (.frz, d)) ++ List.replicate (N.length - ds.length) none
def zaL : Res Fl -> Option Rt
  | .ok .nx _ => some (.val .non)
  | .ok (.ret (.val d)) _ => some (.val d)
  | .ok (.ret (.new d)) _ => some (.new d)
  | .ok (.ret (.var i)) Γ => match Γ[i]? with
    | some (some (.own, d)) => some (.new d)
    | some (some (.frz, d)) => some (.val d)
    | _ => none
  | _ => none
theorem zjs {N : List Str} {ds : List D} {i : Nat} {t : Kd × D} (h : (gam N ds)[i]? = some (some t)) : ∃ d, ds[i]? = some d /\ t = (.frz, d) := by
  unfold gam at h
  by_cases hi : i < ds.length
  · rw [List.getElem?_append_left (by rw [List.length_map]; exact hi), List.getElem?_map, List.getElem?_eq_getElem hi] at h
    cases h
    exact ⟨_, List.getElem?_eq_getElem hi, rfl⟩
  · rw [List.getElem?_append_right (by rw [List.length_map]; omega), List.getElem?_replicate] at h
    split at h <;> cases h
theorem zjf {N : List Str} {vs : List V} {i : Nat} {v : V} (h : vs[i]? = some v) : (L2.start N vs)[i]? = some (some v) := by
  unfold L2.start
  have hi := (List.getElem?_eq_some_iff.mp h).1
  rw [List.getElem?_append_left (by rw [List.length_map]; exact hi), List.getElem?_map, h]
  rfl
theorem zi1 {N : List Str} {R H : Hp} {vs : List V} {ds : List D} (s : Same R H) (h : Rps R vs ds) : ER [] R H (L2.start N vs) (gam N ds) where
  sub := s
  len := by unfold L2.start gam; simp [h.len]
  sl := fun i t q => by
    obtain ⟨d, hd, rfl⟩ := zjs q
    obtain ⟨x, hx, rx⟩ := h.ta hd
    exact ⟨x, zjf hx, rx⟩
  dj := fun i j k l d e b q1 q2 _ _ _ _ => by
    obtain ⟨_, _, z⟩ := zjs q1
    cases z; cases q2
theorem zkY {N : List Str} {σ : St} {ds : List D} {b : Addr} : ¬ Ow σ (gam N ds) b := by
  rintro ⟨i, k, d, q1, q2, _⟩
  obtain ⟨_, _, z⟩ := zjs q1
  cases z; cases q2
theorem SPo.al {N : List Str} {R H R' H' : Hp} {σ σ' : St} {ds : List D} {Γ' : En} (p : SPo ios R H σ (gam N ds) R' H' σ' Γ') : Al R H R' H' := ⟨p.er.sub, p.go.rr, fun b o h => p.go.hh b o h zkY, fun b o h r => p.go.no b o h zkY r⟩
theorem zkV {P : Program} {w : World} {K : PySem.W.Frag} {mg : Str -> Option Value} {base : Heap} {x qual : Str} {fa : Addr} {fd : FuncData} {N ps : List Str} {k : Nat} {G : List D -> Option Rt} {bm : M Fl} (F : Fun K x qual st fa fd) (S : FnScope N ps (defScope st))
    (hb : ∀ (cdv : Value) (A : Around) (outer : List Env) (s : Shared) (H : Hp) (E : XK), Room k (A.deeper (PyProof.Rows.envOfC qual (defScope st) s.heap.objs.size fa cdv)) -> VSs (zbB CX0 P w K mg base N qual (defScope st) fa cdv A outer s H E).nox EN [] (defBody st) bm)
    (h : ∀ ds r, G ds = some r -> ds.length = ps.length /\ zaL (bm (gam N ds)) = some r) : FnOk P w K mg base CX0 (k + 1) fa fd ps (spP G) := by
  refine F.ok S (fun vs H Q E q => ?_) (fun cdv A outer s H vs Q E hr q => ?_)
  · obtain ⟨R, ds, _, h2, h3⟩ := q
    cases e : G ds with
    | none => rw [e] at h3; exact h3.elim
    | some r => rw [h2.len]; exact (h ds r e).1
  · obtain ⟨R, ds, h1, h2, h3⟩ := q
    cases e : G ds with
    | none => rw [e] at h3; exact h3.elim
    | some r =>
      rw [e] at h3
      obtain ⟨t, b1, b2⟩ := hb cdv A outer s H E hr
      refine ⟨t, b1, b2 _ H R _ _ (zi1 h1 h2) ?_⟩
      have fin := (h ds r e).2
      cases q : bm (gam N ds) with
      | st => rw [q] at fin; cases fin
      | ex _ _ => rw [q] at fin; cases fin
      | ok fl Γ' =>
        rw [q] at fin
        refine zih fun σ' H' R' p => ?_
        cases fl with
        | brk => cases fin
        | cont => cases fin
        | nx => cases fin; exact h3 .non H' R' p.al .non
        | ret rv =>
          intro y hy
          cases rv with
          | val d => cases fin; exact h3 y H' R' p.al hy
          | new d => cases fin; exact h3 y H' R' p.al hy
          | var i =>
            have fin : (match Γ'[i]? with
              | some (some (.own, d)) => some (Rt.new d)
              | some (some (.frz, d)) => some (.val d)
              | _ => none) = some r := fin
            split at fin
            · rename_i d hs
              cases fin
              obtain ⟨v, hv, sl⟩ := p.er.sl i _ hs
              have hy : σ'[i]? = some (some y) := hy
              rw [hy] at hv
              cases hv
              obtain ⟨a, xs, ds', rfl, r1, r2, r3, r4⟩ := sl
              refine h3 _ H' R' p.al ⟨⟨a, xs, ds', rfl, r1, r2, r3, r4⟩, a, rfl, ?_⟩
              exact (p.go.oo a ⟨i, .own, d, hs, rfl, hy⟩).elim (fun z => absurd z zkY) id
            · rename_i d hs
              cases fin
              obtain ⟨v, hv, sl⟩ := p.er.sl i _ hs
              have hy : σ'[i]? = some (some y) := hy
              rw [hy] at hv
              cases hv
              exact h3 _ H' R' p.al sl
            · cases fin
mutual
def ze0 : D -> Bool
  | .non => true
  | .bl _ => true
  | .int _ => true
  | .str _ => true
  | .tup xs => zeg xs
  | _ => false
def zeg : List D -> Bool
  | [] => true
  | d :: r => ze0 d && zeg r
end
def zdr : Rt -> Bool
  | .val d => ze0 d
  | .new (.lst ds) => zeg ds
  | .new _ => false
def zc6 : RV -> Bool
  | .var _ => true
  | _ => false
mutual
theorem Rp.less {R R' : Hp} (h : ∀ b xs, R b = some (.tup xs) -> R' b = some (.tup xs)) : ∀ {x : V} {d : D}, Rp R x d -> ze0 d = true -> Rp R' x d
  | _, _, .non, _ => .non
  | _, _, .bl b, _ => .bl b
  | _, _, .int i, _ => .int i
  | _, _, .str x, _ => .str x
  | _, _, .lst _ _, z => by simp [ze0] at z
  | _, _, .tup e q, z => .tup (h _ _ e) (Rps.less h q (by simpa [ze0] using z))
  | _, _, .dnil _, z => by simp [ze0] at z
  | _, _, .scr _, z => by simp [ze0] at z
  | _, _, .exc0 _, z => by simp [ze0] at z
  | _, _, .exc _ _ _, z => by simp [ze0] at z
  | _, _, .obj _ _, z => by simp [ze0] at z
theorem Rps.less {R R' : Hp} (h : ∀ b xs, R b = some (.tup xs) -> R' b = some (.tup xs)) : ∀ {xs : List V} {ds : List D}, Rps R xs ds -> zeg ds = true -> Rps R' xs ds
  | _, _, .nil, _ => .nil
  | _, _, .cons a b, z => by
    have z := Bool.and_eq_true_iff.mp (show (ze0 _ && zeg _) = true from by simpa only [zeg] using z)
    exact .cons (Rp.less h a z.1) (Rps.less h b z.2)
end
def zar (G : List D -> Option Rt) (fs : M (List RV)) : M RV := M.bind fs fun rvs => M.bind (za1 rvs) fun ds => match G ds with
  | some r => if rvs.any zc6 && !zdr r then M.bind (za8 rvs) fun ds' => M.ofO ((G ds').map Rt.rv) else M.pure r.rv
  | none => M.st
open Classical in
noncomputable def lent (O : Addr -> Prop) (R H : Hp) : Hp := fun b => if O b then H b else R b
theorem ziI {O : Addr -> Prop} {R H : Hp} (s : Same R H) : Same (lent O R H) H := fun b o e => by
  unfold lent at e
  split at e
  · exact e
  · exact s b o e
theorem zk4 {O : Addr -> Prop} {R H : Hp} (h : ∀ b, O b -> R b = none) : Same R (lent O R H) := fun b o e => by
  unfold lent
  split
  · rename_i z; rw [h b z] at e; cases e
  · exact e
theorem Pks.lent {R H : Hp} {σ : St} {Γ : En} (er : ER ios R H σ Γ) : ∀ {xs : List V} {rvs : List RV} {ds : List D}, ArsR R σ xs rvs -> Pks R H xs ds -> za1 rvs Γ = .ok ds Γ -> Rps (lent (Ow σ Γ) R H) xs ds := by
  have ss : Same R (Dv.lent (Ow σ Γ) R H) := zk4 fun b z => (er.ow z).1
  intro xs rvs
  induction rvs generalizing xs with
  | nil => intro ds h1 h2 _; cases h1; cases h2; exact .nil
  | cons rv r ih =>
    intro ds h1 h2 h3
    cases h1 with
    | cons a b =>
      cases h2 with
      | cons c d =>
        unfold za1 M.bind at h3
        cases q : peek rv Γ with
        | ex _ _ => rw [q] at h3; cases h3
        | st => rw [q] at h3; cases h3
        | ok d0 Γ0 =>
          have e0 : Γ0 = Γ := by
            cases rv with
            | val _ => cases q; rfl
            | new _ => cases q; rfl
            | var i => unfold peek at q; dsimp only at q; split at q <;> cases q; rfl
          subst e0
          rw [q] at h3
          dsimp only at h3
          cases q2 : za1 r Γ0 with
          | ex _ _ => rw [q2] at h3; cases h3
          | st => rw [q2] at h3; cases h3
          | ok ds0 Γ1 =>
            rw [q2] at h3
            cases h3
            refine .cons ?_ (ih b d q2)
            cases rv with
            | val d' => cases q; exact Rp.sm ss a
            | new d' => exact a.elim
            | var i =>
              unfold peek at q
              dsimp only at q
              split at q
              · rename_i kd d' hs
                cases q
                obtain ⟨v, hv, sl⟩ := er.sl i _ hs
                have a : σ[i]? = some (some _) := a
                rw [a] at hv
                cases hv
                cases kd with
                | frz => exact Rp.sm ss sl
                | own =>
                  obtain ⟨ad, ys, es, rfl, r1, r2, rfl, r4⟩ := sl
                  refine .lst ?_ (r4.sm ss)
                  unfold Dv.lent
                  rw [if_pos ⟨i, .own, _, hs, rfl, a⟩]
                  exact r2
                | io n =>
                  obtain ⟨⟨ad, ys, es, rfl, r1, r2, rfl, r4⟩, _⟩ := sl
                  refine .lst ?_ (r4.sm ss)
                  unfold Dv.lent
                  rw [if_pos ⟨i, .io n, _, hs, rfl, a⟩]
                  exact r2
              · cases q
theorem zeX {Γ Γ' : En} : ∀ {rvs : List RV} {ds : List D}, za1 rvs Γ = .ok ds Γ' -> Γ' = Γ := by
  intro rvs
  induction rvs with
  | nil => intro ds h; cases h; rfl
  | cons rv r ih =>
    intro ds h
    unfold za1 M.bind at h
    cases q : peek rv Γ with
    | ex _ _ => rw [q] at h; cases h
    | st => rw [q] at h; cases h
    | ok d0 Γ0 =>
      have e0 : Γ0 = Γ := by
        cases rv with
        | val _ => cases q; rfl
        | new _ => cases q; rfl
        | var i => unfold peek at q; dsimp only at q; split at q <;> cases q; rfl
      subst e0
      rw [q] at h
      dsimp only at h
      cases q2 : za1 r Γ0 with
      | ex _ _ => rw [q2] at h; cases h
      | st => rw [q2] at h; cases h
      | ok ds0 Γ1 => rw [q2] at h; cases h; exact ih q2
theorem zho {R : Hp} {σ : St} {Γ : En} : ∀ {xs : List V} {rvs : List RV} {ds : List D}, ArsR R σ xs rvs -> rvs.any zc6 = false -> za1 rvs Γ = .ok ds Γ -> Rps R xs ds := by
  intro xs rvs
  induction rvs generalizing xs with
  | nil => intro ds h1 _ h3; cases h1; cases h3; exact .nil
  | cons rv r ih =>
    intro ds h1 h2 h3
    rw [List.any_cons, Bool.or_eq_false_iff] at h2
    cases h1 with
    | cons a b =>
      cases rv with
      | var i => cases h2.1
      | new d => exact a.elim
      | val d =>
        have h3 : M.bind (za1 r) (fun ds => M.pure (d :: ds)) Γ = .ok ds Γ := h3
        unfold M.bind at h3
        cases q2 : za1 r Γ with
        | ex _ _ => rw [q2] at h3; cases h3
        | st => rw [q2] at h3; cases h3
        | ok ds0 Γ1 =>
          have := zeX q2
          subst this
          rw [q2] at h3
          cases h3
          exact .cons a (ih b h2.2 q2)
theorem zlj {Γ Γ' : En} {x : Xc} : ∀ {rvs : List RV}, za1 rvs Γ ≠ .ex x Γ' := by
  intro rvs
  induction rvs with
  | nil => intro h; cases h
  | cons rv r ih =>
    intro h
    unfold za1 M.bind at h
    cases q : peek rv Γ with
    | ex _ _ =>
      cases rv with
      | val _ => cases q
      | new _ => cases q
      | var i => unfold peek at q; dsimp only at q; split at q <;> cases q
    | st => rw [q] at h; cases h
    | ok d0 Γ0 =>
      have e0 : Γ0 = Γ := by
        cases rv with
        | val _ => cases q; rfl
        | new _ => cases q; rfl
        | var i => unfold peek at q; dsimp only at q; split at q <;> cases q; rfl
      subst e0
      rw [q] at h
      dsimp only at h
      cases q2 : za1 r Γ0 with
      | ex _ _ => exact ih (by rw [q2] at h; cases h; exact q2)
      | st => rw [q2] at h; cases h
      | ok ds0 Γ1 => rw [q2] at h; cases h
theorem zgY {rvs : List RV} {Γ : En} {K : List D -> En -> Prop} {E : Xc -> En -> Prop} (w : wpM (za1 rvs Γ) K E) : ∃ ds, za1 rvs Γ = .ok ds Γ /\ K ds Γ := by
  cases q : za1 rvs Γ with
  | ex _ _ => exact absurd q zlj
  | st => rw [q] at w; exact False.elim w
  | ok ds Γ' =>
    have := zeX q
    subst this
    rw [q] at w
    exact ⟨ds, rfl, w⟩
open Classical in
noncomputable def zb2 (O : Addr -> Prop) (R : Hp) : Hp := fun b => if O b then none else R b
theorem zlY {G : List D -> Option Rt} {e0 : Expr} (hp : ∀ t, PA X es t -> PE X e0 (zkW (spP G) [] E0 t)) (ha : VA X EE ios es fs) : VE X EE ios e0 (zar G fs) := by
  obtain ⟨t, h1, h2⟩ := ha
  refine ⟨_, hp t h1, fun σ H R Γ Q er w => ?_⟩
  unfold zar at w
  rw [zac] at w
  refine h2 σ H R Γ _ er (zah w (fun rvs Γ1 w xs H1 R1 p1 hx => ?_) fun _ _ z => z)
  show spP G (xs ++ []) H1 Q E0
  rw [List.append_nil]
  rw [zac] at w
  obtain ⟨ds, q, w⟩ := zgY w
  obtain ⟨ds', pk, e⟩ := zdH (K := fun ds' _ => ds' = ds) (E := fun _ _ => False) p1.er hx (by rw [q]; exact rfl)
  subst e
  cases hG : G ds' with
  | none => rw [hG] at w; exact False.elim w
  | some r =>
    rw [hG] at w
    dsimp only at w
    by_cases hv : rvs.any zc6 = true
    · by_cases him : zdr r = true
      · rw [hv, him] at w
        have w : ∀ x H' R', EPo ios R H σ Γ R' H' Γ1 -> RvR R' H H' σ x r.rv -> Q x H' := w
        refine ⟨lent (Ow σ Γ1) R1 H1, ds', ziI p1.er.sub, Pks.lent p1.er hx pk q, ?_⟩
        rw [hG]
        intro x H' R' al ra
        have ow : ∀ b, Ow σ Γ1 b -> R1 b = none /\ ∃ xs, H1 b = some (.lst xs) := fun b z => p1.er.ow z
        have un : ∀ b, ¬ Ow σ Γ1 b -> zb2 (Ow σ Γ1) R' b = R' b := fun b z => by unfold zb2; rw [if_neg z]
        have un' : ∀ b, Ow σ Γ1 b -> zb2 (Ow σ Γ1) R' b = none := fun b z => by unfold zb2; rw [if_pos z]
        have tup : ∀ b ys, R' b = some (.tup ys) -> zb2 (Ow σ Γ1) R' b = some (.tup ys) := fun b ys z => by
          rw [un b]
          · exact z
          · intro o
            obtain ⟨_, zs, hz⟩ := ow b o
            have := al.sub _ _ z
            rw [al.hh _ _ hz] at this
            cases this
        have rr : Same R1 (zb2 (Ow σ Γ1) R') := fun b o z => by
          have nb : ¬ Ow σ Γ1 b := fun q => by rw [(ow b q).1] at z; cases z
          rw [un b nb]
          apply al.rr
          unfold lent
          rw [if_neg nb]
          exact z
        have no : ∀ b o, H1 b = some o -> R1 b = none -> zb2 (Ow σ Γ1) R' b = none := fun b o hb rb => by
          by_cases nb : Ow σ Γ1 b
          · exact un' b nb
          · rw [un b nb]
            apply al.no b o hb
            unfold lent
            rw [if_neg nb]
            exact rb
        have al' : Al R1 H1 (zb2 (Ow σ Γ1) R') H' := ⟨fun b o z => by
          by_cases nb : Ow σ Γ1 b
          · rw [un' b nb] at z; cases z
          · rw [un b nb] at z; exact al.sub b o z, rr, al.hh, no⟩
        refine w x H' _ (p1.al al') ?_
        cases r with
        | val d => exact Rp.less tup ra him
        | new d =>
          cases d with
          | lst zs =>
            obtain ⟨⟨a, ys, ds2, rfl, r1, r2, r3, r4⟩, a', ea, hf⟩ := ra
            cases ea
            cases r3
            refine ⟨⟨a, ys, zs, rfl, ?_, r2, rfl, r4.less tup him⟩, a, rfl, p1.back er a hf⟩
            by_cases nb : Ow σ Γ1 a
            · exact un' a nb
            · rw [un a nb]; exact r1
          | _ => cases him
      · have him : zdr r = false := by cases z : zdr r <;> simp_all
        rw [hv, him] at w
        have w : wpM (M.bind (za8 rvs) (fun ds' => M.ofO ((G ds').map Rt.rv)) Γ1) _ _ := w
        rw [zac] at w
        obtain ⟨ds2, Γ2, R2, p2, s2, r2, w⟩ := zbE er p1 hx w
        obtain ⟨rv, hrv, w⟩ := zca w
        refine ⟨R2, ds2, p2.er.sub, r2, ?_⟩
        cases hG2 : G ds2 with
        | none => rw [hG2] at hrv; cases hrv
        | some r' =>
          rw [hG2] at hrv
          cases hrv
          exact fun x H' R' al ra => w x H' R' (p2.al al) (ra.rv (p2.back er))
    · have hv : rvs.any zc6 = false := by cases z : rvs.any zc6 <;> simp_all
      rw [hv] at w
      have w : ∀ x H' R', EPo ios R H σ Γ R' H' Γ1 -> RvR R' H H' σ x r.rv -> Q x H' := w
      refine ⟨R1, ds', p1.er.sub, zho hx hv q, ?_⟩
      rw [hG]
      exact fun x H' R' al ra => w x H' R' (p1.al al) (ra.rv (p1.back er))
end
end Dv
end
section
namespace Dv
open PySem L2 Ex
variable [KC]
section
variable {X : Cx} {EE : XKS} {ios : List Addr} {e a b c iter tg elt : Expr} {es ifs : List Expr} {f g k : M RV} {fs : M (List RV)} {p : M Bool} {s s' : M Fl} {st : Stmt} {sts sts' : List Stmt} {pos : Pos}
abbrev GI := List D -> List D -> Option (Rt × List D)
def spI (G : GI) : Sp := fun vs H Q _ => ∃ R p xs ds0 vs' ds, vs = .ref p :: vs' /\ Same R H /\ R p = none /\ H p = some (.lst xs) /\ Rps R xs ds0 /\ Rps R vs' ds /\ match G ds0 ds with
  | some (r, out) => ∀ x H' R' xs', Same R' H' -> Go (· = p) R H (· = p) R' H' -> H' p = some (.lst xs') -> R' p = none -> Rps R' xs' out -> RvA R' H H' x r.rv -> Q x H'
  | none => False
def zeM (N : List Str) (ds0 ds : List D) : En := some (.io 0, .lst ds0) :: (ds.map (fun d => some (.frz, d)) ++ List.replicate (N.length - (ds.length + 1)) none)
def zgM : Res Fl -> Option (Rt × List D)
  | .ok fl Γ => match (Γ : List Sl)[(0 : Nat)]? with
    | some (some (.io 0, .lst out)) => (zaL (.ok fl Γ)).map fun r => (r, out)
    | _ => none
  | _ => none
theorem zf9 {N : List Str} {ds0 ds : List D} {i : Nat} {t : Kd × D} (h : (zeM N ds0 ds)[i]? = some (some t)) : (i = 0 /\ t = (.io 0, .lst ds0)) \/ ∃ j d, i = j + 1 /\ ds[j]? = some d /\ t = (.frz, d) := by
  cases i with
  | zero => cases h; exact .inl ⟨rfl, rfl⟩
  | succ j =>
    have h : (ds.map (fun d => some (Kd.frz, d)) ++ List.replicate (N.length - (ds.length + 1)) none)[j]? = some (some t) := h
    by_cases hj : j < ds.length
    · rw [List.getElem?_append_left (by rw [List.length_map]; exact hj), List.getElem?_map, List.getElem?_eq_getElem hj] at h
      cases h
      exact .inr ⟨j, _, rfl, List.getElem?_eq_getElem hj, rfl⟩
    · rw [List.getElem?_append_right (by rw [List.length_map]; omega), List.getElem?_replicate] at h
      split at h <;> cases h
theorem zlr {N : List Str} {R H : Hp} {q : Addr} {xs : List V} {ds0 : List D} {vs : List V} {ds : List D} (s : Same R H) (h0 : R q = none) (h1 : H q = some (.lst xs)) (h2 : Rps R xs ds0) (h : Rps R vs ds) : ER [q] R H (L2.start N (.ref q :: vs)) (zeM N ds0 ds) where
  sub := s
  len := by unfold L2.start zeM; simp [h.len]
  sl := fun i t z => by
    rcases zf9 z with ⟨rfl, rfl⟩ | ⟨j, d, rfl, hd, rfl⟩
    · exact ⟨.ref q, rfl, ⟨q, xs, ds0, rfl, h0, h1, rfl, h2⟩, q, rfl, rfl⟩
    · obtain ⟨x, hx, rx⟩ := h.ta hd
      exact ⟨x, zjf (by simpa using hx), rx⟩
  dj := fun i j k l d e b q1 q2 q3 q4 _ _ => by
    rcases zf9 q1 with ⟨rfl, z⟩ | ⟨j, d, _, _, z⟩
    · rcases zf9 q3 with ⟨rfl, _⟩ | ⟨j, d, _, _, z'⟩
      · rfl
      · cases z'; cases q4
    · cases z; cases q2
theorem owI {N : List Str} {q : Addr} {vs : List V} {ds0 ds : List D} {b : Addr} : Ow (L2.start N (.ref q :: vs)) (zeM N ds0 ds) b ↔ b = q := by
  constructor
  · rintro ⟨i, k, d, q1, q2, q3⟩
    rcases zf9 q1 with ⟨rfl, z⟩ | ⟨j, d, _, _, z⟩
    · have : (L2.start N (.ref q :: vs))[0]? = some (some (.ref q)) := rfl
      rw [this] at q3
      cases q3
      rfl
    · cases z; cases q2
  · rintro rfl
    exact ⟨0, .io 0, .lst ds0, rfl, rfl, rfl⟩
theorem zrl {P : Program} {w : World} {K : PySem.W.Frag} {mg : Str -> Option Value} {base : Heap} {x qual : Str} {fa : Addr} {fd : FuncData} {N ps : List Str} {k : Nat} {G : GI} {bm : M Fl} (F : Fun K x qual st fa fd) (S : FnScope N ps (defScope st))
    (hb : ∀ (cdv : Value) (A : Around) (outer : List Env) (s : Shared) (H : Hp) (E : XK) (q : Addr), Room k (A.deeper (PyProof.Rows.envOfC qual (defScope st) s.heap.objs.size fa cdv)) -> VSs (zbB CX0 P w K mg base N qual (defScope st) fa cdv A outer s H E).nox EN [q] (defBody st) bm)
    (h : ∀ ds0 ds r, G ds0 ds = some r -> ds.length + 1 = ps.length /\ zgM (bm (zeM N ds0 ds)) = some r) : FnOk P w K mg base CX0 (k + 1) fa fd ps (spI G) := by
  refine F.ok S (fun vs H Q E q => ?_) (fun cdv A outer s H vs Q E hr q => ?_)
  · obtain ⟨R, q, xs, ds0, vs', ds, rfl, _, _, _, _, h2, h3⟩ := q
    cases e : G ds0 ds with
    | none => rw [e] at h3; exact h3.elim
    | some r => rw [List.length_cons, h2.len]; exact (h ds0 ds r e).1
  · obtain ⟨R, q, xs, ds0, vs', ds, rfl, s1, r0, hq, hxs, h2, h3⟩ := q
    cases e : G ds0 ds with
    | none => rw [e] at h3; exact h3.elim
    | some ro =>
      obtain ⟨r, out⟩ := ro
      rw [e] at h3
      obtain ⟨t, b1, b2⟩ := hb cdv A outer s H E q hr
      refine ⟨t, b1, b2 _ H R _ _ (zlr s1 r0 hq hxs h2) ?_⟩
      have fin := (h ds0 ds _ e).2
      cases q0 : bm (zeM N ds0 ds) with
      | st => rw [q0] at fin; cases fin
      | ex _ _ => rw [q0] at fin; cases fin
      | ok fl Γ' =>
        rw [q0] at fin
        refine zih fun σ' H' R' pp => ?_
        unfold zgM at fin
        dsimp only at fin
        split at fin
        · rename_i out' hs0
          obtain ⟨v0, hv0, ⟨a0, xs', ds', e0, r1, r2, r3, r4⟩, a1, i1, i2⟩ := pp.er.sl 0 _ hs0
          cases i1
          rw [i2] at e0
          cases e0
          cases r3
          rw [i2] at hv0
          have go : Go (· = q) R H (· = q) R' H' := ⟨pp.go.rr, fun b o z n => pp.go.hh b o z fun y => n (owI.mp y), fun b o z n r => pp.go.no b o z (fun y => n (owI.mp y)) r, fun b z => .inl z, pp.go.th⟩
          have fin' : ∀ {r'}, zaL (.ok fl Γ') = some r' -> r' = r /\ out' = out := fun z => by rw [z] at fin; cases fin; exact ⟨rfl, rfl⟩
          have use : ∀ y r', zaL (.ok fl Γ') = some r' -> RvA R' H H' y r'.rv -> Q y H' := fun y r' z ra => by
            obtain ⟨rfl, rfl⟩ := fin' z
            exact h3 y H' R' xs' pp.er.sub go r2 r1 r4 ra
          cases fl with
          | brk => cases fin
          | cont => cases fin
          | nx => exact use .non _ rfl .non
          | ret rv =>
            intro y hy
            cases rv with
            | val d => exact use y _ rfl hy
            | new d => exact use y _ rfl hy
            | var i =>
              have hy : σ'[i]? = some (some y) := hy
              cases hsi : Γ'[i]? with
              | none => have : zaL (.ok (.ret (.var i)) Γ') = none := by show (match Γ'[i]? with | some (some (.own, d)) => some (Rt.new d) | some (some (.frz, d)) => some (.val d) | _ => none) = none; rw [hsi]
                        rw [this] at fin; cases fin
              | some o =>
                cases o with
                | none => have : zaL (.ok (.ret (.var i)) Γ') = none := by show (match Γ'[i]? with | some (some (.own, d)) => some (Rt.new d) | some (some (.frz, d)) => some (.val d) | _ => none) = none; rw [hsi]
                          rw [this] at fin; cases fin
                | some sd =>
                  obtain ⟨kd, d⟩ := sd
                  obtain ⟨v, hv, sl⟩ := pp.er.sl i _ hsi
                  rw [hy] at hv
                  cases hv
                  cases kd with
                  | io n => have : zaL (.ok (.ret (.var i)) Γ') = none := by show (match Γ'[i]? with | some (some (.own, d)) => some (Rt.new d) | some (some (.frz, d)) => some (.val d) | _ => none) = none; rw [hsi]
                            rw [this] at fin; cases fin
                  | frz => exact use y (.val d) (by show (match Γ'[i]? with | some (some (.own, d)) => some (Rt.new d) | some (some (.frz, d)) => some (.val d) | _ => none) = _; rw [hsi]) sl
                  | own =>
                    obtain ⟨a, ys, ds2, rfl, t1, t2, t3, t4⟩ := sl
                    refine use _ (.new d) (by show (match Γ'[i]? with | some (some (.own, d)) => some (Rt.new d) | some (some (.frz, d)) => some (.val d) | _ => none) = _; rw [hsi]) ⟨⟨a, ys, ds2, rfl, t1, t2, t3, t4⟩, a, rfl, ?_⟩
                    rcases pp.go.oo a ⟨i, .own, d, hsi, rfl, hy⟩ with z | z
                    · have := owI.mp z
                      subst this
                      have := pp.er.dj i 0 .own (.io 0) d _ a hsi rfl hs0 rfl hy hv0
                      subst this
                      rw [hs0] at hsi
                      cases hsi
                    · exact z
        · cases fin
def goI (i : Nat) (G : GI) (ds : List D) : M RV := fun Γ => match Γ[i]? with
  | some (some (kd, .lst ds0)) => if owned kd then match G ds0 ds with
    | some (r, out) => .ok r.rv (Γ.set i (some (kd, .lst out)))
    | none => .st else .st
  | _ => .st
def zba (G : GI) (fs : M (List RV)) : M RV := M.bind fs fun rvs => match rvs with
  | .var i :: r => M.bind (za8 r) fun ds => goI i G ds
  | _ => M.st
theorem zna {G : GI} {e0 : Expr} (hp : ∀ t, PA X es t -> PE X e0 (zkW (spI G) [] E0 t)) (ha : VA X EE ios es fs) : VE X EE ios e0 (zba G fs) := by
  obtain ⟨t, h1, h2⟩ := ha
  refine ⟨_, hp t h1, fun σ H R Γ Q er w => ?_⟩
  unfold zba at w
  rw [zac] at w
  refine h2 σ H R Γ _ er (zah w (fun rvs Γ1 w xs H1 R1 p1 hx => ?_) fun _ _ z => z)
  show spI G (xs ++ []) H1 Q E0
  rw [List.append_nil]
  split at w
  · rename_i i r
    cases hx with
    | cons hx hr =>
      rw [zac] at w
      obtain ⟨ds, Γ2, R2, p2, s2, r2, w⟩ := zbE er p1 hr w
      unfold goI at w
      split at w
      · rename_i kd ds0 hi
        split at w
        · rename_i ho
          cases hG : G ds0 ds with
          | none => rw [hG] at w; exact False.elim w
          | some ro =>
            obtain ⟨rt, out⟩ := ro
            rw [hG] at w
            dsimp only at w
            have w := zjI w
            have hx : σ[i]? = some (some _) := hx
            have hlt : i < Γ2.length := (List.getElem?_eq_some_iff.mp hi).1
            obtain ⟨q, ys, rfl, h2, h3, _⟩ := p2.er.mut (ds' := ds0) hi ho hx
            have hr0 : R2 q = none := (p2.er.ow ⟨i, kd, _, hi, ho, hx⟩).1
            refine ⟨R2, q, ys, ds0, _, ds, rfl, p2.er.sub, hr0, h2, h3, r2, ?_⟩
            rw [hG]
            intro x H' R' xs' sub go g1 g2 g3 ra
            have inj : ∀ (j : Nat) (l : Kd) (z : D), Γ2[j]? = some (some (l, z)) -> owned l = true -> σ[j]? = some (some (.ref q)) -> j = i := fun j l z q1 q2 q3 => (p2.er.dj i j kd l _ z q hi ho q1 q2 hx q3).symm
            have ow' : ∀ b, Ow σ (Γ2.set i (some (kd, .lst out))) b -> Ow σ Γ2 b := by
              rintro b ⟨j, l, z, q1, q2, q3⟩
              by_cases hj : j = i
              · subst hj
                rw [List.getElem?_set_self hlt] at q1
                cases q1
                exact ⟨j, kd, _, hi, ho, q3⟩
              · rw [List.getElem?_set_ne (Ne.symm hj)] at q1
                exact ⟨j, l, z, q1, q2, q3⟩
            have qo : Ow σ Γ2 q := ⟨i, kd, _, hi, ho, hx⟩
            have er3 : ER ios R' H' σ (Γ2.set i (some (kd, .lst out))) := by
              refine ⟨sub, by rw [List.length_set]; exact p2.er.len, fun j t hj => ?_, fun j j' l l' z z' b q1 q2 q3 q4 q5 q6 => ?_⟩
              · by_cases hji : j = i
                · subst hji
                  rw [List.getElem?_set_self hlt] at hj
                  cases hj
                  obtain ⟨v, hv, sl⟩ := p2.er.sl j _ hi
                  rw [hx] at hv
                  cases hv
                  have z : OwR R' H' (.ref q) (.lst out) := ⟨q, xs', out, rfl, g2, g1, rfl, g3⟩
                  refine ⟨_, hx, ?_⟩
                  cases kd with
                  | frz => cases ho
                  | own => exact z
                  | io n => exact ⟨z, sl.2⟩
                · rw [List.getElem?_set_ne (Ne.symm hji)] at hj
                  obtain ⟨v, hv, sl⟩ := p2.er.sl j t hj
                  refine ⟨v, hv, sl.mono go.rr fun ho' b zs eb hb rb => ?_⟩
                  subst eb
                  have nb : ¬ b = q := by rintro rfl; exact hji (inj j t.1 t.2 hj ho' hv)
                  exact ⟨go.hh b _ hb nb, go.no b _ hb nb rb⟩
              · have g : ∀ {j : Nat} {l : Kd} {z : D}, (Γ2.set i (some (kd, .lst out)))[j]? = some (some (l, z)) -> ∃ z', Γ2[j]? = some (some (l, z')) := by
                  intro j l z y
                  by_cases hji : j = i
                  · subst hji; rw [List.getElem?_set_self hlt] at y; cases y; exact ⟨_, hi⟩
                  · rw [List.getElem?_set_ne (Ne.symm hji)] at y; exact ⟨z, y⟩
                obtain ⟨z1, y1⟩ := g q1
                obtain ⟨z2, y2⟩ := g q3
                exact p2.er.dj j j' l l' z1 z2 b y1 q2 y2 q4 q5 q6
            have p3 : EPo ios R2 H1 σ Γ2 R' H' (Γ2.set i (some (kd, .lst out))) := ⟨er3, ⟨go.rr, fun b o hb nb => go.hh b o hb (fun z => nb (by rw [z]; exact qo)), fun b o hb nb rb => go.no b o hb (fun z => nb (by rw [z]; exact qo)) rb, fun b z => .inl (ow' b z), go.th⟩, ow'⟩
            exact w x H' R' (p2.trans p3) (ra.rv (p2.back er))
        · exact False.elim w
      · exact False.elim w
  · exact False.elim w
end
end Dv
end
section
namespace Dv
open PySem L2 Ex
variable [KC]
def At (mg : Str -> Option Value) (x : Str) (st : Stmt) : Prop := ∃ f fd, Fun KC.K x x st f fd /\ mg x = some (.ref f) /\ PySem.W.keepIn KC.K (.ref f) = true
def Cal (P : Program) (w : World) (mg : Str -> Option Value) (base : Heap) (x : Str) (k : Nat) (ps : List Str) (sp : Sp) : Prop := ∃ f fd, FnOk P w KC.K mg base CX0 k f fd ps sp /\ mg x = some (.ref f) /\ PySem.W.keepIn KC.K (.ref f) = true /\ Binds KC.K fd ps []
section
variable {X : Cx} {EE : XKS} {ios : List Addr} {e : Expr} {es : List Expr} {fs : M (List RV)} {x : Str} {k : Nat} {ps : List Str} {p pos : Pos} {st : Stmt}
theorem zaq {G : List D -> Option Rt} (C : Cal X.prog X.w X.mg X.base x k ps (spP G)) (hr : Room k X.A) (hg : Gl X x) (ha : VA X EE ios (e :: es) fs) (hK : X.K = KC.K := by rfl) (hdb : (x == ("__debug__" : Str)) = false := by decide)
    (he : starEach (e :: es) X.env = (false, eval e X.env) :: starEach es X.env := by rfl) (hpl : (backTo pos (starEach es X.env)).any (·.1) = false := by rfl) : VE X EE ios (.Call (.Name x p) (e :: es) [] pos) (zar G fs) := by
  obtain ⟨f, fd, F, hm, hk, hb⟩ := C
  rw [<- hK] at F hk hb
  exact zlY (fun t h => zkJ F hr hg hm hk hb .nil znc h hdb he hpl) ha
theorem zaY {G : GI} (C : Cal X.prog X.w X.mg X.base x k ps (spI G)) (hr : Room k X.A) (hg : Gl X x) (ha : VA X EE ios (e :: es) fs) (hK : X.K = KC.K := by rfl) (hdb : (x == ("__debug__" : Str)) = false := by decide)
    (he : starEach (e :: es) X.env = (false, eval e X.env) :: starEach es X.env := by rfl) (hpl : (backTo pos (starEach es X.env)).any (·.1) = false := by rfl) : VE X EE ios (.Call (.Name x p) (e :: es) [] pos) (zba G fs) := by
  obtain ⟨f, fd, F, hm, hk, hb⟩ := C
  rw [<- hK] at F hk hb
  exact zna (fun t h => zkJ F hr hg hm hk hb .nil znc h hdb he hpl) ha
theorem zbH {P : Program} {w : World} {mg : Str -> Option Value} {base : Heap} {N : List Str} {G : List D -> Option Rt} {bm : M Fl} (A0 : At mg x st) (S : FnScope N ps (defScope st))
    (bd : ∀ (kV doc pm : Value) (an : Option Addr) (cdv ct : Value) (us : List Value), us.length = ps.length -> bindArgs (PySem.W.fnOf x x (defArgs st) (defBody st) (defScope st) .none kV doc pm an cdv ct) ⟨us, []⟩ = pure (ps.zip us))
    (hb : ∀ (fa : Addr) (cdv : Value) (A : Around) (outer : List Env) (s : Shared) (H : Hp) (E : XK), Room k (A.deeper (PyProof.Rows.envOfC x (defScope st) s.heap.objs.size fa cdv)) -> VSs (zbB CX0 P w KC.K mg base N x (defScope st) fa cdv A outer s H E).nox EN [] (defBody st) bm)
    (h : ∀ ds r, G ds = some r -> ds.length = ps.length /\ zaL (bm (gam N ds)) = some r) : Cal P w mg base x (k + 1) ps (spP G) :=
  let ⟨f, fd, F, hm, hk⟩ := A0
  ⟨f, fd, zkV F S (hb f) h, hm, hk, F.binds bd⟩
theorem zhD {P : Program} {w : World} {mg : Str -> Option Value} {base : Heap} {N : List Str} {G : GI} {bm : M Fl} (A0 : At mg x st) (S : FnScope N ps (defScope st))
    (bd : ∀ (kV doc pm : Value) (an : Option Addr) (cdv ct : Value) (us : List Value), us.length = ps.length -> bindArgs (PySem.W.fnOf x x (defArgs st) (defBody st) (defScope st) .none kV doc pm an cdv ct) ⟨us, []⟩ = pure (ps.zip us))
    (hb : ∀ (fa : Addr) (cdv : Value) (A : Around) (outer : List Env) (s : Shared) (H : Hp) (E : XK) (q : Addr), Room k (A.deeper (PyProof.Rows.envOfC x (defScope st) s.heap.objs.size fa cdv)) -> VSs (zbB CX0 P w KC.K mg base N x (defScope st) fa cdv A outer s H E).nox EN [q] (defBody st) bm)
    (h : ∀ ds0 ds r, G ds0 ds = some r -> ds.length + 1 = ps.length /\ zgM (bm (zeM N ds0 ds)) = some r) : Cal P w mg base x (k + 1) ps (spI G) :=
  let ⟨f, fd, F, hm, hk⟩ := A0
  ⟨f, fd, zrl F S (hb f) h, hm, hk, F.binds bd⟩
theorem zki {i : Int} {j : Nat} {p1 p2 : Pos} : PE X (.UnaryOp .USub (.Constant (.int i) j p1) p2) (tC (.int (-i))) := fun pins s σ H Q I h => zo7 zmf znE pins s σ H Q I ⟨i, rfl, h⟩
def zqN (sc scope : Scope) (N Nc : List Str) (own : Nat) (fr : List Nat) : Bool :=
  decide (Nc.length = own + fr.length) && decide (scope.kind = .function) && scope.names.all (fun y => decide (y.2 ≠ .cell)) && scope.names.all (fun y => decide (y.2 = .local -> scope.names.lookup y.1 = some .local)) &&
  scope.names.all (fun y => decide (y.2 = .free -> sc.names.lookup y.1 = some .cell \/ sc.names.lookup y.1 = some .free)) &&
  (List.range fr.length).all fun k => match fr[k]?, Nc[own + k]? with
    | some j, some x => decide (N[j]? = some x) && decide (sc.names.lookup x = some .cell \/ sc.names.lookup x = some .free) && decide (scope.names.lookup x = some .free)
    | _, _ => true
omit [KC] in
theorem zhY {X : Cx} {scope sc : Scope} {N Nc : List Str} {own : Nat} {fr : List Nat} (hs : X.env.scope = sc) (hN : X.N = N) (h : zqN sc scope N Nc own fr = true) : BlkN X scope Nc own fr := by
  subst hs hN
  unfold zqN at h
  simp only [Bool.and_eq_true, decide_eq_true_eq, List.all_eq_true] at h
  obtain ⟨⟨⟨⟨⟨h1, h2⟩, h3⟩, h4⟩, h5⟩, h6⟩ := h
  refine ⟨h1, fun k j x e1 e2 => ?_, h2, h3, h4, fun x hx => h5 _ hx rfl⟩
  have hk : k < fr.length := (List.getElem?_eq_some_iff.mp e1).1
  have z := h6 k (List.mem_range.mpr hk)
  rw [e1, e2] at z
  simp only [Bool.and_eq_true, decide_eq_true_eq] at z
  exact ⟨z.1.1, z.1.2, z.2⟩
end
end Dv
end
section
namespace Dv
open PySem L2 Ex
variable [KC]
section
variable {X : Cx} {EE : XKS} {ios : List Addr} {e a b c : Expr} {f g k : M RV} {pos p : Pos} {x : Str} {ps : List Str} {kk : Nat}
theorem zkd : RdE EE ios (zra EE ios f) f := fun σ H R Γ Q er w => ⟨R, Γ, er, w⟩
theorem zio {i : Int} (h : ∃ t, X.mg x = some (.int i t)) (hg : Gl X x) (hd : (x == ("__debug__" : Str)) = false := by decide) : VE X EE ios (.Name x pos) (M.pure (.val (.int i))) :=
  let ⟨t, h⟩ := h; zgx (zbq (v := .int i) hg h ⟨t, rfl⟩ hd) fun _ => .int i
theorem zmM {G : List D -> Option Rt} (C : Cal X.prog X.w X.mg X.base x kk ps (spP G)) (hr : Room kk X.A) (hg : Gl X x) (hK : X.K = KC.K := by rfl) (hdb : (x == ("__debug__" : Str)) = false := by decide) : VE X EE ios (.Call (.Name x p) [] [] pos) (zar G (M.pure [])) := by
  obtain ⟨f, fd, F, hm, hk, hb⟩ := C
  rw [<- hK] at F hk hb
  refine ⟨_, zlU F hr hg hm hk hb .nil (znc (X := X)) hdb, fun σ H R Γ Q er w => ?_⟩
  refine ⟨R, [], er.sub, .nil, ?_⟩
  have w : wpM ((match G [] with
    | some r => if ([] : List RV).any zc6 && !zdr r then M.bind (za8 []) fun ds' => M.ofO ((G ds').map Rt.rv) else M.pure r.rv
    | none => M.st) Γ) _ _ := w
  cases hG : G [] with
  | none => rw [hG] at w; exact False.elim w
  | some r =>
    rw [hG] at w
    exact fun x H' R' al ra => w x H' R' ((EPo.refl er).al al) (ra.rv fun _ z => z)
end
end Dv
namespace Dv
open PySem L2 Ex
variable [KC]
theorem zdp {P : Program} {w : World} {mg : Str -> Option Value} {base : Heap} {x : Str} {st : Stmt} {k : Nat} {ps : List Str} (A0 : At mg x st)
    (bd : ∀ (kV doc pm : Value) (an : Option Addr) (cdv ct : Value) (us : List Value), us.length = ps.length -> bindArgs (PySem.W.fnOf x x (defArgs st) (defBody st) (defScope st) .none kV doc pm an cdv ct) ⟨us, []⟩ = pure (ps.zip us)) : Cal P w mg base x k ps (spP fun _ => none) := by
  obtain ⟨f, fd, F, hm, hk⟩ := A0
  exact ⟨f, fd, ⟨fun vs H Q E ⟨_, _, _, _, z⟩ => z.elim, fun A outer s H args us vs Q E hr he hb hv ⟨_, _, _, _, z⟩ => z.elim⟩, hm, hk, F.binds bd⟩
theorem zk2 {P : Program} {w : World} {mg : Str -> Option Value} {base : Heap} {x : Str} {st : Stmt} {k : Nat} {ps : List Str} (A0 : At mg x st)
    (bd : ∀ (kV doc pm : Value) (an : Option Addr) (cdv ct : Value) (us : List Value), us.length = ps.length -> bindArgs (PySem.W.fnOf x x (defArgs st) (defBody st) (defScope st) .none kV doc pm an cdv ct) ⟨us, []⟩ = pure (ps.zip us)) : Cal P w mg base x k ps (spI fun _ _ => none) := by
  obtain ⟨f, fd, F, hm, hk⟩ := A0
  exact ⟨f, fd, ⟨fun vs H Q E ⟨_, _, _, _, _, _, _, _, _, _, _, _, z⟩ => z.elim, fun A outer s H args us vs Q E hr he hb hv ⟨_, _, _, _, _, _, _, _, _, _, _, _, z⟩ => z.elim⟩, hm, hk, F.binds bd⟩
def zaW (n : Nat) (N : List Str) (bm : M Fl) : List D -> Option Rt := fun ds => if ds.length = n then zaL (bm (gam N ds)) else none
def zf1 (n : Nat) (N : List Str) (bm : M Fl) : GI := fun ds0 ds => if ds.length + 1 = n then zgM (bm (zeM N ds0 ds)) else none
theorem zbo {n : Nat} {N : List Str} {bm : M Fl} {ds : List D} {r : Rt} (h : zaW n N bm ds = some r) : ds.length = n /\ zaL (bm (gam N ds)) = some r := by
  unfold zaW at h
  split at h
  · rename_i q; exact ⟨q, h⟩
  · cases h
theorem zgl {n : Nat} {N : List Str} {bm : M Fl} {ds0 ds : List D} {r : Rt × List D} (h : zf1 n N bm ds0 ds = some r) : ds.length + 1 = n /\ zgM (bm (zeM N ds0 ds)) = some r := by
  unfold zf1 at h
  split at h
  · rename_i q; exact ⟨q, h⟩
  · cases h
end Dv
end
section
namespace Dv
open PySem L2 Ex
section
variable {α β : Type} {Γ Γ' : En} {f g k : M RV} {fs : M (List RV)} {p q : M Bool} {s s' : M Fl} {d : D} {i : Nat}
@[simp] theorem zmP {a : α} : M.pure a Γ = .ok a Γ := (rfl)
@[simp] theorem zm9 {f : M α} {g : α -> M β} : M.bind f g Γ = match f Γ with
  | .ok a Γ' => g a Γ'
  | .ex x Γ' => .ex x Γ'
  | .st => .st := (rfl)
@[simp] theorem zpe {a : α} : M.ofO (some a) Γ = .ok a Γ := (rfl)
@[simp] theorem r_none : (M.ofO none : M α) Γ = .st := (rfl)
@[simp] theorem r_st : (M.st : M α) Γ = .st := (rfl)
@[simp] theorem r_ite {c : Prop} [Decidable c] {f g : M α} : (if c then f else g) Γ = if c then f Γ else g Γ := by split <;> rfl
@[simp] theorem r_name : zaa i Γ = match Γ[i]? with
  | some (some (.frz, d)) => .ok (.val d) Γ
  | some (some _) => .ok (.var i) Γ
  | _ => .st := (rfl)
@[simp] theorem zof : peek (.val d) Γ = .ok d Γ := (rfl)
@[simp] theorem r_peekn : peek (.new d) Γ = .ok d Γ := (rfl)
@[simp] theorem r_peeki : peek (.var i) Γ = match Γ[i]? with
  | some (some (_, d)) => .ok d Γ
  | _ => .st := (rfl)
@[simp] theorem r_matv : mat (.val d) Γ = .ok d Γ := (rfl)
@[simp] theorem r_matn : mat (.new d) Γ = .ok d Γ := (rfl)
@[simp] theorem r_mati : mat (.var i) Γ = match Γ[i]? with
  | some (some (_, d)) => .ok d (Γ.set i (some (.frz, d)))
  | _ => .st := (rfl)
@[simp] theorem zrf {o : D -> Option RV} : op1 o f Γ = M.bind f (fun x => M.bind (peek x) fun d => M.ofO (o d)) Γ := (rfl)
@[simp] theorem r_op2 {o : D -> D -> Option RV} : op2 o f g Γ = M.bind f (fun x => M.bind g fun y => M.bind (peek x) fun d => M.bind (peek y) fun e => M.ofO (o d e)) Γ := (rfl)
@[simp] theorem r_op3 {o o' : D -> D -> Option RV} : op3 o o' f g k Γ = M.bind f (fun x => M.bind g fun y => M.bind (peek x) fun d => M.bind (peek y) fun e => M.bind (M.bind (M.ofO (o d e)) asB) fun q =>
  if q then M.bind k fun z => M.bind (peek y) fun e' => M.bind (peek z) fun u => M.ofO (o' e' u) else M.pure (.val (.bl false))) Γ := (rfl)
@[simp] theorem r_asB {b : Bool} : asB (.val (.bl b)) Γ = .ok b Γ := (rfl)
@[simp] theorem r_ng : ngM p Γ = M.bind p (fun b => M.pure (!b)) Γ := (rfl)
@[simp] theorem r_and : andM p q Γ = M.bind p (fun b => if b then q else M.pure false) Γ := (rfl)
@[simp] theorem r_or : orM p q Γ = M.bind p (fun b => if b then M.pure true else q) Γ := (rfl)
@[simp] theorem r_valB : zoF p Γ = M.bind p (fun b => M.pure (.val (.bl b))) Γ := (rfl)
@[simp] theorem r_andV : zfj f g Γ = M.bind (M.bind f asB) (fun b => if b then g else M.pure (.val (.bl false))) Γ := (rfl)
@[simp] theorem r_orV : orV f g Γ = M.bind (M.bind f asB) (fun b => if b then M.pure (.val (.bl true)) else g) Γ := (rfl)
@[simp] theorem r_iteM : znU p f g Γ = M.bind p (fun b => if b then f else g) Γ := (rfl)
@[simp] theorem zoX : zg0 f Γ = match f Γ with
  | .ok (.var i) Γ' => .ok (.var i) Γ'
  | .ok (.val d) Γ' => .ok (.val d) Γ'
  | .ok (.new d) Γ' => .ok (.val d) Γ'
  | .ex x Γ' => .ex x Γ'
  | .st => .st := by
  unfold zg0 M.bind
  cases f Γ with
  | ok rv Γ' => cases rv <;> rfl
  | ex _ _ => rfl
  | st => rfl
@[simp] theorem zlT : Zj f fs Γ = M.bind (zg0 f) (fun x => M.bind fs fun xs => M.pure (x :: xs)) Γ := (rfl)
@[simp] theorem r_mat0 : za8 [] Γ = .ok [] Γ := (rfl)
@[simp] theorem r_mat1 {rv : RV} {r : List RV} : za8 (rv :: r) Γ = M.bind (mat rv) (fun d => M.bind (za8 r) fun ds => M.pure (d :: ds)) Γ := (rfl)
@[simp] theorem r_peek0 : za1 [] Γ = .ok [] Γ := (rfl)
@[simp] theorem r_peek1 {rv : RV} {r : List RV} : za1 (rv :: r) Γ = M.bind (peek rv) (fun d => M.bind (za1 r) fun ds => M.pure (d :: ds)) Γ := (rfl)
@[simp] theorem r_lst : lstM fs Γ = M.bind fs (fun rvs => M.bind (za8 rvs) fun ds => if ds.length <= sizeLine then M.pure (.new (.lst ds)) else M.st) Γ := (rfl)
@[simp] theorem r_tup : zbp fs Γ = M.bind fs (fun rvs => M.bind (za8 rvs) fun ds => if ds.length <= sizeLine then M.pure (.val (.tup ds)) else M.st) Γ := (rfl)
@[simp] theorem r_blt {g : List D -> Option RV} : zaV g fs Γ = M.bind fs (fun rvs => M.bind (za1 rvs) fun ds => M.ofO (g ds)) Γ := (rfl)
@[simp] theorem r_isi {T : Ty} : zd6 T f Γ = M.bind (zg0 f) (fun x => M.bind (peek x) fun d => M.ofO (zfy T d)) Γ := (rfl)
@[simp] theorem r_slc {o : D -> Option Int -> Option Int -> Option RV} {lo hi : M (Option Int)} : zcj o f lo hi Γ = M.bind f (fun x => M.bind lo fun l => M.bind hi fun u => M.bind (peek x) fun d => M.ofO (o d l u)) Γ := (rfl)
@[simp] theorem r_asI {n : Int} : asI (.val (.int n)) Γ = .ok (some n) Γ := (rfl)
@[simp] theorem r_met {m : List D -> List D -> Option (List D × D)} : zjB i m fs Γ = M.bind (recv i) (fun _ => M.bind fs fun rvs => M.bind (za8 rvs) fun es => ziT i m es) Γ := (rfl)
@[simp] theorem r_recv : recv i Γ = match Γ[i]? with
  | some (some (kd, .lst _)) => if owned kd then .ok () Γ else .st
  | _ => .st := (rfl)
@[simp] theorem r_metGo {m : List D -> List D -> Option (List D × D)} {es : List D} : ziT i m es Γ = match Γ[i]? with
  | some (some (kd, .lst ds)) => if owned kd then match m ds es with
    | some (ds', res) => .ok (.val res) (Γ.set i (some (kd, .lst ds')))
    | none => .st else .st
  | _ => .st := (rfl)
@[simp] theorem r_own : owned .own = true := (rfl)
@[simp] theorem r_io {n : Nat} : owned (.io n) = true := (rfl)
@[simp] theorem r_frz : owned .frz = false := (rfl)
@[simp] theorem ziF : zak s s' Γ = match s Γ with
  | .ok .nx Γ' => s' Γ'
  | .ok fl Γ' => .ok fl Γ'
  | .ex x Γ' => .ex x Γ'
  | .st => .st := by
  unfold zak M.bind
  cases s Γ with
  | ok fl Γ' => cases fl <;> rfl
  | ex _ _ => rfl
  | st => rfl
@[simp] theorem r_drop : zd8 f Γ = M.bind f (fun _ => M.pure .nx) Γ := (rfl)
@[simp] theorem r_ret : zaP f Γ = M.bind f (fun rv => M.pure (.ret rv)) Γ := (rfl)
@[simp] theorem r_if : ifM p s s' Γ = M.bind p (fun b => if b then s else s') Γ := (rfl)
@[simp] theorem zrE : zaM i f Γ = match f Γ with
  | .ok (.new d) Γ' => .ok .nx (Γ'.set i (some (.own, d)))
  | .ok (.val d) Γ' => .ok .nx (Γ'.set i (some (.frz, d)))
  | .ok (.var j) Γ' => M.bind (mat (.var j)) (fun d => M.bind (zhd i (.frz, d)) fun _ => M.pure .nx) Γ'
  | .ex x Γ' => .ex x Γ'
  | .st => .st := by
  unfold zaM M.bind
  cases f Γ with
  | ok rv Γ' =>
    cases rv with
    | var j => dsimp only [M.bind]; cases mat (.var j) Γ' <;> rfl
    | _ => rfl
  | ex _ _ => rfl
  | st => rfl
@[simp] theorem r_setS {t : Kd × D} : zhd i t Γ = .ok () (Γ.set i (some t)) := (rfl)
@[simp] theorem r_asgG {m : D -> M Unit} : zfs m f Γ = M.bind f (fun rv => M.bind (mat rv) fun d => M.bind (noX (m d)) fun _ => M.pure .nx) Γ := (rfl)
@[simp] theorem zj6 {m : M Unit} : noX m Γ = match m Γ with
  | .ok a Γ' => .ok a Γ'
  | _ => .st := (rfl)
@[simp] theorem zpD : gN i d Γ = .ok () (Γ.set i (some (.frz, d))) := (rfl)
@[simp] theorem r_gs0 : gs0 [] Γ = .ok () Γ := (rfl)
@[simp] theorem r_gsC {m : D -> M Unit} {ms : List D -> M Unit} {r : List D} : gsC m ms (d :: r) Γ = M.bind (m d) (fun _ => ms r) Γ := (rfl)
@[simp] theorem r_gT {n : Nat} {ms : List D -> M Unit} {ds : List D} : gT n ms (.tup ds) Γ = (if ds.length = n then ms ds else M.st) Γ := (rfl)
@[simp] theorem r_g2 {ms : List D -> M Unit} {x y : D} : g2 ms (.lst [x, y]) Γ = ms [x, y] Γ := (rfl)
@[simp] theorem r_gS {fi : M RV} : gS i fi d Γ = M.bind (recv i) (fun _ => M.bind fi fun ri => M.bind (peek ri) fun di => setAt i d di) Γ := (rfl)
@[simp] theorem r_setAt {n : Int} : setAt i d (.int n) Γ = match Γ[i]? with
  | some (some (kd, .lst ds)) => if owned kd then match ixN ds.length n with
    | some k => .ok () (Γ.set i (some (kd, .lst (ds.set k d))))
    | none => .st else .st
  | _ => .st := by
  unfold setAt
  cases Γ[i]? with
  | none => rfl
  | some o => cases o with
    | none => rfl
    | some t => obtain ⟨kd, d⟩ := t; cases d <;> rfl
@[simp] theorem zq4 {items : M (List D)} {m : D -> M Unit} : forM items m s Γ = M.bind items (fun ds => zce m s ds) Γ := (rfl)
@[simp] theorem zod {m : D -> M Unit} : zce m s [] Γ = .ok .nx Γ := (rfl)
theorem zdz {m : D -> M Unit} {r : List D} : zce m s (d :: r) Γ = match noX (m d) Γ with
  | .ok _ Γ1 => match s Γ1 with
    | .ok .nx Γ2 => zce m s r Γ2
    | .ok .cont Γ2 => zce m s r Γ2
    | .ok .brk Γ2 => .ok .nx Γ2
    | .ok (.ret rv) Γ2 => .ok (.ret rv) Γ2
    | .ex x Γ2 => .ex x Γ2
    | .st => .st
  | .ex x Γ1 => .ex x Γ1
  | .st => .st := by
  show ziD m s (zce m s r) d Γ = _
  unfold ziD M.bind
  cases noX (m d) Γ with
  | ok a Γ1 =>
    dsimp only
    cases s Γ1 with
    | ok fl Γ2 => cases fl <;> rfl
    | ex _ _ => rfl
    | st => rfl
  | ex _ _ => rfl
  | st => rfl
theorem zer {n : Nat} : zb1 p s (n + 1) Γ = match p Γ with
  | .ok true Γ1 => (match s Γ1 with
    | .ok .nx Γ2 => zb1 p s n Γ2
    | .ok .cont Γ2 => zb1 p s n Γ2
    | .ok .brk Γ2 => .ok .nx Γ2
    | .ok (.ret rv) Γ2 => .ok (.ret rv) Γ2
    | .ex x Γ2 => .ex x Γ2
    | .st => .st)
  | .ok false Γ1 => .ok .nx Γ1
  | .ex x Γ1 => .ex x Γ1
  | .st => .st := by
  show M.bind p _ Γ = _
  unfold M.bind
  cases p Γ with
  | ok b Γ1 =>
    cases b with
    | false => rfl
    | true =>
      show M.bind s _ Γ1 = _
      unfold M.bind
      dsimp only
      cases s Γ1 with
      | ok fl Γ2 => cases fl <;> rfl
      | ex _ _ => rfl
      | st => rfl
  | ex _ _ => rfl
  | st => rfl
@[simp] theorem r_lstI : zey f Γ = M.bind f (fun rv => M.bind (mat rv) fun d => match d with
  | .lst ds => M.pure ds
  | .scr ns => M.pure (ns.map D.int)
  | _ => M.st) Γ := (rfl)
@[simp] theorem r_tupI : tupI f Γ = M.bind f (fun rv => M.bind (mat rv) fun d => match d with
  | .tup ds => M.pure ds
  | _ => M.st) Γ := (rfl)
@[simp] theorem r_enuI : zg7 fs Γ = M.bind fs (fun rvs => M.bind (za8 rvs) fun ds => match ds with
  | [.lst ds] => M.pure (znB ds)
  | _ => M.st) Γ := (rfl)
@[simp] theorem r_rng1 : zgX fs Γ = M.bind fs (fun rvs => match rvs with
  | [.val (.int j)] => if small j then M.pure (upI 0 j.toNat) else M.st
  | _ => M.st) Γ := (rfl)
@[simp] theorem r_rng2 : zsd fs Γ = M.bind fs (fun rvs => match rvs with
  | [.val (.int i), .val (.int j)] => if small i && small j then M.pure (upI i (j - i).toNat) else M.st
  | _ => M.st) Γ := (rfl)
@[simp] theorem r_callP {G : List D -> Option Rt} : zar G fs Γ = M.bind fs (fun rvs => M.bind (za1 rvs) fun ds => match G ds with
  | some r => if rvs.any zc6 && !zdr r then M.bind (za8 rvs) fun ds' => M.ofO ((G ds').map Rt.rv) else M.pure r.rv
  | none => M.st) Γ := (rfl)
@[simp] theorem r_callI {G : GI} : zba G fs Γ = M.bind fs (fun rvs => match rvs with
  | .var i :: r => M.bind (za8 r) fun ds => goI i G ds
  | _ => M.st) Γ := (rfl)
@[simp] theorem r_goI {G : GI} {ds : List D} : goI i G ds Γ = match Γ[i]? with
  | some (some (kd, .lst ds0)) => if owned kd then match G ds0 ds with
    | some (r, out) => .ok r.rv (Γ.set i (some (kd, .lst out)))
    | none => .st else .st
  | _ => .st := (rfl)
@[simp] theorem r_rvv : (Rt.val d).rv = .val d := (rfl)
@[simp] theorem r_rvn : (Rt.new d).rv = .new d := (rfl)
@[simp] theorem r_isv : zc6 (.val d) = false := (rfl)
@[simp] theorem r_isn : zc6 (.new d) = false := (rfl)
@[simp] theorem r_isi' : zc6 (.var i) = true := (rfl)
end
@[simp] theorem modO_int {i j : Int} (h : 0 < j) : zhQ (.int i) (.int j) = some (.val (.int (i % j))) := by
  show (if cd (0 < j) = true then _ else _) = _
  rw [if_pos (zda h)]
@[simp] theorem fdivO_int {i j : Int} (h : 0 < j) (h' : j < 1073741824) : zkK (.int i) (.int j) = some (.val (.int (i / j))) := by
  show (if cd (0 < j /\ j < 1073741824) = true then _ else _) = _
  rw [if_pos (zda ⟨h, h'⟩)]
@[irreducible] def E18 : Int := 1000000000000000000
theorem zo8 : zpR (.int 10) (.int 18) = some (.val (.int E18)) := by
  show (if cd ((0:Int) <= 18 /\ (18:Int) <= 1000000 /\ (10:Int).natAbs < 2 ^ 64) = true then some (RV.val (.int (10 ^ (18:Int).toNat))) else none) = _
  rw [if_pos (zda (by decide))]
  have : (10 : Int) ^ (18 : Int).toNat = E18 := by unfold E18; decide +kernel
  rw [this]
@[simp] theorem o_int {g : Int -> Int -> D} {i j : Int} : zk6 g (.int i) (.int j) = some (.val (g i j)) := (rfl)
@[simp] theorem o_addI {i j : Int} : zbb (.int i) (.int j) = some (.val (.int (i + j))) := (rfl)
@[simp] theorem zbL {xs ys : List D} (h : xs.length + ys.length <= sizeLine) : zbb (.lst xs) (.lst ys) = some (.new (.lst (xs ++ ys))) := by
  show (if _ then _ else _) = _
  rw [if_pos h]
@[simp] theorem o_mul {i j : Int} (h : zfX i j = true) : zg8 (.int i) (.int j) = some (.val (.int (i * j))) := by
  show (if _ then _ else _) = _
  rw [if_pos h]
@[simp] theorem o_is {d : D} : isO d .non = some (.val (.bl (isNone d))) := (rfl)
@[simp] theorem o_isnt {d : D} : ziP d .non = some (.val (.bl (!isNone d))) := (rfl)
@[simp] theorem o_nn : isNone .non = true := (rfl)
@[simp] theorem o_nt {xs : List D} : isNone (.tup xs) = false := (rfl)
@[simp] theorem o_nl {xs : List D} : isNone (.lst xs) = false := (rfl)
@[simp] theorem o_ni {i : Int} : isNone (.int i) = false := (rfl)
@[simp] theorem o_lenL {xs : List D} : zbZ [.lst xs] = some (.val (.int xs.length)) := (rfl)
@[simp] theorem o_lenT {xs : List D} : zbZ [.tup xs] = some (.val (.int xs.length)) := (rfl)
@[simp] theorem o_lenS {xs : List Int} : zbZ [.scr xs] = some (.val (.int xs.length)) := (rfl)
@[simp] theorem o_ixL {xs : List D} {i : Int} : zaJ (.lst xs) (.int i) = (L2.atI xs i).map .val := (rfl)
@[simp] theorem o_ixT {xs : List D} {i : Int} : zaJ (.tup xs) (.int i) = (L2.atI xs i).map .val := (rfl)
@[simp] theorem o_ixS {xs : List Int} {i : Int} : zaJ (.scr xs) (.int i) = (L2.atI xs i).map fun n => .val (.int n) := (rfl)
@[simp] theorem o_neg {i : Int} : zdO (.int i) = some (.val (.int (-i))) := (rfl)
@[simp] theorem o_cutL {xs : List D} {lo hi : Option Int} : zdb (.lst xs) lo hi = some (.new (.lst (zcQ xs lo hi))) := (rfl)
@[simp] theorem o_cutS {xs : List Int} {lo hi : Option Int} : zdb (.scr xs) lo hi = some (.new (.lst ((zcQ xs lo hi).map D.int))) := (rfl)
@[simp] theorem o_max {i j : Int} : ziA [.int i, .int j] = some (.val (.int (if j > i then j else i))) := (rfl)
@[simp] theorem o_min {i j : Int} : ziR [.int i, .int j] = some (.val (.int (if j < i then j else i))) := (rfl)
@[simp] theorem o_abs {i : Int} : zr5 [.int i] = some (.val (.int (if i < 0 then -i else i))) := (rfl)
@[simp] theorem o_int1 {i : Int} : zhy [.int i] = some (.val (.int i)) := (rfl)
@[simp] theorem o_int2 {k : Bool} : zhy [.bl k] = some (.val (.int (if k then 1 else 0))) := (rfl)
@[simp] theorem o_list {xs : List D} : zeZ [.lst xs] = some (.new (.lst xs)) := (rfl)
@[simp] theorem o_isiT {T : Ty} {xs : List D} : zfy T (.tup xs) = some (.val (.bl (zcc T (.tup xs)))) := (rfl)
@[simp] theorem o_isiI {T : Ty} {i : Int} : zfy T (.int i) = some (.val (.bl (zcc T (.int i)))) := (rfl)
@[simp] theorem o_isiN {T : Ty} : zfy T .non = some (.val (.bl (zcc T .non))) := (rfl)
@[simp] theorem o_isiB {T : Ty} {b : Bool} : zfy T (.bl b) = some (.val (.bl (zcc T (.bl b)))) := (rfl)
@[simp] theorem o_isiS {T : Ty} {z : Str} : zfy T (.str z) = some (.val (.bl (zcc T (.str z)))) := (rfl)
@[simp] theorem o_isiL {T : Ty} {xs : List D} : zfy T (.lst xs) = some (.val (.bl (zcc T (.lst xs)))) := (rfl)
@[simp] theorem o_isiD {T : Ty} {xs ys : List D} : zfy T (.dic xs ys) = some (.val (.bl (zcc T (.dic xs ys)))) := (rfl)
@[simp] theorem zpb {ds : List D} {d : D} (h : ds.length < sizeLine) : zdg ds [d] = some (ds ++ [d], .non) := by
  show (if _ then _ else _) = _
  rw [if_pos h]
@[simp] theorem zgd {j : Int} (h : -4611686018427387904 <= j /\ j < 4611686018427387904) : small j = true := zda (by omega)
theorem zdw {i j : Int} (h : -18446744073709551616 < i /\ i < 18446744073709551616) : zfX i j = true := zda (.inl (by omega))
theorem mulOk_r {i j : Int} (h : -18446744073709551616 < j /\ j < 18446744073709551616) : zfX i j = true := zda (.inr (by omega))
end Dv
namespace Dv
open PySem L2 Ex
theorem zdu {m : D -> M Unit} {s : M Fl} (I : Nat -> En -> Prop) {ds : List D} {Γ : En} (h0 : I 0 Γ)
    (step : ∀ (i : Nat) (d : D) (Γ : En), ds[i]? = some d -> I i Γ -> ∃ Γ1 Γ2, m d Γ = .ok () Γ1 /\ (s Γ1 = .ok .nx Γ2 \/ s Γ1 = .ok .cont Γ2) /\ I (i + 1) Γ2) : ∃ Γ', zce m s ds Γ = .ok .nx Γ' /\ I ds.length Γ' := by
  induction ds generalizing Γ I with
  | nil => exact ⟨Γ, rfl, h0⟩
  | cons d r ih =>
    obtain ⟨Γ1, Γ2, h1, h2, h3⟩ := step 0 d Γ rfl h0
    obtain ⟨Γ', h4, h5⟩ := ih (fun i => I (i + 1)) h3 fun i d Γ hd hi => step (i + 1) d Γ (by simpa using hd) hi
    refine ⟨Γ', ?_, h5⟩
    rw [zdz, zj6, h1]
    rcases h2 with h2 | h2 <;> simp only [h2] <;> exact h4
theorem while_inv {p : M Bool} {s : M Fl} (I : Nat -> En -> Prop) (Post : En -> Prop)
    (step : ∀ m Γ, I m Γ -> (∃ Γ1, p Γ = .ok false Γ1 /\ Post Γ1) \/ ∃ Γ1 Γ2 m', p Γ = .ok true Γ1 /\ s Γ1 = .ok .nx Γ2 /\ m' < m /\ I m' Γ2) : ∀ (n m : Nat) (Γ : En), m < n -> I m Γ -> ∃ Γ', zb1 p s n Γ = .ok .nx Γ' /\ Post Γ' := by
  intro n
  induction n with
  | zero => intro m Γ h; omega
  | succ n ih =>
    intro m Γ h hi
    rcases step m Γ hi with ⟨Γ1, h1, h2⟩ | ⟨Γ1, Γ2, m', h1, h2, h3, h4⟩
    · exact ⟨Γ1, by rw [zer, h1], h2⟩
    · obtain ⟨Γ', h5, h6⟩ := ih m' Γ2 (by omega) h4
      exact ⟨Γ', by rw [zer, h1]; simp only [h2]; exact h5, h6⟩
end Dv
end
section
namespace Dv
open PySem L2 Ex
variable [KC]
section
variable {X : Cx} {EE : XKS} {ios : List Addr} {a b c d : Expr} {f g k l : M RV} {pos : Pos} {ta tb tc td : TE} {r r' r'' : R2}
def op4 (o o' o'' : D -> D -> Option RV) (f g k l : M RV) : M Bool := M.bind f fun x => M.bind g fun y => M.bind (peek x) fun d => M.bind (peek y) fun e => M.bind (M.bind (M.ofO (o d e)) asB) fun q =>
  if q then M.bind k fun z => M.bind (peek y) fun e' => M.bind (peek z) fun u => M.bind (M.bind (M.ofO (o' e' u)) asB) fun q' =>
    if q' then M.bind l fun v => M.bind (peek z) fun u' => M.bind (peek v) fun t => M.bind (M.ofO (o'' u' t)) asB else M.pure false
  else M.pure false
end
noncomputable def zdP (d e : D) : Option RV := match d, e with
  | .lst xs, .int k => if cd (-(2 ^ 63) <= k /\ k < 2 ^ 63 /\ xs.length * k.toNat <= sizeLine) then some (.new (.lst (List.replicate k.toNat xs).flatten)) else none
  | _, _ => none
theorem Rps.rep {R : Hp} {xs : List V} {ds : List D} (h : Rps R xs ds) : ∀ k : Nat, Rps R (List.replicate k xs).flatten (List.replicate k ds).flatten
  | 0 => .nil
  | k + 1 => by
    rw [List.replicate_succ, List.replicate_succ, List.flatten_cons, List.flatten_cons]
    exact h.app (Rps.rep h k)
theorem ze1 : OpV zqQ zdP := by
  intro R H x y d e rv Q s px py hg q
  unfold zdP at hg
  split at hg
  · split at hg
    · rename_i c
      cases hg
      obtain ⟨c1, c2, c3⟩ := zeC c
      obtain ⟨a, xs, rfl, h1, h2⟩ := px.lst s
      refine ⟨a, _, xs, rfl, py.int, h1, c1, c2, by rw [h2.len]; exact c3, fun p hp => ?_⟩
      obtain ⟨al, rv⟩ := zcJ s hp (h2.rep _)
      exact q _ _ _ al rv
    · cases hg
  · cases hg
section
variable {X : Cx} {EE : XKS} {ios : List Addr} {pos : Pos}
end
section
variable {X : Cx} {EE : XKS} {ios : List Addr} {fs : M (List RV)} {ta : TA} {i j : Nat} {x y : Str} {a b : Expr} {px py pt pos : Pos} {kt k2 : Nat} {pt2 : Pos}
def zsf (i j : Nat) (fs : M (List RV)) : M Fl := M.bind fs fun rvs => M.bind (za8 rvs) fun ds => match ds with
  | [d, e] => M.bind (zhd i (.frz, d)) fun _ => M.bind (zhd j (.frz, e)) fun _ => M.pure .nx
  | _ => M.st
end
end Dv
end
section
namespace L2
open PySem PySem.Spec PyProof.Rows Ex
section
variable {X : Cx}
end
end L2
namespace Dv
open PySem L2 Ex
variable [KC]
end Dv
end
section
namespace Dv
open PySem L2 Ex
section
variable {Γ Γ' : En} {f g k l : M RV} {fs : M (List RV)} {p q : M Bool} {d : D} {i j : Nat} {m : D -> M Unit} {fr : List Nat} {own : Nat}
@[simp] theorem r_comp {items : M (List D)} : zds items fr own m p f Γ = M.bind items (fun ds => if ds.length < sizeLine then M.bind (lcM fr own m p f ds) fun ys => M.pure (.new (.lst ys)) else M.st) Γ := (rfl)
@[simp] theorem r_elt : zjj m p f d Γ = M.bind (noX (m d)) (fun _ => M.bind p fun b => if b then M.bind f fun rv => M.bind (mat rv) fun y => M.pure (some y) else M.pure none) Γ := (rfl)
@[simp] theorem r_par : zsf i j fs Γ = M.bind fs (fun rvs => M.bind (za8 rvs) fun ds => match ds with
  | [d, e] => M.bind (zhd i (.frz, d)) fun _ => M.bind (zhd j (.frz, e)) fun _ => M.pure .nx
  | _ => M.st) Γ := (rfl)
@[simp] theorem r_op4 {o o' o'' : D -> D -> Option RV} : op4 o o' o'' f g k l Γ = M.bind f (fun x => M.bind g fun y => M.bind (peek x) fun d => M.bind (peek y) fun e => M.bind (M.bind (M.ofO (o d e)) asB) fun q =>
  if q then M.bind k fun z => M.bind (peek y) fun e' => M.bind (peek z) fun u => M.bind (M.bind (M.ofO (o' e' u)) asB) fun q' =>
    if q' then M.bind l fun v => M.bind (peek z) fun u' => M.bind (peek v) fun t => M.bind (M.ofO (o'' u' t)) asB else M.pure false
  else M.pure false) Γ := (rfl)
theorem zkp (F : D -> Option D) : ∀ (ds : List D), (∀ d ∈ ds, ∃ Γb, zjj m p f d (zcb fr own Γ) = .ok (F d) Γb /\ unblk fr own Γ Γb = Γ) -> lcM fr own m p f ds Γ = .ok (ds.filterMap F) Γ
  | [], _ => rfl
  | d :: r, h => by
    obtain ⟨Γb, h1, h2⟩ := h d (List.mem_cons_self ..)
    have ih := zkp F r fun d hd => h d (List.mem_cons_of_mem _ hd)
    unfold lcM
    rw [h1]
    simp only [h2, ih]
    cases e : F d <;> simp [List.filterMap_cons, e]
theorem zmC (F : D -> D) {ds : List D} (h : ∀ d ∈ ds, ∃ Γb, zjj m p f d (zcb fr own Γ) = .ok (some (F d)) Γb /\ unblk fr own Γ Γb = Γ) : lcM fr own m p f ds Γ = .ok (ds.map F) Γ := by
  rw [zkp (fun d => some (F d)) ds h]
  exact congrArg (fun z => Res.ok z Γ) (by induction ds with
    | nil => rfl
    | cons a r ih => rw [List.filterMap_cons, List.map_cons, ih fun d hd => h d (List.mem_cons_of_mem _ hd)])
end
end Dv
end
section
namespace L2
open PySem PySem.Spec PyProof.Rows Ex
section
variable {X : Cx} {EE : XKS} {k : Nat} {f : Addr} {fd : FuncData} {ps : List Str} {sp : Sp} {dvs : List V} {ds : List Value} {x : Str} {p pos : Pos} {e : Expr} {es : List Expr} {t : TA}
def zmW (sp : Sp) (dvs : List V) (EE : XKS) (t : TA) : TE := fun σ H Q => t σ H fun vs H1 => sp (vs ++ dvs) H1 Q (EE σ)
theorem zn1 {pins : List (Addr × Obj)} {σ : St} {H : Hp} {s : Shared} {Q : VK} {us : List Value} {vs : List V} (F : FnOk X.prog X.w X.K X.mg X.base (CXe X.prog X.w) k f fd ps sp) (hr : Room k X.A) (hb : Binds X.K fd ps ds) (hd : Vals dvs ds) (hX : XOk X EE)
    (I : Inv X pins σ H s) (r : Vals vs us) (h : sp (vs ++ dvs) H Q (EE σ)) : wpAny (model X.prog X.w) X.A (call (.ref f) us) (EP X pins σ Q) X.xe s := by
  have r2 : Vals (vs ++ dvs) (us ++ ds) := r.append hd
  have hl : (us ++ ds).length = ps.length := by rw [<- r2.length]; exact F.len _ _ _ _ h
  refine wpAny_call (codeAny_mono (F.run X.A X.stack s H ⟨us, []⟩ (us ++ ds) (vs ++ dvs) Q (EE σ) hr I.env0 (hb s us I.kIn hl) r2 h) fun r s' hq => ?_)
  cases r with
  | error e => exact zoS hX I hq
  | ok fl =>
    cases fl with
    | ret u => exact I.after hq
    | next => exact False.elim hq
    | brk => exact False.elim hq
    | cont => exact False.elim hq
theorem znm (F : FnOk X.prog X.w X.K X.mg X.base (CXe X.prog X.w) k f fd ps sp) (hr : Room k X.A) (hg : Gl X x) (hm : X.mg x = some (.ref f)) (hk : PySem.W.keepIn X.K (.ref f) = true) (hb : Binds X.K fd ps ds) (hd : Vals dvs ds) (hX : XOk X EE)
    (ha : PA X (e :: es) t) (hdb : (x == ("__debug__" : Str)) = false := by decide) (he : starEach (e :: es) X.env = (false, eval e X.env) :: starEach es X.env := by rfl) (hpl : (backTo pos (starEach es X.env)).any (·.1) = false := by rfl) :
    PE X (.Call (.Name x p) (e :: es) [] pos) (zmW sp dvs EE t) := by
  intro pins s σ H Q I h
  refine wpAny_Call_Name_kw (zeq I hg hm ?_ hdb)
  refine PySem.W.callWith_K (h₀ := X.base) I.ok.mod.kin hk (thn (ha pos pins s σ H _ I h) fun us s1 ⟨vs, H1, I1, r, q⟩ => ⟨I1.kIn, ?_⟩) he hpl
  exact zn1 F hr hb hd hX I1 r q
end
end L2
namespace Dv
open PySem L2 Ex
variable [KC]
section
variable {X : Cx} {EE : XKS} {ios : List Addr} {e a b c : Expr} {es : List Expr} {f g : M RV} {fs : M (List RV)} {p : M Bool} {s s' : M Fl} {st : Stmt} {sts sts' : List Stmt} {pos : Pos}
inductive Rx where
  | ok (r : Rt) | ex (x : Xc)
def RxK (R H : Hp) (r : Option Rx) (Q : VK) (E : XK) : Prop := match r with
  | some (.ok r) => ∀ x H' R', Al R H R' H' -> RvA R' H H' x r.rv -> Q x H'
  | some (.ex x) => ∀ e H' R', Al R H R' H' -> XcR R' H H' e x -> E (.ref (KC.cls x.C)) (some e) H'
  | none => False
def spX (G : List D -> Option Rx) : Sp := fun vs H Q E => ∃ R ds, Same R H /\ Rps R vs ds /\ RxK R H (G ds) Q E
def zlw : Res Fl -> Option Rx
  | .ex x _ => some (.ex x)
  | r => (zaL r).map .ok
theorem zps {N : List Str} {R H : Hp} {σ : St} {ds : List D} {fl : Fl} {Γ' : En} {r : Rt} {Q : VK} (fin : zaL (.ok fl Γ') = some r) (h3 : ∀ x H' R', Al R H R' H' -> RvA R' H H' x r.rv -> Q x H') : FlK ios R H σ (gam N ds) { nx := fun _ H' => Q .non H', rt := Q } fl Γ' := by
  intro σ' H' R' p
  cases fl with
  | brk => cases fin
  | cont => cases fin
  | nx => cases fin; exact h3 .non H' R' p.al .non
  | ret rv =>
    intro y hy
    cases rv with
    | val d => cases fin; exact h3 y H' R' p.al hy
    | new d => cases fin; exact h3 y H' R' p.al hy
    | var i =>
      have fin : (match Γ'[i]? with
        | some (some (.own, d)) => some (Rt.new d)
        | some (some (.frz, d)) => some (.val d)
        | _ => none) = some r := fin
      split at fin
      · rename_i d hs
        cases fin
        obtain ⟨v, hv, sl⟩ := p.er.sl i _ hs
        have hy : σ'[i]? = some (some y) := hy
        rw [hy] at hv
        cases hv
        obtain ⟨a, xs, ds', rfl, r1, r2, r3, r4⟩ := sl
        refine h3 _ H' R' p.al ⟨⟨a, xs, ds', rfl, r1, r2, r3, r4⟩, a, rfl, ?_⟩
        exact (p.go.oo a ⟨i, .own, d, hs, rfl, hy⟩).elim (fun z => absurd z zkY) id
      · rename_i d hs
        cases fin
        obtain ⟨v, hv, sl⟩ := p.er.sl i _ hs
        have hy : σ'[i]? = some (some y) := hy
        rw [hy] at hv
        cases hv
        exact h3 _ H' R' p.al sl
      · cases fin
theorem zmt {P : Program} {w : World} {K : PySem.W.Frag} {mg : Str -> Option Value} {base : Heap} {x qual : Str} {fa : Addr} {fd : FuncData} {N ps : List Str} {k : Nat} {G : List D -> Option Rx} {bm : M Fl} (F : Fun K x qual st fa fd) (S : FnScope N ps (defScope st))
    (hb : ∀ (cdv : Value) (A : Around) (outer : List Env) (s : Shared) (H : Hp) (E : XK), Room k (A.deeper (PyProof.Rows.envOfC qual (defScope st) s.heap.objs.size fa cdv)) -> VSs (zbB (CXe P w) P w K mg base N qual (defScope st) fa cdv A outer s H E) (fun _ => E) [] (defBody st) bm)
    (h : ∀ ds r, G ds = some r -> ds.length = ps.length /\ zlw (bm (gam N ds)) = some r) : FnOk P w K mg base (CXe P w) (k + 1) fa fd ps (spX G) := by
  obtain ⟨oc, od, kV, doc, pm, an, cdv, ct, osl, rfl, lk, hcd⟩ := F.ex
  refine zoU lk hcd S (fun vs H Q E q => ?_) fun A outer s H vs Q E hr q => ?_
  · obtain ⟨R, ds, _, h2, h3⟩ := q
    cases e : G ds with
    | none => rw [e] at h3; exact h3.elim
    | some r => rw [h2.len]; exact (h ds r e).1
  · obtain ⟨R, ds, h1, h2, h3⟩ := q
    cases e : G ds with
    | none => rw [e] at h3; exact h3.elim
    | some r =>
      rw [e] at h3
      obtain ⟨t, b1, b2⟩ := hb cdv A outer s H E hr
      refine ⟨t, b1, b2 _ H R _ _ (zi1 h1 h2) ?_⟩
      have fin := (h ds r e).2
      cases q : bm (gam N ds) with
      | st => rw [q] at fin; cases fin
      | ex x Γ' =>
        rw [q] at fin
        cases fin
        exact fun e σ' H' R' p qx => h3 e H' R' p.al qx
      | ok fl Γ' =>
        rw [q] at fin
        have fin : (zaL (.ok fl Γ')).map Rx.ok = some r := fin
        cases q2 : zaL (.ok fl Γ') with
        | none => rw [q2] at fin; cases fin
        | some r' =>
          rw [q2] at fin
          cases fin
          exact zih (zps q2 h3)
def M.thr {α : Type} (x : Xc) : M α := fun Γ => .ex x Γ
def zcK (G : List D -> Option Rx) (fs : M (List RV)) : M RV := M.bind fs fun rvs => M.bind (za1 rvs) fun ds => match G ds with
  | some (.ok r) => if rvs.any zc6 && !zdr r then M.bind (za8 rvs) fun ds' => match G ds' with
      | some (.ok r) => M.pure r.rv
      | _ => M.st
    else M.pure r.rv
  | some (.ex x) => M.bind (za8 rvs) fun ds' => match G ds' with
      | some (.ex x) => M.thr x
      | _ => M.st
  | none => M.st
theorem zly {G : List D -> Option Rx} {e0 : Expr} (hp : ∀ t, PA X es t -> PE X e0 (zmW (spX G) [] EE t)) (ha : VA X EE ios es fs) : VE X EE ios e0 (zcK G fs) := by
  obtain ⟨t, h1, h2⟩ := ha
  refine ⟨_, hp t h1, fun σ H R Γ Q er w => ?_⟩
  unfold zcK at w
  rw [zac] at w
  refine h2 σ H R Γ _ er (zah w (fun rvs Γ1 w xs H1 R1 p1 hx => ?_) fun _ _ z => z)
  show spX G (xs ++ []) H1 Q (EE σ)
  rw [List.append_nil]
  rw [zac] at w
  obtain ⟨ds, q, w⟩ := zgY w
  obtain ⟨ds', pk, e⟩ := zdH (K := fun ds' _ => ds' = ds) (E := fun _ _ => False) p1.er hx (by rw [q]; exact rfl)
  subst e
  cases hG : G ds' with
  | none => rw [hG] at w; exact False.elim w
  | some rx =>
    rw [hG] at w
    cases rx with
    | ex x =>
      have w : wpM (M.bind (za8 rvs) (fun ds' => match G ds' with
        | some (.ex x) => M.thr x
        | _ => M.st) Γ1) _ _ := w
      rw [zac] at w
      obtain ⟨ds2, Γ2, R2, p2, s2, r2, w⟩ := zbE er p1 hx w
      refine ⟨R2, ds2, p2.er.sub, r2, ?_⟩
      cases hG2 : G ds2 with
      | none => rw [hG2] at w; exact False.elim w
      | some ry =>
        rw [hG2] at w
        cases ry with
        | ok r => exact False.elim w
        | ex y => exact fun e H' R' al xr => w e H' R' (p2.al al) (xr.back p2.since)
    | ok r =>
      dsimp only at w
      by_cases hv : rvs.any zc6 = true
      · by_cases him : zdr r = true
        · rw [hv, him] at w
          have w : ∀ x H' R', EPo ios R H σ Γ R' H' Γ1 -> RvR R' H H' σ x r.rv -> Q x H' := w
          refine ⟨lent (Ow σ Γ1) R1 H1, ds', ziI p1.er.sub, Pks.lent p1.er hx pk q, ?_⟩
          rw [hG]
          intro x H' R' al ra
          have ow : ∀ b, Ow σ Γ1 b -> R1 b = none /\ ∃ xs, H1 b = some (.lst xs) := fun b z => p1.er.ow z
          have un : ∀ b, ¬ Ow σ Γ1 b -> zb2 (Ow σ Γ1) R' b = R' b := fun b z => by unfold zb2; rw [if_neg z]
          have un' : ∀ b, Ow σ Γ1 b -> zb2 (Ow σ Γ1) R' b = none := fun b z => by unfold zb2; rw [if_pos z]
          have tup : ∀ b ys, R' b = some (.tup ys) -> zb2 (Ow σ Γ1) R' b = some (.tup ys) := fun b ys z => by
            rw [un b]
            · exact z
            · intro o
              obtain ⟨_, zs, hz⟩ := ow b o
              have := al.sub _ _ z
              rw [al.hh _ _ hz] at this
              cases this
          have rr : Same R1 (zb2 (Ow σ Γ1) R') := fun b o z => by
            have nb : ¬ Ow σ Γ1 b := fun q => by rw [(ow b q).1] at z; cases z
            rw [un b nb]
            apply al.rr
            unfold lent
            rw [if_neg nb]
            exact z
          have no : ∀ b o, H1 b = some o -> R1 b = none -> zb2 (Ow σ Γ1) R' b = none := fun b o hb rb => by
            by_cases nb : Ow σ Γ1 b
            · exact un' b nb
            · rw [un b nb]
              apply al.no b o hb
              unfold lent
              rw [if_neg nb]
              exact rb
          have al' : Al R1 H1 (zb2 (Ow σ Γ1) R') H' := ⟨fun b o z => by
            by_cases nb : Ow σ Γ1 b
            · rw [un' b nb] at z; cases z
            · rw [un b nb] at z; exact al.sub b o z, rr, al.hh, no⟩
          refine w x H' _ (p1.al al') ?_
          cases r with
          | val d => exact Rp.less tup ra him
          | new d =>
            cases d with
            | lst zs =>
              obtain ⟨⟨a, ys, ds2, rfl, r1, r2, r3, r4⟩, a', ea, hf⟩ := ra
              cases ea
              cases r3
              refine ⟨⟨a, ys, zs, rfl, ?_, r2, rfl, r4.less tup him⟩, a, rfl, p1.back er a hf⟩
              by_cases nb : Ow σ Γ1 a
              · exact un' a nb
              · rw [un a nb]; exact r1
            | _ => cases him
        · have him : zdr r = false := by cases z : zdr r <;> simp_all
          rw [hv, him] at w
          have w : wpM (M.bind (za8 rvs) (fun ds' => match G ds' with
            | some (.ok r) => M.pure r.rv
            | _ => M.st) Γ1) _ _ := w
          rw [zac] at w
          obtain ⟨ds2, Γ2, R2, p2, s2, r2, w⟩ := zbE er p1 hx w
          refine ⟨R2, ds2, p2.er.sub, r2, ?_⟩
          cases hG2 : G ds2 with
          | none => rw [hG2] at w; exact False.elim w
          | some r' =>
            rw [hG2] at w
            cases r' with
            | ex y => exact False.elim w
            | ok r' => exact fun x H' R' al ra => w x H' R' (p2.al al) (ra.rv (p2.back er))
      · have hv : rvs.any zc6 = false := by cases z : rvs.any zc6 <;> simp_all
        rw [hv] at w
        have w : ∀ x H' R', EPo ios R H σ Γ R' H' Γ1 -> RvR R' H H' σ x r.rv -> Q x H' := w
        refine ⟨R1, ds', p1.er.sub, zho hx hv q, ?_⟩
        rw [hG]
        exact fun x H' R' al ra => w x H' R' (p1.al al) (ra.rv (p1.back er))
def zex (P : Program) (w : World) (mg : Str -> Option Value) (base : Heap) (x : Str) (k : Nat) (ps : List Str) (sp : Sp) : Prop := ∃ f fd, FnOk P w KC.K mg base (CXe P w) k f fd ps sp /\ mg x = some (.ref f) /\ PySem.W.keepIn KC.K (.ref f) = true /\ Binds KC.K fd ps []
theorem zcv {G : List D -> Option Rx} {x : Str} {k : Nat} {ps : List Str} {p0 : Pos} (hX : XOk X EE) (C : zex X.prog X.w X.mg X.base x k ps (spX G)) (hr : Room k X.A) (hg : Gl X x) (ha : VA X EE ios (e :: es) fs) (hK : X.K = KC.K := by rfl) (hdb : (x == ("__debug__" : Str)) = false := by decide)
    (he : starEach (e :: es) X.env = (false, eval e X.env) :: starEach es X.env := by rfl) (hpl : (backTo pos (starEach es X.env)).any (·.1) = false := by rfl) : VE X EE ios (.Call (.Name x p0) (e :: es) [] pos) (zcK G fs) := by
  obtain ⟨f, fd, F, hm, hk, hb⟩ := C
  rw [<- hK] at F hk hb
  exact zly (fun t h => znm F hr hg hm hk hb .nil hX h hdb he hpl) ha
theorem zei {P : Program} {w : World} {mg : Str -> Option Value} {base : Heap} {x : Str} {k : Nat} {N ps : List Str} {G : List D -> Option Rx} {bm : M Fl} (A0 : At mg x st) (S : FnScope N ps (defScope st))
    (bd : ∀ (kV doc pm : Value) (an : Option Addr) (cdv ct : Value) (us : List Value), us.length = ps.length -> bindArgs (PySem.W.fnOf x x (defArgs st) (defBody st) (defScope st) .none kV doc pm an cdv ct) ⟨us, []⟩ = pure (ps.zip us))
    (hb : ∀ (fa : Addr) (cdv : Value) (A : Around) (outer : List Env) (s : Shared) (H : Hp) (E : XK), Room k (A.deeper (PyProof.Rows.envOfC x (defScope st) s.heap.objs.size fa cdv)) -> VSs (zbB (CXe P w) P w KC.K mg base N x (defScope st) fa cdv A outer s H E) (fun _ => E) [] (defBody st) bm)
    (h : ∀ ds r, G ds = some r -> ds.length = ps.length /\ zlw (bm (gam N ds)) = some r) : zex P w mg base x (k + 1) ps (spX G) :=
  let ⟨f, fd, F, hm, hk⟩ := A0
  ⟨f, fd, zmt F S (hb f) h, hm, hk, F.binds bd⟩
def zc3 (n : Nat) (N : List Str) (bm : M Fl) : List D -> Option Rx := fun ds => if ds.length = n then zlw (bm (gam N ds)) else none
theorem zeo {n : Nat} {N : List Str} {bm : M Fl} {ds : List D} {r : Rx} (h : zc3 n N bm ds = some r) : ds.length = n /\ zlw (bm (gam N ds)) = some r := by
  unfold zc3 at h
  split at h
  · rename_i c; exact ⟨c, h⟩
  · cases h
end
end Dv
end
section
namespace Dv
open PySem L2 Ex
variable [KC]
section
variable {X : Cx} {EE : XKS} {ios : List Addr} {e a b c : Expr} {es : List Expr} {f g : M RV} {fs : M (List RV)} {p : M Bool} {s s' : M Fl} {st : Stmt} {sts sts' : List Stmt} {pos cpos p0 : Pos} {x : Str}
theorem ArsR.len {R : Hp} {σ : St} : ∀ {xs : List V} {rvs : List RV}, ArsR R σ xs rvs -> xs.length = rvs.length
  | _, _, .nil => rfl
  | _, _, .cons _ h => congrArg Nat.succ (ArsR.len h)
theorem zmk {R H : Hp} {p : Addr} {o : HO} (s : Same R H) (hp : H p = none) : Al R H R (upd H p o) :=
  ⟨fun b u e => by rw [zay (zaQ (s _ _ e) hp)]; exact s _ _ e, Same.refl _, zcw hp, fun _ _ _ r => r⟩
def zff (C : Cn) (fs : M (List RV)) : M Fl := M.bind fs fun rvs => if rvs.length <= 1000 then M.thr ⟨C, []⟩ else M.st
theorem zhl {C : Cn} (hX : XOk X EE) (M0 : znd KC.K (KC.cls C)) (Z : XK0 KC.K (KC.cls C)) (hm : X.mg x = some (.ref (KC.cls C))) (ha : VA X EE ios (e :: es) fs) (hg : Gl X x := by rfl) (hc : X.calm = true := by rfl) (hK : X.K = KC.K := by rfl) (hdb : (x == ("__debug__" : Str)) = false := by decide)
    (he : starEach (e :: es) X.env = (false, eval e X.env) :: starEach es X.env := by rfl) (hpl : (backTo cpos (starEach es X.env)).any (·.1) = false := by rfl) : VS X EE ios (.Raise (some (.Call (.Name x p0) (e :: es) [] cpos)) none pos) (zff C fs) := by
  obtain ⟨t, h1, h2⟩ := ha
  refine ⟨_, zls hX hc (by rw [hK]; exact M0) (by rw [hK]; exact Z) hg hm h1 hdb he hpl, fun σ H R Γ D er w => ?_⟩
  unfold zff at w
  rw [zac] at w
  refine h2 σ H R Γ _ er (zah w (fun rvs Γ1 w xs H1 R1 p1 hx => ?_) fun _ _ z => z.exp)
  split at w
  · rename_i hl
    refine ⟨by rw [hx.len]; exact hl, fun a na => ?_⟩
    exact w a σ _ R1 (p1.al (zmk p1.er.sub na)).spo ⟨p1.er.sub.free na, p1.since _ na, .inl ⟨rfl, za3⟩⟩
  · exact False.elim w
def znK (C : Addr) (y : Str) : Sp := fun vs H Q _ => ∃ a v fr, vs = [.ref a, v] /\ H a = some (ExO C a none fr) /\ ∀ d, H d = none -> d ≠ a -> Q .non (upd (upd H d (ExD d [(y, v)])) a (ExO C a (some d) fr))
structure Ini (P : Program) (w : World) (mg : Str -> Option Value) (base : Heap) (C : Cn) (ps : List Str) (sp : Sp) : Prop where
  ex : ∃ fI fd, XMk KC.K (KC.cls C) fI /\ FnOk P w KC.K mg base CX0 1 fI fd ps sp /\ Binds KC.K fd ps []
  z : XK0 KC.K (KC.cls C)
def zcI (C : Cn) (ns : List Str) (fs : M (List RV)) : M Fl := M.bind fs fun rvs => M.bind (za8 rvs) fun ds => if ds.length = ns.length /\ ds.length <= 1000 then M.thr ⟨C, ns.zip ds⟩ else M.st
theorem zem {C : Cn} {y : Str} {k : Nat} (hX : XOk X EE) (I : Ini X.prog X.w X.mg X.base C ["self", y] (znK (KC.cls C) y)) (hr : Room k X.A) (hk : 2 <= k) (hm : X.mg x = some (.ref (KC.cls C))) (ha : VA X EE ios (e :: es) fs) (hg : Gl X x := by rfl) (hc : X.calm = true := by rfl) (hK : X.K = KC.K := by rfl) (hdb : (x == ("__debug__" : Str)) = false := by decide)
    (he : starEach (e :: es) X.env = (false, eval e X.env) :: starEach es X.env := by rfl) (hpl : (backTo cpos (starEach es X.env)).any (·.1) = false := by rfl) : VS X EE ios (.Raise (some (.Call (.Name x p0) (e :: es) [] cpos)) none pos) (zcI C [y] fs) := by
  obtain ⟨t, h1, h2⟩ := ha
  obtain ⟨⟨fI, fd, i1, i2, i3⟩, z⟩ := I
  refine ⟨_, zmg hX hc (by rw [hK]; exact i1) (by rw [hK]; exact z) (by rw [hK]; exact i2) (hr.mono hk) hg hm (by rw [hK]; exact i3) .nil h1 hdb he hpl, fun σ H R Γ D er w => ?_⟩
  unfold zcI at w
  rw [zac] at w
  refine h2 σ H R Γ _ er (zah w (fun rvs Γ1 w xs H1 R1 p1 hx => ?_) fun _ _ z => z.exp)
  rw [zac] at w
  obtain ⟨ds, Γ2, R2, p2, s2, r2, w⟩ := zbE er p1 hx w
  split at w
  · rename_i hl
    obtain ⟨hl, hl2⟩ := hl
    match ds, hl with
    | [d], _ =>
      obtain ⟨v, rfl, rv⟩ : ∃ v, xs = [v] /\ Rp R2 v d := by cases r2 with | cons rv r => cases r; exact ⟨_, rfl, rv⟩
      refine ⟨by simp, fun a na => ?_⟩
      refine ⟨a, v, true, rfl, za3, fun d' nd ne => ⟨rfl, some d', za3, ?_⟩⟩
      have nd1 : H1 d' = none := by rwa [zay ne] at nd
      have fa : R2 a = none := p2.er.sub.free na
      have fd' : R2 d' = none := p2.er.sub.free nd1
      refine w a σ _ R2 (p2.al ⟨fun b u q => ?_, Same.refl _, fun b u q => ?_, fun _ _ _ r => r⟩).spo ⟨fa, p2.since _ na, .inr ⟨d', [(y, v)], za3, ?_, fd', p2.since _ nd1, rfl, .cons rv .nil⟩⟩
      · have q' := p2.er.sub _ _ q
        rw [zga, zay (zaQ q' na), zay (zaQ q' nd1), zay (zaQ q' na)]; exact q'
      · rw [zga, zay (zaQ q na), zay (zaQ q nd1), zay (zaQ q na)]; exact q
      · rw [zga, zay ne, za3]
  · exact False.elim w
def zr1 (EE : XKS) (ios : List Addr) (f : M Fl) : TS := fun D σ H => ∃ R Γ, ER ios R H σ Γ /\ wpM (f Γ) (FlK ios R H σ Γ D) (EXS EE ios R H σ Γ)
theorem VSs.pss (h : VSs X EE ios sts s) : PSs X sts (zr1 EE ios s) := let ⟨_, h1, h2⟩ := h; fun pins s σ H D I ⟨R, Γ, er, w⟩ => h1 pins s σ H D I (h2 σ H R Γ D er w)
def zgR (x : Xc) : D := .ins x.C (x.fs.map (·.1)) (x.fs.map (·.2))
def zmH (mt : Cn -> Bool) (i : Nat) (body suite : M Fl) : M Fl := fun Γ => match body Γ with
  | .ok fl Γ' => .ok fl Γ'
  | .ex x Γ' => if mt x.C then match suite (Γ'.set i (some (.frz, zgR x))) with
      | .ok .nx Γ'' => .ok .nx (Γ''.set i none)
      | _ => .st
    else .st
  | .st => .st
theorem SPo.ext1 {R H R1 H1 : Hp} {σ σ1 : St} {Γ Γ1 : En} {a : Addr} (p : SPo ios R H σ Γ R1 H1 σ1 Γ1) (ra : R1 a = none) (h0 : H a = none) (no : ¬ Ow σ1 Γ1 a) : SPo ios R H σ Γ (ext R1 H1 a) H1 σ1 Γ1 := by
  have rr : Same R1 (ext R1 H1 a) := zee ra
  refine ⟨⟨zh7 p.er.sub, p.er.len, fun j t hj => ?_, p.er.dj⟩, ⟨p.go.rr.trans rr, p.go.hh, fun b o hb nb rb => ?_, p.go.oo, p.go.th⟩⟩
  · obtain ⟨v, hv, s⟩ := p.er.sl j t hj
    refine ⟨v, hv, s.mono rr fun ho b ys eb hb rb => ⟨hb, ?_⟩⟩
    rw [zeh]
    · exact rb
    · rintro rfl
      subst eb
      exact no ⟨j, t.1, t.2, hj, ho, hv⟩
  · rw [zeh]
    · exact p.go.no b o hb nb rb
    · rintro rfl
      rw [h0] at hb; cases hb
theorem zng {σ : St} {Γ : En} {i : Nat} {b : Addr} (h : Ow (σ.set i none) (Γ.set i none) b) : Ow σ Γ b := by
  obtain ⟨j, k, d, h1, h2, h3⟩ := h
  by_cases hj : j = i
  · subst hj
    rw [List.getElem?_set] at h1
    simp at h1
  · rw [List.getElem?_set_ne (Ne.symm hj)] at h1 h3
    exact ⟨j, k, d, h1, h2, h3⟩
theorem SPo.unset {R H : Hp} {σ : St} {Γ : En} {i : Nat} (er : ER ios R H σ Γ) : SPo ios R H σ Γ R H (σ.set i none) (Γ.set i none) := by
  have ne : ∀ {j : Nat} {t : Kd × D}, (Γ.set i none)[j]? = some (some t) -> j ≠ i /\ Γ[j]? = some (some t) := fun {j t} h => by
    by_cases hj : j = i
    · subst hj
      rw [List.getElem?_set] at h
      simp at h
    · exact ⟨hj, by rwa [List.getElem?_set_ne (Ne.symm hj)] at h⟩
  refine ⟨⟨er.sub, by rw [List.length_set, List.length_set]; exact er.len, fun j t hj => ?_, fun j j' l l' d d' b q1 q2 q3 q4 q5 q6 => ?_⟩, ⟨Same.refl _, fun _ _ h _ => h, fun _ _ _ _ r => r, fun b z => .inl (zng z), fun b o h => ⟨o, h⟩⟩⟩
  · obtain ⟨n1, n2⟩ := ne hj
    obtain ⟨v, hv, s⟩ := er.sl j t n2
    exact ⟨v, by rw [List.getElem?_set_ne (Ne.symm n1)]; exact hv, s⟩
  · obtain ⟨n1, n2⟩ := ne q1
    obtain ⟨m1, m2⟩ := ne q3
    rw [List.getElem?_set_ne (Ne.symm n1)] at q5
    rw [List.getElem?_set_ne (Ne.symm m1)] at q6
    exact er.dj j j' l l' d d' b n2 q2 m2 q4 q5 q6
theorem caught {R H R1 H1 : Hp} {σ σ1 : St} {Γ Γ1 : En} {x : Xc} {e : Addr} (p : SPo ios R H σ Γ R1 H1 σ1 Γ1) (h : XcR R1 H H1 e x) : ∃ R2, SPo ios R H σ Γ R2 H1 σ1 Γ1 /\ Rp R2 (.ref e) (zgR x) := by
  obtain ⟨re, h0, h⟩ := h
  have no : ∀ b (o : HO), H1 b = some o -> (∀ xs, o ≠ .lst xs) -> ¬ Ow σ1 Γ1 b := fun b o hb hn z => by
    obtain ⟨_, xs, q⟩ := p.er.ow z
    rw [hb] at q
    cases q
    exact hn xs rfl
  rcases h with ⟨hf, he⟩ | ⟨d, fs, he, hd, rd, d0, hn, hv⟩
  · refine ⟨ext R1 H1 e, p.ext1 re h0 (no e _ he (by intro xs z; cases z)), ?_⟩
    unfold zgR
    rw [hf]
    exact .exc0 (by rw [zed]; exact he)
  · have p2 := p.ext1 re h0 (no e _ he (by intro xs z; cases z))
    have s2 : Same R1 (ext R1 H1 e) := zee re
    by_cases ed : d = e
    · subst ed
      refine ⟨_, p2, ?_⟩
      unfold zgR
      rw [<- hn]
      exact .exc (by rw [zed]; exact he) (by rw [zed]; exact hd) (hv.sm s2)
    · have rd2 : ext R1 H1 e d = none := by rw [zeh ed]; exact rd
      have s3 : Same (ext R1 H1 e) (ext (ext R1 H1 e) H1 d) := zee rd2
      refine ⟨_, p2.ext1 rd2 d0 (no d _ hd (by intro xs z; cases z)), ?_⟩
      unfold zgR
      rw [<- hn]
      exact .exc (by rw [zeh (Ne.symm ed), zed]; exact he) (by rw [zed]; exact hd) (hv.sm (s2.trans s3))
theorem zp7 {K : PySem.W.Frag} {cs : List Value} {i : Nat} {tb : XKS -> TS} {ts : TS} {mt : Cn -> Bool} (hm : ∀ C, mt C = true -> matchIn K (KC.cls C) cs = some true) (hb : ∀ EE', RdS EE' ios (tb EE') s) (hs : RdS EN ios ts s') : RdS EE ios (zrQ K cs i tb ts) (zmH mt i s s') := by
  intro σ H R Γ D er w
  unfold zmH at w
  refine hb _ σ H R Γ D er ?_
  cases h : s Γ with
  | st => rw [h] at w; exact w
  | ok fl Γ' => rw [h] at w; exact w
  | ex x Γ' =>
    rw [h] at w
    dsimp only at w
    split at w
    · rename_i c
      intro e σ1 H1 R1 p xr
      refine ⟨e, KC.cls x.C, rfl, rfl, hm _ c, ?_⟩
      obtain ⟨R2, p2, rp⟩ := caught p xr
      have p3 : SPo ios R H σ Γ R2 H1 (σ1.set i (some (.ref e))) (Γ'.set i (some (.frz, zgR x))) := p2.trans (SPo.set (s := (.frz, zgR x)) p2.er (EPo.refl p2.er) rp fun z => nomatch z)
      refine hs _ H1 R2 _ _ p3.er ?_
      cases h2 : s' (Γ'.set i (some (.frz, zgR x))) with
      | st => rw [h2] at w; exact w.elim
      | ex _ _ => rw [h2] at w; exact w.elim
      | ok fl Γ2 =>
        rw [h2] at w
        cases fl with
        | nx =>
          intro σ4 H4 R4 p4
          exact w (σ4.set i none) H4 R4 ((p3.trans p4).trans (SPo.unset p4.er))
        | brk => exact w.elim
        | cont => exact w.elim
        | ret _ => exact w.elim
    · exact w.elim
theorem zqz {i : Nat} {n : Str} {cs : List Value} {k1 p1 hpos} {b0 : Stmt} {suite : List Stmt} {mt : Cn -> Bool} (hN : X.N.Nodup) (hi : X.N[i]? = some n) (hl : X.env.scope.names.lookup n = some .local) (hes : PN X es cs) (hcs : cs.length <= 1000) (hm : ∀ C, mt C = true -> matchIn KC.K (KC.cls C) cs = some true)
    (hb : ∀ E' pn' EE', XOk (X.body E' pn') EE' -> VSs (X.body E' pn') EE' ios sts s) (hs : ∀ a, VSs (X.hand (.ref a) fun _ _ => False) EN ios (b0 :: suite) s') (hst : X.stack = X.env :: X.outer /\ X.env.frame = some X.env.locals := by exact ⟨rfl, rfl⟩) (hK : X.K = KC.K := by rfl) :
    VS X EE ios (.Try sts [.ExceptHandler (some (.Tuple es k1 p1)) (some n) (b0 :: suite) hpos] [] [] pos) (zmH mt i s s') :=
  ⟨_, zpT hst hN hi hl hes hcs (fun E' pn' EE' ok => (hb E' pn' EE' ok).pss) (fun a => (hs a).pss), zp7 (by rw [hK]; exact hm) (fun EE' σ H R Γ D er w => ⟨R, Γ, er, w⟩) fun σ H R Γ D er w => ⟨R, Γ, er, w⟩⟩
def sub (C T : Cn) : Bool := C == T || (T == .PointError && (match C with
  | .NoPoints | .NoBox | .NoAsks | .NoRun | .NoText | .NoTurn | .NoTree | .NoTop | .NotServed | .NoRow => true
  | _ => false))
def zi0 (L : List Cn) (T : Cn) : D -> Option RV
  | .scr _ => none
  | .obj _ _ _ => none
  | .ins C _ _ => if L.contains C then some (.val (.bl (sub C T))) else none
  | _ => some (.val (.bl false))
def zdK (L : List Cn) (T : Cn) (f : M RV) : M RV := M.bind (zg0 f) fun x => M.bind (peek x) fun d => M.ofO (zi0 L T d)
def tyNs : List String := ["NoneType", "bool", "int", "str", "list", "tuple", "dict"]
structure KitX (L : List Cn) (T : Cn) : Prop where
  own : ∀ C, L.contains C = true -> PySem.W.kitOne KC.K (.ref (KC.cls C)) (.ref (KC.cls T)) = some (sub C T) /\ XC KC.K (KC.cls C)
  no : ∀ t ∈ tyNs, PySem.W.kitOne KC.K (.type t) (.ref (KC.cls T)) = some false
theorem zpI {d : D} (h : plain d = true) : tyN d ∈ tyNs := by cases d <;> first | (cases h; done) | simp [tyN, tyNs]
theorem zbD {L : List Cn} {T : Cn} {e0 : Expr} (kit : KitX L T) (hp : ∀ t, PE X a t -> PE X e0 (tCB (fun xs H Q => ∃ x c t cv b, xs = [x, c] /\ zog c = some cv /\ TyX X.K H x t /\ PySem.W.kitOne X.K t cv = some b /\ Q (.bl b) H) (zhu t (zhu (tC (.ref (KC.cls T))) zoz)))) (ha : VE X EE ios a f) (hK : X.K = KC.K := by rfl) : VE X EE ios e0 (zdK L T f) := by
  obtain ⟨t, h1, h2⟩ := ha
  refine ⟨_, hp t h1, fun σ H R Γ Q er w => ?_⟩
  unfold zdK at w
  rw [zac] at w
  refine zjE h2 er (zah w (fun rx Γ1 w x H1 R1 p1 hx => ?_) fun _ _ z => z)
  rw [zac] at w
  obtain ⟨d, pd, w⟩ := zbS (H := H) p1.er hx.rv w
  have hv := pd.hv p1.er.sub
  obtain ⟨rv, hg, w⟩ := zca w
  by_cases pl : plain d = true
  · have hg : rv = .val (.bl false) := by cases d <;> first | (cases pl; done) | exact (Option.some.inj hg).symm
    subst hg
    exact ⟨x, .ref (KC.cls T), _, _, _, rfl, rfl, .inl (hv.ty pl), by rw [hK]; exact kit.no _ (zpI pl), w _ H1 R1 p1 (.bl _)⟩
  · cases d with
    | ins C ns vs =>
      unfold zi0 at hg
      dsimp only at hg
      split at hg
      · rename_i hc
        cases hg
        obtain ⟨k1, k2⟩ := kit.own C hc
        have ty : ∃ a, x = .ref a /\ ExAt H1 a (KC.cls C) := by
          cases hv with
          | exc0 q => exact ⟨_, rfl, false, .inl q⟩
          | exc q q' _ => exact ⟨_, rfl, false, .inr ⟨_, _, q, q'⟩⟩
        obtain ⟨a', rfl, ea⟩ := ty
        exact ⟨.ref a', .ref (KC.cls T), .ref (KC.cls C), _, _, rfl, rfl, .inr ⟨a', KC.cls C, rfl, rfl, ea, by rw [hK]; exact k2⟩, by rw [hK]; exact k1, w _ H1 R1 p1 (.bl _)⟩
      · cases hg
    | scr _ => cases hg
    | obj _ _ _ => cases hg
    | _ => exact absurd rfl pl
end
end Dv
end
section
namespace L2
open PySem PySem.Spec PyProof.Rows Ex
section
variable {X : Cx}
theorem zhW : CallR X (.type "range") (fun xs H Q => ∃ i j, xs = [.int i, .int j] /\ ∀ p, H p = none -> Q (.ref p) (upd H p (.rng i j))) := by
  intro pins s σ H xs us Q I r h
  obtain ⟨i, j, rfl, q⟩ := h
  cases r with
  | cons r1 r =>
    cases r with
    | cons r2 r =>
      cases r
      obtain ⟨t, rfl⟩ := r1
      obtain ⟨t', rfl⟩ := r2
      refine call_range_2 ?_
      exact ⟨.ref s.heap.objs.size, _, I.laid (o := .rng i j) (fun b ob q => Heap.get?_push_of_some _ q) (Nat.le_refl _) ⟨t, t', _, Heap.get?_push_size _ rfl⟩, rfl, q _ (I.hok.fresh (Nat.le_refl _))⟩
theorem call_rangeV1 : CallR X (.type "range") (fun xs H Q => ∃ j, xs = [.int j] /\ ∀ p, H p = none -> Q (.ref p) (upd H p (.rng 0 j))) := by
  intro pins s σ H xs us Q I r h
  obtain ⟨j, rfl, q⟩ := h
  obtain ⟨u, rfl, t, rfl⟩ := r.one
  refine call_range_1 ?_
  exact ⟨.ref s.heap.objs.size, _, I.laid (o := .rng 0 j) (fun b ob q => Heap.get?_push_of_some _ q) (Nat.le_refl _) ⟨_, t, _, Heap.get?_push_size _ rfl⟩, rfl, q _ (I.hok.fresh (Nat.le_refl _))⟩
def ups (lo : Int) (n : Nat) : List V := (List.range n).map fun (i : Nat) => V.int (lo + i)
theorem Vals.of_get : ∀ {xs : List V} {us : List Value}, xs.length = us.length -> (∀ (i : Nat) (x : V) (u : Value), xs[i]? = some x -> us[i]? = some u -> RelV x u) -> Vals xs us
  | [], [], _, _ => .nil
  |  [], _ :: _, h, _ => by cases h
  |  _ :: _, [], h, _ => by cases h
  | x :: xs, u :: us, h, k => .cons (k 0 x u rfl rfl) (Vals.of_get (by simpa using h) fun i y w e1 e2 => k (i + 1) y w (by simpa using e1) (by simpa using e2))
theorem zl9 {lo : Int} {n : Nat} {acc : Array Value} (h : ItemsOf (fun i v => ∃ t, v = .int (lo + i * 1) t) acc n) : Vals (ups lo n) acc.toList := by
  obtain ⟨h1, h2⟩ := h
  refine Vals.of_get (by simp [ups, h1]) fun i x u hx hu => ?_
  obtain ⟨t, rfl⟩ := h2 i u (by simpa using hu)
  unfold ups at hx
  rw [List.getElem?_map] at hx
  cases q : (List.range n)[i]? with
  | none => rw [q] at hx; cases hx
  | some k =>
    rw [q] at hx
    cases hx
    obtain ⟨q1, q2⟩ := List.getElem?_eq_some_iff.mp q
    rw [List.getElem_range] at q2
    subst q2
    exact ⟨t, by simp⟩
theorem zjr (calm : X.calm = true) : CallR X (.type "list") (fun xs H Q => ∃ p lo hi, xs = [.ref p] /\ H p = some (.rng lo hi) /\ Builtin.Range.small lo hi 1 = true /\ (hi - lo).toNat <= 1000 /\ ∀ l, H l = none -> Q (.ref l) (upd H l (.lst (ups lo (hi - lo).toNat)))) := by
  intro pins s σ H xs us Q I r h
  obtain ⟨p, lo, hi, rfl, hp, hs, hn, q⟩ := h
  obtain ⟨u, rfl, ru⟩ := r.one
  cases ru
  obtain ⟨t, t', t2, e⟩ := I.hok p _ hp
  have rs : Builtin.Range.rangeSize lo hi 1 = ((hi - lo).toNat : Int) := by rw [rangeSize_one]; split <;> omega
  refine call_list_range (I.ok.hd calm) e hs rs (by omega) fun h' tk acc c' kp he hI => ?_
  have z : (1000 : Nat) <= sizeLine := by decide
  refine ⟨.ref s.heap.objs.size, _, I.laid (t' := tk) (o := .lst (ups lo (hi - lo).toNat)) kp (Nat.le_refl _) ⟨by simp [ups]; omega, acc.toList, c', zl9 hI, he⟩, rfl, q _ (I.hok.fresh (Nat.le_refl _))⟩
end
end L2
namespace Dv
open PySem L2 Ex
variable [KC]
section
variable {X : Cx} {EE : XKS} {ios : List Addr} {e a b c : Expr} {es : List Expr} {f g : M RV} {fs : M (List RV)} {p : M Bool} {pos p0 p1 p2 pos' : Pos}
noncomputable def zgV (fs : M (List RV)) : M RV := M.bind fs fun rvs => match rvs with
  | [.val (.int j)] => if cd (Builtin.Range.small 0 j 1 = true /\ (j - 0).toNat <= 1000) then M.pure (.new (.lst (upI 0 (j - 0).toNat))) else M.st
  | [.val (.int i), .val (.int j)] => if cd (Builtin.Range.small i j 1 = true /\ (j - i).toNat <= 1000) then M.pure (.new (.lst (upI i (j - i).toNat))) else M.st
  | _ => M.st
theorem zn4 {R : Hp} (lo : Int) : ∀ n : Nat, Rps R (ups lo n) (upI lo n) := by
  intro n
  unfold ups upI
  induction List.range n with
  | nil => exact .nil
  | cons k r ih => exact .cons (.int _) ih
def zsa (xs : List V) (H : Hp) (Q : VK) : Prop := (∃ j, xs = [.int j] /\ ∀ p, H p = none -> Q (.ref p) (upd H p (.rng 0 j))) \/ ∃ i j, xs = [.int i, .int j] /\ ∀ p, H p = none -> Q (.ref p) (upd H p (.rng i j))
theorem zkG (hl : X.mg "list" = none) (hg : Gl X "list") (hr : X.mg "range" = none) (hg' : Gl X "range") (hc : X.calm = true) (ha : VA X EE ios (e :: es) fs) (hs : starEach [.Call (.Name "range" p1) (e :: es) [] p2] X.env = [(false, eval (.Call (.Name "range" p1) (e :: es) [] p2) X.env)] := by rfl)
    (he : starEach (e :: es) X.env = (false, eval e X.env) :: starEach es X.env := by rfl) (hpl : (backTo p2 (starEach es X.env)).any (·.1) = false := by rfl) : VE X EE ios (.Call (.Name "list" p0) [.Call (.Name "range" p1) (e :: es) [] p2] [] pos) (zgV fs) := by
  obtain ⟨t, h1, h2⟩ := ha
  have cr : CallR X (.type "range") zsa := call_rangeV1.or zhW
  refine ⟨_, zcT (zjr hc) hg hl (by decide +kernel) (zap (zcT cr hg' hr (by decide +kernel) h1 (he := he) (hpl := hpl)) zbh (hs := hs)) (he := hs) (hpl := rfl), fun σ H R Γ Q er w => ?_⟩
  unfold zgV at w
  rw [zac] at w
  refine h2 σ H R Γ _ er (zah w (fun rvs Γ1 w xs H1 R1 p1 hx => ?_) fun _ _ z => z)
  have fin : ∀ (p : Addr) (i j : Int), H1 p = none -> Builtin.Range.small i j 1 = true /\ (j - i).toNat <= 1000 -> wpM (M.pure (RV.new (.lst (upI i (j - i).toNat))) Γ1) (fun rv Γ' => ∀ x H' R', EPo ios R H σ Γ R' H' Γ' -> RvR R' H H' σ x rv -> Q x H') (EXP EE ios R H σ Γ) ->
      (fun xs H Q => ∃ p lo hi, xs = [V.ref p] /\ H p = some (HO.rng lo hi) /\ Builtin.Range.small lo hi 1 = true /\ (hi - lo).toNat <= 1000 /\ ∀ l, H l = none -> Q (.ref l) (upd H l (.lst (ups lo (hi - lo).toNat)))) [.ref p] (upd H1 p (.rng i j)) Q := fun p i j hp c w => by
    refine ⟨p, i, j, rfl, za3, c.1, c.2, fun l hl => ?_⟩
    have al0 : Al R1 H1 R1 (upd H1 p (.rng i j)) := zmk p1.er.sub hp
    obtain ⟨al, rv⟩ := zcJ al0.sub hl (zn4 (R := R1) i (j - i).toNat)
    exact w _ _ _ ((p1.al al0).al al) (rv.rv ((p1.al al0).back er))
  split at w
  · split at w
    · rename_i c
      cases hx with
      | cons r1 hx =>
        cases hx
        cases r1
        exact .inl ⟨_, rfl, fun p hp => fin p 0 _ hp (zeC c) w⟩
    · exact False.elim w
  · split at w
    · rename_i c
      cases hx with
      | cons r1 hx =>
        cases hx with
        | cons r2 hx =>
          cases hx
          cases r1
          cases r2
          exact .inr ⟨_, _, rfl, fun p hp => fin p _ _ hp (zeC c) w⟩
    · exact False.elim w
  · exact False.elim w
noncomputable def zm6 (d : D) (lo hi : Option Int) : Option RV := match d with
  | .tup xs => if cd (HT.sIx xs.length 0 lo = 0 /\ HT.sIx xs.length xs.length hi = xs.length) then none else some (.val (.tup (zcQ xs lo hi)))
  | d => zdb d lo hi
theorem znT {lo hi : Option Expr} {l u : M (Option Int)} {p2 : Pos} (ha : VE X EE ios a f) (hl : VO X EE ios lo l) (hu : VO X EE ios hi u) (hK : X.K = KC.K := by rfl) : VE X EE ios (.Subscript a (.Slice lo hi none p2) pos) (zcj zm6 f l u) := by
  obtain ⟨t1, h1, h2⟩ := ha
  obtain ⟨t2, h3, h4⟩ := hl
  obtain ⟨t3, h5, h6⟩ := hu
  refine ⟨_, zi7 (sl_list.or zpQ) h1 h3 h5, fun σ H R Γ Q er w => ?_⟩
  unfold zcj at w
  rw [zac] at w
  refine h2 σ H R Γ _ er (zah w (fun rx Γ1 w x H1 R1 p1 hx => ?_) fun _ _ z => z)
  rw [zac] at w
  refine h4 σ H1 R1 Γ1 _ p1.er (zah w (fun l Γ2 w H2 R2 p2 => ?_) fun _ _ z => EXP.trans p1 z)
  rw [zac] at w
  have p12 := p1.trans p2
  refine h6 σ H2 R2 Γ2 _ p2.er (zah w (fun u Γ3 w H3 R3 p3 => ?_) fun _ _ z => EXP.trans p12 z)
  have p13 := p12.trans p3
  rw [zac] at w
  obtain ⟨d, pd, w⟩ := zbS p3.er (hx.go er p1 (p2.trans p3).go) w
  obtain ⟨rv, hg, w⟩ := zca w
  unfold zm6 at hg
  split at hg
  · rename_i ds
    split at hg
    · cases hg
    · rename_i c
      cases hg
      obtain ⟨a, xs, rfl, h1, h2⟩ := pd.tup
      refine .inr ⟨a, xs, rfl, SqT.of (p3.er.sub _ _ h1), fun z => c (zda (by rw [<- h2.len]; exact z)), fun p hp => ?_⟩
      obtain ⟨al, rv⟩ := zgA p3.er.sub hp (h2.cut l u)
      exact w _ _ _ (p13.al al) (rv.rv (p13.back er))
  · unfold zdb at hg
    split at hg
    · cases hg
      obtain ⟨a, xs, rfl, h1, h2⟩ := pd.lst p3.er.sub
      refine .inl ⟨a, xs, rfl, SqL.of h1, fun p hp => ?_⟩
      obtain ⟨al, rv⟩ := zcJ p3.er.sub hp (h2.cut l u)
      exact w _ _ _ (p13.al al) (rv.rv (p13.back er))
    · cases hg
      rcases pd with pd | ⟨_, _, _, _, _, z, _⟩
      · cases pd with
        | scr h1 =>
          refine .inl ⟨_, _, rfl, by rw [hK]; exact p3.er.sub.seq h1, fun p hp => ?_⟩
          rw [show zhc = zcQ from rfl, <- zkQ]
          obtain ⟨al, rv⟩ := zcJ p3.er.sub hp (Rps.ints (R := R3) _)
          exact w _ _ _ (p13.al al) (rv.rv (p13.back er))
      · cases z
    · cases hg
def zm3 (d e : D) : Option RV := match d, e with
  | .tup (x :: xs), .tup (y :: ys) => if xs.length + ys.length + 2 <= sizeLine then some (.val (.tup (x :: xs ++ y :: ys))) else none
  | d, e => zbb d e
def zoW (K : PySem.W.Frag) : R2 := fun x y H Q => znj x y H Q \/ zpc K x y H Q
theorem zoq : OpR X (binaryOp .Add) (zoW X.K) := op_add3.or znX
theorem znG {K : PySem.W.Frag} : OpV (zoW K) zm3 := by
  intro R H x y d e rv Q s px py hg q
  unfold zm3 at hg
  split at hg
  · split at hg
    · rename_i c
      cases hg
      obtain ⟨a, xs, rfl, h1, h2⟩ := px.tup
      obtain ⟨b, ys, rfl, h3, h4⟩ := py.tup
      refine .inr ⟨a, b, xs, ys, rfl, rfl, SqT.of (s _ _ h1), SqT.of (s _ _ h3), fun z => ?_, by rw [h2.len, h4.len]; simp; omega, fun z => ?_, fun _ p hp => ?_⟩
      · subst z; cases h2
      · subst z; cases h4
      · obtain ⟨al, rv⟩ := zgA s hp (h2.app h4)
        exact q _ _ _ al rv
    · cases hg
  · exact .inl (zaO R H x y d e rv Q s px py hg q)
def zmU (r : V -> List V -> Hp -> VK -> Prop) (g : List D -> List D -> Option D) : Prop := ∀ R H p xs ds ys es res (Q : VK), Same R H -> H p = some (.lst xs) -> Rps R xs ds -> Rps R ys es -> g ds es = some res -> (∀ z, Rp R z res -> Q z H) -> r (.ref p) ys H Q
def zjX (i : Nat) : M Unit := fun Γ => match Γ[i]? with
  | some (some (_, .lst _)) => .ok () Γ
  | _ => .st
def zhN (i : Nat) (g : List D -> List D -> Option D) (es : List D) : M RV := fun Γ => match Γ[i]? with
  | some (some (_, .lst ds)) => match g ds es with
    | some r => .ok (.val r) Γ
    | none => .st
  | _ => .st
def zlu (i : Nat) (g : List D -> List D -> Option D) (fs : M (List RV)) : M RV := M.bind (zjX i) fun _ => M.bind fs fun rvs => M.bind (za8 rvs) fun es => zhN i g es
theorem ziL {R H : Hp} {σ : St} {Γ : En} {i : Nat} {kd : Kd} {ds : List D} (er : ER ios R H σ Γ) (q : Γ[i]? = some (some (kd, .lst ds))) : ∃ a xs, σ[i]? = some (some (.ref a)) /\ H a = some (.lst xs) /\ Rps R xs ds := by
  obtain ⟨v, hv, s⟩ := er.sl i _ q
  obtain ⟨a, xs, rfl, h1, h2⟩ := s.pk.lst er.sub
  exact ⟨a, xs, hv, h1, h2⟩
theorem zhO {i : Nat} {r : V -> List V -> Hp -> VK -> Prop} {g : List D -> List D -> Option D} {e0 : Expr} (hp : ∀ t, PA X es t -> PE X e0 (tBM X.K "list" r (zlA i) t)) (hv : zmU r g) (ha : VA X EE ios es fs) : VE X EE ios e0 (zlu i g fs) := by
  obtain ⟨t, h1, h2⟩ := ha
  refine ⟨_, hp t h1, fun σ H R Γ Q er w => ?_⟩
  unfold zlu at w
  rw [zac] at w
  unfold zjX at w
  split at w
  · rename_i kd ds0 q0
    obtain ⟨a, xs0, hσ, ha0, _⟩ := ziL er q0
    refine ⟨_, hσ, zj4 ha0, ?_⟩
    have w := zjI w
    rw [zac] at w
    refine h2 σ H R Γ _ er (zah w (fun rvs Γ1 w ys H1 R1 p1 hx => ?_) fun _ _ z => z)
    rw [zac] at w
    obtain ⟨es', Γ2, R2, p2, s2, r2, w⟩ := zbE er p1 hx w
    unfold zhN at w
    split at w
    · rename_i kd' ds q
      split at w
      · rename_i res hg
        obtain ⟨a', xs, hσ', h3, h4⟩ := ziL p2.er q
        rw [hσ] at hσ'
        cases hσ'
        exact hv R2 H1 a xs ds ys es' res Q p2.er.sub h3 h4 r2 hg fun z rz => w z H1 R2 p2 rz
      · exact False.elim w
    · exact False.elim w
  · exact False.elim w
def zgq (ds es : List D) : Option D := match es with
  | [e] => if zcF e && ds.all zcF then some (.int (ds.countP fun z => eqF z e)) else none
  | _ => none
theorem zgt {R : Hp} : ∀ {xs : List V} {ds : List D}, Rps R xs ds -> xs.all zcy = ds.all zcF
  | _, _, .nil => rfl
  | _, _, .cons a b => by rw [List.all_cons, List.all_cons, a.flat, zgt b]
theorem zhm {R : Hp} {y : V} {e : D} (r : Rp R y e) : ∀ {xs : List V} {ds : List D}, Rps R xs ds -> (xs.countP fun z => eqV z y) = ds.countP fun z => eqF z e
  | _, _, .nil => rfl
  | _, _, .cons a b => by rw [List.countP_cons, List.countP_cons, zhm r b, a.eqf r]
theorem zjU : zmU znH zgq := by
  intro R H p xs ds ys es res Q s hp hx hy hg q
  unfold zgq at hg
  split at hg
  · split at hg
    · rename_i c
      cases hg
      rw [Bool.and_eq_true] at c
      cases hy with
      | cons r hy =>
        cases hy
        refine ⟨p, xs, _, rfl, rfl, hp, by rw [r.flat]; exact c.1, by rw [zgt hx]; exact c.2, ?_⟩
        rw [zhm r hx]
        exact q _ (.int _)
    · cases hg
  · cases hg
def zfM (ds es : List D) : Option D := match es with
  | [e] => if zcF e && ds.all zcF && decide (ds.length <= 1000) then (ds.findIdx? fun z => eqF z e).map fun j => .int j else none
  | _ => none
theorem zgp : zmU zmu zfM := by
  intro R H p xs ds ys es res Q s hp hx hy hg q
  unfold zfM at hg
  split at hg
  · rename_i e
    split at hg
    · rename_i c
      simp only [Bool.and_eq_true, decide_eq_true_eq] at c
      cases h : ds.findIdx? fun z => eqF z e with
      | none => rw [h] at hg; cases hg
      | some j =>
        rw [h] at hg
        cases hg
        cases hy with
        | cons r hy =>
          cases hy
          obtain ⟨hj, h1, h2⟩ := List.findIdx?_eq_some_iff_getElem.mp h
          have lt : j < xs.length := by rw [hx.len]; exact hj
          have eqa : ∀ (m : Nat) (hm : m < xs.length) (hm' : m < ds.length), eqV xs[m] _ = eqF ds[m] e := fun m hm hm' => by
            obtain ⟨d, e1, e2⟩ := hx.at (List.getElem?_eq_getElem hm)
            rw [List.getElem?_eq_getElem hm'] at e1
            cases e1
            exact e2.eqf r
          refine ⟨p, xs, _, j, rfl, rfl, hp, by rw [r.flat]; exact c.1.1, by rw [zgt hx]; exact c.1.2, ⟨xs[j], List.getElem?_eq_getElem lt, by rw [eqa j lt hj]; exact h1⟩, fun m w hm hw => ?_, by omega, q _ (.int _)⟩
          have lm : m < xs.length := by omega
          rw [List.getElem?_eq_getElem lm] at hw
          cases hw
          rw [eqa m lm (by omega)]
          simpa using h2 m hm
    · cases hg
  · cases hg
def znW (L : List Cn) (y : Str) (f : M RV) : M RV := M.bind f fun x => M.bind (mat x) fun d => match d with
  | .ins C ns vs => if L.contains C then M.ofO (((ns.zip vs).lookup y).map .val) else M.st
  | _ => M.st
theorem zjm {R : Hp} {y : Str} : ∀ {fs : List (Str × V)} {vs : List D} {d : D}, Rps R (fs.map (·.2)) vs -> ((fs.map (·.1)).zip vs).lookup y = some d -> ∃ v, fs.lookup y = some v /\ Rp R v d
  | [], _, _, h, e => by cases h; cases e
  | (n, v) :: r, _, d, h, e => by
    cases h with
    | cons a b =>
      rw [List.map_cons, List.zip_cons_cons, List.lookup_cons] at e
      rw [List.lookup_cons]
      cases q : y == n with
      | true =>
        rw [q] at e
        simp only at e
        cases e
        exact ⟨v, rfl, a⟩
      | false =>
        rw [q] at e
        exact zjm b e
theorem zoQ {L : List Cn} {y : Str} (hA : ∀ C, L.contains C = true -> XC KC.K (KC.cls C) /\ zfz KC.K (KC.cls C) y) (ha : VE X EE ios e f) (hb : attributeBase e y X.env (eval e X.env) = eval e X.env) (hK : X.K = KC.K := by rfl) : VE X EE ios (.Attribute e y pos) (znW L y f) := by
  obtain ⟨t, h1, h2⟩ := ha
  refine ⟨_, znZ h1 hb, fun σ H R Γ Q er w => ?_⟩
  unfold znW at w
  rw [zac] at w
  refine h2 σ H R Γ _ er (zah w (fun rx Γ1 w x H1 R1 p1 hx => ?_) fun _ _ z => z)
  rw [zac] at w
  obtain ⟨d, Γ2, R2, p2, s2, r2, w⟩ := zec er p1 hx w
  cases d with
  | ins C ns vs =>
    dsimp only at w
    split at w
    · rename_i hc
      obtain ⟨rv, hg, w'⟩ := zca w
      obtain ⟨d, hd, rfl⟩ := Option.map_eq_some_iff.mp hg
      obtain ⟨k1, k2⟩ := hA C hc
      clear w
      cases r2 with
      | exc0 q => cases hd
      | exc q q' hv =>
        obtain ⟨v, l1, l2⟩ := zjm hv hd
        exact ⟨_, _, _, _, _, v, rfl, p2.er.sub _ _ q, p2.er.sub _ _ q', by rw [hK]; exact k1, by rw [hK]; exact k2, l1, w' v H1 R2 p2 l2⟩
    · exact False.elim w
  | _ => exact False.elim w
end
end Dv
end
section
namespace Dv
open PySem L2 Ex
section
variable {Γ Γ' : En} {f g : M RV} {fs : M (List RV)} {p : M Bool} {s s' : M Fl} {d : D} {i : Nat} {x : Xc} {C T : Cn} {L : List Cn} {y : Str}
@[simp] theorem r_thr {α : Type} : (M.thr x : M α) Γ = .ex x Γ := (rfl)
@[simp] theorem r_callX {G : List D -> Option Rx} : zcK G fs Γ = M.bind fs (fun rvs => M.bind (za1 rvs) fun ds => match G ds with
  | some (.ok r) => if rvs.any zc6 && !zdr r then M.bind (za8 rvs) fun ds' => match G ds' with
      | some (.ok r) => M.pure r.rv
      | _ => M.st
    else M.pure r.rv
  | some (.ex x) => M.bind (za8 rvs) fun ds' => match G ds' with
      | some (.ex x) => M.thr x
      | _ => M.st
  | none => M.st) Γ := (rfl)
@[simp] theorem r_raise0 : zff C fs Γ = M.bind fs (fun rvs => if rvs.length <= 1000 then M.thr ⟨C, []⟩ else M.st) Γ := (rfl)
@[simp] theorem r_raise {ns : List Str} : zcI C ns fs Γ = M.bind fs (fun rvs => M.bind (za8 rvs) fun ds => if ds.length = ns.length /\ ds.length <= 1000 then M.thr ⟨C, ns.zip ds⟩ else M.st) Γ := (rfl)
@[simp] theorem r_try {mt : Cn -> Bool} : zmH mt i s s' Γ = match s Γ with
  | .ok fl Γ' => .ok fl Γ'
  | .ex x Γ' => if mt x.C then match s' (Γ'.set i (some (.frz, zgR x))) with
      | .ok .nx Γ'' => .ok .nx (Γ''.set i none)
      | _ => .st
    else .st
  | .st => .st := (rfl)
@[simp] theorem r_isiX : zdK L T f Γ = M.bind (zg0 f) (fun x => M.bind (peek x) fun d => M.ofO (zi0 L T d)) Γ := (rfl)
@[simp] theorem r_fldX : znW L y f Γ = M.bind f (fun x => M.bind (mat x) fun d => match d with
  | .ins C ns vs => if L.contains C then M.ofO (((ns.zip vs).lookup y).map .val) else M.st
  | _ => M.st) Γ := (rfl)
@[simp] theorem r_metR {m : List D -> List D -> Option D} : zlu i m fs Γ = M.bind (zjX i) (fun _ => M.bind fs fun rvs => M.bind (za8 rvs) fun es => zhN i m es) Γ := (rfl)
@[simp] theorem r_recvR : zjX i Γ = match Γ[i]? with
  | some (some (_, .lst _)) => .ok () Γ
  | _ => .st := (rfl)
@[simp] theorem r_metRGo {m : List D -> List D -> Option D} {es : List D} : zhN i m es Γ = match Γ[i]? with
  | some (some (_, .lst ds)) => (match m ds es with
    | some r => .ok (.val r) Γ
    | none => .st)
  | _ => .st := (rfl)
@[simp] theorem f_ex : zlw (.ex x Γ) = some (.ex x) := (rfl)
@[simp] theorem f_ok {fl : Fl} : zlw (.ok fl Γ) = (zaL (.ok fl Γ)).map .ok := (rfl)
end
end Dv
end
section
namespace K20
open PySem L2 Ex Dv
def zfB : Nat := 100000
def exL : List Cn := [.NoPoints, .NoBox, .NoAsks, .NoRun, .NoText, .NoTurn, .NoTree, .NoTop, .NotServed, .NoRow, .NoPoint, .NoName, .NoKey, .NoBack, .TooMany]
def za4 : Cn -> Bool := fun C => ([.NoPoints, .NoBox, .NoAsks, .NoRun, .NoText, .NoTurn, .NoTree, .NoTop, .NotServed, .NoRow, .NoPoint, .TooMany] : List Cn).contains C
noncomputable def zcO  : M Fl :=
  (zak (ifM (M.bind (op2 gtO (op2 zaJ (zaa 0) (M.pure (.val (.int 0)))) (M.pure (.val (.int 0)))) asB)
  (zak (zaM 2 (op2 zhQ (op2 zaJ (zaa 0) (M.pure (.val (.int 0)))) (zaa 1)))
  (zak (zfs (gS 0 (M.pure (.val (.int 0)))) (op2 zkK (op2 zaJ (zaa 0) (M.pure (.val (.int 0)))) (zaa 1)))
  (zaP (zaa 2))))
  (M.pure .nx))
  (zak (zfs (gS 0 (M.pure (.val (.int 1)))) (op2 zhQ (op2 zbb (op2 zg8 (op2 zaJ (zaa 0) (M.pure (.val (.int 1)))) (M.pure (.val (.int 48271)))) (M.pure (.val (.int 11)))) (M.pure (.val (.int 2147483647)))))
  (zaP (op2 zhQ (op2 zkK (op2 zhQ (op2 zg8 (op2 zaJ (zaa 0) (M.pure (.val (.int 1)))) (op2 zaJ (zaa 0) (M.pure (.val (.int 1))))) (M.pure (.val (.int 2147483629)))) (M.pure (.val (.int 64)))) (zaa 1)))))
noncomputable def zcS (zae : GI) (zam : GI) : M Fl :=
  (zak (ifM (M.bind (op2 zbC (zaa 1) (lstM (M.pure []))) asB)
  (zaP (M.pure (.val .non)))
  (M.pure .nx))
  (zak (zaM 2 (zba zae (Zj (zaa 0) (Zj (zaV zbZ (Zj (zaa 1) (M.pure []))) (M.pure [])))))
  (zaP (zbp (Zj (op2 zaJ (zaa 1) (zaa 2)) (Zj (zba zam (Zj (zaa 0) (Zj (zcj zdb (zaa 1) (M.pure none) (M.bind (zaa 2) asI)) (M.pure [])))) (Zj (zba zam (Zj (zaa 0) (Zj (zcj zdb (zaa 1) (M.bind (op2 zbb (zaa 2) (M.pure (.val (.int 1)))) asI) (M.pure none)) (M.pure [])))) (M.pure []))))))))
noncomputable def zcM (zae : GI) (zam : GI) : M Fl :=
  (zak (zfs (gT 2 (gsC (gN 3) (gsC (gN 4) gs0))) (zaa 1))
  (zak (zaM 5 (zba zae (Zj (zaa 0) (Zj (zaV zbZ (Zj (zaa 4) (M.pure []))) (M.pure [])))))
  (zak (zaM 6 (zba zae (Zj (zaa 0) (Zj (M.pure (.val (.int 8))) (M.pure [])))))
  (zak (ifM (M.bind (op2 zbC (zaa 6) (M.pure (.val (.int 0)))) asB)
  (zaP (zbp (Zj (zaa 3) (Zj (op2 zbb (zaa 4) (lstM (Zj (op2 zaJ (zaa 4) (zaa 5)) (M.pure [])))) (M.pure [])))))
  (M.pure .nx))
  (zak (ifM (M.bind (op2 zbC (zaa 6) (M.pure (.val (.int 1)))) asB)
  (zaP (zbp (Zj (zaa 3) (Zj (op2 zbb (zcj zdb (zaa 4) (M.pure none) (M.bind (zaa 5) asI)) (zcj zdb (zaa 4) (M.bind (op2 zbb (zaa 5) (M.pure (.val (.int 1)))) asI) (M.pure none))) (M.pure [])))))
  (M.pure .nx))
  (zak (ifM (M.bind (op2 zbC (zaa 6) (M.pure (.val (.int 2)))) asB)
  (zaP (zbp (Zj (zba zam (Zj (zaa 0) (Zj (zaa 2) (M.pure [])))) (Zj (zaV zeZ (Zj (zaa 4) (M.pure []))) (M.pure [])))))
  (M.pure .nx))
  (zak (ifM (M.bind (op2 zbC (zaa 6) (M.pure (.val (.int 3)))) asB)
  (zaP (zbp (Zj (zaa 3) (Zj (op2 zbb (zcj zdb (zaa 4) (M.pure none) (M.bind (zaa 5) asI)) (zcj (zfR (-1)) (zcj zdb (zaa 4) (M.bind (zaa 5) asI) (M.pure none)) (M.pure none) (M.pure none))) (M.pure [])))))
  (M.pure .nx))
  (zak (zaM 7 (lstM (Zj (M.pure (.val .non)) (Zj (op2 zaJ (zaa 4) (zba zae (Zj (zaa 0) (Zj (zaV zbZ (Zj (zaa 4) (M.pure []))) (M.pure []))))) (Zj (zbp (Zj (op2 zaJ (zaa 2) (op1 zdO (M.pure (.val (.int 1))))) (Zj (M.pure (.val .non)) (Zj (M.pure (.val .non)) (M.pure []))))) (Zj (zba zam (Zj (zaa 0) (Zj (zaa 2) (M.pure [])))) (Zj (M.pure (.val (.str "top"))) (M.pure []))))))))
  (zak (zaM 7 (op2 zbb (zaa 7) (lstM (Zj (zbp (Zj (M.pure (.val (.bl true))) (Zj (M.pure (.val .non)) (Zj (M.pure (.val .non)) (M.pure []))))) (Zj (zbp (Zj (op2 zaJ (zaa 2) (M.pure (.val (.int 0)))) (Zj (M.pure (.val .non)) (Zj (M.pure (.val .non)) (M.pure []))))) (M.pure []))))))
  (zaP (zbp (Zj (zaa 3) (Zj (op2 zbb (op2 zbb (zcj zdb (zaa 4) (M.pure none) (M.bind (zaa 5) asI)) (lstM (Zj (op2 zaJ (zaa 7) (zba zae (Zj (zaa 0) (Zj (M.pure (.val (.int 7))) (M.pure []))))) (M.pure [])))) (zcj zdb (zaa 4) (M.bind (op2 zbb (zaa 5) (M.pure (.val (.int 1)))) asI) (M.pure none))) (M.pure []))))))))))))))
noncomputable def zbP (zaf : List D -> Option Rt) : M Fl :=
  (zak (ifM (M.bind (op2 isO (zaa 0) (M.pure (.val .non))) asB)
  (zaP (lstM (M.pure [])))
  (M.pure .nx))
  (zaP (op2 zbb (op2 zbb (lstM (Zj (op2 zaJ (zaa 0) (M.pure (.val (.int 0)))) (M.pure []))) (zar zaf (Zj (op2 zaJ (zaa 0) (M.pure (.val (.int 1)))) (M.pure [])))) (zar zaf (Zj (op2 zaJ (zaa 0) (M.pure (.val (.int 2)))) (M.pure []))))))
noncomputable def zdR  : M Fl :=
  (zak (zaM 2 (lstM (M.pure [])))
  (zak (zb1 (andM (M.bind (op2 ziP (zaa 0) (M.pure (.val .non))) asB) (orM (M.bind (op2 zbC (zaa 2) (lstM (M.pure []))) asB) (M.bind (op2 zbk (op2 zaJ (zaa 2) (op1 zdO (M.pure (.val (.int 1))))) (zaa 1)) asB)))
  (zak (zd8 (zjB 2 zdg (Zj (op2 zaJ (zaa 0) (M.pure (.val (.int 0)))) (M.pure []))))
  (zaM 0 (op2 zaJ (lstM (Zj (op2 zaJ (zaa 0) (M.pure (.val (.int 2)))) (Zj (op2 zaJ (zaa 0) (M.pure (.val (.int 1)))) (M.pure [])))) (zaV zhy (Zj (op2 ltO (zaa 1) (op2 zaJ (zaa 0) (M.pure (.val (.int 0))))) (M.pure [])))))) zfB)
  (zaP (zaa 2))))
noncomputable def zdv (zaf : List D -> Option Rt) (zaK : List D -> Option Rt) : M Fl :=
  (zak (zaM 3 (zar zaf (Zj (zaa 1) (M.pure []))))
  (zak (ifM (orM (M.bind (op2 zbC (zaa 3) (lstM (M.pure []))) asB) (M.bind (op2 (inO true) (zaa 2) (zaa 3)) asB))
  (zaP (M.pure (.val (.bl false))))
  (M.pure .nx))
  (zak (forM (zey (zaa 3)) (gN 4)
  (zak (zaM 5 (zar zaK (Zj (zaa 0) (Zj (zaa 4) (M.pure [])))))
  (ifM (orM (M.bind (op2 zbC (zaa 5) (lstM (M.pure []))) asB) (orM (M.bind (op2 zbk (op2 zaJ (zaa 5) (op1 zdO (M.pure (.val (.int 1))))) (zaa 4)) asB) (M.bind (op2 zbk (zds (zey (zaa 5)) [3] 1 (gN 0) (M.bind (op2 (inO true) (zaa 0) (zaa 1)) asB) (zaa 0)) (lstM (M.pure []))) asB)))
  (zaP (M.pure (.val (.bl false))))
  (M.pure .nx))))
  (zaP (M.pure (.val (.bl true)))))))
noncomputable def zcE (zaR : List D -> Option Rt) : M Fl :=
  (zak (ifM (M.bind (op2 isO (zaa 0) (M.pure (.val .non))) asB)
  (zaP (zbp (Zj (zaa 1) (Zj (M.pure (.val .non)) (Zj (M.pure (.val .non)) (M.pure []))))))
  (M.pure .nx))
  (zak (ifM (M.bind (op2 ltO (zaa 1) (op2 zaJ (zaa 0) (M.pure (.val (.int 0))))) asB)
  (zaP (zbp (Zj (op2 zaJ (zaa 0) (M.pure (.val (.int 0)))) (Zj (zar zaR (Zj (op2 zaJ (zaa 0) (M.pure (.val (.int 1)))) (Zj (zaa 1) (M.pure [])))) (Zj (op2 zaJ (zaa 0) (M.pure (.val (.int 2)))) (M.pure []))))))
  (M.pure .nx))
  (zaP (zbp (Zj (op2 zaJ (zaa 0) (M.pure (.val (.int 0)))) (Zj (op2 zaJ (zaa 0) (M.pure (.val (.int 1)))) (Zj (zar zaR (Zj (op2 zaJ (zaa 0) (M.pure (.val (.int 2)))) (Zj (zaa 1) (M.pure [])))) (M.pure []))))))))
noncomputable def zc2 (zaf : List D -> Option Rt) (zaR : List D -> Option Rt) : M Fl :=
  (zak (zaM 2 (zar zaf (Zj (zaa 1) (M.pure []))))
  (zak (zaM 3 (zaa 1))
  (zak (forM (zey (zar zaf (Zj (zaa 0) (M.pure [])))) (gN 4)
  (ifM (M.bind (op2 (inO true) (zaa 4) (zaa 2)) asB)
  (zaM 3 (zar zaR (Zj (zaa 3) (Zj (zaa 4) (M.pure [])))))
  (M.pure .nx)))
  (zaP (zaa 3)))))
noncomputable def zef (zaf : List D -> Option Rt) (zbm : List D -> Option Rt) (zax : List D -> Option Rt) : M Fl :=
  (zak (zaM 2 (op2 zaJ (zaa 1) (M.pure (.val (.int 0)))))
  (zak (ifM (M.bind (op2 zbk (zaV zbZ (Zj (op2 zaJ (zaa 1) (M.pure (.val (.int 1)))) (M.pure []))) (zaV zbZ (Zj (zaa 0) (M.pure [])))) asB)
  (zaP (lstM (Zj (M.pure (.val (.str "run"))) (Zj (M.pure (.val .non)) (M.pure [])))))
  (M.pure .nx))
  (zak (forM (zg7 (Zj (op2 zaJ (zaa 1) (M.pure (.val (.int 1)))) (M.pure []))) (gT 2 (gsC (gN 3) (gsC (gN 4) gs0)))
  (zak (ifM (orM (ngM (M.bind (zd6 .tuple (zaa 4)) asB)) (M.bind (op2 (inO false) (M.pure (.val (.bl true))) (zds (zey (zar zaf (Zj (zaa 4) (M.pure [])))) [] 1 (gN 0) (M.pure true) (zd6 .bool (zaa 0)))) asB))
  (zaP (lstM (Zj (M.pure (.val (.str "run"))) (Zj (zaa 3) (M.pure [])))))
  (M.pure .nx))
  (zak (ifM (ngM (M.bind (zar zbm (Zj (zaa 2) (Zj (zaa 4) (Zj (op2 zaJ (zaa 0) (zaa 3)) (M.pure []))))) asB))
  (zaP (lstM (Zj (M.pure (.val (.str "run"))) (Zj (zaa 3) (M.pure [])))))
  (M.pure .nx))
  (zaM 2 (zar zax (Zj (zaa 2) (Zj (zaa 4) (M.pure []))))))))
  (zaP (lstM (Zj (M.pure (.val (.str "told"))) (Zj (M.pure (.val .non)) (M.pure []))))))))
noncomputable def zcN  : M Fl :=
  (zak (zaM 1 (lstM (Zj (zdK exL .NoPoints (zaa 0)) (Zj (zdK exL .NoBox (zaa 0)) (Zj (zdK exL .NoAsks (zaa 0)) (Zj (zdK exL .NoRun (zaa 0)) (M.pure [])))))))
  (zak (zaM 1 (op2 zbb (zaa 1) (lstM (Zj (zdK exL .NoText (zaa 0)) (Zj (zdK exL .NoTurn (zaa 0)) (Zj (zdK exL .NoTree (zaa 0)) (M.pure [])))))))
  (zak (zaM 1 (op2 zbb (zaa 1) (lstM (Zj (zdK exL .NoTop (zaa 0)) (Zj (zdK exL .NotServed (zaa 0)) (Zj (zdK exL .NoRow (zaa 0)) (M.pure [])))))))
  (zak (zaM 1 (op2 zbb (zaa 1) (lstM (Zj (zdK exL .NoPoint (zaa 0)) (Zj (zdK exL .NoName (zaa 0)) (Zj (zdK exL .NoKey (zaa 0)) (M.pure [])))))))
  (zak (zaM 1 (op2 zbb (zaa 1) (lstM (Zj (zdK exL .NoBack (zaa 0)) (Zj (zdK exL .TooMany (zaa 0)) (M.pure []))))))
  (zak (ifM (orM (M.bind (op2 zbk (zlu 1 zgq (Zj (M.pure (.val (.bl true))) (M.pure []))) (M.pure (.val (.int 1)))) asB) (M.bind (op2 zbk (zdK exL .PointError (zaa 0)) (op2 ltO (zlu 1 zfM (Zj (M.pure (.val (.bl true))) (M.pure []))) (M.pure (.val (.int 10))))) asB))
  (zaP (M.pure (.val (.str "odd"))))
  (M.pure .nx))
  (zak (zaM 2 (lstM (Zj (M.pure (.val (.str "points"))) (Zj (M.pure (.val (.str "box"))) (Zj (M.pure (.val (.str "asks"))) (Zj (M.pure (.val (.str "run"))) (Zj (M.pure (.val (.str "text"))) (Zj (M.pure (.val (.str "turn"))) (Zj (M.pure (.val (.str "tree"))) (Zj (M.pure (.val (.str "top"))) (Zj (M.pure (.val (.str "served"))) (Zj (M.pure (.val (.str "row"))) (Zj (M.pure (.val (.str "point"))) (Zj (M.pure (.val (.str "name"))) (Zj (M.pure (.val (.str "key"))) (M.pure []))))))))))))))))
  (zaP (op2 zaJ (op2 zbb (zaa 2) (lstM (Zj (M.pure (.val (.str "back"))) (Zj (M.pure (.val (.str "many"))) (M.pure []))))) (zlu 1 zfM (Zj (M.pure (.val (.bl true))) (M.pure []))))))))))))
noncomputable def zes  : M Fl :=
  (zaP (zfj (zd6 .int (zaa 0)) (zfj (zoF (ngM (M.bind (zd6 .bool (zaa 0)) asB))) (op3 leO leO (M.pure (.val (.int 0))) (zaa 0) (M.pure (.val (.int 30)))))))
noncomputable def zbr (zan : List D -> Option Rt) (za2 : List D -> Option Rt) : M Fl :=
  (zak (ifM (M.bind (op2 isO (zaa 0) (M.pure (.val .non))) asB)
  (zaP (M.pure (.val (.bl true))))
  (M.pure .nx))
  (zak (ifM (orM (ngM (M.bind (zd6 .tuple (zaa 0)) asB)) (M.bind (op2 zbk (zaV zbZ (Zj (zaa 0) (M.pure []))) (M.pure (.val (.int 3)))) asB))
  (zaP (M.pure (.val (.bl false))))
  (M.pure .nx))
  (zak (zfs (gT 3 (gsC (gN 3) (gsC (gN 4) (gsC (gN 5) gs0)))) (zaa 0))
  (zaP (zfj (zar za2 (Zj (zaa 3) (M.pure []))) (zfj (op3 ltO ltO (zaa 1) (zaa 3) (zaa 2)) (zfj (zar zan (Zj (zaa 4) (Zj (zaa 1) (Zj (zaa 3) (M.pure []))))) (zar zan (Zj (zaa 5) (Zj (zaa 3) (Zj (zaa 2) (M.pure []))))))))))))
noncomputable def zdL (zan : List D -> Option Rt) : M Fl :=
  (zaP (zar zan (Zj (zaa 0) (Zj (op1 zdO (M.pure (.val (.int 1)))) (Zj (op2 zbb (M.pure (.val (.int 30))) (M.pure (.val (.int 1)))) (M.pure []))))))
noncomputable def zbs (zaB : List D -> Option Rt) : M Fl :=
  (zaP (zfj (zd6 .tuple (zaa 0)) (zfj (op2 zbC (zaV zbZ (Zj (zaa 0) (M.pure []))) (M.pure (.val (.int 2)))) (zfj (zar zaB (Zj (op2 zaJ (zaa 0) (M.pure (.val (.int 0)))) (M.pure []))) (zfj (zd6 .list (op2 zaJ (zaa 0) (M.pure (.val (.int 1))))) (op2 zbC (zaV zbZ (Zj (op2 zaJ (zaa 0) (M.pure (.val (.int 1)))) (M.pure []))) (zaa 1)))))))
noncomputable def zcH (zaB : List D -> Option Rt) : M Fl :=
  (ifM (ngM (M.bind (zar zaB (Zj (zaa 0) (M.pure []))) asB))
  (zff .NoTree (Zj (M.pure (.val (.str "no tree of at most 31 keys in order"))) (M.pure [])))
  (M.pure .nx))
noncomputable def zbG (zal : List D -> Option Rt) : M Fl :=
  (zak (ifM (orM (M.bind (op2 isO (zaa 0) (M.pure (.val .non))) asB) (M.bind (op2 (inO true) (op2 zaJ (zaa 0) (M.pure (.val (.int 0)))) (zaa 1)) asB))
  (zaP (lstM (Zj (zaa 0) (M.pure []))))
  (M.pure .nx))
  (zaP (op2 zbb (zar zal (Zj (op2 zaJ (zaa 0) (M.pure (.val (.int 1)))) (Zj (zaa 1) (M.pure [])))) (zar zal (Zj (op2 zaJ (zaa 0) (M.pure (.val (.int 2)))) (Zj (zaa 1) (M.pure [])))))))
noncomputable def zeu (zaw : List D -> Option Rt) : M Fl :=
  (zak (ifM (M.bind (op2 isO (zaa 0) (M.pure (.val .non))) asB)
  (zaP (lstM (M.pure [])))
  (M.pure .nx))
  (zak (zfs (gT 3 (gsC (gN 1) (gsC (gN 2) (gsC (gN 3) gs0)))) (zaa 0))
  (zaP (op2 zbb (op2 zbb (zar zaw (Zj (zaa 2) (M.pure []))) (lstM (Zj (zaa 1) (M.pure [])))) (zar zaw (Zj (zaa 3) (M.pure [])))))))
noncomputable def zcs (zaB : List D -> Option Rt) (zaE : List D -> Option Rx) (zal : List D -> Option Rt) (zaw : List D -> Option Rt) : M Fl :=
  (zak (zd8 (zcK zaE (Zj (zaa 0) (M.pure []))))
  (zak (ifM (orM (M.bind (op2 isO (zaa 1) (M.pure (.val .non))) asB) (ngM (M.bind (zar zaB (Zj (zaa 1) (M.pure []))) asB)))
  (zaP (M.pure (.val (.bl false))))
  (M.pure .nx))
  (zak (zaM 2 (zar zaw (Zj (zaa 1) (M.pure []))))
  (zaP (op2 zbC (zaV zbZ (Zj (zar zal (Zj (zaa 0) (Zj (zaa 2) (M.pure [])))) (M.pure []))) (op2 zbb (zaV zbZ (Zj (zaa 2) (M.pure []))) (M.pure (.val (.int 1)))))))))
noncomputable def zeG (zaE : List D -> Option Rx) (zaw : List D -> Option Rt) : M Fl :=
  (zak (zd8 (zcK zaE (Zj (zaa 0) (M.pure []))))
  (zaP (zar zaw (Zj (zaa 0) (M.pure [])))))
noncomputable def zbO (za2 : List D -> Option Rt) : M Fl :=
  (zak (ifM (orM (ngM (M.bind (zd6 .list (zaa 0)) asB)) (ngM (M.bind (op3 leO leO (M.pure (.val (.int 1))) (zaV zbZ (Zj (zaa 0) (M.pure []))) (M.pure (.val (.int 31)))) asB)))
  (zcI .NoAsks ["number"] (Zj (M.pure (.val .non)) (M.pure [])))
  (M.pure .nx))
  (forM (zg7 (Zj (zaa 0) (M.pure []))) (gT 2 (gsC (gN 1) (gsC (gN 2) gs0)))
  (ifM (ngM (M.bind (zar za2 (Zj (zaa 2) (M.pure []))) asB))
  (zcI .NoAsks ["number"] (Zj (zaa 1) (M.pure [])))
  (M.pure .nx))))
noncomputable def zgg (zbQ : List D -> Option Rt) (zaw : List D -> Option Rt) : M Fl :=
  (zak (ifM (M.bind (op2 isO (zaa 0) (M.pure (.val .non))) asB)
  (zaP (op2 zaJ (zaa 1) (M.pure (.val (.int 0)))))
  (M.pure .nx))
  (zak (zfs (gT 3 (gsC (gN 2) (gsC (gN 3) (gsC (gN 4) gs0)))) (zaa 0))
  (zak (zaM 5 (op2 zbb (zaV zbZ (Zj (zar zaw (Zj (zaa 3) (M.pure []))) (M.pure []))) (M.pure (.val (.int 1)))))
  (zaP (zbp (Zj (zaa 2) (Zj (zar zbQ (Zj (zaa 3) (Zj (zcj zdb (zaa 1) (M.pure none) (M.bind (zaa 5) asI)) (M.pure [])))) (Zj (zar zbQ (Zj (zaa 4) (Zj (zcj zdb (zaa 1) (M.bind (zaa 5) asI) (M.pure none)) (M.pure [])))) (M.pure [])))))))))
noncomputable def zfo (zbQ : List D -> Option Rt) (zaZ : List D -> Option Rx) (zal : List D -> Option Rt) (zaw : List D -> Option Rt) : M Fl :=
  (zak (ifM (ngM (M.bind (zcK zaZ (Zj (zaa 0) (Zj (zaa 1) (M.pure [])))) asB))
  (zff .NoTop (Zj (M.pure (.val (.str "no top of the tree"))) (M.pure [])))
  (M.pure .nx))
  (zaP (zar zbQ (Zj (zaa 1) (Zj (zar zal (Zj (zaa 0) (Zj (zar zaw (Zj (zaa 1) (M.pure []))) (M.pure [])))) (M.pure []))))))
noncomputable def zcW (zau : List D -> Option Rt) (zaZ : List D -> Option Rx) (zbF : List D -> Option Rx) (zaA : List D -> Option Rx) (zbV : List D -> Option Rx) : M Fl :=
  (zak (zd8 (zcK zaA (Zj (zaa 0) (M.pure []))))
  (zak (ifM (ngM (M.bind (zar zau (Zj (zaa 1) (Zj (zaV zbZ (Zj (zaa 0) (M.pure []))) (M.pure [])))) asB))
  (zcI .NoRun ["moment"] (Zj (M.pure (.val .non)) (M.pure [])))
  (M.pure .nx))
  (zak (zfs (gT 2 (gsC (gN 2) (gsC (gN 3) gs0))) (zaa 1))
  (forM (zg7 (Zj (zaa 3) (M.pure []))) (gT 2 (gsC (gN 4) (gsC (gN 5) gs0)))
  (zak (ifM (orM (ngM (M.bind (zcK zaZ (Zj (zaa 2) (Zj (zaa 5) (M.pure [])))) asB)) (M.bind (op2 (inO true) (op2 zaJ (zaa 0) (zaa 4)) (zcK zbF (Zj (zaa 5) (M.pure [])))) asB))
  (zcI .NoRun ["moment"] (Zj (zaa 4) (M.pure [])))
  (M.pure .nx))
  (zaM 2 (zcK zbV (Zj (zaa 2) (Zj (zaa 5) (M.pure []))))))))))
noncomputable def zcl (zbn : List D -> Option Rt) (zaH : List D -> Option Rx) : M Fl :=
  (zak (zaM 2 (M.pure (.val .non)))
  (zak (zaM 3 (M.pure (.val .non)))
  (zak (zmH za4 4
  (zaM 3 (zcK zaH (Zj (zaa 0) (Zj (zaa 1) (M.pure [])))))
  (zaM 2 (zaa 4)))
  (zak (ifM (M.bind (op2 isO (zaa 2) (M.pure (.val .non))) asB)
  (zaP (lstM (Zj (M.pure (.val (.str "told"))) (Zj (zaa 3) (M.pure [])))))
  (M.pure .nx))
  (zak (zaM 5 (zar zbn (Zj (zaa 2) (M.pure []))))
  (zaP (lstM (Zj (zaa 5) (Zj (znU (M.bind (op2 zbC (zaa 5) (M.pure (.val (.str "run")))) asB) (znW exL "moment" (zaa 2)) (M.pure (.val .non))) (M.pure []))))))))))
noncomputable def zbK (zag : List D -> Option Rt) : M Fl :=
  (zak (zaM 0 (M.pure (.val .non)))
  (zak (forM (znz (Zj (M.pure (.val (.int 30))) (Zj (op1 zdO (M.pure (.val (.int 1)))) (Zj (op1 zdO (M.pure (.val (.int 1)))) (M.pure []))))) (gN 1)
  (zaM 0 (zbp (Zj (zaa 1) (Zj (M.pure (.val .non)) (Zj (zaa 0) (M.pure [])))))))
  (zak (zaM 2 (zgV (Zj (M.pure (.val (.int 31))) (M.pure []))))
  (zak (ifM (M.bind (op2 zbk (zar zag (Zj (zaa 2) (Zj (zbp (Zj (zaa 0) (Zj (op2 zdP (lstM (Zj (zaa 0) (M.pure []))) (M.pure (.val (.int 31)))) (M.pure [])))) (M.pure [])))) (lstM (Zj (M.pure (.val (.str "told"))) (Zj (M.pure (.val .non)) (M.pure []))))) asB)
  (zaP (M.pure (.val (.bl false))))
  (M.pure .nx))
  (zak (ifM (M.bind (op2 zbk (zar zag (Zj (zaa 2) (Zj (zbp (Zj (zaa 0) (Zj (op2 zbb (op2 zdP (lstM (Zj (zaa 0) (M.pure []))) (M.pure (.val (.int 30)))) (lstM (Zj (zbp (Zj (M.pure (.val (.int 5))) (Zj (M.pure (.val .non)) (Zj (M.pure (.val .non)) (M.pure []))))) (M.pure [])))) (M.pure [])))) (M.pure [])))) (lstM (Zj (M.pure (.val (.str "run"))) (Zj (M.pure (.val (.int 30))) (M.pure []))))) asB)
  (zaP (M.pure (.val (.bl false))))
  (M.pure .nx))
  (zak (zaM 3 (op2 zdP (lstM (Zj (zbp (Zj (M.pure (.val (.int 0))) (Zj (M.pure (.val .non)) (Zj (M.pure (.val .non)) (M.pure []))))) (M.pure []))) (M.pure (.val (.int 31)))))
  (zaP (zfj (op2 zbC (zar zag (Zj (op2 zdP (lstM (Zj (M.pure (.val (.int 0))) (M.pure []))) (M.pure (.val (.int 31)))) (Zj (zbp (Zj (zaa 0) (Zj (zaa 3) (M.pure [])))) (M.pure [])))) (lstM (Zj (M.pure (.val (.str "told"))) (Zj (M.pure (.val .non)) (M.pure []))))) (op2 zbC (zar zag (Zj (zaa 2) (Zj (zbp (Zj (zaa 0) (Zj (zaa 3) (M.pure [])))) (M.pure [])))) (lstM (Zj (M.pure (.val (.str "run"))) (Zj (M.pure (.val (.int 1))) (M.pure [])))))))))))))
noncomputable def zb8  : M Fl :=
  (zak (ifM (M.bind (op2 ltO (zaa 1) (zaV zbZ (Zj (zaa 0) (M.pure [])))) asB)
  (zaP (op2 zaJ (zaa 0) (zaa 1)))
  (M.pure .nx))
  (zaP (M.pure (.val (.int 0)))))
noncomputable def zcP (za9 : List D -> Option Rt) : M Fl :=
  (zak (zaM 2 (zar za9 (Zj (zaa 0) (Zj (zaa 1) (M.pure [])))))
  (zak (zaM 3 (op2 zhQ (op2 zg8 (op2 zbb (op2 zbb (op2 zbb (op2 zhQ (zaa 2) (M.pure (.val (.int 2147483629)))) (op2 zg8 (op2 zg8 (M.pure (.val (.int 7919))) (zaa 1)) (zaa 1))) (op2 zg8 (M.pure (.val (.int 104729))) (zaa 1))) (M.pure (.val (.int 1)))) (M.pure (.val (.int 48271)))) (M.pure (.val (.int 2147483647)))))
  (zak (ifM (M.bind (op2 ltO (zaa 2) (op2 zpR (M.pure (.val (.int 10))) (M.pure (.val (.int 18))))) asB)
  (zaM 2 (M.pure (.val (.int 0))))
  (M.pure .nx))
  (zaP (lstM (Zj (zaa 2) (Zj (op2 zhQ (op2 zg8 (zaa 3) (zaa 3)) (M.pure (.val (.int 2147483629)))) (M.pure []))))))))
noncomputable def zdV (zae : GI) (zam : GI) (zax : List D -> Option Rt) (zaK : List D -> Option Rt) : M Fl :=
  (zak (zaM 3 (zba zam (Zj (zaa 0) (Zj (zaa 1) (M.pure [])))))
  (zak (zaM 4 (zaa 3))
  (zak (zaM 5 (lstM (M.pure [])))
  (zak (forM (zey (zaa 2)) (gN 6)
  (zak (zaM 7 (zar zaK (Zj (zaa 4) (Zj (zaa 6) (M.pure [])))))
  (zak (forM (zgX (Zj (zba zae (Zj (zaa 0) (Zj (M.pure (.val (.int 4))) (M.pure [])))) (M.pure []))) (gN 8)
  (zak (zaM 9 (zds (zey (zaa 1)) [7, 4] 1 (gN 0) (andM (M.bind (op2 (inO true) (zaa 0) (zaa 1)) asB) (M.bind (op2 (inO false) (op2 zaJ (zar zaK (Zj (zaa 2) (Zj (zaa 0) (M.pure [])))) (op1 zdO (M.pure (.val (.int 2))))) (zaa 1)) asB)) (zaa 0)))
  (ifM (M.bind (op2 zbk (zaa 9) (lstM (M.pure []))) asB)
  (zaM 7 (op2 zbb (zaa 7) (lstM (Zj (op2 zaJ (zaa 9) (zba zae (Zj (zaa 0) (Zj (zaV zbZ (Zj (zaa 9) (M.pure []))) (M.pure []))))) (M.pure [])))))
  (M.pure .nx))))
  (zak (zd8 (zjB 5 zdg (Zj (zba zam (Zj (zaa 0) (Zj (zaV zeV (Zj (zaa 7) (M.pure []))) (M.pure [])))) (M.pure []))))
  (zaM 4 (zar zax (Zj (zaa 4) (Zj (op2 zaJ (zaa 5) (op1 zdO (M.pure (.val (.int 1))))) (M.pure [])))))))))
  (zaP (zbp (Zj (zaa 3) (Zj (zaa 5) (M.pure [])))))))))
noncomputable def zjT (zbf : GI) (zbv : List D -> Option Rt) (zaI : List D -> Option Rt) (zbg : List D -> Option Rt) (zbt : GI) (zae : GI) (zag : List D -> Option Rt) : M Fl :=
  (zak (ifM (ngM (M.bind (zar zaI (M.pure [])) asB))
  (zaP (M.pure (.val (.bl false))))
  (M.pure .nx))
  (zak (forM (zgX (Zj (zaV ziA (Zj (M.pure (.val (.int 1))) (Zj (zaV ziR (Zj (M.pure (.val (.int 6))) (Zj (zaV zbZ (Zj (zaa 0) (M.pure []))) (M.pure [])))) (M.pure [])))) (M.pure []))) (gN 1)
  (zak (zaM 2 (zar zbg (Zj (zaa 0) (Zj (zaa 1) (M.pure [])))))
  (zak (zaM 3 (zgV (Zj (zba zae (Zj (zaa 2) (Zj (M.pure (.val (.int 4))) (M.pure [])))) (Zj (op2 zbb (M.pure (.val (.int 5))) (zba zae (Zj (zaa 2) (Zj (M.pure (.val (.int 6))) (M.pure []))))) (M.pure [])))))
  (zak (zaM 4 (zds (zgX (Zj (op2 zbb (M.pure (.val (.int 1))) (zba zae (Zj (zaa 2) (Zj (M.pure (.val (.int 9))) (M.pure []))))) (M.pure []))) [3, 2] 1 (gN 0) (M.pure true) (op2 zaJ (zaa 1) (zba zae (Zj (zaa 2) (Zj (zaV zbZ (Zj (zaa 1) (M.pure []))) (M.pure [])))))))
  (zak (zaM 5 (zba zbt (Zj (zaa 2) (Zj (zaa 3) (Zj (zaa 4) (M.pure []))))))
  (zak (ifM (M.bind (op2 zbk (zar zag (Zj (zaa 4) (Zj (zaa 5) (M.pure [])))) (lstM (Zj (M.pure (.val (.str "told"))) (Zj (M.pure (.val .non)) (M.pure []))))) asB)
  (zaP (M.pure (.val (.bl false))))
  (M.pure .nx))
  (zak (forM (zgX (Zj (M.pure (.val (.int 10))) (M.pure []))) (gN 6)
  (zak (zaM 7 (zba zbf (Zj (zaa 2) (Zj (zaa 5) (Zj (zaa 3) (M.pure []))))))
  (zak (zaM 8 (op2 zaJ (lstM (Zj (zaa 4) (Zj (zaa 4) (Zj (zcj (zfR (-1)) (zaa 4) (M.pure none) (M.pure none)) (Zj (op2 zbb (zaa 4) (lstM (Zj (op2 zaJ (zaa 3) (M.pure (.val (.int 0)))) (M.pure [])))) (Zj (op2 zdP (lstM (Zj (op2 zaJ (zaa 3) (M.pure (.val (.int 0)))) (M.pure []))) (zaV zbZ (Zj (zaa 4) (M.pure [])))) (M.pure []))))))) (zba zae (Zj (zaa 2) (Zj (M.pure (.val (.int 5))) (M.pure []))))))
  (zak (zaM 9 (zaV zfY (Zj (lstM (Zj (zaa 7) (Zj (zaa 8) (M.pure [])))) (M.pure []))))
  (ifM (orM (M.bind (op2 zbk (zar zag (Zj (zaa 8) (Zj (zaa 7) (M.pure [])))) (zar zbv (Zj (zaa 8) (Zj (zaa 7) (M.pure []))))) asB) (M.bind (op2 zbk (zaV zfY (Zj (lstM (Zj (zaa 7) (Zj (zaa 8) (M.pure [])))) (M.pure []))) (zaa 9)) asB))
  (zaP (M.pure (.val (.bl false))))
  (M.pure .nx))))))
  (zak (forM (zey (lstM (Zj (M.pure (.val .non)) (Zj (M.pure (.val (.int 3))) (Zj (lstM (M.pure [])) (Zj (zbp (M.pure [])) (Zj (zcj zm6 (zaa 5) (M.pure none) (M.bind (M.pure (.val (.int 1))) asI)) (Zj (op2 zm3 (zaa 5) (zbp (Zj (M.pure (.val .non)) (M.pure [])))) (Zj (zaV zeZ (Zj (zaa 5) (M.pure []))) (Zj (zbp (Zj (M.pure (.val (.int 3))) (Zj (op2 zaJ (zaa 5) (M.pure (.val (.int 1)))) (M.pure [])))) (Zj (zbp (Zj (op2 zaJ (zaa 5) (M.pure (.val (.int 0)))) (Zj (zaV zgZ (Zj (op2 zaJ (zaa 5) (M.pure (.val (.int 1)))) (M.pure []))) (M.pure [])))) (Zj (M.pure (.val (.str "run"))) (M.pure []))))))))))))) (gN 10)
  (ifM (orM (M.bind (op2 zbk (zar zag (Zj (zaa 4) (Zj (zaa 10) (M.pure [])))) (lstM (Zj (M.pure (.val (.str "run"))) (Zj (M.pure (.val .non)) (M.pure []))))) asB) (M.bind (op2 zbk (zar zag (Zj (op2 zbb (zaa 4) (lstM (Zj (M.pure (.val (.int 31))) (M.pure [])))) (Zj (zaa 10) (M.pure [])))) (lstM (Zj (M.pure (.val (.str "asks"))) (Zj (M.pure (.val .non)) (M.pure []))))) asB))
  (zaP (M.pure (.val (.bl false))))
  (M.pure .nx)))
  (zak (ifM (M.bind (op2 zbk (zar zag (Zj (zaa 4) (Zj (zbp (Zj (M.pure (.val .non)) (Zj (op2 zaJ (zaa 5) (M.pure (.val (.int 1)))) (M.pure [])))) (M.pure [])))) (lstM (Zj (M.pure (.val (.str "run"))) (Zj (M.pure (.val (.int 0))) (M.pure []))))) asB)
  (zaP (M.pure (.val (.bl false))))
  (M.pure .nx))
  (ifM (orM (M.bind (op2 zbk (zar zag (Zj (lstM (M.pure [])) (Zj (zaa 5) (M.pure [])))) (lstM (Zj (M.pure (.val (.str "asks"))) (Zj (M.pure (.val .non)) (M.pure []))))) asB) (M.bind (op2 zbk (zar zag (Zj (lstM (Zj (M.pure (.val (.bl true))) (M.pure []))) (Zj (zaa 5) (M.pure [])))) (lstM (Zj (M.pure (.val (.str "asks"))) (Zj (M.pure (.val .non)) (M.pure []))))) asB))
  (zaP (M.pure (.val (.bl false))))
  (M.pure .nx)))))))))))
  (zaP (M.pure (.val (.bl true))))))
noncomputable def zae : GI := zf1 2 ["_law_pool_here", "_law_many", "_law_found"] (zcO )
noncomputable def zam : Nat -> (GI)
  | 0 => fun _ _ => none
  | n + 1 => zf1 2 ["_law_pool_here", "_law_keys", "_law_at"] (zcS zae (zam n))
noncomputable def zbf : GI := zf1 3 ["_law_pool_here", "_law_run_here", "_law_keys", "_law_tree_here", "_law_tops", "_law_at", "_law_way_here", "_law_other"] (zcM zae (zam 48))
noncomputable def zaf : Nat -> (List D -> Option Rt)
  | 0 => fun _ => none
  | n + 1 => zaW 1 ["_law_tree_here"] (zbP (zaf n))
noncomputable def zaK : List D -> Option Rt := zaW 2 ["_law_tree_here", "_law_key", "_law_found"] (zdR )
noncomputable def zbm : List D -> Option Rt := zaW 3 ["_law_tree_here", "_law_top", "_law_key", "_law_own", "_law_one", "_law_way_here"] (zdv (zaf 48) zaK)
noncomputable def zaR : Nat -> (List D -> Option Rt)
  | 0 => fun _ => none
  | n + 1 => zaW 2 ["_law_tree_here", "_law_key"] (zcE (zaR n))
noncomputable def zax : List D -> Option Rt := zaW 2 ["_law_tree_here", "_law_top", "_law_own", "_law_found", "_law_key"] (zc2 (zaf 48) (zaR 48))
noncomputable def zbv : List D -> Option Rt := zaW 2 ["_law_asks", "_law_run_here", "_law_tree_here", "_law_moment", "_law_top"] (zef (zaf 48) zbm zax)
noncomputable def zbn : List D -> Option Rt := zaW 1 ["_law_error", "_law_kinds", "_law_words"] (zcN )
noncomputable def za2 : List D -> Option Rt := zaW 1 ["thing"] (zes )
noncomputable def zan : Nat -> (List D -> Option Rt)
  | 0 => fun _ => none
  | n + 1 => zaW 3 ["thing", "low", "high", "key", "left", "right"] (zbr (zan n) za2)
noncomputable def zaB : List D -> Option Rt := zaW 1 ["thing"] (zdL (zan 48))
noncomputable def zau : List D -> Option Rt := zaW 2 ["thing", "many"] (zbs zaB)
noncomputable def zaE : List D -> Option Rx := zc3 1 ["thing"] (zcH zaB)
noncomputable def zal : Nat -> (List D -> Option Rt)
  | 0 => fun _ => none
  | n + 1 => zaW 2 ["tree", "keys"] (zbG (zal n))
noncomputable def zaw : Nat -> (List D -> Option Rt)
  | 0 => fun _ => none
  | n + 1 => zaW 1 ["tree", "key", "left", "right"] (zeu (zaw n))
noncomputable def zaZ : List D -> Option Rx := zc3 2 ["tree", "thing", "keys"] (zcs zaB zaE (zal 48) (zaw 48))
noncomputable def zbF : List D -> Option Rx := zc3 1 ["tree"] (zeG zaE (zaw 48))
noncomputable def zaA : List D -> Option Rx := zc3 1 ["thing", "number", "key"] (zbO za2)
noncomputable def zbQ : Nat -> (List D -> Option Rt)
  | 0 => fun _ => none
  | n + 1 => zaW 2 ["top", "parts", "key", "left", "right", "places"] (zgg (zbQ n) (zaw 48))
noncomputable def zbV : List D -> Option Rx := zc3 2 ["tree", "top"] (zfo (zbQ 48) zaZ (zal 48) (zaw 48))
noncomputable def zaH : List D -> Option Rx := zc3 2 ["asks", "thing", "tree", "tops", "moment", "top"] (zcW zau zaZ zbF zaA zbV)
noncomputable def zag : List D -> Option Rt := zaW 2 ["_law_asks", "_law_thing", "_law_caught", "_law_found", "e", "_law_word"] (zcl zbn zaH)
noncomputable def zaI : List D -> Option Rt := zaW 0 ["_law_tree_here", "_law_key", "_law_asks", "_law_few"] (zbK zag)
noncomputable def za9 : List D -> Option Rt := zaW 2 ["_law_script", "_law_k"] (zb8 )
noncomputable def zbg : List D -> Option Rt := zaW 2 ["_law_script", "_law_k", "_law_cell", "_law_seed"] (zcP za9)
noncomputable def zbt : GI := zf1 3 ["_law_pool_here", "_law_keys", "_law_asks", "_law_first", "_law_tree_here", "_law_tops", "_law_key", "_law_own", "_law_turn", "_law_more"] (zdV zae (zam 48) zax zaK)
noncomputable def ziU : List D -> Option Rt := zaW 1 ["_law_script", "_law_k", "_law_pool_here", "_law_keys", "_law_asks", "_law_run_here", "_law_turn", "_law_bent_here", "_law_others", "_law_word", "_law_thing"] (zjT zbf zbv zaI zbg zbt zae zag)
end K20
end
section
namespace Tr
open PySem L2 Ex Dv
inductive T where
  | nil | node (k : Int) (l r : T)
  deriving DecidableEq
def T.d : T -> D
  | .nil => .non
  | .node k l r => .tup [.int k, l.d, r.d]
def T.ht : T -> Nat
  | .nil => 0
  | .node _ l r => max l.ht r.ht + 1
def T.size : T -> Nat
  | .nil => 0
  | .node _ l r => l.size + r.size + 1
def T.ino : T -> List Int
  | .nil => []
  | .node k l r => l.ino ++ k :: r.ino
def T.pre : T -> List Int
  | .nil => []
  | .node k l r => k :: (l.pre ++ r.pre)
abbrev ofI (ns : List Int) : D := .lst (ns.map D.int)
abbrev ofT (ts : List T) : D := .lst (ts.map T.d)
theorem line : 20000 <= sizeLine := by decide
theorem zby : ∀ t : T, t.ino.length = t.size
  | .nil => rfl
  | .node k l r => by simp [T.ino, T.size, zby l, zby r]; omega
theorem zdF : ∀ t : T, t.ht <= t.size
  | .nil => Nat.le_refl _
  | .node k l r => by have := zdF l; have := zdF r; simp [T.ht, T.size]; omega
def T.B : Int -> Int -> T -> Prop
  | _, _, .nil => True
  | lo, hi, .node k l r => (0 <= k /\ k <= 30) /\ (lo < k /\ k < hi) /\ T.B lo k l /\ T.B k hi r
def Up : Int -> Int -> List Int -> Prop
  | _, _, [] => True
  | lo, hi, k :: r => lo < k /\ k < hi /\ Up k hi r
theorem Up.lt {lo hi : Int} : ∀ {ns : List Int}, Up lo hi ns -> ∀ k ∈ ns, lo < k /\ k < hi
  | [], _, k, h => nomatch h
  | n :: r, ⟨h1, h2, h3⟩, k, hk => by
    rcases List.mem_cons.mp hk with rfl | hk
    · exact ⟨h1, h2⟩
    · have := Up.lt h3 k hk; omega
theorem Up.weak {lo lo' hi hi' : Int} (h1 : lo' <= lo) (h2 : hi <= hi') : ∀ {ns : List Int}, Up lo hi ns -> Up lo' hi' ns
  | [], _ => trivial
  | n :: r, ⟨a, b, c⟩ => ⟨by omega, by omega, Up.weak (Int.le_refl n) h2 c⟩
theorem zmJ {lo hi k : Int} : ∀ {ns ms : List Int}, Up lo hi (ns ++ k :: ms) ↔ Up lo k ns /\ lo < k /\ k < hi /\ Up k hi ms
  | [], ms => by simp [Up]
  | n :: r, ms => by
    simp only [List.cons_append, Up]
    rw [zmJ (lo := n)]
    constructor
    · rintro ⟨a, b, c, d, e, f⟩; exact ⟨⟨a, d, c⟩, by omega, e, f⟩
    · rintro ⟨⟨a, d, c⟩, _, e, f⟩; exact ⟨a, by omega, c, d, e, f⟩
theorem zbu : ∀ (t : T) (lo hi : Int), t.B lo hi ↔ Up lo hi t.ino /\ ∀ k ∈ t.ino, 0 <= k /\ k <= 30
  | .nil, _, _ => by simp [T.B, Up, T.ino]
  | .node k l r, lo, hi => by
    simp only [T.B, T.ino, zmJ, zbu l, zbu r]
    constructor
    · rintro ⟨a, ⟨b, c⟩, ⟨d, e⟩, f, g⟩
      refine ⟨⟨d, b, c, f⟩, fun x hx => ?_⟩
      rcases List.mem_append.1 hx with hx | hx
      · exact e x hx
      · rcases List.mem_cons.mp hx with rfl | hx
        · exact a
        · exact g x hx
    · rintro ⟨⟨d, b, c, f⟩, h⟩
      exact ⟨h k (by simp), ⟨b, c⟩, ⟨d, fun x hx => h x (by simp [hx])⟩, f, fun x hx => h x (by simp [hx])⟩
theorem Up.len {lo hi : Int} : ∀ {ns : List Int}, Up lo hi ns -> lo < hi -> (ns.length : Int) < hi - lo
  | [], _, h => by simp; omega
  | n :: r, ⟨a, b, c⟩, _ => by have := Up.len c b; simp; omega
theorem zcp {t : T} (h : t.B (-1) 31) : t.size <= 31 := by
  have := Up.len ((zbu t _ _).mp h).1 (by omega)
  rw [zby] at this; omega
theorem Up.nodup {lo hi : Int} : ∀ {ns : List Int}, Up lo hi ns -> ns.Nodup
  | [], _ => List.nodup_nil
  | n :: r, ⟨a, b, c⟩ => List.nodup_cons.mpr ⟨fun z => by have := Up.lt c n z; omega, Up.nodup c⟩
theorem Up.pw {lo hi : Int} : ∀ {ns : List Int}, Up lo hi ns -> ns.Pairwise (· < ·)
  | [], _ => .nil
  | n :: r, ⟨a, b, c⟩ => List.pairwise_cons.mpr ⟨fun k hk => (Up.lt c k hk).1, Up.pw c⟩
theorem ze4 {lo hi : Int} : ∀ {ns : List Int}, ns.Pairwise (· < ·) -> (∀ k ∈ ns, lo < k /\ k < hi) -> Up lo hi ns
  | [], _, _ => trivial
  | n :: r, h, hb => by
    obtain ⟨h1, h2⟩ := List.pairwise_cons.1 h
    exact ⟨(hb n (by simp)).1, (hb n (by simp)).2, ze4 h2 fun k hk => ⟨h1 k hk, (hb k (by simp [hk])).2⟩⟩
theorem zmO : ∀ t : T, t.d.py.canLay0 = true
  | .nil => rfl
  | .node k l r => by simp [T.d, D.py, D.pys, PyData.canLay0, PyData.canLayAll0, zmO l, zmO r]
theorem zir : ∀ t : T, t.d.py.depth = t.ht
  | .nil => rfl
  | .node k l r => by simp [T.d, D.py, D.pys, PyData.depth, PyData.depthAll, zir l, zir r, T.ht]
theorem zjL : ∀ t : T, t.d.py.bulk = 3 * t.size
  | .nil => rfl
  | .node k l r => by simp [T.d, D.py, D.pys, PyData.bulk, PyData.bulkAll, zjL l, zjL r, T.size]; omega
theorem zlW : ∀ r : Nat, r < 31 -> ((PyData.int r).showable && (PyData.int r).leavesShort 30) = true := by decide +kernel
theorem zhi {k : Int} (h : 0 <= k /\ k <= 30) : (PyData.int k).showable = true /\ (PyData.int k).leavesShort 30 = true := by
  have := zlW k.toNat (by omega)
  rw [Int.toNat_of_nonneg h.1, Bool.and_eq_true] at this
  exact this
theorem zjn : ∀ t : T, (∀ k ∈ t.ino, 0 <= k /\ k <= 30) -> t.d.py.showable = true /\ t.d.py.leavesShort 30 = true
  | .nil, _ => ⟨rfl, by decide +kernel⟩
  | .node k l r, h => by
    obtain ⟨a, b⟩ := zjn l fun x hx => h x (by simp [T.ino, hx])
    obtain ⟨a', b'⟩ := zjn r fun x hx => h x (by simp [T.ino, hx])
    obtain ⟨c, c'⟩ := zhi (h k (by simp [T.ino]))
    exact ⟨by simp [T.d, D.py, D.pys, PyData.showable, PyData.showableAll, a, a'] ; simpa [PyData.showable] using c, by simp [T.d, D.py, D.pys, PyData.leavesShort, PyData.leavesShortAll, b, b']; simpa [PyData.leavesShort] using c'⟩
theorem zkb {α : Type} (f : α -> D) : ∀ xs : List α, D.pys (xs.map f) = xs.map fun x => (f x).py
  | [] => rfl
  | x :: r => by simp [D.pys, zkb f r]
theorem zkI {ds : List PyData} (h : ∀ d ∈ ds, d.canLay0 = true) : PyData.canLayAll0 ds = true := by
  induction ds with
  | nil => rfl
  | cons d r ih => simp [PyData.canLayAll0, h d (by simp), ih fun x hx => h x (by simp [hx])]
theorem zhj {ds : List PyData} {n : Nat} (h : ∀ d ∈ ds, d.depth <= n) : PyData.depthAll ds <= n := by
  induction ds with
  | nil => simp [PyData.depthAll]
  | cons d r ih => have := h d (by simp); have := ih fun x hx => h x (by simp [hx]); simp [PyData.depthAll]; omega
theorem zgc (ns : List Int) : zeL (ofI ns) = true := by
  unfold zeL SeqAt.shaped
  have e : (ofI ns).py = .list (ns.map fun t => .int t) := by show PyData.list (D.pys (ns.map D.int)) = _; rw [zkb]; rfl
  rw [e]
  have h1 : PyData.canLayAll0 (ns.map fun t => .int t) = true := zkI fun d hd => by obtain ⟨t, _, rfl⟩ := List.mem_map.mp hd; rfl
  have h2 : PyData.depthAll (ns.map fun t => .int t) <= 60 := zhj fun d hd => by obtain ⟨t, ht, rfl⟩ := List.mem_map.mp hd; simp [PyData.depth]
  simp [PyData.canLay0, PyData.depth, h1]; omega
theorem zi2 {d : D} (h : zeL d = true) : eqB d d = true := SeqAt.eqv_refl _ (SeqAt.canLay_of_shaped h)
theorem znu {d e : D} (h : ∀ x, d ≠ .str x) : zbC d e = eqO d e := by
  unfold zbC
  split
  · exact absurd rfl (h _)
  · rfl
theorem zmB {d e : D} (h : ∀ x, d ≠ .str x) : zbk d e = neO d e := by
  unfold zbk
  split
  · exact absurd rfl (h _)
  · rfl
theorem zd7 {d : D} (h : zeL d = true) : zbC d d = some (.val (.bl true)) := by
  unfold zbC
  split
  · simp
  · unfold eqO; rw [h, zi2 h]; rfl
theorem zbN {d : D} (h : zeL d = true) : zbk d d = some (.val (.bl false)) := by
  unfold zbk
  split
  · simp
  · unfold neO; rw [h, zi2 h]; rfl
theorem znP (x : Str) : zbk (.str x) (.str x) = some (.val (.bl false)) := by
  show some (RV.val (.bl (!decide (x = x)))) = _
  simp
theorem zj7 (ds : List D) : eqB (.lst ds) (.lst []) = ds.isEmpty := by
  cases ds with
  | nil => rfl
  | cons d r => simp [eqB, D.py, D.pys, PyData.eqv, PyData.eqvAll]
theorem zkM : ∀ t : T, ze0 t.d = true
  | .nil => rfl
  | .node k l r => by simp [T.d, ze0, zeg, zkM l, zkM r]
theorem zqu (ts : List T) : zeg (ts.map T.d) = true := by
  induction ts with
  | nil => rfl
  | cons t r ih => simp [zeg, zkM, ih]
theorem zqK (ns : List Int) : zeg (ns.map D.int) = true := by
  induction ns with
  | nil => rfl
  | cons t r ih => simp [zeg, ze0, ih]
@[simp] theorem immR_t {t : T} : zdr (.val t.d) = true := zkM t
@[simp] theorem immR_ts {ts : List T} : zdr (.new (ofT ts)) = true := zqu ts
@[simp] theorem immR_is {ns : List Int} : zdr (.new (ofI ns)) = true := zqK ns
@[simp] theorem immR_int {n : Int} : zdr (.val (.int n)) = true := rfl
@[simp] theorem immR_bl {n : Bool} : zdr (.val (.bl n)) = true := rfl
@[simp] theorem immR_non : zdr (.val .non) = true := rfl
end Tr
end
section
namespace Tr
def parts (S : List Int) : T -> List T
  | .nil => [.nil]
  | .node k l r => if k ∈ S then parts S l ++ parts S r else [.node k l r]
def hung : T -> List T -> T
  | .nil, ps => ps.headD .nil
  | .node k l r, ps => .node k (hung l (ps.take (l.size + 1))) (hung r (ps.drop (l.size + 1)))
def old (S : List Int) : T -> T
  | .nil => .nil
  | .node k l r => if k ∈ S then .node k (old S l) (old S r) else .nil
def ins (x : Int) : T -> T
  | .nil => .node x .nil .nil
  | .node k l r => if x < k then .node k (ins x l) r else .node k l (ins x r)
theorem zcV (S : List Int) : ∀ t : T, (parts S t).length = (old S t).size + 1
  | .nil => rfl
  | .node k l r => by
    unfold parts old
    split
    · rw [List.length_append, zcV S l, zcV S r]; simp [T.size]; omega
    · rfl
theorem ze8 (S : List Int) : ∀ t : T, hung (old S t) (parts S t) = t
  | .nil => rfl
  | .node k l r => by
    unfold parts old
    split
    · unfold hung
      rw [<- zcV S l, List.take_left, List.drop_left, ze8 S l, ze8 S r]
    · rfl
def il : List Int -> List (List Int) -> List Int
  | [], p :: _ => p
  | [], [] => []
  | k :: ks, p :: ps => p ++ k :: il ks ps
  | _ :: _, [] => []
theorem znk {k : Int} {b : List Int} {Q : List (List Int)} : ∀ {a : List Int} {P : List (List Int)}, P.length = a.length + 1 -> il (a ++ k :: b) (P ++ Q) = il a P ++ k :: il b Q
  | [], [p], _ => rfl
  | x :: a, p :: P, h => by
    simp only [List.cons_append, il]
    rw [znk (by simpa using h)]
    simp
theorem zd4 : ∀ {top : T} {ps : List T}, ps.length = top.size + 1 -> (hung top ps).ino = il top.ino (ps.map T.ino)
  | .nil, ps, h => by
    match ps, h with
    | [p], _ => rfl
  | .node k l r, ps, h => by
    simp only [T.size] at h
    unfold hung
    simp only [T.ino]
    rw [zd4 (top := l) (by rw [List.length_take]; omega), zd4 (top := r) (by rw [List.length_drop]; omega), <- znk (by rw [List.length_map, List.length_take, zby]; omega), <- List.map_append, List.take_append_drop]
theorem znv (S : List Int) (t : T) : t.ino = il (old S t).ino ((parts S t).map T.ino) := by
  rw [<- zd4 (zcV S t), ze8]
def TopOf (top t : T) : Prop := (old top.ino t).ino = top.ino
theorem TopOf.len {top t : T} (h : TopOf top t) : (parts top.ino t).length = top.size + 1 := by
  rw [zcV, <- zby, h, zby]
theorem TopOf.ino {top t : T} (h : TopOf top t) : (hung top (parts top.ino t)).ino = t.ino := by
  rw [zd4 h.len, znv top.ino t, h]
theorem zhH {x : Int} : ∀ {ks : List Int} {ps : List (List Int)}, ps.length = ks.length + 1 -> (x ∈ il ks ps ↔ x ∈ ks \/ ∃ p ∈ ps, x ∈ p)
  | [], [p], _ => by simp [il]
  | k :: ks, p :: ps, h => by
    simp only [il, List.mem_append, List.mem_cons]
    rw [zhH (by simpa using h)]
    constructor
    · rintro (a | a | a | ⟨q, b, c⟩)
      · exact .inr ⟨p, .inl rfl, a⟩
      · exact .inl (.inl a)
      · exact .inl (.inr a)
      · exact .inr ⟨q, .inr b, c⟩
    · rintro ((a | a) | ⟨q, (rfl | b), c⟩)
      · exact .inr (.inl a)
      · exact .inr (.inr (.inl a))
      · exact .inl c
      · exact .inr (.inr (.inr ⟨q, b, c⟩))
theorem ziJ {x : Int} : ∀ {ks : List Int} {ps : List (List Int)}, ps.length = ks.length + 1 -> (il ks ps).Nodup -> x ∈ ks -> ∀ p ∈ ps, x ∉ p
  | [], _, _, _, h, _, _ => nomatch h
  | k :: ks, p :: ps, hl, hn, hx, q, hq => by
    have hl' : ps.length = ks.length + 1 := by simpa using hl
    simp only [il] at hn
    rw [List.nodup_append, List.nodup_cons] at hn
    obtain ⟨n1, ⟨n2, n3⟩, n4⟩ := hn
    intro hxq
    rcases List.mem_cons.1 hx with rfl | hx
    · rcases List.mem_cons.1 hq with rfl | hq
      · exact n4 x hxq x (by simp) rfl
      · exact n2 ((zhH hl').mpr (.inr ⟨q, hq, hxq⟩))
    · rcases List.mem_cons.1 hq with rfl | hq
      · exact n4 x hxq x (List.mem_cons_of_mem _ ((zhH hl').mpr (.inl hx))) rfl
      · exact ziJ hl' n3 hx q hq hxq
theorem TopOf.apart {top t : T} (h : TopOf top t) (hn : t.ino.Nodup) : ∀ p ∈ parts top.ino t, ∀ x ∈ p.ino, x ∉ top.ino := fun p hp x hx hk => by
  rw [znv top.ino t, h] at hn
  exact ziJ (by rw [List.length_map, h.len, zby]) hn hk p.ino (List.mem_map_of_mem hp) hx
theorem mem_pre {x : Int} : ∀ {t : T}, x ∈ t.pre ↔ x ∈ t.ino
  | .nil => Iff.rfl
  | .node k l r => by simp only [T.pre, T.ino, List.mem_cons, List.mem_append, mem_pre (t := l), mem_pre (t := r)]; constructor <;> (rintro (a | a | a) <;> simp [a])
theorem zel {k : Int} {l r : T} : ∀ {xs ys : List Int}, (∀ x ∈ xs, x < k) -> (∀ y ∈ ys, ¬ y < k) -> (xs ++ ys).foldl (fun t x => ins x t) (.node k l r) = .node k (xs.foldl (fun t x => ins x t) l) (ys.foldl (fun t x => ins x t) r)
  | [], [], _, _ => rfl
  | [], y :: ys, h1, h2 => by
    have ih := zel (k := k) (l := l) (r := ins y r) (xs := []) (ys := ys) (fun _ h => nomatch h) fun z hz => h2 z (by simp [hz])
    have e : ins y (.node k l r) = .node k l (ins y r) := by
      show (if y < k then _ else _) = _
      rw [if_neg (h2 y (by simp))]
    simp only [List.nil_append, List.foldl_cons, List.foldl_nil, e] at ih ⊢
    exact ih
  | x :: xs, ys, h1, h2 => by
    have ih := zel (k := k) (l := ins x l) (r := r) (xs := xs) (ys := ys) (fun z hz => h1 z (by simp [hz])) h2
    have e : ins x (.node k l r) = .node k (ins x l) r := by
      show (if x < k then _ else _) = _
      rw [if_pos (h1 x (by simp))]
    simp only [List.cons_append, List.foldl_cons, e]
    exact ih
theorem zh3 : ∀ {p : T} {lo hi : Int}, p.B lo hi -> p.pre.foldl (fun t x => ins x t) .nil = p
  | .nil, _, _, _ => rfl
  | .node k l r, lo, hi, h => by
    obtain ⟨_, _, h1, h2⟩ := h
    show (l.pre ++ r.pre).foldl _ (ins k .nil) = _
    rw [show ins k .nil = .node k .nil .nil from rfl, zel (fun x hx => ((zbu l _ _).mp h1).1.lt x (mem_pre.mp hx) |>.2) (fun x hx => by have := ((zbu r _ _).mp h2).1.lt x (mem_pre.mp hx) |>.1; omega), zh3 h1, zh3 h2]
theorem zkH : ∀ {top : T} {ps : List T} {p : T}, ps.length = top.size + 1 -> p ∈ ps -> ∀ x ∈ p.ino, x ∈ (hung top ps).ino := fun {top ps p} hl hp x hx => by
  rw [zd4 hl]
  exact (zhH (by rw [List.length_map, hl, zby])).mpr (.inr ⟨p.ino, List.mem_map_of_mem hp, hx⟩)
theorem zgN : ∀ {top : T} {ps : List T} {lo hi : Int}, ps.length = top.size + 1 -> (hung top ps).B lo hi -> (ps.flatMap T.pre).foldl (fun t x => ins x t) top = hung top ps
  | .nil, ps, lo, hi, hl, h => by
    match ps, hl with
    | [p], _ =>
      show (p.pre ++ []).foldl _ _ = p
      rw [List.append_nil]
      exact zh3 (show p.B lo hi from h)
  | .node k l r, ps, lo, hi, hl, h => by
    simp only [T.size] at hl
    have l1 : (ps.take (l.size + 1)).length = l.size + 1 := by rw [List.length_take]; omega
    have l2 : (ps.drop (l.size + 1)).length = r.size + 1 := by rw [List.length_drop]; omega
    obtain ⟨_, _, h1, h2⟩ : _ /\ _ /\ (hung l (ps.take (l.size + 1))).B lo k /\ (hung r (ps.drop (l.size + 1))).B k hi := h
    have e : ps.flatMap T.pre = (ps.take (l.size + 1)).flatMap T.pre ++ (ps.drop (l.size + 1)).flatMap T.pre := by rw [<- List.flatMap_append, List.take_append_drop]
    rw [e, zel, zgN l1 h1, zgN l2 h2]
    · rfl
    · intro x hx
      obtain ⟨p, hp, hxp⟩ := List.mem_flatMap.mp hx
      exact (((zbu _ _ _).mp h1).1.lt x (zkH l1 hp x (mem_pre.mp hxp))).2
    · intro x hx
      obtain ⟨p, hp, hxp⟩ := List.mem_flatMap.mp hx
      have := (((zbu _ _ _).mp h2).1.lt x (zkH l2 hp x (mem_pre.mp hxp))).1
      omega
theorem zfn {S : List Int} : ∀ {t : T}, (∀ p ∈ parts S t, ∀ x ∈ p.ino, x ∉ S) -> t.pre.filter (fun x => decide (x ∉ S)) = (parts S t).flatMap T.pre
  | .nil, _ => rfl
  | .node k l r, h => by
    unfold parts at h ⊢
    split
    · rename_i q
      rw [if_pos q] at h
      simp only [T.pre]
      rw [List.filter_cons_of_neg (by simp [q]), List.filter_append, List.flatMap_append, zfn fun p hp => h p (by simp [hp]), zfn fun p hp => h p (by simp [hp])]
    · rename_i q
      rw [if_neg q] at h
      have h := h (.node k l r) (by simp)
      rw [List.filter_eq_self.mpr fun x hx => by simpa using h x (mem_pre.mp hx)]
      simp
theorem zjM {top t : T} {lo hi : Int} (h : TopOf top t) (hb : t.B lo hi) : (t.pre.filter (fun x => decide (x ∉ top.ino))).foldl (fun t x => ins x t) top = hung top (parts top.ino t) := by
  have u := ((zbu t _ _).mp hb)
  rw [zfn (h.apart u.1.nodup)]
  exact zgN h.len ((zbu _ lo hi).mpr (by rw [h.ino]; exact u))
theorem zej (S : List Int) : ∀ t : T, (old S t).ino.Sublist t.ino
  | .nil => List.Sublist.refl _
  | .node k l r => by
    unfold old
    split
    · simp only [T.ino]
      exact (zej S l).append ((zej S r).cons₂ k)
    · exact List.nil_sublist _
theorem zgC {S : List Int} : ∀ {t : T} {x : Int}, x ∈ (old S t).ino -> x ∈ S
  | .nil, _, h => nomatch h
  | .node k l r, x, h => by
    unfold old at h
    split at h
    · rename_i q
      simp only [T.ino, List.mem_append, List.mem_cons] at h
      rcases h with h | rfl | h
      · exact zgC h
      · exact q
      · exact zgC h
    · exact nomatch h
theorem zfS : ∀ {xs ys : List Int}, xs.Pairwise (· < ·) -> ys.Pairwise (· < ·) -> (∀ x, x ∈ xs ↔ x ∈ ys) -> xs = ys := fun h1 h2 h => by
  have p : List.Perm _ _ := (List.perm_ext_iff_of_nodup (h1.imp fun h => Int.ne_of_lt h) (h2.imp fun h => Int.ne_of_lt h)).mpr h
  exact List.Perm.eq_of_pairwise (le := (· < ·)) (fun a b _ _ x y => absurd x (by omega)) h1 h2 p
end Tr
end
section
namespace K20
open PySem L2 Ex Dv Tr
theorem ze2 {p : Prop} (h : ¬ p) : cd p = false := by cases q : cd p with | false => rfl | true => exact absurd (zeC q) h
theorem zeH (i : Int) : za2 [.int i] = some (.val (.bl (decide (0 <= i) && decide (i <= 30)))) := by
  by_cases h : 0 <= i <;> by_cases h' : i <= 30 <;> simp [za2, zes, zaW, zaL, gam, zcc, h, h']
theorem zcq : ∀ (t : T) (n : Nat), t.ht < n -> t.size <= 1000 -> zaw n [t.d] = some (.new (ofI t.ino))
  | .nil, n + 1, _, _ => by
    simp [zaw, zeu, zaW, zaL, gam, T.d, T.ino]
  | .node k l r, n + 1, h, hs => by
    have h1 : l.ht < n := by simp [T.ht] at h; omega
    have h2 : r.ht < n := by simp [T.ht] at h; omega
    simp [T.size] at hs
    have i1 := zcq l n h1 (by omega)
    have i2 := zcq r n h2 (by omega)
    have := line
    have e1 : 1 <= sizeLine := by omega
    have e2 : l.size + 1 <= sizeLine := by omega
    have e3 : l.size + (1 + r.size) <= sizeLine := by omega
    have e4 : l.size + 1 + r.size <= sizeLine := by omega
    simp [zaw, zeu, zaW, zaL, gam, T.d, T.ino, i1, i2, zby, e1, e2, e3, e4]
theorem zeQ : ∀ (t : T) (lo hi : Int) (n : Nat), t.ht < n -> t.B lo hi -> zan n [t.d, .int lo, .int hi] = some (.val (.bl true))
  | .nil, lo, hi, n + 1, _, _ => by
    simp [zan, zbr, zaW, zaL, gam, T.d]
  | .node k l r, lo, hi, n + 1, h, hb => by
    have h1 : l.ht < n := by simp [T.ht] at h; omega
    have h2 : r.ht < n := by simp [T.ht] at h; omega
    obtain ⟨⟨b1, b2⟩, ⟨b3, b4⟩, b5, b6⟩ := hb
    have i1 := zeQ l lo k n h1 b5
    have i2 := zeQ r k hi n h2 b6
    have q3 : zbk (.int 3) (.int 3) = some (.val (.bl false)) := zbN (by decide)
    simp [zan, zbr, zaW, zaL, gam, T.d, i1, i2, zeH, b1, b2, b3, b4, zcc, q3]
theorem zc8 {t : T} (h : t.ht < 48) (hb : t.B (-1) 31) : zaB [t.d] = some (.val (.bl true)) := by
  simp [zaB, zdL, zaW, zaL, gam, zeQ t (-1) 31 48 h hb]
theorem zek {t : T} (h : t.ht < 48) (hb : t.B (-1) 31) : zaE [t.d] = some (.ok (.val .non)) := by
  simp [zaE, zcH, zc3, zaL, gam, zc8 h hb]
theorem keys_eq {t : T} (h : t.ht < 48) (hb : t.B (-1) 31) : zbF [t.d] = some (.ok (.new (ofI t.ino))) := by
  have := zcp hb
  simp [zbF, zeG, zc3, zaL, gam, zek h hb, zcq t 48 h (by omega)]
theorem zqE (S : List Int) (k : Int) : (S.map D.int).any (fun e => eqF e (.int k)) = decide (k ∈ S) := by
  induction S with
  | nil => rfl
  | cons a r ih =>
    rw [List.map_cons, List.any_cons, ih]
    show ((a == k) || decide (k ∈ r)) = _
    by_cases h : a = k
    · subst h; simp
    · simp [h, Ne.symm h]
theorem zln (S : List Int) : (S.map D.int).all zcF = true := by
  induction S with
  | nil => rfl
  | cons a r ih => rw [List.map_cons, List.all_cons, ih]; rfl
theorem zct (neg : Bool) (S : List Int) (k : Int) : inO neg (.int k) (ofI S) = some (.val (.bl (if neg then !decide (k ∈ S) else decide (k ∈ S)))) := by
  show (if zcF (.int k) && (S.map D.int).all zcF then some (RV.val (.bl (if neg then !(S.map D.int).any (fun e => eqF e (.int k)) else (S.map D.int).any (fun e => eqF e (.int k))))) else none) = _
  rw [zqE, zln]
  rfl
theorem zp9 {α : Type} (x : α) (r : List α) : L2.atI (x :: r) 0 = some x := by simp [L2.atI, L2.ixN]
theorem zcR {S : List Int} : ∀ {t : T}, (parts S t).length <= t.size + 1
  | .nil => by simp [parts]
  | .node k l r => by
    unfold parts
    split
    · have := zcR (S := S) (t := l); have := zcR (S := S) (t := r); simp [T.size]; omega
    · simp
theorem parts_eq (S : List Int) : ∀ (t : T) (n : Nat), t.ht < n -> t.size <= 1000 -> zal n [t.d, ofI S] = some (.new (ofT (parts S t)))
  | .nil, n + 1, _, _ => by
    have := line
    have e1 : 1 <= sizeLine := by omega
    simp [zal, zbG, zaW, zaL, gam, T.d, parts, e1]
  | .node k l r, n + 1, h, hs => by
    have h1 : l.ht < n := by simp [T.ht] at h; omega
    have h2 : r.ht < n := by simp [T.ht] at h; omega
    simp [T.size] at hs
    have i1 := parts_eq S l n h1 (by omega)
    have i2 := parts_eq S r n h2 (by omega)
    have := line
    have e1 : 1 <= sizeLine := by omega
    have := zcR (S := S) (t := l)
    have := zcR (S := S) (t := r)
    have e2 : (parts S l).length + (parts S r).length <= sizeLine := by omega
    have a0 : L2.atI [D.int k, l.d, r.d] 0 = some (.int k) := rfl
    have a1 : L2.atI [D.int k, l.d, r.d] 1 = some l.d := rfl
    have a2 : L2.atI [D.int k, l.d, r.d] 2 = some r.d := rfl
    by_cases q : k ∈ S
    · simp [zal, zbG, zaW, zaL, gam, T.d, parts, e1, i1, i2, a0, a1, a2, zct, q, e2]
    · simp [zal, zbG, zaW, zaL, gam, T.d, parts, e1, i1, i2, a0, a1, a2, zct, q, e2]
theorem zch (i j : Int) : zbC (.int i) (.int j) = some (.val (.bl (decide (i = j)))) := by
  have : eqB (.int i) (.int j) = decide (i = j) := by show (i == j) = _; by_cases h : i = j <;> simp [h]
  rw [znu (by intro x z; cases z)]
  unfold eqO; rw [this]; rfl
theorem zeJ {α : Type} (xs : List α) (n : Nat) : zcQ xs none (some (n : Int)) = xs.take n := by
  unfold zcQ
  rw [HT.sIx_nat]
  simp [HT.sIx]
theorem zhS {α : Type} (xs : List α) (n : Nat) : zcQ xs (some (n : Int)) none = xs.drop n := by
  unfold zcQ
  rw [HT.sIx_nat]
  simp [HT.sIx]
  by_cases h : n <= xs.length
  · rw [Nat.min_eq_left h, List.take_of_length_le (by rw [List.length_drop]; omega)]
  · rw [Nat.min_eq_right (by omega), List.drop_eq_nil_of_le (by omega : xs.length <= n)]; simp
theorem zhE : ∀ (top : T) (ps : List T) (n : Nat), top.ht < n -> top.size <= 1000 -> top.ht < 48 -> ps.length = top.size + 1 -> zbQ n [top.d, ofT ps] = some (.val (hung top ps).d)
  | .nil, ps, n + 1, _, _, _, hl => by
    match ps, hl with
    | [p], _ =>
      simp [zbQ, zgg, zaW, zaL, gam, T.d, hung, zp9]
  | .node k l r, ps, n + 1, h, hs, h48, hl => by
    have h1 : l.ht < n := by simp [T.ht] at h; omega
    have h2 : r.ht < n := by simp [T.ht] at h; omega
    have h3 : l.ht < 48 := by simp [T.ht] at h48; omega
    have h4 : r.ht < 48 := by simp [T.ht] at h48; omega
    simp [T.size] at hs hl
    have i1 := zhE l (ps.take (l.size + 1)) n h1 (by omega) h3 (by rw [List.length_take]; omega)
    have i2 := zhE r (ps.drop (l.size + 1)) n h2 (by omega) h4 (by rw [List.length_drop]; omega)
    have := line
    have e1 : 3 <= sizeLine := by omega
    have c1 : zcQ (ps.map T.d) none (some ((l.size : Int) + 1)) = (ps.map T.d).take (l.size + 1) := by
      have := zeJ (ps.map T.d) (l.size + 1)
      exact_mod_cast this
    have c2 : zcQ (ps.map T.d) (some ((l.size : Int) + 1)) none = (ps.map T.d).drop (l.size + 1) := by
      have := zhS (ps.map T.d) (l.size + 1)
      exact_mod_cast this
    simp only [ofT, List.map_take, List.map_drop] at i1 i2
    simp [zbQ, zgg, zaW, zaL, gam, T.d, hung, e1, zcq l 48 h3 (by omega), zby, c1, c2, i1, i2]
theorem zmK : ∀ {F G : List Int}, F.Nodup -> (∀ x ∈ F, x ∈ G) -> G.length <= F.length -> ∀ x ∈ G, x ∈ F
  | [], G, _, _, h, x, hx => by cases G with | nil => cases hx | cons _ _ => simp at h
  | a :: F, G, hn, hs, h, x, hx => by
    rw [List.nodup_cons] at hn
    have ha := hs a (List.mem_cons_self ..)
    by_cases e : x = a
    · rw [e]; exact List.mem_cons_self ..
    · have l1 : (G.erase a).length = G.length - 1 := List.length_erase_of_mem ha
      have lp := List.length_pos_of_mem ha
      refine List.mem_cons_of_mem _ (zmK (G := G.erase a) hn.2 (fun y hy => ?_) (by rw [l1]; simp at h; omega) x ((List.mem_erase_of_ne e).mpr hx))
      exact (List.mem_erase_of_ne (fun z => hn.1 (by rw [<- z]; exact hy))).mpr (hs y (List.mem_cons_of_mem _ hy))
theorem zop {t top : T} {lo hi lo' hi' : Int} (h2 : t.B lo hi) (h4 : top.B lo' hi') : (parts top.ino t).length = top.size + 1 ↔ TopOf top t := by
  constructor
  · intro h
    rw [zcV] at h
    have sz : (old top.ino t).ino.length = top.ino.length := by rw [zby, zby]; omega
    have u1 : t.ino.Pairwise (· < ·) := Up.pw ((zbu t lo hi).mp h2).1
    have u2 : top.ino.Pairwise (· < ·) := Up.pw ((zbu top lo' hi').mp h4).1
    have u3 : (old top.ino t).ino.Pairwise (· < ·) := u1.sublist (zej _ _)
    have nd : (old top.ino t).ino.Nodup := u3.imp fun h => by omega
    exact zfS u3 u2 fun x => ⟨fun hx => zgC hx, fun hx => zmK nd (fun y hy => zgC hy) (by omega) x hx⟩
  · exact fun h => h.len
theorem zfD {t top : T} (h1 : t.ht < 48) (h2 : t.B (-1) 31) (h3 : top.ht < 48) (h4 : top.B (-1) 31) : zaZ [t.d, top.d] = some (.ok (.val (.bl (cd (top ≠ .nil /\ TopOf top t))))) := by
  have s1 := zcp h2
  have s2 := zcp h4
  cases top with
  | nil =>
    have z : cd (T.nil ≠ .nil /\ TopOf .nil t) = false := ze2 fun h => h.1 rfl
    simp [-ne_eq, z, zaZ, zcs, zc3, zaL, gam, zek h1 h2, T.d]
  | node k l r =>
    have n1 : isNone (T.node k l r).d = false := rfl
    have iff := zop h2 h4
    generalize hg : T.node k l r = top at *
    have nn : top ≠ .nil := by rw [<- hg]; intro z; cases z
    have e := zch ((parts top.ino t).length : Int) ((top.size : Int) + 1)
    by_cases q : TopOf top t
    · have : ((parts top.ino t).length : Int) = (top.size : Int) + 1 := by have := iff.mpr q; omega
      rw [decide_eq_true this] at e
      rw [zda ⟨nn, q⟩]
      simp [zaZ, zcs, zc3, zaL, gam, zek h1 h2, zc8 h3 h4, zcq top 48 h3 (by omega), parts_eq top.ino t 48 h1 (by omega), n1, e, zby]
    · have : ¬ ((parts top.ino t).length : Int) = (top.size : Int) + 1 := fun z => q (iff.mp (by omega))
      rw [decide_eq_false this] at e
      rw [ze2 fun h => q h.2]
      simp [zaZ, zcs, zc3, zaL, gam, zek h1 h2, zc8 h3 h4, zcq top 48 h3 (by omega), parts_eq top.ino t 48 h1 (by omega), n1, e, zby]
theorem turned_eq {t top : T} (h1 : t.ht < 48) (h2 : t.B (-1) 31) (h3 : top.ht < 48) (h4 : top.B (-1) 31) (h5 : top ≠ .nil) (h6 : TopOf top t) : zbV [t.d, top.d] = some (.ok (.val (hung top (parts top.ino t)).d)) := by
  have s1 := zcp h2
  have s2 := zcp h4
  have it := zfD h1 h2 h3 h4
  rw [zda ⟨h5, h6⟩] at it
  simp [zbV, zfo, zc3, zaL, gam, it, zcq top 48 h3 (by omega), parts_eq top.ino t 48 h1 (by omega), zhE top (parts top.ino t) 48 h3 (by omega) h3 h6.len]
theorem ahead_eq : ∀ (t : T) (n : Nat), t.ht < n -> t.size <= 1000 -> zaf n [t.d] = some (.new (ofI t.pre))
  | .nil, n + 1, _, _ => by
    simp [zaf, zbP, zaW, zaL, gam, T.d, T.pre]
  | .node k l r, n + 1, h, hs => by
    have h1 : l.ht < n := by simp [T.ht] at h; omega
    have h2 : r.ht < n := by simp [T.ht] at h; omega
    simp [T.size] at hs
    have i1 := ahead_eq l n h1 (by omega)
    have i2 := ahead_eq r n h2 (by omega)
    have := line
    have pl : ∀ t : T, t.pre.length = t.size := fun t => by
      induction t with
      | nil => rfl
      | node k l r a b => simp [T.pre, T.size, a, b]
    have e1 : 1 <= sizeLine := by omega
    have e2 : 1 + l.size <= sizeLine := by omega
    have e2' : l.size + 1 <= sizeLine := by omega
    have e3 : l.size + 1 + r.size <= sizeLine := by omega
    have e4 : 1 + l.size + r.size <= sizeLine := by omega
    have a0 : L2.atI [D.int k, l.d, r.d] 0 = some (.int k) := rfl
    have a1 : L2.atI [D.int k, l.d, r.d] 1 = some l.d := rfl
    have a2 : L2.atI [D.int k, l.d, r.d] 2 = some r.d := rfl
    simp [zaf, zbP, zaW, zaL, gam, T.d, T.pre, i1, i2, a0, a1, a2, pl, e1, e2, e2', e3, e4]
theorem zjH (x : Int) : ∀ (t : T) (n : Nat), t.ht < n -> zaR n [t.d, .int x] = some (.val (ins x t).d)
  | .nil, n + 1, _ => by
    have := line
    have e1 : 3 <= sizeLine := by omega
    simp [zaR, zcE, zaW, zaL, gam, T.d, ins, e1]
  | .node k l r, n + 1, h => by
    have h1 : l.ht < n := by simp [T.ht] at h; omega
    have h2 : r.ht < n := by simp [T.ht] at h; omega
    have i1 := zjH x l n h1
    have i2 := zjH x r n h2
    have := line
    have e1 : 3 <= sizeLine := by omega
    have a0 : L2.atI [D.int k, l.d, r.d] 0 = some (.int k) := rfl
    have a1 : L2.atI [D.int k, l.d, r.d] 1 = some l.d := rfl
    have a2 : L2.atI [D.int k, l.d, r.d] 2 = some r.d := rfl
    by_cases q : x < k
    · simp [zaR, zcE, zaW, zaL, gam, T.d, ins, e1, i1, i2, a0, a1, a2, q]
    · simp [zaR, zcE, zaW, zaL, gam, T.d, ins, e1, i1, i2, a0, a1, a2, q]
abbrev pl (c s : Int) : List D := [.int c, .int s]
def Sd (s : Int) : Prop := 0 <= s /\ s < 2147483648
theorem zij (a b : D) : L2.atI [a, b] 0 = some a := rfl
theorem zg4 (a b : D) : L2.atI [a, b] 1 = some b := rfl
theorem zrp : L2.ixN 2 0 = some 0 := rfl
theorem zqR : L2.ixN 2 1 = some 1 := rfl
theorem zb9 {c s m : Int} (h : Sd s) (hm : 0 < m) (hm2 : m < 1073741824) : ∃ x c' s', zae (pl c s) [.int m] = some (.val (.int x), pl c' s') /\ (0 <= x /\ x < m) /\ Sd s' := by
  obtain ⟨h1, h2⟩ := h
  have m1 := zdw (i := s) (j := 48271) (by omega)
  by_cases hc : 0 < c
  · refine ⟨c % m, c / m, s, ?_, ⟨Int.emod_nonneg _ (by omega), Int.emod_lt_of_pos _ hm⟩, h1, h2⟩
    simp [zae, zcO, zf1, zgM, zaL, zeM, zij, zg4, zrp, zqR, hc, hm, hm2]
  · have q1 : 0 <= (s * 48271 + 11) % 2147483647 := Int.emod_nonneg _ (by decide)
    have q2 : (s * 48271 + 11) % 2147483647 < 2147483647 := Int.emod_lt_of_pos _ (by decide)
    have m2 := zdw (i := (s * 48271 + 11) % 2147483647) (j := (s * 48271 + 11) % 2147483647) (by omega)
    refine ⟨(s * 48271 + 11) % 2147483647 * ((s * 48271 + 11) % 2147483647) % 2147483629 / 64 % m, c, (s * 48271 + 11) % 2147483647, ?_, ⟨Int.emod_nonneg _ (by omega), Int.emod_lt_of_pos _ hm⟩, q1, by omega⟩
    simp [zae, zcO, zf1, zgM, zaL, zeM, zij, zg4, zrp, zqR, hc, hm, hm2, m1, m2]
theorem zob (ns : List Int) (k : Nat) (hk : k < 100) : ∃ c, za9 [.scr ns, .int k] = some (.val (.int c)) := by
  by_cases h : k < ns.length
  · refine ⟨ns[k], ?_⟩
    have a : L2.atI ns (k : Int) = some ns[k] := zdE (List.getElem?_eq_getElem h)
    simp [za9, zb8, zaW, zaL, gam, a, h]
  · refine ⟨0, ?_⟩
    simp [za9, zb8, zaW, zaL, gam, h]
theorem zoB (ns : List Int) (k : Nat) (hk : k < 100) : ∃ c s, zbg [.scr ns, .int k] = some (.new (.lst (pl c s))) /\ Sd s := by
  obtain ⟨c, hc⟩ := zob ns k hk
  have q1 : 0 <= c % 2147483629 := Int.emod_nonneg _ (by decide)
  have q2 : c % 2147483629 < 2147483629 := Int.emod_lt_of_pos _ (by decide)
  have k1 := zdw (i := 7919) (j := k) (by omega)
  have k2 : zfX (7919 * (k : Int)) k = true := zdw (by omega)
  have k3 := zdw (i := 104729) (j := k) (by omega)
  have hkk : (k : Int) * k <= 10000 := by
    have : k * k <= 100 * 100 := Nat.mul_le_mul (by omega) (by omega)
    exact_mod_cast this
  have hk0 : 0 <= (k : Int) * k := by exact_mod_cast Nat.zero_le (k * k)
  have e1 : 7919 * (k : Int) * k = 7919 * ((k : Int) * k) := by rw [Int.mul_assoc]
  have k4 : zfX (c % 2147483629 + 7919 * (k : Int) * k + 104729 * k + 1) 48271 = true := zdw (by omega)
  generalize hs : (c % 2147483629 + 7919 * (k : Int) * k + 104729 * k + 1) * 48271 % 2147483647 = s
  have s1 : 0 <= s := by rw [<- hs]; exact Int.emod_nonneg _ (by decide)
  have s2 : s < 2147483647 := by rw [<- hs]; exact Int.emod_lt_of_pos _ (by decide)
  have k5 : zfX s s = true := zdw (by omega)
  have ln := line
  have l2 : 2 <= sizeLine := by omega
  by_cases hd : c < E18
  · refine ⟨0, s * s % 2147483629, ?_, Int.emod_nonneg _ (by decide), Int.lt_trans (Int.emod_lt_of_pos _ (by decide)) (by decide)⟩
    simp [zbg, zcP, zaW, zaL, gam, hc, zo8, k1, k2, k3, k4, hs, k5, hd, l2]
  · refine ⟨c, s * s % 2147483629, ?_, Int.emod_nonneg _ (by decide), Int.lt_trans (Int.emod_lt_of_pos _ (by decide)) (by decide)⟩
    simp [zbg, zcP, zaW, zaL, gam, hc, zo8, k1, k2, k3, k4, hs, k5, hd, l2]
theorem zl5 (lo : Int) (n : Nat) : (upI lo n).length = n := by simp [upI]
theorem zqV {lo : Int} {n i : Nat} {d : D} (h : (upI lo n)[i]? = some d) : d = .int (lo + i) /\ i < n := by
  unfold upI at h
  rw [List.getElem?_map] at h
  cases q : (List.range n)[i]? with
  | none => rw [q] at h; cases h
  | some j =>
    rw [q] at h
    cases h
    obtain ⟨h1, h2⟩ := List.getElem?_eq_some_iff.mp q
    rw [List.getElem_range] at h2
    subst h2
    exact ⟨rfl, by simpa using h1⟩
theorem zfg (ns : List Int) (x : Int) : x ∈ srt ns ↔ x ∈ ns := (zdZ ns).mem_iff
theorem znN {ns : List Int} (h : ns.Nodup) : (srt ns).Pairwise (· < ·) := by
  have h1 := znb ns
  have h2 : (srt ns).Pairwise (· ≠ ·) := (zdZ ns).symm.nodup h
  exact (h1.and h2).imp fun ⟨a, b⟩ => by omega
theorem zla {ns : List Int} (h : ns.length < 64) : zeV [ofI ns] = some (.new (ofI (srt ns))) := by
  show (zhT (ns.map D.int)).bind _ = _
  rw [zmc]
  show (if ns.length < 64 then _ else _) = _
  rw [if_pos h]
theorem zfK {α β : Type} (f : α -> β) (xs : List α) (i : Int) : L2.atI (xs.map f) i = (L2.atI xs i).map f := by
  unfold L2.atI
  rw [List.length_map]
  cases ixN xs.length i with
  | none => rfl
  | some j => simp
theorem zdi (ns : List Int) : zbC (ofI ns) (.lst []) = some (.val (.bl ns.isEmpty)) := by
  rw [znu (by intro x z; cases z)]
  unfold eqO
  rw [zgc, show zeL (.lst []) = true from zgc [], zj7]
  simp
theorem zep : ∀ (n : Nat) (ks : List Int) (c s : Int), ks.length < n -> ks.length <= 100 -> Sd s -> ∃ t c' s', zam n (pl c s) [ofI ks] = some (.val (T.d t), pl c' s') /\ Sd s' /\ t.ino = ks
  | 0, ks, c, s, h, _, _ => by omega
  | n + 1, ks, c, s, h, hs, hd => by
    have ln := line
    have e0 : 0 <= sizeLine := by omega
    have e3 : 3 <= sizeLine := by omega
    cases ks with
    | nil =>
      have q := zdi []
      refine ⟨.nil, c, s, ?_, hd, rfl⟩
      simp [zam, zcS, zf1, zgM, zaL, zeM, e0, q, T.d]
    | cons k0 kr =>
      have q := zdi (k0 :: kr)
      obtain ⟨x, c1, s1, hx, hx1, hs1⟩ := zb9 (c := c) (m := ((k0 :: kr).length : Nat)) hd (by simp only [List.length_cons]; omega) (by simp only [List.length_cons] at hs ⊢; omega)
      obtain ⟨i, rfl⟩ : ∃ i : Nat, x = i := ⟨x.toNat, by omega⟩
      have hi : i < (k0 :: kr).length := by omega
      generalize hks : k0 :: kr = ks at *
      have cl : zcQ (ks.map D.int) none (some (i : Int)) = (ks.take i).map D.int := by rw [zeJ, List.map_take]
      have ch : zcQ (ks.map D.int) (some ((i : Int) + 1)) none = (ks.drop (i + 1)).map D.int := by
        have := zhS (ks.map D.int) (i + 1)
        rw [List.map_drop]; exact_mod_cast this
      have a : L2.atI (ks.map D.int) (i : Int) = some (.int ks[i]) := by rw [zfK, zdE (List.getElem?_eq_getElem hi)]; rfl
      obtain ⟨l, c2, s2, h2, hs2, l2⟩ := zep n (ks.take i) c1 s1 (by rw [List.length_take]; omega) (by rw [List.length_take]; omega) hs1
      obtain ⟨r, c3, s3, h3, hs3, l3⟩ := zep n (ks.drop (i + 1)) c2 s2 (by rw [List.length_drop]; omega) (by rw [List.length_drop]; omega) hs2
      have ne : ks.isEmpty = false := by rw [<- hks]; rfl
      rw [ne] at q
      refine ⟨.node ks[i] l r, c3, s3, ?_, hs3, ?_⟩
      · simp only [ofI] at h2 h3
        rw [<- cl] at h2
        rw [<- ch] at h3
        simp [zam, zcS, zf1, zgM, zaL, zeM, e0, e3, q, hx, a, h2, h3, T.d]
      · simp only [T.ino, l2, l3]
        rw [<- List.drop_eq_getElem_cons hi, List.take_append_drop]
theorem zgu (x : Int) : ∀ t : T, (ins x t).size = t.size + 1
  | .nil => rfl
  | .node k l r => by
    unfold ins
    split
    · simp [T.size, zgu x l]; omega
    · simp [T.size, zgu x r]; omega
theorem zfG : ∀ (xs : List Int) (t : T), (xs.foldl (fun t x => ins x t) t).size = t.size + xs.length
  | [], t => rfl
  | x :: r, t => by rw [List.foldl_cons, zfG r, zgu]; simp; omega
theorem zeD {t top : T} (h1 : t.B (-1) 31) (h2 : top.B (-1) 31) (h : TopOf top t) : zax [t.d, top.d] = some (.val (hung top (parts top.ino t)).d) := by
  have s1 := zcp h1
  have s2 := zcp h2
  have t1 := zdF t
  have t2 := zdF top
  have fin := zjM h h1
  have fs : top.size + (t.pre.filter (fun x => decide (x ∉ top.ino))).length <= 31 := by
    rw [<- zfG, fin, <- zby, h.ino, zby]; exact s1
  have a1 := ahead_eq t 48 (by omega) (by omega)
  have a2 := ahead_eq top 48 (by omega) (by omega)
  have mp : ∀ x, (x ∈ top.pre) = (x ∈ top.ino) := fun x => propext mem_pre
  obtain ⟨Γ', hl, x, hx⟩ := zdu (m := gN 4) (s := ifM (M.bind (op2 (inO true) (zaa 4) (zaa 2)) asB) (zaM 3 (zar (zaR 48) (Zj (zaa 3) (Zj (zaa 4) (M.pure []))))) (M.pure .nx))
    (fun i Γ => ∃ x : Sl, Γ = [some (.frz, t.d), some (.frz, top.d), some (.own, ofI top.pre), some (.frz, (((t.pre.take i).filter (fun x => decide (x ∉ top.ino))).foldl (fun t x => ins x t) top).d), x])
    (ds := t.pre.map D.int) (Γ := [some (.frz, t.d), some (.frz, top.d), some (.own, ofI top.pre), some (.frz, top.d), none]) ⟨none, rfl⟩ (by
      rintro i d Γ hd ⟨x, rfl⟩
      rw [List.getElem?_map] at hd
      cases q : t.pre[i]? with
      | none => rw [q] at hd; cases hd
      | some k =>
        rw [q] at hd
        cases hd
        have tk : t.pre.take (i + 1) = t.pre.take i ++ [k] := by rw [List.take_add_one, q]; rfl
        have sub : ((t.pre.take i).filter (fun x => decide (x ∉ top.ino))).length <= (t.pre.filter (fun x => decide (x ∉ top.ino))).length := ((List.take_sublist i t.pre).filter _).length_le
        generalize hT : ((t.pre.take i).filter (fun x => decide (x ∉ top.ino))).foldl (fun t x => ins x t) top = T0
        have sz : T0.size <= 31 := by rw [<- hT, zfG]; omega
        have pe := zjH k T0 48 (by have := zdF T0; omega)
        by_cases m : k ∈ top.ino
        · refine ⟨_, [some (.frz, t.d), some (.frz, top.d), some (.own, ofI top.pre), some (.frz, T0.d), some (.frz, .int k)], rfl, .inl ?_, some (.frz, .int k), ?_⟩
          · simp [zct, mp, m]
          · rw [tk, List.filter_append, List.foldl_append, hT]
            simp [m]
        · refine ⟨_, [some (.frz, t.d), some (.frz, top.d), some (.own, ofI top.pre), some (.frz, (ins k T0).d), some (.frz, .int k)], rfl, .inl ?_, some (.frz, .int k), ?_⟩
          · simp [zct, mp, m, pe]
          · rw [tk, List.filter_append, List.foldl_append, hT]
            simp [m])
  rw [List.length_map, List.take_length, fin] at hx
  subst hx
  simp [zax, zc2, zaW, zaL, gam, a1, a2, hl]
end K20
end
section
namespace K20
open PySem L2 Ex Dv Tr
def way (k : Int) : T -> List Int
  | .nil => []
  | .node x l r => x :: (if x = k then [] else if k < x then way k l else way k r)
theorem zhG (k : Int) : ∀ t : T, (way k t).length <= t.ht
  | .nil => by simp [way, T.ht]
  | .node x l r => by
    have := zhG k l
    have := zhG k r
    simp only [way, T.ht, List.length_cons]
    split
    · simp
    · split <;> omega
noncomputable def zg5 : M Bool := andM (M.bind (op2 ziP (zaa 0) (M.pure (.val .non))) asB) (orM (M.bind (op2 zbC (zaa 2) (lstM (M.pure []))) asB) (M.bind (op2 zbk (op2 zaJ (zaa 2) (op1 zdO (M.pure (.val (.int 1))))) (zaa 1)) asB))
noncomputable def zk5 : M Fl := zak (zd8 (zjB 2 zdg (Zj (op2 zaJ (zaa 0) (M.pure (.val (.int 0)))) (M.pure []))))
  (zaM 0 (op2 zaJ (lstM (Zj (op2 zaJ (zaa 0) (M.pure (.val (.int 2)))) (Zj (op2 zaJ (zaa 0) (M.pure (.val (.int 1)))) (M.pure [])))) (zaV zhy (Zj (op2 ltO (zaa 1) (op2 zaJ (zaa 0) (M.pure (.val (.int 0))))) (M.pure [])))))
theorem zfl (i j : Int) : zbk (.int i) (.int j) = some (.val (.bl (!decide (i = j)))) := by
  have : eqB (.int i) (.int j) = decide (i = j) := by show (i == j) = _; by_cases h : i = j <;> simp [h]
  rw [zmB (fun _ => by simp)]
  unfold neO
  rw [this]
  rfl
theorem zgj {xs : List Int} {x : Int} : L2.atI ((xs ++ [x]).map D.int) (-1) = some (.int x) := by
  have e : L2.ixN ((xs ++ [x]).map D.int).length (-1) = some xs.length := by
    have l : ((xs ++ [x]).map D.int).length = xs.length + 1 := by simp
    rw [l]
    unfold L2.ixN
    simp
    omega
  unfold L2.atI
  rw [e]
  simp
theorem zgU (k : Int) : ∀ (t : T) (F : List Int) (n : Nat), t.ht < n -> (F = [] \/ ∃ F' x, F = F' ++ [x] /\ x ≠ k) -> F.length + t.ht < 1000 ->
    ∃ Γ0, zb1 zg5 zk5 n [some (.frz, t.d), some (.frz, .int k), some (.own, ofI F)] = .ok .nx [Γ0, some (.frz, .int k), some (.own, ofI (F ++ way k t))]
  | .nil, F, n + 1, _, hF, _ => by
    refine ⟨some (.frz, .non), ?_⟩
    rw [zer]
    simp [zg5, T.d, way]
  | .node x l r, F, n + 1, hn, hF, hl => by
    have ln := line
    have h1 : l.ht < n := by simp [T.ht] at hn; omega
    have h2 : r.ht < n := by simp [T.ht] at hn; omega
    simp [T.ht] at hl
    have s0 : 0 <= sizeLine := by omega
    have s2 : 2 <= sizeLine := by omega
    have sF : F.length < sizeLine := by omega
    have a0 : L2.atI [D.int x, l.d, r.d] 0 = some (.int x) := rfl
    have a1 : L2.atI [D.int x, l.d, r.d] 1 = some l.d := rfl
    have a2 : L2.atI [D.int x, l.d, r.d] 2 = some r.d := rfl
    have b0 : L2.atI [r.d, l.d] 0 = some r.d := rfl
    have b1 : L2.atI [r.d, l.d] 1 = some l.d := rfl
    have c : zg5 [some (.frz, (T.node x l r).d), some (.frz, .int k), some (.own, ofI F)] = .ok true [some (.frz, (T.node x l r).d), some (.frz, .int k), some (.own, ofI F)] := by
      rcases hF with rfl | ⟨F', y, rfl, hy⟩
      · have e : zbC (ofI []) (.lst []) = some (.val (.bl true)) := zdi []
        simp [zg5, T.d, s0, e]
      · have e := zdi (F' ++ [y])
        have e : zbC (ofI (F' ++ [y])) (.lst []) = some (.val (.bl false)) := by rw [e]; simp
        have nl := zfl y k
        rw [decide_eq_false hy] at nl
        have al := zgj (xs := F') (x := y)
        generalize F' ++ [y] = G at *
        simp [zg5, T.d, s0, e, al, nl]
    have step : ∃ c', zk5 [some (.frz, (T.node x l r).d), some (.frz, .int k), some (.own, ofI F)] = .ok .nx [some (.frz, (if k < x then l else r).d), some (.frz, .int k), some (.own, ofI (F ++ [x]))] /\ c' = () := by
      refine ⟨(), ?_, rfl⟩
      by_cases q : k < x <;> simp [zk5, T.d, a0, a1, a2, sF, s2, q, b0, b1]
    obtain ⟨_, step, _⟩ := step
    by_cases e : x = k
    · subst e
      have : n ≠ 0 := by omega
      obtain ⟨m, rfl⟩ : ∃ m, n = m + 1 := ⟨n - 1, by omega⟩
      refine ⟨some (.frz, r.d), ?_⟩
      rw [zer, c]
      simp only [step]
      rw [zer]
      have e1 := zdi (F ++ [x])
      have e1 : zbC (ofI (F ++ [x])) (.lst []) = some (.val (.bl false)) := by rw [e1]; simp
      have nl := zfl x x
      rw [decide_eq_true rfl] at nl
      have al := zgj (xs := F) (x := x)
      have w : way x (.node x l r) = [x] := by simp [way]
      rw [w]
      generalize F ++ [x] = G at *
      simp only [Int.lt_irrefl, if_false]
      cases r with
      | nil => simp [zg5, T.d]
      | node _ _ _ => simp [zg5, T.d, s0, e1, al, nl]
    · have w : way k (.node x l r) = x :: way k (if k < x then l else r) := by
        rw [way, if_neg e]
        split <;> rfl
      have hsub : (if k < x then l else r).ht < n /\ (F ++ [x]).length + (if k < x then l else r).ht < 1000 := by
        simp  only [List.length_append, List.length_singleton]
        split <;> omega
      obtain ⟨Γ0, ih⟩ : ∃ Γ0, zb1 zg5 zk5 n [some (.frz, (if k < x then l else r).d), some (.frz, .int k), some (.own, ofI (F ++ [x]))] = .ok .nx [Γ0, some (.frz, .int k), some (.own, ofI ((F ++ [x]) ++ way k (if k < x then l else r)))] := by
        by_cases q : k < x
        · rw [if_pos q] at hsub ⊢
          exact zgU k l (F ++ [x]) n hsub.1 (.inr ⟨F, x, rfl, e⟩) hsub.2
        · rw [if_neg q] at hsub ⊢
          exact zgU k r (F ++ [x]) n hsub.1 (.inr ⟨F, x, rfl, e⟩) hsub.2
      refine ⟨Γ0, ?_⟩
      rw [zer, c]
      simp only [step]
      rw [ih, w]
      simp
theorem zjw (k : Int) {t : T} (h : t.ht < 500) : zaK [t.d, .int k] = some (.new (ofI (way k t))) := by
  have ln := line
  have s0 : 0 <= sizeLine := by omega
  obtain ⟨Γ0, hw⟩ := zgU k t [] zfB (by unfold zfB; omega) (.inl rfl) (by simp; omega)
  have e : zdR = zak (zaM 2 (lstM (M.pure []))) (zak (zb1 zg5 zk5 zfB) (zaP (zaa 2))) := rfl
  have hw : zb1 zg5 zk5 zfB [some (.frz, t.d), some (.frz, .int k), some (.own, .lst [])] = .ok .nx [Γ0, some (.frz, .int k), some (.own, ofI (way k t))] := by rw [List.nil_append] at hw; exact hw
  unfold zaK
  rw [e]
  simp [zaW, zaL, gam, s0, hw]
theorem zgk {S : List Int} {k : Int} : ∀ {t : T} {lo hi : Int}, t.B lo hi -> (k ∈ (old S t).ino ↔ k ∈ t.ino /\ ∀ x ∈ way k t, x ∈ S)
  | .nil, _, _, _ => by simp [old, T.ino]
  | .node x l r, lo, hi, hb => by
    obtain ⟨⟨b1, b2⟩, ⟨b3, b4⟩, b5, b6⟩ := hb
    have i1 := zgk (S := S) (k := k) b5
    have i2 := zgk (S := S) (k := k) b6
    have l1 : ∀ y ∈ l.ino, y < x := fun y hy => (Up.lt ((zbu l _ _).mp b5).1 y hy).2
    have r1 : ∀ y ∈ r.ino, x < y := fun y hy => (Up.lt ((zbu r _ _).mp b6).1 y hy).1
    unfold old
    by_cases hx : x ∈ S
    · rw [if_pos hx]
      simp only [T.ino, List.mem_append, List.mem_cons, way]
      by_cases e : x = k
      · subst e
        simp [hx]
      · rw [if_neg e]
        by_cases q : k < x
        · rw [if_pos q]
          have n1 : k ∉ (old S r).ino := fun z => by have := r1 k ((zej S r).mem z); omega
          have n2 : k ∉ r.ino := fun z => by have := r1 k z; omega
          constructor
          · rintro (z | z | z)
            · exact ⟨.inl (i1.mp z).1, fun y hy => hy.elim (fun h => h ▸ hx) ((i1.mp z).2 y)⟩
            · exact absurd z.symm e
            · exact absurd z n1
          · rintro ⟨z | z | z, h⟩
            · exact .inl (i1.mpr ⟨z, fun y hy => h y (.inr hy)⟩)
            · exact absurd z.symm e
            · exact absurd z n2
        · rw [if_neg q]
          have n1 : k ∉ (old S l).ino := fun z => by have := l1 k ((zej S l).mem z); omega
          have n2 : k ∉ l.ino := fun z => by have := l1 k z; omega
          constructor
          · rintro (z | z | z)
            · exact absurd z n1
            · exact absurd z.symm e
            · exact ⟨.inr (.inr (i2.mp z).1), fun y hy => hy.elim (fun h => h ▸ hx) ((i2.mp z).2 y)⟩
          · rintro ⟨z | z | z, h⟩
            · exact absurd z n2
            · exact absurd z.symm e
            · exact .inr (.inr (i2.mpr ⟨z, fun y hy => h y (.inr hy)⟩))
    · rw [if_neg hx]
      simp only [T.ino, List.not_mem_nil, false_iff]
      rintro ⟨_, h⟩
      exact hx (h x (by simp [way]))
theorem zd3 {k : Int} : ∀ {t : T} {lo hi : Int}, t.B lo hi -> (k ∈ t.ino ↔ (way k t).getLast? = some k)
  | .nil, _, _, _ => by simp [way, T.ino]
  | .node x l r, lo, hi, hb => by
    obtain ⟨⟨b1, b2⟩, ⟨b3, b4⟩, b5, b6⟩ := hb
    have l1 : ∀ y ∈ l.ino, y < x := fun y hy => (Up.lt ((zbu l _ _).mp b5).1 y hy).2
    have r1 : ∀ y ∈ r.ino, x < y := fun y hy => (Up.lt ((zbu r _ _).mp b6).1 y hy).1
    simp only [T.ino, List.mem_append, List.mem_cons, way]
    by_cases e : x = k
    · subst e; simp
    · rw [if_neg e]
      by_cases q : k < x
      · rw [if_pos q]
        have n2 : k ∉ r.ino := fun z => by have := r1 k z; omega
        have i1 := zd3 (k := k) b5
        cases hw : way k l with
        | nil =>
          rw [hw] at i1
          simp at i1
          simp [i1, n2, Ne.symm e, e]
        | cons y ys =>
          rw [hw] at i1
          rw [List.getLast?_cons_cons]
          rw [<- i1]
          simp [n2, Ne.symm e]
      · rw [if_neg q]
        have n2 : k ∉ l.ino := fun z => by have := l1 k z; omega
        have i1 := zd3 (k := k) b6
        cases hw : way k r with
        | nil =>
          rw [hw] at i1
          simp at i1
          simp [i1, n2, Ne.symm e, e]
        | cons y ys =>
          rw [hw] at i1
          rw [List.getLast?_cons_cons]
          rw [<- i1]
          simp [n2, Ne.symm e]
theorem zjY {t top : T} {lo hi lo' hi' : Int} (h2 : t.B lo hi) (h4 : top.B lo' hi') : TopOf top t ↔ ∀ k ∈ top.ino, k ∈ t.ino /\ ∀ x ∈ way k t, x ∈ top.ino := by
  constructor
  · intro h k hk
    have h' : (old top.ino t).ino = top.ino := h
    rw [<- h'] at hk
    exact (zgk h2).mp hk
  · intro h
    have u1 : t.ino.Pairwise (· < ·) := Up.pw ((zbu t lo hi).mp h2).1
    have u2 : top.ino.Pairwise (· < ·) := Up.pw ((zbu top lo' hi').mp h4).1
    exact zfS (u1.sublist (zej _ _)) u2 fun x => ⟨fun hx => zgC hx, fun hx => (zgk h2).mpr (h x hx)⟩
end K20
end
section
namespace K20
open PySem L2 Ex Dv Tr
inductive Tp where
  | tr (t : T) | word | tru
def Tp.d : Tp -> D
  | .tr t => t.d
  | .word => .str "top"
  | .tru => .tup [.bl true, .non, .non]
def Tp.ok : Tp -> Prop
  | .tr t => t.B (-1) 31
  | _ => True
noncomputable def fit (t : T) (a : Int) : Tp -> Option T
  | .tr u => open Classical in if u ≠ .nil /\ TopOf u t /\ a ∈ u.ino then some (hung u (parts u.ino t)) else none
  | _ => none
noncomputable def bad : Nat -> T -> List Int -> List Tp -> Option Nat
  | i, t, a :: as, p :: ps => match fit t a p with
    | none => some i
    | some t' => bad (i + 1) t' as ps
  | _, _, _, _ => none
theorem znw {t t' : T} {a : Int} {p : Tp} (h : fit t a p = some t') (hb : t.B (-1) 31) : t'.B (-1) 31 /\ t'.ino = t.ino := by
  cases p with
  | tr u =>
    unfold fit at h
    simp only at h
    split at h
    · rename_i q
      cases h
      have e := q.2.1.ino
      refine ⟨(zbu _ _ _).mpr ?_, e⟩
      rw [e]
      exact (zbu _ _ _).mp hb
    · cases h
  | word => cases h
  | tru => cases h
theorem ziH {t u : T} {a : Int} (h : fit t a (.tr u) = none) : ¬ (u ≠ .nil /\ TopOf u t /\ a ∈ u.ino) := by
  intro q
  unfold fit at h
  simp only at h
  rw [if_pos q] at h
  cases h
theorem zit {t u t' : T} {a : Int} (h : fit t a (.tr u) = some t') : (u ≠ .nil /\ TopOf u t /\ a ∈ u.ino) /\ t' = hung u (parts u.ino t) := by
  unfold fit at h
  simp only at h
  split at h
  · rename_i q; cases h; exact ⟨q, rfl⟩
  · cases h
theorem zdC {t : T} (h : t.B (-1) 31) : t.ht < 48 := by have := zcp h; have := zdF t; omega
theorem zmv (z : Str) : isNone (.str z) = false := rfl
theorem zpJ (z : List D) : isNone (.tup z) = false := rfl
theorem zqi (z : Int) : isNone (.int z) = false := rfl
theorem no_lst (z : List D) : isNone (.lst z) = false := rfl
theorem zm5 (n : Nat) (lo hi : D) (z : Str) : zan (n + 1) [.str z, lo, hi] = some (.val (.bl false)) := by
  simp [zan, zbr, zaW, zaL, gam, zcc, zmv]
theorem zom (n : Nat) (lo hi : D) (z : Int) : zan (n + 1) [.int z, lo, hi] = some (.val (.bl false)) := by
  simp [zan, zbr, zaW, zaL, gam, zcc, zqi]
theorem zix : za2 [.bl true] = some (.val (.bl false)) := by
  simp [za2, zes, zaW, zaL, gam, zcc]
theorem zoO (n : Nat) (lo hi : D) : zan (n + 1) [Tp.tru.d, lo, hi] = some (.val (.bl false)) := by
  have q3 : zbk (.int 3) (.int 3) = some (.val (.bl false)) := zbN (by decide)
  simp [zan, zbr, zaW, zaL, gam, zcc, Tp.d, q3, zix]
theorem zoG (n : Nat) (lo hi : D) {ds : List D} (h : ds.length ≠ 3) : zan (n + 1) [.tup ds, lo, hi] = some (.val (.bl false)) := by
  have q3 := zfl ds.length 3
  rw [decide_eq_false (by omega)] at q3
  simp [zan, zbr, zaW, zaL, gam, zcc, q3]
theorem zge {d : D} {b : Bool} (h : ∀ lo hi, zan (47 + 1) [d, lo, hi] = some (.val (.bl b))) : zaB [d] = some (.val (.bl b)) := by
  have h' : ∀ lo hi, zan 48 [d, lo, hi] = some (.val (.bl b)) := h
  generalize hG : zan 48 = G at h'
  simp [zaB, zdL, zaW, zaL, gam, hG, h']
theorem zlE : zaB [.str "top"] = some (.val (.bl false)) := zge fun _ _ => zm5 47 _ _ _
theorem zmF (z : Int) : zaB [.int z] = some (.val (.bl false)) := zge fun _ _ => zom 47 _ _ _
theorem zl6 : zaB [Tp.tru.d] = some (.val (.bl false)) := zge fun _ _ => zoO 47 _ _
theorem tree_tup {ds : List D} (h : ds.length ≠ 3) : zaB [.tup ds] = some (.val (.bl false)) := zge fun _ _ => zoG 47 _ _ h
theorem zl0 {t : T} (h : t.B (-1) 31) : zaZ [t.d, .str "top"] = some (.ok (.val (.bl false))) := by
  simp [zaZ, zcs, zc3, zaL, gam, zek (zdC h) h, zlE, zmv]
theorem zoo {t : T} (h : t.B (-1) 31) : zaZ [t.d, Tp.tru.d] = some (.ok (.val (.bl false))) := by
  have n : isNone Tp.tru.d = false := rfl
  simp [zaZ, zcs, zc3, zaL, gam, zek (zdC h) h, zl6, n]
def zhU (i : Nat) (ds : List D) : List D := (ds.zipIdx i).map fun p => D.tup [.int p.2, p.1]
theorem zj0 (i : Nat) (d : D) (r : List D) : zhU i (d :: r) = .tup [.int i, d] :: zhU (i + 1) r := rfl
theorem zhv (ds : List D) : znB ds = zhU 0 ds := rfl
noncomputable def zfa : M Fl := (zak (ifM (orM (ngM (M.bind (zcK zaZ (Zj (zaa 2) (Zj (zaa 5) (M.pure [])))) asB)) (M.bind (op2 (inO true) (op2 zaJ (zaa 0) (zaa 4)) (zcK zbF (Zj (zaa 5) (M.pure [])))) asB))
  (zcI .NoRun ["moment"] (Zj (zaa 4) (M.pure [])))
  (M.pure .nx))
  (zaM 2 (zcK zbV (Zj (zaa 2) (Zj (zaa 5) (M.pure []))))))
theorem zil {as : List Int} {i : Nat} {a : Int} {r : List Int} (h : as.drop i = a :: r) : L2.atI (as.map D.int) (i : Int) = some (.int a) := by
  have e : (as.drop i)[0]? = some a := by rw [h]; rfl
  rw [List.getElem?_drop] at e
  have e' : as[i]? = some a := by simpa using e
  rw [zfK, zdE e']
  rfl
theorem zhn {as : List Int} {i : Nat} {a : Int} {r : List Int} (h : as.drop i = a :: r) : as.drop (i + 1) = r := by
  rw [<- List.drop_drop, h]; rfl
theorem znS {as : List Int} {i : Nat} {a : Int} {r : List Int} {t t' : T} {p : Tp} {x1 x3 : Sl} (h : as.drop i = a :: r) (hb : t.B (-1) 31) (hp : p.ok) (hf : fit t a p = some t') :
    zfa [some (.frz, ofI as), x1, some (.frz, t.d), x3, some (.frz, .int i), some (.frz, p.d)] = .ok .nx [some (.frz, ofI as), x1, some (.frz, t'.d), x3, some (.frz, .int i), some (.frz, p.d)] := by
  have al := zil h
  cases p with
  | tr u =>
    obtain ⟨⟨q1, q2, q3⟩, rfl⟩ := zit hf
    have e1 := zfD (zdC hb) hb (zdC hp) hp
    rw [zda ⟨q1, q2⟩] at e1
    have e2 := keys_eq (zdC hp) hp
    have e3 := turned_eq (zdC hb) hb (zdC hp) hp q1 q2
    have e4 := zct true u.ino a
    simp [zfa, Tp.d, e1, al, e2, e4, q3, e3]
  | word => cases hf
  | tru => cases hf
theorem znC {as : List Int} {i : Nat} {a : Int} {r : List Int} {t : T} {p : Tp} {x1 x3 : Sl} (h : as.drop i = a :: r) (hb : t.B (-1) 31) (hp : p.ok) (hf : fit t a p = none) :
    ∃ Γ', zfa [some (.frz, ofI as), x1, some (.frz, t.d), x3, some (.frz, .int i), some (.frz, p.d)] = .ex ⟨.NoRun, [("moment", .int i)]⟩ Γ' := by
  have al := zil h
  cases p with
  | tr u =>
    have q := ziH hf
    have e1 := zfD (zdC hb) hb (zdC hp) hp
    by_cases z : u ≠ .nil /\ TopOf u t
    · rw [zda z] at e1
      have e2 := keys_eq (zdC hp) hp
      have e4 := zct true u.ino a
      have q3 : a ∉ u.ino := fun y => q ⟨z.1, z.2, y⟩
      exact ⟨_, by simp [zfa, Tp.d, e1, al, e2, e4, q3]; rfl⟩
    · rw [ze2 z] at e1
      exact ⟨_, by simp [zfa, Tp.d, e1]; rfl⟩
  | word => exact ⟨_, by simp [zfa, Tp.d, zl0 hb]; rfl⟩
  | tru => exact ⟨_, by simp [zfa, zoo hb]; rfl⟩
theorem zhh {as : List Int} {x1 x3 : Sl} : ∀ (ps : List Tp) (i : Nat) (t : T) (x4 x5 : Sl), t.B (-1) 31 -> (∀ p ∈ ps, p.ok) -> (as.drop i).length = ps.length ->
    ∃ Γ', zce (gT 2 (gsC (gN 4) (gsC (gN 5) gs0))) zfa (zhU i (ps.map Tp.d)) [some (.frz, ofI as), x1, some (.frz, t.d), x3, x4, x5] = match bad i t (as.drop i) ps with
      | none => .ok .nx Γ'
      | some j => .ex ⟨.NoRun, [("moment", .int j)]⟩ Γ'
  | [], i, t, x4, x5, hb, hp, hl => by
    have : as.drop i = [] := List.eq_nil_of_length_eq_zero hl
    rw [this]
    exact ⟨_, rfl⟩
  | p :: ps, i, t, x4, x5, hb, hp, hl => by
    cases h : as.drop i with
    | nil => rw [h] at hl; simp at hl
    | cons a r =>
      rw [List.map_cons, zj0, zdz]
      unfold bad
      have hpo := hp p (List.mem_cons_self ..)
      have nn := zhn h
      cases hf : fit t a p with
      | none =>
        obtain ⟨Γ', hs⟩ := znC (x1 := x1) (x3 := x3) h hb hpo hf
        refine ⟨Γ', ?_⟩
        simp [hs]
      | some t' =>
        have hs := znS (x1 := x1) (x3 := x3) h hb hpo hf
        obtain ⟨Γ', ih⟩ := zhh (x1 := x1) (x3 := x3) ps (i + 1) t' (some (.frz, .int i)) (some (.frz, p.d)) (znw hf hb).1 (fun q hq => hp q (List.mem_cons_of_mem _ hq)) (by rw [nn]; rw [h] at hl; simpa using hl)
        rw [nn] at ih
        refine ⟨Γ', ?_⟩
        simp [hs, ih]
end K20
end
section
namespace K20
open PySem L2 Ex Dv Tr
structure Ak (as : List Int) : Prop where
  pos : 1 <= as.length
  most : as.length <= 31
  key : ∀ a ∈ as, 0 <= a /\ a <= 30
noncomputable def zjq : M Fl := (ifM (ngM (M.bind (zar za2 (Zj (zaa 2) (M.pure []))) asB))
  (zcI .NoAsks ["number"] (Zj (zaa 1) (M.pure [])))
  (M.pure .nx))
theorem zgS {x0 : Sl} : ∀ (as : List Int) (i : Nat) (x1 x2 : Sl) (r : List D), (∀ a ∈ as, 0 <= a /\ a <= 30) ->
    ∃ y1 y2, zce (gT 2 (gsC (gN 1) (gsC (gN 2) gs0))) zjq (zhU i (as.map D.int ++ r)) [x0, x1, x2] = zce (gT 2 (gsC (gN 1) (gsC (gN 2) gs0))) zjq (zhU (i + as.length) r) [x0, y1, y2]
  | [], i, x1, x2, r, _ => ⟨x1, x2, rfl⟩
  | a :: as, i, x1, x2, r, h => by
    obtain ⟨h1, h2⟩ := h a (List.mem_cons_self ..)
    obtain ⟨y1, y2, ih⟩ := zgS (x0 := x0) as (i + 1) (some (.frz, .int i)) (some (.frz, .int a)) r fun b hb => h b (List.mem_cons_of_mem _ hb)
    refine ⟨y1, y2, ?_⟩
    rw [List.map_cons, List.cons_append, zj0, zdz]
    rw [show i + (a :: as).length = i + 1 + as.length by simp; omega]
    rw [<- ih]
    simp [zjq, zeH, h1, h2]
theorem zkm {as : List Int} (A : Ak as) : zaA [ofI as] = some (.ok (.val .non)) := by
  have h1 : (1 : Int) <= (as.length : Int) := by have := A.pos; omega
  have h2 : (as.length : Int) <= 31 := by have := A.most; omega
  obtain ⟨y1, y2, hl⟩ := zgS (x0 := some (.frz, ofI as)) as 0 none none [] A.key
  rw [List.append_nil] at hl
  rw [show zhU (0 + as.length) [] = [] from rfl, zod] at hl
  have e : zbO za2 = zak (ifM (orM (ngM (M.bind (zd6 .list (zaa 0)) asB)) (ngM (M.bind (op3 leO leO (M.pure (.val (.int 1))) (zaV zbZ (Zj (zaa 0) (M.pure []))) (M.pure (.val (.int 31)))) asB)))
    (zcI .NoAsks ["number"] (Zj (M.pure (.val .non)) (M.pure []))) (M.pure .nx)) (forM (zg7 (Zj (zaa 0) (M.pure []))) (gT 2 (gsC (gN 1) (gsC (gN 2) gs0))) zjq) := rfl
  unfold zaA
  rw [e]
  simp [zc3, zaL, gam, zcc, h1, h2, zhv, hl]
theorem znq : zaA [.lst []] = some (.ex ⟨.NoAsks, [("number", .non)]⟩) := by
  simp [zaA, zbO, zc3, zaL, gam, zcc]
theorem ziQ {as : List Int} {d : D} (h : ∀ a ∈ as, 0 <= a /\ a <= 30) (hl : as.length <= 30) (hd : za2 [d] = some (.val (.bl false))) : zaA [.lst (as.map D.int ++ [d])] = some (.ex ⟨.NoAsks, [("number", .int as.length)]⟩) := by
  have h1 : (1 : Int) <= (as.length : Int) + 1 := by omega
  have h2 : (as.length : Int) + 1 <= 31 := by omega
  obtain ⟨y1, y2, hl⟩ := zgS (x0 := some (.frz, .lst (as.map D.int ++ [d]))) as 0 none none [d] h
  have hb : ∃ Γ', zce (gT 2 (gsC (gN 1) (gsC (gN 2) gs0))) zjq (zhU (0 + as.length) [d]) [some (.frz, .lst (as.map D.int ++ [d])), y1, y2] = .ex ⟨.NoAsks, [("number", .int as.length)]⟩ Γ' := by
    rw [zj0, zdz]
    exact ⟨_, by simp [zjq, hd]; rfl⟩
  obtain ⟨Γ', hb⟩ := hb
  rw [hb] at hl
  have e : zbO za2 = zak (ifM (orM (ngM (M.bind (zd6 .list (zaa 0)) asB)) (ngM (M.bind (op3 leO leO (M.pure (.val (.int 1))) (zaV zbZ (Zj (zaa 0) (M.pure []))) (M.pure (.val (.int 31)))) asB)))
    (zcI .NoAsks ["number"] (Zj (M.pure (.val .non)) (M.pure []))) (M.pure .nx)) (forM (zg7 (Zj (zaa 0) (M.pure []))) (gT 2 (gsC (gN 1) (gsC (gN 2) gs0))) zjq) := rfl
  unfold zaA
  rw [e]
  have ln : (as.map D.int ++ [d]).length = as.length + 1 := by simp
  generalize as.map D.int ++ [d] = L at *
  simp [zc3, zaL, gam, zcc, ln, h1, h2, zhv, hl]
theorem zkn {t : T} (h : t.B (-1) 31) (ds : List D) (n : Int) : zau [.tup [t.d, .lst ds], .int n] = some (.val (.bl (decide ((ds.length : Int) = n)))) := by
  have q : zbC (.int 2) (.int 2) = some (.val (.bl true)) := zd7 (by decide)
  have q2 := zch ds.length n
  simp [zau, zbs, zaW, zaL, gam, zcc, q, zij, zg4, zc8 (zdC h) h, q2]
theorem zgs {ds : List D} {n : D} (h : ds.length ≠ 2) : zau [.tup ds, n] = some (.val (.bl false)) := by
  have q := zch ds.length 2
  rw [decide_eq_false (by omega)] at q
  simp [zau, zbs, zaW, zaL, gam, zcc, q]
theorem zk3 {a b : D} {n : D} (h : zaB [a] = some (.val (.bl false))) : zau [.tup [a, b], n] = some (.val (.bl false)) := by
  have q : zbC (.int 2) (.int 2) = some (.val (.bl true)) := zd7 (by decide)
  simp [zau, zbs, zaW, zaL, gam, zcc, q, zij, zg4, h]
theorem zmj {t : T} (h : t.B (-1) 31) (ds : List D) (n : D) : zau [.tup [t.d, .tup ds], n] = some (.val (.bl false)) := by
  have q : zbC (.int 2) (.int 2) = some (.val (.bl true)) := zd7 (by decide)
  simp [zau, zbs, zaW, zaL, gam, zcc, q, zij, zg4, zc8 (zdC h) h]
theorem zl3 (n : D) : zau [.non, n] = some (.val (.bl false)) := by simp [zau, zbs, zaW, zaL, gam, zcc]
theorem zmy (z : Int) (n : D) : zau [.int z, n] = some (.val (.bl false)) := by simp [zau, zbs, zaW, zaL, gam, zcc]
theorem zlZ (z : Str) (n : D) : zau [.str z, n] = some (.val (.bl false)) := by simp [zau, zbs, zaW, zaL, gam, zcc]
theorem zjb (z : List D) (n : D) : zau [.lst z, n] = some (.val (.bl false)) := by simp [zau, zbs, zaW, zaL, gam, zcc]
theorem znD : zcW zau zaZ zbF zaA zbV = (zak (zd8 (zcK zaA (Zj (zaa 0) (M.pure []))))
  (zak (ifM (ngM (M.bind (zar zau (Zj (zaa 1) (Zj (zaV zbZ (Zj (zaa 0) (M.pure []))) (M.pure [])))) asB))
  (zcI .NoRun ["moment"] (Zj (M.pure (.val .non)) (M.pure [])))
  (M.pure .nx))
  (zak (zfs (gT 2 (gsC (gN 2) (gsC (gN 3) gs0))) (zaa 1))
  (forM (zg7 (Zj (zaa 3) (M.pure []))) (gT 2 (gsC (gN 4) (gsC (gN 5) gs0))) zfa)))) := rfl
theorem run_eq {as : List Int} {t : T} {ps : List Tp} (A : Ak as) (hb : t.B (-1) 31) (hp : ∀ p ∈ ps, p.ok) (hl : ps.length = as.length) :
    zaH [ofI as, .tup [t.d, .lst (ps.map Tp.d)]] = some (match bad 0 t as ps with
      | none => .ok (.val .non)
      | some j => .ex ⟨.NoRun, [("moment", .int j)]⟩) := by
  obtain ⟨Γ', h⟩ := zhh (as := as) (x1 := some (.frz, .tup [t.d, .lst (ps.map Tp.d)])) (x3 := some (.frz, .lst (ps.map Tp.d))) ps 0 t none none hb hp (by simpa using hl.symm)
  rw [List.drop_zero] at h
  have f := zkn hb (ps.map Tp.d) as.length
  rw [decide_eq_true (by simp [hl])] at f
  have a := zkm A
  unfold zaH
  rw [znD]
  cases q : bad 0 t as ps with
  | none => rw [q] at h; simp [zc3, zaL, gam, a, f, zhv, h]
  | some j => rw [q] at h; simp [zc3, zaL, gam, a, f, zhv, h]
theorem zkD {as : List Int} {d : D} (A : Ak as) (f : ∀ n : Int, n = as.length -> zau [d, .int n] = some (.val (.bl false))) : zaH [ofI as, d] = some (.ex ⟨.NoRun, [("moment", .non)]⟩) := by
  have a := zkm A
  have f := f as.length rfl
  unfold zaH
  rw [znD]
  simp [zc3, zaL, gam, a, f]
theorem zh5 {a d : D} {x : Xc} (h : zaA [a] = some (.ex x)) : zaH [a, d] = some (.ex x) := by
  unfold zaH
  rw [znD]
  simp [zc3, zaL, gam, h]
theorem zmA (m : D) : zbn [.ins .NoRun ["moment"] [m]] = some (.val (.str "run")) := by
  have ln := line
  have s1 : 1 <= sizeLine := by omega
  have s2 : 2 <= sizeLine := by omega
  have s3 : 3 <= sizeLine := by omega
  have s4 : 4 <= sizeLine := by omega
  have s7 : 7 <= sizeLine := by omega
  have s10 : 10 <= sizeLine := by omega
  have s13 : 13 <= sizeLine := by omega
  have s15 : 15 <= sizeLine := by omega
  have i : ∀ T, zi0 exL T (.ins .NoRun ["moment"] [m]) = some (.val (.bl (sub .NoRun T))) := fun T => rfl
  have f : ∀ b : Bool, zcF (.bl b) = true := fun b => rfl
  have n1 : zbk (.int 1) (.int 1) = some (.val (.bl false)) := zbN (by decide)
  have n2 : zbk (.bl true) (.bl true) = some (.val (.bl false)) := zbN (by decide)
  have b1 : ∀ b : Bool, eqF (.bl b) (.bl true) = b := fun b => by cases b <;> rfl
  simp [zbn, zcN, zaW, zaL, gam, i, sub, s1, s2, s3, s4, s7, s10, s13, s15, zgq, zfM, f, n1, n2, b1, List.findIdx?_cons]
  rfl
theorem zlR (m : D) : zbn [.ins .NoAsks ["number"] [m]] = some (.val (.str "asks")) := by
  have ln := line
  have s1 : 1 <= sizeLine := by omega
  have s2 : 2 <= sizeLine := by omega
  have s3 : 3 <= sizeLine := by omega
  have s4 : 4 <= sizeLine := by omega
  have s7 : 7 <= sizeLine := by omega
  have s10 : 10 <= sizeLine := by omega
  have s13 : 13 <= sizeLine := by omega
  have s15 : 15 <= sizeLine := by omega
  have i : ∀ T, zi0 exL T (.ins .NoAsks ["number"] [m]) = some (.val (.bl (sub .NoAsks T))) := fun T => rfl
  have f : ∀ b : Bool, zcF (.bl b) = true := fun b => rfl
  have n1 : zbk (.int 1) (.int 1) = some (.val (.bl false)) := zbN (by decide)
  have n2 : zbk (.bl true) (.bl true) = some (.val (.bl false)) := zbN (by decide)
  have b1 : ∀ b : Bool, eqF (.bl b) (.bl true) = b := fun b => by cases b <;> rfl
  simp [zbn, zcN, zaW, zaL, gam, i, sub, s1, s2, s3, s4, s7, s10, s13, s15, zgq, zfM, f, n1, n2, b1, List.findIdx?_cons]
  rfl
theorem zkN (x y : Str) : zbC (.str x) (.str y) = some (.val (.bl (decide (x = y)))) := rfl
theorem zk7 {a b : D} (h : zaH [a, b] = some (.ok (.val .non))) : zag [a, b] = some (.new (.lst [.str "told", .non])) := by
  have ln := line
  have s2 : 2 <= sizeLine := by omega
  simp [zag, zcl, zaW, zaL, gam, h, s2]
theorem zgn {a b m : D} (h : zaH [a, b] = some (.ex ⟨.NoRun, [("moment", m)]⟩)) : zag [a, b] = some (.new (.lst [.str "run", m])) := by
  have ln := line
  have s2 : 2 <= sizeLine := by omega
  have k := zmA m
  have z : za4 .NoRun = true := by decide
  have z2 : Cn.NoRun ∈ exL := by decide
  have q : zbC (.str "run") (.str "run") = some (.val (.bl true)) := by rw [zkN, decide_eq_true rfl]
  simp [zag, zcl, zaW, zaL, gam, h, s2, z, zgR, k, q, z2, isNone]
theorem zfw {a b m : D} (h : zaH [a, b] = some (.ex ⟨.NoAsks, [("number", m)]⟩)) : zag [a, b] = some (.new (.lst [.str "asks", .non])) := by
  have ln := line
  have s2 : 2 <= sizeLine := by omega
  have k := zlR m
  have z : za4 .NoAsks = true := by decide
  have q : zbC (.str "asks") (.str "run") = some (.val (.bl false)) := by rw [zkN, decide_eq_false (by decide)]
  simp [zag, zcl, zaW, zaL, gam, h, s2, z, zgR, k, q, isNone]
end K20
end
section
namespace K20
open PySem L2 Ex Dv Tr
theorem zj2 (ns : List Int) : zbk (ofI ns) (.lst []) = some (.val (.bl (!ns.isEmpty))) := by
  rw [zmB (fun _ => by simp)]
  unfold neO
  rw [zgc, show zeL (.lst []) = true from zgc [], zj7]
  simp
def outF (S : List Int) : D -> Option D
  | .int k => if k ∈ S then none else some (.int k)
  | _ => none
theorem znM (S : List Int) : ∀ W : List Int, (W.map D.int).filterMap (outF S) = (W.filter fun k => decide (k ∉ S)).map D.int
  | [] => rfl
  | a :: r => by
    rw [List.map_cons, List.filterMap_cons, List.filter_cons, znM S r]
    by_cases h : a ∈ S <;> simp [outF, h]
theorem zp5 {S W : List Int} {x0 x1 x2 x4 x5 : Sl} : lcM [3] 1 (gN 0) (M.bind (op2 (inO true) (zaa 0) (zaa 1)) asB) (zaa 0) (W.map D.int) [x0, x1, x2, some (.frz, ofI S), x4, x5] = .ok ((W.filter fun k => decide (k ∉ S)).map D.int) [x0, x1, x2, some (.frz, ofI S), x4, x5] := by
  rw [<- znM]
  refine zkp (outF S) (W.map D.int) fun d hd => ?_
  obtain ⟨k, hk, rfl⟩ := List.mem_map.mp hd
  refine ⟨[some (.frz, .int k), some (.frz, ofI S)], ?_, rfl⟩
  have e := zct true S k
  by_cases h : k ∈ S <;> simp [zcb, outF, h, e]
noncomputable def zjx : M Fl := (zak (zaM 5 (zar zaK (Zj (zaa 0) (Zj (zaa 4) (M.pure [])))))
  (ifM (orM (M.bind (op2 zbC (zaa 5) (lstM (M.pure []))) asB) (orM (M.bind (op2 zbk (op2 zaJ (zaa 5) (op1 zdO (M.pure (.val (.int 1))))) (zaa 4)) asB) (M.bind (op2 zbk (zds (zey (zaa 5)) [3] 1 (gN 0) (M.bind (op2 (inO true) (zaa 0) (zaa 1)) asB) (zaa 0)) (lstM (M.pure []))) asB)))
  (zaP (M.pure (.val (.bl false))))
  (M.pure .nx)))
theorem zdJ {W : List Int} (h : W ≠ []) : ∃ F x, W = F ++ [x] := ⟨W.dropLast, W.getLast h, (List.dropLast_concat_getLast h).symm⟩
theorem zmX {p q : Prop} (h : p ↔ q) : cd p = cd q := congrArg cd (propext h)
theorem zmR {t : T} {S : List Int} {k : Int} {x1 x2 x5 : Sl} (hb : t.B (-1) 31) : ∃ y5, zjx [some (.frz, t.d), x1, x2, some (.frz, ofI S), some (.frz, .int k), x5] = .ok (if cd (k ∈ t.ino /\ ∀ x ∈ way k t, x ∈ S) then .nx else .ret (.val (.bl false))) [some (.frz, t.d), x1, x2, some (.frz, ofI S), some (.frz, .int k), y5] := by
  have ln := line
  have s0 : 0 <= sizeLine := by omega
  have w := zjw k (t := t) (by have := zdC hb; omega)
  have wl := zd3 (k := k) hb
  have wn := zhG k t
  have hh := zdC hb
  generalize way k t = W at *
  cases hW : W with
  | nil =>
    subst hW
    have n : k ∉ t.ino := fun z => by have := wl.mp z; cases this
    have e := zdi []
    rw [ze2 fun y => n y.1]
    exact ⟨_, by simp [zjx, w, e, s0]; rfl⟩
  | cons w0 wr =>
    obtain ⟨F, x, hF⟩ := zdJ (W := W) (by rw [hW]; intro z; cases z)
    rw [<- hW]
    have e := zdi W
    rw [show W.isEmpty = false by rw [hW]; rfl] at e
    have al := zgj (xs := F) (x := x)
    rw [<- hF] at al
    have nl := zfl x k
    have gl : W.getLast? = some x := by rw [hF]; simp
    rw [gl] at wl
    by_cases q : x = k
    · have i : k ∈ t.ino := wl.mpr (by rw [q])
      rw [decide_eq_true q] at nl
      have oc := zp5 (S := S) (W := W) (x0 := some (.frz, t.d)) (x1 := x1) (x2 := x2) (x4 := some (.frz, .int k)) (x5 := some (.frz, ofI W))
      have nn := zj2 (W.filter fun k => decide (k ∉ S))
      have sl : W.length < sizeLine := by omega
      by_cases z : ∀ y ∈ W, y ∈ S
      · have : (W.filter fun k => decide (k ∉ S)) = [] := List.filter_eq_nil_iff.mpr fun a ha => by simp [z a ha]
        rw [this] at oc nn
        rw [zda ⟨i, z⟩]
        exact ⟨_, by simp [zjx, w, e, s0, al, nl, oc, nn, sl]; rfl⟩
      · have : (W.filter fun k => decide (k ∉ S)).isEmpty = false := by
          cases r : (W.filter fun k => decide (k ∉ S)) with
          | nil => exact absurd (fun y hy => by have := List.filter_eq_nil_iff.mp r y hy; simpa using this) z
          | cons _ _ => rfl
        rw [this] at nn
        rw [ze2 fun y => z y.2]
        generalize (W.filter fun k => decide (k ∉ S)) = L at *
        exact ⟨_, by simp [zjx, w, e, s0, al, nl, oc, nn, sl]; rfl⟩
    · have n : k ∉ t.ino := fun z => q (by have := wl.mp z; injection this)
      rw [decide_eq_false q] at nl
      rw [ze2 fun y => n y.1]
      exact ⟨_, by simp [zjx, w, e, s0, al, nl]; rfl⟩
theorem ziz {t : T} {S : List Int} {x1 x2 : Sl} (hb : t.B (-1) 31) : ∀ (ks : List Int) (x4 x5 : Sl), ∃ Γ', zce (gN 4) zjx (ks.map D.int) [some (.frz, t.d), x1, x2, some (.frz, ofI S), x4, x5] = .ok (if cd (∀ k ∈ ks, k ∈ t.ino /\ ∀ x ∈ way k t, x ∈ S) then .nx else .ret (.val (.bl false))) Γ'
  | [], x4, x5 => ⟨_, by rw [zda (fun k hk => by cases hk)]; rfl⟩
  | k :: ks, x4, x5 => by
    obtain ⟨y5, hs⟩ := zmR (S := S) (k := k) (x1 := x1) (x2 := x2) (x5 := x5) hb
    obtain ⟨Γ', ih⟩ := ziz (x1 := x1) (x2 := x2) (S := S) hb ks (some (.frz, .int k)) y5
    rw [List.map_cons, zdz]
    by_cases z : k ∈ t.ino /\ ∀ x ∈ way k t, x ∈ S
    · rw [zda z] at hs
      refine ⟨Γ', ?_⟩
      have e : (∀ j ∈ k :: ks, j ∈ t.ino /\ ∀ x ∈ way j t, x ∈ S) ↔ (∀ j ∈ ks, j ∈ t.ino /\ ∀ x ∈ way j t, x ∈ S) := by
        rw [List.forall_mem_cons]; exact ⟨fun h => h.2, fun h => ⟨z, h⟩⟩
      rw [zmX e, <- ih]
      simp only [zj6, zpD, List.set_cons_succ, List.set_cons_zero, hs, if_true]
    · rw [ze2 z] at hs
      rw [ze2 fun h => z (h k (List.mem_cons_self ..))]
      refine ⟨[some (.frz, t.d), x1, x2, some (.frz, ofI S), some (.frz, .int k), y5], ?_⟩
      simp only [zj6, zpD, List.set_cons_succ, List.set_cons_zero, hs]
      rfl
theorem pre_nil {u : T} : u.pre.isEmpty = true ↔ u = .nil := by cases u <;> simp [T.pre]
theorem zkr {t u : T} {a : Int} (hb : t.B (-1) 31) (hu : u.B (-1) 31) : zbm [t.d, u.d, .int a] = some (.val (.bl (cd (u ≠ .nil /\ TopOf u t /\ a ∈ u.ino)))) := by
  have ln := line
  have s0 : 0 <= sizeLine := by omega
  have su := zcp hu
  have ah := ahead_eq u 48 (zdC hu) (by omega)
  have e := zdi u.pre
  have i := zct true u.pre a
  have e0 : zdv (zaf 48) zaK = (zak (zaM 3 (zar (zaf 48) (Zj (zaa 1) (M.pure []))))
    (zak (ifM (orM (M.bind (op2 zbC (zaa 3) (lstM (M.pure []))) asB) (M.bind (op2 (inO true) (zaa 2) (zaa 3)) asB))
    (zaP (M.pure (.val (.bl false))))
    (M.pure .nx))
    (zak (forM (zey (zaa 3)) (gN 4) zjx)
    (zaP (M.pure (.val (.bl true))))))) := rfl
  unfold zbm
  rw [e0]
  generalize zaf 48 = GA at *
  have mp : a ∈ u.pre ↔ a ∈ u.ino := mem_pre
  obtain ⟨Γ', hl⟩ := ziz (S := u.pre) (x1 := some (.frz, u.d)) (x2 := some (.frz, .int a)) hb u.pre none none
  have tw := zjY hb hu
  have tw2 : TopOf u t ↔ ∀ k ∈ u.pre, k ∈ t.ino /\ ∀ x ∈ way k t, x ∈ u.pre := by
    rw [tw]; simp only [mem_pre]
  rw [<- zmX tw2] at hl
  by_cases q1 : u = .nil
  · rw [ze2 fun h => h.1 q1]
    rw [pre_nil.mpr q1] at e
    simp [zaW, zaL, gam, ah, e, s0]
  · have : u.pre.isEmpty = false := by cases r : u.pre.isEmpty with | false => rfl | true => exact absurd (pre_nil.mp r) q1
    rw [this] at e
    by_cases q2 : a ∈ u.ino
    · rw [show decide (a ∈ u.pre) = true from decide_eq_true (mp.mpr q2)] at i
      by_cases q3 : TopOf u t
      · rw [zda q3] at hl
        rw [zda ⟨q1, q3, q2⟩]
        simp [zaW, zaL, gam, ah, e, s0, i, hl]
      · rw [ze2 q3] at hl
        rw [ze2 fun h => q3 h.2.1]
        simp [zaW, zaL, gam, ah, e, s0, i, hl]
    · rw [show decide (a ∈ u.pre) = false from decide_eq_false fun z => q2 (mp.mp z)] at i
      rw [ze2 fun h => q2 h.2.2]
      simp [zaW, zaL, gam, ah, e, s0, i]
end K20
end
section
namespace K20
open PySem L2 Ex Dv Tr
noncomputable def zif : M Fl := (zak (ifM (orM (ngM (M.bind (zd6 .tuple (zaa 4)) asB)) (M.bind (op2 (inO false) (M.pure (.val (.bl true))) (zds (zey (zar (zaf 48) (Zj (zaa 4) (M.pure [])))) [] 1 (gN 0) (M.pure true) (zd6 .bool (zaa 0)))) asB))
  (zaP (lstM (Zj (M.pure (.val (.str "run"))) (Zj (zaa 3) (M.pure [])))))
  (M.pure .nx))
  (zak (ifM (ngM (M.bind (zar zbm (Zj (zaa 2) (Zj (zaa 4) (Zj (op2 zaJ (zaa 0) (zaa 3)) (M.pure []))))) asB))
  (zaP (lstM (Zj (M.pure (.val (.str "run"))) (Zj (zaa 3) (M.pure [])))))
  (M.pure .nx))
  (zaM 2 (zar zax (Zj (zaa 2) (Zj (zaa 4) (M.pure [])))))))
theorem zj5 {W : List Int} {Γ : En} : lcM [] 1 (gN 0) (M.pure true) (zd6 .bool (zaa 0)) (W.map D.int) Γ = .ok ((W.map D.int).map fun _ => .bl false) Γ :=
  zmC (fun _ => .bl false) fun d hd => by
    obtain ⟨k, hk, rfl⟩ := List.mem_map.mp hd
    exact ⟨[some (.frz, .int k)], by simp [zcb, zcc], rfl⟩
theorem zkU : ∀ W : List Int, inO false (.bl true) (.lst ((W.map D.int).map fun _ => .bl false)) = some (.val (.bl false)) := by
  intro W
  have h : ∀ W : List D, (W.map fun _ => D.bl false).all zcF = true := fun W => by
    induction W with
    | nil => rfl
    | cons a r ih => rw [List.map_cons, List.all_cons, ih]; rfl
  have h' : ∀ W : List D, (W.map fun _ => D.bl false).any (fun e => eqF e (.bl true)) = false := fun W => by
    induction W with
    | nil => rfl
    | cons a r ih => rw [List.map_cons, List.any_cons, ih]; rfl
  generalize W.map D.int = W'
  show (if zcF (.bl true) && (W'.map fun _ => D.bl false).all zcF then some (RV.val (.bl (if false then !(W'.map fun _ => D.bl false).any (fun e => eqF e (.bl true)) else (W'.map fun _ => D.bl false).any (fun e => eqF e (.bl true))))) else none) = _
  rw [h, h']
  rfl
theorem zlk : zaf 48 [Tp.tru.d] = some (.new (.lst [.bl true])) := by
  have ln := line
  have s0 : 0 <= sizeLine := by omega
  have s1 : 1 <= sizeLine := by omega
  have n : ∀ n, zaf (n + 1) [.non] = some (.new (.lst [])) := fun n => ahead_eq .nil (n + 1) (by simp [T.ht]) (by simp [T.size])
  have a0 : L2.atI [D.bl true, .non, .non] 0 = some (.bl true) := rfl
  have a1 : L2.atI [D.bl true, .non, .non] 1 = some .non := rfl
  have a2 : L2.atI [D.bl true, .non, .non] 2 = some .non := rfl
  have n47 : zaf 47 [.non] = some (.new (.lst [])) := n 46
  have e : zaf 48 = zaW 1 ["_law_tree_here"] (zbP (zaf 47)) := rfl
  rw [e]
  generalize zaf 47 = GA at *
  simp [zbP, zaW, zaL, gam, Tp.d, n47, a0, a1, a2, s0, s1, zpJ]
section
variable {as : List Int} {i : Nat} {a : Int} {r : List Int} {t t' : T} {p : Tp} {x1 : Sl}
theorem zpM (h : as.drop i = a :: r) (hb : t.B (-1) 31) (hp : p.ok) (hf : fit t a p = some t') :
    zif [some (.frz, ofI as), x1, some (.frz, t.d), some (.frz, .int i), some (.frz, p.d)] = .ok .nx [some (.frz, ofI as), x1, some (.frz, t'.d), some (.frz, .int i), some (.frz, p.d)] := by
  have ln := line
  have al := zil h
  cases p with
  | tr u =>
    obtain ⟨q, rfl⟩ := zit hf
    have su := zcp hp
    have e1 := ahead_eq u 48 (zdC hp) (by omega)
    have e2 := zkr (a := a) hb hp
    rw [zda q] at e2
    have e3 := zeD hb hp q.2.1
    have e4 := zkU u.pre
    have pl : u.pre.length < sizeLine := by
      have : u.pre.length <= 31 := by
        have hh : ∀ t : T, t.pre.length = t.size := fun t => by
          induction t with
          | nil => rfl
          | node k l r a b => simp [T.pre, T.size, a, b]
        rw [hh]; exact su
      omega
    have e5 := zj5 (W := u.pre) (Γ := [some (.frz, ofI as), x1, some (.frz, t.d), some (.frz, .int i), some (.frz, u.d)])
    have tu : zfy .tuple u.d = some (.val (.bl true)) := by
      cases u with
      | nil => exact absurd rfl q.1
      | node _ _ _ => rfl
    generalize hG : zaf 48 = GA at *
    simp [-List.map_map, zif, hG, Tp.d, tu, e1, e4, e5, pl, al, e2, e3]
  | word => cases hf
  | tru => cases hf
theorem zn3 (h : as.drop i = a :: r) (hb : t.B (-1) 31) (hp : p.ok) (hf : fit t a p = none) :
    ∃ Γ', zif [some (.frz, ofI as), x1, some (.frz, t.d), some (.frz, .int i), some (.frz, p.d)] = .ok (.ret (.new (.lst [.str "run", .int i]))) Γ' := by
  have ln := line
  have s2 : 2 <= sizeLine := by omega
  have al := zil h
  cases p with
  | tr u =>
    have q := ziH hf
    have su := zcp hp
    have e1 := ahead_eq u 48 (zdC hp) (by omega)
    have e2 := zkr (a := a) hb hp
    rw [ze2 q] at e2
    have e4 := zkU u.pre
    have pl : u.pre.length < sizeLine := by
      have : u.pre.length <= 31 := by
        have hh : ∀ t : T, t.pre.length = t.size := fun t => by
          induction t with
          | nil => rfl
          | node k l r a b => simp [T.pre, T.size, a, b]
        rw [hh]; exact su
      omega
    have e5 := zj5 (W := u.pre) (Γ := [some (.frz, ofI as), x1, some (.frz, t.d), some (.frz, .int i), some (.frz, u.d)])
    generalize hG : zaf 48 = GA at *
    by_cases z : u = .nil
    · have tu : zfy .tuple u.d = some (.val (.bl false)) := by rw [z]; rfl
      exact ⟨_, by simp [zif, Tp.d, tu, s2]; rfl⟩
    · have tu : zfy .tuple u.d = some (.val (.bl true)) := by
        cases u with
        | nil => exact absurd rfl z
        | node _ _ _ => rfl
      exact ⟨_, by simp [-List.map_map, zif, hG, Tp.d, tu, e1, e4, e5, pl, al, e2, s2]; rfl⟩
  | word => exact ⟨_, by simp [zif, Tp.d, zcc, s2]; rfl⟩
  | tru =>
    have e1 := zlk
    have s1 : 1 < sizeLine := by omega
    have tu : zfy .tuple Tp.tru.d = some (.val (.bl true)) := rfl
    have e5 : lcM [] 1 (gN 0) (M.pure true) (zd6 .bool (zaa 0)) [.bl true] [some (.frz, ofI as), x1, some (.frz, t.d), some (.frz, .int i), some (.frz, Tp.tru.d)] = .ok [.bl true] [some (.frz, ofI as), x1, some (.frz, t.d), some (.frz, .int i), some (.frz, Tp.tru.d)] :=
      zmC (ds := [.bl true]) (fun d => d) fun d hd => ⟨[some (.frz, d)], by
        simp at hd
        subst hd
        simp [zcb, zcc], rfl⟩
    have e4 : inO false (.bl true) (.lst [.bl true]) = some (.val (.bl true)) := rfl
    generalize hG : zaf 48 = GA at *
    exact ⟨_, by simp [zif, hG, tu, e1, e4, e5, s1, s2]; rfl⟩
end
theorem ziK {as : List Int} {x1 : Sl} : ∀ (ps : List Tp) (i : Nat) (t : T) (x3 x4 : Sl), t.B (-1) 31 -> (∀ p ∈ ps, p.ok) -> (as.drop i).length = ps.length ->
    ∃ Γ', zce (gT 2 (gsC (gN 3) (gsC (gN 4) gs0))) zif (zhU i (ps.map Tp.d)) [some (.frz, ofI as), x1, some (.frz, t.d), x3, x4] = match bad i t (as.drop i) ps with
      | none => .ok .nx Γ'
      | some j => .ok (.ret (.new (.lst [.str "run", .int j]))) Γ'
  | [], i, t, x4, x5, hb, hp, hl => by
    have : as.drop i = [] := List.eq_nil_of_length_eq_zero hl
    rw [this]
    exact ⟨_, rfl⟩
  | p :: ps, i, t, x4, x5, hb, hp, hl => by
    cases h : as.drop i with
    | nil => rw [h] at hl; simp at hl
    | cons a r =>
      rw [List.map_cons, zj0, zdz]
      unfold bad
      have hpo := hp p (List.mem_cons_self ..)
      have nn := zhn h
      cases hf : fit t a p with
      | none =>
        obtain ⟨Γ', hs⟩ := zn3 (x1 := x1) h hb hpo hf
        refine ⟨Γ', ?_⟩
        simp [hs]
      | some t' =>
        have hs := zpM (x1 := x1) h hb hpo hf
        obtain ⟨Γ', ih⟩ := ziK (x1 := x1) ps (i + 1) t' (some (.frz, .int i)) (some (.frz, p.d)) (znw hf hb).1 (fun q hq => hp q (List.mem_cons_of_mem _ hq)) (by rw [nn]; rw [h] at hl; simpa using hl)
        rw [nn] at ih
        refine ⟨Γ', ?_⟩
        simp [hs, ih]
noncomputable def ans (as : List Int) (t : T) (ps : List Tp) : D := .lst (if ps.length = as.length then (match bad 0 t as ps with
  | none => [.str "told", .non]
  | some j => [.str "run", .int j]) else [.str "run", .non])
theorem zpm {as : List Int} {t : T} {ps : List Tp} (hb : t.B (-1) 31) (hp : ∀ p ∈ ps, p.ok) : zbv [ofI as, .tup [t.d, .lst (ps.map Tp.d)]] = some (.new (ans as t ps)) := by
  have ln := line
  have s2 : 2 <= sizeLine := by omega
  have nl := zfl ps.length as.length
  have e0 : zef (zaf 48) zbm zax = (zak (zaM 2 (op2 zaJ (zaa 1) (M.pure (.val (.int 0)))))
    (zak (ifM (M.bind (op2 zbk (zaV zbZ (Zj (op2 zaJ (zaa 1) (M.pure (.val (.int 1)))) (M.pure []))) (zaV zbZ (Zj (zaa 0) (M.pure [])))) asB)
    (zaP (lstM (Zj (M.pure (.val (.str "run"))) (Zj (M.pure (.val .non)) (M.pure [])))))
    (M.pure .nx))
    (zak (forM (zg7 (Zj (op2 zaJ (zaa 1) (M.pure (.val (.int 1)))) (M.pure []))) (gT 2 (gsC (gN 3) (gsC (gN 4) gs0))) zif)
    (zaP (lstM (Zj (M.pure (.val (.str "told"))) (Zj (M.pure (.val .non)) (M.pure []))))))) ) := rfl
  unfold zbv
  rw [e0]
  unfold ans
  by_cases hl : ps.length = as.length
  · rw [if_pos hl]
    rw [decide_eq_true (by omega)] at nl
    obtain ⟨Γ', h⟩ := ziK (as := as) (x1 := some (.frz, .tup [t.d, .lst (ps.map Tp.d)])) ps 0 t none none hb hp (by simpa using hl.symm)
    rw [List.drop_zero] at h
    cases q : bad 0 t as ps with
    | none => rw [q] at h; simp [zaW, zaL, gam, zij, zg4, nl, zhv, h, s2]
    | some j => rw [q] at h; simp [zaW, zaL, gam, zij, zg4, nl, zhv, h, s2]
  · rw [if_neg hl]
    rw [decide_eq_false (by omega)] at nl
    simp [zaW, zaL, gam, zij, zg4, nl, s2]
theorem zdA {as : List Int} {t : T} {ps : List Tp} (A : Ak as) (hb : t.B (-1) 31) (hp : ∀ p ∈ ps, p.ok) : zag [ofI as, .tup [t.d, .lst (ps.map Tp.d)]] = some (.new (ans as t ps)) := by
  unfold ans
  by_cases hl : ps.length = as.length
  · rw [if_pos hl]
    have h := run_eq A hb hp hl
    cases q : bad 0 t as ps with
    | none => rw [q] at h; exact zk7 h
    | some j => rw [q] at h; exact zgn h
  · rw [if_neg hl]
    exact zgn (zkD A fun n hn => by rw [zkn hb, decide_eq_false (by rw [hn]; simp; omega)])
end K20
end
section
namespace K20
open PySem L2 Ex Dv Tr
theorem zgb {S : List Int} : ∀ {t : T}, (∀ x ∈ t.ino, x ∈ S) -> old S t = t
  | .nil, _ => rfl
  | .node k l r, h => by
    unfold old
    rw [if_pos (h k (by simp [T.ino])), zgb (t := l) fun x hx => h x (by simp [T.ino, hx]), zgb (t := r) fun x hx => h x (by simp [T.ino, hx])]
theorem znL (t : T) : TopOf t t := by unfold TopOf; rw [zgb fun x hx => hx]
theorem ziO {t : T} {a : Int} (h : a ∈ t.ino) : fit t a (.tr t) = some t := by
  have n : t ≠ .nil := fun z => by rw [z] at h; cases h
  unfold fit
  simp only
  rw [if_pos ⟨n, znL t, h⟩]
  have := ze8 t.ino t
  rw [zgb fun x hx => hx] at this
  rw [this]
theorem zjk (i : Nat) (t : T) (a : Int) (as : List Int) (p : Tp) (ps : List Tp) : bad i t (a :: as) (p :: ps) = match fit t a p with
  | none => some i
  | some t' => bad (i + 1) t' as ps := by
  first
  | (rw [bad]; done)
  | (rw [bad]; cases fit t a p <;> rfl)
theorem zdW {t : T} {p : Tp} : ∀ (as : List Int) (i : Nat) (bs : List Int) (ps : List Tp), (∀ a ∈ as, fit t a p = some t) -> bad i t (as ++ bs) (List.replicate as.length p ++ ps) = bad (i + as.length) t bs ps
  | [], i, bs, ps, _ => rfl
  | a :: as, i, bs, ps, h => by
    rw [List.length_cons, List.replicate_succ, List.cons_append, List.cons_append]
    rw [zjk, h a (List.mem_cons_self ..)]
    simp only
    rw [zdW as (i + 1) bs ps fun b hb => h b (List.mem_cons_of_mem _ hb)]
    rw [show i + 1 + as.length = i + (as.length + 1) by omega]
def chn : Nat -> T
  | 0 => .nil
  | n + 1 => .node (30 - n) .nil (chn n)
theorem zmE : ∀ n : Nat, n <= 31 -> (chn n).B (30 - n) 31
  | 0, _ => trivial
  | n + 1, h => by
    refine ⟨⟨by omega, by omega⟩, ⟨by omega, by omega⟩, trivial, zmE n (by omega)⟩
theorem zml : ∀ n : Nat, ∀ a : Int, a ∈ (chn n).ino ↔ 30 - n < a /\ a <= 30
  | 0, a => by simp [chn, T.ino] <;> omega
  | n + 1, a => by
    simp only [chn, T.ino, List.nil_append, List.mem_cons, zml n a]
    constructor
    · rintro (h | h)
      · subst h; simp; omega
      · simp; omega
    · intro h
      simp at h
      omega
theorem zk1 : (chn 31).B (-1) 31 := zmE 31 (by omega)
def rI (lo : Int) (n : Nat) : List Int := (List.range n).map fun (i : Nat) => lo + i
theorem zoY (lo : Int) (n : Nat) : upI lo n = (rI lo n).map D.int := by simp [upI, rI]
theorem zdG (lo : Int) (n : Nat) : (rI lo n).length = n := by simp [rI]
theorem rI_in {lo a : Int} {n : Nat} : a ∈ rI lo n ↔ lo <= a /\ a < lo + n := by
  unfold rI
  rw [List.mem_map]
  constructor
  · rintro ⟨i, hi, rfl⟩
    have := List.mem_range.mp hi
    omega
  · intro h
    exact ⟨(a - lo).toNat, List.mem_range.mpr (by omega), by omega⟩
theorem zpK : Ak (rI 0 31) := ⟨by rw [zdG]; omega, by rw [zdG]; omega, fun a ha => by have := rI_in.mp ha; omega⟩
theorem ak0 : Ak (List.replicate 31 0) := ⟨by simp, by simp, fun a ha => by have := List.eq_of_mem_replicate ha; omega⟩
abbrev one (k : Int) : T := .node k .nil .nil
theorem zjl {k : Int} (h : 0 <= k /\ k <= 30) : (one k).B (-1) 31 := ⟨h, ⟨by omega, by omega⟩, trivial, trivial⟩
theorem zkC : fit (chn 31) 0 (.tr (one 0)) = some (chn 31) := by
  have e : chn 31 = .node 0 .nil (chn 30) := rfl
  have t0 : (chn 30).ino.Nodup := Up.nodup ((zbu _ _ _).mp (zmE 30 (by omega))).1
  have n0 : ∀ m, m <= 30 -> parts [0] (chn m) = [chn m] := fun m hm => by
    cases m with
    | zero => rfl
    | succ m =>
      have : (30 - (m : Int)) ∉ [(0 : Int)] := by simp; omega
      unfold chn parts
      rw [if_neg this]
  have o0 : old [0] (chn 30) = .nil := by
    have : (30 - ((29 : Nat) : Int)) ∉ [(0 : Int)] := by decide
    show old [0] (.node (30 - ((29 : Nat) : Int)) .nil (chn 29)) = .nil
    unfold old
    rw [if_neg this]
  have tp : TopOf (one 0) (.node 0 .nil (chn 30)) := by
    show (old [0] (.node 0 .nil (chn 30))).ino = [0]
    unfold old
    rw [if_pos (by simp), o0]
    rfl
  have pt : parts [0] (.node 0 .nil (chn 30)) = [.nil, chn 30] := by
    unfold parts
    rw [if_pos (by simp), n0 30 (by omega)]
    rfl
  rw [e]
  unfold fit
  simp only
  have q : one 0 ≠ .nil /\ TopOf (one 0) (.node 0 .nil (chn 30)) /\ (0 : Int) ∈ (one 0).ino := ⟨(fun z => by cases z), tp, by simp [T.ino]⟩
  rw [if_pos q]
  show some (hung (one 0) (parts [0] (.node 0 .nil (chn 30)))) = _
  rw [pt]
  rfl
theorem zko {t u : T} {a : Int} (h : a ∉ u.ino) : fit t a (.tr u) = none := by
  unfold fit
  simp only
  rw [if_neg fun q => h q.2.2]
theorem zma : rI 0 31 = rI 0 30 ++ [30] := by decide
theorem zqJ : rI 0 31 = [0] ++ 1 :: rI 2 29 := by decide
theorem zo3 {a : Int} (h : 0 <= a /\ a <= 30) : a ∈ (chn 31).ino := (zml 31 a).mpr (by omega)
theorem zik {ps : List Tp} {n : Nat} {p : Tp} (h : p.ok) (hp : ∀ q ∈ ps, q.ok) : ∀ q ∈ List.replicate n p ++ ps, q.ok := fun q hq => (List.mem_append.mp hq).elim (fun z => by rw [List.eq_of_mem_replicate z]; exact h) (hp q)
theorem zrZ : zag [ofI (rI 0 31), .tup [(chn 31).d, .lst (List.replicate 31 (chn 31).d)]] = some (.new (.lst [.str "told", .non])) := by
  have h := zdA (t := chn 31) (ps := List.replicate 31 (.tr (chn 31)) ++ []) zpK zk1 (zik (p := .tr (chn 31)) zk1 (by simp))
  have b := zdW (t := chn 31) (p := .tr (chn 31)) (rI 0 31) 0 [] [] (fun a ha => ziO (zo3 (by have := rI_in.mp ha; omega)))
  rw [List.append_nil, zdG] at b
  unfold ans at h
  rw [if_pos (by rw [zdG]; simp), b] at h
  rw [List.append_nil, List.map_replicate] at h
  exact h
theorem long2 : zag [ofI (rI 0 31), .tup [(chn 31).d, .lst (List.replicate 30 (chn 31).d ++ [(one 5).d])]] = some (.new (.lst [.str "run", .int 30])) := by
  have h := zdA (t := chn 31) (ps := List.replicate 30 (.tr (chn 31)) ++ [.tr (one 5)]) zpK zk1 (zik (p := .tr (chn 31)) zk1 (fun q hq => by rw [List.mem_singleton.mp hq]; exact zjl (k := 5) (by omega)))
  have b := zdW (t := chn 31) (p := .tr (chn 31)) (rI 0 30) 0 [30] [.tr (one 5)] (fun a ha => ziO (zo3 (by have := rI_in.mp ha; omega)))
  rw [<- zma, zdG] at b
  rw [zjk] at b
  rw [zko (by simp [T.ino])] at b
  simp only [Nat.zero_add] at b
  unfold ans at h
  rw [if_pos (by rw [zdG]; simp)] at h
  have b' : bad 0 (chn 31) (rI 0 31) (List.replicate 30 (.tr (chn 31)) ++ [.tr (one 5)]) = some 30 := b
  rw [b', List.map_append, List.map_replicate] at h
  exact h
theorem zro : zag [ofI (List.replicate 31 0), .tup [(chn 31).d, .lst (List.replicate 31 (one 0).d)]] = some (.new (.lst [.str "told", .non])) := by
  have h := zdA (t := chn 31) (ps := List.replicate 31 (.tr (one 0)) ++ []) ak0 zk1 (zik (p := .tr (one 0)) (zjl (k := 0) (by omega)) (by simp))
  have b := zdW (t := chn 31) (p := .tr (one 0)) (List.replicate 31 0) 0 [] [] (fun a ha => by rw [List.eq_of_mem_replicate ha]; exact zkC)
  rw [List.append_nil, List.length_replicate] at b
  unfold ans at h
  rw [if_pos (by simp), b] at h
  rw [List.append_nil, List.map_replicate] at h
  exact h
theorem zq6 : zag [ofI (rI 0 31), .tup [(chn 31).d, .lst (List.replicate 31 (one 0).d)]] = some (.new (.lst [.str "run", .int 1])) := by
  have h := zdA (t := chn 31) (ps := List.replicate 31 (.tr (one 0)) ++ []) zpK zk1 (zik (p := .tr (one 0)) (zjl (k := 0) (by omega)) (by simp))
  have b := zdW (t := chn 31) (p := .tr (one 0)) [0] 0 (1 :: rI 2 29) (.tr (one 0) :: List.replicate 29 (.tr (one 0))) (fun a ha => by rw [List.mem_singleton.mp ha]; exact zkC)
  rw [<- zqJ] at b
  rw [zjk] at b
  rw [zko (by simp [T.ino])] at b
  simp only at b
  have b' : bad 0 (chn 31) (rI 0 31) (List.replicate 31 (.tr (one 0))) = some 1 := b
  unfold ans at h
  rw [if_pos (by rw [zdG]; simp), List.append_nil, b', List.map_replicate] at h
  exact h
end K20
end
section
namespace K20
open PySem L2 Ex Dv Tr
theorem za0 {s s' : M Fl} {Γ Γ1 : En} {r : Res Fl} (h : s Γ = .ok .nx Γ1) (h' : s' Γ1 = r) : zak s s' Γ = r := by rw [ziF, h]; exact h'
theorem rep1 {d : D} {n : Nat} (hn : n <= 1000) : zdP (.lst [d]) (.int n) = some (.new (.lst (List.replicate n d))) := by
  have ln := line
  have c : cd (-(2 ^ 63) <= (n : Int) /\ (n : Int) < 2 ^ 63 /\ [d].length * (n : Int).toNat <= sizeLine) = true := zda ⟨by omega, by omega, by simp; omega⟩
  show (if cd (-(2 ^ 63) <= (n : Int) /\ (n : Int) < 2 ^ 63 /\ [d].length * (n : Int).toNat <= sizeLine) = true then some (RV.new (.lst (List.replicate (n : Int).toNat [d]).flatten)) else none) = _
  rw [if_pos c, Int.toNat_natCast, List.flatten_replicate_singleton]
theorem ok2 (a : Str) (d : D) (ha : (D.str a).py.canLay0 = true) (h : d = .non \/ ∃ i, d = .int i) : zeL (.lst [.str a, d]) = true := by
  have e : ∀ d : D, (d = .non \/ ∃ i, d = .int i) -> d.py.canLay0 = true /\ d.py.depth = 0 := fun d h => by
    rcases h with rfl | ⟨i, rfl⟩ <;> exact ⟨rfl, by simp [D.py, PyData.depth]⟩
  obtain ⟨e1, e2⟩ := e d h
  have e3 : (D.str a).py.depth = 0 := by simp [D.py, PyData.depth]
  have e0 : (D.lst [.str a, d]).py = .list [(D.str a).py, d.py] := rfl
  have h1 : PyData.canLayAll0 [(D.str a).py, d.py] = true := zkI fun x hx => by
    simp  only [List.mem_cons, List.not_mem_nil, or_false] at hx
    rcases hx with rfl | rfl
    · exact ha
    · exact e1
  have h2 : PyData.depthAll [(D.str a).py, d.py] <= 0 := zhj fun x hx => by
    simp  only [List.mem_cons, List.not_mem_nil, or_false] at hx
    rcases hx with rfl | rfl <;> omega
  unfold zeL SeqAt.shaped
  rw [e0]
  simp [PyData.canLay0, PyData.depth, h1]; omega
theorem ze3 : (D.str "told").py.canLay0 = true := by decide +kernel
theorem zeS : (D.str "run").py.canLay0 = true := by decide +kernel
theorem zmV : (D.str "asks").py.canLay0 = true := by decide +kernel
noncomputable def lgS : M Fl := (zaM 0 (zbp (Zj (zaa 1) (Zj (M.pure (.val .non)) (Zj (zaa 0) (M.pure []))))))
noncomputable def lg2 : M Fl := (forM (znz (Zj (M.pure (.val (.int 30))) (Zj (op1 zdO (M.pure (.val (.int 1)))) (Zj (op1 zdO (M.pure (.val (.int 1)))) (M.pure []))))) (gN 1) lgS)
noncomputable def lg3 : M Fl := (zaM 2 (zgV (Zj (M.pure (.val (.int 31))) (M.pure []))))
noncomputable def lg4 : M Fl := (ifM (M.bind (op2 zbk (zar zag (Zj (zaa 2) (Zj (zbp (Zj (zaa 0) (Zj (op2 zdP (lstM (Zj (zaa 0) (M.pure []))) (M.pure (.val (.int 31)))) (M.pure [])))) (M.pure [])))) (lstM (Zj (M.pure (.val (.str "told"))) (Zj (M.pure (.val .non)) (M.pure []))))) asB)
  (zaP (M.pure (.val (.bl false))))
  (M.pure .nx))
noncomputable def lg5 : M Fl := (ifM (M.bind (op2 zbk (zar zag (Zj (zaa 2) (Zj (zbp (Zj (zaa 0) (Zj (op2 zbb (op2 zdP (lstM (Zj (zaa 0) (M.pure []))) (M.pure (.val (.int 30)))) (lstM (Zj (zbp (Zj (M.pure (.val (.int 5))) (Zj (M.pure (.val .non)) (Zj (M.pure (.val .non)) (M.pure []))))) (M.pure [])))) (M.pure [])))) (M.pure [])))) (lstM (Zj (M.pure (.val (.str "run"))) (Zj (M.pure (.val (.int 30))) (M.pure []))))) asB)
  (zaP (M.pure (.val (.bl false))))
  (M.pure .nx))
noncomputable def lg6 : M Fl := (zaM 3 (op2 zdP (lstM (Zj (zbp (Zj (M.pure (.val (.int 0))) (Zj (M.pure (.val .non)) (Zj (M.pure (.val .non)) (M.pure []))))) (M.pure []))) (M.pure (.val (.int 31)))))
noncomputable def lg7 : M Fl := (zaP (zfj (op2 zbC (zar zag (Zj (op2 zdP (lstM (Zj (M.pure (.val (.int 0))) (M.pure []))) (M.pure (.val (.int 31)))) (Zj (zbp (Zj (zaa 0) (Zj (zaa 3) (M.pure [])))) (M.pure [])))) (lstM (Zj (M.pure (.val (.str "told"))) (Zj (M.pure (.val .non)) (M.pure []))))) (op2 zbC (zar zag (Zj (zaa 2) (Zj (zbp (Zj (zaa 0) (Zj (zaa 3) (M.pure [])))) (M.pure [])))) (lstM (Zj (M.pure (.val (.str "run"))) (Zj (M.pure (.val (.int 1))) (M.pure [])))))))
theorem zsc : zbK zag = zak (zaM 0 (M.pure (.val .non))) (zak lg2 (zak lg3 (zak lg4 (zak lg5 (zak lg6 lg7))))) := rfl
theorem zpS {lo c : Int} {n i : Nat} {x : D} (h : (upC lo c n)[i]? = some x) : i < n /\ x = .int (lo + (i : Int) * c) := by
  unfold upC at h
  rw [List.getElem?_map] at h
  cases e : (List.range n)[i]? with
  | none => rw [e] at h; cases h
  | some j =>
    rw [e] at h
    obtain ⟨h1, h2⟩ := List.getElem?_eq_some_iff.mp e
    rw [List.getElem_range] at h2
    subst h2
    cases h
    exact ⟨by simpa using h1, rfl⟩
theorem zn0 {fs : M (List RV)} {Γ : En} : znz fs Γ = M.bind fs (fun rvs => match rvs with
  | [.val (.int i), .val (.int j), .val (.int c)] => if cd (c ≠ 0 /\ c.natAbs < 1073741824 /\ Builtin.Range.small i j c = true /\ 0 <= Builtin.Range.rangeSize i j c) then M.pure (upC i c (Builtin.Range.rangeSize i j c).toNat) else M.st
  | _ => M.st) Γ := (rfl)
theorem zj1 {fs : M (List RV)} {Γ : En} : zgV fs Γ = M.bind fs (fun rvs => match rvs with
  | [.val (.int j)] => if cd (Builtin.Range.small 0 j 1 = true /\ (j - 0).toNat <= 1000) then M.pure (.new (.lst (upI 0 (j - 0).toNat))) else M.st
  | [.val (.int i), .val (.int j)] => if cd (Builtin.Range.small i j 1 = true /\ (j - i).toNat <= 1000) then M.pure (.new (.lst (upI i (j - i).toNat))) else M.st
  | _ => M.st) Γ := (rfl)
theorem zqq : ∃ y1, lg2 [some (.frz, .non), none, none, none] = .ok .nx [some (.frz, (chn 31).d), y1, none, none] := by
  have ln := line
  have s3 : 3 <= sizeLine := by omega
  have c : cd ((-1 : Int) ≠ 0 /\ (-1 : Int).natAbs < 1073741824 /\ Builtin.Range.small 30 (-1) (-1) = true /\ 0 <= Builtin.Range.rangeSize 30 (-1) (-1)) = true := zda (by decide +kernel)
  have c2 : cd (Builtin.Range.small 30 (-1) (-1) = true /\ 0 <= Builtin.Range.rangeSize 30 (-1) (-1)) = true := zda (by decide +kernel)
  have rs : (Builtin.Range.rangeSize 30 (-1) (-1)).toNat = 31 := by decide +kernel
  obtain ⟨Γ', hl, y1, rfl⟩ := zdu (m := gN 1) (s := lgS) (fun i Γ => ∃ y1, Γ = [some (.frz, (chn i).d), y1, none, none]) (ds := upC 30 (-1) 31) (Γ := [some (.frz, .non), none, none, none]) ⟨none, rfl⟩ (by
    rintro i d Γ hd ⟨y1, rfl⟩
    obtain ⟨hi, rfl⟩ := zpS hd
    refine ⟨_, _, rfl, .inl ?_, some (.frz, .int (30 + (i : Int) * (-1))), rfl⟩
    have e : (30 : Int) - i = 30 + (i : Int) * (-1) := by omega
    simp [lgS, s3, chn, T.d, e])
  have ul : (upC 30 (-1) 31).length = 31 := by simp [upC]
  rw [ul] at hl
  refine ⟨y1, ?_⟩
  simp only [lg2, zq4, zm9, zn0, zlT, zmP, zoX, zrf, zof, zpe]
  simp [c2, rs, hl]
theorem zoR : zaI [] = some (.val (.bl true)) := by
  have ln := line
  have s1 : 1 <= sizeLine := by omega
  have s2 : 2 <= sizeLine := by omega
  have s3 : 3 <= sizeLine := by omega
  obtain ⟨y1, h2⟩ := zqq
  have h3 : lg3 [some (.frz, (chn 31).d), y1, none, none] = .ok .nx [some (.frz, (chn 31).d), y1, some (.own, ofI (rI 0 31)), none] := by
    have c : cd (Builtin.Range.small 0 31 1 = true /\ ((31 : Int) - 0).toNat <= 1000) = true := zda (by decide +kernel)
    have e : upI 0 ((31 : Int) - 0).toNat = (rI 0 31).map D.int := zoY 0 31
    simp only [lg3, zrE, zj1, zm9, zlT, zmP, zoX]
    rw [if_pos c, e]
    rfl
  have l1 := zrZ
  have l2 := long2
  have l3 := zro
  have l4 := zq6
  generalize (chn 31).d = ch at *
  have a31 : ofI (List.replicate 31 0) = .lst (List.replicate 31 (.int 0)) := by simp
  rw [a31] at l3
  generalize ofI (rI 0 31) = R at *
  have o5 : (one 5).d = .tup [.int 5, .non, .non] := rfl
  have o0 : (one 0).d = .tup [.int 0, .non, .non] := rfl
  rw [o5] at l2
  rw [o0] at l3 l4
  have r1 : zdP (.lst [ch]) (.int 31) = some (.new (.lst (List.replicate 31 ch))) := rep1 (n := 31) (by omega)
  have r2 : zdP (.lst [ch]) (.int 30) = some (.new (.lst (List.replicate 30 ch))) := rep1 (n := 30) (by omega)
  have r3 : zdP (.lst [.tup [.int 0, .non, .non]]) (.int 31) = some (.new (.lst (List.replicate 31 (.tup [.int 0, .non, .non])))) := rep1 (n := 31) (by omega)
  have r4 : zdP (.lst [.int 0]) (.int 31) = some (.new (.lst (List.replicate 31 (.int 0)))) := rep1 (n := 31) (by omega)
  have ad : zbb (.lst (List.replicate 30 ch)) (.lst [.tup [.int 5, .non, .non]]) = some (.new (.lst (List.replicate 30 ch ++ [.tup [.int 5, .non, .non]]))) := zbL (by simp; omega)
  have n1 : zbk (.lst [.str "told", .non]) (.lst [.str "told", .non]) = some (.val (.bl false)) := zbN (ok2 _ _ ze3 (.inl rfl))
  have n2 : zbk (.lst [.str "run", .int 30]) (.lst [.str "run", .int 30]) = some (.val (.bl false)) := zbN (ok2 _ _ zeS (.inr ⟨_, rfl⟩))
  have n3 : zbC (.lst [.str "told", .non]) (.lst [.str "told", .non]) = some (.val (.bl true)) := zd7 (ok2 _ _ ze3 (.inl rfl))
  have n4 : zbC (.lst [.str "run", .int 1]) (.lst [.str "run", .int 1]) = some (.val (.bl true)) := zd7 (ok2 _ _ zeS (.inr ⟨_, rfl⟩))
  have i1 : zdr (.new (.lst [.str "told", .non])) = true := rfl
  have i2 : ∀ i, zdr (.new (.lst [.str "run", .int i])) = true := fun _ => rfl
  generalize List.replicate 30 ch ++ [.tup [.int 5, .non, .non]] = L2 at *
  generalize List.replicate 30 ch = L30 at *
  generalize List.replicate 31 ch = L31 at *
  generalize List.replicate 31 (D.tup [.int 0, .non, .non]) = Z31 at *
  generalize List.replicate 31 (D.int 0) = O31 at *
  have h4 : lg4 [some (.frz, ch), y1, some (.own, R), none] = .ok .nx [some (.frz, ch), y1, some (.own, R), none] := by
    simp [lg4, s1, s2, r1, l1, i1, n1]
  have h5 : lg5 [some (.frz, ch), y1, some (.own, R), none] = .ok .nx [some (.frz, ch), y1, some (.own, R), none] := by
    simp [-zbL, lg5, s1, s2, s3, r2, ad, l2, i2, n2]
  have h6 : lg6 [some (.frz, ch), y1, some (.own, R), none] = .ok .nx [some (.frz, ch), y1, some (.own, R), some (.own, .lst Z31)] := by
    simp [lg6, s1, s3, r3]
  have h7 : ∃ Γ', lg7 [some (.frz, ch), y1, some (.own, R), some (.own, .lst Z31)] = .ok (.ret (.val (.bl true))) Γ' := ⟨_, by
    simp [lg7, s1, s2, r4, l3, l4, i1, i2, n3, n4]; rfl⟩
  obtain ⟨Γ', h7⟩ := h7
  have all : zbK zag [none, none, none, none] = .ok (.ret (.val (.bl true))) Γ' := by
    rw [zsc]
    exact za0 (Γ1 := [some (.frz, .non), none, none, none]) (by simp) (za0 h2 (za0 h3 (za0 h4 (za0 h5 (za0 h6 h7)))))
  unfold zaI
  simp [zaW, gam, zaL, all]
end K20
end
section
namespace K20
open PySem L2 Ex Dv Tr
theorem zdy {k : Int} : ∀ {t : T}, ∀ y ∈ way k t, y ∈ t.ino
  | .nil, y, h => by cases h
  | .node x l r, y, h => by
    simp only [way, List.mem_cons] at h
    simp only [T.ino, List.mem_append, List.mem_cons]
    rcases h with rfl | h
    · exact .inr (.inl rfl)
    · split at h
      · cases h
      · split at h
        · exact .inl (zdy y h)
        · exact .inr (.inr (zdy y h))
theorem zgf {k p : Int} : ∀ {t : T} {lo hi : Int} {F G : List Int}, t.B lo hi -> way k t = F ++ p :: G -> way p t = F ++ [p]
  | .nil, _, _, F, G, _, h => by cases F <;> cases h
  | .node x l r, lo, hi, F, G, hb, h => by
    obtain ⟨⟨b1, b2⟩, ⟨b3, b4⟩, b5, b6⟩ := hb
    have l1 : ∀ y ∈ l.ino, y < x := fun y hy => (Up.lt ((zbu l _ _).mp b5).1 y hy).2
    have r1 : ∀ y ∈ r.ino, x < y := fun y hy => (Up.lt ((zbu r _ _).mp b6).1 y hy).1
    cases F with
    | nil =>
      simp only [way, List.nil_append] at h
      injection h with h1 h2
      subst h1
      simp [way]
    | cons f F' =>
      simp only [way, List.cons_append] at h
      injection h with h1 h2
      subst h1
      by_cases e : x = k
      · rw [if_pos e] at h2
        cases F' <;> cases h2
      · rw [if_neg e] at h2
        by_cases q : k < x
        · rw [if_pos q] at h2
          have hp := l1 p (zdy (k := k) p (by rw [h2]; simp))
          have ih := zgf b5 h2
          simp only [way]
          rw [if_neg (by omega), if_pos hp, ih]
          rfl
        · rw [if_neg q] at h2
          have hp := r1 p (zdy (k := k) p (by rw [h2]; simp))
          have ih := zgf b6 h2
          simp only [way]
          rw [if_neg (by omega), if_neg (by omega), ih]
          rfl
theorem zfJ {k : Int} : ∀ {t : T} {lo hi : Int}, t.B lo hi -> (way k t).Nodup
  | .nil, _, _, _ => by simp [way]
  | .node x l r, lo, hi, hb => by
    obtain ⟨⟨b1, b2⟩, ⟨b3, b4⟩, b5, b6⟩ := hb
    have l1 : ∀ y ∈ l.ino, y < x := fun y hy => (Up.lt ((zbu l _ _).mp b5).1 y hy).2
    have r1 : ∀ y ∈ r.ino, x < y := fun y hy => (Up.lt ((zbu r _ _).mp b6).1 y hy).1
    simp only [way]
    rw [List.nodup_cons]
    split
    · exact ⟨by simp, by simp⟩
    · split
      · exact ⟨fun h => by have := l1 x (zdy x h); omega, zfJ b5⟩
      · exact ⟨fun h => by have := r1 x (zdy x h); omega, zfJ b6⟩
structure Cl (t : T) (k : Int) (O : List Int) : Prop where
  has : k ∈ O
  nd : O.Nodup
  sub : ∀ x ∈ O, x ∈ t.ino
  up : ∀ x ∈ O, ∀ y ∈ way x t, y ∈ O
theorem Cl.start {t : T} {k lo hi : Int} (hb : t.B lo hi) (hk : k ∈ t.ino) : Cl t k (way k t) :=
  ⟨List.mem_of_getLast? ((zd3 hb).mp hk), zfJ hb, fun x hx => zdy x hx, fun x hx y hy => by
    obtain ⟨F, G, e⟩ := List.append_of_mem hx
    rw [zgf hb e] at hy
    rw [e]
    simp only [List.mem_append, List.mem_singleton, List.mem_cons, List.not_mem_nil, or_false] at hy ⊢
    rcases hy with h | h
    · exact .inl h
    · exact .inr (.inl h)⟩
theorem zpO {W : List Int} (h : 2 <= W.length) : ∃ F p x, W = F ++ [p, x] := by
  obtain ⟨G, x, rfl⟩ := zdJ (W := W) (by intro z; rw [z] at h; simp at h)
  obtain ⟨F, p, rfl⟩ := zdJ (W := G) (by intro z; rw [z] at h; simp at h)
  exact ⟨F, p, x, by simp⟩
theorem zpg {F : List Int} {p x : Int} : L2.atI ((F ++ [p, x]).map D.int) (-2) = some (.int p) := by
  have e : L2.ixN ((F ++ [p, x]).map D.int).length (-2) = some F.length := by
    have l : ((F ++ [p, x]).map D.int).length = F.length + 2 := by simp
    rw [l]
    unfold L2.ixN
    simp
    omega
  unfold L2.atI
  rw [e]
  simp
theorem zje {t : T} {k x : Int} {l r : T} (e : t = .node x l r) : ∃ G, way k t = x :: G := by subst e; exact ⟨_, rfl⟩
theorem Cl.par {t : T} {k x lo hi : Int} {O : List Int} (h : Cl t k O) (hb : t.B lo hi) (hx : x ∈ t.ino) (hn : x ∉ O) : ∃ p, L2.atI ((way x t).map D.int) (-2) = some (.int p) /\ (p ∈ O -> Cl t k (O ++ [x])) := by
  have wl := (zd3 hb).mp hx
  have len : 2 <= (way x t).length := by
    cases t with
    | nil => cases hx
    | node y l r =>
      obtain ⟨G, e⟩ := zje (k := x) (t := .node y l r) rfl
      obtain ⟨G', e'⟩ := zje (k := k) (t := .node y l r) rfl
      cases G with
      | nil =>
        rw [e] at wl
        simp at wl
        subst wl
        exact absurd (h.up k h.has y (by rw [e']; simp)) hn
      | cons _ _ => rw [e]; simp
  obtain ⟨F, p, z, e⟩ := zpO len
  have : z = x := by rw [e] at wl; simpa using wl
  subst this
  refine ⟨p, by rw [e]; exact zpg, fun hp => ?_⟩
  have wp := zgf (k := z) (p := p) (F := F) (G := [z]) hb e
  refine ⟨List.mem_append_left _ h.has, ?_, ?_, ?_⟩
  · rw [List.nodup_append]
    exact ⟨h.nd, by simp, fun a ha b hb' => by rw [List.mem_singleton.mp hb']; intro c; subst c; exact hn ha⟩
  · intro y hy
    rcases List.mem_append.mp hy with hy | hy
    · exact h.sub y hy
    · rw [List.mem_singleton.mp hy]; exact hx
  · intro y hy w hw
    rcases List.mem_append.mp hy with hy | hy
    · exact List.mem_append_left _ (h.up y hy w hw)
    · rw [List.mem_singleton.mp hy, e] at hw
      rcases List.mem_append.mp hw with hw | hw
      · exact List.mem_append_left _ (h.up p hp w (by rw [wp]; simp [hw]))
      · simp only [List.mem_cons, List.not_mem_nil, or_false] at hw
        rcases hw with rfl | rfl
        · exact List.mem_append_left _ hp
        · simp
theorem Cl.top {t u : T} {k lo hi : Int} {O : List Int} (h : Cl t k O) (hb : t.B (-1) 31) (e : u.ino = srt O) : u.B (-1) 31 /\ fit t k (.tr u) = some (hung u (parts u.ino t)) /\ TopOf u t := by
  have tb := (zbu t _ _).mp hb
  have kb : ∀ x ∈ u.ino, 0 <= x /\ x <= 30 := fun x hx => tb.2 x (h.sub x (by rw [e] at hx; exact (zfg O x).mp hx))
  have ub : u.B (-1) 31 := (zbu u _ _).mpr ⟨ze4 (by rw [e]; exact znN h.nd) fun x hx => by have := kb x hx; omega, kb⟩
  have tp : TopOf u t := (zjY hb ub).mpr fun x hx => by
    rw [e] at hx
    have hx := (zfg O x).mp hx
    exact ⟨h.sub x hx, fun y hy => by rw [e]; exact (zfg O y).mpr (h.up x hx y hy)⟩
  have ki : k ∈ u.ino := by rw [e]; exact (zfg O k).mpr h.has
  refine ⟨ub, ?_, tp⟩
  have q : u ≠ .nil /\ TopOf u t /\ k ∈ u.ino := ⟨(fun z => by rw [z] at ki; cases ki), tp, ki⟩
  unfold fit
  simp only
  rw [if_pos q]
theorem Cl.len {t : T} {k : Int} {O : List Int} (h : Cl t k O) (hb : t.B (-1) 31) : O.length <= 31 := by
  have : (srt O).length <= 31 := by
    have tb := (zbu t _ _).mp hb
    have : Up (-1) 31 (srt O) := ze4 (znN h.nd) fun x hx => by have := tb.2 x (h.sub x ((zfg O x).mp hx)); omega
    have := Up.len this (by omega)
    omega
  have e := (zdZ O).length_eq
  omega
end K20
end
section
namespace K20
open PySem L2 Ex Dv Tr
def zf6 (t : T) (O : List Int) (x : Int) : Bool := !decide (x ∈ O) && (match L2.atI ((way x t).map D.int) (-2) with
  | some (.int p) => decide (p ∈ O)
  | _ => false)
def zhB (t : T) (O : List Int) : D -> Option D
  | .int x => if zf6 t O x then some (.int x) else none
  | _ => none
theorem zkc (t : T) (O : List Int) : ∀ W : List Int, (W.map D.int).filterMap (zhB t O) = (W.filter (zf6 t O)).map D.int
  | [] => rfl
  | a :: r => by
    rw [List.map_cons, List.filterMap_cons, List.filter_cons, zkc t O r]
    by_cases h : zf6 t O a = true <;> simp [zhB, h]
noncomputable def zjh : M Bool := (andM (M.bind (op2 (inO true) (zaa 0) (zaa 1)) asB) (M.bind (op2 (inO false) (op2 zaJ (zar zaK (Zj (zaa 2) (Zj (zaa 0) (M.pure [])))) (op1 zdO (M.pure (.val (.int 2))))) (zaa 1)) asB))
theorem zn8 {t : T} {k : Int} {O ks : List Int} (hb : t.B (-1) 31) (hc : Cl t k O) (hk : ∀ x ∈ ks, x ∈ t.ino) {x0 x1 x2 x3 x5 x6 x8 x9 : Sl} {kd : Kd} (hkd : kd = .own \/ kd = .frz) :
    lcM [7, 4] 1 (gN 0) zjh (zaa 0) (ks.map D.int) [x0, x1, x2, x3, some (.frz, t.d), x5, x6, some (kd, ofI O), x8, x9] = .ok ((ks.filter (zf6 t O)).map D.int) [x0, x1, x2, x3, some (.frz, t.d), x5, x6, some (kd, ofI O), x8, x9] := by
  rw [<- zkc]
  refine zkp (zhB t O) (ks.map D.int) fun d hd => ?_
  obtain ⟨x, hx, rfl⟩ := List.mem_map.mp hd
  refine ⟨[some (.frz, .int x), some (kd, ofI O), some (.frz, t.d)], ?_, rfl⟩
  have e := zct true O x
  have w := zjw x (t := t) (by have := zdC hb; omega)
  by_cases h : x ∈ O
  · rcases hkd with rfl | rfl <;> simp [zcb, zjh, zhB, zf6, h, e]
  · obtain ⟨p, ep, _⟩ := hc.par hb (hk x hx) h
    have e2 := zct false O p
    by_cases h2 : p ∈ O
    · rcases hkd with rfl | rfl <;> simp [zcb, zjh, zhB, zf6, h, e, w, ep, e2, h2]
    · rcases hkd with rfl | rfl <;> simp [zcb, zjh, zhB, zf6, h, e, w, ep, e2, h2]
noncomputable def zgO : M Fl := (zak (zaM 9 (zds (zey (zaa 1)) [7, 4] 1 (gN 0) zjh (zaa 0)))
  (ifM (M.bind (op2 zbk (zaa 9) (lstM (M.pure []))) asB)
  (zaM 7 (op2 zbb (zaa 7) (lstM (Zj (op2 zaJ (zaa 9) (zba zae (Zj (zaa 0) (Zj (zaV zbZ (Zj (zaa 9) (M.pure []))) (M.pure []))))) (M.pure [])))))
  (M.pure .nx)))
theorem zmx {t : T} {k : Int} {O ks : List Int} {c s : Int} (hb : t.B (-1) 31) (hc : Cl t k O) (hk : ∀ x ∈ ks, x ∈ t.ino) (hl : ks.length <= 31) (hd : Sd s) {x2 x3 x5 x6 x8 x9 : Sl} :
    ∃ O' c' s' y9, zgO [some (.io 0, .lst (pl c s)), some (.frz, ofI ks), x2, x3, some (.frz, t.d), x5, x6, some (.own, ofI O), x8, x9] = .ok .nx [some (.io 0, .lst (pl c' s')), some (.frz, ofI ks), x2, x3, some (.frz, t.d), x5, x6, some (.own, ofI O'), x8, y9] /\ Cl t k O' /\ Sd s' := by
  have ln := line
  have s0 : 0 <= sizeLine := by omega
  have s1 : 1 <= sizeLine := by omega
  have sl : ks.length < sizeLine := by omega
  have lc := zn8 (x0 := some (.io 0, .lst (pl c s))) (x1 := some (.frz, ofI ks)) (x2 := x2) (x3 := x3) (x5 := x5) (x6 := x6) (x8 := x8) (x9 := x9) hb hc hk (kd := .own) (.inl rfl)
  have ml : (ks.filter (zf6 t O)).length <= 31 := Nat.le_trans (List.length_filter_le _ _) hl
  have mi : ∀ x ∈ ks.filter (zf6 t O), x ∈ ks /\ zf6 t O x = true := fun x hx => List.mem_filter.mp hx
  have ol := hc.len hb
  generalize ks.filter (zf6 t O) = L at *
  have nn := zj2 L
  cases hL : L with
  | nil =>
    subst hL
    refine ⟨O, c, s, some (.own, ofI []), ?_, hc, hd⟩
    have nn : zbk (.lst []) (.lst []) = some (.val (.bl false)) := nn
    simp [zgO, sl, lc, s0, nn]
  | cons l0 lr =>
    rw [show L.isEmpty = false by rw [hL]; rfl] at nn
    have lp : 0 < L.length := by rw [hL]; simp
    obtain ⟨x1, c1, s1', hx, hx1, hs1⟩ := zb9 (c := c) (m := (L.length : Nat)) hd (by omega) (by omega)
    obtain ⟨i, rfl⟩ : ∃ i : Nat, x1 = i := ⟨x1.toNat, by omega⟩
    have hi : i < L.length := by omega
    have al : L2.atI (L.map D.int) (i : Int) = some (.int L[i]) := by rw [zfK, zdE (List.getElem?_eq_getElem hi)]; rfl
    obtain ⟨m1, m2⟩ := mi L[i] (List.getElem_mem hi)
    have cl' : Cl t k (O ++ [L[i]]) := by
      unfold zf6 at m2
      rw [Bool.and_eq_true, Bool.not_eq_true', decide_eq_false_iff_not] at m2
      obtain ⟨p, ep, hp⟩ := hc.par hb (hk _ m1) m2.1
      rw [ep] at m2
      exact hp (by simpa using m2.2)
    have ad : zbb (ofI O) (.lst [.int L[i]]) = some (.new (ofI (O ++ [L[i]]))) := by
      have := zbL (xs := O.map D.int) (ys := [.int L[i]]) (by simp; omega)
      rw [this]
      simp
    refine ⟨O ++ [L[i]], c1, s1', some (.own, ofI L), ?_, cl', hs1⟩
    generalize L[i] = y at *
    subst hL
    generalize hLL : l0 :: lr = L at *
    simp [-zbL, -List.map_append, zgO, sl, lc, s0, s1, nn, hx, al, ad]
end K20
end
section
namespace K20
open PySem L2 Ex Dv Tr
noncomputable def zpA : M Fl := (zaM 7 (zar zaK (Zj (zaa 4) (Zj (zaa 6) (M.pure [])))))
noncomputable def zqd : M Fl := (forM (zgX (Zj (zba zae (Zj (zaa 0) (Zj (M.pure (.val (.int 4))) (M.pure [])))) (M.pure []))) (gN 8) zgO)
noncomputable def zqt : M Fl := (zd8 (zjB 5 zdg (Zj (zba (zam 48) (Zj (zaa 0) (Zj (zaV zeV (Zj (zaa 7) (M.pure []))) (M.pure [])))) (M.pure []))))
noncomputable def zqv : M Fl := (zaM 4 (zar zax (Zj (zaa 4) (Zj (op2 zaJ (zaa 5) (op1 zdO (M.pure (.val (.int 1))))) (M.pure [])))))
noncomputable def zoC : M Fl := zak zpA (zak zqd (zak zqt zqv))
theorem zmI {ps : List T} {u : T} : L2.atI ((ps ++ [u]).map T.d) (-1) = some u.d := by
  have e : L2.ixN ((ps ++ [u]).map T.d).length (-1) = some ps.length := by
    have l : ((ps ++ [u]).map T.d).length = ps.length + 1 := by simp
    rw [l]
    unfold L2.ixN
    simp
    omega
  unfold L2.atI
  rw [e]
  simp
section
variable {t : T} {k : Int} {ks : List Int} {ps : List T} {c s : Int} {x2 x3 x7 x8 x9 : Sl}
theorem zon (hb : t.B (-1) 31) (ti : t.ino = ks) (hk : k ∈ ks) (hp : ps.length <= 100) (hd : Sd s) :
    ∃ u c' s' y7 y8 y9, zoC [some (.io 0, .lst (pl c s)), some (.frz, ofI ks), x2, x3, some (.frz, t.d), some (.own, ofT ps), some (.frz, .int k), x7, x8, x9] = .ok .nx [some (.io 0, .lst (pl c' s')), some (.frz, ofI ks), x2, x3, some (.frz, (hung u (parts u.ino t)).d), some (.own, ofT (ps ++ [u])), some (.frz, .int k), y7, y8, y9] /\ Sd s' /\ u.B (-1) 31 /\ fit t k (.tr u) = some (hung u (parts u.ino t)) := by
  have ln := line
  have kl : ks.length <= 31 := by rw [<- ti, zby]; exact zcp hb
  have hkt : ∀ x ∈ ks, x ∈ t.ino := fun x hx => by rw [ti]; exact hx
  have w := zjw k (t := t) (by have := zdC hb; omega)
  have c0 := Cl.start (k := k) hb (by rw [ti]; exact hk)
  have h1 : zpA [some (.io 0, .lst (pl c s)), some (.frz, ofI ks), x2, x3, some (.frz, t.d), some (.own, ofT ps), some (.frz, .int k), x7, x8, x9] = .ok .nx [some (.io 0, .lst (pl c s)), some (.frz, ofI ks), x2, x3, some (.frz, t.d), some (.own, ofT ps), some (.frz, .int k), some (.own, ofI (way k t)), x8, x9] := by
    simp [zpA, w]
  obtain ⟨x1, c1, s1, hx, hx1, hs1⟩ := zb9 (c := c) (m := 4) hd (by omega) (by omega)
  obtain ⟨Γ', hl, O, c2, s2, y8, y9, rfl, hc, hs2⟩ := zdu (m := gN 8) (s := zgO)
    (fun _ Γ => ∃ O c s y8 y9, Γ = [some (.io 0, .lst (pl c s)), some (.frz, ofI ks), x2, x3, some (.frz, t.d), some (.own, ofT ps), some (.frz, .int k), some (.own, ofI O), y8, y9] /\ Cl t k O /\ Sd s)
    (ds := upI 0 x1.toNat) (Γ := [some (.io 0, .lst (pl c1 s1)), some (.frz, ofI ks), x2, x3, some (.frz, t.d), some (.own, ofT ps), some (.frz, .int k), some (.own, ofI (way k t)), x8, x9])
    ⟨_, _, _, _, _, rfl, c0, hs1⟩ (by
      rintro i d Γ hd ⟨O, c, s, y8, y9, rfl, hc, hs⟩
      obtain ⟨O', c', s', z9, h, hc', hs'⟩ := zmx (c := c) (x2 := x2) (x3 := x3) (x5 := some (.own, ofT ps)) (x6 := some (.frz, .int k)) (x8 := some (.frz, d)) (x9 := y9) hb hc hkt kl hs
      exact ⟨_, _, rfl, .inl h, O', c', s', _, z9, rfl, hc', hs'⟩)
  have sm : small x1 = true := zgd (by omega)
  have h2 : zqd [some (.io 0, .lst (pl c s)), some (.frz, ofI ks), x2, x3, some (.frz, t.d), some (.own, ofT ps), some (.frz, .int k), some (.own, ofI (way k t)), x8, x9] = .ok .nx [some (.io 0, .lst (pl c2 s2)), some (.frz, ofI ks), x2, x3, some (.frz, t.d), some (.own, ofT ps), some (.frz, .int k), some (.own, ofI O), y8, y9] := by
    simp [zqd, hx, sm, hl]
  have ol := hc.len hb
  have so := zla (ns := O) (by omega)
  have sl : (srt O).length <= 31 := by rw [(zdZ O).length_eq]; exact ol
  obtain ⟨u, c3, s3, hu, hs3, ui⟩ := zep 48 (srt O) c2 s2 (by omega) (by omega) hs2
  obtain ⟨ub, uf, ut⟩ := hc.top (lo := -1) (hi := 31) hb ui
  have ap : zdg (ps.map T.d) [u.d] = some ((ps ++ [u]).map T.d, .non) := by
    rw [zpb (by simp; omega)]; simp
  have h3 : zqt [some (.io 0, .lst (pl c2 s2)), some (.frz, ofI ks), x2, x3, some (.frz, t.d), some (.own, ofT ps), some (.frz, .int k), some (.own, ofI O), y8, y9] = .ok .nx [some (.io 0, .lst (pl c3 s3)), some (.frz, ofI ks), x2, x3, some (.frz, t.d), some (.own, ofT (ps ++ [u])), some (.frz, .int k), some (.own, ofI O), y8, y9] := by
    simp [-zpb, -List.map_append, zqt, so, hu, ap]
  have al := zmI (ps := ps) (u := u)
  have tu := zeD hb ub ut
  have h4 : zqv [some (.io 0, .lst (pl c3 s3)), some (.frz, ofI ks), x2, x3, some (.frz, t.d), some (.own, ofT (ps ++ [u])), some (.frz, .int k), some (.own, ofI O), y8, y9] = .ok .nx [some (.io 0, .lst (pl c3 s3)), some (.frz, ofI ks), x2, x3, some (.frz, (hung u (parts u.ino t)).d), some (.own, ofT (ps ++ [u])), some (.frz, .int k), some (.own, ofI O), y8, y9] := by
    simp [-List.map_append, zqv, al, tu]
  exact ⟨u, c3, s3, _, _, _, za0 h1 (za0 h2 (za0 h3 h4)), hs3, ub, uf⟩
end
theorem zrF {ks : List Int} {x2 x3 : Sl} : ∀ (as : List Int) (t : T) (ps : List T) (c s : Int) (x6 x7 x8 x9 : Sl), t.B (-1) 31 -> t.ino = ks -> (∀ a ∈ as, a ∈ ks) -> ps.length + as.length <= 100 -> Sd s ->
    ∃ qs c' s' y4 y6 y7 y8 y9, zce (gN 6) zoC (as.map D.int) [some (.io 0, .lst (pl c s)), some (.frz, ofI ks), x2, x3, some (.frz, t.d), some (.own, ofT ps), x6, x7, x8, x9] = .ok .nx [some (.io 0, .lst (pl c' s')), some (.frz, ofI ks), x2, x3, y4, some (.own, ofT (ps ++ qs)), y6, y7, y8, y9] /\ Sd s' /\ qs.length = as.length /\ (∀ u ∈ qs, u.B (-1) 31) /\ ∀ i, bad i t as (qs.map Tp.tr) = none
  | [], t, ps, c, s, x6, x7, x8, x9, hb, ti, ha, hl, hd => ⟨[], c, s, _, x6, x7, x8, x9, by simp; rfl, hd, rfl, by simp, fun i => rfl⟩
  | a :: as, t, ps, c, s, x6, x7, x8, x9, hb, ti, ha, hl, hd => by
    simp only [List.length_cons] at hl
    obtain ⟨u, c1, s1, y7, y8, y9, h, hs1, ub, uf⟩ := zon (c := c) (x2 := x2) (x3 := x3) (x7 := x7) (x8 := x8) (x9 := x9) hb ti (ha a (List.mem_cons_self ..)) (ps := ps) (by omega) hd
    obtain ⟨fb, fi⟩ := znw uf hb
    obtain ⟨qs, c2, s2, z4, z6, z7, z8, z9, ih, hs2, ql, qb, qn⟩ := zrF (x2 := x2) (x3 := x3) as (hung u (parts u.ino t)) (ps ++ [u]) c1 s1 (some (.frz, .int a)) y7 y8 y9 fb (by rw [fi, ti]) (fun b hb => ha b (List.mem_cons_of_mem _ hb)) (by simp; omega) hs1
    refine ⟨u :: qs, c2, s2, z4, z6, z7, z8, z9, ?_, hs2, by simp [ql], fun v hv => ?_, fun i => ?_⟩
    · rw [List.map_cons, zdz]
      simp only [zj6, zpD, List.set_cons_succ, List.set_cons_zero, h, ih]
      rw [List.append_assoc]
      rfl
    · rcases List.mem_cons.mp hv with rfl | hv
      · exact ub
      · exact qb v hv
    · rw [List.map_cons, zjk, uf]
      exact qn (i + 1)
theorem zqI {ks as : List Int} {c s : Int} (hk : Up (-1) 31 ks) (ha : ∀ a ∈ as, a ∈ ks) (hl : as.length <= 50) (hd : Sd s) :
    ∃ t qs c' s', zbt (pl c s) [ofI ks, ofI as] = some (.val (.tup [t.d, ofT qs]), pl c' s') /\ Sd s' /\ t.B (-1) 31 /\ t.ino = ks /\ qs.length = as.length /\ (∀ u ∈ qs, u.B (-1) 31) /\ bad 0 t as (qs.map Tp.tr) = none := by
  have ln := line
  have s0 : 0 <= sizeLine := by omega
  have s2 : 2 <= sizeLine := by omega
  have kl : ks.length <= 31 := by have := Up.len hk (by omega); omega
  obtain ⟨t, c1, s1, ht, hs1, ti⟩ := zep 48 ks c s (by omega) (by omega) hd
  have tb : t.B (-1) 31 := (zbu t _ _).mpr (by rw [ti]; exact ⟨hk, fun y hy => by have := Up.lt hk y hy; omega⟩)
  obtain ⟨qs, c2, s2', y4, y6, y7, y8, y9, h, hs2, ql, qb, qn⟩ := zrF (x2 := some (.frz, ofI as)) (x3 := some (.frz, t.d)) as t [] c1 s1 none none none none tb ti ha (by simp; omega) hs1
  refine ⟨t, qs, c2, s2', ?_, hs2, tb, ti, ql, qb, qn 0⟩
  have e : zdV zae (zam 48) zax zaK = (zak (zaM 3 (zba (zam 48) (Zj (zaa 0) (Zj (zaa 1) (M.pure [])))))
    (zak (zaM 4 (zaa 3))
    (zak (zaM 5 (lstM (M.pure [])))
    (zak (forM (zey (zaa 2)) (gN 6) zoC)
    (zaP (zbp (Zj (zaa 3) (Zj (zaa 5) (M.pure [])))))))))  := rfl
  unfold zbt
  rw [e]
  rw [List.nil_append] at h
  have h : zce (gN 6) zoC (as.map D.int) [some (.io 0, .lst (pl c1 s1)), some (.frz, ofI ks), some (.frz, ofI as), some (.frz, t.d), some (.frz, t.d), some (.own, .lst []), none, none, none, none] = _ := h
  generalize (zam 48) = GT at *
  simp [zf1, zgM, zaL, zeM, ht, s0, s2, h]
end K20
end
section
namespace K20
open PySem L2 Ex Dv Tr
theorem zhw {α : Type} : ∀ (xs pre : List α), (List.range' pre.length xs.length).filterMap ((pre ++ xs)[·]?) = xs
  | [], pre => rfl
  | x :: r, pre => by
    have ih := zhw r (pre ++ [x])
    rw [List.length_append, List.append_assoc] at ih
    rw [List.length_cons, List.range'_succ, List.filterMap_cons]
    have e : (pre ++ x :: r)[pre.length]? = some x := by simp
    rw [e]
    exact congrArg (x :: ·) ih
theorem zpB : ∀ n : Nat, n <= 40 -> sliceRange (sliceBounds none none (some (-1)) n).1 (sliceBounds none none (some (-1)) n).2.1 (sliceBounds none none (some (-1)) n).2.2 = (List.range' 0 n).reverse := by decide +kernel
theorem zl7 {α : Type} {xs : List α} (h : xs.length <= 40) : zfZ xs none none (-1) = xs.reverse := by
  unfold zfZ
  rw [zpB xs.length h, List.filterMap_reverse]
  have := zhw xs []
  simp only [List.length_nil, List.nil_append] at this
  rw [this]
theorem zhg {xs : List D} (h : xs.length <= 40) : zfR (-1) (.lst xs) none none = some (.new (.lst xs.reverse)) := by
  have ln := line
  show (if (-1 : Int) ≠ 0 /\ (zfZ xs none none (-1)).length <= sizeLine then some (RV.new (.lst (zfZ xs none none (-1)))) else none) = _
  rw [zl7 h, if_pos ⟨by decide, by rw [List.length_reverse]; omega⟩]
noncomputable def b4 : M Fl := (ifM (M.bind (op2 zbC (zaa 6) (M.pure (.val (.int 0)))) asB)
  (zaP (zbp (Zj (zaa 3) (Zj (op2 zbb (zaa 4) (lstM (Zj (op2 zaJ (zaa 4) (zaa 5)) (M.pure [])))) (M.pure [])))))
  (M.pure .nx))
noncomputable def b5 : M Fl := (ifM (M.bind (op2 zbC (zaa 6) (M.pure (.val (.int 1)))) asB)
  (zaP (zbp (Zj (zaa 3) (Zj (op2 zbb (zcj zdb (zaa 4) (M.pure none) (M.bind (zaa 5) asI)) (zcj zdb (zaa 4) (M.bind (op2 zbb (zaa 5) (M.pure (.val (.int 1)))) asI) (M.pure none))) (M.pure [])))))
  (M.pure .nx))
noncomputable def b6 : M Fl := (ifM (M.bind (op2 zbC (zaa 6) (M.pure (.val (.int 2)))) asB)
  (zaP (zbp (Zj (zba (zam 48) (Zj (zaa 0) (Zj (zaa 2) (M.pure [])))) (Zj (zaV zeZ (Zj (zaa 4) (M.pure []))) (M.pure [])))))
  (M.pure .nx))
noncomputable def b7 : M Fl := (ifM (M.bind (op2 zbC (zaa 6) (M.pure (.val (.int 3)))) asB)
  (zaP (zbp (Zj (zaa 3) (Zj (op2 zbb (zcj zdb (zaa 4) (M.pure none) (M.bind (zaa 5) asI)) (zcj (zfR (-1)) (zcj zdb (zaa 4) (M.bind (zaa 5) asI) (M.pure none)) (M.pure none) (M.pure none))) (M.pure [])))))
  (M.pure .nx))
noncomputable def b8 : M Fl := (zaM 7 (lstM (Zj (M.pure (.val .non)) (Zj (op2 zaJ (zaa 4) (zba zae (Zj (zaa 0) (Zj (zaV zbZ (Zj (zaa 4) (M.pure []))) (M.pure []))))) (Zj (zbp (Zj (op2 zaJ (zaa 2) (op1 zdO (M.pure (.val (.int 1))))) (Zj (M.pure (.val .non)) (Zj (M.pure (.val .non)) (M.pure []))))) (Zj (zba (zam 48) (Zj (zaa 0) (Zj (zaa 2) (M.pure [])))) (Zj (M.pure (.val (.str "top"))) (M.pure []))))))))
noncomputable def b9 : M Fl := (zaM 7 (op2 zbb (zaa 7) (lstM (Zj (zbp (Zj (M.pure (.val (.bl true))) (Zj (M.pure (.val .non)) (Zj (M.pure (.val .non)) (M.pure []))))) (Zj (zbp (Zj (op2 zaJ (zaa 2) (M.pure (.val (.int 0)))) (Zj (M.pure (.val .non)) (Zj (M.pure (.val .non)) (M.pure []))))) (M.pure []))))))
noncomputable def b10 : M Fl := (zaP (zbp (Zj (zaa 3) (Zj (op2 zbb (op2 zbb (zcj zdb (zaa 4) (M.pure none) (M.bind (zaa 5) asI)) (lstM (Zj (op2 zaJ (zaa 7) (zba zae (Zj (zaa 0) (Zj (M.pure (.val (.int 7))) (M.pure []))))) (M.pure [])))) (zcj zdb (zaa 4) (M.bind (op2 zbb (zaa 5) (M.pure (.val (.int 1)))) asI) (M.pure none))) (M.pure [])))))
noncomputable def b1 : M Fl := (zfs (gT 2 (gsC (gN 3) (gsC (gN 4) gs0))) (zaa 1))
noncomputable def b2 : M Fl := (zaM 5 (zba zae (Zj (zaa 0) (Zj (zaV zbZ (Zj (zaa 4) (M.pure []))) (M.pure [])))))
noncomputable def b3 : M Fl := (zaM 6 (zba zae (Zj (zaa 0) (Zj (M.pure (.val (.int 8))) (M.pure [])))))
theorem zql : zcM zae (zam 48) = zak b1 (zak b2 (zak b3 (zak b4 (zak b5 (zak b6 (zak b7 (zak b8 (zak b9 b10)))))))) := rfl
theorem zmi {P : List Tp} {i : Nat} (h : i < P.length) : L2.atI (P.map Tp.d) (i : Int) = some P[i].d := by
  rw [zfK, zdE (List.getElem?_eq_getElem h)]; rfl
theorem zeU {s s' : M Fl} {Γ Γ1 : En} {rv : RV} (h : s Γ = .ok (.ret rv) Γ1) : zak s s' Γ = .ok (.ret rv) Γ1 := by rw [ziF, h]
structure Bt (t : T) (P : List Tp) (n : Nat) : Prop where
  tb : t.B (-1) 31
  ok : ∀ p ∈ P, p.ok
  len : P.length <= n
section
variable {t : T} {P : List Tp} {ks : List Int} {c s : Int} {i : Nat} {w : Int} {x1 x7 : Sl}
abbrev bE (c s : Int) (x1 : Sl) (ks : List Int) (t : T) (P : List Tp) (i : Nat) (w : Int) (x7 : Sl) : En := [some (.io 0, .lst (pl c s)), x1, some (.frz, ofI ks), some (.frz, t.d), some (.frz, .lst (P.map Tp.d)), some (.frz, .int i), some (.frz, .int w), x7]
theorem zrb (B : Bt t P 40) (hi : i < P.length) : ∃ P', b4 (bE c s x1 ks t P i 0 x7) = .ok (.ret (.val (.tup [t.d, .lst (P'.map Tp.d)]))) (bE c s x1 ks t P i 0 x7) /\ Bt t P' (P.length + 1) := by
  have ln := line
  have bl := B.len
  have s1 : 1 <= sizeLine := by omega
  have s2 : 2 <= sizeLine := by omega
  have q := zch 0 0
  rw [decide_eq_true rfl] at q
  have al := zmi hi
  refine ⟨P ++ [P[i]], ?_, B.tb, fun p hp => ?_, by simp⟩
  · have ad : zbb (.lst (P.map Tp.d)) (.lst [P[i].d]) = some (.new (.lst ((P ++ [P[i]]).map Tp.d))) := by rw [zbL (by simp; omega)]; simp
    generalize P[i] = y at *
    simp [-zbL, -List.map_append, b4, q, al, s1, s2, ad]
  · rcases List.mem_append.1 hp with h | h
    · exact B.ok p h
    · rw [List.mem_singleton.mp h]; exact B.ok _ (List.getElem_mem hi)
theorem cut_lo' {α : Type} (xs : List α) (n : Nat) : zcQ xs none (some (n : Int)) = xs.take n := zeJ xs n
theorem zkE {α : Type} (xs : List α) (n : Nat) : zcQ xs (some ((n : Int) + 1)) none = xs.drop (n + 1) := by
  have := zhS xs (n + 1)
  exact_mod_cast this
theorem zrr (B : Bt t P 40) : ∃ P', b5 (bE c s x1 ks t P i 1 x7) = .ok (.ret (.val (.tup [t.d, .lst (P'.map Tp.d)]))) (bE c s x1 ks t P i 1 x7) /\ Bt t P' (P.length + 1) := by
  have ln := line
  have bl := B.len
  have s2 : 2 <= sizeLine := by omega
  have q := zch 1 1
  rw [decide_eq_true rfl] at q
  refine ⟨P.take i ++ P.drop (i + 1), ?_, B.tb, fun p hp => ?_, ?_⟩
  · have ad : zbb (.lst ((P.map Tp.d).take i)) (.lst ((P.map Tp.d).drop (i + 1))) = some (.new (.lst ((P.take i ++ P.drop (i + 1)).map Tp.d))) := by
      rw [zbL (by rw [List.length_take, List.length_drop, List.length_map]; omega)]; simp
    simp [-zbL, -List.map_append, -List.map_take, -List.map_drop, b5, q, zeJ, zkE, s2, ad]
  · rcases List.mem_append.1 hp with h | h
    · exact B.ok p (List.mem_of_mem_take h)
    · exact B.ok p (List.mem_of_mem_drop h)
  · rw [List.length_append, List.length_take, List.length_drop]; omega
theorem zrC (B : Bt t P 40) : ∃ P', b7 (bE c s x1 ks t P i 3 x7) = .ok (.ret (.val (.tup [t.d, .lst (P'.map Tp.d)]))) (bE c s x1 ks t P i 3 x7) /\ Bt t P' (P.length + 1) := by
  have ln := line
  have bl := B.len
  have s2 : 2 <= sizeLine := by omega
  have q := zch 3 3
  rw [decide_eq_true rfl] at q
  have rv := zhg (xs := (P.map Tp.d).drop i) (by rw [List.length_drop, List.length_map]; omega)
  refine ⟨P.take i ++ (P.drop i).reverse, ?_, B.tb, fun p hp => ?_, ?_⟩
  · have ad : zbb (.lst ((P.map Tp.d).take i)) (.lst ((P.map Tp.d).drop i).reverse) = some (.new (.lst ((P.take i ++ (P.drop i).reverse).map Tp.d))) := by
      rw [zbL (by rw [List.length_reverse, List.length_take, List.length_drop, List.length_map]; omega)]; simp
    simp [-zbL, -List.map_append, -List.map_take, -List.map_drop, b7, q, zeJ, zhS, rv, s2, ad]
  · rcases List.mem_append.1 hp with h | h
    · exact B.ok p (List.mem_of_mem_take h)
    · exact B.ok p (List.mem_of_mem_drop (List.mem_reverse.mp h))
  · rw [List.length_append, List.length_reverse, List.length_take, List.length_drop]; omega
theorem zqY (B : Bt t P 40) (hk : Up (-1) 31 ks) (hd : Sd s) : ∃ t' c' s', b6 (bE c s x1 ks t P i 2 x7) = .ok (.ret (.val (.tup [t'.d, .lst (P.map Tp.d)]))) (bE c' s' x1 ks t P i 2 x7) /\ Bt t' P (P.length + 1) /\ Sd s' := by
  have ln := line
  have s2 : 2 <= sizeLine := by omega
  have q := zch 2 2
  rw [decide_eq_true rfl] at q
  have kl : ks.length <= 31 := by have := Up.len hk (by omega); omega
  obtain ⟨t', c1, s1, ht, hs1, ti⟩ := zep 48 ks c s (by omega) (by omega) hd
  have tb : t'.B (-1) 31 := (zbu t' _ _).mpr (by rw [ti]; exact ⟨hk, fun y hy => by have := Up.lt hk y hy; omega⟩)
  have li : zeZ [.lst (P.map Tp.d)] = some (.new (.lst (P.map Tp.d))) := rfl
  exact ⟨t', c1, s1, by simp [b6, q, ht, li, s2], ⟨tb, B.ok, by omega⟩, hs1⟩
end
end K20
end
section
namespace K20
open PySem L2 Ex Dv Tr
section
variable {t : T} {P : List Tp} {ks : List Int} {c s : Int} {i : Nat} {w : Int} {x1 x7 : Sl}
theorem zkh (h : w ≠ 0) : b4 (bE c s x1 ks t P i w x7) = .ok .nx (bE c s x1 ks t P i w x7) := by
  have q := zch w 0
  rw [decide_eq_false h] at q
  simp [b4, q]
theorem zne (h : w ≠ 1) : b5 (bE c s x1 ks t P i w x7) = .ok .nx (bE c s x1 ks t P i w x7) := by
  have q := zch w 1
  rw [decide_eq_false h] at q
  simp [b5, q]
theorem zo2 (h : w ≠ 2) : b6 (bE c s x1 ks t P i w x7) = .ok .nx (bE c s x1 ks t P i w x7) := by
  have q := zch w 2
  rw [decide_eq_false h] at q
  simp [b6, q]
theorem zrL (h : w ≠ 3) : b7 (bE c s x1 ks t P i w x7) = .ok .nx (bE c s x1 ks t P i w x7) := by
  have q := zch w 3
  rw [decide_eq_false h] at q
  simp [b7, q]
theorem zqM (B : Bt t P 40) (hp : 0 < P.length) (hk : Up (-1) 31 ks) (kn : ks ≠ []) (hd : Sd s) : ∃ (Os : List Tp) (c' s' : Int), b8 (bE c s x1 ks t P i w x7) = .ok .nx (bE c' s' x1 ks t P i w (some (.own, .lst (Os.map Tp.d)))) /\ Os.length = 5 /\ (∀ p ∈ Os, p.ok) /\ Sd s' := by
  have ln := line
  have bl := B.len
  have s3 : 3 <= sizeLine := by omega
  have s5 : 5 <= sizeLine := by omega
  have kl : ks.length <= 31 := by have := Up.len hk (by omega); omega
  obtain ⟨j, c1, s1, hj, hj1, hs1⟩ := zb9 (c := c) (m := (P.length : Nat)) hd (by omega) (by omega)
  obtain ⟨j, rfl⟩ : ∃ k : Nat, j = k := ⟨j.toNat, by omega⟩
  have hjl : j < P.length := by omega
  have al := zmi hjl
  obtain ⟨F, kl', hF⟩ := zdJ kn
  have ak : L2.atI (ks.map D.int) (-1) = some (.int kl') := by rw [hF]; exact zgj
  have kb := Up.lt hk kl' (by rw [hF]; simp)
  obtain ⟨t', c2, s2, ht, hs2, ti⟩ := zep 48 ks c1 s1 (by omega) (by omega) hs1
  have tb : t'.B (-1) 31 := (zbu t' _ _).mpr (by rw [ti]; exact ⟨hk, fun y hy => by have := Up.lt hk y hy; omega⟩)
  refine ⟨[.tr .nil, P[j], .tr (one kl'), .tr t', .word], c2, s2, ?_, rfl, ?_, hs2⟩
  · have pok := B.ok P[j] (List.getElem_mem hjl)
    generalize P[j] = y at *
    simp [b8, hj, al, ak, ht, s3, s5, Tp.d, T.d]
  · intro p hp
    simp only [List.mem_cons, List.not_mem_nil, or_false] at hp
    rcases hp with rfl | rfl | rfl | rfl | rfl
    · trivial
    · exact B.ok _ (List.getElem_mem hjl)
    · exact zjl (by omega)
    · exact tb
    · trivial
theorem zrz {Os : List Tp} (ho : Os.length = 5) (hok : ∀ p ∈ Os, p.ok) (hk : Up (-1) 31 ks) (kn : ks ≠ []) : ∃ Os' : List Tp, b9 (bE c s x1 ks t P i w (some (.own, .lst (Os.map Tp.d)))) = .ok .nx (bE c s x1 ks t P i w (some (.own, .lst (Os'.map Tp.d)))) /\ Os'.length = 7 /\ (∀ p ∈ Os', p.ok) := by
  have ln := line
  have s2 : 2 <= sizeLine := by omega
  have s3 : 3 <= sizeLine := by omega
  cases ks with
  | nil => exact absurd rfl kn
  | cons k0 kr =>
    have kb := Up.lt hk k0 (by simp)
    have ak : L2.atI ((k0 :: kr).map D.int) 0 = some (.int k0) := zp9 _ _
    have ad : zbb (.lst (Os.map Tp.d)) (.lst [.tup [.bl true, .non, .non], .tup [.int k0, .non, .non]]) = some (.new (.lst ((Os ++ [Tp.tru, Tp.tr (one k0)]).map Tp.d))) := by
      rw [zbL (by simp; omega), List.map_append]; rfl
    refine ⟨Os ++ [.tru, .tr (one k0)], ?_, by simp [ho], fun p hp => ?_⟩
    · generalize k0 :: kr = ks at *
      simp [-zbL, -List.map_append, b9, ak, s2, s3, ad]
    · rcases List.mem_append.1 hp with h | h
      · exact hok p h
      · simp only [List.mem_cons, List.not_mem_nil, or_false] at h
        rcases h with rfl | rfl
        · trivial
        · exact zjl (by omega)
theorem zqF (B : Bt t P 40) (hi : i < P.length) {Os : List Tp} (ho : Os.length = 7) (hok : ∀ p ∈ Os, p.ok) (hd : Sd s) : ∃ P' c' s', b10 (bE c s x1 ks t P i w (some (.own, .lst (Os.map Tp.d)))) = .ok (.ret (.val (.tup [t.d, .lst (P'.map Tp.d)]))) (bE c' s' x1 ks t P i w (some (.own, .lst (Os.map Tp.d)))) /\ Bt t P' (P.length + 1) /\ Sd s' := by
  have ln := line
  have bl := B.len
  have s1 : 1 <= sizeLine := by omega
  have s2 : 2 <= sizeLine := by omega
  obtain ⟨j, c1, s1', hj, hj1, hs1⟩ := zb9 (c := c) (m := 7) hd (by omega) (by omega)
  obtain ⟨j, rfl⟩ : ∃ k : Nat, j = k := ⟨j.toNat, by omega⟩
  have hjl : j < Os.length := by omega
  have al := zmi hjl
  have yo := hok Os[j] (List.getElem_mem hjl)
  generalize Os[j] = y at *
  refine ⟨P.take i ++ [y] ++ P.drop (i + 1), c1, s1', ?_, ⟨B.tb, fun p hp => ?_, ?_⟩, hs1⟩
  · have a1 : zbb (.lst ((P.map Tp.d).take i)) (.lst [y.d]) = some (.new (.lst ((P.map Tp.d).take i ++ [y.d]))) := zbL (by rw [List.length_take, List.length_map]; simp; omega)
    have a2 : zbb (.lst ((P.map Tp.d).take i ++ [y.d])) (.lst ((P.map Tp.d).drop (i + 1))) = some (.new (.lst ((P.take i ++ [y] ++ P.drop (i + 1)).map Tp.d))) := by
      rw [zbL (by rw [List.length_append, List.length_take, List.length_drop, List.length_map]; simp; omega)]; simp
    generalize (P.take i ++ [y] ++ P.drop (i + 1)).map Tp.d = R at *
    simp [-zbL, -List.map_append, -List.map_take, -List.map_drop, -List.append_assoc, b10, zeJ, zkE, s1, s2, hj, al, a1, a2]
  · rcases List.mem_append.1 hp with h | h
    · rcases List.mem_append.1 h with h | h
      · exact B.ok p (List.mem_of_mem_take h)
      · rw [List.mem_singleton.mp h]; exact yo
    · exact B.ok p (List.mem_of_mem_drop h)
  · rw [List.length_append, List.length_append, List.length_take, List.length_drop]; simp; omega
end
theorem zoD {t : T} {P : List Tp} {ks : List Int} {c s : Int} (B : Bt t P 40) (hp : 0 < P.length) (hk : Up (-1) 31 ks) (kn : ks ≠ []) (hd : Sd s) :
    ∃ t' P' c' s', zbf (pl c s) [.tup [t.d, .lst (P.map Tp.d)], ofI ks] = some (.val (.tup [t'.d, .lst (P'.map Tp.d)]), pl c' s') /\ Bt t' P' (P.length + 1) /\ Sd s' := by
  have ln := line
  have bl := B.len
  have x1 : Sl := some (.frz, .tup [t.d, .lst (P.map Tp.d)])
  obtain ⟨i, c1, s1, hi, hi1, hs1⟩ := zb9 (c := c) (m := (P.length : Nat)) hd (by omega) (by omega)
  obtain ⟨i, rfl⟩ : ∃ k : Nat, i = k := ⟨i.toNat, by omega⟩
  have hil : i < P.length := by omega
  obtain ⟨w, c2, s2, hw, hw1, hs2⟩ := zb9 (c := c1) (m := 8) hs1 (by omega) (by omega)
  have h1 : b1 [some (.io 0, .lst (pl c s)), some (.frz, .tup [t.d, .lst (P.map Tp.d)]), some (.frz, ofI ks), none, none, none, none, none] = .ok .nx [some (.io 0, .lst (pl c s)), some (.frz, .tup [t.d, .lst (P.map Tp.d)]), some (.frz, ofI ks), some (.frz, t.d), some (.frz, .lst (P.map Tp.d)), none, none, none] := by simp [b1]
  have h2 : b2 [some (.io 0, .lst (pl c s)), some (.frz, .tup [t.d, .lst (P.map Tp.d)]), some (.frz, ofI ks), some (.frz, t.d), some (.frz, .lst (P.map Tp.d)), none, none, none] = .ok .nx [some (.io 0, .lst (pl c1 s1)), some (.frz, .tup [t.d, .lst (P.map Tp.d)]), some (.frz, ofI ks), some (.frz, t.d), some (.frz, .lst (P.map Tp.d)), some (.frz, .int i), none, none] := by simp [b2, hi]
  have h3 : b3 [some (.io 0, .lst (pl c1 s1)), some (.frz, .tup [t.d, .lst (P.map Tp.d)]), some (.frz, ofI ks), some (.frz, t.d), some (.frz, .lst (P.map Tp.d)), some (.frz, .int i), none, none] = .ok .nx (bE c2 s2 (some (.frz, .tup [t.d, .lst (P.map Tp.d)])) ks t P i w none) := by simp [b3, hw]
  have fin : ∀ {t' P' c' s' Γ1}, (zak b4 (zak b5 (zak b6 (zak b7 (zak b8 (zak b9 b10)))))) (bE c2 s2 (some (.frz, .tup [t.d, .lst (P.map Tp.d)])) ks t P i w none) = .ok (.ret (.val (.tup [T.d t', .lst (List.map Tp.d P')]))) Γ1 -> Γ1[0]? = some (some (.io 0, .lst (pl c' s'))) -> zbf (pl c s) [.tup [t.d, .lst (P.map Tp.d)], ofI ks] = some (.val (.tup [t'.d, .lst (P'.map Tp.d)]), pl c' s') := by
    intro t' P' c' s' Γ1 h hΓ
    have all : zcM zae (zam 48) [some (.io 0, .lst (pl c s)), some (.frz, .tup [t.d, .lst (P.map Tp.d)]), some (.frz, ofI ks), none, none, none, none, none] = .ok (.ret (.val (.tup [t'.d, .lst (P'.map Tp.d)]))) Γ1 := by
      rw [zql]
      exact za0 h1 (za0 h2 (za0 h3 h))
    unfold zbf
    generalize (zam 48) = GT at *
    simp only [zf1, zeM]
    simp [all, zgM, hΓ, zaL]
  have cases5 : w = 0 \/ w = 1 \/ w = 2 \/ w = 3 \/ 4 <= w := by omega
  rcases cases5 with rfl | rfl | rfl | rfl | h4
  · obtain ⟨P', h, B'⟩ := zrb (c := c2) (s := s2) (x1 := some (.frz, .tup [t.d, .lst (P.map Tp.d)])) (ks := ks) (x7 := none) B hil
    exact ⟨t, P', c2, s2, fin (zeU h) rfl, B', hs2⟩
  · obtain ⟨P', h, B'⟩ := zrr (c := c2) (s := s2) (x1 := some (.frz, .tup [t.d, .lst (P.map Tp.d)])) (ks := ks) (x7 := none) (i := i) B
    exact ⟨t, P', c2, s2, fin (za0 (zkh (by omega)) (zeU h)) rfl, B', hs2⟩
  · obtain ⟨t', c3, s3, h, B', hs3⟩ := zqY (c := c2) (x1 := some (.frz, .tup [t.d, .lst (P.map Tp.d)])) (x7 := none) (i := i) B hk hs2
    exact ⟨t', P, c3, s3, fin (za0 (zkh (by omega)) (za0 (zne (by omega)) (zeU h))) rfl, B', hs3⟩
  · obtain ⟨P', h, B'⟩ := zrC (c := c2) (s := s2) (x1 := some (.frz, .tup [t.d, .lst (P.map Tp.d)])) (ks := ks) (x7 := none) (i := i) B
    exact ⟨t, P', c2, s2, fin (za0 (zkh (by omega)) (za0 (zne (by omega)) (za0 (zo2 (by omega)) (zeU h)))) rfl, B', hs2⟩
  · obtain ⟨Os, c3, s3, h8, o1, o2, hs3⟩ := zqM (c := c2) (x1 := some (.frz, .tup [t.d, .lst (P.map Tp.d)])) (x7 := none) (i := i) (w := w) B hp hk kn hs2
    obtain ⟨Os', h9, o3, o4⟩ := zrz (c := c3) (s := s3) (x1 := some (.frz, .tup [t.d, .lst (P.map Tp.d)])) (t := t) (P := P) (i := i) (w := w) o1 o2 hk kn
    obtain ⟨P', c4, s4, h10, B', hs4⟩ := zqF (c := c3) (x1 := some (.frz, .tup [t.d, .lst (P.map Tp.d)])) (ks := ks) (w := w) B hil o3 o4 hs3
    exact ⟨t, P', c4, s4, fin (za0 (zkh (by omega)) (za0 (zne (by omega)) (za0 (zo2 (by omega)) (za0 (zrL (by omega)) (za0 h8 (za0 h9 h10)))))) rfl, B', hs4⟩
end K20
end
section
namespace K20
open PySem L2 Ex Dv Tr
theorem zri : 1000000 <= sizeLine := by decide
structure Gd (k n : Nat) (d : D) : Prop where
  lay : d.py.canLay0 = true
  sh : d.py.showable = true
  ls : d.py.leavesShort 30 = true
  dp : d.py.depth <= k
  bk : d.py.bulk <= n
theorem Gd.mono {k k' n n' : Nat} {d : D} (h : Gd k n d) (hk : k <= k') (hn : n <= n') : Gd k' n' d := ⟨h.lay, h.sh, h.ls, Nat.le_trans h.dp hk, Nat.le_trans h.bk hn⟩
theorem Gd.int {i : Int} (h : 0 <= i /\ i <= 30) : Gd 0 1 (.int i) := by
  obtain ⟨a, b⟩ := zhi h
  exact ⟨rfl, a, b, by simp [D.py, PyData.depth], by simp [D.py, PyData.bulk]⟩
theorem zju {k n : Nat} : ∀ {ds : List D}, (∀ d ∈ ds, Gd k n d) -> PyData.canLayAll0 (D.pys ds) = true /\ PyData.showableAll (D.pys ds) = true /\ PyData.leavesShortAll 30 (D.pys ds) = true /\ PyData.depthAll (D.pys ds) <= k /\ PyData.bulkAll (D.pys ds) <= ds.length * (n + 1)
  | [], _ => ⟨rfl, rfl, by decide +kernel, by simp [D.pys, PyData.depthAll], by simp [D.pys, PyData.bulkAll]⟩
  | d :: r, h => by
    obtain ⟨a1, a2, a3, a4, a5⟩ := zju (ds := r) fun x hx => h x (List.mem_cons_of_mem _ hx)
    obtain ⟨b1, b2, b3, b4, b5⟩ := h d (List.mem_cons_self ..)
    refine ⟨by simp [D.pys, PyData.canLayAll0, a1, b1], by simp [D.pys, PyData.showableAll, a2, b2], by simp [D.pys, PyData.leavesShortAll, a3, b3], by simp [D.pys, PyData.depthAll]; omega, ?_⟩
    simp only [D.pys, PyData.bulkAll, List.length_cons]
    rw [Nat.add_mul, Nat.one_mul]
    omega
theorem Gd.tup {k n : Nat} {ds : List D} (h : ∀ d ∈ ds, Gd k n d) : Gd (k + 1) (ds.length * (n + 1)) (.tup ds) := by
  obtain ⟨a1, a2, a3, a4, a5⟩ := zju h
  exact ⟨by simpa [D.py, PyData.canLay0] using a1, by simpa [D.py, PyData.showable] using a2, by simpa [D.py, PyData.leavesShort] using a3, by simp [D.py, PyData.depth]; omega, by simpa [D.py, PyData.bulk] using a5⟩
theorem Gd.lst {k n : Nat} {ds : List D} (h : ∀ d ∈ ds, Gd k n d) : Gd (k + 1) (ds.length * (n + 1)) (.lst ds) := by
  obtain ⟨a1, a2, a3, a4, a5⟩ := zju h
  exact ⟨by simpa [D.py, PyData.canLay0] using a1, by simpa [D.py, PyData.showable] using a2, by simpa [D.py, PyData.leavesShort] using a3, by simp [D.py, PyData.depth]; omega, by simpa [D.py, PyData.bulk] using a5⟩
theorem Gd.rpr {k n : Nat} {d : D} (h : Gd k n d) (hk : k <= 50) (hn : n <= 30000) : zhq d = true := by
  have ln := zri
  have sh := PyData.shown_le_bulk 30 (by decide) d.py h.ls
  have b := h.bk
  have dp := h.dp
  unfold zhq
  rw [h.lay, h.sh, PyData.hasDict_of_canLay _ h.lay, decide_eq_true (by omega : d.py.depth <= 50), decide_eq_true (by omega)]
  rfl
theorem zkR {t : T} (h : t.B (-1) 31) : Gd 31 93 t.d := by
  have s := zcp h
  have hh := zdF t
  obtain ⟨a, b⟩ := zjn t ((zbu t _ _).mp h).2
  exact ⟨zmO t, a, b, by rw [zir]; omega, by rw [zjL]; omega⟩
theorem zru : ∀ {p : Tp}, p.ok -> Gd 31 93 p.d
  | .tr t, h => zkR h
  | .word, _ => ⟨by decide +kernel, by decide +kernel, by decide +kernel, by decide +kernel, by decide +kernel⟩
  | .tru, _ => ⟨by decide +kernel, by decide +kernel, by decide +kernel, by decide +kernel, by decide +kernel⟩
theorem znR {as : List Int} (A : Ak as) : Gd 1 62 (ofI as) := by
  have := Gd.lst (k := 0) (n := 1) (ds := as.map D.int) fun d hd => by
    obtain ⟨a, ha, rfl⟩ := List.mem_map.mp hd
    exact Gd.int (A.key a ha)
  have am := A.most
  exact this.mono (by omega) (by rw [List.length_map]; omega)
theorem zoH {d : D} (h1 : isRef d = true) (h2 : zhq d = true) : zfY [d] = some (.val (.str d.py.shown)) := by
  show (if (isRef d && zhq d) = true then some (RV.val (D.str d.py.shown)) else none) = _
  rw [h1, h2]
  rfl
theorem zqh {t : T} {P : List Tp} {as : List Int} (B : Bt t P 41) (A : Ak as) : ∃ z, zfY [.lst [.tup [t.d, .lst (P.map Tp.d)], ofI as]] = some (.val (.str z)) := by
  have g1 : Gd 32 3854 (.lst (P.map Tp.d)) := by
    have := Gd.lst (k := 31) (n := 93) (ds := P.map Tp.d) fun d hd => by
      obtain ⟨p, hp, rfl⟩ := List.mem_map.mp hd
      exact zru (B.ok p hp)
    have bl := B.len
    exact this.mono (by omega) (by rw [List.length_map]; omega)
  have g2 : Gd 33 7710 (.tup [t.d, .lst (P.map Tp.d)]) := Gd.tup (k := 32) (n := 3854) (ds := [t.d, .lst (P.map Tp.d)]) fun d hd => by
    simp only [List.mem_cons, List.not_mem_nil, or_false] at hd
    rcases hd with rfl | rfl
    · exact (zkR B.tb).mono (by omega) (by omega)
    · exact g1
  have g3 : Gd 34 15422 (.lst [.tup [t.d, .lst (P.map Tp.d)], ofI as]) := Gd.lst (k := 33) (n := 7710) (ds := [.tup [t.d, .lst (P.map Tp.d)], ofI as]) fun d hd => by
    simp only [List.mem_cons, List.not_mem_nil, or_false] at hd
    rcases hd with rfl | rfl
    · exact g2
    · exact (znR A).mono (by omega) (by omega)
  have r := g3.rpr (by omega) (by omega)
  exact ⟨_, zoH rfl r⟩
theorem zqA {as : List Int} {t : T} {P : List Tp} : zeL (ans as t P) = true := by
  unfold ans
  split
  · split
    · exact ok2 _ _ ze3 (.inl rfl)
    · exact ok2 _ _ zeS (.inr ⟨_, rfl⟩)
  · exact ok2 _ _ zeS (.inl rfl)
theorem zoT {as : List Int} {t : T} {P : List Tp} : zdr (.new (ans as t P)) = true := by
  unfold ans
  split
  · split <;> rfl
  · rfl
theorem zn9 {as : List Int} {us : List T} (h1 : 1 <= as.length) (h2 : us.length = as.length) : bad 0 .nil as (us.map Tp.tr) = some 0 := by
  cases as with
  | nil => simp at h1
  | cons a r =>
    cases us with
    | nil => simp at h2
    | cons u us =>
      rw [List.map_cons, zjk]
      have : fit .nil a (.tr u) = none := by
        unfold fit
        simp only
        rw [if_neg]
        rintro ⟨_, h, ha⟩
        have h : (old u.ino .nil).ino = u.ino := h
        rw [<- h] at ha
        cases ha
      rw [this]
end K20
end
section
namespace K20
open PySem L2 Ex Dv Tr
structure St (ks as : List Int) (t : T) (qs : List T) : Prop where
  up : Up (-1) 31 ks
  kn : ks ≠ []
  ak : Ak as
  few : as.length <= 9
  tb : t.B (-1) 31
  ql : qs.length = as.length
  qb : ∀ u ∈ qs, u.B (-1) 31
  right : bad 0 t as (qs.map Tp.tr) = none
abbrev lE (ns : List Int) (k : Int) (c s : Int) (ks as : List Int) (t : T) (qs : List T) (x6 x7 x8 x9 x10 : Sl) : En :=
  [some (.frz, .scr ns), some (.frz, .int k), some (.own, .lst (pl c s)), some (.frz, ofI ks), some (.frz, ofI as), some (.frz, .tup [t.d, ofT qs]), x6, x7, x8, x9, x10]
theorem zpv (qs : List T) : (qs.map Tp.tr).map Tp.d = qs.map T.d := by rw [List.map_map]; rfl
noncomputable def o1 : M Fl := (zaM 2 (zar zbg (Zj (zaa 0) (Zj (zaa 1) (M.pure [])))))
noncomputable def o2 : M Fl := (zaM 3 (zgV (Zj (zba zae (Zj (zaa 2) (Zj (M.pure (.val (.int 4))) (M.pure [])))) (Zj (op2 zbb (M.pure (.val (.int 5))) (zba zae (Zj (zaa 2) (Zj (M.pure (.val (.int 6))) (M.pure []))))) (M.pure [])))))
noncomputable def zoj : M RV := (op2 zaJ (zaa 1) (zba zae (Zj (zaa 2) (Zj (zaV zbZ (Zj (zaa 1) (M.pure []))) (M.pure [])))))
noncomputable def o3 : M Fl := (zaM 4 (zds (zgX (Zj (op2 zbb (M.pure (.val (.int 1))) (zba zae (Zj (zaa 2) (Zj (M.pure (.val (.int 9))) (M.pure []))))) (M.pure []))) [3, 2] 1 (gN 0) (M.pure true) zoj))
noncomputable def o4 : M Fl := (zaM 5 (zba zbt (Zj (zaa 2) (Zj (zaa 3) (Zj (zaa 4) (M.pure []))))))
theorem zmm {ks : List Int} (kn : ks ≠ []) (kl : ks.length <= 31) {x0 x1 x4 x5 x6 x7 x8 x9 x10 : Sl} : ∀ (ds : List D) (c s : Int), Sd s ->
    ∃ (ys : List Int) (c' s' : Int), lcM [3, 2] 1 (gN 0) (M.pure true) zoj ds [x0, x1, some (.own, .lst (pl c s)), some (.own, ofI ks), x4, x5, x6, x7, x8, x9, x10] = .ok (ys.map D.int) [x0, x1, some (.own, .lst (pl c' s')), some (.own, ofI ks), x4, x5, x6, x7, x8, x9, x10] /\ ys.length = ds.length /\ (∀ y ∈ ys, y ∈ ks) /\ Sd s'
  | [], c, s, hd => ⟨[], c, s, rfl, rfl, by simp, hd⟩
  | d :: r, c, s, hd => by
    have lp : 0 < ks.length := List.length_pos_iff.mpr kn
    obtain ⟨i, c1, s1, hi, hi1, hs1⟩ := zb9 (c := c) (m := (ks.length : Nat)) hd (by omega) (by omega)
    obtain ⟨i, rfl⟩ : ∃ k : Nat, i = k := ⟨i.toNat, by omega⟩
    have hil : i < ks.length := by omega
    have al : L2.atI (ks.map D.int) (i : Int) = some (.int ks[i]) := by rw [zfK, zdE (List.getElem?_eq_getElem hil)]; rfl
    obtain ⟨ys, c2, s2, ih, yl, yk, hs2⟩ := zmm (x0 := x0) (x1 := x1) (x4 := x4) (x5 := x5) (x6 := x6) (x7 := x7) (x8 := x8) (x9 := x9) (x10 := x10) kn kl r c1 s1 hs1
    have hm := List.getElem_mem hil
    generalize ks[i] = y at *
    refine ⟨y :: ys, c2, s2, ?_, by simp [yl], fun z hz => ?_, hs2⟩
    · have e : zjj (gN 0) (M.pure true) zoj d (zcb [3, 2] 1 [x0, x1, some (.own, .lst (pl c s)), some (.own, ofI ks), x4, x5, x6, x7, x8, x9, x10]) = .ok (some (.int y)) [some (.frz, d), some (.own, ofI ks), some (.own, .lst (pl c1 s1))] := by
        simp [zcb, zoj, hi, al]
      unfold lcM
      rw [e]
      have u : unblk [3, 2] 1 [x0, x1, some (.own, .lst (pl c s)), some (.own, ofI ks), x4, x5, x6, x7, x8, x9, x10] [some (.frz, d), some (.own, ofI ks), some (.own, .lst (pl c1 s1))] = [x0, x1, some (.own, .lst (pl c1 s1)), some (.own, ofI ks), x4, x5, x6, x7, x8, x9, x10] := rfl
      simp only [u, ih]
      rfl
    · rcases List.mem_cons.mp hz with rfl | hz
      · exact hm
      · exact yk z hz
theorem zrG {lo : Int} {n : Nat} (h0 : 0 <= lo) (h1 : lo + n <= 31) : Up (-1) 31 (rI lo n) := by
  refine ze4 ?_ fun k hk => by have := rI_in.mp hk; omega
  unfold rI
  rw [List.pairwise_map]
  exact (List.pairwise_lt_range (n := n)).imp fun h => by omega
theorem zm8 : ∀ x : Nat, x < 4 -> ∀ y : Nat, y < 6 -> Builtin.Range.small x (5 + (y : Int)) 1 = true /\ ((5 + (y : Int)) - x).toNat <= 1000 := by decide +kernel
theorem zn2 {ns : List Int} {k : Nat} (hk : k < 100) {x2 x3 x4 x5 x6 x7 x8 x9 x10 : Sl} :
    ∃ (c s : Int) (ks as : List Int) (t : T) (qs : List T), (zak o1 (zak o2 (zak o3 o4))) [some (.frz, .scr ns), some (.frz, .int k), x2, x3, x4, x5, x6, x7, x8, x9, x10] = .ok .nx (lE ns k c s ks as t qs x6 x7 x8 x9 x10) /\ Sd s /\ St ks as t qs := by
  have ln := line
  obtain ⟨c, s, hp, hs⟩ := zoB ns k hk
  obtain ⟨x, c1, s1, hx, hx1, hs1⟩ := zb9 (c := c) (m := 4) hs (by omega) (by omega)
  obtain ⟨y, c2, s2, hy, hy1, hs2⟩ := zb9 (c := c1) (m := 6) hs1 (by omega) (by omega)
  obtain ⟨x, rfl⟩ : ∃ k : Nat, x = k := ⟨x.toNat, by omega⟩
  obtain ⟨y, rfl⟩ : ∃ k : Nat, y = k := ⟨y.toNat, by omega⟩
  obtain ⟨n, hn⟩ : ∃ n : Nat, ((5 + (y : Int)) - x).toNat = n := ⟨_, rfl⟩
  have up : Up (-1) 31 (rI x n) := zrG (by omega) (by omega)
  have kn : rI x n ≠ [] := fun z => by have := zdG (x : Int) n; rw [z] at this; simp at this; omega
  have kl : (rI x n).length <= 31 := by rw [zdG]; omega
  have cc : cd (Builtin.Range.small x (5 + (y : Int)) 1 = true /\ ((5 + (y : Int)) - x).toNat <= 1000) = true := zda (zm8 x (by omega) y (by omega))
  have cc2 : cd (Builtin.Range.small x (5 + (y : Int)) 1 = true /\ (5 + (y : Int)) - x <= 1000) = true := zda ⟨(zm8 x (by omega) y (by omega)).1, by omega⟩
  have eu : upI x n = (rI x n).map D.int := zoY x n
  have h1 : o1 [some (.frz, .scr ns), some (.frz, .int k), x2, x3, x4, x5, x6, x7, x8, x9, x10] = .ok .nx [some (.frz, .scr ns), some (.frz, .int k), some (.own, .lst (pl c s)), x3, x4, x5, x6, x7, x8, x9, x10] := by simp [o1, hp]
  have h2 : o2 [some (.frz, .scr ns), some (.frz, .int k), some (.own, .lst (pl c s)), x3, x4, x5, x6, x7, x8, x9, x10] = .ok .nx [some (.frz, .scr ns), some (.frz, .int k), some (.own, .lst (pl c2 s2)), some (.own, ofI (rI x n)), x4, x5, x6, x7, x8, x9, x10] := by
    simp [o2, zj1, hx, hy, hn, cc2, eu]
  obtain ⟨m, c3, s3, hm, hm1, hs3⟩ := zb9 (c := c2) (m := 9) hs2 (by omega) (by omega)
  have sm : small (1 + m) = true := zgd (by omega)
  obtain ⟨as, c4, s4, hl, al, ak, hs4⟩ := zmm (x0 := some (.frz, .scr ns)) (x1 := some (.frz, .int k)) (x4 := x4) (x5 := x5) (x6 := x6) (x7 := x7) (x8 := x8) (x9 := x9) (x10 := x10) kn kl (upI 0 (1 + m).toNat) c3 s3 hs3
  rw [zl5] at al
  have sl : (1 + m).toNat < sizeLine := by omega
  have ul : (upI 0 (1 + m).toNat).length < sizeLine := by rw [zl5]; exact sl
  have h3 : o3 [some (.frz, .scr ns), some (.frz, .int k), some (.own, .lst (pl c2 s2)), some (.own, ofI (rI x n)), x4, x5, x6, x7, x8, x9, x10] = .ok .nx [some (.frz, .scr ns), some (.frz, .int k), some (.own, .lst (pl c4 s4)), some (.own, ofI (rI x n)), some (.own, ofI as), x5, x6, x7, x8, x9, x10] := by
    simp [o3, hm, sm, ul, hl]
  have A : Ak as := ⟨by omega, by omega, fun a ha => by have := rI_in.mp (ak a ha); omega⟩
  obtain ⟨t, qs, c5, s5, hr, hs5, tb, ti, ql, qb, rg⟩ := zqI (c := c4) up ak (by omega) hs4
  have h4 : o4 [some (.frz, .scr ns), some (.frz, .int k), some (.own, .lst (pl c4 s4)), some (.own, ofI (rI x n)), some (.own, ofI as), x5, x6, x7, x8, x9, x10] = .ok .nx (lE ns k c5 s5 (rI x n) as t qs x6 x7 x8 x9 x10) := by
    simp [o4, hr]
  exact ⟨c5, s5, rI x n, as, t, qs, za0 h1 (za0 h2 (za0 h3 h4)), hs5, up, kn, A, by omega, tb, ql, qb, rg⟩
end K20
end
section
namespace K20
open PySem L2 Ex Dv Tr
noncomputable def i1 : M Fl := (zaM 7 (zba zbf (Zj (zaa 2) (Zj (zaa 5) (Zj (zaa 3) (M.pure []))))))
noncomputable def i2 : M Fl := (zaM 8 (op2 zaJ (lstM (Zj (zaa 4) (Zj (zaa 4) (Zj (zcj (zfR (-1)) (zaa 4) (M.pure none) (M.pure none)) (Zj (op2 zbb (zaa 4) (lstM (Zj (op2 zaJ (zaa 3) (M.pure (.val (.int 0)))) (M.pure [])))) (Zj (op2 zdP (lstM (Zj (op2 zaJ (zaa 3) (M.pure (.val (.int 0)))) (M.pure []))) (zaV zbZ (Zj (zaa 4) (M.pure [])))) (M.pure []))))))) (zba zae (Zj (zaa 2) (Zj (M.pure (.val (.int 5))) (M.pure []))))))
noncomputable def i3 : M Fl := (zaM 9 (zaV zfY (Zj (lstM (Zj (zaa 7) (Zj (zaa 8) (M.pure [])))) (M.pure []))))
noncomputable def i4 : M Fl := (ifM (orM (M.bind (op2 zbk (zar zag (Zj (zaa 8) (Zj (zaa 7) (M.pure [])))) (zar zbv (Zj (zaa 8) (Zj (zaa 7) (M.pure []))))) asB) (M.bind (op2 zbk (zaV zfY (Zj (lstM (Zj (zaa 7) (Zj (zaa 8) (M.pure [])))) (M.pure []))) (zaa 9)) asB))
  (zaP (M.pure (.val (.bl false))))
  (M.pure .nx))
noncomputable def iB : M Fl := zak i1 (zak i2 (zak i3 i4))
section
variable {ns ks as : List Int} {k c s : Int} {t : T} {qs : List T} {x6 x7 x8 x9 x10 : Sl}
theorem St.bt (h : St ks as t qs) : Bt t (qs.map Tp.tr) 40 := ⟨h.tb, fun p hp => by
  obtain ⟨u, hu, rfl⟩ := List.mem_map.mp hp
  exact h.qb u hu, by rw [List.length_map, h.ql]; have := h.few; omega⟩
theorem Ak.rev {as : List Int} (h : Ak as) : Ak as.reverse := ⟨by rw [List.length_reverse]; exact h.pos, by rw [List.length_reverse]; exact h.most, fun a ha => h.key a (List.mem_reverse.mp ha)⟩
theorem zrP (h : St ks as t qs) (hd : Sd s) : ∃ (t' : T) (P : List Tp) (c' s' : Int), i1 (lE ns k c s ks as t qs x6 x7 x8 x9 x10) = .ok .nx (lE ns k c' s' ks as t qs x6 (some (.frz, .tup [t'.d, .lst (P.map Tp.d)])) x8 x9 x10) /\ Bt t' P 41 /\ Sd s' := by
  have pos := h.ak.pos
  have few := h.few
  obtain ⟨t', P, c', s', hb, B, hs⟩ := zoD (c := c) h.bt (by rw [List.length_map, h.ql]; omega) h.up h.kn hd
  rw [zpv] at hb
  refine ⟨t', P, c', s', by simp [i1, hb], ⟨B.tb, B.ok, ?_⟩, hs⟩
  have := B.len
  rw [List.length_map, h.ql] at this
  omega
theorem zre (h : St ks as t qs) (hd : Sd s) : ∃ (os : List Int) (c' s' : Int), i2 (lE ns k c s ks as t qs x6 x7 x8 x9 x10) = .ok .nx (lE ns k c' s' ks as t qs x6 x7 (some (.frz, ofI os)) x9 x10) /\ Ak os /\ Sd s' := by
  have ln := line
  have A := h.ak
  have pos := A.pos
  have few := h.few
  have s1 : 1 <= sizeLine := by omega
  have s5 : 5 <= sizeLine := by omega
  obtain ⟨j, c1, s1', hj, hj1, hs1⟩ := zb9 (c := c) (m := 5) hd (by omega) (by omega)
  obtain ⟨j, rfl⟩ : ∃ k : Nat, j = k := ⟨j.toNat, by omega⟩
  cases ks with
  | nil => exact absurd rfl h.kn
  | cons k0 kr =>
    have kb := Up.lt h.up k0 (by simp)
    have ak : L2.atI ((k0 :: kr).map D.int) 0 = some (.int k0) := zp9 _ _
    have rv : zfR (-1) (ofI as) none none = some (.new (ofI as.reverse)) := by
      have := zhg (xs := as.map D.int) (by rw [List.length_map]; omega)
      rw [<- List.map_reverse] at this
      exact this
    have ad : zbb (ofI as) (.lst [.int k0]) = some (.new (ofI (as ++ [k0]))) := by
      rw [zbL (by simp; omega)]; simp
    have rp : zdP (.lst [.int k0]) (.int as.length) = some (.new (ofI (List.replicate as.length k0))) := by
      rw [rep1 (by omega)]; simp
    have a2 : Ak (as ++ [k0]) := ⟨by simp, by simp; omega, fun a ha => by
      rcases List.mem_append.mp ha with z | z
      · exact A.key a z
      · rw [List.mem_singleton.mp z]; omega⟩
    have a3 : Ak (List.replicate as.length k0) := ⟨by simp; omega, by simp; omega, fun a ha => by rw [List.eq_of_mem_replicate ha]; omega⟩
    have a4 := A.rev
    have Lk : ∀ os ∈ [as, as, as.reverse, as ++ [k0], List.replicate as.length k0], Ak os := by
      intro os ho
      simp only [List.mem_cons, List.not_mem_nil, or_false] at ho
      rcases ho with rfl | rfl | rfl | rfl | rfl
      · exact A
      · exact A
      · exact a4
      · exact a2
      · exact a3
    have hjl : j < [as, as, as.reverse, as ++ [k0], List.replicate as.length k0].length := by simp; omega
    have al : L2.atI ([as, as, as.reverse, as ++ [k0], List.replicate as.length k0].map ofI) (j : Int) = some (ofI [as, as, as.reverse, as ++ [k0], List.replicate as.length k0][j]) := by
      rw [zfK, zdE (List.getElem?_eq_getElem hjl)]; rfl
    have lk := Lk _ (List.getElem_mem hjl)
    generalize [as, as, as.reverse, as ++ [k0], List.replicate as.length k0][j] = os at *
    rw [List.map_cons, List.map_cons, List.map_cons, List.map_cons, List.map_cons, List.map_nil] at al
    refine ⟨os, c1, s1', ?_, lk, hs1⟩
    generalize as.reverse = r1 at *
    generalize as ++ [k0] = r2 at *
    generalize List.replicate as.length k0 = r3 at *
    generalize k0 :: kr = ks at *
    simp [-zbL, i2, rv, ak, s1, s5, ad, rp, hj, al]
theorem zqO (h : St ks as t qs) (hd : Sd s) : ∃ (c' s' : Int) (y7 y8 y9 : Sl), iB (lE ns k c s ks as t qs x6 x7 x8 x9 x10) = .ok .nx (lE ns k c' s' ks as t qs x6 y7 y8 y9 x10) /\ Sd s' := by
  have ln := line
  have s2 : 2 <= sizeLine := by omega
  obtain ⟨t', P, c1, s1, h1, B, hs1⟩ := zrP (ns := ns) (k := k) (c := c) (x6 := x6) (x7 := x7) (x8 := x8) (x9 := x9) (x10 := x10) h hd
  obtain ⟨os, c2, s2', h2, A, hs2⟩ := zre (ns := ns) (k := k) (c := c1) (x6 := x6) (x7 := some (.frz, .tup [t'.d, .lst (P.map Tp.d)])) (x8 := x8) (x9 := x9) (x10 := x10) h hs1
  obtain ⟨z, hz⟩ := zqh B A
  have te := zdA A B.tb B.ok
  have de := zpm (as := os) B.tb B.ok
  have im := zoT (as := os) (t := t') (P := P)
  have nn := zbN (zqA (as := os) (t := t') (P := P))
  have ns' := znP z
  generalize ans os t' P = R at *
  have h3 : i3 (lE ns k c2 s2' ks as t qs x6 (some (.frz, .tup [t'.d, .lst (P.map Tp.d)])) (some (.frz, ofI os)) x9 x10) = .ok .nx (lE ns k c2 s2' ks as t qs x6 (some (.frz, .tup [t'.d, .lst (P.map Tp.d)])) (some (.frz, ofI os)) (some (.frz, .str z)) x10) := by
    simp [i3, s2, hz]
  have h4 : i4 (lE ns k c2 s2' ks as t qs x6 (some (.frz, .tup [t'.d, .lst (P.map Tp.d)])) (some (.frz, ofI os)) (some (.frz, .str z)) x10) = .ok .nx (lE ns k c2 s2' ks as t qs x6 (some (.frz, .tup [t'.d, .lst (P.map Tp.d)])) (some (.frz, ofI os)) (some (.frz, .str z)) x10) := by
    simp [i4, s2, hz, te, de, nn, ns']
  exact ⟨c2, s2', _, _, _, za0 h1 (za0 h2 (za0 h3 h4)), hs2⟩
noncomputable def o5 : M Fl := (ifM (M.bind (op2 zbk (zar zag (Zj (zaa 4) (Zj (zaa 5) (M.pure [])))) (lstM (Zj (M.pure (.val (.str "told"))) (Zj (M.pure (.val .non)) (M.pure []))))) asB)
  (zaP (M.pure (.val (.bl false))))
  (M.pure .nx))
noncomputable def o6 : M Fl := (forM (zgX (Zj (M.pure (.val (.int 10))) (M.pure []))) (gN 6) iB)
theorem zrh (h : St ks as t qs) : o5 (lE ns k c s ks as t qs x6 x7 x8 x9 x10) = .ok .nx (lE ns k c s ks as t qs x6 x7 x8 x9 x10) := by
  have ln := line
  have s2 : 2 <= sizeLine := by omega
  have te := zdA h.ak h.bt.tb h.bt.ok
  unfold ans at te
  rw [if_pos (by rw [List.length_map, h.ql]), h.right, zpv] at te
  have te : zag [ofI as, .tup [t.d, ofT qs]] = some (.new (.lst [.str "told", .non])) := te
  have n1 : zbk (.lst [.str "told", .non]) (.lst [.str "told", .non]) = some (.val (.bl false)) := zbN (ok2 _ _ ze3 (.inl rfl))
  simp [o5, te, s2, n1]
theorem zrc (h : St ks as t qs) (hd : Sd s) : ∃ (c' s' : Int) (y6 y7 y8 y9 : Sl), o6 (lE ns k c s ks as t qs x6 x7 x8 x9 x10) = .ok .nx (lE ns k c' s' ks as t qs y6 y7 y8 y9 x10) /\ Sd s' := by
  obtain ⟨Γ', hl, c', s', y6, y7, y8, y9, rfl, hs'⟩ := zdu (m := gN 6) (s := iB)
    (fun _ Γ => ∃ (c s : Int) (y6 y7 y8 y9 : Sl), Γ = lE ns k c s ks as t qs y6 y7 y8 y9 x10 /\ Sd s)
    (ds := upI 0 10) (Γ := lE ns k c s ks as t qs x6 x7 x8 x9 x10) ⟨c, s, x6, x7, x8, x9, rfl, hd⟩ (by
      rintro i d Γ hd ⟨c, s, y6, y7, y8, y9, rfl, hs⟩
      obtain ⟨c', s', z7, z8, z9, hz, hs'⟩ := zqO (ns := ns) (k := k) (c := c) (x6 := some (.frz, d)) (x7 := y7) (x8 := y8) (x9 := y9) (x10 := x10) h hs
      exact ⟨_, _, rfl, .inl hz, c', s', some (.frz, d), z7, z8, z9, rfl, hs'⟩)
  have sm : small 10 = true := zgd (by omega)
  exact ⟨c', s', y6, y7, y8, y9, by simp [o6, sm, hl], hs'⟩
end
end K20
end
section
namespace K20
open PySem L2 Ex Dv Tr
noncomputable def thS : M Fl := (ifM (orM (M.bind (op2 zbk (zar zag (Zj (zaa 4) (Zj (zaa 10) (M.pure [])))) (lstM (Zj (M.pure (.val (.str "run"))) (Zj (M.pure (.val .non)) (M.pure []))))) asB) (M.bind (op2 zbk (zar zag (Zj (op2 zbb (zaa 4) (lstM (Zj (M.pure (.val (.int 31))) (M.pure [])))) (Zj (zaa 10) (M.pure [])))) (lstM (Zj (M.pure (.val (.str "asks"))) (Zj (M.pure (.val .non)) (M.pure []))))) asB))
  (zaP (M.pure (.val (.bl false))))
  (M.pure .nx))
noncomputable def o7 : M Fl := (forM (zey (lstM (Zj (M.pure (.val .non)) (Zj (M.pure (.val (.int 3))) (Zj (lstM (M.pure [])) (Zj (zbp (M.pure [])) (Zj (zcj zm6 (zaa 5) (M.pure none) (M.bind (M.pure (.val (.int 1))) asI)) (Zj (op2 zm3 (zaa 5) (zbp (Zj (M.pure (.val .non)) (M.pure [])))) (Zj (zaV zeZ (Zj (zaa 5) (M.pure []))) (Zj (zbp (Zj (M.pure (.val (.int 3))) (Zj (op2 zaJ (zaa 5) (M.pure (.val (.int 1)))) (M.pure [])))) (Zj (zbp (Zj (op2 zaJ (zaa 5) (M.pure (.val (.int 0)))) (Zj (zaV zgZ (Zj (op2 zaJ (zaa 5) (M.pure (.val (.int 1)))) (M.pure []))) (M.pure [])))) (Zj (M.pure (.val (.str "run"))) (M.pure []))))))))))))) (gN 10) thS)
noncomputable def o8 : M Fl := (ifM (M.bind (op2 zbk (zar zag (Zj (zaa 4) (Zj (zbp (Zj (M.pure (.val .non)) (Zj (op2 zaJ (zaa 5) (M.pure (.val (.int 1)))) (M.pure [])))) (M.pure [])))) (lstM (Zj (M.pure (.val (.str "run"))) (Zj (M.pure (.val (.int 0))) (M.pure []))))) asB)
  (zaP (M.pure (.val (.bl false))))
  (M.pure .nx))
noncomputable def o9 : M Fl := (ifM (orM (M.bind (op2 zbk (zar zag (Zj (lstM (M.pure [])) (Zj (zaa 5) (M.pure [])))) (lstM (Zj (M.pure (.val (.str "asks"))) (Zj (M.pure (.val .non)) (M.pure []))))) asB) (M.bind (op2 zbk (zar zag (Zj (lstM (Zj (M.pure (.val (.bl true))) (M.pure []))) (Zj (zaa 5) (M.pure [])))) (lstM (Zj (M.pure (.val (.str "asks"))) (Zj (M.pure (.val .non)) (M.pure []))))) asB))
  (zaP (M.pure (.val (.bl false))))
  (M.pure .nx))
noncomputable def oB : M Fl := zak o1 (zak o2 (zak o3 (zak o4 (zak o5 (zak o6 (zak o7 (zak o8 o9)))))))
theorem zo9 (i : D) (h : i = .non \/ ∃ j, i = .int j) : zbk (.lst [.str "run", i]) (.lst [.str "run", i]) = some (.val (.bl false)) := zbN (ok2 _ _ zeS h)
theorem znl : zbk (.lst [.str "asks", .non]) (.lst [.str "asks", .non]) = some (.val (.bl false)) := zbN (ok2 _ _ zmV (.inl rfl))
theorem zrI : za2 [.int 31] = some (.val (.bl false)) := by rw [zeH]; rfl
section
variable {ns ks as : List Int} {k c s : Int} {t : T} {qs : List T} {x6 x7 x8 x9 x10 : Sl}
theorem zrv (h : St ks as t qs) {d : D} (f : ∀ n : D, zau [d, n] = some (.val (.bl false))) : thS (lE ns k c s ks as t qs x6 x7 x8 x9 (some (.frz, d))) = .ok .nx (lE ns k c s ks as t qs x6 x7 x8 x9 (some (.frz, d))) := by
  have ln := line
  have s1 : 1 <= sizeLine := by omega
  have s2 : 2 <= sizeLine := by omega
  have few := h.few
  have t1 := zgn (zkD h.ak (d := d) fun n _ => f _)
  have t2 := zfw (b := d) (zh5 (ziQ (d := .int 31) h.ak.key (by omega) zrI))
  have ad : zbb (ofI as) (.lst [.int 31]) = some (.new (.lst (as.map D.int ++ [.int 31]))) := zbL (by simp; omega)
  have n1 := zo9 .non (.inl rfl)
  have n2 := znl
  simp [-zbL, thS, t1, s1, s2, n1, ad, t2, n2]
theorem zrV (h : St ks as t qs) : ∃ y10, o7 (lE ns k c s ks as t qs x6 x7 x8 x9 x10) = .ok .nx (lE ns k c s ks as t qs x6 x7 x8 x9 y10) := by
  have ln := line
  have s0 : 0 <= sizeLine := by omega
  have s1 : 1 <= sizeLine := by omega
  have s2 : 2 <= sizeLine := by omega
  have s10 : 10 <= sizeLine := by omega
  have ct : zm6 (.tup [t.d, ofT qs]) none (some 1) = some (.val (.tup [t.d])) := by
    show (if cd _ then none else some (RV.val (.tup (zcQ [t.d, ofT qs] none (some 1))))) = _
    rw [ze2 (by rintro ⟨_, z⟩; simp [HT.sIx] at z), show zcQ [t.d, ofT qs] none (some 1) = [t.d] from zeJ _ 1]
    rfl
  have at' : zm3 (.tup [t.d, ofT qs]) (.tup [.non]) = some (.val (.tup [t.d, ofT qs, .non])) := by
    show (if [ofT qs].length + ([] : List D).length + 2 <= sizeLine then some (RV.val (.tup (t.d :: [ofT qs] ++ .non :: []))) else none) = _
    rw [if_pos (by simp; omega)]
    rfl
  have li : zeZ [.tup [t.d, ofT qs]] = some (.new (.lst [t.d, ofT qs])) := rfl
  have tu : zgZ [ofT qs] = some (.val (.tup (qs.map T.d))) := rfl
  have key : ∀ d ∈ [D.non, .int 3, .lst [], .tup [], .tup [t.d], .tup [t.d, ofT qs, .non], .lst [t.d, ofT qs], .tup [.int 3, ofT qs], .tup [t.d, .tup (qs.map T.d)], .str "run"], ∀ n : D, zau [d, n] = some (.val (.bl false)) := by
    intro d hd n
    simp only [List.mem_cons, List.not_mem_nil, or_false] at hd
    rcases hd with rfl | rfl | rfl | rfl | rfl | rfl | rfl | rfl | rfl | rfl
    · exact zl3 n
    · exact zmy 3 n
    · exact zjb _ n
    · exact zgs (by simp)
    · exact zgs (by simp)
    · exact zgs (by simp)
    · exact zjb _ n
    · exact zk3 (zmF 3)
    · exact zmj h.tb _ n
    · exact zlZ _ n
  generalize hT : [D.non, .int 3, .lst [], .tup [], .tup [t.d], .tup [t.d, ofT qs, .non], .lst [t.d, ofT qs], .tup [.int 3, ofT qs], .tup [t.d, .tup (qs.map T.d)], .str "run"] = Ts at key
  obtain ⟨Γ', hl, y10, rfl⟩ := zdu (m := gN 10) (s := thS)
    (fun _ Γ => ∃ y10, Γ = lE ns k c s ks as t qs x6 x7 x8 x9 y10)
    (ds := Ts) (Γ := lE ns k c s ks as t qs x6 x7 x8 x9 x10) ⟨x10, rfl⟩ (by
      rintro i d Γ hd ⟨y10, rfl⟩
      exact ⟨_, _, rfl, .inl (zrv h (key d (List.mem_of_getElem? hd))), some (.frz, d), rfl⟩)
  rw [<- hT] at hl
  exact ⟨y10, by simp [o7, s0, s1, s2, s10, ct, at', li, tu, zij, zg4, hl]⟩
theorem zrB (h : St ks as t qs) : o8 (lE ns k c s ks as t qs x6 x7 x8 x9 x10) = .ok .nx (lE ns k c s ks as t qs x6 x7 x8 x9 x10) := by
  have ln := line
  have s2 : 2 <= sizeLine := by omega
  have te := zdA (t := .nil) (ps := qs.map Tp.tr) h.ak trivial h.bt.ok
  unfold ans at te
  rw [if_pos (by rw [List.length_map, h.ql]), zn9 h.ak.pos h.ql, zpv] at te
  have te : zag [ofI as, .tup [.non, ofT qs]] = some (.new (.lst [.str "run", .int 0])) := te
  have n1 := zo9 (.int 0) (.inr ⟨0, rfl⟩)
  simp [o8, zg4, s2, te, n1]
theorem zqS : o9 (lE ns k c s ks as t qs x6 x7 x8 x9 x10) = .ok .nx (lE ns k c s ks as t qs x6 x7 x8 x9 x10) := by
  have ln := line
  have s0 : 0 <= sizeLine := by omega
  have s1 : 1 <= sizeLine := by omega
  have s2 : 2 <= sizeLine := by omega
  have t1 := zfw (b := .tup [t.d, ofT qs]) (zh5 znq)
  have t2 : zag [.lst [.bl true], .tup [t.d, ofT qs]] = some (.new (.lst [.str "asks", .non])) := zfw (b := .tup [t.d, ofT qs]) (zh5 (ziQ (as := []) (d := .bl true) (by simp) (by simp) zix))
  have n2 := znl
  simp [o9, s0, s1, s2, t1, t2, n2]
end
theorem zpV {s1 s2 s3 : M Fl} {Γ Γ1 : En} (h : zak s1 s2 Γ = .ok .nx Γ1) {r : Res Fl} (h3 : s3 Γ1 = r) : zak s1 (zak s2 s3) Γ = r := by
  rw [ziF] at h ⊢
  cases e : s1 Γ with
  | ok fl Γ2 =>
    cases fl with
    | nx =>
      rw [e] at h
      simp only at h ⊢
      exact za0 h h3
    | cont => rw [e] at h; cases h
    | brk => rw [e] at h; cases h
    | ret _ => rw [e] at h; cases h
  | ex _ _ => rw [e] at h; cases h
  | st => rw [e] at h; cases h
theorem zn7 {s1 s2 s3 s4 s5 : M Fl} {Γ Γ1 : En} (h : zak s1 (zak s2 (zak s3 s4)) Γ = .ok .nx Γ1) {r : Res Fl} (h5 : s5 Γ1 = r) : zak s1 (zak s2 (zak s3 (zak s4 s5))) Γ = r := by
  rw [ziF] at h ⊢
  cases e1 : s1 Γ with
  | ok fl Γ2 =>
    cases fl with
    | nx =>
      rw [e1] at h
      simp only at h ⊢
      rw [ziF] at h ⊢
      cases e2 : s2 Γ2 with
      | ok fl Γ3 =>
        cases fl with
        | nx =>
          rw [e2] at h
          simp only at h ⊢
          exact zpV h h5
        | cont => rw [e2] at h; cases h
        | brk => rw [e2] at h; cases h
        | ret _ => rw [e2] at h; cases h
      | ex _ _ => rw [e2] at h; cases h
      | st => rw [e2] at h; cases h
    | cont => rw [e1] at h; cases h
    | brk => rw [e1] at h; cases h
    | ret _ => rw [e1] at h; cases h
  | ex _ _ => rw [e1] at h; cases h
  | st => rw [e1] at h; cases h
theorem zqW {ns : List Int} {k : Nat} (hk : k < 100) {x2 x3 x4 x5 x6 x7 x8 x9 x10 : Sl} : ∃ (y2 y3 y4 y5 y6 y7 y8 y9 y10 : Sl), oB [some (.frz, .scr ns), some (.frz, .int k), x2, x3, x4, x5, x6, x7, x8, x9, x10] = .ok .nx [some (.frz, .scr ns), some (.frz, .int k), y2, y3, y4, y5, y6, y7, y8, y9, y10] := by
  obtain ⟨c, s, ks, as, t, qs, h1, hs, S⟩ := zn2 (ns := ns) hk (x2 := x2) (x3 := x3) (x4 := x4) (x5 := x5) (x6 := x6) (x7 := x7) (x8 := x8) (x9 := x9) (x10 := x10)
  have h5 := zrh (ns := ns) (k := k) (c := c) (s := s) (x6 := x6) (x7 := x7) (x8 := x8) (x9 := x9) (x10 := x10) S
  obtain ⟨c', s', y6, y7, y8, y9, h6, hs'⟩ := zrc (ns := ns) (k := k) (c := c) (x6 := x6) (x7 := x7) (x8 := x8) (x9 := x9) (x10 := x10) S hs
  obtain ⟨y10, h7⟩ := zrV (ns := ns) (k := k) (c := c') (s := s') (x6 := y6) (x7 := y7) (x8 := y8) (x9 := y9) (x10 := x10) S
  have h8 := zrB (ns := ns) (k := k) (c := c') (s := s') (x6 := y6) (x7 := y7) (x8 := y8) (x9 := y9) (x10 := y10) S
  have h9 := zqS (ns := ns) (ks := ks) (as := as) (k := k) (c := c') (s := s') (t := t) (qs := qs) (x6 := y6) (x7 := y7) (x8 := y8) (x9 := y9) (x10 := y10)
  exact ⟨_, _, _, _, _, _, _, _, _, zn7 h1 (za0 h5 (za0 h6 (za0 h7 (za0 h8 h9))))⟩
theorem zpu (ns : List Int) (h : ns.length <= 63) : ziU [.scr ns] = some (.val (.bl true)) := by
  generalize hn : (if (ns.length : Int) < 6 then (ns.length : Int) else 6) = n1
  generalize hn2 : (if n1 > 1 then n1 else 1) = n2
  have b1 : 0 <= n1 /\ n1 <= 6 := by rw [<- hn]; split <;> omega
  have b2 : 1 <= n2 /\ n2 <= 6 := by rw [<- hn2]; split <;> omega
  have sm : small n2 = true := zgd (by omega)
  obtain ⟨Γ', hl, y1, y2, y3, y4, y5, y6, y7, y8, y9, y10, rfl⟩ := zdu (m := gN 1) (s := oB)
    (fun _ Γ => ∃ (y1 y2 y3 y4 y5 y6 y7 y8 y9 y10 : Sl), Γ = [some (.frz, .scr ns), y1, y2, y3, y4, y5, y6, y7, y8, y9, y10])
    (ds := upI 0 n2.toNat) (Γ := [some (.frz, .scr ns), none, none, none, none, none, none, none, none, none, none])
    ⟨none, none, none, none, none, none, none, none, none, none, rfl⟩ (by
      rintro i d Γ hd ⟨y1, y2, y3, y4, y5, y6, y7, y8, y9, y10, rfl⟩
      obtain ⟨rfl, hi⟩ := zqV hd
      obtain ⟨z2, z3, z4, z5, z6, z7, z8, z9, z10, hz⟩ := zqW (ns := ns) (k := i) (x2 := y2) (x3 := y3) (x4 := y4) (x5 := y5) (x6 := y6) (x7 := y7) (x8 := y8) (x9 := y9) (x10 := y10) (by omega)
      exact ⟨_, _, rfl, .inl (by simpa using hz), some (.frz, .int i), z2, z3, z4, z5, z6, z7, z8, z9, z10, rfl⟩)
  have e : zjT zbf zbv zaI zbg zbt zae zag = zak (ifM (ngM (M.bind (zar zaI (M.pure [])) asB))
    (zaP (M.pure (.val (.bl false)))) (M.pure .nx)) (zak (forM (zgX (Zj (zaV ziA (Zj (M.pure (.val (.int 1))) (Zj (zaV ziR (Zj (M.pure (.val (.int 6))) (Zj (zaV zbZ (Zj (zaa 0) (M.pure []))) (M.pure [])))) (M.pure [])))) (M.pure []))) (gN 1) oB) (zaP (M.pure (.val (.bl true))))) := rfl
  have lo := zoR
  unfold ziU
  rw [e]
  simp [zaW, zaL, gam, lo, hn, hn2, sm, hl]
end K20
end
section
namespace Hd
open PySem PySem.W PyProof.Rows
def zgO (tb : String -> Option Builtin) (p : Program) (w : World) (m : Nat) (an : Option Value) : Nat -> SharedT -> Thread -> Option SharedT
  | 0, _, _ => none
  | k + 1, x, y => match through y with
    | true => some x
    | false => match stepOk m an y with
      | false => none
      | true => match stepT (denote tb) p w x y with
        | some (x', y') => zgO tb p w m an k x' y'
        | none => none
theorem zks {tb : String -> Option Builtin} {p : Program} {w : World} {m : Nat} {an : Option Value} : ∀ {k : Nat} {x r : SharedT} {y : Thread}, zgO tb p w m an k x y = some r -> topRun tb p w m an k x.abs y = some r.abs
  | 0, _, _, _, h => by cases h
  | k + 1, x, r, y, h => by
    unfold zgO at h
    unfold topRun
    cases c1 : through y with
    | true => rw [c1] at h; cases h; rfl
    | false =>
      rw [c1] at h
      cases c2 : stepOk m an y with
      | false => rw [c2] at h; cases h
      | true =>
        rw [c2] at h
        cases c3 : stepT (denote tb) p w x y with
        | none => rw [c3] at h; cases h
        | some z => obtain ⟨x2, y2⟩ := z; rw [c3] at h; rw [stepT_spec c3]; exact zks h
noncomputable def zny (tb : String -> Option Builtin) (p : Program) (w : World) (m : Nat) (an : Option Value) : Nat -> SharedT -> Thread -> Option SharedT
  | 0, _, _ => none
  | k + 1, x, y => match through y with
    | true => some x
    | false => match Fast.tw6613529449190102663 m an y with
      | false => none
      | true => match Fast.tw10156331382660048174 (Fast.tw11892475500146522536 tb) p w x y with
        | some (x', y') => zny tb p w m an k x' y'
        | none => none
theorem zkf {tb : String -> Option Builtin} {p : Program} {w : World} {m : Nat} {an : Option Value} : ∀ (k : Nat) (x : SharedT) (y : Thread), zgO tb p w m an k x y = zny tb p w m an k x y
  | 0, _, _ => rfl
  | k + 1, x, y => by
    unfold zgO zny
    rw [<- Fast.te6613529449190102663, <- Fast.te10156331382660048174, <- Fast.te11892475500146522536]
    split
    · rfl
    · split
      · rfl
      · split
        · exact zkf k _ _
        · rfl
noncomputable def zm4 (P : Params) (os : OsState) : SharedT :=
  ⟨(.node (boot_o_0 P) (.node (boot_o_1 P) (.node (boot_o_3 P) (.node (boot_o_7 P) .nil .nil) .nil) (.node (boot_o_5 P) (.node (boot_o_9 P) .nil .nil) .nil)) (.node (boot_o_2 P) (.node (boot_o_4 P) (.node (boot_o_8 P) .nil .nil) .nil) (.node (boot_o_6 P) (.node (boot_o_10 P) .nil .nil) .nil))), 11, (boot_heap P).life, Array.mk [], boot_drawn, boot_toks, os⟩
theorem zk9 (P : Params) (os : OsState) : (zm4 P os).abs = ⟨boot_heap P, Array.mk [], boot_drawn, boot_toks, os⟩ := by kernel_rfl
theorem zoJ {p r : Program} {keep : List Nat} {R : WRecords} {K : Params -> Frag} {as : List Addr} {N : Nat} (ep : p = r) (e0 : opening p = plainProg p.main.scope.names) (hN : Nat.ble 600 N = true) (f : ∀ s, fenceModules? p s = some s)
    (run : ∀ (w : World) (os : OsState), (zny Fast.tw14364793385576792824 r w 11 (some (.ref 6)) N (zm4 w.params os) (topStub r)).map (fun s => ((staticsOk (importedModules r.main.body) (boot_heap w.params) s.abs.heap && namesBound r s.abs.heap && gensDone s.abs && laidKept (boot_heap w.params) s.abs.heap),
      Fast.tw4187177175401517315 (view r keep) [] (importedModules r.main.body) (fun s => xlAt (view r keep) [] s && recOk R s) true s.abs, as.map s.abs.heap.get?)) = some (true, openGood (view r keep) [], (K w.params).map fun x => some x.2)) :
    LeftO p (view p keep) [] (fun s => xlAt (view p keep) [] s && recOk R s) (fun s => as.map s.heap.get?) (fun w => (K w.params).map fun x => some x.2) N := by
  subst ep
  intro w
  obtain ⟨⟨h, gs, d, k, os⟩, e, e'⟩ := Option.map_eq_some_iff.mp (boot_open e0 hN f w)
  obtain ⟨rfl, rfl, rfl, rfl⟩ : h = boot_heap w.params /\ gs = Array.mk [] /\ d = boot_drawn /\ k = boot_toks := by simpa using e'
  obtain ⟨s, h1, h2⟩ := Option.map_eq_some_iff.mp (run w os)
  rw [<- Fast.te14364793385576792824, <- zkf] at h1
  have h1 := zks h1
  rw [zk9] at h1
  rw [<- Fast.te4187177175401517315] at h2
  obtain ⟨l1, l2, l3⟩ : _ /\ _ /\ _ := by simpa only [Prod.mk.injEq] using h2
  have z : ((boot_heap w.params).isNs mainGlobals && (Array.mk [] : Array GenState).size == 0, (boot_heap w.params).objs.size, (boot_heap w.params).nsMap mainGlobals "__annotations__") = (true, 11, some (.ref 6)) := by kernel_rfl
  obtain ⟨z1, z2, z3⟩ : _ /\ _ /\ _ := by simpa only [Prod.mk.injEq] using z
  have t : topFrom treeTable p w N ⟨boot_heap w.params, Array.mk [], boot_drawn, boot_toks, os⟩ = some s.abs := by
    unfold topFrom
    dsimp only
    rw [z1, z2, z3, h1]
    show (match staticsOk (importedModules p.main.body) (boot_heap w.params) s.abs.heap && namesBound p s.abs.heap && gensDone s.abs && laidKept (boot_heap w.params) s.abs.heap with | true => _ | false => _) = _
    rw [l1]
  unfold openEnds
  rw [e]
  show ((topFrom treeTable p w N _).map _) = _
  rw [t]
  exact congrArg some (Prod.ext l2 (by exact l3))
abbrev vS (s : Str) (t : Tok) : Value := .str s t
abbrev vI (i : Int) (t : Tok) : Value := .int i t
abbrev de (s : Str) (t : Tok) (v : Value) : Str × Tok × Value := (s, t, v)
abbrev dO (P : Params) (l : List (Str × Tok × Value)) (n : Nat) : Obj := { cls := .type "dict", data := .dict (l.map fun x => ⟨PyData.keyHash P x.1, .str x.1 x.2.1, x.2.2⟩).toArray n }
abbrev dN (P : Params) (l : List (Str × Tok × Value)) (n : Nat) : Obj := { cls := .none, data := .dict (l.map fun x => ⟨PyData.keyHash P x.1, .str x.1 x.2.1, x.2.2⟩).toArray n }
abbrev fO (x q : Str) (st : Stmt) (dV pm : Value) (cd : Addr) : Obj := { cls := .type "function", data := .func (fnOf x q (L2.defArgs st) (L2.defBody st) (L2.defScope st) dV .none .none pm none (.ref cd) .none) }
abbrev kO (x q : Str) (t : Tok) (a b : Int) (l : List Value) : Obj := { cls := .type "code", data := .fields (.str x t :: .str q (t + 1) :: .str "/claim/cut.py" (t + 2) :: .int a 0 :: .int b 0 :: l).toArray }
abbrev cO (x : Str) (bs mr : List Value) (ns : Addr) (sb : List Value) (sl : Array (Option Value)) : Obj := { cls := .type "type", data := .cls { name := x, bases := bs, mro := mr, ns := ns, qualname := x, subclasses := sb }, slots := sl }
end Hd
end
section
namespace K20
open PySem L2 Ex Dv
variable [KC]
def top (i : Nat) : Stmt := PySem.Challenge.pw_thirdpoint_k20_runs_looked_at.main.body.getD i (.Pass ⟨0, 0, 0, 0⟩)
structure Nm (mg : Str -> Option Value) : Prop where
  b_bool : mg "bool" = none
  b_enumerate : mg "enumerate" = none
  b_int : mg "int" = none
  b_isinstance : mg "isinstance" = none
  b_len : mg "len" = none
  b_list : mg "list" = none
  b_max : mg "max" = none
  b_min : mg "min" = none
  b_range : mg "range" = none
  b_repr : mg "repr" = none
  b_sorted : mg "sorted" = none
  b_tuple : mg "tuple" = none
  c_LAST_KEY : ∃ t, mg "LAST_KEY" = some (.int 30 t)
  c_MOST_ASKS : ∃ t, mg "MOST_ASKS" = some (.int 31 t)
  n_NoAsks : mg "NoAsks" = some (.ref (KC.cls .NoAsks))
  n_NoBack : mg "NoBack" = some (.ref (KC.cls .NoBack))
  n_NoBox : mg "NoBox" = some (.ref (KC.cls .NoBox))
  n_NoKey : mg "NoKey" = some (.ref (KC.cls .NoKey))
  n_NoName : mg "NoName" = some (.ref (KC.cls .NoName))
  n_NoPoint : mg "NoPoint" = some (.ref (KC.cls .NoPoint))
  n_NoPoints : mg "NoPoints" = some (.ref (KC.cls .NoPoints))
  n_NoRow : mg "NoRow" = some (.ref (KC.cls .NoRow))
  n_NoRun : mg "NoRun" = some (.ref (KC.cls .NoRun))
  n_NoText : mg "NoText" = some (.ref (KC.cls .NoText))
  n_NoTop : mg "NoTop" = some (.ref (KC.cls .NoTop))
  n_NoTree : mg "NoTree" = some (.ref (KC.cls .NoTree))
  n_NoTurn : mg "NoTurn" = some (.ref (KC.cls .NoTurn))
  n_NotServed : mg "NotServed" = some (.ref (KC.cls .NotServed))
  n_PointError : mg "PointError" = some (.ref (KC.cls .PointError))
  n_TooMany : mg "TooMany" = some (.ref (KC.cls .TooMany))
  i_NoAsks : ∀ (P : Program) (w : World) (base : Heap), Ini P w mg base .NoAsks ["self", "number"] (znK (KC.cls .NoAsks) "number")
  i_NoRun : ∀ (P : Program) (w : World) (base : Heap), Ini P w mg base .NoRun ["self", "moment"] (znK (KC.cls .NoRun) "moment")
  m_NoTop : znd KC.K (KC.cls .NoTop)
  z_NoTop : XK0 KC.K (KC.cls .NoTop)
  m_NoTree : znd KC.K (KC.cls .NoTree)
  z_NoTree : XK0 KC.K (KC.cls .NoTree)
  k_NoAsks : KitX exL .NoAsks
  k_NoBack : KitX exL .NoBack
  k_NoBox : KitX exL .NoBox
  k_NoKey : KitX exL .NoKey
  k_NoName : KitX exL .NoName
  k_NoPoint : KitX exL .NoPoint
  k_NoPoints : KitX exL .NoPoints
  k_NoRow : KitX exL .NoRow
  k_NoRun : KitX exL .NoRun
  k_NoText : KitX exL .NoText
  k_NoTop : KitX exL .NoTop
  k_NoTree : KitX exL .NoTree
  k_NoTurn : KitX exL .NoTurn
  k_NotServed : KitX exL .NotServed
  k_PointError : KitX exL .PointError
  k_TooMany : KitX exL .TooMany
  t_PointError_NoPoint_TooMany : ∀ C, za4 C = true -> matchIn KC.K (KC.cls C) [.ref (KC.cls .PointError), .ref (KC.cls .NoPoint), .ref (KC.cls .TooMany)] = some true
  a_moment : ∀ C, exL.contains C = true -> XC KC.K (KC.cls C) /\ zfz KC.K (KC.cls C) "moment"
abbrev zcx : Stmt := top 40
abbrev zcC : Stmt := top 41
abbrev zcD : Stmt := top 52
abbrev zci : Stmt := top 42
abbrev zc9 : Stmt := top 45
abbrev zcd : Stmt := top 50
abbrev zc7 : Stmt := top 43
abbrev zb7 : Stmt := top 44
abbrev zco : Stmt := top 51
abbrev zcz : Stmt := top 48
abbrev zdU : Stmt := top 19
abbrev zck : Stmt := top 24
abbrev zdn : Stmt := top 25
abbrev zcY : Stmt := top 35
abbrev zbW : Stmt := top 26
abbrev zbM : Stmt := top 30
abbrev zdQ : Stmt := top 27
abbrev zd9 : Stmt := top 31
abbrev zdo : Stmt := top 28
abbrev zbU : Stmt := top 22
abbrev zgK : Stmt := top 32
abbrev zdT : Stmt := top 33
abbrev zb5 : Stmt := top 36
abbrev zcA : Stmt := top 49
abbrev zbz : Stmt := top 53
abbrev zbX : Stmt := top 38
abbrev zcB : Stmt := top 39
abbrev zcm : Stmt := top 47
abbrev zfP : Stmt := top 54
section
variable {P : Program} {w : World} {mg : Str -> Option Value} {base : Heap}
theorem sc__law_take : FnScope ["_law_pool_here", "_law_many", "_law_found"] ["_law_pool_here", "_law_many"] (defScope zcx) := ⟨rfl, rfl, rfl, by decide +kernel, rfl, by decide +kernel, by decide +kernel⟩
theorem zhP {fa : Addr} {cdv : Value} {A : Around} {outer : List Env} {s : Shared} {H : Hp} {E : XK} {k : Nat} {ios : List Addr} (M : Nm mg)  (hr : Room k (A.deeper (PyProof.Rows.envOfC "_law_take" (defScope zcx) s.heap.objs.size fa cdv))) :
    VSs (zbB CX0 P w KC.K mg base ["_law_pool_here", "_law_many", "_law_found"] "_law_take" (defScope zcx) fa cdv A outer s H E).nox EN ios (defBody zcx) (zcO ) :=
  (zad (zbc (zaC zrj zqr (zaT (ZY (pv 0)) zai) zai (zaF _))
      (zad (zaD (i := 2) sc__law_take.nd rfl (by first | exact Or.inl rfl | exact Or.inr rfl) (zaS zeO zdM (zaT (ZY (pv 0)) zai) (ZY (pv 1))))
      (zad (zeF (n := 0) (zaS zkP ziv (zaT (ZY (pv 0)) zai) (ZY (pv 1))) (zkX (EE := EN) zkd) (fun _ h => zeR h (zmS (pv 0) (VE.pe (EE := EN) zai) set_list)))
      (zaj (zat (ZY (pv 2))))))
      zaz)
      (zad (zeF (n := 0) (zaS zeO zdM (zaS op_add3 zaO (zaS zeP zdD (zaT (ZY (pv 0)) zai) zai) zai) zai) (zkX (EE := EN) zkd) (fun _ h => zeR h (zmS (pv 0) (VE.pe (EE := EN) zai) set_list)))
      (zaj (zat (zaS zeO zdM (zaS zkP ziv (zaS zeO zdM (zaS zeP zdD (zaT (ZY (pv 0)) zai) (zaT (ZY (pv 0)) zai)) zai) zai) (ZY (pv 1)))))))
theorem sc__law_tree : FnScope ["_law_pool_here", "_law_keys", "_law_at"] ["_law_pool_here", "_law_keys"] (defScope zcC) := ⟨rfl, rfl, rfl, by decide +kernel, rfl, by decide +kernel, by decide +kernel⟩
theorem zib {fa : Addr} {cdv : Value} {A : Around} {outer : List Env} {s : Shared} {H : Hp} {E : XK} {k : Nat} {ios : List Addr} (M : Nm mg) {zae : GI} {k__law_take : Nat} (C__law_take : Cal P w mg base "_law_take" k__law_take ["_law_pool_here", "_law_many"] (spI zae)) (L__law_take : k__law_take <= k) {zam : GI} {k__law_tree : Nat} (C__law_tree : Cal P w mg base "_law_tree" k__law_tree ["_law_pool_here", "_law_keys"] (spI zam)) (L__law_tree : k__law_tree <= k) (hr : Room k (A.deeper (PyProof.Rows.envOfC "_law_tree" (defScope zcC) s.heap.objs.size fa cdv))) :
    VSs (zbB CX0 P w KC.K mg base ["_law_pool_here", "_law_keys", "_law_at"] "_law_tree" (defScope zcC) fa cdv A outer s H E).nox EN ios (defBody zcC) (zcS zae zam) :=
  (zad (zbc (zaC (zcf hr) zbT (ZY (pv 1)) (zas zab) (zaF _))
      (zaj (zat zaN))
      zaz)
      (zad (zaD (i := 2) sc__law_tree.nd rfl (by first | exact Or.inl rfl | exact Or.inr rfl) (zaY C__law_take (hr.mono L__law_take) rfl (ZS (ZY (pv 0)) (ZS (zbj (fun _ ha => zao za5 rfl M.b_len PySem.boot_len ha) za6 (ZS (ZY (pv 1)) zab)) zab))))
      (zaj (zat (zbl (ZS (zaT (ZY (pv 1)) (ZY (pv 2))) (ZS (zaY C__law_tree (hr.mono L__law_tree) rfl (ZS (ZY (pv 0)) (ZS (zdl (ZY (pv 1)) zbJ (zcg (ZY (pv 2)))) zab))) (ZS (zaY C__law_tree (hr.mono L__law_tree) rfl (ZS (ZY (pv 0)) (ZS (zdl (ZY (pv 1)) (zcg (zaS op_add3 zaO (ZY (pv 2)) zai)) zbJ) zab))) zab))))))))
theorem sc__law_bent : FnScope ["_law_pool_here", "_law_run_here", "_law_keys", "_law_tree_here", "_law_tops", "_law_at", "_law_way_here", "_law_other"] ["_law_pool_here", "_law_run_here", "_law_keys"] (defScope zcD) := ⟨rfl, rfl, rfl, by decide +kernel, rfl, by decide +kernel, by decide +kernel⟩
theorem zh6 {fa : Addr} {cdv : Value} {A : Around} {outer : List Env} {s : Shared} {H : Hp} {E : XK} {k : Nat} {ios : List Addr} (M : Nm mg) {zae : GI} {k__law_take : Nat} (C__law_take : Cal P w mg base "_law_take" k__law_take ["_law_pool_here", "_law_many"] (spI zae)) (L__law_take : k__law_take <= k) {zam : GI} {k__law_tree : Nat} (C__law_tree : Cal P w mg base "_law_tree" k__law_tree ["_law_pool_here", "_law_keys"] (spI zam)) (L__law_tree : k__law_tree <= k) (hr : Room k (A.deeper (PyProof.Rows.envOfC "_law_bent" (defScope zcD) s.heap.objs.size fa cdv))) :
    VSs (zbB CX0 P w KC.K mg base ["_law_pool_here", "_law_run_here", "_law_keys", "_law_tree_here", "_law_tops", "_law_at", "_law_way_here", "_law_other"] "_law_bent" (defScope zcD) fa cdv A outer s H E).nox EN ios (defBody zcD) (zcM zae zam) :=
  (zad (zeF (n := 8) (ZY (pv 1)) (zdd (zbe (zaG (by decide)) (zbe (zaG (by decide)) zdj))) (fun _ h => zeR h (zdS rfl (zbd (zaU (i := 3) sc__law_bent.nd rfl (by first | exact Or.inl rfl | exact Or.inr rfl)) (zbd (zaU (i := 4) sc__law_bent.nd rfl (by first | exact Or.inl rfl | exact Or.inr rfl)) zde)))))
      (zad (zaD (i := 5) sc__law_bent.nd rfl (by first | exact Or.inl rfl | exact Or.inr rfl) (zaY C__law_take (hr.mono L__law_take) rfl (ZS (ZY (pv 0)) (ZS (zbj (fun _ ha => zao za5 rfl M.b_len PySem.boot_len ha) za6 (ZS (ZY (pv 4)) zab)) zab))))
      (zad (zaD (i := 6) sc__law_bent.nd rfl (by first | exact Or.inl rfl | exact Or.inr rfl) (zaY C__law_take (hr.mono L__law_take) rfl (ZS (ZY (pv 0)) (ZS zai zab))))
      (zad (zbc (zaC (zcf hr) zbT (ZY (pv 6)) zai (zaF _))
      (zaj (zat (zbl (ZS (ZY (pv 3)) (ZS (zaS op_add3 zaO (ZY (pv 4)) (zas (ZS (zaT (ZY (pv 4)) (ZY (pv 5))) zab))) zab)))))
      zaz)
      (zad (zbc (zaC (zcf hr) zbT (ZY (pv 6)) zai (zaF _))
      (zaj (zat (zbl (ZS (ZY (pv 3)) (ZS (zaS op_add3 zaO (zdl (ZY (pv 4)) zbJ (zcg (ZY (pv 5)))) (zdl (ZY (pv 4)) (zcg (zaS op_add3 zaO (ZY (pv 5)) zai)) zbJ)) zab)))))
      zaz)
      (zad (zbc (zaC (zcf hr) zbT (ZY (pv 6)) zai (zaF _))
      (zaj (zat (zbl (ZS (zaY C__law_tree (hr.mono L__law_tree) rfl (ZS (ZY (pv 0)) (ZS (ZY (pv 2)) zab))) (ZS (zbj (fun _ ha => zcT ze9 rfl M.b_list (by decide +kernel) ha) zgE (ZS (ZY (pv 4)) zab)) zab)))))
      zaz)
      (zad (zbc (zaC (zcf hr) zbT (ZY (pv 6)) zai (zaF _))
      (zaj (zat (zbl (ZS (ZY (pv 3)) (ZS (zaS op_add3 zaO (zdl (ZY (pv 4)) zbJ (zcg (ZY (pv 5)))) (zkS (zdl (ZY (pv 4)) (zcg (ZY (pv 5))) zbJ) zbJ zbJ zki)) zab)))))
      zaz)
      (zad (zaD (i := 7) sc__law_bent.nd rfl (by first | exact Or.inl rfl | exact Or.inr rfl) (zas (ZS zaN (ZS (zaT (ZY (pv 4)) (zaY C__law_take (hr.mono L__law_take) rfl (ZS (ZY (pv 0)) (ZS (zbj (fun _ ha => zao za5 rfl M.b_len PySem.boot_len ha) za6 (ZS (ZY (pv 4)) zab)) zab)))) (ZS (zbl (ZS (zaT (ZY (pv 2)) (zea zai)) (ZS zaN (ZS zaN zab)))) (ZS (zaY C__law_tree (hr.mono L__law_tree) rfl (ZS (ZY (pv 0)) (ZS (ZY (pv 2)) zab))) (ZS zaX zab)))))))
      (zad (zaD (i := 7) sc__law_bent.nd rfl (by first | exact Or.inl rfl | exact Or.inr rfl) (zaS op_add3 zaO (ZY (pv 7)) (zas (ZS (zbl (ZS zb4 (ZS zaN (ZS zaN zab)))) (ZS (zbl (ZS (zaT (ZY (pv 2)) zai) (ZS zaN (ZS zaN zab)))) zab)))))
      (zaj (zat (zbl (ZS (ZY (pv 3)) (ZS (zaS op_add3 zaO (zaS op_add3 zaO (zdl (ZY (pv 4)) zbJ (zcg (ZY (pv 5)))) (zas (ZS (zaT (ZY (pv 7)) (zaY C__law_take (hr.mono L__law_take) rfl (ZS (ZY (pv 0)) (ZS zai zab)))) zab))) (zdl (ZY (pv 4)) (zcg (zaS op_add3 zaO (ZY (pv 5)) zai)) zbJ)) zab))))))))))))))
theorem zg3 : FnScope ["_law_tree_here"] ["_law_tree_here"] (defScope zci) := ⟨rfl, rfl, rfl, by decide +kernel, rfl, by decide +kernel, by decide +kernel⟩
theorem zhb {fa : Addr} {cdv : Value} {A : Around} {outer : List Env} {s : Shared} {H : Hp} {E : XK} {k : Nat} {ios : List Addr} (M : Nm mg) {zaf : List D -> Option Rt} {k__law_ahead : Nat} (C__law_ahead : Cal P w mg base "_law_ahead" k__law_ahead ["_law_tree_here"] (spP zaf)) (L__law_ahead : k__law_ahead <= k) (hr : Room k (A.deeper (PyProof.Rows.envOfC "_law_ahead" (defScope zci) s.heap.objs.size fa cdv))) :
    VSs (zbB CX0 P w KC.K mg base ["_law_tree_here"] "_law_ahead" (defScope zci) fa cdv A outer s H E).nox EN ios (defBody zci) (zbP zaf) :=
  (zad (zbc (zaC zeb zdX (ZY (pv 0)) zaN (zaF _))
      (zaj (zat (zas zab)))
      zaz)
      (zaj (zat (zaS op_add3 zaO (zaS op_add3 zaO (zas (ZS (zaT (ZY (pv 0)) zai) zab)) (zaq C__law_ahead (hr.mono L__law_ahead) rfl (ZS (zaT (ZY (pv 0)) zai) zab))) (zaq C__law_ahead (hr.mono L__law_ahead) rfl (ZS (zaT (ZY (pv 0)) zai) zab))))))
theorem sc__law_way : FnScope ["_law_tree_here", "_law_key", "_law_found"] ["_law_tree_here", "_law_key"] (defScope zc9) := ⟨rfl, rfl, rfl, by decide +kernel, rfl, by decide +kernel, by decide +kernel⟩
theorem zi5 {fa : Addr} {cdv : Value} {A : Around} {outer : List Env} {s : Shared} {H : Hp} {E : XK} {k : Nat} {ios : List Addr} (M : Nm mg)  (hr : Room k (A.deeper (PyProof.Rows.envOfC "_law_way" (defScope zc9) s.heap.objs.size fa cdv))) :
    VSs (zbB CX0 P w KC.K mg base ["_law_tree_here", "_law_key", "_law_found"] "_law_way" (defScope zc9) fa cdv A outer s H E).nox EN ios (defBody zc9) (zdR ) :=
  (zad (zaD (i := 2) sc__law_way.nd rfl (by first | exact Or.inl rfl | exact Or.inr rfl) (zas zab))
      (zad (znh (n := zfB) (zbI (znA (zaC znO zmd (ZY (pv 0)) zaN (zaF _)) (zka (zbI (zdh (zaC (zcf hr) zbT (ZY (pv 2)) (zas zab) (zaF _)) (zcr (zaC (zbR hr) zbx (zaT (ZY (pv 2)) (zea zai)) (ZY (pv 1)) (zaF _))))))))
      (zad (zfd (znF (fun _ ha => ziV PySem.F.plainAttrs_list PySem.F.slot_list_append PySem.F.type_list_append zfx (pv 2) ha) zfV (ZS (zaT (ZY (pv 0)) zai) zab)))
      (zaj (zaD (i := 0) sc__law_way.nd rfl (by first | exact Or.inl rfl | exact Or.inr rfl) (zaT (zas (ZS (zaT (ZY (pv 0)) zai) (ZS (zaT (ZY (pv 0)) zai) zab))) (zbj (fun _ ha => zcT zll rfl M.b_int (by decide +kernel) ha) zlQ (ZS (zeK zgD zeN (ZY (pv 1)) (zaT (ZY (pv 0)) zai) (zaF _)) zab)))))))
      (zaj (zat (ZY (pv 2))))))
theorem sc__law_fits : FnScope ["_law_tree_here", "_law_top", "_law_key", "_law_own", "_law_one", "_law_way_here"] ["_law_tree_here", "_law_top", "_law_key"] (defScope zcd) := ⟨rfl, rfl, rfl, by decide +kernel, rfl, by decide +kernel, by decide +kernel⟩
theorem zhK {fa : Addr} {cdv : Value} {A : Around} {outer : List Env} {s : Shared} {H : Hp} {E : XK} {k : Nat} {ios : List Addr} (M : Nm mg) {zaf : List D -> Option Rt} {k__law_ahead : Nat} (C__law_ahead : Cal P w mg base "_law_ahead" k__law_ahead ["_law_tree_here"] (spP zaf)) (L__law_ahead : k__law_ahead <= k) {zaK : List D -> Option Rt} {k__law_way : Nat} (C__law_way : Cal P w mg base "_law_way" k__law_way ["_law_tree_here", "_law_key"] (spP zaK)) (L__law_way : k__law_way <= k) (hr : Room k (A.deeper (PyProof.Rows.envOfC "_law_fits" (defScope zcd) s.heap.objs.size fa cdv))) :
    VSs (zbB CX0 P w KC.K mg base ["_law_tree_here", "_law_top", "_law_key", "_law_own", "_law_one", "_law_way_here"] "_law_fits" (defScope zcd) fa cdv A outer s H E).nox EN ios (defBody zcd) (zdv zaf zaK) :=
  (zad (zaD (i := 3) sc__law_fits.nd rfl (by first | exact Or.inl rfl | exact Or.inr rfl) (zaq C__law_ahead (hr.mono L__law_ahead) rfl (ZS (ZY (pv 1)) zab)))
      (zad (zbc (zbI (zdh (zaC (zcf hr) zbT (ZY (pv 3)) (zas zab) (zaF _)) (zcr (zaC zb0 zdY (ZY (pv 2)) (ZY (pv 3)) rfl))))
      (zaj (zat zb4))
      zaz)
      (zad (zc5 (n := 6) (zdI (ZY (pv 3))) (zaG (by decide))
      (zad (zaD (i := 5) sc__law_fits.nd rfl (by first | exact Or.inl rfl | exact Or.inr rfl) (zaq C__law_way (hr.mono L__law_way) rfl (ZS (ZY (pv 0)) (ZS (ZY (pv 4)) zab))))
      (zaj (zbc (zbI (zdh (zaC (zcf hr) zbT (ZY (pv 5)) (zas zab) (zaF _)) (zdh (zaC (zbR hr) zbx (zaT (ZY (pv 5)) (zea zai)) (ZY (pv 4)) (zaF _)) (zcr (zaC (zbR hr) zbx (zoV rfl (zhY (Nc := ["_law_above", "_law_own"]) (own := 1) (fr := [3]) (sc := defScope zcd) (N := ["_law_tree_here", "_law_top", "_law_key", "_law_own", "_law_one", "_law_way_here"]) rfl rfl (by decide +kernel)) (by decide) (zdI (ZY (pv 5))) (zfh (by decide)) (fun _ _ _ _ _ _ => (zaU (i := 0) (show (["_law_above", "_law_own"] : List Str).Nodup by decide +kernel) rfl (by first | exact Or.inl rfl | exact Or.inr rfl))) (zaG (by decide)) (zgh (by decide)) (fun _ _ _ _ _ _ => zkz (zaC zb0 zdY (ZY (pv 0)) (ZY (pv 1)) rfl)) (fun _ _ _ _ _ _ => (ZY (pv 0)))) (zas zab) (zaF _))))))
      (zaj (zat zb4))
      zaz))) (fun _ _ h1 h2 => zcX PassesOwn.never rfl h1 (zaU (i := 4) sc__law_fits.nd rfl (by first | exact Or.inl rfl | exact Or.inr rfl)) h2))
      (zaj (zat zb4)))))
theorem zi9 : FnScope ["_law_tree_here", "_law_key"] ["_law_tree_here", "_law_key"] (defScope zc7) := ⟨rfl, rfl, rfl, by decide +kernel, rfl, by decide +kernel, by decide +kernel⟩
theorem zi3 {fa : Addr} {cdv : Value} {A : Around} {outer : List Env} {s : Shared} {H : Hp} {E : XK} {k : Nat} {ios : List Addr} (M : Nm mg) {zaR : List D -> Option Rt} {k__law_put : Nat} (C__law_put : Cal P w mg base "_law_put" k__law_put ["_law_tree_here", "_law_key"] (spP zaR)) (L__law_put : k__law_put <= k) (hr : Room k (A.deeper (PyProof.Rows.envOfC "_law_put" (defScope zc7) s.heap.objs.size fa cdv))) :
    VSs (zbB CX0 P w KC.K mg base ["_law_tree_here", "_law_key"] "_law_put" (defScope zc7) fa cdv A outer s H E).nox EN ios (defBody zc7) (zcE zaR) :=
  (zad (zbc (zaC zeb zdX (ZY (pv 0)) zaN (zaF _))
      (zaj (zat (zbl (ZS (ZY (pv 1)) (ZS zaN (ZS zaN zab))))))
      zaz)
      (zad (zbc (zaC zgD zeN (ZY (pv 1)) (zaT (ZY (pv 0)) zai) (zaF _))
      (zaj (zat (zbl (ZS (zaT (ZY (pv 0)) zai) (ZS (zaq C__law_put (hr.mono L__law_put) rfl (ZS (zaT (ZY (pv 0)) zai) (ZS (ZY (pv 1)) zab))) (ZS (zaT (ZY (pv 0)) zai) zab))))))
      zaz)
      (zaj (zat (zbl (ZS (zaT (ZY (pv 0)) zai) (ZS (zaT (ZY (pv 0)) zai) (ZS (zaq C__law_put (hr.mono L__law_put) rfl (ZS (zaT (ZY (pv 0)) zai) (ZS (ZY (pv 1)) zab))) zab))))))))
theorem sc__law_turned : FnScope ["_law_tree_here", "_law_top", "_law_own", "_law_found", "_law_key"] ["_law_tree_here", "_law_top"] (defScope zb7) := ⟨rfl, rfl, rfl, by decide +kernel, rfl, by decide +kernel, by decide +kernel⟩
theorem zgr {fa : Addr} {cdv : Value} {A : Around} {outer : List Env} {s : Shared} {H : Hp} {E : XK} {k : Nat} {ios : List Addr} (M : Nm mg) {zaf : List D -> Option Rt} {k__law_ahead : Nat} (C__law_ahead : Cal P w mg base "_law_ahead" k__law_ahead ["_law_tree_here"] (spP zaf)) (L__law_ahead : k__law_ahead <= k) {zaR : List D -> Option Rt} {k__law_put : Nat} (C__law_put : Cal P w mg base "_law_put" k__law_put ["_law_tree_here", "_law_key"] (spP zaR)) (L__law_put : k__law_put <= k) (hr : Room k (A.deeper (PyProof.Rows.envOfC "_law_turned" (defScope zb7) s.heap.objs.size fa cdv))) :
    VSs (zbB CX0 P w KC.K mg base ["_law_tree_here", "_law_top", "_law_own", "_law_found", "_law_key"] "_law_turned" (defScope zb7) fa cdv A outer s H E).nox EN ios (defBody zb7) (zc2 zaf zaR) :=
  (zad (zaD (i := 2) sc__law_turned.nd rfl (by first | exact Or.inl rfl | exact Or.inr rfl) (zaq C__law_ahead (hr.mono L__law_ahead) rfl (ZS (ZY (pv 1)) zab)))
      (zad (zaD (i := 3) sc__law_turned.nd rfl (by first | exact Or.inl rfl | exact Or.inr rfl) (ZY (pv 1)))
      (zad (zc5 (n := 5) (zdI (zaq C__law_ahead (hr.mono L__law_ahead) rfl (ZS (ZY (pv 0)) zab))) (zaG (by decide))
      (zaj (zbc (zaC zb0 zdY (ZY (pv 4)) (ZY (pv 2)) rfl)
      (zaj (zaD (i := 3) sc__law_turned.nd rfl (by first | exact Or.inl rfl | exact Or.inr rfl) (zaq C__law_put (hr.mono L__law_put) rfl (ZS (ZY (pv 3)) (ZS (ZY (pv 4)) zab)))))
      zaz)) (fun _ _ h1 h2 => zcX PassesOwn.never rfl h1 (zaU (i := 4) sc__law_turned.nd rfl (by first | exact Or.inl rfl | exact Or.inr rfl)) h2))
      (zaj (zat (ZY (pv 3)))))))
theorem sc__law_due : FnScope ["_law_asks", "_law_run_here", "_law_tree_here", "_law_moment", "_law_top"] ["_law_asks", "_law_run_here"] (defScope zco) := ⟨rfl, rfl, rfl, by decide +kernel, rfl, by decide +kernel, by decide +kernel⟩
theorem ziy {fa : Addr} {cdv : Value} {A : Around} {outer : List Env} {s : Shared} {H : Hp} {E : XK} {k : Nat} {ios : List Addr} (M : Nm mg) {zaf : List D -> Option Rt} {k__law_ahead : Nat} (C__law_ahead : Cal P w mg base "_law_ahead" k__law_ahead ["_law_tree_here"] (spP zaf)) (L__law_ahead : k__law_ahead <= k) {zbm : List D -> Option Rt} {k__law_fits : Nat} (C__law_fits : Cal P w mg base "_law_fits" k__law_fits ["_law_tree_here", "_law_top", "_law_key"] (spP zbm)) (L__law_fits : k__law_fits <= k) {zax : List D -> Option Rt} {k__law_turned : Nat} (C__law_turned : Cal P w mg base "_law_turned" k__law_turned ["_law_tree_here", "_law_top"] (spP zax)) (L__law_turned : k__law_turned <= k) (hr : Room k (A.deeper (PyProof.Rows.envOfC "_law_due" (defScope zco) s.heap.objs.size fa cdv))) :
    VSs (zbB CX0 P w KC.K mg base ["_law_asks", "_law_run_here", "_law_tree_here", "_law_moment", "_law_top"] "_law_due" (defScope zco) fa cdv A outer s H E).nox EN ios (defBody zco) (zef zaf zbm zax) :=
  (zad (zaD (i := 2) sc__law_due.nd rfl (by first | exact Or.inl rfl | exact Or.inr rfl) (zaT (ZY (pv 1)) zai))
      (zad (zbc (zaC (zbR hr) zbx (zbj (fun _ ha => zao za5 rfl M.b_len PySem.boot_len ha) za6 (ZS (zaT (ZY (pv 1)) zai) zab)) (zbj (fun _ ha => zao za5 rfl M.b_len PySem.boot_len ha) za6 (ZS (ZY (pv 0)) zab)) (zaF _))
      (zaj (zat (zas (ZS zaX (ZS zaN zab)))))
      zaz)
      (zad (zc5 (n := 5) (zjP (fun _ ha => zhX rfl M.b_enumerate ha) (ZS (zaT (ZY (pv 1)) zai) zab)) (zdd (zbe (zaG (by decide)) (zbe (zaG (by decide)) zdj)))
      (zad (zbc (zbI (zdh (zcG (zc0 (zd2 (T := .tuple) (fun _ ha => zao zav rfl M.b_isinstance (by decide +kernel) (zap ha (zap (zdf (v := .ty "tuple") (u := .type "tuple") rfl M.b_tuple (by decide +kernel) rfl) zbh))) (ZY (pv 4))))) (zcr (zaC zhs zdY zb4 (zoV rfl (zhY (Nc := ["_law_key"]) (own := 1) (fr := []) (sc := defScope zco) (N := ["_law_asks", "_law_run_here", "_law_tree_here", "_law_moment", "_law_top"]) rfl rfl (by decide +kernel)) (by decide) (zdI (zaq C__law_ahead (hr.mono L__law_ahead) rfl (ZS (ZY (pv 4)) zab))) (zfh (by decide)) (fun _ _ _ _ _ _ => (zaU (i := 0) (show (["_law_key"] : List Str).Nodup by decide +kernel) rfl (by first | exact Or.inl rfl | exact Or.inr rfl))) (zaG (by decide)) (zgh (by decide)) (fun _ _ _ _ _ _ => zke) (fun _ _ _ _ _ _ => (zd2 (T := .bool) (fun _ ha => zao zav rfl M.b_isinstance (by decide +kernel) (zap ha (zap (zdf (v := .ty "bool") (u := .type "bool") rfl M.b_bool (by decide +kernel) rfl) zbh))) (ZY (pv 0))))) rfl))))
      (zaj (zat (zas (ZS zaX (ZS (ZY (pv 3)) zab)))))
      zaz)
      (zad (zbc (zcG (zc0 (zaq C__law_fits (hr.mono L__law_fits) rfl (ZS (ZY (pv 2)) (ZS (ZY (pv 4)) (ZS (zaT (ZY (pv 0)) (ZY (pv 3))) zab))))))
      (zaj (zat (zas (ZS zaX (ZS (ZY (pv 3)) zab)))))
      zaz)
      (zaj (zaD (i := 2) sc__law_due.nd rfl (by first | exact Or.inl rfl | exact Or.inr rfl) (zaq C__law_turned (hr.mono L__law_turned) rfl (ZS (ZY (pv 2)) (ZS (ZY (pv 4)) zab))))))) (fun _ _ h1 h2 => zcX PassesOwn.never rfl h1 (zdS rfl (zbd (zaU (i := 3) sc__law_due.nd rfl (by first | exact Or.inl rfl | exact Or.inr rfl)) (zbd (zaU (i := 4) sc__law_due.nd rfl (by first | exact Or.inl rfl | exact Or.inr rfl)) zde))) h2))
      (zaj (zat (zas (ZS zaX (ZS zaN zab))))))))
theorem sc__law_kind : FnScope ["_law_error", "_law_kinds", "_law_words"] ["_law_error"] (defScope zcz) := ⟨rfl, rfl, rfl, by decide +kernel, rfl, by decide +kernel, by decide +kernel⟩
theorem zid {fa : Addr} {cdv : Value} {A : Around} {outer : List Env} {s : Shared} {H : Hp} {E : XK} {k : Nat} {ios : List Addr} (M : Nm mg)  (hr : Room k (A.deeper (PyProof.Rows.envOfC "_law_kind" (defScope zcz) s.heap.objs.size fa cdv))) :
    VSs (zbB CX0 P w KC.K mg base ["_law_error", "_law_kinds", "_law_words"] "_law_kind" (defScope zcz) fa cdv A outer s H E).nox EN ios (defBody zcz) (zcN ) :=
  (zad (zaD (i := 1) sc__law_kind.nd rfl (by first | exact Or.inl rfl | exact Or.inr rfl) (zas (ZS (zbD M.k_NoPoints (fun _ ha => zao zav rfl M.b_isinstance (by decide +kernel) (zap ha (zap (zbq (v := .ref (KC.cls .NoPoints)) rfl M.n_NoPoints rfl) zbh))) (ZY (pv 0))) (ZS (zbD M.k_NoBox (fun _ ha => zao zav rfl M.b_isinstance (by decide +kernel) (zap ha (zap (zbq (v := .ref (KC.cls .NoBox)) rfl M.n_NoBox rfl) zbh))) (ZY (pv 0))) (ZS (zbD M.k_NoAsks (fun _ ha => zao zav rfl M.b_isinstance (by decide +kernel) (zap ha (zap (zbq (v := .ref (KC.cls .NoAsks)) rfl M.n_NoAsks rfl) zbh))) (ZY (pv 0))) (ZS (zbD M.k_NoRun (fun _ ha => zao zav rfl M.b_isinstance (by decide +kernel) (zap ha (zap (zbq (v := .ref (KC.cls .NoRun)) rfl M.n_NoRun rfl) zbh))) (ZY (pv 0))) zab))))))
      (zad (zaD (i := 1) sc__law_kind.nd rfl (by first | exact Or.inl rfl | exact Or.inr rfl) (zaS op_add3 zaO (ZY (pv 1)) (zas (ZS (zbD M.k_NoText (fun _ ha => zao zav rfl M.b_isinstance (by decide +kernel) (zap ha (zap (zbq (v := .ref (KC.cls .NoText)) rfl M.n_NoText rfl) zbh))) (ZY (pv 0))) (ZS (zbD M.k_NoTurn (fun _ ha => zao zav rfl M.b_isinstance (by decide +kernel) (zap ha (zap (zbq (v := .ref (KC.cls .NoTurn)) rfl M.n_NoTurn rfl) zbh))) (ZY (pv 0))) (ZS (zbD M.k_NoTree (fun _ ha => zao zav rfl M.b_isinstance (by decide +kernel) (zap ha (zap (zbq (v := .ref (KC.cls .NoTree)) rfl M.n_NoTree rfl) zbh))) (ZY (pv 0))) zab))))))
      (zad (zaD (i := 1) sc__law_kind.nd rfl (by first | exact Or.inl rfl | exact Or.inr rfl) (zaS op_add3 zaO (ZY (pv 1)) (zas (ZS (zbD M.k_NoTop (fun _ ha => zao zav rfl M.b_isinstance (by decide +kernel) (zap ha (zap (zbq (v := .ref (KC.cls .NoTop)) rfl M.n_NoTop rfl) zbh))) (ZY (pv 0))) (ZS (zbD M.k_NotServed (fun _ ha => zao zav rfl M.b_isinstance (by decide +kernel) (zap ha (zap (zbq (v := .ref (KC.cls .NotServed)) rfl M.n_NotServed rfl) zbh))) (ZY (pv 0))) (ZS (zbD M.k_NoRow (fun _ ha => zao zav rfl M.b_isinstance (by decide +kernel) (zap ha (zap (zbq (v := .ref (KC.cls .NoRow)) rfl M.n_NoRow rfl) zbh))) (ZY (pv 0))) zab))))))
      (zad (zaD (i := 1) sc__law_kind.nd rfl (by first | exact Or.inl rfl | exact Or.inr rfl) (zaS op_add3 zaO (ZY (pv 1)) (zas (ZS (zbD M.k_NoPoint (fun _ ha => zao zav rfl M.b_isinstance (by decide +kernel) (zap ha (zap (zbq (v := .ref (KC.cls .NoPoint)) rfl M.n_NoPoint rfl) zbh))) (ZY (pv 0))) (ZS (zbD M.k_NoName (fun _ ha => zao zav rfl M.b_isinstance (by decide +kernel) (zap ha (zap (zbq (v := .ref (KC.cls .NoName)) rfl M.n_NoName rfl) zbh))) (ZY (pv 0))) (ZS (zbD M.k_NoKey (fun _ ha => zao zav rfl M.b_isinstance (by decide +kernel) (zap ha (zap (zbq (v := .ref (KC.cls .NoKey)) rfl M.n_NoKey rfl) zbh))) (ZY (pv 0))) zab))))))
      (zad (zaD (i := 1) sc__law_kind.nd rfl (by first | exact Or.inl rfl | exact Or.inr rfl) (zaS op_add3 zaO (ZY (pv 1)) (zas (ZS (zbD M.k_NoBack (fun _ ha => zao zav rfl M.b_isinstance (by decide +kernel) (zap ha (zap (zbq (v := .ref (KC.cls .NoBack)) rfl M.n_NoBack rfl) zbh))) (ZY (pv 0))) (ZS (zbD M.k_TooMany (fun _ ha => zao zav rfl M.b_isinstance (by decide +kernel) (zap ha (zap (zbq (v := .ref (KC.cls .TooMany)) rfl M.n_TooMany rfl) zbh))) (ZY (pv 0))) zab)))))
      (zad (zbc (zbI (zdh (zaC (zbR hr) zbx (zhO (fun _ ha => ziV PySem.F.plainAttrs_list PySem.F.slot_list_count PySem.F.type_list_count zme (pv 1) ha) zjU (ZS zb4 zab)) zai (zaF _)) (zcr (zaC (zbR hr) zbx (zbD M.k_PointError (fun _ ha => zao zav rfl M.b_isinstance (by decide +kernel) (zap ha (zap (zbq (v := .ref (KC.cls .PointError)) rfl M.n_PointError rfl) zbh))) (ZY (pv 0))) (zeK zgD zeN (zhO (fun _ ha => ziV PySem.F.plainAttrs_list PySem.F.slot_list_index PySem.F.type_list_index ziW (pv 1) ha) zgp (ZS zb4 zab)) zai (zaF _)) (zaF _)))))
      (zaj (zat zaX))
      zaz)
      (zad (zaD (i := 2) sc__law_kind.nd rfl (by first | exact Or.inl rfl | exact Or.inr rfl) (zas (ZS zaX (ZS zaX (ZS zaX (ZS zaX (ZS zaX (ZS zaX (ZS zaX (ZS zaX (ZS zaX (ZS zaX (ZS zaX (ZS zaX (ZS zaX zab)))))))))))))))
      (zaj (zat (zaT (zaS op_add3 zaO (ZY (pv 2)) (zas (ZS zaX (ZS zaX zab)))) (zhO (fun _ ha => ziV PySem.F.plainAttrs_list PySem.F.slot_list_index PySem.F.type_list_index ziW (pv 1) ha) zgp (ZS zb4 zab))))))))))))
theorem zld : FnScope ["thing"] ["thing"] (defScope zdU) := ⟨rfl, rfl, rfl, by decide +kernel, rfl, by decide +kernel, by decide +kernel⟩
theorem zlC {fa : Addr} {cdv : Value} {A : Around} {outer : List Env} {s : Shared} {H : Hp} {E : XK} {k : Nat} {ios : List Addr} (M : Nm mg)  (hr : Room k (A.deeper (PyProof.Rows.envOfC "is_key" (defScope zdU) s.heap.objs.size fa cdv))) :
    VSs (zbB CX0 P w KC.K mg base ["thing"] "is_key" (defScope zdU) fa cdv A outer s H E).nox EN ios (defBody zdU) (zes ) :=
  (zaj (zat (zdk (zd2 (T := .int) (fun _ ha => zao zav rfl M.b_isinstance (by decide +kernel) (zap ha (zap (zdf (v := .ty "int") (u := .type "int") rfl M.b_int (by decide +kernel) rfl) zbh))) (ZY (pv 0))) (zdk (zp0 (zd2 (T := .bool) (fun _ ha => zao zav rfl M.b_isinstance (by decide +kernel) (zap ha (zap (zdf (v := .ty "bool") (u := .type "bool") rfl M.b_bool (by decide +kernel) rfl) zbh))) (ZY (pv 0)))) (zin (ziE zkA zkA zhM zhM zai (ZY (pv 0)) (zio M.c_LAST_KEY rfl)))))))
theorem sc_is_between : FnScope ["thing", "low", "high", "key", "left", "right"] ["thing", "low", "high"] (defScope zck) := ⟨rfl, rfl, rfl, by decide +kernel, rfl, by decide +kernel, by decide +kernel⟩
theorem zg9 {fa : Addr} {cdv : Value} {A : Around} {outer : List Env} {s : Shared} {H : Hp} {E : XK} {k : Nat} {ios : List Addr} (M : Nm mg) {zan : List D -> Option Rt} {k_is_between : Nat} (C_is_between : Cal P w mg base "is_between" k_is_between ["thing", "low", "high"] (spP zan)) (L_is_between : k_is_between <= k) {za2 : List D -> Option Rt} {k_is_key : Nat} (C_is_key : Cal P w mg base "is_key" k_is_key ["thing"] (spP za2)) (L_is_key : k_is_key <= k) (hr : Room k (A.deeper (PyProof.Rows.envOfC "is_between" (defScope zck) s.heap.objs.size fa cdv))) :
    VSs (zbB CX0 P w KC.K mg base ["thing", "low", "high", "key", "left", "right"] "is_between" (defScope zck) fa cdv A outer s H E).nox EN ios (defBody zck) (zbr zan za2) :=
  (zad (zbc (zaC zeb zdX (ZY (pv 0)) zaN (zaF _))
      (zaj (zat zb4))
      zaz)
      (zad (zbc (zbI (zdh (zcG (zc0 (zd2 (T := .tuple) (fun _ ha => zao zav rfl M.b_isinstance (by decide +kernel) (zap ha (zap (zdf (v := .ty "tuple") (u := .type "tuple") rfl M.b_tuple (by decide +kernel) rfl) zbh))) (ZY (pv 0))))) (zcr (zaC (zbR hr) zbx (zbj (fun _ ha => zao za5 rfl M.b_len PySem.boot_len ha) za6 (ZS (ZY (pv 0)) zab)) zai (zaF _)))))
      (zaj (zat zb4))
      zaz)
      (zad (zeF (n := 6) (ZY (pv 0)) (zdd (zbe (zaG (by decide)) (zbe (zaG (by decide)) (zbe (zaG (by decide)) zdj)))) (fun _ h => zeR h (zdS rfl (zbd (zaU (i := 3) sc_is_between.nd rfl (by first | exact Or.inl rfl | exact Or.inr rfl)) (zbd (zaU (i := 4) sc_is_between.nd rfl (by first | exact Or.inl rfl | exact Or.inr rfl)) (zbd (zaU (i := 5) sc_is_between.nd rfl (by first | exact Or.inl rfl | exact Or.inr rfl)) zde))))))
      (zaj (zat (zdk (zaq C_is_key (hr.mono L_is_key) rfl (ZS (ZY (pv 3)) zab)) (zdk (ziE zgD zgD zeN zeN (ZY (pv 1)) (ZY (pv 3)) (ZY (pv 2))) (zdk (zaq C_is_between (hr.mono L_is_between) rfl (ZS (ZY (pv 4)) (ZS (ZY (pv 1)) (ZS (ZY (pv 3)) zab)))) (zin (zaq C_is_between (hr.mono L_is_between) rfl (ZS (ZY (pv 5)) (ZS (ZY (pv 3)) (ZS (ZY (pv 2)) zab)))))))))))))
theorem zjJ : FnScope ["thing"] ["thing"] (defScope zdn) := ⟨rfl, rfl, rfl, by decide +kernel, rfl, by decide +kernel, by decide +kernel⟩
theorem zjN {fa : Addr} {cdv : Value} {A : Around} {outer : List Env} {s : Shared} {H : Hp} {E : XK} {k : Nat} {ios : List Addr} (M : Nm mg) {zan : List D -> Option Rt} {k_is_between : Nat} (C_is_between : Cal P w mg base "is_between" k_is_between ["thing", "low", "high"] (spP zan)) (L_is_between : k_is_between <= k) (hr : Room k (A.deeper (PyProof.Rows.envOfC "is_tree" (defScope zdn) s.heap.objs.size fa cdv))) :
    VSs (zbB CX0 P w KC.K mg base ["thing"] "is_tree" (defScope zdn) fa cdv A outer s H E).nox EN ios (defBody zdn) (zdL zan) :=
  (zaj (zat (zaq C_is_between (hr.mono L_is_between) rfl (ZS (ZY (pv 0)) (ZS (zea zai) (ZS (zaS op_add3 zaO (zio M.c_LAST_KEY rfl) zai) zab))))))
theorem ziB : FnScope ["thing", "many"] ["thing", "many"] (defScope zcY) := ⟨rfl, rfl, rfl, by decide +kernel, rfl, by decide +kernel, by decide +kernel⟩
theorem zjg {fa : Addr} {cdv : Value} {A : Around} {outer : List Env} {s : Shared} {H : Hp} {E : XK} {k : Nat} {ios : List Addr} (M : Nm mg) {zaB : List D -> Option Rt} {k_is_tree : Nat} (C_is_tree : Cal P w mg base "is_tree" k_is_tree ["thing"] (spP zaB)) (L_is_tree : k_is_tree <= k) (hr : Room k (A.deeper (PyProof.Rows.envOfC "has_form" (defScope zcY) s.heap.objs.size fa cdv))) :
    VSs (zbB CX0 P w KC.K mg base ["thing", "many"] "has_form" (defScope zcY) fa cdv A outer s H E).nox EN ios (defBody zcY) (zbs zaB) :=
  (zaj (zat (zdk (zd2 (T := .tuple) (fun _ ha => zao zav rfl M.b_isinstance (by decide +kernel) (zap ha (zap (zdf (v := .ty "tuple") (u := .type "tuple") rfl M.b_tuple (by decide +kernel) rfl) zbh))) (ZY (pv 0))) (zdk (zeK (zcf hr) zbT (zbj (fun _ ha => zao za5 rfl M.b_len PySem.boot_len ha) za6 (ZS (ZY (pv 0)) zab)) zai (zaF _)) (zdk (zaq C_is_tree (hr.mono L_is_tree) rfl (ZS (zaT (ZY (pv 0)) zai) zab)) (zdk (zd2 (T := .list) (fun _ ha => zao zav rfl M.b_isinstance (by decide +kernel) (zap ha (zap (zdf (v := .ty "list") (u := .type "list") rfl M.b_list (by decide +kernel) rfl) zbh))) (zaT (ZY (pv 0)) zai)) (zin (zeK (zcf hr) zbT (zbj (fun _ ha => zao za5 rfl M.b_len PySem.boot_len ha) za6 (ZS (zaT (ZY (pv 0)) zai) zab)) (ZY (pv 1)) (zaF _)))))))))
theorem zf4 : FnScope ["thing"] ["thing"] (defScope zbW) := ⟨rfl, rfl, rfl, by decide +kernel, rfl, by decide +kernel, by decide +kernel⟩
theorem zf3 {fa : Addr} {cdv : Value} {A : Around} {outer : List Env} {s : Shared} {H : Hp} {E : XK} {k : Nat} {ios : List Addr} (M : Nm mg) {zaB : List D -> Option Rt} {k_is_tree : Nat} (C_is_tree : Cal P w mg base "is_tree" k_is_tree ["thing"] (spP zaB)) (L_is_tree : k_is_tree <= k) (hr : Room k (A.deeper (PyProof.Rows.envOfC "look_at_tree" (defScope zbW) s.heap.objs.size fa cdv))) (hk2 : 2 <= k) :
    VSs (zbB (CXe P w) P w KC.K mg base ["thing"] "look_at_tree" (defScope zbW) fa cdv A outer s H E) (fun _ => E) ios (defBody zbW) (zcH zaB) :=
  (zaj (zbc (zcG (zc0 (zaq C_is_tree (hr.mono L_is_tree) rfl (ZS (ZY (pv 0)) zab))))
      (zaj (zhl zcn M.m_NoTree M.z_NoTree M.n_NoTree (ZS zaX zab)))
      zaz))
theorem zfC : FnScope ["tree", "keys"] ["tree", "keys"] (defScope zbM) := ⟨rfl, rfl, rfl, by decide +kernel, rfl, by decide +kernel, by decide +kernel⟩
theorem zfq {fa : Addr} {cdv : Value} {A : Around} {outer : List Env} {s : Shared} {H : Hp} {E : XK} {k : Nat} {ios : List Addr} (M : Nm mg) {zal : List D -> Option Rt} {k_parts_beneath : Nat} (C_parts_beneath : Cal P w mg base "parts_beneath" k_parts_beneath ["tree", "keys"] (spP zal)) (L_parts_beneath : k_parts_beneath <= k) (hr : Room k (A.deeper (PyProof.Rows.envOfC "parts_beneath" (defScope zbM) s.heap.objs.size fa cdv))) :
    VSs (zbB CX0 P w KC.K mg base ["tree", "keys"] "parts_beneath" (defScope zbM) fa cdv A outer s H E).nox EN ios (defBody zbM) (zbG zal) :=
  (zad (zbc (zbI (zdh (zaC zeb zdX (ZY (pv 0)) zaN (zaF _)) (zcr (zaC zb0 zdY (zaT (ZY (pv 0)) zai) (ZY (pv 1)) rfl))))
      (zaj (zat (zas (ZS (ZY (pv 0)) zab))))
      zaz)
      (zaj (zat (zaS op_add3 zaO (zaq C_parts_beneath (hr.mono L_parts_beneath) rfl (ZS (zaT (ZY (pv 0)) zai) (ZS (ZY (pv 1)) zab))) (zaq C_parts_beneath (hr.mono L_parts_beneath) rfl (ZS (zaT (ZY (pv 0)) zai) (ZS (ZY (pv 1)) zab)))))))
theorem sc_rising : FnScope ["tree", "key", "left", "right"] ["tree"] (defScope zdQ) := ⟨rfl, rfl, rfl, by decide +kernel, rfl, by decide +kernel, by decide +kernel⟩
theorem zlO {fa : Addr} {cdv : Value} {A : Around} {outer : List Env} {s : Shared} {H : Hp} {E : XK} {k : Nat} {ios : List Addr} (M : Nm mg) {zaw : List D -> Option Rt} {k_rising : Nat} (C_rising : Cal P w mg base "rising" k_rising ["tree"] (spP zaw)) (L_rising : k_rising <= k) (hr : Room k (A.deeper (PyProof.Rows.envOfC "rising" (defScope zdQ) s.heap.objs.size fa cdv))) :
    VSs (zbB CX0 P w KC.K mg base ["tree", "key", "left", "right"] "rising" (defScope zdQ) fa cdv A outer s H E).nox EN ios (defBody zdQ) (zeu zaw) :=
  (zad (zbc (zaC zeb zdX (ZY (pv 0)) zaN (zaF _))
      (zaj (zat (zas zab)))
      zaz)
      (zad (zeF (n := 4) (ZY (pv 0)) (zdd (zbe (zaG (by decide)) (zbe (zaG (by decide)) (zbe (zaG (by decide)) zdj)))) (fun _ h => zeR h (zdS rfl (zbd (zaU (i := 1) sc_rising.nd rfl (by first | exact Or.inl rfl | exact Or.inr rfl)) (zbd (zaU (i := 2) sc_rising.nd rfl (by first | exact Or.inl rfl | exact Or.inr rfl)) (zbd (zaU (i := 3) sc_rising.nd rfl (by first | exact Or.inl rfl | exact Or.inr rfl)) zde))))))
      (zaj (zat (zaS op_add3 zaO (zaS op_add3 zaO (zaq C_rising (hr.mono L_rising) rfl (ZS (ZY (pv 2)) zab)) (zas (ZS (ZY (pv 1)) zab))) (zaq C_rising (hr.mono L_rising) rfl (ZS (ZY (pv 3)) zab)))))))
theorem sc_is_top : FnScope ["tree", "thing", "keys"] ["tree", "thing"] (defScope zd9) := ⟨rfl, rfl, rfl, by decide +kernel, rfl, by decide +kernel, by decide +kernel⟩
theorem zlM {fa : Addr} {cdv : Value} {A : Around} {outer : List Env} {s : Shared} {H : Hp} {E : XK} {k : Nat} {ios : List Addr} (M : Nm mg) {zaB : List D -> Option Rt} {k_is_tree : Nat} (C_is_tree : Cal P w mg base "is_tree" k_is_tree ["thing"] (spP zaB)) (L_is_tree : k_is_tree <= k) {zaE : List D -> Option Rx} {k_look_at_tree : Nat} (C_look_at_tree : zex P w mg base "look_at_tree" k_look_at_tree ["thing"] (spX zaE)) (L_look_at_tree : k_look_at_tree <= k) {zal : List D -> Option Rt} {k_parts_beneath : Nat} (C_parts_beneath : Cal P w mg base "parts_beneath" k_parts_beneath ["tree", "keys"] (spP zal)) (L_parts_beneath : k_parts_beneath <= k) {zaw : List D -> Option Rt} {k_rising : Nat} (C_rising : Cal P w mg base "rising" k_rising ["tree"] (spP zaw)) (L_rising : k_rising <= k) (hr : Room k (A.deeper (PyProof.Rows.envOfC "is_top" (defScope zd9) s.heap.objs.size fa cdv))) (hk2 : 2 <= k) :
    VSs (zbB (CXe P w) P w KC.K mg base ["tree", "thing", "keys"] "is_top" (defScope zd9) fa cdv A outer s H E) (fun _ => E) ios (defBody zd9) (zcs zaB zaE zal zaw) :=
  (zad (zfd (zcv zcn C_look_at_tree (hr.mono L_look_at_tree) rfl (ZS (ZY (pv 0)) zab)))
      (zad (zbc (zbI (zdh (zaC zeb zdX (ZY (pv 1)) zaN (zaF _)) (zcr (zcG (zc0 (zaq C_is_tree (hr.mono L_is_tree) rfl (ZS (ZY (pv 1)) zab)))))))
      (zaj (zat zb4))
      zaz)
      (zad (zaD (i := 2) sc_is_top.nd rfl (by first | exact Or.inl rfl | exact Or.inr rfl) (zaq C_rising (hr.mono L_rising) rfl (ZS (ZY (pv 1)) zab)))
      (zaj (zat (zeK (zcf hr) zbT (zbj (fun _ ha => zao za5 rfl M.b_len PySem.boot_len ha) za6 (ZS (zaq C_parts_beneath (hr.mono L_parts_beneath) rfl (ZS (ZY (pv 0)) (ZS (ZY (pv 2)) zab))) zab)) (zaS op_add3 zaO (zbj (fun _ ha => zao za5 rfl M.b_len PySem.boot_len ha) za6 (ZS (ZY (pv 2)) zab)) zai) (zaF _)))))))
theorem zjR : FnScope ["tree"] ["tree"] (defScope zdo) := ⟨rfl, rfl, rfl, by decide +kernel, rfl, by decide +kernel, by decide +kernel⟩
theorem zjS {fa : Addr} {cdv : Value} {A : Around} {outer : List Env} {s : Shared} {H : Hp} {E : XK} {k : Nat} {ios : List Addr} (M : Nm mg) {zaE : List D -> Option Rx} {k_look_at_tree : Nat} (C_look_at_tree : zex P w mg base "look_at_tree" k_look_at_tree ["thing"] (spX zaE)) (L_look_at_tree : k_look_at_tree <= k) {zaw : List D -> Option Rt} {k_rising : Nat} (C_rising : Cal P w mg base "rising" k_rising ["tree"] (spP zaw)) (L_rising : k_rising <= k) (hr : Room k (A.deeper (PyProof.Rows.envOfC "keys_of" (defScope zdo) s.heap.objs.size fa cdv))) (hk2 : 2 <= k) :
    VSs (zbB (CXe P w) P w KC.K mg base ["tree"] "keys_of" (defScope zdo) fa cdv A outer s H E) (fun _ => E) ios (defBody zdo) (zeG zaE zaw) :=
  (zad (zfd (zcv zcn C_look_at_tree (hr.mono L_look_at_tree) rfl (ZS (ZY (pv 0)) zab)))
      (zaj (zat (zaq C_rising (hr.mono L_rising) rfl (ZS (ZY (pv 0)) zab)))))
theorem sc_look_at_asks : FnScope ["thing", "number", "key"] ["thing"] (defScope zbU) := ⟨rfl, rfl, rfl, by decide +kernel, rfl, by decide +kernel, by decide +kernel⟩
theorem zf2 {fa : Addr} {cdv : Value} {A : Around} {outer : List Env} {s : Shared} {H : Hp} {E : XK} {k : Nat} {ios : List Addr} (M : Nm mg) {za2 : List D -> Option Rt} {k_is_key : Nat} (C_is_key : Cal P w mg base "is_key" k_is_key ["thing"] (spP za2)) (L_is_key : k_is_key <= k) (hr : Room k (A.deeper (PyProof.Rows.envOfC "look_at_asks" (defScope zbU) s.heap.objs.size fa cdv))) (hk2 : 2 <= k) :
    VSs (zbB (CXe P w) P w KC.K mg base ["thing", "number", "key"] "look_at_asks" (defScope zbU) fa cdv A outer s H E) (fun _ => E) ios (defBody zbU) (zbO za2) :=
  (zad (zbc (zbI (zdh (zcG (zc0 (zd2 (T := .list) (fun _ ha => zao zav rfl M.b_isinstance (by decide +kernel) (zap ha (zap (zdf (v := .ty "list") (u := .type "list") rfl M.b_list (by decide +kernel) rfl) zbh))) (ZY (pv 0))))) (zcr (zcG (zl4 zkA zkA zhM zhM zai (zbj (fun _ ha => zao za5 rfl M.b_len PySem.boot_len ha) za6 (ZS (ZY (pv 0)) zab)) (zio M.c_MOST_ASKS rfl))))))
      (zaj (zem zcn (M.i_NoAsks _ _ _) hr (by omega) M.n_NoAsks (ZS zaN zab)))
      zaz)
      (zaj (zc5 (n := 3) (zjP (fun _ ha => zhX rfl M.b_enumerate ha) (ZS (ZY (pv 0)) zab)) (zdd (zbe (zaG (by decide)) (zbe (zaG (by decide)) zdj)))
      (zaj (zbc (zcG (zc0 (zaq C_is_key (hr.mono L_is_key) rfl (ZS (ZY (pv 2)) zab))))
      (zaj (zem zcn (M.i_NoAsks _ _ _) hr (by omega) M.n_NoAsks (ZS (ZY (pv 1)) zab)))
      zaz)) (fun _ _ h1 h2 => zcX PassesOwn.leaving rfl h1 (zdS rfl (zbd (zaU (i := 1) sc_look_at_asks.nd rfl (by first | exact Or.inl rfl | exact Or.inr rfl)) (zbd (zaU (i := 2) sc_look_at_asks.nd rfl (by first | exact Or.inl rfl | exact Or.inr rfl)) zde))) h2))))
theorem sc_hung : FnScope ["top", "parts", "key", "left", "right", "places"] ["top", "parts"] (defScope zgK) := ⟨rfl, rfl, rfl, by decide +kernel, rfl, by decide +kernel, by decide +kernel⟩
theorem zoh {fa : Addr} {cdv : Value} {A : Around} {outer : List Env} {s : Shared} {H : Hp} {E : XK} {k : Nat} {ios : List Addr} (M : Nm mg) {zbQ : List D -> Option Rt} {k_hung : Nat} (C_hung : Cal P w mg base "hung" k_hung ["top", "parts"] (spP zbQ)) (L_hung : k_hung <= k) {zaw : List D -> Option Rt} {k_rising : Nat} (C_rising : Cal P w mg base "rising" k_rising ["tree"] (spP zaw)) (L_rising : k_rising <= k) (hr : Room k (A.deeper (PyProof.Rows.envOfC "hung" (defScope zgK) s.heap.objs.size fa cdv))) :
    VSs (zbB CX0 P w KC.K mg base ["top", "parts", "key", "left", "right", "places"] "hung" (defScope zgK) fa cdv A outer s H E).nox EN ios (defBody zgK) (zgg zbQ zaw) :=
  (zad (zbc (zaC zeb zdX (ZY (pv 0)) zaN (zaF _))
      (zaj (zat (zaT (ZY (pv 1)) zai)))
      zaz)
      (zad (zeF (n := 6) (ZY (pv 0)) (zdd (zbe (zaG (by decide)) (zbe (zaG (by decide)) (zbe (zaG (by decide)) zdj)))) (fun _ h => zeR h (zdS rfl (zbd (zaU (i := 2) sc_hung.nd rfl (by first | exact Or.inl rfl | exact Or.inr rfl)) (zbd (zaU (i := 3) sc_hung.nd rfl (by first | exact Or.inl rfl | exact Or.inr rfl)) (zbd (zaU (i := 4) sc_hung.nd rfl (by first | exact Or.inl rfl | exact Or.inr rfl)) zde))))))
      (zad (zaD (i := 5) sc_hung.nd rfl (by first | exact Or.inl rfl | exact Or.inr rfl) (zaS op_add3 zaO (zbj (fun _ ha => zao za5 rfl M.b_len PySem.boot_len ha) za6 (ZS (zaq C_rising (hr.mono L_rising) rfl (ZS (ZY (pv 3)) zab)) zab)) zai))
      (zaj (zat (zbl (ZS (ZY (pv 2)) (ZS (zaq C_hung (hr.mono L_hung) rfl (ZS (ZY (pv 3)) (ZS (zdl (ZY (pv 1)) zbJ (zcg (ZY (pv 5)))) zab))) (ZS (zaq C_hung (hr.mono L_hung) rfl (ZS (ZY (pv 4)) (ZS (zdl (ZY (pv 1)) (zcg (ZY (pv 5))) zbJ) zab))) zab)))))))))
theorem zlv : FnScope ["tree", "top"] ["tree", "top"] (defScope zdT) := ⟨rfl, rfl, rfl, by decide +kernel, rfl, by decide +kernel, by decide +kernel⟩
theorem zlz {fa : Addr} {cdv : Value} {A : Around} {outer : List Env} {s : Shared} {H : Hp} {E : XK} {k : Nat} {ios : List Addr} (M : Nm mg) {zbQ : List D -> Option Rt} {k_hung : Nat} (C_hung : Cal P w mg base "hung" k_hung ["top", "parts"] (spP zbQ)) (L_hung : k_hung <= k) {zaZ : List D -> Option Rx} {k_is_top : Nat} (C_is_top : zex P w mg base "is_top" k_is_top ["tree", "thing"] (spX zaZ)) (L_is_top : k_is_top <= k) {zal : List D -> Option Rt} {k_parts_beneath : Nat} (C_parts_beneath : Cal P w mg base "parts_beneath" k_parts_beneath ["tree", "keys"] (spP zal)) (L_parts_beneath : k_parts_beneath <= k) {zaw : List D -> Option Rt} {k_rising : Nat} (C_rising : Cal P w mg base "rising" k_rising ["tree"] (spP zaw)) (L_rising : k_rising <= k) (hr : Room k (A.deeper (PyProof.Rows.envOfC "turned" (defScope zdT) s.heap.objs.size fa cdv))) (hk2 : 2 <= k) :
    VSs (zbB (CXe P w) P w KC.K mg base ["tree", "top"] "turned" (defScope zdT) fa cdv A outer s H E) (fun _ => E) ios (defBody zdT) (zfo zbQ zaZ zal zaw) :=
  (zad (zbc (zcG (zc0 (zcv zcn C_is_top (hr.mono L_is_top) rfl (ZS (ZY (pv 0)) (ZS (ZY (pv 1)) zab)))))
      (zaj (zhl zcn M.m_NoTop M.z_NoTop M.n_NoTop (ZS zaX zab)))
      zaz)
      (zaj (zat (zaq C_hung (hr.mono L_hung) rfl (ZS (ZY (pv 1)) (ZS (zaq C_parts_beneath (hr.mono L_parts_beneath) rfl (ZS (ZY (pv 0)) (ZS (zaq C_rising (hr.mono L_rising) rfl (ZS (ZY (pv 1)) zab)) zab))) zab))))))
theorem sc_look_at_run : FnScope ["asks", "thing", "tree", "tops", "moment", "top"] ["asks", "thing"] (defScope zb5) := ⟨rfl, rfl, rfl, by decide +kernel, rfl, by decide +kernel, by decide +kernel⟩
theorem zgG {fa : Addr} {cdv : Value} {A : Around} {outer : List Env} {s : Shared} {H : Hp} {E : XK} {k : Nat} {ios : List Addr} (M : Nm mg) {zau : List D -> Option Rt} {k_has_form : Nat} (C_has_form : Cal P w mg base "has_form" k_has_form ["thing", "many"] (spP zau)) (L_has_form : k_has_form <= k) {zaZ : List D -> Option Rx} {k_is_top : Nat} (C_is_top : zex P w mg base "is_top" k_is_top ["tree", "thing"] (spX zaZ)) (L_is_top : k_is_top <= k) {zbF : List D -> Option Rx} {k_keys_of : Nat} (C_keys_of : zex P w mg base "keys_of" k_keys_of ["tree"] (spX zbF)) (L_keys_of : k_keys_of <= k) {zaA : List D -> Option Rx} {k_look_at_asks : Nat} (C_look_at_asks : zex P w mg base "look_at_asks" k_look_at_asks ["thing"] (spX zaA)) (L_look_at_asks : k_look_at_asks <= k) {zbV : List D -> Option Rx} {k_turned : Nat} (C_turned : zex P w mg base "turned" k_turned ["tree", "top"] (spX zbV)) (L_turned : k_turned <= k) (hr : Room k (A.deeper (PyProof.Rows.envOfC "look_at_run" (defScope zb5) s.heap.objs.size fa cdv))) (hk2 : 2 <= k) :
    VSs (zbB (CXe P w) P w KC.K mg base ["asks", "thing", "tree", "tops", "moment", "top"] "look_at_run" (defScope zb5) fa cdv A outer s H E) (fun _ => E) ios (defBody zb5) (zcW zau zaZ zbF zaA zbV) :=
  (zad (zfd (zcv zcn C_look_at_asks (hr.mono L_look_at_asks) rfl (ZS (ZY (pv 0)) zab)))
      (zad (zbc (zcG (zc0 (zaq C_has_form (hr.mono L_has_form) rfl (ZS (ZY (pv 1)) (ZS (zbj (fun _ ha => zao za5 rfl M.b_len PySem.boot_len ha) za6 (ZS (ZY (pv 0)) zab)) zab)))))
      (zaj (zem zcn (M.i_NoRun _ _ _) hr (by omega) M.n_NoRun (ZS zaN zab)))
      zaz)
      (zad (zeF (n := 6) (ZY (pv 1)) (zdd (zbe (zaG (by decide)) (zbe (zaG (by decide)) zdj))) (fun _ h => zeR h (zdS rfl (zbd (zaU (i := 2) sc_look_at_run.nd rfl (by first | exact Or.inl rfl | exact Or.inr rfl)) (zbd (zaU (i := 3) sc_look_at_run.nd rfl (by first | exact Or.inl rfl | exact Or.inr rfl)) zde)))))
      (zaj (zc5 (n := 6) (zjP (fun _ ha => zhX rfl M.b_enumerate ha) (ZS (ZY (pv 3)) zab)) (zdd (zbe (zaG (by decide)) (zbe (zaG (by decide)) zdj)))
      (zad (zbc (zbI (zdh (zcG (zc0 (zcv zcn C_is_top (hr.mono L_is_top) rfl (ZS (ZY (pv 2)) (ZS (ZY (pv 5)) zab))))) (zcr (zaC zb0 zdY (zaT (ZY (pv 0)) (ZY (pv 4))) (zcv zcn C_keys_of (hr.mono L_keys_of) rfl (ZS (ZY (pv 5)) zab)) rfl))))
      (zaj (zem zcn (M.i_NoRun _ _ _) hr (by omega) M.n_NoRun (ZS (ZY (pv 4)) zab)))
      zaz)
      (zaj (zaD (i := 2) sc_look_at_run.nd rfl (by first | exact Or.inl rfl | exact Or.inr rfl) (zcv zcn C_turned (hr.mono L_turned) rfl (ZS (ZY (pv 2)) (ZS (ZY (pv 5)) zab)))))) (fun _ _ h1 h2 => zcX PassesOwn.leaving rfl h1 (zdS rfl (zbd (zaU (i := 4) sc_look_at_run.nd rfl (by first | exact Or.inl rfl | exact Or.inr rfl)) (zbd (zaU (i := 5) sc_look_at_run.nd rfl (by first | exact Or.inl rfl | exact Or.inr rfl)) zde))) h2))))))
theorem sc__law_told : FnScope ["_law_asks", "_law_thing", "_law_caught", "_law_found", "e", "_law_word"] ["_law_asks", "_law_thing"] (defScope zcA) := ⟨rfl, rfl, rfl, by decide +kernel, rfl, by decide +kernel, by decide +kernel⟩
theorem zii {fa : Addr} {cdv : Value} {A : Around} {outer : List Env} {s : Shared} {H : Hp} {E : XK} {k : Nat} {ios : List Addr} (M : Nm mg) {zbn : List D -> Option Rt} {k__law_kind : Nat} (C__law_kind : Cal P w mg base "_law_kind" k__law_kind ["_law_error"] (spP zbn)) (L__law_kind : k__law_kind <= k) {zaH : List D -> Option Rx} {k_look_at_run : Nat} (C_look_at_run : zex P w mg base "look_at_run" k_look_at_run ["asks", "thing"] (spX zaH)) (L_look_at_run : k_look_at_run <= k) (hr : Room k (A.deeper (PyProof.Rows.envOfC "_law_told" (defScope zcA) s.heap.objs.size fa cdv))) :
    VSs (zbB CX0 P w KC.K mg base ["_law_asks", "_law_thing", "_law_caught", "_law_found", "e", "_law_word"] "_law_told" (defScope zcA) fa cdv A outer s H E).nox EN ios (defBody zcA) (zcl zbn zaH) :=
  (zad (zaD (i := 2) sc__law_told.nd rfl (by first | exact Or.inl rfl | exact Or.inr rfl) zaN)
      (zad (zaD (i := 3) sc__law_told.nd rfl (by first | exact Or.inl rfl | exact Or.inr rfl) zaN)
      (zad (zqz (i := 4) sc__law_told.nd rfl rfl (zh4 rfl M.n_PointError (zh4 rfl M.n_NoPoint (zh4 rfl M.n_TooMany zpq))) (by simp) M.t_PointError_NoPoint_TooMany (fun E0 pn0 EE0 ok =>
      (zaj (zaD (i := 3) sc__law_told.nd rfl (by first | exact Or.inl rfl | exact Or.inr rfl) (zcv ok C_look_at_run (hr.mono L_look_at_run) rfl (ZS (ZY (pv 0)) (ZS (ZY (pv 1)) zab)))))) (fun a0 =>
      (zaj (zaD (i := 2) sc__law_told.nd rfl (by first | exact Or.inl rfl | exact Or.inr rfl) (ZY (pv 4))))))
      (zad (zbc (zaC zeb zdX (ZY (pv 2)) zaN (zaF _))
      (zaj (zat (zas (ZS zaX (ZS (ZY (pv 3)) zab)))))
      zaz)
      (zad (zaD (i := 5) sc__law_told.nd rfl (by first | exact Or.inl rfl | exact Or.inr rfl) (zaq C__law_kind (hr.mono L__law_kind) rfl (ZS (ZY (pv 2)) zab)))
      (zaj (zat (zas (ZS (ZY (pv 5)) (ZS (zqy (zaC (zcf hr) zbT (ZY (pv 5)) zaX (zaF _)) (zoQ M.a_moment (ZY (pv 2)) rfl) zaN) zab))))))))))
theorem sc__law_long_right : FnScope ["_law_tree_here", "_law_key", "_law_asks", "_law_few"] [] (defScope zbz) := ⟨rfl, rfl, rfl, by decide +kernel, rfl, by decide +kernel, by decide +kernel⟩
theorem zeI {fa : Addr} {cdv : Value} {A : Around} {outer : List Env} {s : Shared} {H : Hp} {E : XK} {k : Nat} {ios : List Addr} (M : Nm mg) {zag : List D -> Option Rt} {k__law_told : Nat} (C__law_told : Cal P w mg base "_law_told" k__law_told ["_law_asks", "_law_thing"] (spP zag)) (L__law_told : k__law_told <= k) (hr : Room k (A.deeper (PyProof.Rows.envOfC "_law_long_right" (defScope zbz) s.heap.objs.size fa cdv))) :
    VSs (zbB CX0 P w KC.K mg base ["_law_tree_here", "_law_key", "_law_asks", "_law_few"] "_law_long_right" (defScope zbz) fa cdv A outer s H E).nox EN ios (defBody zbz) (zbK zag) :=
  (zad (zaD (i := 0) sc__law_long_right.nd rfl (by first | exact Or.inl rfl | exact Or.inr rfl) zaN)
      (zad (zc5 (n := 4) (zox (fun _ ha => zk0 rfl M.b_range ha) (ZS zai (ZS (zea zai) (ZS (zea zai) zab)))) (zaG (by decide))
      (zaj (zaD (i := 0) sc__law_long_right.nd rfl (by first | exact Or.inl rfl | exact Or.inr rfl) (zbl (ZS (ZY (pv 1)) (ZS zaN (ZS (ZY (pv 0)) zab)))))) (fun _ _ h1 h2 => zcX PassesOwn.never rfl h1 (zaU (i := 1) sc__law_long_right.nd rfl (by first | exact Or.inl rfl | exact Or.inr rfl)) h2))
      (zad (zaD (i := 2) sc__law_long_right.nd rfl (by first | exact Or.inl rfl | exact Or.inr rfl) (zkG M.b_list rfl M.b_range rfl rfl (ZS zai zab)))
      (zad (zbc (zaC (zbR hr) zbx (zaq C__law_told (hr.mono L__law_told) rfl (ZS (ZY (pv 2)) (ZS (zbl (ZS (ZY (pv 0)) (ZS (zaS zgB ze1 (zas (ZS (ZY (pv 0)) zab)) zai) zab))) zab))) (zas (ZS zaX (ZS zaN zab))) (zaF _))
      (zaj (zat zb4))
      zaz)
      (zad (zbc (zaC (zbR hr) zbx (zaq C__law_told (hr.mono L__law_told) rfl (ZS (ZY (pv 2)) (ZS (zbl (ZS (ZY (pv 0)) (ZS (zaS op_add3 zaO (zaS zgB ze1 (zas (ZS (ZY (pv 0)) zab)) zai) (zas (ZS (zbl (ZS zai (ZS zaN (ZS zaN zab)))) zab))) zab))) zab))) (zas (ZS zaX (ZS zai zab))) (zaF _))
      (zaj (zat zb4))
      zaz)
      (zad (zaD (i := 3) sc__law_long_right.nd rfl (by first | exact Or.inl rfl | exact Or.inr rfl) (zaS zgB ze1 (zas (ZS (zbl (ZS zai (ZS zaN (ZS zaN zab)))) zab)) zai))
      (zaj (zat (zdk (zeK (zcf hr) zbT (zaq C__law_told (hr.mono L__law_told) rfl (ZS (zaS zgB ze1 (zas (ZS zai zab)) zai) (ZS (zbl (ZS (ZY (pv 0)) (ZS (ZY (pv 3)) zab))) zab))) (zas (ZS zaX (ZS zaN zab))) (zaF _)) (zin (zeK (zcf hr) zbT (zaq C__law_told (hr.mono L__law_told) rfl (ZS (ZY (pv 2)) (ZS (zbl (ZS (ZY (pv 0)) (ZS (ZY (pv 3)) zab))) zab))) (zas (ZS zaX (ZS zai zab))) (zaF _))))))))))))
theorem zf8 : FnScope ["_law_script", "_law_k"] ["_law_script", "_law_k"] (defScope zbX) := ⟨rfl, rfl, rfl, by decide +kernel, rfl, by decide +kernel, by decide +kernel⟩
theorem zf0 {fa : Addr} {cdv : Value} {A : Around} {outer : List Env} {s : Shared} {H : Hp} {E : XK} {k : Nat} {ios : List Addr} (M : Nm mg)  (hr : Room k (A.deeper (PyProof.Rows.envOfC "_law_cell_at" (defScope zbX) s.heap.objs.size fa cdv))) :
    VSs (zbB CX0 P w KC.K mg base ["_law_script", "_law_k"] "_law_cell_at" (defScope zbX) fa cdv A outer s H E).nox EN ios (defBody zbX) (zb8 ) :=
  (zad (zbc (zaC zgD zeN (ZY (pv 1)) (zbj (fun _ ha => zao za5 rfl M.b_len PySem.boot_len ha) za6 (ZS (ZY (pv 0)) zab)) (zaF _))
      (zaj (zat (zaT (ZY (pv 0)) (ZY (pv 1)))))
      zaz)
      (zaj (zat zai)))
theorem sc__law_pool : FnScope ["_law_script", "_law_k", "_law_cell", "_law_seed"] ["_law_script", "_law_k"] (defScope zcB) := ⟨rfl, rfl, rfl, by decide +kernel, rfl, by decide +kernel, by decide +kernel⟩
theorem zh9 {fa : Addr} {cdv : Value} {A : Around} {outer : List Env} {s : Shared} {H : Hp} {E : XK} {k : Nat} {ios : List Addr} (M : Nm mg) {za9 : List D -> Option Rt} {k__law_cell_at : Nat} (C__law_cell_at : Cal P w mg base "_law_cell_at" k__law_cell_at ["_law_script", "_law_k"] (spP za9)) (L__law_cell_at : k__law_cell_at <= k) (hr : Room k (A.deeper (PyProof.Rows.envOfC "_law_pool" (defScope zcB) s.heap.objs.size fa cdv))) :
    VSs (zbB CX0 P w KC.K mg base ["_law_script", "_law_k", "_law_cell", "_law_seed"] "_law_pool" (defScope zcB) fa cdv A outer s H E).nox EN ios (defBody zcB) (zcP za9) :=
  (zad (zaD (i := 2) sc__law_pool.nd rfl (by first | exact Or.inl rfl | exact Or.inr rfl) (zaq C__law_cell_at (hr.mono L__law_cell_at) rfl (ZS (ZY (pv 0)) (ZS (ZY (pv 1)) zab))))
      (zad (zaD (i := 3) sc__law_pool.nd rfl (by first | exact Or.inl rfl | exact Or.inr rfl) (zaS zeO zdM (zaS zeP zdD (zaS op_add3 zaO (zaS op_add3 zaO (zaS op_add3 zaO (zaS zeO zdM (ZY (pv 2)) zai) (zaS zeP zdD (zaS zeP zdD zai (ZY (pv 1))) (ZY (pv 1)))) (zaS zeP zdD zai (ZY (pv 1)))) zai) zai) zai))
      (zad (zbc (zaC zgD zeN (ZY (pv 2)) (zaS zqs zot zai zai) (zaF _))
      (zaj (zaD (i := 2) sc__law_pool.nd rfl (by first | exact Or.inl rfl | exact Or.inr rfl) zai))
      zaz)
      (zaj (zat (zas (ZS (ZY (pv 2)) (ZS (zaS zeO zdM (zaS zeP zdD (ZY (pv 3)) (ZY (pv 3))) zai) zab))))))))
theorem sc__law_run : FnScope ["_law_pool_here", "_law_keys", "_law_asks", "_law_first", "_law_tree_here", "_law_tops", "_law_key", "_law_own", "_law_turn", "_law_more"] ["_law_pool_here", "_law_keys", "_law_asks"] (defScope zcm) := ⟨rfl, rfl, rfl, by decide +kernel, rfl, by decide +kernel, by decide +kernel⟩
theorem ziM {fa : Addr} {cdv : Value} {A : Around} {outer : List Env} {s : Shared} {H : Hp} {E : XK} {k : Nat} {ios : List Addr} (M : Nm mg) {zae : GI} {k__law_take : Nat} (C__law_take : Cal P w mg base "_law_take" k__law_take ["_law_pool_here", "_law_many"] (spI zae)) (L__law_take : k__law_take <= k) {zam : GI} {k__law_tree : Nat} (C__law_tree : Cal P w mg base "_law_tree" k__law_tree ["_law_pool_here", "_law_keys"] (spI zam)) (L__law_tree : k__law_tree <= k) {zax : List D -> Option Rt} {k__law_turned : Nat} (C__law_turned : Cal P w mg base "_law_turned" k__law_turned ["_law_tree_here", "_law_top"] (spP zax)) (L__law_turned : k__law_turned <= k) {zaK : List D -> Option Rt} {k__law_way : Nat} (C__law_way : Cal P w mg base "_law_way" k__law_way ["_law_tree_here", "_law_key"] (spP zaK)) (L__law_way : k__law_way <= k) (hr : Room k (A.deeper (PyProof.Rows.envOfC "_law_run" (defScope zcm) s.heap.objs.size fa cdv))) :
    VSs (zbB CX0 P w KC.K mg base ["_law_pool_here", "_law_keys", "_law_asks", "_law_first", "_law_tree_here", "_law_tops", "_law_key", "_law_own", "_law_turn", "_law_more"] "_law_run" (defScope zcm) fa cdv A outer s H E).nox EN ios (defBody zcm) (zdV zae zam zax zaK) :=
  (zad (zaD (i := 3) sc__law_run.nd rfl (by first | exact Or.inl rfl | exact Or.inr rfl) (zaY C__law_tree (hr.mono L__law_tree) rfl (ZS (ZY (pv 0)) (ZS (ZY (pv 1)) zab))))
      (zad (zaD (i := 4) sc__law_run.nd rfl (by first | exact Or.inl rfl | exact Or.inr rfl) (ZY (pv 3)))
      (zad (zaD (i := 5) sc__law_run.nd rfl (by first | exact Or.inl rfl | exact Or.inr rfl) (zas zab))
      (zad (zc5 (n := 10) (zdI (ZY (pv 2))) (zaG (by decide))
      (zad (zaD (i := 7) sc__law_run.nd rfl (by first | exact Or.inl rfl | exact Or.inr rfl) (zaq C__law_way (hr.mono L__law_way) rfl (ZS (ZY (pv 4)) (ZS (ZY (pv 6)) zab))))
      (zad (zc5 (n := 10) (zgi (fun _ ha => zet rfl M.b_range ha) (ZS (zaY C__law_take (hr.mono L__law_take) rfl (ZS (ZY (pv 0)) (ZS zai zab))) zab)) (zaG (by decide))
      (zad (zji (i := 9) sc__law_run.nd rfl (by first | exact Or.inl rfl | exact Or.inr rfl) rfl (zhY (Nc := ["_law_one", "_law_own", "_law_tree_here"]) (own := 1) (fr := [7, 4]) (sc := defScope zcm) (N := ["_law_pool_here", "_law_keys", "_law_asks", "_law_first", "_law_tree_here", "_law_tops", "_law_key", "_law_own", "_law_turn", "_law_more"]) rfl rfl (by decide +kernel)) (by decide) (zdI (ZY (pv 1))) (zfh (by decide)) (fun _ _ _ _ _ _ => (zaU (i := 0) (show (["_law_one", "_law_own", "_law_tree_here"] : List Str).Nodup by decide +kernel) rfl (by first | exact Or.inl rfl | exact Or.inr rfl))) (zaG (by decide)) (zgh (by decide)) (fun _ _ _ _ _ _ => zkz (zbI (znA (zaC zb0 zdY (ZY (pv 0)) (ZY (pv 1)) rfl) (zka (zaC zhs zdY (zaT (zaq C__law_way (hr.mono L__law_way) rfl (ZS (ZY (pv 2)) (ZS (ZY (pv 0)) zab))) (zea zai)) (ZY (pv 1)) rfl))))) (fun _ _ _ _ _ _ => (ZY (pv 0))))
      (zaj (zbc (zaC (zbR hr) zbx (ZY (pv 9)) (zas zab) (zaF _))
      (zaj (zaD (i := 7) sc__law_run.nd rfl (by first | exact Or.inl rfl | exact Or.inr rfl) (zaS op_add3 zaO (ZY (pv 7)) (zas (ZS (zaT (ZY (pv 9)) (zaY C__law_take (hr.mono L__law_take) rfl (ZS (ZY (pv 0)) (ZS (zbj (fun _ ha => zao za5 rfl M.b_len PySem.boot_len ha) za6 (ZS (ZY (pv 9)) zab)) zab)))) zab)))))
      zaz))) (fun _ _ h1 h2 => zcX PassesOwn.never rfl h1 (zaU (i := 8) sc__law_run.nd rfl (by first | exact Or.inl rfl | exact Or.inr rfl)) h2))
      (zad (zfd (znF (fun _ ha => ziV PySem.F.plainAttrs_list PySem.F.slot_list_append PySem.F.type_list_append zfx (pv 5) ha) zfV (ZS (zaY C__law_tree (hr.mono L__law_tree) rfl (ZS (ZY (pv 0)) (ZS (zbj (fun _ ha => zao zfH rfl M.b_sorted (by decide +kernel) ha) zhI (ZS (ZY (pv 7)) zab)) zab))) zab)))
      (zaj (zaD (i := 4) sc__law_run.nd rfl (by first | exact Or.inl rfl | exact Or.inr rfl) (zaq C__law_turned (hr.mono L__law_turned) rfl (ZS (ZY (pv 4)) (ZS (zaT (ZY (pv 5)) (zea zai)) zab)))))))) (fun _ _ h1 h2 => zcX PassesOwn.never rfl h1 (zaU (i := 6) sc__law_run.nd rfl (by first | exact Or.inl rfl | exact Or.inr rfl)) h2))
      (zaj (zat (zbl (ZS (ZY (pv 3)) (ZS (ZY (pv 5)) zab)))))))))
theorem sc_law : FnScope ["_law_script", "_law_k", "_law_pool_here", "_law_keys", "_law_asks", "_law_run_here", "_law_turn", "_law_bent_here", "_law_others", "_law_word", "_law_thing"] ["_law_script"] (defScope zfP) := ⟨rfl, rfl, rfl, by decide +kernel, rfl, by decide +kernel, by decide +kernel⟩
theorem zmz {fa : Addr} {cdv : Value} {A : Around} {outer : List Env} {s : Shared} {H : Hp} {E : XK} {k : Nat} {ios : List Addr} (M : Nm mg) {zbf : GI} {k__law_bent : Nat} (C__law_bent : Cal P w mg base "_law_bent" k__law_bent ["_law_pool_here", "_law_run_here", "_law_keys"] (spI zbf)) (L__law_bent : k__law_bent <= k) {zbv : List D -> Option Rt} {k__law_due : Nat} (C__law_due : Cal P w mg base "_law_due" k__law_due ["_law_asks", "_law_run_here"] (spP zbv)) (L__law_due : k__law_due <= k) {zaI : List D -> Option Rt} {k__law_long_right : Nat} (C__law_long_right : Cal P w mg base "_law_long_right" k__law_long_right [] (spP zaI)) (L__law_long_right : k__law_long_right <= k) {zbg : List D -> Option Rt} {k__law_pool : Nat} (C__law_pool : Cal P w mg base "_law_pool" k__law_pool ["_law_script", "_law_k"] (spP zbg)) (L__law_pool : k__law_pool <= k) {zbt : GI} {k__law_run : Nat} (C__law_run : Cal P w mg base "_law_run" k__law_run ["_law_pool_here", "_law_keys", "_law_asks"] (spI zbt)) (L__law_run : k__law_run <= k) {zae : GI} {k__law_take : Nat} (C__law_take : Cal P w mg base "_law_take" k__law_take ["_law_pool_here", "_law_many"] (spI zae)) (L__law_take : k__law_take <= k) {zag : List D -> Option Rt} {k__law_told : Nat} (C__law_told : Cal P w mg base "_law_told" k__law_told ["_law_asks", "_law_thing"] (spP zag)) (L__law_told : k__law_told <= k) (hr : Room k (A.deeper (PyProof.Rows.envOfC "law" (defScope zfP) s.heap.objs.size fa cdv))) :
    VSs (zbB CX0 P w KC.K mg base ["_law_script", "_law_k", "_law_pool_here", "_law_keys", "_law_asks", "_law_run_here", "_law_turn", "_law_bent_here", "_law_others", "_law_word", "_law_thing"] "law" (defScope zfP) fa cdv A outer s H E).nox EN ios (defBody zfP) (zjT zbf zbv zaI zbg zbt zae zag) :=
  (zad (zbc (zcG (zc0 (zmM C__law_long_right (hr.mono L__law_long_right) rfl)))
      (zaj (zat zb4))
      zaz)
      (zad (zc5 (n := 11) (zgi (fun _ ha => zet rfl M.b_range ha) (ZS (zbj (fun _ ha => zao (zli rfl) rfl M.b_max (by decide +kernel) ha) zjt (ZS zai (ZS (zbj (fun _ ha => zao (zkZ rfl) rfl M.b_min (by decide +kernel) ha) zjv (ZS zai (ZS (zbj (fun _ ha => zao za5 rfl M.b_len PySem.boot_len ha) za6 (ZS (ZY (pv 0)) zab)) zab))) zab))) zab)) (zaG (by decide))
      (zad (zaD (i := 2) sc_law.nd rfl (by first | exact Or.inl rfl | exact Or.inr rfl) (zaq C__law_pool (hr.mono L__law_pool) rfl (ZS (ZY (pv 0)) (ZS (ZY (pv 1)) zab))))
      (zad (zaD (i := 3) sc_law.nd rfl (by first | exact Or.inl rfl | exact Or.inr rfl) (zkG M.b_list rfl M.b_range rfl rfl (ZS (zaY C__law_take (hr.mono L__law_take) rfl (ZS (ZY (pv 2)) (ZS zai zab))) (ZS (zaS op_add3 zaO zai (zaY C__law_take (hr.mono L__law_take) rfl (ZS (ZY (pv 2)) (ZS zai zab)))) zab))))
      (zad (zji (i := 4) sc_law.nd rfl (by first | exact Or.inl rfl | exact Or.inr rfl) rfl (zhY (Nc := ["_law_turn", "_law_keys", "_law_pool_here"]) (own := 1) (fr := [3, 2]) (sc := defScope zfP) (N := ["_law_script", "_law_k", "_law_pool_here", "_law_keys", "_law_asks", "_law_run_here", "_law_turn", "_law_bent_here", "_law_others", "_law_word", "_law_thing"]) rfl rfl (by decide +kernel)) (by decide) (zgi (fun _ ha => zet rfl M.b_range ha) (ZS (zaS op_add3 zaO zai (zaY C__law_take (hr.mono L__law_take) rfl (ZS (ZY (pv 2)) (ZS zai zab)))) zab)) (zfh (by decide)) (fun _ _ _ _ _ _ => (zaU (i := 0) (show (["_law_turn", "_law_keys", "_law_pool_here"] : List Str).Nodup by decide +kernel) rfl (by first | exact Or.inl rfl | exact Or.inr rfl))) (zaG (by decide)) (zgh (by decide)) (fun _ _ _ _ _ _ => zke) (fun _ _ _ _ _ _ => (zaT (ZY (pv 1)) (zaY C__law_take (hr.mono L__law_take) rfl (ZS (ZY (pv 2)) (ZS (zbj (fun _ ha => zao za5 rfl M.b_len PySem.boot_len ha) za6 (ZS (ZY (pv 1)) zab)) zab))))))
      (zad (zaD (i := 5) sc_law.nd rfl (by first | exact Or.inl rfl | exact Or.inr rfl) (zaY C__law_run (hr.mono L__law_run) rfl (ZS (ZY (pv 2)) (ZS (ZY (pv 3)) (ZS (ZY (pv 4)) zab)))))
      (zad (zbc (zaC (zbR hr) zbx (zaq C__law_told (hr.mono L__law_told) rfl (ZS (ZY (pv 4)) (ZS (ZY (pv 5)) zab))) (zas (ZS zaX (ZS zaN zab))) (zaF _))
      (zaj (zat zb4))
      zaz)
      (zad (zc5 (n := 11) (zgi (fun _ ha => zet rfl M.b_range ha) (ZS zai zab)) (zaG (by decide))
      (zad (zaD (i := 7) sc_law.nd rfl (by first | exact Or.inl rfl | exact Or.inr rfl) (zaY C__law_bent (hr.mono L__law_bent) rfl (ZS (ZY (pv 2)) (ZS (ZY (pv 5)) (ZS (ZY (pv 3)) zab)))))
      (zad (zaD (i := 8) sc_law.nd rfl (by first | exact Or.inl rfl | exact Or.inr rfl) (zaT (zas (ZS (ZY (pv 4)) (ZS (ZY (pv 4)) (ZS (zkS (ZY (pv 4)) zbJ zbJ zki) (ZS (zaS op_add3 zaO (ZY (pv 4)) (zas (ZS (zaT (ZY (pv 3)) zai) zab))) (ZS (zaS zgB ze1 (zas (ZS (zaT (ZY (pv 3)) zai) zab)) (zbj (fun _ ha => zao za5 rfl M.b_len PySem.boot_len ha) za6 (ZS (ZY (pv 4)) zab))) zab)))))) (zaY C__law_take (hr.mono L__law_take) rfl (ZS (ZY (pv 2)) (ZS zai zab)))))
      (zad (zaD (i := 9) sc_law.nd rfl (by first | exact Or.inl rfl | exact Or.inr rfl) (zbj (fun _ ha => zao (zez hr) rfl M.b_repr (by decide +kernel) ha) zgP (ZS (zas (ZS (ZY (pv 7)) (ZS (ZY (pv 8)) zab))) zab)))
      (zaj (zbc (zbI (zdh (zaC (zbR hr) zbx (zaq C__law_told (hr.mono L__law_told) rfl (ZS (ZY (pv 8)) (ZS (ZY (pv 7)) zab))) (zaq C__law_due (hr.mono L__law_due) rfl (ZS (ZY (pv 8)) (ZS (ZY (pv 7)) zab))) (zaF _)) (zcr (zaC (zbR hr) zbx (zbj (fun _ ha => zao (zez hr) rfl M.b_repr (by decide +kernel) ha) zgP (ZS (zas (ZS (ZY (pv 7)) (ZS (ZY (pv 8)) zab))) zab)) (ZY (pv 9)) (zaF _)))))
      (zaj (zat zb4))
      zaz))))) (fun _ _ h1 h2 => zcX PassesOwn.never rfl h1 (zaU (i := 6) sc_law.nd rfl (by first | exact Or.inl rfl | exact Or.inr rfl)) h2))
      (zad (zc5 (n := 11) (zdI (zas (ZS zaN (ZS zai (ZS (zas zab) (ZS (zbl zab) (ZS (znT (ZY (pv 5)) zbJ (zcg zai)) (ZS (zaS zoq znG (ZY (pv 5)) (zbl (ZS zaN zab))) (ZS (zbj (fun _ ha => zcT ze9 rfl M.b_list (by decide +kernel) ha) zgE (ZS (ZY (pv 5)) zab)) (ZS (zbl (ZS zai (ZS (zaT (ZY (pv 5)) zai) zab))) (ZS (zbl (ZS (zaT (ZY (pv 5)) zai) (ZS (zbj (fun _ ha => zcT zg6 rfl M.b_tuple (by decide +kernel) ha) zja (ZS (zaT (ZY (pv 5)) zai) zab)) zab))) (ZS zaX zab)))))))))))) (zaG (by decide))
      (zaj (zbc (zbI (zdh (zaC (zbR hr) zbx (zaq C__law_told (hr.mono L__law_told) rfl (ZS (ZY (pv 4)) (ZS (ZY (pv 10)) zab))) (zas (ZS zaX (ZS zaN zab))) (zaF _)) (zcr (zaC (zbR hr) zbx (zaq C__law_told (hr.mono L__law_told) rfl (ZS (zaS op_add3 zaO (ZY (pv 4)) (zas (ZS zai zab))) (ZS (ZY (pv 10)) zab))) (zas (ZS zaX (ZS zaN zab))) (zaF _)))))
      (zaj (zat zb4))
      zaz)) (fun _ _ h1 h2 => zcX PassesOwn.never rfl h1 (zaU (i := 10) sc_law.nd rfl (by first | exact Or.inl rfl | exact Or.inr rfl)) h2))
      (zad (zbc (zaC (zbR hr) zbx (zaq C__law_told (hr.mono L__law_told) rfl (ZS (ZY (pv 4)) (ZS (zbl (ZS zaN (ZS (zaT (ZY (pv 5)) zai) zab))) zab))) (zas (ZS zaX (ZS zai zab))) (zaF _))
      (zaj (zat zb4))
      zaz)
      (zaj (zbc (zbI (zdh (zaC (zbR hr) zbx (zaq C__law_told (hr.mono L__law_told) rfl (ZS (zas zab) (ZS (ZY (pv 5)) zab))) (zas (ZS zaX (ZS zaN zab))) (zaF _)) (zcr (zaC (zbR hr) zbx (zaq C__law_told (hr.mono L__law_told) rfl (ZS (zas (ZS zb4 zab)) (ZS (ZY (pv 5)) zab))) (zas (ZS zaX (ZS zaN zab))) (zaF _)))))
      (zaj (zat zb4))
      zaz)))))))))) (fun _ _ h1 h2 => zcX PassesOwn.never rfl h1 (zaU (i := 1) sc_law.nd rfl (by first | exact Or.inl rfl | exact Or.inr rfl)) h2))
      (zaj (zat zb4))))
end
end K20
end
section
namespace K20
open PySem L2 Ex Dv
section
variable [KC] {P : Program} {w : World} {mg : Str -> Option Value} {base : Heap}
structure Ats (mg : Str -> Option Value) : Prop where
  a__law_take : At mg "_law_take" zcx
  a__law_tree : At mg "_law_tree" zcC
  a__law_bent : At mg "_law_bent" zcD
  a__law_ahead : At mg "_law_ahead" zci
  a__law_way : At mg "_law_way" zc9
  a__law_fits : At mg "_law_fits" zcd
  a__law_put : At mg "_law_put" zc7
  a__law_turned : At mg "_law_turned" zb7
  a__law_due : At mg "_law_due" zco
  a__law_kind : At mg "_law_kind" zcz
  a_is_key : At mg "is_key" zdU
  a_is_between : At mg "is_between" zck
  a_is_tree : At mg "is_tree" zdn
  a_has_form : At mg "has_form" zcY
  a_look_at_tree : At mg "look_at_tree" zbW
  a_parts_beneath : At mg "parts_beneath" zbM
  a_rising : At mg "rising" zdQ
  a_is_top : At mg "is_top" zd9
  a_keys_of : At mg "keys_of" zdo
  a_look_at_asks : At mg "look_at_asks" zbU
  a_hung : At mg "hung" zgK
  a_turned : At mg "turned" zdT
  a_look_at_run : At mg "look_at_run" zb5
  a__law_told : At mg "_law_told" zcA
  a__law_long_right : At mg "_law_long_right" zbz
  a__law_cell_at : At mg "_law_cell_at" zbX
  a__law_pool : At mg "_law_pool" zcB
  a__law_run : At mg "_law_run" zcm
  a_law : At mg "law" zfP
theorem zb6 (T : Ats mg) (M : Nm mg) : Cal P w mg base "_law_take" 1 ["_law_pool_here", "_law_many"] (spI zae) :=
  zhD (k := 0) T.a__law_take sc__law_take (fun _ _ _ _ _ _ us hl => match us, hl with | [_, _], _ => rfl) (fun _ _ _ _ _ _ _ _ hr => zhP M  hr) (fun _ _ _ h => zgl h)
theorem zeB (T : Ats mg) (M : Nm mg) : Cal P w mg base "_law_tree" 49 ["_law_pool_here", "_law_keys"] (spI (zam 48)) := by
  have go : ∀ n, Cal P w mg base "_law_tree" (1 + n) ["_law_pool_here", "_law_keys"] (spI (zam n)) := by
    intro n
    induction n with
    | zero => exact zk2 T.a__law_tree (fun _ _ _ _ _ _ us hl => match us, hl with | [_, _], _ => rfl)
    | succ n ih => exact zhD (k := 1 + n) T.a__law_tree sc__law_tree (fun _ _ _ _ _ _ us hl => match us, hl with | [_, _], _ => rfl) (fun _ _ _ _ _ _ _ _ hr => zib M (zb6 T M) (by omega) ih (by omega) hr) (fun _ _ _ h => zgl h)
  exact go 48
theorem zeA (T : Ats mg) (M : Nm mg) : Cal P w mg base "_law_bent" 50 ["_law_pool_here", "_law_run_here", "_law_keys"] (spI zbf) :=
  zhD (k := 49) T.a__law_bent sc__law_bent (fun _ _ _ _ _ _ us hl => match us, hl with | [_, _, _], _ => rfl) (fun _ _ _ _ _ _ _ _ hr => zh6 M (zb6 T M) (by omega) (zeB T M) (by omega) hr) (fun _ _ _ h => zgl h)
theorem zc4 (T : Ats mg) (M : Nm mg) : Cal P w mg base "_law_ahead" 48 ["_law_tree_here"] (spP (zaf 48)) := by
  have go : ∀ n, Cal P w mg base "_law_ahead" (0 + n) ["_law_tree_here"] (spP (zaf n)) := by
    intro n
    induction n with
    | zero => exact zdp T.a__law_ahead (fun _ _ _ _ _ _ us hl => match us, hl with | [_], _ => rfl)
    | succ n ih => exact zbH (k := 0 + n) T.a__law_ahead zg3 (fun _ _ _ _ _ _ us hl => match us, hl with | [_], _ => rfl) (fun _ _ _ _ _ _ _ hr => zhb M ih (by omega) hr) (fun _ _ h => zbo h)
  exact go 48
theorem zeT (T : Ats mg) (M : Nm mg) : Cal P w mg base "_law_way" 1 ["_law_tree_here", "_law_key"] (spP zaK) :=
  zbH (k := 0) T.a__law_way sc__law_way (fun _ _ _ _ _ _ us hl => match us, hl with | [_, _], _ => rfl) (fun _ _ _ _ _ _ _ hr => zi5 M  hr) (fun _ _ h => zbo h)
theorem zg1 (T : Ats mg) (M : Nm mg) : Cal P w mg base "_law_fits" 49 ["_law_tree_here", "_law_top", "_law_key"] (spP zbm) :=
  zbH (k := 48) T.a__law_fits sc__law_fits (fun _ _ _ _ _ _ us hl => match us, hl with | [_, _, _], _ => rfl) (fun _ _ _ _ _ _ _ hr => zhK M (zc4 T M) (by omega) (zeT T M) (by omega) hr) (fun _ _ h => zbo h)
theorem zim (T : Ats mg) (M : Nm mg) : Cal P w mg base "_law_put" 48 ["_law_tree_here", "_law_key"] (spP (zaR 48)) := by
  have go : ∀ n, Cal P w mg base "_law_put" (0 + n) ["_law_tree_here", "_law_key"] (spP (zaR n)) := by
    intro n
    induction n with
    | zero => exact zdp T.a__law_put (fun _ _ _ _ _ _ us hl => match us, hl with | [_, _], _ => rfl)
    | succ n ih => exact zbH (k := 0 + n) T.a__law_put zi9 (fun _ _ _ _ _ _ us hl => match us, hl with | [_, _], _ => rfl) (fun _ _ _ _ _ _ _ hr => zi3 M ih (by omega) hr) (fun _ _ h => zbo h)
  exact go 48
theorem zdN (T : Ats mg) (M : Nm mg) : Cal P w mg base "_law_turned" 49 ["_law_tree_here", "_law_top"] (spP zax) :=
  zbH (k := 48) T.a__law_turned sc__law_turned (fun _ _ _ _ _ _ us hl => match us, hl with | [_, _], _ => rfl) (fun _ _ _ _ _ _ _ hr => zgr M (zc4 T M) (by omega) (zim T M) (by omega) hr) (fun _ _ h => zbo h)
theorem zeY (T : Ats mg) (M : Nm mg) : Cal P w mg base "_law_due" 50 ["_law_asks", "_law_run_here"] (spP zbv) :=
  zbH (k := 49) T.a__law_due sc__law_due (fun _ _ _ _ _ _ us hl => match us, hl with | [_, _], _ => rfl) (fun _ _ _ _ _ _ _ hr => ziy M (zc4 T M) (by omega) (zg1 T M) (by omega) (zdN T M) (by omega) hr) (fun _ _ h => zbo h)
theorem zha (T : Ats mg) (M : Nm mg) : Cal P w mg base "_law_kind" 1 ["_law_error"] (spP zbn) :=
  zbH (k := 0) T.a__law_kind sc__law_kind (fun _ _ _ _ _ _ us hl => match us, hl with | [_], _ => rfl) (fun _ _ _ _ _ _ _ hr => zid M  hr) (fun _ _ h => zbo h)
theorem zgz (T : Ats mg) (M : Nm mg) : Cal P w mg base "is_key" 1 ["thing"] (spP za2) :=
  zbH (k := 0) T.a_is_key zld (fun _ _ _ _ _ _ us hl => match us, hl with | [_], _ => rfl) (fun _ _ _ _ _ _ _ hr => zlC M  hr) (fun _ _ h => zbo h)
theorem zgI (T : Ats mg) (M : Nm mg) : Cal P w mg base "is_between" 49 ["thing", "low", "high"] (spP (zan 48)) := by
  have go : ∀ n, Cal P w mg base "is_between" (1 + n) ["thing", "low", "high"] (spP (zan n)) := by
    intro n
    induction n with
    | zero => exact zdp T.a_is_between (fun _ _ _ _ _ _ us hl => match us, hl with | [_, _, _], _ => rfl)
    | succ n ih => exact zbH (k := 1 + n) T.a_is_between sc_is_between (fun _ _ _ _ _ _ us hl => match us, hl with | [_, _, _], _ => rfl) (fun _ _ _ _ _ _ _ hr => zg9 M ih (by omega) (zgz T M) (by omega) hr) (fun _ _ h => zbo h)
  exact go 48
theorem zd0 (T : Ats mg) (M : Nm mg) : Cal P w mg base "is_tree" 50 ["thing"] (spP zaB) :=
  zbH (k := 49) T.a_is_tree zjJ (fun _ _ _ _ _ _ us hl => match us, hl with | [_], _ => rfl) (fun _ _ _ _ _ _ _ hr => zjN M (zgI T M) (by omega) hr) (fun _ _ h => zbo h)
theorem zhF (T : Ats mg) (M : Nm mg) : Cal P w mg base "has_form" 51 ["thing", "many"] (spP zau) :=
  zbH (k := 50) T.a_has_form ziB (fun _ _ _ _ _ _ us hl => match us, hl with | [_, _], _ => rfl) (fun _ _ _ _ _ _ _ hr => zjg M (zd0 T M) (by omega) hr) (fun _ _ h => zbo h)
theorem zdt (T : Ats mg) (M : Nm mg) : zex P w mg base "look_at_tree" 51 ["thing"] (spX zaE) :=
  zei (k := 50) T.a_look_at_tree zf4 (fun _ _ _ _ _ _ us hl => match us, hl with | [_], _ => rfl) (fun _ _ _ _ _ _ _ hr => zf3 M (zd0 T M) (by omega) hr (by omega)) (fun _ _ h => zeo h)
theorem zdc (T : Ats mg) (M : Nm mg) : Cal P w mg base "parts_beneath" 48 ["tree", "keys"] (spP (zal 48)) := by
  have go : ∀ n, Cal P w mg base "parts_beneath" (0 + n) ["tree", "keys"] (spP (zal n)) := by
    intro n
    induction n with
    | zero => exact zdp T.a_parts_beneath (fun _ _ _ _ _ _ us hl => match us, hl with | [_, _], _ => rfl)
    | succ n ih => exact zbH (k := 0 + n) T.a_parts_beneath zfC (fun _ _ _ _ _ _ us hl => match us, hl with | [_, _], _ => rfl) (fun _ _ _ _ _ _ _ hr => zfq M ih (by omega) hr) (fun _ _ h => zbo h)
  exact go 48
theorem zdx (T : Ats mg) (M : Nm mg) : Cal P w mg base "rising" 48 ["tree"] (spP (zaw 48)) := by
  have go : ∀ n, Cal P w mg base "rising" (0 + n) ["tree"] (spP (zaw n)) := by
    intro n
    induction n with
    | zero => exact zdp T.a_rising (fun _ _ _ _ _ _ us hl => match us, hl with | [_], _ => rfl)
    | succ n ih => exact zbH (k := 0 + n) T.a_rising sc_rising (fun _ _ _ _ _ _ us hl => match us, hl with | [_], _ => rfl) (fun _ _ _ _ _ _ _ hr => zlO M ih (by omega) hr) (fun _ _ h => zbo h)
  exact go 48
theorem zgw (T : Ats mg) (M : Nm mg) : zex P w mg base "is_top" 52 ["tree", "thing"] (spX zaZ) :=
  zei (k := 51) T.a_is_top sc_is_top (fun _ _ _ _ _ _ us hl => match us, hl with | [_, _], _ => rfl) (fun _ _ _ _ _ _ _ hr => zlM M (zd0 T M) (by omega) (zdt T M) (by omega) (zdc T M) (by omega) (zdx T M) (by omega) hr (by omega)) (fun _ _ h => zeo h)
theorem zi6 (T : Ats mg) (M : Nm mg) : zex P w mg base "keys_of" 52 ["tree"] (spX zbF) :=
  zei (k := 51) T.a_keys_of zjR (fun _ _ _ _ _ _ us hl => match us, hl with | [_], _ => rfl) (fun _ _ _ _ _ _ _ hr => zjS M (zdt T M) (by omega) (zdx T M) (by omega) hr (by omega)) (fun _ _ h => zeo h)
theorem zfN (T : Ats mg) (M : Nm mg) : zex P w mg base "look_at_asks" 3 ["thing"] (spX zaA) :=
  zei (k := 2) T.a_look_at_asks sc_look_at_asks (fun _ _ _ _ _ _ us hl => match us, hl with | [_], _ => rfl) (fun _ _ _ _ _ _ _ hr => zf2 M (zgz T M) (by omega) hr (by omega)) (fun _ _ h => zeo h)
theorem zmb (T : Ats mg) (M : Nm mg) : Cal P w mg base "hung" 96 ["top", "parts"] (spP (zbQ 48)) := by
  have go : ∀ n, Cal P w mg base "hung" (48 + n) ["top", "parts"] (spP (zbQ n)) := by
    intro n
    induction n with
    | zero => exact zdp T.a_hung (fun _ _ _ _ _ _ us hl => match us, hl with | [_, _], _ => rfl)
    | succ n ih => exact zbH (k := 48 + n) T.a_hung sc_hung (fun _ _ _ _ _ _ us hl => match us, hl with | [_, _], _ => rfl) (fun _ _ _ _ _ _ _ hr => zoh M ih (by omega) (zdx T M) (by omega) hr) (fun _ _ h => zbo h)
  exact go 48
theorem zjz (T : Ats mg) (M : Nm mg) : zex P w mg base "turned" 97 ["tree", "top"] (spX zbV) :=
  zei (k := 96) T.a_turned zlv (fun _ _ _ _ _ _ us hl => match us, hl with | [_, _], _ => rfl) (fun _ _ _ _ _ _ _ hr => zlz M (zmb T M) (by omega) (zgw T M) (by omega) (zdc T M) (by omega) (zdx T M) (by omega) hr (by omega)) (fun _ _ h => zeo h)
theorem zf5 (T : Ats mg) (M : Nm mg) : zex P w mg base "look_at_run" 98 ["asks", "thing"] (spX zaH) :=
  zei (k := 97) T.a_look_at_run sc_look_at_run (fun _ _ _ _ _ _ us hl => match us, hl with | [_, _], _ => rfl) (fun _ _ _ _ _ _ _ hr => zgG M (zhF T M) (by omega) (zgw T M) (by omega) (zi6 T M) (by omega) (zfN T M) (by omega) (zjz T M) (by omega) hr (by omega)) (fun _ _ h => zeo h)
theorem zdm (T : Ats mg) (M : Nm mg) : Cal P w mg base "_law_told" 99 ["_law_asks", "_law_thing"] (spP zag) :=
  zbH (k := 98) T.a__law_told sc__law_told (fun _ _ _ _ _ _ us hl => match us, hl with | [_, _], _ => rfl) (fun _ _ _ _ _ _ _ hr => zii M (zha T M) (by omega) (zf5 T M) (by omega) hr) (fun _ _ h => zbo h)
theorem zcL (T : Ats mg) (M : Nm mg) : Cal P w mg base "_law_long_right" 100 [] (spP zaI) :=
  zbH (k := 99) T.a__law_long_right sc__law_long_right (fun _ _ _ _ _ _ us hl => match us, hl with | [], _ => rfl) (fun _ _ _ _ _ _ _ hr => zeI M (zdm T M) (by omega) hr) (fun _ _ h => zbo h)
theorem zfp (T : Ats mg) (M : Nm mg) : Cal P w mg base "_law_cell_at" 1 ["_law_script", "_law_k"] (spP za9) :=
  zbH (k := 0) T.a__law_cell_at zf8 (fun _ _ _ _ _ _ us hl => match us, hl with | [_, _], _ => rfl) (fun _ _ _ _ _ _ _ hr => zf0 M  hr) (fun _ _ h => zbo h)
theorem zeE (T : Ats mg) (M : Nm mg) : Cal P w mg base "_law_pool" 2 ["_law_script", "_law_k"] (spP zbg) :=
  zbH (k := 1) T.a__law_pool sc__law_pool (fun _ _ _ _ _ _ us hl => match us, hl with | [_, _], _ => rfl) (fun _ _ _ _ _ _ _ hr => zh9 M (zfp T M) (by omega) hr) (fun _ _ h => zbo h)
theorem zfi (T : Ats mg) (M : Nm mg) : Cal P w mg base "_law_run" 50 ["_law_pool_here", "_law_keys", "_law_asks"] (spI zbt) :=
  zhD (k := 49) T.a__law_run sc__law_run (fun _ _ _ _ _ _ us hl => match us, hl with | [_, _, _], _ => rfl) (fun _ _ _ _ _ _ _ _ hr => ziM M (zb6 T M) (by omega) (zeB T M) (by omega) (zdN T M) (by omega) (zeT T M) (by omega) hr) (fun _ _ _ h => zgl h)
theorem cal_law (T : Ats mg) (M : Nm mg) : Cal P w mg base "law" 101 ["_law_script"] (spP ziU) :=
  zbH (k := 100) T.a_law sc_law (fun _ _ _ _ _ _ us hl => match us, hl with | [_], _ => rfl) (fun _ _ _ _ _ _ _ hr => zmz M (zeA T M) (by omega) (zeY T M) (by omega) (zcL T M) (by omega) (zeE T M) (by omega) (zfi T M) (by omega) (zb6 T M) (by omega) (zdm T M) (by omega) hr) (fun _ _ h => zbo h)
theorem zpn (T : Ats mg) (M : Nm mg) {f : Addr} {fd : FuncData} (U : Fun KC.K "law" "law" zfP f fd) : FnOk P w KC.K mg base CX0 101 f fd ["_law_script"] (spP ziU) :=
  zkV (k := 100) U sc_law (fun _ _ _ _ _ _ hr => zmz M (zeA T M) (by omega) (zeY T M) (by omega) (zcL T M) (by omega) (zeE T M) (by omega) (zfi T M) (by omega) (zb6 T M) (by omega) (zdm T M) (by omega) hr) (fun _ _ h => zbo h)
end
end K20
end
section
namespace K20
open PySem PySem.W PyProof.Rows Hd
noncomputable def KK (P : Params) : Frag := [
  (nat_lit 2, dN P [de "type.__subclasses__.KeyError.0" 448 (vI 206 0), de "type.__subclasses__.KeyError.n" 449 (vI 2 0), de "type.__subclasses__.KeyError.1" 477 (vI 226 0), de "type.__subclasses__.IndexError.0" 524 (vI 259 0), de "type.__subclasses__.IndexError.n" 525 (vI 1 0), de "type.__subclasses__.OverflowError.0" 553 (vI 279 0), de "type.__subclasses__.OverflowError.n" 554 (vI 1 0)] 7),
  (nat_lit 3, dO P [de "__name__" 165 (vS "law_thirdpoint_k20_runs_looked_at" 687), de "__doc__" 166 .none, de "__package__" 167 .none, de "__loader__" 168 (.builtin "__main__.__loader__#opaque"), de "__spec__" 169 .none, de "__annotations__" 170 (.ref 6), de "__builtins__" 171 (.ref 4), de "__file__" 173 (vS "/claim/cut.py" 172), de "__cached__" 174 .none, de "PointError" 206 (.ref 24), de "NoPoints" 231 (.ref 44), de "NoBox" 258 (.ref 63), de "NoAsks" 283 (.ref 82), de "NoRun" 308 (.ref 101), de "NoText" 333 (.ref 120), de "NoTurn" 358 (.ref 139), de "NoTree" 374 (.ref 151), de "NoTop" 390 (.ref 163), de "NotServed" 406 (.ref 175), de "NoRow" 422 (.ref 187), de "NoPoint" 451 (.ref 206), de "NoName" 480 (.ref 226), de "NoKey" 507 (.ref 246), de "NoBack" 527 (.ref 259), de "TooMany" 556 (.ref 279), de "LAST_KEY" 560 (vI 30 559), de "is_key" 567 (.ref 289), de "MOST_ASKS" 571 (vI 31 570), de "look_at_asks" 580 (.ref 296), de "is_between" 594 (.ref 303), de "is_tree" 601 (.ref 310), de "look_at_tree" 608 (.ref 317), de "rising" 618 (.ref 324), de "keys_of" 625 (.ref 331), de "parts_beneath" 635 (.ref 338), de "is_top" 644 (.ref 345), de "hung" 656 (.ref 352), de "turned" 664 (.ref 359), de "has_form" 674 (.ref 366), de "look_at_run" 686 (.ref 373), de "_law_cell_at" 696 (.ref 380), de "_law_pool" 706 (.ref 387), de "_law_take" 715 (.ref 394), de "_law_tree" 724 (.ref 401), de "_law_ahead" 731 (.ref 408), de "_law_put" 739 (.ref 415), de "_law_turned" 750 (.ref 422), de "_law_way" 759 (.ref 429), de "_law_some_top" 771 (.ref 436), de "_law_run" 777 (.ref 441), de "_law_kind" 786 (.ref 448), de "_law_told" 798 (.ref 455), de "_law_fits" 804 (.ref 460), de "_law_due" 810 (.ref 465), de "_law_bent" 824 (.ref 472), de "_law_long_right" 834 (.ref 479), de "law" 840 (.ref 484)] 57),
  (nat_lit 23, dO P [de "__module__" 196 (vS "thirdpoint.errors" 187), de "__firstlineno__" 200 (vI 2 199), de "__static_attributes__" 201 (.ref 22), de "__weakref__" 203 (.ref 25), de "__doc__" 204 .none] 3),
  (nat_lit 24, cO "PointError" [(.type "ValueError")] [(.ref 24), (.type "ValueError"), (.type "Exception"), (.type "BaseException"), (.type "object")] 23 [(.ref 44), (.ref 63), (.ref 82), (.ref 101), (.ref 120), (.ref 139), (.ref 151), (.ref 163), (.ref 175), (.ref 187)] #[some (.ref 15), none, some (vS "PointError" 189), some (vS "PointError" 197), some (.builtin "ValueError.__new__"), some (.bool true)]),
  (nat_lit 40, kO "__init__" "NoPoints.__init__" 219 6 2 [(vI 0 0), (vI 0 0), (vI 3 0), (.ref 35), (.bool true), (vI 181 0), (.ref 36), .none, (.ref 37), (.ref 38), (.ref 39), (vI 224 0), (vI 6 0), (vS "/claim/cut.py" 225)]),
  (nat_lit 41, fO "__init__" "NoPoints.__init__" (L2.inClass (top 2) 0) .none (vS "thirdpoint.errors" 187) 40),
  (nat_lit 43, dO P [de "__module__" 214 (vS "thirdpoint.errors" 187), de "__firstlineno__" 218 (vI 4 217), de "__init__" 226 (.ref 41), de "__static_attributes__" 228 (.ref 42), de "__doc__" 229 .none] 2),
  (nat_lit 44, cO "NoPoints" [(.ref 24)] [(.ref 44), (.ref 24), (.type "ValueError"), (.type "Exception"), (.type "BaseException"), (.type "object")] 43 [] #[some (.ref 28), none, some (vS "NoPoints" 207), some (vS "NoPoints" 215), some (.builtin "ValueError.__new__"), some (.bool true)]),
  (nat_lit 59, kO "__init__" "NoBox.__init__" 244 11 3 [(vI 0 0), (vI 0 0), (vI 3 0), (.ref 54), (.bool true), (vI 181 0), (.ref 55), .none, (.ref 56), (.ref 57), (.ref 58), (vI 250 0), (vI 11 0), (vS "/claim/cut.py" 251)]),
  (nat_lit 60, fO "__init__" "NoBox.__init__" (L2.inClass (top 3) 0) .none (vS "thirdpoint.errors" 187) 59),
  (nat_lit 62, dO P [de "__module__" 239 (vS "thirdpoint.errors" 187), de "__firstlineno__" 243 (vI 9 242), de "__init__" 252 (.ref 60), de "__static_attributes__" 255 (.ref 61), de "__doc__" 256 .none] 2),
  (nat_lit 63, cO "NoBox" [(.ref 24)] [(.ref 63), (.ref 24), (.type "ValueError"), (.type "Exception"), (.type "BaseException"), (.type "object")] 62 [] #[some (.ref 47), none, some (vS "NoBox" 232), some (vS "NoBox" 240), some (.builtin "ValueError.__new__"), some (.bool true)]),
  (nat_lit 78, kO "__init__" "NoAsks.__init__" 271 17 2 [(vI 0 0), (vI 0 0), (vI 3 0), (.ref 73), (.bool true), (vI 181 0), (.ref 74), .none, (.ref 75), (.ref 76), (.ref 77), (vI 276 0), (vI 17 0), (vS "/claim/cut.py" 277)]),
  (nat_lit 79, fO "__init__" "NoAsks.__init__" (L2.inClass (top 4) 0) .none (vS "thirdpoint.errors" 187) 78),
  (nat_lit 81, dO P [de "__module__" 266 (vS "thirdpoint.errors" 187), de "__firstlineno__" 270 (vI 15 269), de "__init__" 278 (.ref 79), de "__static_attributes__" 280 (.ref 80), de "__doc__" 281 .none] 2),
  (nat_lit 82, cO "NoAsks" [(.ref 24)] [(.ref 82), (.ref 24), (.type "ValueError"), (.type "Exception"), (.type "BaseException"), (.type "object")] 81 [] #[some (.ref 66), none, some (vS "NoAsks" 259), some (vS "NoAsks" 267), some (.builtin "ValueError.__new__"), some (.bool true)]),
  (nat_lit 97, kO "__init__" "NoRun.__init__" 296 22 2 [(vI 0 0), (vI 0 0), (vI 3 0), (.ref 92), (.bool true), (vI 181 0), (.ref 93), .none, (.ref 94), (.ref 95), (.ref 96), (vI 301 0), (vI 22 0), (vS "/claim/cut.py" 302)]),
  (nat_lit 98, fO "__init__" "NoRun.__init__" (L2.inClass (top 5) 0) .none (vS "thirdpoint.errors" 187) 97),
  (nat_lit 100, dO P [de "__module__" 291 (vS "thirdpoint.errors" 187), de "__firstlineno__" 295 (vI 20 294), de "__init__" 303 (.ref 98), de "__static_attributes__" 305 (.ref 99), de "__doc__" 306 .none] 2),
  (nat_lit 101, cO "NoRun" [(.ref 24)] [(.ref 101), (.ref 24), (.type "ValueError"), (.type "Exception"), (.type "BaseException"), (.type "object")] 100 [] #[some (.ref 85), none, some (vS "NoRun" 284), some (vS "NoRun" 292), some (.builtin "ValueError.__new__"), some (.bool true)]),
  (nat_lit 116, kO "__init__" "NoText.__init__" 321 27 2 [(vI 0 0), (vI 0 0), (vI 3 0), (.ref 111), (.bool true), (vI 181 0), (.ref 112), .none, (.ref 113), (.ref 114), (.ref 115), (vI 326 0), (vI 27 0), (vS "/claim/cut.py" 327)]),
  (nat_lit 117, fO "__init__" "NoText.__init__" (L2.inClass (top 6) 0) .none (vS "thirdpoint.errors" 187) 116),
  (nat_lit 119, dO P [de "__module__" 316 (vS "thirdpoint.errors" 187), de "__firstlineno__" 320 (vI 25 319), de "__init__" 328 (.ref 117), de "__static_attributes__" 330 (.ref 118), de "__doc__" 331 .none] 2),
  (nat_lit 120, cO "NoText" [(.ref 24)] [(.ref 120), (.ref 24), (.type "ValueError"), (.type "Exception"), (.type "BaseException"), (.type "object")] 119 [] #[some (.ref 104), none, some (vS "NoText" 309), some (vS "NoText" 317), some (.builtin "ValueError.__new__"), some (.bool true)]),
  (nat_lit 135, kO "__init__" "NoTurn.__init__" 346 32 2 [(vI 0 0), (vI 0 0), (vI 3 0), (.ref 130), (.bool true), (vI 181 0), (.ref 131), .none, (.ref 132), (.ref 133), (.ref 134), (vI 351 0), (vI 32 0), (vS "/claim/cut.py" 352)]),
  (nat_lit 136, fO "__init__" "NoTurn.__init__" (L2.inClass (top 7) 0) .none (vS "thirdpoint.errors" 187) 135),
  (nat_lit 138, dO P [de "__module__" 341 (vS "thirdpoint.errors" 187), de "__firstlineno__" 345 (vI 30 344), de "__init__" 353 (.ref 136), de "__static_attributes__" 355 (.ref 137), de "__doc__" 356 .none] 2),
  (nat_lit 139, cO "NoTurn" [(.ref 24)] [(.ref 139), (.ref 24), (.type "ValueError"), (.type "Exception"), (.type "BaseException"), (.type "object")] 138 [] #[some (.ref 123), none, some (vS "NoTurn" 334), some (vS "NoTurn" 342), some (.builtin "ValueError.__new__"), some (.bool true)]),
  (nat_lit 150, dO P [de "__module__" 366 (vS "thirdpoint.errors" 187), de "__firstlineno__" 370 (vI 35 369), de "__static_attributes__" 371 (.ref 149), de "__doc__" 372 .none] 2),
  (nat_lit 151, cO "NoTree" [(.ref 24)] [(.ref 151), (.ref 24), (.type "ValueError"), (.type "Exception"), (.type "BaseException"), (.type "object")] 150 [] #[some (.ref 142), none, some (vS "NoTree" 359), some (vS "NoTree" 367), some (.builtin "ValueError.__new__"), some (.bool true)]),
  (nat_lit 162, dO P [de "__module__" 382 (vS "thirdpoint.errors" 187), de "__firstlineno__" 386 (vI 37 385), de "__static_attributes__" 387 (.ref 161), de "__doc__" 388 .none] 2),
  (nat_lit 163, cO "NoTop" [(.ref 24)] [(.ref 163), (.ref 24), (.type "ValueError"), (.type "Exception"), (.type "BaseException"), (.type "object")] 162 [] #[some (.ref 154), none, some (vS "NoTop" 375), some (vS "NoTop" 383), some (.builtin "ValueError.__new__"), some (.bool true)]),
  (nat_lit 174, dO P [de "__module__" 398 (vS "thirdpoint.errors" 187), de "__firstlineno__" 402 (vI 39 401), de "__static_attributes__" 403 (.ref 173), de "__doc__" 404 .none] 2),
  (nat_lit 175, cO "NotServed" [(.ref 24)] [(.ref 175), (.ref 24), (.type "ValueError"), (.type "Exception"), (.type "BaseException"), (.type "object")] 174 [] #[some (.ref 166), none, some (vS "NotServed" 391), some (vS "NotServed" 399), some (.builtin "ValueError.__new__"), some (.bool true)]),
  (nat_lit 186, dO P [de "__module__" 414 (vS "thirdpoint.errors" 187), de "__firstlineno__" 418 (vI 41 417), de "__static_attributes__" 419 (.ref 185), de "__doc__" 420 .none] 2),
  (nat_lit 187, cO "NoRow" [(.ref 24)] [(.ref 187), (.ref 24), (.type "ValueError"), (.type "Exception"), (.type "BaseException"), (.type "object")] 186 [] #[some (.ref 178), none, some (vS "NoRow" 407), some (vS "NoRow" 415), some (.builtin "ValueError.__new__"), some (.bool true)]),
  (nat_lit 202, kO "__init__" "NoPoint.__init__" 435 45 2 [(vI 0 0), (vI 0 0), (vI 3 0), (.ref 197), (.bool true), (vI 181 0), (.ref 198), .none, (.ref 199), (.ref 200), (.ref 201), (vI 440 0), (vI 45 0), (vS "/claim/cut.py" 441)]),
  (nat_lit 203, fO "__init__" "NoPoint.__init__" (L2.inClass (top 12) 0) .none (vS "thirdpoint.errors" 187) 202),
  (nat_lit 205, dO P [de "__module__" 430 (vS "thirdpoint.errors" 187), de "__firstlineno__" 434 (vI 43 433), de "__init__" 442 (.ref 203), de "__static_attributes__" 444 (.ref 204), de "__weakref__" 446 (.ref 207), de "__doc__" 447 .none] 3),
  (nat_lit 206, cO "NoPoint" [(.type "KeyError")] [(.ref 206), (.type "KeyError"), (.type "LookupError"), (.type "Exception"), (.type "BaseException"), (.type "object")] 205 [] #[some (.ref 190), none, some (vS "NoPoint" 423), some (vS "NoPoint" 431), some (.builtin "LookupError.__new__"), some (.bool true)]),
  (nat_lit 222, kO "__init__" "NoName.__init__" 464 50 2 [(vI 0 0), (vI 0 0), (vI 3 0), (.ref 217), (.bool true), (vI 181 0), (.ref 218), .none, (.ref 219), (.ref 220), (.ref 221), (vI 469 0), (vI 50 0), (vS "/claim/cut.py" 470)]),
  (nat_lit 223, fO "__init__" "NoName.__init__" (L2.inClass (top 13) 0) .none (vS "thirdpoint.errors" 187) 222),
  (nat_lit 225, dO P [de "__module__" 459 (vS "thirdpoint.errors" 187), de "__firstlineno__" 463 (vI 48 462), de "__init__" 471 (.ref 223), de "__static_attributes__" 473 (.ref 224), de "__weakref__" 475 (.ref 227), de "__doc__" 476 .none] 3),
  (nat_lit 226, cO "NoName" [(.type "KeyError")] [(.ref 226), (.type "KeyError"), (.type "LookupError"), (.type "Exception"), (.type "BaseException"), (.type "object")] 225 [] #[some (.ref 210), none, some (vS "NoName" 452), some (vS "NoName" 460), some (.builtin "LookupError.__new__"), some (.bool true)]),
  (nat_lit 242, kO "__init__" "NoKey.__init__" 493 55 2 [(vI 0 0), (vI 0 0), (vI 3 0), (.ref 237), (.bool true), (vI 181 0), (.ref 238), .none, (.ref 239), (.ref 240), (.ref 241), (vI 498 0), (vI 55 0), (vS "/claim/cut.py" 499)]),
  (nat_lit 243, fO "__init__" "NoKey.__init__" (L2.inClass (top 14) 0) .none (vS "thirdpoint.errors" 187) 242),
  (nat_lit 245, dO P [de "__module__" 488 (vS "thirdpoint.errors" 187), de "__firstlineno__" 492 (vI 53 491), de "__init__" 500 (.ref 243), de "__static_attributes__" 502 (.ref 244), de "__weakref__" 504 (.ref 247), de "__doc__" 505 .none] 3),
  (nat_lit 246, cO "NoKey" [(.type "LookupError")] [(.ref 246), (.type "LookupError"), (.type "Exception"), (.type "BaseException"), (.type "object")] 245 [] #[some (.ref 230), none, some (vS "NoKey" 481), some (vS "NoKey" 489), some (.builtin "LookupError.__new__"), some (.bool true)]),
  (nat_lit 258, dO P [de "__module__" 515 (vS "thirdpoint.errors" 187), de "__firstlineno__" 519 (vI 58 518), de "__static_attributes__" 520 (.ref 257), de "__weakref__" 522 (.ref 260), de "__doc__" 523 .none] 3),
  (nat_lit 259, cO "NoBack" [(.type "IndexError")] [(.ref 259), (.type "IndexError"), (.type "LookupError"), (.type "Exception"), (.type "BaseException"), (.type "object")] 258 [] #[some (.ref 250), none, some (vS "NoBack" 508), some (vS "NoBack" 516), some (.builtin "IndexError.__new__"), some (.bool true)]),
  (nat_lit 275, kO "__init__" "TooMany.__init__" 540 62 2 [(vI 0 0), (vI 0 0), (vI 3 0), (.ref 270), (.bool true), (vI 181 0), (.ref 271), .none, (.ref 272), (.ref 273), (.ref 274), (vI 545 0), (vI 62 0), (vS "/claim/cut.py" 546)]),
  (nat_lit 276, fO "__init__" "TooMany.__init__" (L2.inClass (top 16) 0) .none (vS "thirdpoint.errors" 187) 275),
  (nat_lit 278, dO P [de "__module__" 535 (vS "thirdpoint.errors" 187), de "__firstlineno__" 539 (vI 60 538), de "__init__" 547 (.ref 276), de "__static_attributes__" 549 (.ref 277), de "__weakref__" 551 (.ref 280), de "__doc__" 552 .none] 3),
  (nat_lit 279, cO "TooMany" [(.type "OverflowError")] [(.ref 279), (.type "OverflowError"), (.type "ArithmeticError"), (.type "Exception"), (.type "BaseException"), (.type "object")] 278 [] #[some (.ref 263), none, some (vS "TooMany" 528), some (vS "TooMany" 536), some (.builtin "OverflowError.__new__"), some (.bool true)]),
  (nat_lit 288, kO "is_key" "is_key" 561 67 1 [(vI 0 0), (vI 0 0), (vI 3 0), (.ref 283), (.bool true), (vI 181 0), (.ref 284), .none, (.ref 285), (.ref 286), (.ref 287), (vI 565 0), (vI 67 0), (vS "/claim/cut.py" 566)]),
  (nat_lit 289, fO "is_key" "is_key" (top 19) .none (vS "thirdpoint.points" 557) 288),
  (nat_lit 295, kO "look_at_asks" "look_at_asks" 572 71 1 [(vI 0 0), (vI 0 0), (vI 3 0), (.ref 290), (.bool true), (vI 181 0), (.ref 291), .none, (.ref 292), (.ref 293), (.ref 294), (vI 578 0), (vI 71 0), (vS "/claim/cut.py" 579)]),
  (nat_lit 296, fO "look_at_asks" "look_at_asks" (top 22) .none (vS "thirdpoint.asks" 568) 295),
  (nat_lit 302, kO "is_between" "is_between" 583 78 3 [(vI 0 0), (vI 0 0), (vI 3 0), (.ref 297), (.bool true), (vI 181 0), (.ref 298), .none, (.ref 299), (.ref 300), (.ref 301), (vI 592 0), (vI 78 0), (vS "/claim/cut.py" 593)]),
  (nat_lit 303, fO "is_between" "is_between" (top 24) .none (vS "thirdpoint.trees" 581) 302),
  (nat_lit 309, kO "is_tree" "is_tree" 595 85 1 [(vI 0 0), (vI 0 0), (vI 3 0), (.ref 304), (.bool true), (vI 181 0), (.ref 305), .none, (.ref 306), (.ref 307), (.ref 308), (vI 599 0), (vI 85 0), (vS "/claim/cut.py" 600)]),
  (nat_lit 310, fO "is_tree" "is_tree" (top 25) .none (vS "thirdpoint.trees" 581) 309),
  (nat_lit 316, kO "look_at_tree" "look_at_tree" 602 87 1 [(vI 0 0), (vI 0 0), (vI 3 0), (.ref 311), (.bool true), (vI 181 0), (.ref 312), .none, (.ref 313), (.ref 314), (.ref 315), (vI 606 0), (vI 87 0), (vS "/claim/cut.py" 607)]),
  (nat_lit 317, fO "look_at_tree" "look_at_tree" (top 26) .none (vS "thirdpoint.trees" 581) 316),
  (nat_lit 323, kO "rising" "rising" 609 90 1 [(vI 0 0), (vI 0 0), (vI 3 0), (.ref 318), (.bool true), (vI 181 0), (.ref 319), .none, (.ref 320), (.ref 321), (.ref 322), (vI 616 0), (vI 90 0), (vS "/claim/cut.py" 617)]),
  (nat_lit 324, fO "rising" "rising" (top 27) .none (vS "thirdpoint.trees" 581) 323),
  (nat_lit 330, kO "keys_of" "keys_of" 619 95 1 [(vI 0 0), (vI 0 0), (vI 3 0), (.ref 325), (.bool true), (vI 181 0), (.ref 326), .none, (.ref 327), (.ref 328), (.ref 329), (vI 623 0), (vI 95 0), (vS "/claim/cut.py" 624)]),
  (nat_lit 331, fO "keys_of" "keys_of" (top 28) .none (vS "thirdpoint.trees" 581) 330),
  (nat_lit 337, kO "parts_beneath" "parts_beneath" 628 99 2 [(vI 0 0), (vI 0 0), (vI 3 0), (.ref 332), (.bool true), (vI 181 0), (.ref 333), .none, (.ref 334), (.ref 335), (.ref 336), (vI 633 0), (vI 99 0), (vS "/claim/cut.py" 634)]),
  (nat_lit 338, fO "parts_beneath" "parts_beneath" (top 30) .none (vS "thirdpoint.tops" 626) 337),
  (nat_lit 344, kO "is_top" "is_top" 636 103 2 [(vI 0 0), (vI 0 0), (vI 3 0), (.ref 339), (.bool true), (vI 181 0), (.ref 340), .none, (.ref 341), (.ref 342), (.ref 343), (vI 642 0), (vI 103 0), (vS "/claim/cut.py" 643)]),
  (nat_lit 345, fO "is_top" "is_top" (top 31) .none (vS "thirdpoint.tops" 626) 344),
  (nat_lit 351, kO "hung" "hung" 645 109 2 [(vI 0 0), (vI 0 0), (vI 3 0), (.ref 346), (.bool true), (vI 181 0), (.ref 347), .none, (.ref 348), (.ref 349), (.ref 350), (vI 654 0), (vI 109 0), (vS "/claim/cut.py" 655)]),
  (nat_lit 352, fO "hung" "hung" (top 32) .none (vS "thirdpoint.tops" 626) 351),
  (nat_lit 358, kO "turned" "turned" 657 115 2 [(vI 0 0), (vI 0 0), (vI 3 0), (.ref 353), (.bool true), (vI 181 0), (.ref 354), .none, (.ref 355), (.ref 356), (.ref 357), (vI 662 0), (vI 115 0), (vS "/claim/cut.py" 663)]),
  (nat_lit 359, fO "turned" "turned" (top 33) .none (vS "thirdpoint.tops" 626) 358),
  (nat_lit 365, kO "has_form" "has_form" 667 120 2 [(vI 0 0), (vI 0 0), (vI 3 0), (.ref 360), (.bool true), (vI 181 0), (.ref 361), .none, (.ref 362), (.ref 363), (.ref 364), (vI 672 0), (vI 120 0), (vS "/claim/cut.py" 673)]),
  (nat_lit 366, fO "has_form" "has_form" (top 35) .none (vS "thirdpoint.runs" 665) 365),
  (nat_lit 372, kO "look_at_run" "look_at_run" 675 122 2 [(vI 0 0), (vI 0 0), (vI 3 0), (.ref 367), (.bool true), (vI 181 0), (.ref 368), .none, (.ref 369), (.ref 370), (.ref 371), (vI 684 0), (vI 122 0), (vS "/claim/cut.py" 685)]),
  (nat_lit 373, fO "look_at_run" "look_at_run" (top 36) .none (vS "thirdpoint.runs" 665) 372),
  (nat_lit 379, kO "_law_cell_at" "_law_cell_at" 689 132 2 [(vI 0 0), (vI 0 0), (vI 3 0), (.ref 374), (.bool true), (vI 181 0), (.ref 375), .none, (.ref 376), (.ref 377), (.ref 378), (vI 694 0), (vI 132 0), (vS "/claim/cut.py" 695)]),
  (nat_lit 380, fO "_law_cell_at" "_law_cell_at" (top 38) .none (vS "law_thirdpoint_k20_runs_looked_at" 687) 379),
  (nat_lit 386, kO "_law_pool" "_law_pool" 697 136 2 [(vI 0 0), (vI 0 0), (vI 3 0), (.ref 381), (.bool true), (vI 181 0), (.ref 382), .none, (.ref 383), (.ref 384), (.ref 385), (vI 704 0), (vI 136 0), (vS "/claim/cut.py" 705)]),
  (nat_lit 387, fO "_law_pool" "_law_pool" (top 39) .none (vS "law_thirdpoint_k20_runs_looked_at" 687) 386),
  (nat_lit 393, kO "_law_take" "_law_take" 707 142 2 [(vI 0 0), (vI 0 0), (vI 3 0), (.ref 388), (.bool true), (vI 181 0), (.ref 389), .none, (.ref 390), (.ref 391), (.ref 392), (vI 713 0), (vI 142 0), (vS "/claim/cut.py" 714)]),
  (nat_lit 394, fO "_law_take" "_law_take" (top 40) .none (vS "law_thirdpoint_k20_runs_looked_at" 687) 393),
  (nat_lit 400, kO "_law_tree" "_law_tree" 716 149 2 [(vI 0 0), (vI 0 0), (vI 3 0), (.ref 395), (.bool true), (vI 181 0), (.ref 396), .none, (.ref 397), (.ref 398), (.ref 399), (vI 722 0), (vI 149 0), (vS "/claim/cut.py" 723)]),
  (nat_lit 401, fO "_law_tree" "_law_tree" (top 41) .none (vS "law_thirdpoint_k20_runs_looked_at" 687) 400),
  (nat_lit 407, kO "_law_ahead" "_law_ahead" 725 154 1 [(vI 0 0), (vI 0 0), (vI 3 0), (.ref 402), (.bool true), (vI 181 0), (.ref 403), .none, (.ref 404), (.ref 405), (.ref 406), (vI 729 0), (vI 154 0), (vS "/claim/cut.py" 730)]),
  (nat_lit 408, fO "_law_ahead" "_law_ahead" (top 42) .none (vS "law_thirdpoint_k20_runs_looked_at" 687) 407),
  (nat_lit 414, kO "_law_put" "_law_put" 732 158 2 [(vI 0 0), (vI 0 0), (vI 3 0), (.ref 409), (.bool true), (vI 181 0), (.ref 410), .none, (.ref 411), (.ref 412), (.ref 413), (vI 737 0), (vI 158 0), (vS "/claim/cut.py" 738)]),
  (nat_lit 415, fO "_law_put" "_law_put" (top 43) .none (vS "law_thirdpoint_k20_runs_looked_at" 687) 414),
  (nat_lit 421, kO "_law_turned" "_law_turned" 740 164 2 [(vI 0 0), (vI 0 0), (vI 3 0), (.ref 416), (.bool true), (vI 181 0), (.ref 417), .none, (.ref 418), (.ref 419), (.ref 420), (vI 748 0), (vI 164 0), (vS "/claim/cut.py" 749)]),
  (nat_lit 422, fO "_law_turned" "_law_turned" (top 44) .none (vS "law_thirdpoint_k20_runs_looked_at" 687) 421),
  (nat_lit 428, kO "_law_way" "_law_way" 751 171 2 [(vI 0 0), (vI 0 0), (vI 3 0), (.ref 423), (.bool true), (vI 181 0), (.ref 424), .none, (.ref 425), (.ref 426), (.ref 427), (vI 757 0), (vI 171 0), (vS "/claim/cut.py" 758)]),
  (nat_lit 429, fO "_law_way" "_law_way" (top 45) .none (vS "law_thirdpoint_k20_runs_looked_at" 687) 428),
  (nat_lit 435, kO "_law_some_top" "_law_some_top" 760 177 3 [(vI 0 0), (vI 0 0), (vI 3 0), (.ref 430), (.bool true), (vI 181 0), (.ref 431), .none, (.ref 432), (.ref 433), (.ref 434), (vI 769 0), (vI 177 0), (vS "/claim/cut.py" 770)]),
  (nat_lit 436, fO "_law_some_top" "_law_some_top" (top 46) .none (vS "law_thirdpoint_k20_runs_looked_at" 687) 435),
  (nat_lit 440, kO "_law_run" "_law_run" 772 186 3 [(vI 0 0), (vI 0 0), (vI 3 0), (.ref 437), (.bool true), (vI 181 0), (.ref 438), .none, .none, .none, (.ref 439), (vI 775 0), (vI 186 0), (vS "/claim/cut.py" 776)]),
  (nat_lit 441, fO "_law_run" "_law_run" (top 47) .none (vS "law_thirdpoint_k20_runs_looked_at" 687) 440),
  (nat_lit 447, kO "_law_kind" "_law_kind" 778 199 1 [(vI 0 0), (vI 0 0), (vI 3 0), (.ref 442), (.bool true), (vI 181 0), (.ref 443), .none, (.ref 444), (.ref 445), (.ref 446), (vI 784 0), (vI 199 0), (vS "/claim/cut.py" 785)]),
  (nat_lit 448, fO "_law_kind" "_law_kind" (top 48) .none (vS "law_thirdpoint_k20_runs_looked_at" 687) 447),
  (nat_lit 454, kO "_law_told" "_law_told" 787 209 2 [(vI 0 0), (vI 0 0), (vI 3 0), (.ref 449), (.bool true), (vI 181 0), (.ref 450), .none, (.ref 451), (.ref 452), (.ref 453), (vI 796 0), (vI 209 0), (vS "/claim/cut.py" 797)]),
  (nat_lit 455, fO "_law_told" "_law_told" (top 49) .none (vS "law_thirdpoint_k20_runs_looked_at" 687) 454),
  (nat_lit 459, kO "_law_fits" "_law_fits" 799 220 3 [(vI 0 0), (vI 0 0), (vI 3 0), (.ref 456), (.bool true), (vI 181 0), (.ref 457), .none, .none, .none, (.ref 458), (vI 802 0), (vI 220 0), (vS "/claim/cut.py" 803)]),
  (nat_lit 460, fO "_law_fits" "_law_fits" (top 50) .none (vS "law_thirdpoint_k20_runs_looked_at" 687) 459),
  (nat_lit 464, kO "_law_due" "_law_due" 805 229 2 [(vI 0 0), (vI 0 0), (vI 3 0), (.ref 461), (.bool true), (vI 181 0), (.ref 462), .none, .none, .none, (.ref 463), (vI 808 0), (vI 229 0), (vS "/claim/cut.py" 809)]),
  (nat_lit 465, fO "_law_due" "_law_due" (top 51) .none (vS "law_thirdpoint_k20_runs_looked_at" 687) 464),
  (nat_lit 471, kO "_law_bent" "_law_bent" 811 240 3 [(vI 0 0), (vI 0 0), (vI 3 0), (.ref 466), (.bool true), (vI 181 0), (.ref 467), .none, (.ref 468), (.ref 469), (.ref 470), (vI 822 0), (vI 240 0), (vS "/claim/cut.py" 823)]),
  (nat_lit 472, fO "_law_bent" "_law_bent" (top 52) .none (vS "law_thirdpoint_k20_runs_looked_at" 687) 471),
  (nat_lit 478, kO "_law_long_right" "_law_long_right" 825 255 0 [(vI 0 0), (vI 0 0), (vI 3 0), (.ref 473), (.bool true), (vI 181 0), (.ref 474), .none, (.ref 475), (.ref 476), (.ref 477), (vI 832 0), (vI 255 0), (vS "/claim/cut.py" 833)]),
  (nat_lit 479, fO "_law_long_right" "_law_long_right" (top 53) .none (vS "law_thirdpoint_k20_runs_looked_at" 687) 478),
  (nat_lit 483, kO "law" "law" 835 266 1 [(vI 0 0), (vI 0 0), (vI 3 0), (.ref 480), (.bool true), (vI 181 0), (.ref 481), .none, .none, .none, (.ref 482), (vI 838 0), (vI 266 0), (vS "/claim/cut.py" 839)]),
  (nat_lit 484, fO "law" "law" (top 54) .none (vS "law_thirdpoint_k20_runs_looked_at" 687) 483)]
def kAs : List Addr := [2, 3, 23, 24, 40, 41, 43, 44, 59, 60, 62, 63, 78, 79, 81, 82, 97, 98, 100, 101, 116, 117, 119, 120, 135, 136, 138, 139, 150, 151, 162, 163, 174, 175, 186, 187, 202, 203, 205, 206, 222, 223, 225, 226, 242, 243, 245, 246, 258, 259, 275, 276, 278, 279, 288, 289, 295, 296, 302, 303, 309, 310, 316, 317, 323, 324, 330, 331, 337, 338, 344, 345, 351, 352, 358, 359, 365, 366, 372, 373, 379, 380, 386, 387, 393, 394, 400, 401, 407, 408, 414, 415, 421, 422, 428, 429, 435, 436, 440, 441, 447, 448, 454, 455, 459, 460, 464, 465, 471, 472, 478, 479, 483, 484]
theorem kAs_eq (P : Params) : kAs = (KK P).map (·.1) := by kernel_rfl
def kKeep : List Nat := [1, 2, 3, 4, 5, 6, 7, 8, 9, 10, 11, 12, 13, 14, 15, 16, 18, 19, 21, 22, 24, 25, 26, 27, 28, 30, 31, 32, 33, 35, 36, 38, 39, 40, 41, 42, 43, 44, 45, 46, 47, 48, 49, 50, 51, 52, 53, 54]
theorem twin : Nat.ble 1 PySem.Challenge.pw_thirdpoint_k20_runs_looked_at.main.body.length = true := by k_qdec
set_option maxHeartbeats 0 in
theorem run (w : World) (os : OsState) : (zny Fast.tw14364793385576792824 Fast.tw2896347617737022134 w 11 (some (.ref 6)) 9344 (zm4 w.params os) (topStub Fast.tw2896347617737022134)).map (fun s => ((staticsOk (importedModules Fast.tw2896347617737022134.main.body) (boot_heap w.params) s.abs.heap && namesBound Fast.tw2896347617737022134 s.abs.heap && gensDone s.abs && laidKept (boot_heap w.params) s.abs.heap),
      Fast.tw4187177175401517315 (view Fast.tw2896347617737022134 kKeep) [] (importedModules Fast.tw2896347617737022134.main.body) (fun s => xlAt (view Fast.tw2896347617737022134 kKeep) [] s && recOk [] s) true s.abs, kAs.map s.abs.heap.get?)) = some (true, openGood (view Fast.tw2896347617737022134 kKeep) [], (KK w.params).map fun x => some x.2) := by kernel_rfl
theorem left : LeftO PySem.Challenge.pw_thirdpoint_k20_runs_looked_at (view PySem.Challenge.pw_thirdpoint_k20_runs_looked_at kKeep) [] (fun s => xlAt (view PySem.Challenge.pw_thirdpoint_k20_runs_looked_at kKeep) [] s && recOk [] s) (fun s => kAs.map s.heap.get?) (fun w => (KK w.params).map fun x => some x.2) 9344 :=
  zoJ Fast.te2896347617737022134 (by kernel_rfl) rfl (fun _ => by kernel_rfl) run
end K20
end
section
namespace Xf
open PySem L2 Ex Dv
abbrev upV : List Value := [.type "ValueError", .type "Exception", .type "BaseException", .type "object"]
abbrev upK : List Value := [.type "KeyError", .type "LookupError", .type "Exception", .type "BaseException", .type "object"]
abbrev upL : List Value := [.type "LookupError", .type "Exception", .type "BaseException", .type "object"]
abbrev upI : List Value := [.type "IndexError", .type "LookupError", .type "Exception", .type "BaseException", .type "object"]
abbrev upO : List Value := [.type "OverflowError", .type "ArithmeticError", .type "Exception", .type "BaseException", .type "object"]
theorem zb3 (self : Value) : refuseLoop self "__setattr__" upV = pure () := F.store_ValueError.passes self
theorem zlS (self : Value) : refuseLoop self "__setattr__" upK = pure () := by kernel_rfl
theorem zpo (self : Value) : refuseLoop self "__setattr__" upL = pure () := by kernel_rfl
theorem zqg (self : Value) : refuseLoop self "__setattr__" upI = pure () := by kernel_rfl
theorem zqe (self : Value) : refuseLoop self "__setattr__" upO = pure () := by kernel_rfl
def upOf : Cn -> List Value
  | .NoPoint | .NoName => upK
  | .NoKey => upL
  | .NoBack => upI
  | .TooMany => upO
  | _ => upV
def nwOf : Cn -> String
  | .NoPoint | .NoName | .NoKey => "LookupError.__new__"
  | .NoBack => "IndexError.__new__"
  | .TooMany => "OverflowError.__new__"
  | _ => "ValueError.__new__"
theorem zpZ : ∀ (C : Cn) (self : Value), refuseLoop self "__setattr__" (upOf C) = pure ()
  | .PointError, s => zb3 s
  | .NoPoints, s => zb3 s
  | .NoBox, s => zb3 s
  | .NoAsks, s => zb3 s
  | .NoRun, s => zb3 s
  | .NoText, s => zb3 s
  | .NoTurn, s => zb3 s
  | .NoTree, s => zb3 s
  | .NoTop, s => zb3 s
  | .NotServed, s => zb3 s
  | .NoRow, s => zb3 s
  | .NoPoint, s => zlS s
  | .NoName, s => zlS s
  | .NoKey, s => zpo s
  | .NoBack, s => zqg s
  | .TooMany, s => zqe s
  | .Points, s => zb3 s
  | .Grower, s => zb3 s
  | .Search, s => zb3 s
  | .Turner, s => zb3 s
  | .Desk, s => zb3 s
def clsB (K : PySem.W.Frag) (C : Addr) (up : List Value) (nw : String) : Bool := zfT K C up nw && (PySem.W.findIn K (.ref C) "__getattribute__" == some (some (.builtin "BaseException.__getattribute__"))) && (PySem.W.findIn K (.ref C) "__getattr__" == some none) &&
  (PySem.W.findIn K (.ref C) "__setattr__" == some (some (.builtin "object.__setattr__"))) && (PySem.W.mroIn K C (.type "BaseException") == some true) && (PySem.W.mroIn K C (.type "object") == some true) && (PySem.W.findIn K (.ref C) "__class__" == some (some (.builtin "object.__class__"))) &&
  (PySem.W.specialIn K (.builtin "object.__class__") "__get__" == some (some (.builtin "getset_descriptor.__get__"))) && (PySem.W.takesIn K (.builtin "object.__class__") == some true) && (PySem.W.kitCls K (.ref C) (.ref C) == some true) && PySem.W.keepIn K (.ref C)
theorem zqc {K : PySem.W.Frag} {C : Addr} {up : List Value} {nw : String} (ok : ∀ self, refuseLoop self "__setattr__" up = pure ()) (h : clsB K C up nw = true) : zfT K C up nw = true /\ XK0 K C := by
  unfold clsB at h
  simp only [Bool.and_eq_true, beq_iff_eq] at h
  obtain ⟨⟨⟨⟨⟨⟨⟨⟨⟨⟨a, b⟩, c⟩, d⟩, e⟩, f⟩, g⟩, i⟩, j⟩, k⟩, l⟩ := h
  exact ⟨a, zpr ok a b c d e f g i j k l⟩
variable [KC]
theorem all_cls {L : List Cn} (h : L.all (fun C => clsB KC.K (KC.cls C) (upOf C) (nwOf C)) = true) {C : Cn} (hc : L.contains C = true) : zfT KC.K (KC.cls C) (upOf C) (nwOf C) = true /\ XK0 KC.K (KC.cls C) :=
  zqc (zpZ C) (List.all_eq_true.mp h C (List.contains_iff_mem.mp hc))
def zqX (K : PySem.W.Frag) (cls : Cn -> Addr) (L : List Cn) (T : Cn) : Bool := L.all (fun C => PySem.W.kitOne K (.ref (cls C)) (.ref (cls T)) == some (sub C T)) && tyNs.all (fun t => PySem.W.kitOne K (.type t) (.ref (cls T)) == some false)
theorem kit_of {L : List Cn} {T : Cn} (h : zqX KC.K KC.cls L T = true) (hx : ∀ C, L.contains C = true -> XC KC.K (KC.cls C)) : KitX L T := by
  unfold zqX at h
  rw [Bool.and_eq_true, List.all_eq_true, List.all_eq_true] at h
  exact ⟨fun C hc => ⟨beq_iff_eq.mp (h.1 C (List.contains_iff_mem.mp hc)), hx C hc⟩, fun t ht => beq_iff_eq.mp (h.2 t ht)⟩
theorem mt_of {L : List Cn} {cs : List Value} (h : L.all (fun C => matchIn KC.K (KC.cls C) cs == some true) = true) : ∀ C, L.contains C = true -> matchIn KC.K (KC.cls C) cs = some true := fun C hc => beq_iff_eq.mp (List.all_eq_true.mp h C (List.contains_iff_mem.mp hc))
theorem na_of {L : List Cn} {y : Str} (h : L.all (fun C => PySem.W.findIn KC.K (.ref (KC.cls C)) y == some none) = true) (hx : ∀ C, L.contains C = true -> XC KC.K (KC.cls C)) : ∀ C, L.contains C = true -> XC KC.K (KC.cls C) /\ zfz KC.K (KC.cls C) y := fun C hc => ⟨hx C hc, beq_iff_eq.mp (List.all_eq_true.mp h C (List.contains_iff_mem.mp hc))⟩
theorem zr2 : XB "KeyError" "KeyError.__init__" upK := zp2
theorem xin_pe {K : PySem.W.Frag} {D : Addr} (a : PySem.W.specialIn K (.ref D) "__getattribute__" = some (some (.builtin "type.__getattribute__"))) (b : PySem.W.readsIn K D (.type "type") = true) (c : PySem.W.findCls K (.ref D) (.type "type") "__init__" = some (.val (.builtin "ValueError.__init__"))) : XIn K (.ref D) "ValueError" "ValueError.__init__" :=
  ⟨.inl ⟨D, rfl, a, b, c⟩, by decide +kernel, _, XB.of F.excBase_ValueError⟩
theorem xin_KeyError {K : PySem.W.Frag} (c : PySem.W.findCls K (.type "KeyError") (.type "type") "__init__" = some (.val (.builtin "KeyError.__init__"))) : XIn K (.ty "KeyError") "KeyError" "KeyError.__init__" :=
  ⟨.inr ⟨"KeyError", rfl, by kernel_rfl, by decide +kernel, c⟩, by decide +kernel, _, zr2⟩
theorem xin_LookupError {K : PySem.W.Frag} (c : PySem.W.findCls K (.type "LookupError") (.type "type") "__init__" = some (.val (.builtin "LookupError.__init__"))) : XIn K (.ty "LookupError") "LookupError" "LookupError.__init__" :=
  ⟨.inr ⟨"LookupError", rfl, by kernel_rfl, by decide +kernel, c⟩, by decide +kernel, _, XB.of F.excBase_LookupError⟩
theorem xin_OverflowError {K : PySem.W.Frag} (c : PySem.W.findCls K (.type "OverflowError") (.type "type") "__init__" = some (.val (.builtin "OverflowError.__init__"))) : XIn K (.ty "OverflowError") "OverflowError" "OverflowError.__init__" :=
  ⟨.inr ⟨"OverflowError", rfl, by kernel_rfl, by decide +kernel, c⟩, by decide +kernel, _, XB.of F.excBase_OverflowError⟩
theorem fun_K {K : PySem.W.Frag} {x q : Str} {st : Stmt} {a cd : Addr} {pm : Value} (l : K.lookup a = some (Hd.fO x q st .none pm cd)) (c : PySem.W.codeIn K (.ref cd) q = true) (k : PySem.W.keepIn K (.ref a) = true) : ∃ fd, Fun K x q st a fd := ⟨_, L2.fun_mk l c k⟩
theorem at_K {mg : Str -> Option Value} {x : Str} {st : Stmt} {a cd : Addr} {pm : Value} {h : Heap} (X : KC.K.In h) (G : h.Ns mainGlobals mg) (l : KC.K.lookup a = some (Hd.fO x x st .none pm cd)) (c : PySem.W.codeIn KC.K (.ref cd) x = true) (k : PySem.W.keepIn KC.K (.ref a) = true) (n : PySem.W.nsIn KC.K mainGlobals x = some (some (.ref a))) : At mg x st :=
  let ⟨fd, U⟩ := fun_K l c k; ⟨a, fd, U, PySem.W.mg_of X G n, k⟩
structure XT (K : PySem.W.Frag) (C : Addr) (B : String) (x : Str) : Prop where
  xc : XC K C
  sub : PySem.W.mroIn K C (.type B) = some true
  no : zfz K C x
end Xf
end
section
namespace K20
open PySem L2 Ex Dv
def zrW : Cn -> Addr
  | .PointError => 24
  | .NoPoints => 44
  | .NoBox => 63
  | .NoAsks => 82
  | .NoRun => 101
  | .NoText => 120
  | .NoTurn => 139
  | .NoTree => 151
  | .NoTop => 163
  | .NotServed => 175
  | .NoRow => 187
  | .NoPoint => 206
  | .NoName => 226
  | .NoKey => 246
  | .NoBack => 259
  | .TooMany => 279
  | _ => 0
section
variable {P : Program} {w : World} {K : PySem.W.Frag} {mg : Str -> Option Value} {base : Heap}
theorem zlN : FnScope ["self", "number"] ["self", "number"] (defScope (L2.inClass (top 4) 0)) := ⟨rfl, rfl, rfl, by decide +kernel, rfl, by decide +kernel, by decide +kernel⟩
theorem zlH {f C D : Addr} {fd : FuncData} {ini : String} (F : Fun K "__init__" "NoAsks.__init__" (L2.inClass (top 4) 0) f fd) (T : Xf.XT K C "ValueError" "number") (Z : XIn K (.ref D) "ValueError" ini) (hm : mg "PointError" = some (.ref D)) : FnOk P w K mg base CX0 1 f fd ["self", "number"] (znK C "number") := by
  refine F.ok zlN (fun vs H Q E h => ?_) (fun cdv A outer s H vs Q E hr h => ?_)
  · obtain ⟨a, v, fr, rfl, _⟩ := h
    rfl
  · obtain ⟨a, v, fr, rfl, ha, k⟩ := h
    refine ⟨_, zgo (zhR (zjd (zbq (v := .ref D) rfl hm rfl) Z (zap (pv 0) (zap zjy zbh)))) (zh2 (zkx (pv 0) (pv 1) rfl)), ?_⟩
    refine ⟨_, rfl, a, C, fr, _, rfl, ha, T.xc, T.sub, by decide, ?_⟩
    exact ⟨_, rfl, _, rfl, a, C, fr, rfl, T.xc, T.no, .inl ⟨ha, fun d hd ne => k d hd ne⟩⟩
theorem zmw : FnScope ["self", "moment"] ["self", "moment"] (defScope (L2.inClass (top 5) 0)) := ⟨rfl, rfl, rfl, by decide +kernel, rfl, by decide +kernel, by decide +kernel⟩
theorem znI {f C D : Addr} {fd : FuncData} {ini : String} (F : Fun K "__init__" "NoRun.__init__" (L2.inClass (top 5) 0) f fd) (T : Xf.XT K C "ValueError" "moment") (Z : XIn K (.ref D) "ValueError" ini) (hm : mg "PointError" = some (.ref D)) : FnOk P w K mg base CX0 1 f fd ["self", "moment"] (znK C "moment") := by
  refine F.ok zmw (fun vs H Q E h => ?_) (fun cdv A outer s H vs Q E hr h => ?_)
  · obtain ⟨a, v, fr, rfl, _⟩ := h
    rfl
  · obtain ⟨a, v, fr, rfl, ha, k⟩ := h
    refine ⟨_, zgo (zhR (zjd (zbq (v := .ref D) rfl hm rfl) Z (zap (pv 0) (zap zjy zbh)))) (zh2 (zkx (pv 0) (pv 1) rfl)), ?_⟩
    refine ⟨_, rfl, a, C, fr, _, rfl, ha, T.xc, T.sub, by decide, ?_⟩
    exact ⟨_, rfl, _, rfl, a, C, fr, rfl, T.xc, T.no, .inl ⟨ha, fun d hd ne => k d hd ne⟩⟩
end
def zkw (K : PySem.W.Frag) : Sp := fun vs H Q _ => ∃ (a : Addr) (ns : List Int), vs = [.ref a] /\ SqL K H a (ns.map V.int) /\ ns.length <= 63 /\ ∀ H', Q (.bl true) H'
theorem zoI [KC] (vs : List V) (H : Hp) (Q : VK) (E : XK) (h : zkw KC.K vs H Q E) : spP ziU vs H Q E := by
  obtain ⟨a, ns, rfl, hS, hl, hQ⟩ := h
  refine ⟨H, [.scr ns], fun _ _ z => z, .cons (.scr hS) .nil, ?_⟩
  rw [zpu ns hl]
  intro x H' R' _ hx
  cases hx
  exact hQ H'
theorem all_mk {l : PySem.W.OpenLaw} {w : World} {h : Heap} {mg : Str -> Option Value} {fa : Addr} (X : (KK w.params).In h) (G : h.Ns mainGlobals mg) (hfa : mg "law" = some (.ref fa)) :
    ∃ fd : FuncData, (∀ (s : Shared) (v : Value), BindsTo s fd ⟨[v], []⟩ [("_law_script", v)]) /\ ∀ base : Heap, (KK w.params).In base -> base.Ns mainGlobals mg -> FnOk l.prog w (KK w.params) mg base CX0 101 fa fd ["_law_script"] (zkw (KK w.params)) := by
  letI : KC := ⟨KK w.params, zrW⟩
  have mg0 : ∀ {n : Str}, PySem.W.nsIn (KK w.params) mainGlobals n = some none -> mg n = none := fun z => PySem.W.mg_none_of X G z
  have mg1 : ∀ {n : Str} {v : Value}, PySem.W.nsIn (KK w.params) mainGlobals n = some (some v) -> mg n = some v := fun z => PySem.W.mg_of X G z
  have cl : exL.all (fun C => Xf.clsB KC.K (KC.cls C) (Xf.upOf C) (Xf.nwOf C)) = true := by kernel_rfl
  have xc : ∀ C, exL.contains C = true -> XC KC.K (KC.cls C) := fun C hc => (Xf.all_cls cl hc).2.xc
  have xV := Xf.xin_pe (K := KK w.params) (D := zrW .PointError) (by kernel_rfl) (by kernel_rfl) (by kernel_rfl)
  obtain ⟨q_NoAsks, z_NoAsks⟩ := Xf.all_cls cl (C := .NoAsks) (by decide)
  obtain ⟨fd_NoAsks, U_NoAsks⟩ := Xf.fun_K (K := KK w.params) (x := "__init__") (q := "NoAsks.__init__") (st := (L2.inClass (top 4) 0)) (a := 79) (cd := 78) (pm := (Hd.vS "thirdpoint.errors" 187)) (by kernel_rfl) (by kernel_rfl) (by kernel_rfl)
  obtain ⟨q_NoRun, z_NoRun⟩ := Xf.all_cls cl (C := .NoRun) (by decide)
  obtain ⟨fd_NoRun, U_NoRun⟩ := Xf.fun_K (K := KK w.params) (x := "__init__") (q := "NoRun.__init__") (st := (L2.inClass (top 5) 0)) (a := 98) (cd := 97) (pm := (Hd.vS "thirdpoint.errors" 187)) (by kernel_rfl) (by kernel_rfl) (by kernel_rfl)
  obtain ⟨q_NoTop, z_NoTop⟩ := Xf.all_cls cl (C := .NoTop) (by decide)
  obtain ⟨q_NoTree, z_NoTree⟩ := Xf.all_cls cl (C := .NoTree) (by decide)
  have M : Nm mg := ⟨mg0 (n := "bool") (by kernel_rfl),
    mg0 (n := "enumerate") (by kernel_rfl),
    mg0 (n := "int") (by kernel_rfl),
    mg0 (n := "isinstance") (by kernel_rfl),
    mg0 (n := "len") (by kernel_rfl),
    mg0 (n := "list") (by kernel_rfl),
    mg0 (n := "max") (by kernel_rfl),
    mg0 (n := "min") (by kernel_rfl),
    mg0 (n := "range") (by kernel_rfl),
    mg0 (n := "repr") (by kernel_rfl),
    mg0 (n := "sorted") (by kernel_rfl),
    mg0 (n := "tuple") (by kernel_rfl),
    ⟨559, mg1 (n := "LAST_KEY") (v := .int 30 559) (by kernel_rfl)⟩,
    ⟨570, mg1 (n := "MOST_ASKS") (v := .int 31 570) (by kernel_rfl)⟩,
    mg1 (n := "NoAsks") (v := .ref 82) (by kernel_rfl),
    mg1 (n := "NoBack") (v := .ref 259) (by kernel_rfl),
    mg1 (n := "NoBox") (v := .ref 63) (by kernel_rfl),
    mg1 (n := "NoKey") (v := .ref 246) (by kernel_rfl),
    mg1 (n := "NoName") (v := .ref 226) (by kernel_rfl),
    mg1 (n := "NoPoint") (v := .ref 206) (by kernel_rfl),
    mg1 (n := "NoPoints") (v := .ref 44) (by kernel_rfl),
    mg1 (n := "NoRow") (v := .ref 187) (by kernel_rfl),
    mg1 (n := "NoRun") (v := .ref 101) (by kernel_rfl),
    mg1 (n := "NoText") (v := .ref 120) (by kernel_rfl),
    mg1 (n := "NoTop") (v := .ref 163) (by kernel_rfl),
    mg1 (n := "NoTree") (v := .ref 151) (by kernel_rfl),
    mg1 (n := "NoTurn") (v := .ref 139) (by kernel_rfl),
    mg1 (n := "NotServed") (v := .ref 175) (by kernel_rfl),
    mg1 (n := "PointError") (v := .ref 24) (by kernel_rfl),
    mg1 (n := "TooMany") (v := .ref 279) (by kernel_rfl),
    fun P w2 base => ⟨⟨79, fd_NoAsks, zno F.excBase_ValueError (by decide +kernel) (XB.of F.excBase_ValueError) q_NoAsks (by kernel_rfl) (by kernel_rfl), zlH U_NoAsks ⟨z_NoAsks.xc, by kernel_rfl, by show PySem.W.findIn _ _ _ = _; kernel_rfl⟩ xV (mg1 (by kernel_rfl)), U_NoAsks.binds (ps := ["self", "number"]) fun _ _ _ _ _ _ us hl => match us, hl with | [_, _], _ => rfl⟩, z_NoAsks⟩,
    fun P w2 base => ⟨⟨98, fd_NoRun, zno F.excBase_ValueError (by decide +kernel) (XB.of F.excBase_ValueError) q_NoRun (by kernel_rfl) (by kernel_rfl), znI U_NoRun ⟨z_NoRun.xc, by kernel_rfl, by show PySem.W.findIn _ _ _ = _; kernel_rfl⟩ xV (mg1 (by kernel_rfl)), U_NoRun.binds (ps := ["self", "moment"]) fun _ _ _ _ _ _ us hl => match us, hl with | [_, _], _ => rfl⟩, z_NoRun⟩,
    zkt F.excBase_ValueError (by decide +kernel) (XB.of F.excBase_ValueError) q_NoTop z_NoTop.xc (by kernel_rfl) (by kernel_rfl),
    z_NoTop,
    zkt F.excBase_ValueError (by decide +kernel) (XB.of F.excBase_ValueError) q_NoTree z_NoTree.xc (by kernel_rfl) (by kernel_rfl),
    z_NoTree,
    Xf.kit_of (by kernel_rfl) xc,
    Xf.kit_of (by kernel_rfl) xc,
    Xf.kit_of (by kernel_rfl) xc,
    Xf.kit_of (by kernel_rfl) xc,
    Xf.kit_of (by kernel_rfl) xc,
    Xf.kit_of (by kernel_rfl) xc,
    Xf.kit_of (by kernel_rfl) xc,
    Xf.kit_of (by kernel_rfl) xc,
    Xf.kit_of (by kernel_rfl) xc,
    Xf.kit_of (by kernel_rfl) xc,
    Xf.kit_of (by kernel_rfl) xc,
    Xf.kit_of (by kernel_rfl) xc,
    Xf.kit_of (by kernel_rfl) xc,
    Xf.kit_of (by kernel_rfl) xc,
    Xf.kit_of (by kernel_rfl) xc,
    Xf.kit_of (by kernel_rfl) xc,
    Xf.mt_of (by kernel_rfl),
    Xf.na_of (by kernel_rfl) xc⟩
  have T : Ats mg := ⟨Xf.at_K (a := 394) (cd := 393) (pm := (Hd.vS "law_thirdpoint_k20_runs_looked_at" 687)) X G (by kernel_rfl) (by kernel_rfl) (by kernel_rfl) (by kernel_rfl),
    Xf.at_K (a := 401) (cd := 400) (pm := (Hd.vS "law_thirdpoint_k20_runs_looked_at" 687)) X G (by kernel_rfl) (by kernel_rfl) (by kernel_rfl) (by kernel_rfl),
    Xf.at_K (a := 472) (cd := 471) (pm := (Hd.vS "law_thirdpoint_k20_runs_looked_at" 687)) X G (by kernel_rfl) (by kernel_rfl) (by kernel_rfl) (by kernel_rfl),
    Xf.at_K (a := 408) (cd := 407) (pm := (Hd.vS "law_thirdpoint_k20_runs_looked_at" 687)) X G (by kernel_rfl) (by kernel_rfl) (by kernel_rfl) (by kernel_rfl),
    Xf.at_K (a := 429) (cd := 428) (pm := (Hd.vS "law_thirdpoint_k20_runs_looked_at" 687)) X G (by kernel_rfl) (by kernel_rfl) (by kernel_rfl) (by kernel_rfl),
    Xf.at_K (a := 460) (cd := 459) (pm := (Hd.vS "law_thirdpoint_k20_runs_looked_at" 687)) X G (by kernel_rfl) (by kernel_rfl) (by kernel_rfl) (by kernel_rfl),
    Xf.at_K (a := 415) (cd := 414) (pm := (Hd.vS "law_thirdpoint_k20_runs_looked_at" 687)) X G (by kernel_rfl) (by kernel_rfl) (by kernel_rfl) (by kernel_rfl),
    Xf.at_K (a := 422) (cd := 421) (pm := (Hd.vS "law_thirdpoint_k20_runs_looked_at" 687)) X G (by kernel_rfl) (by kernel_rfl) (by kernel_rfl) (by kernel_rfl),
    Xf.at_K (a := 465) (cd := 464) (pm := (Hd.vS "law_thirdpoint_k20_runs_looked_at" 687)) X G (by kernel_rfl) (by kernel_rfl) (by kernel_rfl) (by kernel_rfl),
    Xf.at_K (a := 448) (cd := 447) (pm := (Hd.vS "law_thirdpoint_k20_runs_looked_at" 687)) X G (by kernel_rfl) (by kernel_rfl) (by kernel_rfl) (by kernel_rfl),
    Xf.at_K (a := 289) (cd := 288) (pm := (Hd.vS "thirdpoint.points" 557)) X G (by kernel_rfl) (by kernel_rfl) (by kernel_rfl) (by kernel_rfl),
    Xf.at_K (a := 303) (cd := 302) (pm := (Hd.vS "thirdpoint.trees" 581)) X G (by kernel_rfl) (by kernel_rfl) (by kernel_rfl) (by kernel_rfl),
    Xf.at_K (a := 310) (cd := 309) (pm := (Hd.vS "thirdpoint.trees" 581)) X G (by kernel_rfl) (by kernel_rfl) (by kernel_rfl) (by kernel_rfl),
    Xf.at_K (a := 366) (cd := 365) (pm := (Hd.vS "thirdpoint.runs" 665)) X G (by kernel_rfl) (by kernel_rfl) (by kernel_rfl) (by kernel_rfl),
    Xf.at_K (a := 317) (cd := 316) (pm := (Hd.vS "thirdpoint.trees" 581)) X G (by kernel_rfl) (by kernel_rfl) (by kernel_rfl) (by kernel_rfl),
    Xf.at_K (a := 338) (cd := 337) (pm := (Hd.vS "thirdpoint.tops" 626)) X G (by kernel_rfl) (by kernel_rfl) (by kernel_rfl) (by kernel_rfl),
    Xf.at_K (a := 324) (cd := 323) (pm := (Hd.vS "thirdpoint.trees" 581)) X G (by kernel_rfl) (by kernel_rfl) (by kernel_rfl) (by kernel_rfl),
    Xf.at_K (a := 345) (cd := 344) (pm := (Hd.vS "thirdpoint.tops" 626)) X G (by kernel_rfl) (by kernel_rfl) (by kernel_rfl) (by kernel_rfl),
    Xf.at_K (a := 331) (cd := 330) (pm := (Hd.vS "thirdpoint.trees" 581)) X G (by kernel_rfl) (by kernel_rfl) (by kernel_rfl) (by kernel_rfl),
    Xf.at_K (a := 296) (cd := 295) (pm := (Hd.vS "thirdpoint.asks" 568)) X G (by kernel_rfl) (by kernel_rfl) (by kernel_rfl) (by kernel_rfl),
    Xf.at_K (a := 352) (cd := 351) (pm := (Hd.vS "thirdpoint.tops" 626)) X G (by kernel_rfl) (by kernel_rfl) (by kernel_rfl) (by kernel_rfl),
    Xf.at_K (a := 359) (cd := 358) (pm := (Hd.vS "thirdpoint.tops" 626)) X G (by kernel_rfl) (by kernel_rfl) (by kernel_rfl) (by kernel_rfl),
    Xf.at_K (a := 373) (cd := 372) (pm := (Hd.vS "thirdpoint.runs" 665)) X G (by kernel_rfl) (by kernel_rfl) (by kernel_rfl) (by kernel_rfl),
    Xf.at_K (a := 455) (cd := 454) (pm := (Hd.vS "law_thirdpoint_k20_runs_looked_at" 687)) X G (by kernel_rfl) (by kernel_rfl) (by kernel_rfl) (by kernel_rfl),
    Xf.at_K (a := 479) (cd := 478) (pm := (Hd.vS "law_thirdpoint_k20_runs_looked_at" 687)) X G (by kernel_rfl) (by kernel_rfl) (by kernel_rfl) (by kernel_rfl),
    Xf.at_K (a := 380) (cd := 379) (pm := (Hd.vS "law_thirdpoint_k20_runs_looked_at" 687)) X G (by kernel_rfl) (by kernel_rfl) (by kernel_rfl) (by kernel_rfl),
    Xf.at_K (a := 387) (cd := 386) (pm := (Hd.vS "law_thirdpoint_k20_runs_looked_at" 687)) X G (by kernel_rfl) (by kernel_rfl) (by kernel_rfl) (by kernel_rfl),
    Xf.at_K (a := 441) (cd := 440) (pm := (Hd.vS "law_thirdpoint_k20_runs_looked_at" 687)) X G (by kernel_rfl) (by kernel_rfl) (by kernel_rfl) (by kernel_rfl),
    Xf.at_K (a := 484) (cd := 483) (pm := (Hd.vS "law_thirdpoint_k20_runs_looked_at" 687)) X G (by kernel_rfl) (by kernel_rfl) (by kernel_rfl) (by kernel_rfl)⟩
  obtain ⟨d, U⟩ := Xf.fun_K (K := KK w.params) (x := "law") (q := "law") (st := zfP) (a := 484) (cd := 483) (pm := (Hd.vS "law_thirdpoint_k20_runs_looked_at" 687)) (by kernel_rfl) (by kernel_rfl) (by kernel_rfl)
  have e : mg "law" = some (.ref 484) := mg1 (by kernel_rfl)
  rw [hfa] at e
  cases e
  refine ⟨d, fun s v => ?_, fun base _ _ => (zpn T M U).imp fun vs H Q E q => zoI vs H Q E q⟩
  obtain ⟨oc, od, kV, doc, pm, an, cdv, ct, osl, e, _, _⟩ := U.ex
  rw [e]
  exact .of_eq rfl
end K20
end
namespace K20
open PySem L2 Ex
theorem walk {l : PySem.W.OpenLaw} {q : Program} {loose : List Str} {XP : (Str -> Option Value) -> Heap -> Prop} {YP : World -> Heap -> Prop} {d : DefRec} {K : Params -> PySem.W.Frag} (hn : l.most = some 63) (hdf : d.params.defaults = [])
    (hY : ∀ (w : World) (h : Heap), YP w h -> (K w.params).In h)
    (F : ∀ (w : World) (mg : Str -> Option Value) (fa : Addr) (h : Heap), (K w.params).In h -> h.Ns mainGlobals mg -> mg d.name = some (.ref fa) ->
      ∃ fd : FuncData, (∀ (s : Shared) (u : Value), BindsTo s fd ⟨[u], []⟩ [("_law_script", u)]) /\ ∀ base : Heap, (K w.params).In base -> base.Ns mainGlobals mg -> FnOk l.prog w (K w.params) mg base CX0 101 fa fd ["_law_script"] (zkw (K w.params))) :
    PySem.W.WalkO q loose XP YP l.row.toRowW d [] (fun f vs => PySem.call f vs) :=
  L2.walk_of (n := 63) (k := 101) (x := "_law_script") (CX := fun _ => CX0) (sp := fun w => zkw (K w.params)) hn (by decide) hdf ⟨rfl, by decide, by decide, rfl⟩ hY F (fun _ _ a ns hl _ hS => ⟨a, ns, rfl, hS, hl, fun _ => rfl⟩) fun _ _ _ _ _ z => z
end K20
open PySem PySem.W PyProof.Rows
set_option maxRecDepth 100000 in
set_option maxHeartbeats 0 in
theorem PySem.Challenge.cw_thirdpoint_k20_runs_looked_at_holds : PySem.Challenge.rw_thirdpoint_k20_runs_looked_at.Holds := by
  w_on; o_law
  refine PySem.W.holds_open (q := view PySem.Challenge.pw_thirdpoint_k20_runs_looked_at K20.kKeep) (Yf := Hook.obs (kHook K20.KK K20.kAs K20.kAs_eq)) (Ya := Hook.val (kHook K20.KK K20.kAs K20.kAs_eq)) (YP := Hook.says (kHook K20.KK K20.kAs K20.kAs_eq)) K20.left (Hook.of (kHook K20.KK K20.kAs K20.kAs_eq)) (Hook.keeps (kHook K20.KK K20.kAs K20.kAs_eq)) (fun s e => xl_of s (Bool.and_eq_true_iff.mp e).1) XL.keeps (by rfl) (by rfl) (by rfl) (fun s e => recFacts_of (Bool.and_eq_true_iff.mp e).2) (by rfl) (by first | assumption | decide +kernel) (by decide +kernel) ⟨rfl, rfl, rfl, rfl, rfl, by decide +kernel⟩ ?hw ?hc
  case hw => w_witness2
  case hc => exact K20.walk (l := PySem.Challenge.rw_thirdpoint_k20_runs_looked_at) rfl rfl (fun w h Y => PySem.W.kIn_of Y) fun w mg fa h KX G hmg => K20.all_mk KX G hmg
