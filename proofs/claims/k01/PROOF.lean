import PyProof.Rows.All
import PyProof.ForAny
import PyProof.TupleKey
import Wide.All
import OpenK.AllK
import Wide.FinOn
import Lean
import PyProof.EqAt
import PyProof.EqKinds
import PyProof.TupleCall
import PyProof.ExcClass3
import PyProof.ExcArgsOwn
import PyProof.InstStoreFacts
import PyProof.NsDelKeeps
import PyProof.CompUse
import PyProof.ConsumeWalk
import PyProof.ReprRoads
import PyProof.ReprBulk
import PyProof.ZipIter
import PyProof.TupleIter
import PyProof.EqLayable
import PyProof.EnumMake
import PyProof.EnumFor
import PyProof.WalkInts
import PyProof.SeqI3
import PyProof.Rows.SeqJoint
import PyProof.Rows.SortWalk
import PyProof.Rows.Range3
import PyProof.Rows.SortRuns
import KE.KSortTup
import PyProof.P3Eq
import PySem.Challenge.RW_thirdpoint_k01_points_made
set_option Elab.async false
set_option linter.all false
set_option maxRecDepth 100000
set_option maxHeartbeats 8000000
noncomputable section
namespace St
open PySem
def kR(xs:Array Nat):Prop:=xs.toList.Pairwise (· < ·)
theorem Gq(xs:Array Nat)(j:Nat)(hr:kR xs):∀ (fuel lo hi:Nat),hi - lo<=fuel->lo<=hi->hi<=xs.size->(∀ i,i<lo->xs.getD i j<j)->(∀ i,hi<=i->i<xs.size->j<=xs.getD i j) ->
 let p:=SetTable.below.go xs j fuel lo hi
 p<=xs.size/\(∀ i,i<p->xs.getD i j<j)/\∀ i,p<=i->i<xs.size->j<=xs.getD i j:=by
 have mono:∀ a b,a<=b->b<xs.size->xs.getD a j<=xs.getD b j:=fun a b h hb=>by
  rcases Nat.lt_or_ge a b with h1 | h1
  · have:=(List.pairwise_iff_getElem.mp hr) a b (by simpa using Nat.lt_trans h1 hb) (by simpa using hb) h1
    simp only[Array.getElem_toList] at this
    rw[Array.getD_eq_getD_getElem?,Array.getD_eq_getD_getElem?,Array.getElem?_eq_getElem hb,Array.getElem?_eq_getElem (Nat.lt_trans h1 hb)]
    exact Nat.le_of_lt this
  · have:a=b:=by omega
    subst this;exact Nat.le_refl _
 intro fuel
 induction fuel with
 |zero =>
   intro lo hi h1 h2 h3 h4 h5
   have:lo=hi:=by omega
   subst this
   exact⟨h3,h4,h5⟩
 |succ f ih =>
   intro lo hi h1 h2 h3 h4 h5
   dsimp only
   unfold SetTable.below.go
   by_cases c:lo<hi
   · rw[if_pos c]
     dsimp only
     by_cases c2:xs.getD ((lo+hi) / 2) j<j
     · rw[if_pos c2]
       exact ih _ _ (by omega) (by omega) h3 (fun i hi'=>Nat.lt_of_le_of_lt (mono i _ (by omega) (by omega)) c2) h5
     · rw[if_neg c2]
       exact ih _ _ (by omega) (by omega) (by omega) h4 (fun i hi' hs=>Nat.le_trans (Nat.le_of_not_lt c2) (mono _ i hi' hs))
   · rw[if_neg c]
     have:lo=hi:=by omega
     subst this
     exact⟨h3,h4,h5⟩
theorem wu{xs:Array Nat}(hr:kR xs)(j:Nat):SetTable.below xs j<=xs.size/\(∀ i,i<SetTable.below xs j->xs.getD i j<j)/\∀ i,SetTable.below xs j<=i->i<xs.size->j<=xs.getD i j :=
 Gq xs j hr xs.size 0 xs.size (by omega) (Nat.zero_le _) (Nat.le_refl _) (fun i h=>absurd h (Nat.not_lt_zero _)) (fun i h1 h2=>absurd h2 (Nat.not_lt_of_le h1))
theorem lJ{xs:Array Nat}{i j:Nat}(h:i<xs.size):xs.getD i j=xs[i]:=by
 rw[Array.getD_eq_getD_getElem?,Array.getElem?_eq_getElem h];rfl
theorem Gr{xs:Array Nat}(hr:kR xs){j:Nat}(hj:xs[SetTable.below xs j]? ≠ some j):kR (SetTable.insertAt xs (SetTable.below xs j) j):=by
 obtain⟨h1,h2,h3⟩:=wu hr j
 have hr':=hr
 unfold kR at hr ⊢
 rw[SetTable.toList_insertAt]
 have hs:(xs.toList.take (SetTable.below xs j)++xs.toList.drop (SetTable.below xs j)).Pairwise (· < ·):=by rw[List.take_append_drop];exact hr
 rw[List.pairwise_append] at hs ⊢
 have lo:∀ a∈xs.toList.take (SetTable.below xs j),a<j:=fun a ha=>by
  obtain⟨i,hi,rfl⟩:=List.mem_iff_getElem.mp ha
  have hi':i<SetTable.below xs j/\i<xs.size:=by simp at hi;omega
  have:=h2 i hi'.1
  rw[lJ hi'.2] at this
  simpa using this
 have hi:∀ a∈xs.toList.drop (SetTable.below xs j),j<a:=fun a ha=>by
  obtain⟨i,hi,rfl⟩:=List.mem_iff_getElem.mp ha
  have hi':SetTable.below xs j+i<xs.size:=by simp at hi;omega
  have hb:SetTable.below xs j<xs.size:=by omega
  have l1:=h3 (SetTable.below xs j) (Nat.le_refl _) hb
  rw[lJ hb] at l1
  have l2:xs[SetTable.below xs j]≠j:=fun e=>hj (by rw[Array.getElem?_eq_getElem hb,e])
  have l3:=h3 (SetTable.below xs j+i) (Nat.le_add_right _ _) hi'
  rw[lJ hi'] at l3
  simp only[List.getElem_drop,Array.getElem_toList]
  rcases Nat.eq_zero_or_pos i with z | z
  · subst z
    exact Nat.lt_of_le_of_ne l1 (Ne.symm l2)
  · have:=(List.pairwise_iff_getElem.mp hr) (SetTable.below xs j) (SetTable.below xs j+i) (by simpa using hb) (by simpa using hi') (by omega)
    simp only[Array.getElem_toList] at this
    omega
 refine⟨hs.1,List.pairwise_cons.mpr ⟨hi,hs.2.1⟩,fun a ha b hb=>?_⟩
 rcases List.mem_cons.1 hb with rfl | hb
 · exact lo a ha
 · exact Nat.lt_trans (lo a ha) (hi b hb)
theorem A6(j:Nat):SetTable.has #[] j=false:=by
 unfold SetTable.has
 simp
theorem Gu{t:SetTable}(hd:t.dummies = #[]){j:Nat}(h:t.slot j = .empty):t.place[SetTable.below t.place j]? ≠ some j:=by
 unfold SetTable.slot at h
 dsimp only at h
 intro e
 rw[e] at h
 simp at h
theorem tV{t:SetTable}(hd:t.dummies = #[])(j:Nat):t.slot j ≠ .dummy:=by
 unfold SetTable.slot
 dsimp only
 rw[hd,A6]
 split
 · intro h;cases h
 · intro h;cases h
theorem Gv{t:SetTable}(hd:t.dummies = #[])(f:Nat->Int)(h:Int):∀ (n:Nat) (p:SetTable.Probe) (j:Nat) (d:Option Nat),p.dummy=none->SetTable.probe.go t f h n p=some (.empty j d)->d=none/\t.slot j = .empty:=by
 intro n
 induction n with
 |zero=>intro p j d _ e;cases e
 |succ n ih =>
   intro p j d hp e
   unfold SetTable.probe.go at e
   split at e
   · rename_i q
     cases e
     exact⟨hp,q⟩
   · rename_i q
     exact absurd q (tV hd _)
   · rename_i i q
     split at e
     · cases e
     · refine ih _ j d ?_ e
       unfold SetTable.advance
       split
       · exact hp
       · exact hp
structure o8(t:SetTable)(B:Bool):Prop where
 rise:kR t.place
 m5:t.dummies = #[]
 led:t.led = !B
theorem Gw(owner:Array (Option Nat))(n:Nat):((((List.range n).filterMap fun j=>(owner.getD j none).map (j, ·)).map (·.1)).toArray).toList.Pairwise (· < ·):=by
 have e:(((List.range n).filterMap fun j=>(owner.getD j none).map (j, ·)).map (·.1))=(List.range n).filter fun j=>(owner.getD j none).isSome:=by
  induction List.range n with
  |nil=>rfl
  |cons a r ih =>
    rw[List.filterMap_cons,List.filter_cons]
    cases q:owner.getD a none with
    |none=>simpa [q] using ih
    |some b=>simpa [q] using ih
 rw[e]
 exact List.Pairwise.sublist List.filter_sublist List.pairwise_lt_range
theorem o8.fresh(B:Bool):o8 (.fresh 0 0 (!B)) B:=⟨List.Pairwise.nil,rfl,rfl⟩
end St
namespace St
open PySem PyProof.Rows
def bh(es:Array (Int×Value))(ep:Nat)(t:SetTable):Obj:={ cls:=.type "set",dict:=none,data:=.set es ep t,slots := #[] }
section
variable{prog:Program}{w:World}{A:Around}{E:Value->Shared->Prop}{s:Shared}
theorem A7{h:Heap}{a:Addr}{es es':Array (Int×Value)}{ep:Nat}{t t':SetTable}(e:h.get? a=some (bh es ep t)):(h.update a (Obj.putSet es' t')).get? a=some (bh es' (ep+1) t') :=
 Heap.get?_update_self (Obj.putSet es' t') e rfl
end
end St
namespace St
open PySem PyProof.Rows PySem.Spec
section
variable{prog:Program}{w:World}{A:Around}{E:Value->Shared->Prop}{s:Shared}
theorem Gx(a:Value){Q₁:Value->Shared->Prop}(h:Q₁ (.ref s.heap.objs.size) { s with heap:=s.heap.push (bh #[] 0 (.fresh 0 0 (!(w.params.followText "set-order")))) }) :
 codeAny (model prog w) A (.call (.builtin "set.__new__") ⟨[.type "set",a],[]⟩) (wants Q₁ E) s:=by
 have self:=sub_set_self
 refine codeAny_call_builtin F.plain_set_new F.entry_set_new (by
  rw[F.newCall_set_1 a]
  refine wpAny_pure ?_
  unfold Builtin.«set.__new__»
  unfold Builtin.Frozenset.newClass
  cases s
  dsimp only
  wp_walk
  refine wpAny_askSetting ?_
  refine wpAny_pure ?_
  refine wpAny_bind ?_
  exact wpAny_alloc (wpAny_pure (wpAny_pure h)))
theorem A8{Q₁:Value->Shared->Prop}{R:Result->Shared->Prop}(h:∀ v s,Q₁ v s->R (.ok (.ret v)) s)(he:∀ e s,E e s->R (.error e) s):∀ r s,wants Q₁ E r s->R r s:=by
 intro r s hr
 cases r with
 |error e=>exact he e s hr
 |ok f=>cases f<;>first | exact h _ _ hr | exact hr.elim
theorem Gy{l:Addr}{Q:Value->Shared->Prop}{O:Obj}(hO:bh #[] 0 (.fresh 0 0 (!(w.params.followText "set-order")))=O)
 (h:wpAny (model prog w) A.in1.in1 (Builtin.«set.__init__» ⟨[.ref s.heap.objs.size,.ref l],[]⟩) (fun fin s'=>match fin with
  | .done f=>wants (fun r s2=>r = .none/\Q (.ref s.heap.objs.size) s2) E (.ok f) s'
  | .again c'=>c'.quiet=true/\codeAny (model prog w) A.in1 c' (wants (fun r s2=>r = .none/\Q (.ref s.heap.objs.size) s2) E) s')
  (fun e s'=>wants (fun r s2=>r = .none/\Q (.ref s.heap.objs.size) s2) E (.error e) s') { s with heap:=s.heap.push O }):wpAny (model prog w) A (call (.type "set") [.ref l]) Q E s:=by
 obtain⟨f1,f2,⟨c,tl,f3⟩,f4,f5,f6,f7⟩:=F.called_set
 have f8:=F.typeCall_set_1 (.ref l)
 have f9:=f7.lookup
 have fa:=f7.bind (.ref s.heap.objs.size)
 have made:=Gx (prog:=prog) (w:=w) (A:=A.in1) (E:=E) (s:=s) (.ref l) (Q₁:=fun v s1=>v = .ref s.heap.objs.size/\s1={ s with heap:=s.heap.push O }) ⟨rfl,by rw[hO]⟩
 have hT:Shared.TypeIs { s with heap:=s.heap.push O } (.ref s.heap.objs.size) "set" := ⟨O,Heap.get?_push_size _ (by rw[<- hO];rfl),by rw[<- hO];rfl⟩
 have ini:=codeAny_call_builtin f7.plain F.entry_set_init (check_set_init_1 (M:=model prog w) hT h)
 refine wpAny_call (codeAny_of_tree (show wpAny _ _ (callAny (.type "set") _) _ _ _ from wpAny_pure ⟨Code.quiet_builtin _ (by decide +kernel),codeAny_builtin F.entry_type_call (by
  rw[Around.under_plain (weight_type_call_type "set" _ []) rfl]
  repeat (any_goals (first | wp_step | assumption))
  refine codeAny_mono made (A8 ?_ fun _ _ z=>z)
  rintro v s1 ⟨rfl,rfl⟩
  repeat (any_goals (first | wp_step | assumption))
  refine codeAny_mono ini (A8 ?_ fun _ _ z=>z)
  rintro v s2 ⟨rfl,q⟩
  repeat (any_goals (first | wp_step | assumption)))⟩))
end
theorem bb:Slot "set_iterator" "__next__" "set_iterator.__next__" :=
 .of (owner := "set_iterator") (n := "__next__") (by rw[typeLookup_type,builtinLookup_eq_fast];kernel_rfl) (by decide +kernel) (by decide +kernel) (by decide +kernel) (by first | exact .inl (by decide +kernel) | exact .inr (by decide +kernel)) (by rw[isSubtype_type];kernel_rfl)
theorem A9:Slot "set_iterator" "__iter__" "set_iterator.__iter__" :=
 .of (owner := "set_iterator") (n := "__iter__") (by rw[typeLookup_type,builtinLookup_eq_fast];kernel_rfl) (by decide +kernel) (by decide +kernel) (by decide +kernel) (by first | exact .inl (by decide +kernel) | exact .inr (by decide +kernel)) (by rw[isSubtype_type];kernel_rfl)
theorem tW:entryFor table "set_iterator.__next__" = some Builtin.«set_iterator.__next__» := entryFor_of_tree (by kernel_rfl)
theorem Gz:entryFor table "set_iterator.__iter__" = some Builtin.«dict_keyiterator.__iter__» := entryFor_alias (id' := "dict_keyiterator.__iter__") (by kernel_rfl) rfl (by decide +kernel) (by kernel_rfl)
theorem GA:entryFor table "set.__iter__" = some Builtin.«frozenset.__iter__» := entryFor_alias (id' := "frozenset.__iter__") (by kernel_rfl) rfl (by decide +kernel) (by kernel_rfl)
theorem tX(a:Value):argsOk "set_iterator.__next__" ⟨[a],[]⟩:=by unfold argsOk;kernel_rfl
theorem GB(a:Value):argsOk "set_iterator.__iter__" ⟨[a],[]⟩:=by unfold argsOk;kernel_rfl
def kS(f:Value)(i:Nat)(a:Addr)(n ep:Nat):Obj:={ cls:=.type "set_iterator",dict:=none,data:=.fields #[f,.int i 0,.ref a,.int n 0,.int ep 0],slots := #[] }
section
variable{prog:Program}{w:World}{A:Around}{E:Value->Shared->Prop}{s:Shared}{I a:Addr}{es:Array (Int×Value)}{ep i n:Nat}{t:SetTable}{f:Value}{Q:Option Value->Shared->Prop}
theorem stops{s:Shared}{I:Addr}{P:Fin->Shared->Prop}(hh:A.handled=none)(hQ:∀ h',(∀ b o,b≠I->s.heap.get? b=some o->h'.get? b=some o)->Q none { s with heap:=h' }) :
 wpAny (model prog w) A.in1 (do raiseNew (<- newExc (.type "StopIteration") []):Sem Fin) P (fun e s1=>wpAny (model prog w) A (do if <- isInstance e (.type "StopIteration") then pure none else throw e) Q E s1) s:=by
 refine wpAny_bind ?_
 unfold newExc newTuple
 refine wpAny_bind (wpAny_newObj_type (wpAny_bind (m:=firstArgMember _ _) (wpAny_of_eq (a:=Value.none) (by simp only[firstArgMember];rfl) (wpAny_newObj_type ?_ (by size_fits)))) (by size_fits))
 exact wpAny_raiseNew_none hh (wpAny_bind (wpAny_isInstance (T := "StopIteration") ⟨_,Heap.get?_push_size _ rfl,rfl⟩ isSubtype_stop (wpAny_pure (hQ _ fun b o _ e=>Heap.get?_push_of_some _ (Heap.get?_push_of_some _ e)))))
theorem GC{slot nxt:Nat}{x:Value}(hI:s.heap.get? I=some (kS (.int slot 0) i a es.size ep))(ha:s.heap.get? a=some (bh es ep t))(hf:t.fits es.size=true)
 (hN:∀ {Q':Option (Value×Nat)->Shared->Prop} {E'},Q' (some (x,nxt)) s->wpAny (model prog w) A.in1 (setNext a slot i ep) Q' E' s)
 (hQ:∀ h',h'.get? I=some (kS (.int nxt 0) (i+1) a es.size ep)->(∀ b o,b≠I->s.heap.get? b=some o->h'.get? b=some o)->Q (some x) { s with heap:=h' }):wpAny (model prog w) A (pyNext (.ref I)) Q E s:=by
 have hTy:Shared.TypeIs _ (.ref I) "set_iterator" := ⟨_,hI,rfl⟩
 unfold pyNext
 refine wpAny_bind (wpAny_attempt (wpAny_callSpecial?_slot (name:=Str.ofString "__next__") hTy bb (wpAny_call_entry bb hTy tW ?_ (tX _))))
 show wpAny _ _ (fieldsOf (.ref I) >>= _) _ _ _
 refine wpAny_bind (wpAny_fieldsOf hI rfl ?_)
 show wpAny _ _ (setEntries a >>= _) _ _ _
 refine wpAny_bind (wpAny_setEntries_of ha rfl hf ?_)
 rw[if_neg (by simp)]
 dsimp only
 refine wpAny_bind (hN ?_)
 dsimp only
 refine wpAny_bind (wpAny_setField_rec hI (by simp) fun h1 g1 kT=>?_)
 refine wpAny_bind (wpAny_setField_rec g1 (by simp) fun h2 g2 wx=>?_)
 exact wpAny_pure ⟨_,rfl,wpAny_pure (hQ h2 g2 fun b o hb e=>wx.extBut b o hb (kT.extBut b o hb e))⟩
theorem GD{slot:Nat}(hh:A.handled=none)(hI:s.heap.get? I=some (kS (.int slot 0) i a es.size ep))(ha:s.heap.get? a=some (bh es ep t))(hf:t.fits es.size=true)
 (hN:∀ {Q':Option (Value×Nat)->Shared->Prop} {E'},Q' none s->wpAny (model prog w) A.in1 (setNext a slot i ep) Q' E' s)
 (hQ:∀ h',(∀ b o,b≠I->s.heap.get? b=some o->h'.get? b=some o)->Q none { s with heap:=h' }):wpAny (model prog w) A (pyNext (.ref I)) Q E s:=by
 have hTy:Shared.TypeIs _ (.ref I) "set_iterator" := ⟨_,hI,rfl⟩
 unfold pyNext
 refine wpAny_bind (wpAny_attempt (wpAny_callSpecial?_slot (name:=Str.ofString "__next__") hTy bb (wpAny_call_entry bb hTy tW ?_ (tX _))))
 show wpAny _ _ (fieldsOf (.ref I) >>= _) _ _ _
 refine wpAny_bind (wpAny_fieldsOf hI rfl ?_)
 show wpAny _ _ (setEntries a >>= _) _ _ _
 refine wpAny_bind (wpAny_setEntries_of ha rfl hf ?_)
 rw[if_neg (by simp)]
 dsimp only
 refine wpAny_bind (hN ?_)
 dsimp only
 refine wpAny_bind (wpAny_setField_rec hI (by simp) fun h1 g1 kT=>?_)
 exact stops (I:=I) hh fun h' k=>hQ h' fun b o hb e=>k b o hb (kT.extBut b o hb e)
theorem GF{T:Addr}{ps:Array Value}{c p:Nat}{x:Int×Value}(hI:s.heap.get? I=some (kS (.ref T) i a es.size ep))(ha:s.heap.get? a=some (bh es ep t))(hf:t.fits es.size=true)
 (hT:s.heap.get? T=some { cls:=.type "tuple",dict:=none,data:=.seq ps c,slots := #[] }) (hp:ps[i]? = some (.int p 0)) (hx:es[p]? = some x)
 (hQ:∀ h',h'.get? I=some (kS (.ref T) (i+1) a es.size ep)->(∀ b o,b≠I->s.heap.get? b=some o->h'.get? b=some o)->Q (some x.2) { s with heap:=h' }):wpAny (model prog w) A (pyNext (.ref I)) Q E s:=by
 have hTy:Shared.TypeIs _ (.ref I) "set_iterator" := ⟨_,hI,rfl⟩
 unfold pyNext
 refine wpAny_bind (wpAny_attempt (wpAny_callSpecial?_slot (name:=Str.ofString "__next__") hTy bb (wpAny_call_entry bb hTy tW ?_ (tX _))))
 show wpAny _ _ (fieldsOf (.ref I) >>= _) _ _ _
 refine wpAny_bind (wpAny_fieldsOf hI rfl ?_)
 show wpAny _ _ (setEntries a >>= _) _ _ _
 refine wpAny_bind (wpAny_setEntries_of ha rfl hf ?_)
 rw[if_neg (by simp)]
 dsimp only
 refine wpAny_bind (wpAny_seqItems hT rfl ?_)
 simp only[Int.toNat_natCast,hp]
 refine wpAny_bind ?_
 unfold setNextDrawn
 refine wpAny_bind (wpAny_setState_of ha rfl hf ?_)
 dsimp only
 rw[if_neg (by simp)]
 simp only[Int.toNat_natCast,hx]
 refine wpAny_pure ?_
 refine wpAny_bind (wpAny_setField_rec hI (by simp) fun h1 g1 kT=>?_)
 exact wpAny_pure ⟨_,rfl,wpAny_pure (hQ h1 g1 fun b o hb e=>kT.extBut b o hb e)⟩
theorem GG{T:Addr}{ps:Array Value}{c:Nat}(hh:A.handled=none)(hI:s.heap.get? I=some (kS (.ref T) i a es.size ep))(ha:s.heap.get? a=some (bh es ep t))(hf:t.fits es.size=true)
 (hT:s.heap.get? T=some { cls:=.type "tuple",dict:=none,data:=.seq ps c,slots := #[] }) (hp:ps[i]? = none)
 (hQ:∀ h',(∀ b o,b≠I->s.heap.get? b=some o->h'.get? b=some o)->Q none { s with heap:=h' }):wpAny (model prog w) A (pyNext (.ref I)) Q E s:=by
 have hTy:Shared.TypeIs _ (.ref I) "set_iterator" := ⟨_,hI,rfl⟩
 unfold pyNext
 refine wpAny_bind (wpAny_attempt (wpAny_callSpecial?_slot (name:=Str.ofString "__next__") hTy bb (wpAny_call_entry bb hTy tW ?_ (tX _))))
 show wpAny _ _ (fieldsOf (.ref I) >>= _) _ _ _
 refine wpAny_bind (wpAny_fieldsOf hI rfl ?_)
 show wpAny _ _ (setEntries a >>= _) _ _ _
 refine wpAny_bind (wpAny_setEntries_of ha rfl hf ?_)
 rw[if_neg (by simp)]
 dsimp only
 refine wpAny_bind (wpAny_seqItems hT rfl ?_)
 simp only[Int.toNat_natCast,hp]
 refine wpAny_bind (wpAny_setField_rec hI (by simp) fun h1 g1 kT=>?_)
 refine wpAny_bind (wpAny_setField_rec g1 (by simp) fun h2 g2 wx=>?_)
 exact stops (I:=I) hh fun h' k=>hQ h' fun b o hb e=>k b o hb (wx.extBut b o hb (kT.extBut b o hb e))
theorem A_{Q:Value->Shared->Prop}(hI:s.heap.get? I=some (kS f i a n ep))(hQ:Q (.ref I) s):wpAny (model prog w) A (pyIter (.ref I)) Q E s:=by
 have hT:s.TypeIs (.ref I) "set_iterator" := ⟨_,hI,rfl⟩
 refine wpAny_pyIter_slot hT A9 (wpAny_call_entry A9 hT Gz ?_ (GB _))
 exact wpAny_pure ⟨_,rfl,"set_iterator",_,hT,bb.lookup,hQ⟩
end
theorem Ba{α:Type}{l:List α}{i:Nat}(h:i<l.length):(l[i]::l.eraseIdx i).Perm l:=by
 rw[List.eraseIdx_eq_take_drop_succ]
 refine List.perm_middle.symm.trans ?_
 rw[<- List.drop_eq_getElem_cons h,List.take_append_drop]
theorem GH{α:Type}(next:Nat->Nat):∀ (fuel k:Nat) (left:List α) (out:Array α),fuel=left.length->((pickOrder.go next fuel k left out).toList).Perm (out.toList++left):=by
 intro fuel
 induction fuel with
 |zero =>
   intro k left out h
   have:left=[]:=List.length_eq_zero_iff.mp h.symm
   subst this
   unfold pickOrder.go
   simp
 |succ f ih =>
   intro k left out h
   unfold pickOrder.go
   have hlt:next k % left.length<left.length:=Nat.mod_lt _ (by omega)
   rw[List.getElem?_eq_getElem hlt]
   dsimp only
   refine(ih (k+1) _ _ (by rw[List.length_eraseIdx_of_lt hlt];omega)).trans ?_
   rw[Array.toList_push,List.append_assoc]
   exact List.Perm.append_left _ (Ba hlt)
theorem GJ{α:Type}(next:Nat->Nat)(xs:Array α):(pickOrder next xs).toList.Perm xs.toList:=by
 have:=GH next xs.size 0 xs.toList #[] (by simp)
 simpa [pickOrder] using this
section
variable{prog:Program}{w:World}{A:Around}{E:Value->Shared->Prop}{s:Shared}{I a:Addr}{es:Array (Int×Value)}{ep n:Nat}{t:SetTable}
theorem GK{src:Source}{n:Nat}(hn:n≠0){Q:Nat->Shared->Prop}(h:∀ i d,i<n->Q i { s with drawn:=d }):wpAny (model prog w) A (choose src n) Q E s:=by
 intro Γ p tY
 unfold choose
 rw[Sem.wp_choose]
 refine⟨hn,?_⟩
 exact h _ _ (Nat.mod_lt _ (Nat.pos_of_ne_zero hn))
theorem GL{α:Type}:∀ (n:Nat) (xs:List α) (s:Shared) (Q:List α->Shared->Prop),n=xs.length->(∀ l d,l.Perm xs->Q l { s with drawn:=d })->wpAny (model prog w) A (drawOrder n xs) Q E s:=by
 intro n
 induction n with
 |zero =>
   intro xs s Q h q
   have:xs=[]:=List.length_eq_zero_iff.mp h.symm
   subst this
   unfold drawOrder
   exact wpAny_pure (q [] s.drawn .nil)
 |succ n ih =>
   intro xs s Q h q
   cases xs with
   |nil=>cases h
   |cons x r =>
     unfold drawOrder
     refine wpAny_bind (GK (by simp) fun i d hi=>?_)
     rw[List.getElem?_eq_getElem hi]
     dsimp only
     refine wpAny_bind (ih _ _ _ (by rw[List.length_eraseIdx_of_lt hi];simp at h ⊢;omega) fun l d' pl=>?_)
     exact wpAny_pure (q _ d' ((List.Perm.cons _ pl).trans (Ba hi)))
def pos(xs:Array Nat):Nat->Nat
 | 0=>0
 |k+1=>xs.getD k 0+1
theorem Bb{xs:Array Nat}(hr:kR xs){i:Nat}(hi:i<=xs.size):SetTable.below xs (pos xs i)=i:=by
 obtain⟨h1,h2,h3⟩:=wu hr (pos xs i)
 generalize SetTable.below xs (pos xs i)=p at h1 h2 h3
 cases i with
 |zero =>
   rcases Nat.eq_zero_or_pos p with z | z
   · exact z
   · exact absurd (h2 0 z) (Nat.not_lt_zero _)
 |succ k =>
   have hk:k<xs.size:=hi
   have ek:pos xs (k+1)=xs[k]+1:=by show xs.getD k 0+1=_;rw[lJ hk]
   rw[ek] at h2 h3
   have lt:∀ a b (ha:a<b) (hb:b<xs.size),xs[a]<xs[b]:=fun a b ha hb=>by
    have:=(List.pairwise_iff_getElem.mp hr) a b (by simpa using Nat.lt_trans ha hb) (by simpa using hb) ha
    simpa using this
   have a1:k<p:=Nat.lt_of_not_le fun z=>by
    have:=h3 k z hk
    rw[lJ hk] at this
    omega
   have a2:p<=k+1:=Nat.le_of_not_lt fun z=>by
    have l1:=h2 (k+1) z
    have hk1:k+1<xs.size:=by omega
    rw[lJ hk1] at l1
    have:=lt k (k+1) (Nat.lt_succ_self _) hk1
    omega
   omega
theorem Bc(ha:s.heap.get? a=some (bh es ep t))(hf:t.fits es.size=true)(hB:w.params.followText "set-order" = true){slot i:Nat}{Q:Option (Value×Nat)->Shared->Prop}
 (h:Q (((pickOrder (w.params.setOrder a ep) es)[i]?).map fun e=>(e.2,slot)) s):wpAny (model prog w) A (setNext a slot i ep) Q E s:=by
 unfold setNext
 refine wpAny_bind (wpAny_setState_of ha rfl hf ?_)
 dsimp only
 refine wpAny_bind ?_
 unfold setsByText
 refine wpAny_bind (wpAny_askSetting (wpAny_pure ?_))
 dsimp only
 rw[show(model prog w).w.params.followText "set-order" = true from hB,if_pos rfl,if_neg (by simp)]
 refine wpAny_bind ?_
 unfold setWalk setsByText
 refine wpAny_bind (wpAny_setState_of ha rfl hf ?_)
 dsimp only
 refine  wpAny_bind (wpAny_bind (wpAny_askSetting (wpAny_pure ?_)))
 dsimp only
 rw[show(model prog w).w.params.followText "set-order" = true from hB,if_pos rfl]
 refine wpAny_bind (wpAny_askSetting (wpAny_pure (wpAny_pure h)))
theorem Bd(ha:s.heap.get? a=some (bh es ep t))(hf:t.fits es.size=true)(hB:w.params.followText "set-order" = false)(hl:t.led=true)(hd:(!t.plain && decide (es.size > 1))=false){slot i:Nat}{Q:Option (Value×Nat)->Shared->Prop}
 (h:Q (match es[SetTable.below t.place slot]?,t.place[SetTable.below t.place slot]? with | some (_,x),some j=>some (x,j+1) | _,_=>none) s):wpAny (model prog w) A (setNext a slot i ep) Q E s:=by
 unfold setNext
 refine wpAny_bind (wpAny_setState_of ha rfl hf ?_)
 dsimp only
 refine wpAny_bind ?_
 unfold setsByText
 refine wpAny_bind (wpAny_askSetting (wpAny_pure ?_))
 dsimp only
 rw[show(model prog w).w.params.followText "set-order" = false from hB,if_neg (by simp)]
 split
 · rename_i z
   have z':(!t.plain && decide (es.size > 1))=true:=z
   rw[hd] at z'
   cases z'
 · refine wpAny_bind (wpAny_of_eq (a:=()) ?_ ?_)
   · show(if (!t.led && !es.isEmpty)=true then unsupported "set:maker-not-led" else pure ())=pure ()
     rw[hl]
     rfl
   · exact wpAny_pure h
theorem Be(hh:A.handled=none)(hf:t.fits es.size=true)(hne:a≠I){vs:List Value}{fst:Nat->Nat}
 (hi:∀ (i:Nat) (v:Value),vs[i]? = some v->∀ {s:Shared} {A':Around} {Q':Option (Value×Nat)->Shared->Prop} {E'},s.heap.get? a=some (bh es ep t)->Q' (some (v,fst (i+1))) s->wpAny (model prog w) A' (setNext a (fst i) i ep) Q' E' s)
 (hd:∀ {s:Shared} {A':Around} {Q':Option (Value×Nat)->Shared->Prop} {E'},s.heap.get? a=some (bh es ep t)->Q' none s->wpAny (model prog w) A' (setNext a (fst vs.length) vs.length ep) Q' E' s) :
 Walks prog w A I [I,a] [I] vs.length (fun i v=>vs[i]? = some v) (fun i h=>h.get? I=some (kS (.int (fst i) 0) i a es.size ep)/\h.get? a=some (bh es ep t)) where
 sub:=fun b hb=>by simp at hb;simp[hb]
 frame:=fun i h h' st k=>⟨k I (by simp) _ st.1,k a (by simp) _ st.2⟩
 item:=fun i s Q E hlt st hQ=>by
  refine GC (x:=vs[i]) (nxt:=fst (i+1)) st.1 st.2 hf (fun q=>hi i _ (List.getElem?_eq_getElem hlt) st.2 q) fun h' g k=>?_
  exact hQ _ h' s.toks (List.getElem?_eq_getElem hlt) ⟨g,k a _ hne st.2⟩ fun b o hb e=>k b o (fun z=>hb (by simp[z])) e
 done:=fun s Q E st hQ=>GD hh st.1 st.2 hf (fun q=>hd st.2 q) fun h' k=>hQ h' s.toks fun b o hb e=>k b o (fun z=>hb (by simp[z])) e
 self:=fun _ _ _ _ st hQ=>A_ st.1 hQ
theorem GN(hh:A.handled=none)(hf:t.fits es.size=true)(hne:a≠I){T:Addr}(hT:T≠I){ps:List Nat}{c:Nat}{vs:List Value}(hl:ps.length=vs.length)
 (hv:∀ (i p:Nat),ps[i]? = some p->∃ x,es[p]? = some x/\vs[i]? = some x.2) :
 Walks prog w A I [I,a,T] [I] vs.length (fun i v=>vs[i]? = some v) (fun i h=>h.get? I=some (kS (.ref T) i a es.size ep)/\h.get? a=some (bh es ep t)/\h.get? T=some { cls:=.type "tuple",dict:=none,data:=.seq (ps.map fun (p:Nat)=>rawInt p).toArray c,slots := #[] }) where
 sub:=fun b hb=>by simp at hb;simp[hb]
 frame:=fun i h h' st k=>⟨k I (by simp) _ st.1,k a (by simp) _ st.2.1,k T (by simp) _ st.2.2⟩
 item:=fun i s Q E hlt st hQ=>by
  have hlt':i<ps.length:=by omega
  obtain⟨x,hx,GO⟩:=hv i ps[i] (List.getElem?_eq_getElem hlt')
  refine GF (p:=ps[i]) (x:=x) st.1 st.2.1 hf st.2.2 (by simp[List.getElem?_eq_getElem hlt',rawInt]) hx fun h' g k=>?_
  exact hQ _ h' s.toks GO ⟨g,k a _ hne st.2.1,k T _ hT st.2.2⟩ fun b o hb e=>k b o (fun z=>hb (by simp[z])) e
 done:=fun s Q E st hQ=>GG hh st.1 st.2.1 hf st.2.2 (by simp[hl]) fun h' k=>hQ h' s.toks fun b o hb e=>k b o (fun z=>hb (by simp[z])) e
 self:=fun _ _ _ _ st hQ=>A_ st.1 hQ
end
section
variable{prog:Program}{w:World}{A:Around}{E:Value->Shared->Prop}{s:Shared}{a:Addr}{es:Array (Int×Value)}{ep:Nat}{t:SetTable}
theorem GP(hf:t.fits es.size=true):t.place.size=es.size:=by
 simp only[SetTable.fits,Bool.and_eq_true,beq_iff_eq,decide_eq_true_eq] at hf
 exact hf.1
theorem GQ{Q:Value->Shared->Prop}(ha:s.heap.get? a=some (bh es ep t))(hon:o8 t (w.params.followText "set-order"))(hf:t.fits es.size=true)(hz:es.size<=sizeLine)
 (h:∀ (I:Addr) (h':Heap) (d:Drawn) (fp:List Addr) (vs:List Value) (Wt:Nat->Heap->Prop),s.heap.objs.size<=I->(∀ b o,s.heap.get? b=some o->h'.get? b=some o)->(∀ b∈fp,b=a\/s.heap.objs.size<=b) ->
  vs.Perm (es.toList.map (·.2))->(∀ A':Around,A'.handled=none->Walks prog w A' I fp [I] vs.length (fun i v=>vs[i]? = some v) Wt)->Wt 0 h'->Q (.ref I) { s with heap:=h',drawn:=d }):wpAny (model prog w) A (pyIter (.ref a)) Q E s:=by
 have hT:s.TypeIs (.ref a) "set" := ⟨_,ha,rfl⟩
 have alt:a<s.heap.objs.size:=Heap.lt_size ha
 refine wpAny_pyIter_slot hT F.slot_set_iter (wpAny_call_entry F.slot_set_iter hT GA ?_ (F.args_set_iter_1 _))
 show wpAny _ _ (Builtin.Frozenset.sizeOf a >>= _) _ _ _
 refine wpAny_bind ?_
 unfold Builtin.Frozenset.sizeOf
 refine wpAny_bind (wpAny_setEntries_of ha rfl hf (wpAny_pure ?_))
 refine wpAny_bind ?_
 unfold setDrawn setsByText
 refine wpAny_bind (wpAny_setState_of ha rfl hf ?_)
 dsimp only
 refine  wpAny_bind (wpAny_bind (wpAny_askSetting (wpAny_pure ?_)))
 dsimp only
 refine wpAny_pure ?_
 have fin:∀ (f:Value) (h1:Heap) (d:Drawn),h1.get? a=some (bh es ep t)->s.heap.objs.size<=h1.objs.size->(h1.get? h1.objs.size=none->Q (.ref h1.objs.size) { s with heap:=h1.push (kS f 0 a es.size ep),drawn:=d }) ->
  wpAny (model prog w) A.in1 (do ret (<- newFields "set_iterator" [f,rawInt 0,.ref a,rawInt es.size,rawInt (<- setEpoch a)]):Sem Fin) (fun r s1=>∃ v,r = .done (.ret v)/\∃ T' r,s1.TypeIs v T'/\typeLookup (.type T') "__next__" = pure (some r)/\Q v s1) E { s with heap:=h1,drawn:=d }:=by
  intro f h1 d g le q
  refine wpAny_bind (wpAny_setEpoch_of (s:={ s with heap:=h1,drawn:=d }) g rfl hf ?_)
  refine wpAny_bind (wpAny_newObj_type (wpAny_pure ⟨_,rfl,"set_iterator",_,⟨_,Heap.get?_push_size _ rfl,rfl⟩,bb.lookup,q ?_⟩))
  cases z:h1.get? h1.objs.size with
  |none=>rfl
  |some o=>exact absurd (Heap.lt_size z) (Nat.lt_irrefl _)
 have ez:=GP hf
 cases hB:w.params.followText "set-order" with
 |true =>
   rw[show(model prog w).w.params.followText "set-order" = true from hB,Bool.not_true,Bool.false_and,if_neg (by simp)]
   refine wpAny_bind (wpAny_pure ?_)
   refine fin _ s.heap s.drawn ha (Nat.le_refl _) fun _=>?_
   have pm:=GJ (w.params.setOrder a ep) es
   have len:((pickOrder (w.params.setOrder a ep) es).toList.map (·.2)).length=es.size:=by rw[List.length_map,pm.length_eq,Array.length_toList]
   refine h s.heap.objs.size _ s.drawn [s.heap.objs.size,a] ((pickOrder (w.params.setOrder a ep) es).toList.map (·.2)) _ (Nat.le_refl _) (fun b o e=>Heap.get?_push_of_some _ e) (fun b hb=>?_) (pm.map _)
    (fun A' hh'=>Be (fst:=fun _=>0) hh' hf (Nat.ne_of_lt alt) (fun i v hv s A' Q' E' g q=>Bc g hf hB ?_) fun {s A' Q' E'} g q=>Bc g hf hB ?_) ⟨Heap.get?_push_size _ rfl,Heap.get?_push_of_some _ ha⟩
   · simp only[List.mem_cons,List.not_mem_nil,or_false] at hb
     exact hb.symm.imp id fun z=>Nat.le_of_eq z.symm
   · rw[List.getElem?_map,Array.getElem?_toList] at hv
     cases z:(pickOrder (w.params.setOrder a ep) es)[i]? with
     |none=>rw[z] at hv;cases hv
     |some e=>rw[z] at hv;cases hv;exact q
   · have:(pickOrder (w.params.setOrder a ep) es)[((pickOrder (w.params.setOrder a ep) es).toList.map (·.2)).length]? = none:=by simp
     rw[this];exact q
 |false =>
   rw[show(model prog w).w.params.followText "set-order" = false from hB,Bool.not_false,Bool.true_and]
   have qw:t.led=true:=by rw[hon.led,hB];rfl
   cases hd:(!t.plain && decide (es.size > 1)) with
   |false =>
     split
     · rename_i z
       have z':(!t.plain && decide (es.size > 1))=true:=z
       rw[hd] at z';cases z'
     · refine wpAny_bind ?_
       refine wpAny_pure ?_
       refine fin _ s.heap s.drawn ha (Nat.le_refl _) fun _=>?_
       have len:(es.toList.map (·.2)).length=es.size:=by simp
       refine h s.heap.objs.size _ s.drawn [s.heap.objs.size,a] (es.toList.map (·.2)) _ (Nat.le_refl _) (fun b o e=>Heap.get?_push_of_some _ e) (fun b hb=>?_) (.refl _)
        (fun A' hh'=>Be (fst:=pos t.place) hh' hf (Nat.ne_of_lt alt) (fun i v hv s A' Q' E' g q=>Bd g hf hB qw hd ?_) fun {s A' Q' E'} g q=>Bd g hf hB qw hd ?_) ⟨Heap.get?_push_size _ rfl,Heap.get?_push_of_some _ ha⟩
       · simp only[List.mem_cons,List.not_mem_nil,or_false] at hb
         exact hb.symm.imp id fun z=>Nat.le_of_eq z.symm
       · have hi:i<es.size:=by
          have:=(List.getElem?_eq_some_iff.mp hv).1
          rwa[len] at this
         rw[Bb hon.rise (by omega),Array.getElem?_eq_getElem hi,Array.getElem?_eq_getElem (by omega:i<t.place.size)]
         rw[List.getElem?_map,Array.getElem?_toList,Array.getElem?_eq_getElem hi] at hv
         cases hv
         have e:pos t.place (i+1)=t.place[i]'(by omega)+1:=by show t.place.getD i 0+1=_;rw[lJ (by omega)]
         rw[e] at q
         exact q
       · rw[len,Bb hon.rise (by omega)]
         have:es[es.size]? = none:=by simp
         rw[this]
         exact q
   |true =>
     split
     · refine wpAny_bind (GL _ _ _ _ (by simp) fun l d pl=>?_)
       refine wpAny_bind (wpAny_newObj_type ?_ ?_)
       · have hl:l.length=es.size:=by rw[pl.length_eq];simp
         refine fin _ _ d (Heap.get?_push_of_some _ ha) (by rw[Heap.size_push];exact Nat.le_succ _) fun _=>?_
         have inr:∀ p∈l,p<es.size:=fun p hp=>by simpa using pl.mem_iff.mp hp
         have pv:(l.filterMap fun p=>(es[p]?).map (·.2)).Perm (es.toList.map (·.2)):=by
          refine(pl.filterMap _).trans ?_
          have e:(List.range es.size).filterMap (fun p=>(es[p]?).map (·.2))=((List.range es.size).filterMap fun p=>es[p]?).map (·.2):=by rw[List.map_filterMap]
          rw[e,filterMap_getElem?_range]
         have ev:∀ (l:List Nat),(∀ p∈l,p<es.size)->(l.filterMap fun p=>(es[p]?).map (·.2)).length=l.length/\∀ (i p:Nat),l[i]? = some p->∃ x,es[p]? = some x/\(l.filterMap fun p=>(es[p]?).map (·.2))[i]? = some x.2:=by
          intro l
          induction l with
          |nil=>intro _;exact⟨rfl,fun i p z=>by simp at z⟩
          |cons k r ih =>
            intro hk
            obtain⟨i1,i2⟩:=ih fun p hp=>hk p (.tail _ hp)
            have lt:=hk k (.head _)
            have e1:(es[k]?).map (·.2)=some es[k].2:=by rw[Array.getElem?_eq_getElem lt];rfl
            rw[List.filterMap_cons_some (f:=fun p:Nat=>(es[p]?).map fun (x:Int×Value)=>x.2) e1]
            refine⟨by simp[i1],fun i p z=>?_⟩
            cases i with
            |zero=>simp at z;subst z;exact⟨es[k],Array.getElem?_eq_getElem lt,rfl⟩
            |succ i=>simpa using i2 i p (by simpa using z)
         obtain⟨v1,v2⟩:=ev l inr
         have sz:(s.heap.push { cls:=.type "tuple",dict:=none,data:=.seq (l.map fun (i:Nat)=>rawInt i).toArray }).objs.size=s.heap.objs.size+1:=Heap.size_push ..
         refine h _ _ d [_,a,s.heap.objs.size] _ _ (by rw[sz];exact Nat.le_succ _) (fun b o e=>Heap.get?_push_of_some _ (Heap.get?_push_of_some _ e)) (fun b hb=>?_) pv
          (fun A' hh'=>GN hh' hf (by rw[sz];exact Nat.ne_of_lt (Nat.lt_succ_of_lt alt)) (T:=s.heap.objs.size) (by rw[sz];exact Nat.ne_of_lt (Nat.lt_succ_self _)) v1.symm v2) ⟨Heap.get?_push_size _ rfl,Heap.get?_push_of_some _ (Heap.get?_push_of_some _ ha),Heap.get?_push_of_some _ (Heap.get?_push_size _ rfl)⟩
         simp only[List.mem_cons,List.not_mem_nil,or_false] at hb
         rcases hb with z | z | z
         · exact .inr (by rw[z,sz];exact Nat.le_succ _)
         · exact .inl z
         · exact .inr (Nat.le_of_eq z.symm)
       · show(l.map fun (i:Nat)=>rawInt i).toArray.size<=sizeLine
         simp only[List.size_toArray,List.length_map,pl.length_eq,List.length_range]
         exact hz
     · rename_i z
       exact absurd hd z
theorem GR:typeLookup (.type "set") "__len__" = pure (some (.builtin "set.__len__")):=by rw[typeLookup_type,builtinLookup_eq_fast];kernel_rfl
theorem GS{Q:List Value->Shared->Prop}(hh:A.handled=none)(ha:s.heap.get? a=some (bh es ep t))(hon:o8 t (w.params.followText "set-order"))(hf:t.fits es.size=true)(hz:es.size<=sizeLine)
 (h:∀ (vs:List Value) (h':Heap) (d:Drawn) (tk:Nat),s.heap.objs.size<=h'.objs.size->(∀ b o,s.heap.get? b=some o->h'.get? b=some o)->vs.Perm (es.toList.map (·.2))->Q vs { s with heap:=h',drawn:=d,toks:=tk }):wpAny (model prog w) A (collect (.ref a)) Q E s:=by
 have start:∀ {R:Result->Shared->Prop},wpAny (model prog w) A.in1 (Builtin.List.listExtendWith (.ref s.heap.objs.size) (.ref a) (.ref s.heap.objs.size)) (fun fin s'=>match fin with | .done f=>R (.ok f) s' | .again c'=>c'.quiet=true/\codeAny (model prog w) A c' R s') (fun e s'=>R (.error e) s') { s with heap:=s.heap.push { cls:=.type "list",dict:=none,data:=.seq ([]:List Value).toArray } } ->
  codeAny (model prog w) A (.builtin "proto.collect" ⟨[.ref a],[]⟩) R s:=fun {R} z=>codeAny_builtin F.entry_proto_collect (by
  rw[Around.under_plainId F.plain_proto_collect]
  exact show wpAny _ _ (newList [] >>= fun v=>again (.builtin "list.__iadd__" ⟨[v,.ref a],[]⟩)) _ _ _ from wpAny_bind (wpAny_newObj_type (wpAny_pure ⟨plainId_quiet F.plain_list_iadd _,codeAny_builtin F.entry_list_iadd (by rw[Around.under_plainId F.plain_list_iadd];exact z)⟩)))
 unfold collect
 refine wpAny_bind (wpAny_runValue (start ?_))
 have alt:a<s.heap.objs.size:=Heap.lt_size ha
 generalize hH:s.heap.push { cls:=.type "list",dict:=none,data:=.seq ([]:List Value).toArray }=H
 have g0:H.get? s.heap.objs.size=some { cls:=.type "list",dict:=none,data:=.seq #[] 0,slots := #[] }:=by rw[<- hH];exact Heap.get?_push_size _ rfl
 have up:∀ b o,s.heap.get? b=some o->H.get? b=some o:=fun b o e=>by rw[<- hH];exact Heap.get?_push_of_some _ e
 have sz:H.objs.size=s.heap.objs.size+1:=by rw[<- hH];exact Heap.size_push ..
 have hT:Shared.TypeIs { s with heap:=H } (.ref a) "set" := ⟨_,up _ _ ha,rfl⟩
 unfold  Builtin.List.listExtendWith
 refine  wpAny_bind (wpAny_typeOf hT ?_)
 have n1:Builtin.List.listSameRef (.ref s.heap.objs.size) (.ref a)=false:=by
  show(s.heap.objs.size == a)=false
  simpa using Nat.ne_of_gt alt
 have n2:(Value.type "set" == Value.type "list")=false:=by decide
 have n3:(Value.type "set" == Value.type "tuple")=false:=by decide
 rw[n1,n2,n3]
 simp only[Bool.or_false,Bool.false_eq_true,if_false]
 refine wpAny_bind (GQ (up _ _ ha) hon hf hz fun I h1 d fp vs Wt hI k1 hfp pv W st=>?_)
 have hT1:Shared.TypeIs { s with heap:=h1,drawn:=d } (.ref a) "set" := ⟨_,k1 _ _ (up _ _ ha),rfl⟩
 refine  wpAny_bind (wpAny_holding ?_)
 unfold  Builtin.List.listLengthHint
 refine wpAny_bind (wpAny_specialOf hT1 GR ?_)
 wp_delta
 refine wpAny_bind (wpAny_isInstance (b:=true) hT1 (by rw[isSubtype_type];kernel_rfl) ?_)
 show wpAny _ _ (typeOf (Value.ref a) >>= _) _ _ _
 refine wpAny_bind (wpAny_typeOf hT1 ?_)
 refine wpAny_pure ?_
 rw[if_pos (by decide)]
 refine wpAny_bind (wpAny_rule ?_)
 unfold Builtin.List.listTouch
 have g1:=k1 _ _ g0
 refine  wpAny_bind (wpAny_bind ?_)
 refine PyProof.Rows.listUpdate_at g1 rfl ?_ (Nat.zero_le _) (by simp)
 have g2:=get?_update_seq g1 (fun xs=>xs.push Value.none)
 refine PyProof.Rows.listUpdate_at g2 rfl ?_ (by show 1<=sizeLine;decide) (by simp)
 have g3:=get?_update_seq g2 (fun xs=>xs.pop)
 have oth:∀ b o,b≠s.heap.objs.size->h1.get? b=some o->((h1.update s.heap.objs.size (Obj.mapSeq fun xs=>xs.push Value.none)).update s.heap.objs.size (Obj.mapSeq fun xs=>xs.pop)).get? b=some o:=fun b o hb e =>
  (Heap.get?_update_other _ _ (Ne.symm hb)).trans ((Heap.get?_update_other _ _ (Ne.symm hb)).trans e)
 have hSf:s.heap.objs.size ∉ fp:=fun z=>by
  rcases hfp _ z with e | e
  · exact absurd alt (by rw[e];exact Nat.lt_irrefl _)
  · exact absurd (show H.objs.size<=s.heap.objs.size from e) (by rw[sz];exact Nat.not_succ_le_self _)
 have W':=W A.in1 hh
 have hn:vs.length<=sizeLine:=by rw[pv.length_eq];simpa using hz
 refine wpAny_pure ⟨plainId_quiet F.plain_extend_loop _,codeAny_extend_loopS W'.toS hn _ hSf _ vs.length 0 _ _ _ rfl (Nat.zero_le _) (W'.frame _ _ _ st fun b hb o e=>oth b o (fun z=>hSf (by rw[<- z];exact hb)) e) g3 (ItemsOf.nil _) fun s' acc c hm g' hacc=>?_⟩
 show wpAny _ _ (load s.heap.objs.size >>= _) _ _ _
 refine wpAny_bind (wpAny_load g' (wpAny_pure ?_))
 have ev:acc.toList=vs:=by
  refine List.ext_getElem? fun i=>?_
  cases q:acc[i]? with
  |none =>
    have:acc.size<=i:=by simpa using q
    rw[hacc.1] at this
    rw[Array.getElem?_toList,q,List.getElem?_eq_none this]
  |some v=>rw[Array.getElem?_toList,q,hacc.2 i v q]
 rw[ev]
 obtain⟨h',g,d',tk,os⟩:=s'
 have e1:=(hm.gens:g=s.gens)
 have e2:d'=d:=hm.drawn
 have e3:os=s.os:=hm.os
 subst e1;subst e2;subst e3
 refine h vs h' d' tk (Nat.le_of_lt (Heap.lt_size g')) (fun b o e=>hm.heap b o (fun z=>?_) (oth b o (Nat.ne_of_lt (Heap.lt_size e)) (k1 b o (up b o e)))) pv
 have blt:=Heap.lt_size e
 rcases List.mem_cons.mp z with z | z
 · exact absurd blt (by rw[z];exact Nat.lt_irrefl _)
 · rw[List.mem_singleton] at z
   have:H.objs.size<=I:=hI
   rw[<- z,sz] at this
   exact absurd blt (Nat.not_lt.mpr (Nat.le_of_succ_le this))
theorem GU{h:Heap}{a:Addr}{vs:List Value}{n:Nat}(ho:h.get? a=some (seqObj "list" vs.toArray n))(out:Array Value):∃ e,(sortedHeap h a vs out).get? a=some (seqObj "list" out e):=by
 have lt:a<h.objs.size:=Heap.lt_size ho
 unfold sortedHeap
 have g1:=get?_update_seq ho fun _ => #[]
 have g2:(((h.update a (Obj.mapSeq fun _ => #[])).push (seqObj "tuple" vs.toArray 0)).push (seqObj "list" #[] 0)).get? a=some (seqObj "list" #[] (if ((#[]:Array Value).size == vs.toArray.size)=true then n else n+1)):=by
  rw[Heap.get?_push_ne _ _ _ (by rw[size_push',Heap.size_update];exact Nat.ne_of_lt (Nat.lt_succ_of_lt lt)),Heap.get?_push_ne _ _ _ (by rw[Heap.size_update];exact Nat.ne_of_lt lt)]
  exact g1
 exact⟨_,get?_update_seq g2 fun _=>out⟩
theorem GV{h:Heap}{a b:Addr}{vs:List Value}{out:Array Value}{o:Obj}(hb:b≠a)(e:h.get? b=some o):(sortedHeap h a vs out).get? b=some o:=by
 unfold sortedHeap
 rw[Heap.get?_update_other _ _ (Ne.symm hb)]
 exact Heap.get?_push_of_some _ (Heap.get?_push_of_some _ ((Heap.get?_update_other _ _ (Ne.symm hb)).trans e))
end
end St
namespace St
open PySem
def lp(M:Nat)(s:Nat×Nat):Nat×Nat:=SetTable.leap M s.1 s.2
def gr(M:Nat):Nat->Nat×Nat->Nat×Nat
 | 0,s=>s
 |n+1,s=>gr M n (lp M s)
theorem nM(M:Nat):∀ (n:Nat) (s:Nat×Nat),gr M (n+1) s=lp M (gr M n s)
 | 0,s=>rfl
 |n+1,s=>by rw[gr,nM M n,gr]
theorem GW(M a b:Nat)(s:Nat×Nat):gr M (a+b) s=gr M b (gr M a s):=by
 induction b with
 |zero=>rfl
 |succ b ih=>rw[<- Nat.add_assoc,nM,ih,nM]
theorem Bf(M:Nat):∀ (n:Nat) (s:Nat×Nat),(gr M n s).2=s.2 / 32 ^ n
 | 0,s=>by simp[gr]
 |n+1,s=>by rw[nM];show(gr M n s).2 / 32=_;rw[Bf M n,Nat.div_div_eq_div_mul,Nat.pow_succ]
theorem GY{M p:Nat}(hp:p<2 ^ 64)(i:Nat):(gr M 13 (i,p)).2=0:=by
 rw[Bf]
 exact Nat.div_eq_of_lt (Nat.lt_of_lt_of_le hp (by decide))
def st(M x:Nat):Nat:=(x * 5+1) % (M+1)
def sts(M:Nat):Nat->Nat->Nat
 | 0,x=>x
 |n+1,x=>st M (sts M n x)
theorem qy(M a:Nat)(x:Nat):∀ b,sts M (a+b) x=sts M b (sts M a x)
 | 0=>rfl
 |b+1=>by rw[<- Nat.add_assoc,sts,qy M a x b,sts]
theorem Bg(M:Nat):∀ (n i:Nat),gr M n (i,0)=(sts M n i,0)
 | 0,i=>rfl
 |n+1,i=>by
   rw[nM,Bg M n i]
   show SetTable.leap M (sts M n i) 0=_
   simp[SetTable.leap,sts,st]
def jB(M:Nat):Prop:=M=7\/M=31\/M=127\/M=511
def o9(M:Nat):Nat->Nat->List Nat
 | 0,_=>[]
 |n+1,x=>x::o9 M n (st M x)
theorem Bh(M:Nat):∀ (n x k:Nat),k<n->(o9 M n x)[k]? = some (sts M k x)
 | 0,_,_,h=>absurd h (Nat.not_lt_zero _)
 |n+1,x,0,_=>rfl
 |n+1,x,k+1,h=>by
   show(o9 M n (st M x))[k]? = _
   rw[Bh M n (st M x) k (by omega)]
   have:=qy M 1 x k
   rw[Nat.add_comm] at this
   rw[this];rfl
theorem GZ{M:Nat}(h:jB M):(List.range (M+1)).all (fun j=>(o9 M (M+1) 0).contains j)=true/\sts M (M+1) 0=0:=by
 rcases h with rfl | rfl | rfl | rfl
 · decide +kernel
 · decide +kernel
 · decide +kernel
 · decide +kernel
theorem Bi{M:Nat}(h:sts M (M+1) 0=0):∀ q r,sts M ((M+1) * q+r) 0=sts M r 0
 | 0,r=>by simp
 |q+1,r=>by
   have e:(M+1) * (q+1)+r=(M+1)+((M+1) * q+r):=by rw[Nat.mul_succ];omega
   rw[e,qy,h,Bi h q r]
theorem G0{M:Nat}(h:jB M){x y:Nat}(hx:x<=M)(hy:y<=M):∃ m,m<=M/\sts M m x=y:=by
 obtain⟨a,b⟩:=GZ h
 have f:∀ z,z<=M->∃ k,k<=M/\sts M k 0=z:=fun z hz=>by
  have:=List.all_eq_true.mp a z (by simp;omega)
  rw[List.contains_iff_mem] at this
  obtain⟨k,hk⟩:=List.getElem?_of_mem this
  have kl:k<M+1:=by
   rcases Nat.lt_or_ge k (M+1) with z | z
   · exact z
   · have len:∀ n x,(o9 M n x).length=n:=fun n=>by
      induction n with
      |zero=>intro x;rfl
      |succ n ih=>intro x;simp[o9,ih]
     rw[List.getElem?_eq_none (by rw[len];exact z)] at hk
     cases hk
  rw[Bh M (M+1) 0 k kl] at hk
  exact⟨k,by omega,by injection hk⟩
 obtain⟨kx,hkx,ex⟩:=f x hx
 obtain⟨ky,PR,ey⟩:=f y hy
 rcases Nat.le_total kx ky with le | le
 · refine⟨ky - kx,by omega,?_⟩
   rw[<- ex, <- qy, <- ey]
   congr 1
   omega
 · refine⟨(M+1+ky - kx) % (M+1),Nat.lt_succ_iff.mp (Nat.mod_lt _ (Nat.succ_pos M)),?_⟩
   rw[<- ex, <- qy]
   have b':=Bi b 1 ky
   rcases Nat.lt_or_ge (M+1+ky - kx) (M+1) with z | z
   · rw[Nat.mod_eq_of_lt z, <- ey, <- b']
     congr 1
     omega
   · have e:kx=ky:=by omega
     subst e
     have:(M+1+kx - kx) % (M+1)=0:=by rw[Nat.add_sub_cancel];exact Nat.mod_self _
     rw[this]
     exact ey
theorem wy(M i p:Nat):(SetTable.leap M i p).1<=M:=Nat.lt_succ_iff.mp (Nat.mod_lt _ (Nat.succ_pos M))
theorem qz(M i:Nat):i<=SetTable.runEnd M i/\SetTable.runEnd M i - i<=9:=by unfold SetTable.runEnd;split<;>omega
def b_(t:SetTable):Nat->SetTable.Probe->SetTable.Probe
 | 0,p=>p
 |n+1,p=>b_ t n (t.advance p)
theorem G1{t:SetTable}(hd:t.dummies = #[])(f:Nat->Int)(h:Int):∀ (n:Nat) (p:SetTable.Probe),SetTable.probe.go t f h n p=none->∀ k,k<n->∃ i,t.slot (b_ t k p).j = .live i:=by
 intro n
 induction n with
 |zero=>intro p _ k hk;exact absurd hk (Nat.not_lt_zero _)
 |succ n ih =>
   intro p e k hk
   unfold SetTable.probe.go at e
   split at e
   · cases e
   · rename_i q
     exact absurd q (tV hd _)
   · rename_i i q
     split at e
     · cases e
     · cases k with
       |zero=>exact⟨i,q⟩
       |succ k=>exact ih _ e k (by omega)
theorem o_(t:SetTable):∀ (a b:Nat) (p:SetTable.Probe),b_ t (a+b) p=b_ t b (b_ t a p)
 | 0,b,p=>by rw[Nat.zero_add];rfl
 |a+1,b,p=>by rw[show a+1+b=(a+b)+1 by omega];exact o_ t a b _
def kU(M:Nat)(p:SetTable.Probe)(s:Nat×Nat):Prop:=p.j=s.1/\p.i=s.1/\p.perturb=s.2/\p.more=SetTable.runEnd M s.1 - s.1
theorem wz(t:SetTable):∀ (m:Nat) (p:SetTable.Probe),p.more=m->(b_ t m p).more=0/\(b_ t m p).i=p.i/\(b_ t m p).perturb=p.perturb
 | 0,p,h=>⟨h,rfl,rfl⟩
 |m+1,p,h=>by
   have e:t.advance p={ p with j:=p.j+1,more:=p.more - 1 }:=by unfold SetTable.advance;rw[if_pos (by omega)]
   obtain⟨a,b,c⟩:=wz t m (t.advance p) (by rw[e];show p.more - 1=m;omega)
   refine⟨a,?_,?_⟩
   · show(b_ t m (t.advance p)).i=_;rw[b,e]
   · show(b_ t m (t.advance p)).perturb=_;rw[c,e]
theorem G2(t:SetTable){p:SetTable.Probe}{s:Nat×Nat}(h:kU t.mask p s):∃ m,m<=10/\kU t.mask (b_ t m p) (lp t.mask s):=by
 obtain⟨h1,h2,h3,h4⟩:=h
 obtain⟨a,b,c⟩:=wz t p.more p rfl
 refine⟨p.more+1,by have:=qz t.mask s.1;omega,?_⟩
 rw[o_]
 show kU t.mask (t.advance (b_ t p.more p)) _
 unfold SetTable.advance
 rw[if_neg (by omega),b,c,h2,h3]
 exact⟨rfl,rfl,rfl,rfl⟩
theorem Bj(t:SetTable){p:SetTable.Probe}{s:Nat×Nat}(h:kU t.mask p s):∀ k,∃ m,m<=10 * k/\kU t.mask (b_ t m p) (gr t.mask k s)
 | 0=>⟨0,by omega,h⟩
 |k+1=>by
   obtain⟨m,hm,a⟩:=Bj t h k
   obtain⟨m',hm',a'⟩:=G2 t a
   exact⟨m+m',by omega,by rw[o_,nM];exact a'⟩
theorem Bk(h:Int):SetTable.bits h<2 ^ 64:=by
 unfold SetTable.bits
 have:=Int.emod_lt_of_pos h (show(0:Int)<2 ^ 64 by decide)
 have:=Int.emod_nonneg h (show(2 ^ 64:Int)≠0 by decide)
 omega
theorem Bl{M:Nat}(h:jB M){i p:Nat}(hi:i<=M)(hp:p<2 ^ 64){P:Nat->Prop}(hP:∀ k,k<=M+14->P (gr M k (i,p)).1):∀ j,j<=M->P j:=by
 intro j hj
 have z:=GY (M:=M) hp i
 generalize hs:gr M 13 (i,p)=kW at z
 have wA:kW.1<=M:=by
  rw[<- hs,nM]
  exact wy M _ _
 obtain⟨m,hm,e⟩:=G0 h wA hj
 have:=hP (13+m) (by omega)
 rw[GW,hs,show kW=(kW.1,0) by rw[<- z],Bg] at this
 simp only at this
 rw[e] at this
 exact this
theorem wB{t:SetTable}{j i:Nat}(h:t.slot j = .live i):t.place[i]? = some j:=by
 unfold SetTable.slot at h
 dsimp only at h
 split at h
 · rename_i e
   cases h
   exact eq_of_beq e
 · split at h<;>cases h
theorem G3{t:SetTable}(hd:t.dummies = #[])(hm:jB t.mask)(hr:t.place.size<=t.mask)(f:Nat->Int)(h:Int):∃ m,t.probe f h (t.probeStart h)=some m:=by
 cases q:t.probe f h (t.probeStart h) with
 |some m=>exact⟨m,rfl⟩
 |none =>
   exfalso
   have st:kU t.mask (t.probeStart h) (SetTable.bits h % (t.mask+1),SetTable.bits h):=⟨rfl,rfl,rfl,rfl⟩
   have all:=Bl hm (i:=SetTable.bits h % (t.mask+1)) (p:=SetTable.bits h) (Nat.lt_succ_iff.mp (Nat.mod_lt _ (Nat.succ_pos _))) (Bk h) (P:=fun j=>∃ i:Nat,t.place[i]? = some j) (fun k hk=>by
    obtain⟨m,hm',a⟩:=Bj t st k
    obtain⟨i,hi⟩:=G1 hd f h _ _ q m (by unfold SetTable.turns;omega)
    rw[a.1] at hi
    exact⟨i,wB hi⟩)
   have sub:(List.range (t.mask+1)).length<=t.place.toList.length:=by
    refine List.Nodup.length_le_of_subset List.nodup_range fun j hj=>?_
    obtain⟨i,hi⟩:=all j (by simpa using Nat.lt_succ_iff.mp (List.mem_range.mp hj))
    rw[<- Array.getElem?_toList] at hi
    exact List.mem_of_getElem? hi
   simp at sub
   omega
theorem G4(M:Nat)(owner:Array (Option Nat))(hs:owner.size=M+1):∀ (n i p j:Nat),SetTable.layClean.free M owner n i p=some j->owner[j]? = some none:=by
 intro n
 induction n with
 |zero=>intro i p j h;cases h
 |succ n ih =>
   intro i p j h
   unfold SetTable.layClean.free at h
   split at h
   · rename_i k q
     cases h
     have:=List.find?_some q
     cases e:owner[i+k]? with
     |none=>rw[Array.getD_eq_getD_getElem?,e] at this;cases this
     |some o =>
       rw[Array.getD_eq_getD_getElem?,e] at this
       cases o with
       |none=>rfl
       |some x=>cases this
   · exact ih _ _ _ h
theorem G5(M:Nat)(owner:Array (Option Nat))(hs:owner.size=M+1):∀ (n i p:Nat),i<=M->SetTable.layClean.free M owner n i p=none->∀ k,k<n->∃ x,owner[(gr M k (i,p)).1]? = some (some x):=by
 intro n
 induction n with
 |zero=>intro i p hi h k hk;exact absurd hk (Nat.not_lt_zero _)
 |succ n ih =>
   intro i p hi h k hk
   unfold SetTable.layClean.free at h
   split at h
   · cases h
   · rename_i q
     cases k with
     |zero =>
       have:=List.find?_eq_none.mp q 0 (by simp;have:=qz M i;omega)
       show ∃ x,owner[i]? = some (some x)
       have lt:i<owner.size:=by omega
       rw[Nat.add_zero,Array.getD_eq_getD_getElem?,Array.getElem?_eq_getElem lt] at this
       rw[Array.getElem?_eq_getElem lt]
       cases e:owner[i] with
       |none=>rw[e] at this;simp at this
       |some x=>exact⟨x,rfl⟩
     |succ k=>exact ih _ _ (wy M i p) h k (by omega)
theorem Bm{k:Nat}:∀ (l:List (Option Nat)) (j:Nat),l[j]? = some none->((l.set j (some k)).filterMap id).Perm (k::l.filterMap id)
 | [],j,h=>by simp at h
 |o::r,0,h=>by
   simp at h
   subst h
   simp
 |o::r,j+1,h=>by
   have ih:=Bm (k:=k) r j (by simpa using h)
   cases o with
   |none=>simpa using ih
   |some x =>
     show(x::(r.set j (some k)).filterMap id).Perm (k::x::r.filterMap id)
     exact(List.Perm.cons x ih).trans (List.Perm.swap k x _)
theorem Bn:∀ (l:List (Option Nat)),(∀ o∈l,∃ x,o=some x)->(l.filterMap id).length=l.length
 | [],_=>rfl
 |o::r,h=>by
   obtain⟨x,rfl⟩:=h o (.head _)
   simpa using Bn r fun o' ho=>h o' (.tail _ ho)
def pf(M k:Nat)(owner:Array (Option Nat)):Prop:=owner.size=M+1/\(owner.toList.filterMap id).Perm (List.range k)
theorem G6{M k:Nat}{owner:Array (Option Nat)}(hm:jB M)(h:pf M k owner)(hk:k<=M)(c:Int):∃ j,SetTable.layClean.free M owner (SetTable.turns M) (SetTable.bits c % (M+1)) (SetTable.bits c)=some j/\owner[j]? = some none:=by
 cases q:SetTable.layClean.free M owner (SetTable.turns M) (SetTable.bits c % (M+1)) (SetTable.bits c) with
 |some j=>exact⟨j,rfl,G4 M owner h.1 _ _ _ _ q⟩
 |none =>
   exfalso
   have hi:SetTable.bits c % (M+1)<=M:=Nat.lt_succ_iff.mp (Nat.mod_lt _ (Nat.succ_pos _))
   have all:=Bl hm hi (Bk c) (P:=fun j=>∃ x,owner[j]? = some (some x)) fun n hn=>G5 M owner h.1 _ _ _ hi q n (by unfold SetTable.turns;omega)
   have len:=Bn owner.toList fun o ho=>by
    obtain⟨j,hj⟩:=List.getElem?_of_mem ho
    have jl:j<owner.size:=by have:=(List.getElem?_eq_some_iff.mp hj).1;simpa using this
    obtain⟨x,hx⟩:=all j (by have:=h.1;omega)
    rw[Array.getElem?_toList,hx] at hj
    exact⟨x,by injection hj with e;exact e.symm⟩
   have:=h.2.length_eq
   rw[len] at this
   simp at this
   have:=h.1
   omega
theorem G7(owner:Array (Option Nat)):((List.range owner.size).filterMap fun j=>(owner.getD j none).map (j, ·)).map (·.2)=owner.toList.filterMap id:=by
 have key:∀ (l:List (Option Nat)) (b:Nat) (f:Nat->Option Nat),(∀ i,i<l.length->f (b+i)=l.getD i none)->((List.range' b l.length).filterMap fun j=>(f j).map (j, ·)).map (·.2)=l.filterMap id:=by
  intro l
  induction l with
  |nil=>intro b f _;rfl
  |cons o r ih =>
    intro b f h
    have h0:=h 0 (by simp)
    have ih':=ih (b+1) f fun i hi=>by
     have:=h (i+1) (by simpa using hi)
     rw[show b+1+i=b+(i+1) by omega,this]
     rfl
    rw[List.length_cons,List.range'_succ,List.filterMap_cons]
    have h0:f b=o:=h0
    cases o with
    |none=>simpa [h0] using ih'
    |some x=>simpa [h0] using ih'
 have:=key owner.toList 0 (fun j=>owner.getD j none) fun i hi=>by
  rw[Nat.zero_add]
  simp[Array.getD_eq_getD_getElem?,List.getD_eq_getElem?_getD]
 rw[<- this,List.range_eq_range']
 simp
def hP(z:Int×Int):Int:=reduceHash (Builtin.Tuple.tupleHashOf [hashInt z.1,hashInt z.2])
def rP(n:Nat):Nat:=(hP ((n / 31:Nat),(n % 31:Nat)) % 8192).toNat
def apart:List Nat->Nat->Bool
 | [],_=>true
 |n::r,acc => !acc.testBit (rP n) && apart r (acc ||| 1 <<< rP n)
theorem Bo:∀ (l:List Nat) (acc:Nat),apart l acc=true->(∀ n∈l,acc.testBit (rP n)=false)/\(l.map rP).Nodup
 | [],_,_=>⟨fun n hn=>(nomatch hn),List.nodup_nil⟩
 |n::r,acc,h=>by
   unfold apart at h
   rw[Bool.and_eq_true] at h
   obtain⟨h1,h2⟩:=h
   obtain⟨a,b⟩:=Bo r _ h2
   have a':∀ m∈r,acc.testBit (rP m)=false/\rP m≠rP n:=fun m hm=>by
    have:=a m hm
    rw[Nat.testBit_or,Bool.or_eq_false_iff] at this
    refine⟨this.1,fun e=>?_⟩
    have q:=this.2
    rw[e,Nat.one_shiftLeft,Nat.testBit_two_pow_self] at q
    cases q
   refine⟨fun m hm=>?_,List.nodup_cons.mpr ⟨fun z=>?_,b⟩⟩
   · rcases List.mem_cons.mp hm with e | e
     · rw[e];simpa using h1
     · exact(a' m e).1
   · obtain⟨m,hm,e⟩:=List.mem_map.mp z
     exact(a' m hm).2 e
theorem G8:apart (List.range 961) 0=true:=by decide +kernel
def Sm(i:Int):Prop:=0<=i/\i<=30
def cq(z:Int×Int):Prop:=Sm z.1/\Sm z.2
theorem G9{y z:Int×Int}(hy:cq y)(hz:cq z)(e:hP y=hP z):y=z:=by
 have nd:=(Bo _ _ G8).2
 obtain⟨⟨a1,a2⟩,a3,a4⟩:=hy
 obtain⟨⟨b1,b2⟩,b3,b4⟩:=hz
 obtain⟨i,hi⟩:∃ i:Nat,y.1=i:=⟨y.1.toNat,by omega⟩
 obtain⟨j,hj⟩:∃ j:Nat,y.2=j:=⟨y.2.toNat,by omega⟩
 obtain⟨k,hk⟩:∃ k:Nat,z.1=k:=⟨z.1.toNat,by omega⟩
 obtain⟨l,hl⟩:∃ l:Nat,z.2=l:=⟨z.2.toNat,by omega⟩
 have q:∀ (i j:Nat),j<31->rP (31 * i+j)=(hP ((i:Int),(j:Int)) % 8192).toNat:=fun i j h=>by
  unfold rP
  rw[show(31 * i+j) / 31=i by omega,show(31 * i+j) % 31=j by omega]
 have ey:y=((i:Int),(j:Int)):=Prod.ext hi hj
 have ez:z=((k:Int),(l:Int)):=Prod.ext hk hl
 have r1:=q i j (by omega)
 have r2:=q k l (by omega)
 rw[<- ey] at r1
 rw[<- ez] at r2
 rw[e, <- r2] at r1
 have m1:31 * i+j<961:=by omega
 have m2:31 * k+l<961:=by omega
 have:=List.pairwise_iff_getElem.mp nd
 have inj:31 * i+j=31 * k+l:=by
  rcases Nat.lt_trichotomy (31 * i+j) (31 * k+l) with z | z | z
  · exact absurd (by rw[List.getElem_map,List.getElem_map,List.getElem_range,List.getElem_range];exact r1) (this _ _ (by simpa using m1) (by simpa using m2) z)
  · exact z
  · exact absurd (by rw[List.getElem_map,List.getElem_map,List.getElem_range,List.getElem_range];exact r1.symm) (this _ _ (by simpa using m2) (by simpa using m1) z)
 have:i=k:=by omega
 have:j=l:=by omega
 rw[ey,ez]
 simp_all
def tm(M:Nat):SetTable:={ SetTable.fresh 0 0 true with mask:=M }
def W(M:Nat)(h:Int)(m:Nat):Nat:=(b_ (tm M) m ((tm M).probeStart h)).j
theorem G_(t:SetTable)(p:SetTable.Probe):t.advance p=(tm t.mask).advance p:=rfl
theorem Bp(t:SetTable):∀ (m:Nat) (p:SetTable.Probe),b_ t m p=b_ (tm t.mask) m p
 | 0,p=>rfl
 |m+1,p=>by show b_ t m (t.advance p)=b_ (tm t.mask) m ((tm t.mask).advance p);rw[Bp t m,G_]
theorem tZ(t:SetTable)(h:Int)(m:Nat):(b_ t m (t.probeStart h)).j=W t.mask h m:=by rw[Bp];rfl
def nN(M:Nat)(pl:List Nat)(h:Int)(j:Nat):Prop:=∃ m,m<10 * SetTable.turns M/\W M h m=j/\∀ m',m'<m->W M h m'∈pl
theorem nN.mono{M:Nat}{pl Bq:List Nat}{h:Int}{j:Nat}(r:nN M pl h j)(s:∀ x∈pl,x∈Bq):nN M Bq h j:=by
 obtain⟨m,a,b,c⟩:=r
 exact⟨m,a,b,fun m' hm=>s _ (c m' hm)⟩
theorem Br{t:SetTable}(hr:kR t.place){i j:Nat}(h:t.place[i]? = some j):t.slot j = .live i:=by
 obtain⟨lt,e⟩:=Array.getElem?_eq_some_iff.mp h
 obtain⟨h1,h2,h3⟩:=wu hr j
 have e0:SetTable.below t.place j=i:=by
  rcases Nat.lt_trichotomy (SetTable.below t.place j) i with z | z | z
  · have l:=h3 (SetTable.below t.place j) (Nat.le_refl _) (by omega)
    rw[lJ (by omega:SetTable.below t.place j<t.place.size)] at l
    have:=(List.pairwise_iff_getElem.mp hr) (SetTable.below t.place j) i (by simp;omega) (by simpa using lt) z
    simp only[Array.getElem_toList] at this
    omega
  · exact z
  · have:=h2 i z
    rw[lJ lt] at this
    omega
 unfold SetTable.slot
 dsimp only
 rw[e0,h]
 simp
theorem Ha{t:SetTable}(hd:t.dummies = #[])(f:Nat->Int)(h:Int):∀ (n:Nat) (p:SetTable.Probe) (j:Nat) (d:Option Nat),SetTable.probe.go t f h n p=some (.empty j d)->∃ m,m<n/\(b_ t m p).j=j/\∀ m',m'<m->∃ i,t.slot (b_ t m' p).j = .live i:=by
 intro n
 induction n with
 |zero=>intro p j d e;cases e
 |succ n ih =>
   intro p j d e
   unfold SetTable.probe.go at e
   split at e
   · cases e
     exact⟨0,by omega,rfl,fun m' h=>absurd h (Nat.not_lt_zero _)⟩
   · rename_i q
     exact absurd q (tV hd _)
   · rename_i i q
     split at e
     · cases e
     · obtain⟨m,a,b,c⟩:=ih _ j d e
       refine⟨m+1,by omega,b,fun m' hm=>?_⟩
       cases m' with
       |zero=>exact⟨i,q⟩
       |succ m'=>exact c m' (by omega)
theorem Hb{t:SetTable}(hd:t.dummies = #[])(f:Nat->Int)(h:Int):∀ (n:Nat) (p:SetTable.Probe) (m k:Nat),m<n->(∀ m',m'<m->∃ i,t.slot (b_ t m' p).j = .live i)->t.slot (b_ t m p).j = .live k->f k=h->∃ j i nx,SetTable.probe.go t f h n p=some (.candidate j i nx):=by
 intro n
 induction n with
 |zero=>intro p m k hm;exact absurd hm (Nat.not_lt_zero _)
 |succ n ih =>
   intro p m k hm hb hs hf
   unfold SetTable.probe.go
   have first:∃ i,t.slot p.j = .live i:=by
    cases m with
    |zero=>exact⟨k,hs⟩
    |succ m=>exact hb 0 (by omega)
   obtain⟨i,hi⟩:=first
   rw[hi]
   dsimp only
   split
   · exact⟨_,_,_,rfl⟩
   · rename_i c
     cases m with
     |zero =>
       have hs:t.slot p.j = .live k:=hs
       rw[hi] at hs
       cases hs
       exact absurd (by simpa using hf) c
     |succ m=>exact ih _ m k (by omega) (fun m' h'=>hb (m'+1) (by omega)) hs hf
theorem wC(M:Nat)(h:Int){m:Nat}{s:Nat×Nat}(a:kU M (b_ (tm M) m ((tm M).probeStart h)) s):∀ k,k<=SetTable.runEnd M s.1 - s.1->W M h (m+k)=s.1+k:=by
 have go:∀ (k:Nat) (p:SetTable.Probe),k<=p.more->(b_ (tm M) k p).j=p.j+k:=by
  intro k
  induction k with
  |zero=>intro p _;rfl
  |succ k ih =>
    intro p hk
    have e:(tm M).advance p={ p with j:=p.j+1,more:=p.more - 1 }:=by unfold SetTable.advance;rw[if_pos (by omega)]
    show(b_ (tm M) k ((tm M).advance p)).j=_
    rw[ih _ (by rw[e];show k<=p.more - 1;omega),e]
    show p.j+1+k=_
    omega
 intro k hk
 unfold W
 rw[o_,go k _ (by rw[a.2.2.2];exact hk),a.1]
theorem Hc(M:Nat)(h:Int)(owner:Array (Option Nat)):∀ (n m g:Nat) (s:Nat×Nat) (j:Nat),kU M (b_ (tm M) m ((tm M).probeStart h)) s->m<=10 * g->(∀ m',m'<m->∃ x,owner.getD (W M h m') (some 0)=some x) ->
 SetTable.layClean.free M owner n s.1 s.2=some j->∃ m2,m2<10 * (g+n)/\W M h m2=j/\∀ m',m'<m2->∃ x,owner.getD (W M h m') (some 0)=some x:=by
 intro n
 induction n with
 |zero=>intro m g s j _ _ _ e;cases e
 |succ n ih =>
   intro m g s j a hm hb e
   unfold SetTable.layClean.free at e
   have re:=qz M s.1
   split at e
   · rename_i k q
     cases e
     have kl:k<SetTable.runEnd M s.1+1 - s.1:=List.mem_range.mp (List.mem_of_find?_eq_some q)
     refine⟨m+k,by omega,wC M h a k (by omega),fun m' hm'=>?_⟩
     rcases Nat.lt_or_ge m' m with z | z
     · exact hb m' z
     · have:=List.find?_range_eq_some.mp q
       have w:=wC M h a (m' - m) (by omega)
       rw[show m+(m' - m)=m' by omega] at w
       rw[w]
       have nn:=this.2.2 (m' - m) (by omega)
       cases e:owner.getD (s.1+(m' - m)) (some 0) with
       |none=>rw[e] at nn;simp at nn
       |some x=>exact⟨x,rfl⟩
   · rename_i q
     have more:(b_ (tm M) m ((tm M).probeStart h)).more=SetTable.runEnd M s.1 - s.1:=a.2.2.2
     obtain⟨a1,a2,a3⟩:=wz (tm M) _ _ more
     have a':kU M (b_ (tm M) (m+(SetTable.runEnd M s.1 - s.1)+1) ((tm M).probeStart h)) (lp M s):=by
      rw[o_,o_]
      show kU M ((tm M).advance (b_ (tm M) (SetTable.runEnd M s.1 - s.1) (b_ (tm M) m ((tm M).probeStart h)))) _
      unfold SetTable.advance
      rw[if_neg (by omega),a2,a3,a.2.1,a.2.2.1]
      exact⟨rfl,rfl,rfl,rfl⟩
     obtain⟨m2,b1,b2,b3⟩:=ih (m+(SetTable.runEnd M s.1 - s.1)+1) (g+1) (lp M s) j a' (by omega) (fun m' hm'=>by
      rcases Nat.lt_or_ge m' m with z | z
      · exact hb m' z
      · have w:=wC M h a (m' - m) (by omega)
        rw[show m+(m' - m)=m' by omega] at w
        rw[w]
        have nn:=List.find?_eq_none.mp q (m' - m) (by simp;omega)
        cases e:owner.getD (s.1+(m' - m)) (some 0) with
        |none=>rw[e] at nn;simp at nn
        |some x=>exact⟨x,rfl⟩) e
     exact⟨m2,by omega,b2,b3⟩
theorem Bt{M i:Nat}(h:i<=M):SetTable.runEnd M i<=M:=by unfold SetTable.runEnd;split<;>omega
theorem Bu(M:Nat):∀ (m:Nat) (p:SetTable.Probe),p.j+p.more<=M->(b_ (tm M) m p).j+(b_ (tm M) m p).more<=M
 | 0,p,h=>h
 |m+1,p,h=>by
   show(b_ (tm M) m ((tm M).advance p)).j+(b_ (tm M) m ((tm M).advance p)).more<=M
   refine Bu M m _ ?_
   unfold SetTable.advance
   split
   · rename_i c
     show p.j+1+(p.more - 1)<=M
     omega
   · have a:=wy M p.i p.perturb
     have b:=Bt a
     have c:=qz M (SetTable.leap M p.i p.perturb).1
     show(SetTable.leap M p.i p.perturb).1+(SetTable.runEnd M (SetTable.leap M p.i p.perturb).1 - (SetTable.leap M p.i p.perturb).1)<=M
     omega
theorem He(M:Nat)(h:Int)(m:Nat):W M h m<=M:=by
 have a:SetTable.bits h % (M+1)<=M:=Nat.lt_succ_iff.mp (Nat.mod_lt _ (Nat.succ_pos M))
 have:=Bu M m ((tm M).probeStart h) (by
  show SetTable.bits h % (M+1)+(SetTable.runEnd M (SetTable.bits h % (M+1)) - SetTable.bits h % (M+1))<=M
  have b:=Bt a
  have c:=qz M (SetTable.bits h % (M+1))
  omega)
 exact Nat.le_trans (Nat.le_add_right _ _) this
def qA(M:Nat)(hs:List Int)(owner:Array (Option Nat)):Prop:=∀ j k,owner[j]? = some (some k)->∃ c,hs[k]? = some c/\∃ m,m<10 * SetTable.turns M/\W M c m=j/\∀ m',m'<m->∃ x,owner[W M c m']? = some (some x)
theorem Bv{M:Nat}(hm:jB M)(all:List Int):∀ (hs:List Int) (owner:Array (Option Nat)) (k:Nat),pf M k owner->qA M all owner->all.drop k=hs->k+hs.length<=M+1 ->
 ∃ owner',hs.foldl (fun acc h=>do
  let (owner,k) <- acc
  let j <- SetTable.layClean.free M owner (SetTable.turns M) (SetTable.bits h % (M+1)) (SetTable.bits h)
  pure (owner.setIfInBounds j (some k),k+1)) (some (owner,k))=some (owner',k+hs.length)/\pf M (k+hs.length) owner'/\qA M all owner'
 | [],owner,k,h,r,_,_=>⟨owner,rfl,h,r⟩
 |c::rs,owner,k,h,r,hd,hl=>by
   simp only[List.length_cons] at hl
   obtain⟨j,hj,hn⟩:=G6 hm h (by omega) c
   have ok:pf M (k+1) (owner.setIfInBounds j (some k)):=by
    refine⟨by rw[Array.size_setIfInBounds];exact h.1,?_⟩
    rw[Array.toList_setIfInBounds,List.range_succ]
    refine(Bm owner.toList j (by rw[Array.getElem?_toList];exact hn)).trans ?_
    exact(List.Perm.cons k h.2).trans (List.perm_append_singleton k _).symm
   have ck:all[k]? = some c:=by
    have:=congrArg List.head? hd
    rw[List.head?_drop] at this
    exact this
   have up:∀ i x,owner[i]? = some (some x)->(owner.setIfInBounds j (some k))[i]? = some (some x):=fun i x e=>by
    have ne:j≠i:=fun z=>by rw[z] at hn;rw[hn] at e;cases e
    rw[Array.getElem?_setIfInBounds_ne ne];exact e
   obtain⟨m2,b1,b2,b3⟩:=Hc M c owner (SetTable.turns M) 0 0 (SetTable.bits c % (M+1),SetTable.bits c) j ⟨rfl,rfl,rfl,rfl⟩ (by omega) (fun m' z=>absurd z (Nat.not_lt_zero _)) hj
   have gd:∀ i,i<=M->∀ x,owner.getD i (some 0)=some x->owner[i]? = some (some x):=fun i hi x e=>by
    have lt:i<owner.size:=by rw[h.1];omega
    rw[Array.getD_eq_getD_getElem?,Array.getElem?_eq_getElem lt] at e
    rw[Array.getElem?_eq_getElem lt]
    exact congrArg some e
   have r':qA M all (owner.setIfInBounds j (some k)):=fun i x e=>by
    by_cases z:j=i
    · subst z
      have lt:j<owner.size:=(Array.getElem?_eq_some_iff.mp hn).1
      rw[Array.getElem?_setIfInBounds_self_of_lt lt] at e
      cases e
      refine⟨c,ck,m2,by omega,b2,fun m' hm'=>?_⟩
      obtain⟨x,hx⟩:=b3 m' hm'
      exact⟨x,up _ x (gd _ (He M c m') x hx)⟩
    · rw[Array.getElem?_setIfInBounds_ne z] at e
      obtain⟨c',hc,m,a1,a2,a3⟩:=r i x e
      exact⟨c',hc,m,a1,a2,fun m' hm'=>let ⟨y,hy⟩:=a3 m' hm'; ⟨y,up _ y hy⟩⟩
   have hd':all.drop (k+1)=rs:=by
    have:=congrArg List.tail hd
    rw[List.tail_drop] at this
    exact this
   obtain⟨o',e,ok',r2⟩:=Bv hm all rs _ (k+1) ok r' hd' (by omega)
   refine⟨o',?_,by rw[List.length_cons,show k+(rs.length+1)=k+1+rs.length by omega];exact ok',r2⟩
   rw[List.foldl_cons,List.length_cons,show k+(rs.length+1)=k+1+rs.length by omega, <- e]
   congr 1
   show(Option.bind (SetTable.layClean.free M owner (SetTable.turns M) (SetTable.bits c % (M+1)) (SetTable.bits c)) fun j=>some (owner.setIfInBounds j (some k),k+1))=_
   rw[hj]
   rfl
theorem Hf{M:Nat}(hm:jB M)(hs:Array Int)(hl:hs.size<=M+1):∃ owner,SetTable.layClean M hs=some owner/\pf M hs.size owner/\qA M hs.toList owner:=by
 have ok:pf M 0 (Array.replicate (M+1) none):=⟨by simp,by
  rw[Array.toList_replicate]
  have:∀ n,(List.replicate n (none:Option Nat)).filterMap id=[]:=fun n=>by
   induction n with
   |zero=>rfl
   |succ n ih=>simpa [List.replicate_succ] using ih
  rw[this]
  exact .nil⟩
 have r0:qA M hs.toList (Array.replicate (M+1) none):=fun j k e=>by
  rw[Array.getElem?_replicate] at e
  split at e<;>cases e
 obtain⟨o',e,ok',r'⟩:=Bv hm hs.toList hs.toList _ 0 ok r0 (by simp) (by simpa using hl)
 refine⟨o',?_,by simpa using ok',r'⟩
 unfold SetTable.layClean
 rw[<- Array.foldl_toList]
 have e:=congrArg (Option.map (·.1)) e
 exact e
theorem Hg{t:SetTable}{es:Array (Int×Value)}{n:Nat}(hm:jB (SetTable.sizeAbove n - 1))(hl:es.size<=SetTable.sizeAbove n - 1) :
 ∃ (t':SetTable) (live:List (Nat×Nat)),t.relaid (es.map (·.1)) n=some (t',(live.map (·.2)).toArray)/\(live.map (·.2)).Perm (List.range es.size)/\t'.mask=SetTable.sizeAbove n - 1/\kR t'.place/\t'.dummies = #[]/\t'.led=t.led/\t'.plain=t.plain /\
  t'.place.toList=live.map (·.1)/\∀ q∈live,∃ c,(es.map (·.1)).toList[q.2]? = some c/\nN (SetTable.sizeAbove n - 1) (live.map (·.1)) c q.1:=by
 obtain⟨owner,e,ok,t5⟩:=Hf hm (es.map (·.1)) (by simp;omega)
 rw[Array.size_map] at ok
 have lm:∀ j k,owner[j]? = some (some k)->(j,k)∈((List.range (SetTable.sizeAbove n - 1+1)).filterMap fun j=>(owner.getD j none).map (j, ·)):=fun j k h=>by
  have lt:j<owner.size:=(Array.getElem?_eq_some_iff.mp h).1
  refine List.mem_filterMap.mpr ⟨j,by rw[List.mem_range, <- ok.1];exact lt,?_⟩
  rw[Array.getD_eq_getD_getElem?,h]
  rfl
 cases q:t.relaid (es.map (·.1)) n with
 |none =>
   unfold SetTable.relaid SetTable.laid at q
   rw[e] at q
   cases q
 |some r =>
   unfold SetTable.relaid SetTable.laid at q
   rw[e] at q
   cases q
   refine⟨_,(List.range (SetTable.sizeAbove n - 1+1)).filterMap fun j=>(owner.getD j none).map (j, ·),rfl,?_,rfl,Gw owner _,rfl,rfl,rfl,rfl,?_⟩
   · have:=G7 owner
     rw[ok.1] at this
     rw[this]
     exact ok.2
   · rintro⟨j,k⟩ hq
     obtain⟨j',hj,ej⟩:=List.mem_filterMap.mp hq
     have own:owner[j]? = some (some k):=by
      cases z:owner.getD j' none with
      |none=>rw[z] at ej;cases ej
      |some x =>
        rw[z] at ej
        cases ej
        rw[Array.getD_eq_getD_getElem?] at z
        cases y:owner[j]? with
        |none=>rw[y] at z;cases z
        |some o=>rw[y] at z;exact congrArg some z
     obtain⟨c,hc,m,a1,a2,a3⟩:=t5 j k own
     refine⟨c,hc,m,a1,a2,fun m' hm'=>?_⟩
     obtain⟨x,hx⟩:=a3 m' hm'
     exact List.mem_map.mpr ⟨(W (SetTable.sizeAbove n - 1) c m',x),lm _ x hx,rfl⟩
abbrev Z:=(Int×Int)×Addr
def zO(z:Z):Int×Value:=(hP z.1,.ref z.2)
theorem qB(z:Z):zO z=(hP z.1,.ref z.2):=by unfold zO;rfl
section
variable{prog:Program}{w:World}{A:Around}{E:Value->Shared->Prop}{s:Shared}{a p:Addr}{es:Array (Int×Value)}{ep:Nat}{t:SetTable}
def bO(h:Heap)(z:Int×Int)(p:Addr):Prop:=∃ o items n t u,h.get? p=some o/\o.cls = .type "tuple" /\ o.data = .seq items n/\items.toList=[.int z.1 t,.int z.2 u]
theorem bO.key{h:Heap}{z:Int×Int}(x:bO h z p)(prog:Program)(w:World):IsTupleKey (intKind prog w) h [z.1,z.2] p:=by
 obtain⟨o,items,n,t,u,e,c,d,i⟩:=x
 exact⟨o,items,n,e,c,d,by rw[i];exact .cons (intKind_is _ _ _ _) (.cons (intKind_is _ _ _ _) .nil)⟩
theorem bO.at{h h':Heap}{z:Int×Int}(x:bO h z p)(k:∀ o,h.get? p=some o->h'.get? p=some o):bO h' z p:=by
 obtain⟨o,items,n,t,u,e,r⟩:=x
 exact⟨o,items,n,t,u,k _ e,r⟩
theorem Hh{z:Int×Int}{Q:Int->Shared->Prop}(hu:A.units<cLine)(hp:bO s.heap z p)(h:Q (hP z) { s with toks:=s.toks+3 }):wpAny (model prog w) A (pyHash (.ref p)) Q E s :=
 wpAny_pyHash_tuple (knd:=intKind prog w) hu (hp.key prog w) h
theorem Hi{y z:Int×Int}{q:Addr}{Q:Bool->Shared->Prop}(hu:A.units<cLine)(hp:bO s.heap y p)(hq:bO s.heap z q)(h:Q (decide (y=z)) s):wpAny (model prog w) A (eqBool (.ref p) (.ref q)) Q E s:=by
 refine wpAny_eqBool_tuple (knd:=intKind prog w) hu (hp.key prog w) (hq.key prog w) ?_
 have e:decide ([y.1,y.2]=[z.1,z.2])=decide (y=z):=decide_eq_decide.mpr ⟨fun h=>by simp at h;exact Prod.ext h.1 h.2,fun h=>by rw[h]⟩
 rw[e]
 exact h
theorem Bw{z:Int×Int}{Q:Bool->Shared->Prop}(hp:bO s.heap z p)(h:Q false s):wpAny (model prog w) A (ofAClassStatement 8 (.ref p)) Q E s:=by
 obtain⟨o,items,n,t,u,e,c,d,i⟩:=hp
 have hT:s.TypeIs (.ref p) "tuple" := ⟨o,e,c⟩
 unfold ofAClassStatement
 refine  wpAny_bind (wpAny_typeOf hT ?_)
 dsimp only
 rw[if_pos (show(("tuple" : String) == "tuple")=true by decide)]
 refine wpAny_bind (wpAny_pure ?_)
 rw[if_neg (by decide)]
 refine wpAny_bind (wpAny_seqItems e d ?_)
 dsimp only
 refine wpAny_bind ?_
 rw[<- Array.forIn_toList,i]
 rw[List.forIn_cons]
 unfold ofAClassStatement
 simp only[pure_bind,List.forIn_cons,List.forIn_nil]
 exact  wpAny_pure (wpAny_pure h)
theorem Hj{z:Int×Int}{Q:Bool->Shared->Prop}(hp:bO s.heap z p)(h:Q true s):wpAny (model prog w) A (hashByValue 8 (.ref p)) Q E s:=by
 obtain⟨o,items,n,t,u,e,c,d,i⟩:=hp
 have hT:s.TypeIs (.ref p) "tuple" := ⟨o,e,c⟩
 unfold hashByValue
 refine  wpAny_bind (wpAny_specialOf hT F.slot_tuple_hash.lookup ?_)
 dsimp only
 refine wpAny_bind (wpAny_seqItems e d ?_)
 refine wpAny_bind ?_
 dsimp only[Option.getD]
 rw[<- Array.forIn_toList,i]
 rw[List.forIn_cons]
 unfold hashByValue
 simp only[pure_bind,List.forIn_cons,List.forIn_nil]
 exact  wpAny_pure (wpAny_pure h)
theorem Hk{z:Int×Int}{Q:Bool->Shared->Prop}(hp:bO s.heap z p)(h:Q false s):∀ (l:List Value),(∀ v∈l,∃ q y,v = .ref q/\bO s.heap y q)->wpAny (model prog w) A (searchCouldBeSeen (.ref p) l) Q E s:=by
 intro l hl
 unfold searchCouldBeSeen
 refine wpAny_bind ?_
 refine wpAny_forIn_list _ (fun rest r s'=>r.1=none/\s'=s/\∀ v∈rest,∃ q y,v = .ref q/\bO s.heap y q) _ ?_ ?_ _ _ ⟨rfl,rfl,hl⟩
 · rintro v rest r s' ⟨hr,rfl,hv⟩
   obtain⟨q,y,rfl,hq⟩:=hv v (.head _)
   have nx:∀ x∈rest,∃ q y,x=Value.ref q/\bO s'.heap y q:=fun x hx=>hv x (.tail _ hx)
   dsimp only
   split
   · exact wpAny_pure ⟨rfl,rfl,nx⟩
   · refine wpAny_bind (wpAny_eqIsQuiet_tuple (hp.key prog w) ?_)
     rw[if_neg (by decide)]
     refine wpAny_bind (wpAny_eqIsQuiet_tuple (hq.key prog w) ?_)
     rw[if_neg (by decide)]
     refine wpAny_bind (Bw hp ?_)
     rw[if_neg (by decide)]
     refine wpAny_bind (Bw hq ?_)
     rw[if_neg (by decide)]
     exact wpAny_pure ⟨rfl,rfl,nx⟩
 · rintro⟨r1,r2⟩ s' ⟨hr,rfl,_⟩
   simp only at hr
   subst hr
   exact wpAny_pure h
structure bZ(es:Array (Int×Value))(t:SetTable)(B:Bool)(zs:List Z):Prop where
 el:es.toList=zs.map zO
 sm:∀ z∈zs,cq z.1
 nd:(zs.map (·.1)).Nodup
 hon:o8 t B
 qC:jB t.mask
 sz:t.place.size=es.size
 rm:t.place.size<=t.mask
 t5:∀ q∈zs.zip t.place.toList,nN t.mask t.place.toList (hP q.1.1) q.2
theorem bZ.fits{B:Bool}{zs:List Z}(h:bZ es t B zs):t.fits es.size=true:=by
 have:=h.sz
 have:=h.rm
 simp only[SetTable.fits,SetTable.fill,h.hon.m5,Bool.and_eq_true,beq_iff_eq,decide_eq_true_eq]
 exact⟨h.sz,by simp;omega⟩
theorem bZ.get{B:Bool}{zs:List Z}(h:bZ es t B zs)(i:Nat):es[i]? = (zs[i]?).map zO:=by
 rw[<- Array.getElem?_toList,h.el,List.getElem?_map]
theorem bZ.len{B:Bool}{zs:List Z}(h:bZ es t B zs):zs.length=es.size:=by
 have:=congrArg List.length h.el
 simpa using this.symm
theorem Hl{t:SetTable}(hd:t.dummies = #[])(f:Nat->Int)(h:Int):∀ (n:Nat) (p:SetTable.Probe) (j i:Nat) (nx:SetTable.Probe),SetTable.probe.go t f h n p=some (.candidate j i nx)->t.slot j = .live i/\f i=h:=by
 intro n
 induction n with
 |zero=>intro p j i nx e;cases e
 |succ n ih =>
   intro p j i nx e
   unfold SetTable.probe.go at e
   split at e
   · cases e
   · rename_i q
     exact absurd q (tV hd _)
   · rename_i k q
     split at e
     · rename_i c
       cases e
       exact⟨q,eq_of_beq c⟩
     · exact ih _ j i nx e
theorem Hm{t:SetTable}{j i:Nat}(h:t.slot j = .live i):i<t.place.size:=(Array.getElem?_eq_some_iff.mp (wB h)).1
theorem bZ.found{B:Bool}{zs:List Z}(T:bZ es t B zs){z:Int×Int}(hz:z∈zs.map (·.1)){f:Nat->Int}(hf:∀ i (h:i<zs.length),f i=hP zs[i].1):∃ j i nx,t.probe f (hP z) (t.probeStart (hP z))=some (.candidate j i nx):=by
 obtain⟨y,hy,rfl⟩:=List.mem_map.mp hz
 obtain⟨k,hk,rfl⟩:=List.mem_iff_getElem.mp hy
 have kp:k<t.place.size:=by rw[T.sz, <- T.len];exact hk
 have zm:(zs[k],t.place[k])∈zs.zip t.place.toList:=by
  refine List.mem_iff_getElem.mpr ⟨k,by simp;omega,?_⟩
  simp
 obtain⟨m,a1,a2,a3⟩:=T.t5 _ zm
 refine Hb T.hon.m5 f _ (10 * SetTable.turns t.mask) _ m k a1 (fun m' hm'=>?_) ?_ (hf k hk)
 · rw[tZ]
   obtain⟨i,hi⟩:=List.getElem?_of_mem (a3 m' hm')
   rw[Array.getElem?_toList] at hi
   exact⟨i,Br T.hon.rise hi⟩
 · rw[tZ,a2]
   exact Br T.hon.rise (Array.getElem?_eq_getElem kp)
theorem bZ.hash{B:Bool}{zs:List Z}(T:bZ es t B zs){i:Nat}(h:i<zs.length):((es[i]?).map (·.1)).getD 0=hP zs[i].1:=by
 have e:=T.get i
 rw[List.getElem?_eq_getElem h] at e
 rw[e,Option.map_some,Option.map_some,Option.getD_some,qB]
end
section
variable{prog:Program}{w:World}{A:Around}{E:Value->Shared->Prop}{s:Shared}{a p:Addr}{es:Array (Int×Value)}{ep:Nat}{t:SetTable}
theorem Hn{z:Int×Int}{B:Bool}{zs:List Z}{Q:SetFound->Shared->Prop}(hu:A.units<cLine)(ha:s.heap.get? a=some (bh es ep t))(T:bZ es t B zs)(hz:∀ y∈zs,bO s.heap y.1 y.2)(hp:bO s.heap z p)(sm:cq z)
 (there:z∈zs.map (·.1)->Q (.there none) s) (free:∀ j,z ∉ zs.map (·.1)->t.slot j = .empty->nN t.mask t.place.toList (hP z) j->Q (.free j false) s) (n:Nat):wpAny (model prog w) A (setSearchFrom a (.ref p) (hP z) true (n+1) none) Q E s:=by
 rw[setSearchFrom]
 refine wpAny_bind (wpAny_setState_of ha rfl T.fits ?_)
 dsimp only
 have odd:t.gaveWay=false:=by
  unfold SetTable.gaveWay
  rcases T.qC with e | e | e | e<;>rw[e]<;>decide
 rw[odd,if_neg (by decide)]
 have room:t.place.size<=t.mask:=T.rm
 obtain⟨m,hm⟩:=G3 T.hon.m5 T.qC room (fun i:Nat=>((es[i]?).map (·.1)).getD 0) (hP z)
 generalize hq:SetTable.probe t _ (hP z) _=r
 have hr:r=some m:=by rw[<- hq];exact hm
 clear hq
 subst hr
 dsimp only
 · generalize hf:(fun i:Nat=>((es[i]?).map (·.1)).getD 0)=f at hm
   have hfi:∀ i (h:i<zs.length),f i=hP zs[i].1:=fun i h=>by rw[<- hf];exact T.hash h
   cases m with
   |empty j d =>
     dsimp only
     obtain⟨rfl,e⟩:=Gv T.hon.m5 f (hP z) _ _ j d rfl hm
     obtain⟨m,b1,b2,b3⟩:=Ha T.hon.m5 f (hP z) _ _ j none hm
     refine wpAny_pure (free j (fun wD=>?_) e ⟨m,b1,by rw[<- tZ];exact b2,fun m' hm'=>?_⟩)
     · obtain⟨j',i',nx',q⟩:=T.found wD hfi
       rw[hm] at q
       cases q
     · obtain⟨i,hi⟩:=b3 m' hm'
       rw[tZ] at hi
       have:=wB hi
       rw[<- Array.getElem?_toList] at this
       exact List.mem_of_getElem? this
   |candidate j i nx =>
     dsimp only
     obtain⟨e1,e2⟩:=Hl T.hon.m5 f (hP z) _ _ j i nx hm
     have lz:i<zs.length:=by rw[T.len, <- T.sz];exact Hm e1
     have key:zs[i].1=z:=G9 (T.sm _ (List.getElem_mem lz)) sm ((hfi i lz).symm.trans e2)
     have wD:z∈zs.map (·.1):=List.mem_map.mpr ⟨zs[i],List.getElem_mem lz,key⟩
     have ge:=T.get i
     rw[List.getElem?_eq_getElem lz] at ge
     rw[Option.map_some,qB] at ge
     have go:∀ {k:Bool->(Array (Int×Value)×Nat×SetTable)->Sem SetFound},(∀ x,k true x=pure (SetFound.there none))->wpAny (model prog w) A (do
      let equal <- holding [Value.ref zs[i].2] (eqBool (.ref zs[i].2) (.ref p))
      let x <- setState a
      k equal x) Q E s:=fun {k} hk=>by
      refine wpAny_bind (wpAny_holding (Hi hu (hz _ (List.getElem_mem lz)) hp ?_))
      rw[decide_eq_true key]
      refine wpAny_bind (wpAny_setState_of ha rfl T.fits ?_)
      rw[hk]
      exact wpAny_pure (there wD)
     split
     · refine wpAny_bind (Hk hp ?_ _ fun v hv=>?_)
       · rw[if_neg (by decide)]
         simp only[ge]
         exact go fun x=>by simp
       · obtain⟨e,he,rfl⟩:=List.mem_map.mp hv
         have he:e∈es.toList:=by
          rw[Array.mem_toList_iff] at he ⊢
          exact(Array.mem_filter.mp he).1
         rw[T.el] at he
         obtain⟨y,hy,rfl⟩:=List.mem_map.mp he
         exact⟨y.2,y.1,rfl,hz y hy⟩
     · simp only[ge]
       exact go fun x=>by simp
end
section
variable{prog:Program}{w:World}{A:Around}{E:Value->Shared->Prop}{s:Shared}{a p:Addr}{es:Array (Int×Value)}{ep:Nat}{t:SetTable}
theorem Ho{α β:Type}{x:α}{y:β}:∀ (xs:List α) (ys:List β) (n:Nat),xs.length=ys.length->∀ q∈(xs.take n++x::xs.drop n).zip (ys.take n++y::ys.drop n),q=(x,y)\/q∈xs.zip ys:=by
 intro xs ys n h q hq
 have l:(xs.take n).length=(ys.take n).length:=by rw[List.length_take,List.length_take,h]
 rw[List.zip_append l,List.zip_cons_cons] at hq
 have e:xs.zip ys=(xs.take n).zip (ys.take n)++(xs.drop n).zip (ys.drop n):=by rw[<- List.zip_append l,List.take_append_drop,List.take_append_drop]
 rw[e]
 rcases List.mem_append.mp hq with z | z
 · exact .inr (List.mem_append_left _ z)
 · rcases List.mem_cons.mp z with z | z
   · exact .inl z
   · exact .inr (List.mem_append_right _ z)
theorem bZ.put{B:Bool}{zs:List Z}(T:bZ es t B zs){z:Z}(hn:z.1 ∉ zs.map (·.1))(sm:cq z.1){j:Nat}(hj:t.slot j = .empty)(hr:nN t.mask t.place.toList (hP z.1) j)(rm:t.place.size+1<=t.mask) :
 bZ (SetTable.insertAt es (t.put j).2 (zO z)) (t.put j).1 B (zs.take (t.put j).2++z::zs.drop (t.put j).2)/\(t.put j).1.mask=t.mask/\(t.put j).1.place.size=t.place.size+1/\(t.put j).1.dummies = #[]:=by
 have dm:(t.put j).1.dummies = #[]:=by
  unfold SetTable.put
  dsimp only
  rw[T.hon.m5,A6]
  rfl
 have pl:(t.put j).1.place=SetTable.insertAt t.place (t.put j).2 j:=rfl
 have p2:(t.put j).2=SetTable.below t.place j:=rfl
 generalize hq:(t.put j).2=q at *
 have wF:(t.put j).1.place.toList=t.place.toList.take q++j::t.place.toList.drop q:=by rw[pl,SetTable.toList_insertAt]
 have mk:(t.put j).1.mask=t.mask:=rfl
 have m6:(t.put j).1.place.size=t.place.size+1:=by
  rw[<- Array.length_toList,wF]
  simp
  omega
 have len:zs.length=t.place.toList.length:=by rw[T.len, <- T.sz,Array.length_toList]
 have qD:∀ x∈t.place.toList,x∈(t.put j).1.place.toList:=fun x hx=>by
  rw[wF]
  rw[<- List.take_append_drop q t.place.toList] at hx
  rcases List.mem_append.mp hx with h | h
  · exact List.mem_append_left _ h
  · exact List.mem_append_right _ (List.mem_cons_of_mem _ h)
 have perm:(zs.take q++z::zs.drop q).Perm (z::zs):=by
  have:=List.perm_middle (a:=z) (l₁:=zs.take q) (l₂:=zs.drop q)
  rwa[List.take_append_drop] at this
 refine⟨⟨?_,fun y hy=>?_,?_,⟨?_,dm,T.hon.led⟩,T.qC,?_,by rw[m6];exact rm,fun y hy=>?_⟩,rfl,m6,dm⟩
 · rw[SetTable.toList_insertAt,T.el,List.map_append,List.map_cons,List.map_take,List.map_drop]
 · rcases List.mem_cons.mp (perm.mem_iff.mp hy) with e | e
   · rw[e];exact sm
   · exact T.sm y e
 · refine(perm.map _).nodup_iff.mpr ?_
   rw[List.map_cons]
   exact List.nodup_cons.mpr ⟨hn,T.nd⟩
 · show kR (t.put j).1.place
   rw[pl,p2]
   exact Gr T.hon.rise (Gu T.hon.m5 hj)
 · have l2:(SetTable.insertAt es q (zO z)).toList.length=es.toList.length+1:=by
    rw[SetTable.toList_insertAt]
    simp only[List.length_append,List.length_take,List.length_cons,List.length_drop]
    omega
   rw[Array.length_toList,Array.length_toList] at l2
   rw[m6,l2,T.sz]
 · rw[wF] at hy
   rcases Ho zs t.place.toList q len y hy with e | e
   · rw[e,mk]
     exact hr.mono qD
   · rw[mk]
     exact(T.t5 y e).mono qD
theorem Hq{zs:List Z}(hel:es.toList=zs.map zO)(l:List Nat):l.filterMap (fun i=>es[i]?)=(l.filterMap fun i=>zs[i]?).map zO:=by
 rw[List.map_filterMap]
 congr 1
 funext i
 rw[<- Array.getElem?_toList,hel,List.getElem?_map]
theorem bZ.qE{B:Bool}{zs:List Z}(T:bZ es t B zs){n:Nat}(hm:jB (SetTable.sizeAbove n - 1))(hl:es.size<=SetTable.sizeAbove n - 1) :
 ∃ (t':SetTable) (order:Array Nat) (zs':List Z),t.relaid (es.map (·.1)) n=some (t',order)/\(order.filterMap fun i=>es[i]?).size=es.size/\bZ (order.filterMap fun i=>es[i]?) t' B zs'/\zs'.Perm zs/\t'.mask=SetTable.sizeAbove n - 1/\t'.place.size=es.size:=by
 obtain⟨t',live,e,pm,mk,ri,du,le,pn,Bx,rc⟩:=Hg (t:=t) hm hl
 have zp:((live.map (·.2)).filterMap fun i=>zs[i]?).Perm zs:=by
  have q:=pm.filterMap (fun i=>zs[i]?)
  rw[<- T.len,List.filterMap_getElem?_range_length] at q
  exact q
 have esl:((live.map (·.2)).toArray.filterMap fun i=>es[i]?).toList=((live.map (·.2)).filterMap fun i=>zs[i]?).map zO:=by
  rw[Array.toList_filterMap]
  exact Hq T.el _
 have By:((live.map (·.2)).toArray.filterMap fun i=>es[i]?).size=es.size:=by
  rw[<- Array.length_toList,esl,List.length_map,zp.length_eq,T.len]
 have ll:live.length=es.size:=by
  have:=pm.length_eq
  simpa using this
 have psz:t'.place.size=es.size:=by rw[<- Array.length_toList,Bx,List.length_map,ll]
 refine⟨t',_,_,e,By,⟨esl,fun y hy=>T.sm y (zp.mem_iff.mp hy),(zp.map _).nodup_iff.mpr T.nd,⟨ri,du,le.trans T.hon.led⟩,by rw[mk];exact hm,psz.trans By.symm,by rw[psz,mk];exact hl,fun y hy=>?_⟩,zp,mk,psz⟩
 have lt:∀ q∈live,q.2<zs.length:=fun q hq=>by
  have:=pm.mem_iff.mp (List.mem_map.mpr ⟨q,hq,rfl⟩)
  rw[T.len]
  exact List.mem_range.mp this
 have Hr:∀ (l:List (Nat×Nat)),(∀ q∈l,q.2<zs.length)->∀ y∈((l.map (·.2)).filterMap fun i=>zs[i]?).zip (l.map (·.1)),∃ q∈l,zs[q.2]? = some y.1/\y.2=q.1:=by
  intro l
  induction l with
  |nil=>intro _ y hy;simp at hy
  |cons c r ih =>
    intro h y hy
    have lc:=h c (.head _)
    rw[List.map_cons,List.map_cons,List.filterMap_cons_some (List.getElem?_eq_getElem lc),List.zip_cons_cons] at hy
    rcases List.mem_cons.mp hy with e | e
    · exact⟨c,.head _,by rw[e];exact List.getElem?_eq_getElem lc,by rw[e]⟩
    · obtain⟨q,hq,b⟩:=ih (fun q hq=>h q (.tail _ hq)) y e
      exact⟨q,.tail _ hq,b⟩
 rw[Bx] at hy ⊢
 obtain⟨q,hq,e1,e2⟩:=Hr live lt y hy
 obtain⟨c,hc,r⟩:=rc q hq
 have ec:c=hP y.1.1:=by
  have h2:(es.map (·.1)).toList[q.2]? = some (hP y.1.1):=by
   rw[Array.toList_map,T.el,List.map_map,List.getElem?_map,e1,Option.map_some,Function.comp_apply,qB]
  rw[h2] at hc
  exact(Option.some.inj hc).symm
 rw[mk,e2]
 rw[ec] at r
 exact r
end
section
variable{prog:Program}{w:World}{A:Around}{E:Value->Shared->Prop}{s:Shared}{a p:Addr}
def bP(B:Bool)(h:Heap)(a:Addr)(zs:List Z):Prop:=∃ es ep t,h.get? a=some (bh es ep t)/\bZ es t B zs/\t.place.size * 5<t.mask * 3
theorem bP.at{B:Bool}{h h':Heap}{zs:List Z}(x:bP B h a zs)(k:∀ o,h.get? a=some o->h'.get? a=some o):bP B h' a zs:=by
 obtain⟨es,ep,t,e,r⟩:=x
 exact⟨es,ep,t,k _ e,r⟩
theorem bP.fresh(B:Bool){h:Heap}(e:h.get? a=some (bh #[] 0 (.fresh 0 0 (!B)))):bP B h a [] :=
 ⟨#[],0,_,e,⟨rfl,(fun z hz=>nomatch hz),List.nodup_nil,o8.fresh B,.inl rfl,rfl,(show 0<=7 by decide),(fun q hq=>by simp at hq)⟩,(show 0 * 5<7 * 3 by decide)⟩
theorem grow{m n:Nat}(hm:jB m)(h1:n * 5<m * 3)(h2:m * 3<=(n+1) * 5)(h3:n<300):jB (SetTable.sizeAbove (SetTable.grown (n+1)) - 1)/\n+1<=SetTable.sizeAbove (SetTable.grown (n+1)) - 1/\(n+1) * 5<(SetTable.sizeAbove (SetTable.grown (n+1)) - 1) * 3/\SetTable.sizeAbove (SetTable.grown (n+1))<=sizeLine:=by
 rcases  hm with rfl | rfl | rfl | rfl
 · obtain rfl:n=4:=by omega
   exact⟨.inr (.inl (by decide)),by decide,by decide,by decide⟩
 · obtain rfl:n=18:=by omega
   exact⟨.inr (.inr (.inl (by decide))),by decide,by decide,by decide⟩
 · obtain rfl:n=76:=by omega
   exact⟨.inr (.inr (.inr (by decide))),by decide,by decide,by decide⟩
 · omega
theorem Bz{z:Int×Int}{B:Bool}{zs:List Z}{Q:Bool->Shared->Prop}(hu:A.units<cLine)(hS:bP B s.heap a zs)(hz:∀ y∈zs,bO s.heap y.1 y.2)(hp:bO s.heap z p)(sm:cq z)(hl:zs.length<300)
 (same:z∈zs.map (·.1)->∀ tk,Q false { s with toks:=tk })
 (new:z ∉ zs.map (·.1)->∀ h' tk zs',Heap.SameBut a s.heap h'->bP B h' a zs'->zs'.Perm ((z,p)::zs)->Q true { s with heap:=h',toks:=tk }):wpAny (model prog w) A (setAdd a (.ref p)) Q E s:=by
 obtain⟨es,ep,t,ha,T,nf⟩:=hS
 unfold setAdd
 refine wpAny_holding (wpAny_bind (Hh hu hp ?_))
 unfold setAddHashed
 refine wpAny_holding ?_
 show wpAny _ _ (setAddHashedIn a (.ref p) (hP z) (99999+1)) _ _ _
 rw[setAddHashedIn]
 refine wpAny_bind (wpAny_setState_of (s:={ s with toks:=s.toks+3 }) ha rfl T.fits ?_)
 have ns:byScan (.ref p) es=false:=rfl
 dsimp only
 rw[ns,if_neg (by decide)]
 refine wpAny_bind ?_
 show wpAny _ _ (setSearchFrom a (.ref p) (hP z) true (99999+1) none) _ _ _
 refine Hn (s:={ s with toks:=s.toks+3 }) hu ha T hz hp sm (fun hin=>?_) (fun j hn hj hr=>?_) 99999
 · exact wpAny_pure (same hin _)
 · dsimp only
   refine wpAny_bind (wpAny_setState_of (s:={ s with toks:=s.toks+3 }) ha rfl T.fits ?_)
   dsimp only
   have room:t.place.size+1<=t.mask:=by
    rcases T.qC with e | e | e | e<;>omega
   obtain⟨T1,mk1,m6,BA⟩:=T.put (z:=(z,p)) hn sm hj hr room
   rw[qB] at T1
   generalize hq:(t.put j).2=q at T1
   generalize ht:(t.put j).1=t1 at T1 mk1 m6 BA
   have m7:(zs.take q++(z,p)::zs.drop q).Perm ((z,p)::zs):=by
    have:=List.perm_middle (a:=(z,p)) (l₁:=zs.take q) (l₂:=zs.drop q)
    rwa[List.take_append_drop] at this
   have esl:(SetTable.insertAt es q (hP z,.ref p)).size=zs.length+1:=by
    rw[<- T1.len]
    simp only[List.length_append,List.length_take,List.length_cons,List.length_drop]
    omega
   have big:(300:Nat)<=sizeLine:=by decide
   have zl:t.place.size=zs.length:=by rw[T.sz,T.len]
   have ez:es.size=zs.length:=T.len.symm
   have g1:=A7 (es':=SetTable.insertAt es q (hP z,.ref p)) (t':=t1) ha
   have kT:=Heap.SameBut.update s.heap a (Obj.putSet (SetTable.insertAt es q (hP z,.ref p)) t1)
   have tf:t1.tooFull=decide (t1.place.size * 5 ≥ t1.mask * 3):=by
    unfold SetTable.tooFull SetTable.fill
    rw[BA]
    rfl
   have fin:wpAny (model prog w) A (if (!false && t1.tooFull)=true then do
    setRelay a (SetTable.grown (es.size+1))
    pure true
    else pure true) Q E { s with heap:=s.heap.update a (Obj.putSet (SetTable.insertAt es q (hP z,.ref p)) t1),toks:=s.toks+3 }:=by
    split
    · rename_i c
      rw[tf,Bool.not_false,Bool.true_and,decide_eq_true_eq,m6,mk1] at c
      obtain⟨k1,k2,k3,k4⟩:=grow T.qC nf c (by omega)
      rw[<- T.sz]
      refine wpAny_bind ?_
      unfold setRelay
      refine wpAny_bind (wpAny_setState_of (s:={ s with heap:=s.heap.update a (Obj.putSet (SetTable.insertAt es q (hP z,.ref p)) t1),toks:=s.toks+3 }) g1 rfl T1.fits ?_)
      dsimp only
      rw[if_neg (Nat.not_lt.mpr k4)]
      obtain⟨t2,order,Hs,e2,BB,T2,ie,mk2,ps2⟩:=T1.qE (n:=SetTable.grown (t.place.size+1)) k1 (by rw[esl, <- zl];exact k2)
      rw[e2]
      refine wpAny_bind (show wpAny _ _ (if ((order.filterMap fun i=>(SetTable.insertAt es q (hP z,.ref p))[i]?).size != (SetTable.insertAt es q (hP z,.ref p)).size)=true then (unsupported "internal:set-table-lost-an-element" >>= fun (_:PUnit)=>pure (order.filterMap fun i=>(SetTable.insertAt es q (hP z,.ref p))[i]?,t2)) else pure (order.filterMap fun i=>(SetTable.insertAt es q (hP z,.ref p))[i]?,t2)) _ _ _ from ?_)
      rw[if_neg (by rw[BB];simp)]
      refine wpAny_pure ?_
      dsimp only
      refine wpAny_storeSet_of (s:={ s with heap:=s.heap.update a (Obj.putSet (SetTable.insertAt es q (hP z,.ref p)) t1),toks:=s.toks+3 }) g1 rfl ?_ (by rw[BB,esl];omega)
      refine wpAny_pure (new hn _ _ Hs (kT.trans (Heap.SameBut.update _ a _)) ⟨_,_,t2,A7 g1,T2,?_⟩ (ie.trans m7))
      rw[ps2,mk2,esl, <- zl]
      exact k3
    · rename_i c
      rw[tf,Bool.not_false,Bool.true_and,decide_eq_true_eq] at c
      exact wpAny_pure (new hn _ _ _ kT ⟨_,_,t1,g1,T1,by omega⟩ m7)
   split
   · refine wpAny_bind (Hj (s:={ s with toks:=s.toks+3 }) hp ?_)
     rw[if_pos rfl]
     refine wpAny_bind (wpAny_storeSet_of (s:={ s with toks:=s.toks+3 }) ha rfl ?_ (by omega))
     exact fin
   · refine  wpAny_bind (wpAny_pure ?_)
     rw[if_pos rfl]
     refine wpAny_bind (wpAny_storeSet_of (s:={ s with toks:=s.toks+3 }) ha rfl ?_ (by omega))
     exact fin
end
section
variable{prog:Program}{w:World}{A:Around}{E:Value->Shared->Prop}{s:Shared}{a p:Addr}
theorem Ht{z:Int×Int}{B:Bool}{zs:List Z}{Q:Value->Shared->Prop}(hu:A.units+1<cLine)(hS:bP B s.heap a zs)(hz:∀ y∈zs,bO s.heap y.1 y.2)(hp:bO s.heap z p)(sm:cq z)(hl:zs.length<300)
 (h:∀ h' tk zs',Heap.SameBut a s.heap h'->bP B h' a zs'->(zs'=zs/\z∈zs.map (·.1))\/(zs'.Perm ((z,p)::zs)/\z ∉ zs.map (·.1))->Q .none { s with heap:=h',toks:=tk }):wpAny (model prog w) A (call (.builtin "set.add") [.ref a,.ref p]) Q E s:=by
 have hT:s.TypeIs (.ref a) "set" := by obtain⟨es,ep,t,e,_⟩:=hS;exact⟨_,e,rfl⟩
 refine wpAny_call_entry F.slot_set_add hT F.entry_set_add ?_ (F.args_set_add_2 _ _)
 show wpAny _ _ (setAdd a (.ref p) >>= _) _ _ _
 refine wpAny_bind (Bz hu hS hz hp sm hl (fun hin tk=>?_) fun hn h' tk zs' sb S pm=>?_)
 · exact wpAny_pure ⟨_,rfl,h s.heap tk zs (Heap.SameBut.refl _ _) hS (.inl ⟨rfl,hin⟩)⟩
 · exact wpAny_pure ⟨_,rfl,h h' tk zs' sb S (.inr ⟨pm,hn⟩)⟩
end
end St
namespace L2
open PySem PySem.Spec PyProof.Rows
abbrev Key:=Sum Int Str
def BC:Key->Value->Bool
 | .inl k,v=>Value.isInt k v
 | .inr x,v=>Value.isStrOf x v
def Hu(w:World):Key->Int
 | .inl k=>hashInt k
 | .inr x=>hashStr w x
theorem lK:∀ {k:Key} {v:Value},BC k v=true->(∃ i t,k=Sum.inl i/\v=Value.int i t)\/(∃ x t,k=Sum.inr x/\v=Value.str x t)
 | .inl i,v,h=>by
   obtain⟨t,e⟩:=Value.isInt_shape (k:=i) (v:=v) h
   exact .inl ⟨i,t,rfl,e⟩
 | .inr x,v,h=>by
   obtain⟨t,e⟩:=Value.isStrOf_shape (x:=x) (v:=v) h
   exact .inr ⟨x,t,rfl,e⟩
theorem Hv(a b:Int):decide ((Sum.inl a:Key)=Sum.inl b)=(a == b):=by
 by_cases e:a=b
 · subst e;simp
 · have h : ¬ (Sum.inl a:Key)=Sum.inl b:=fun q=>e (Sum.inl.inj q)
   rw[decide_eq_false h]
   exact(beq_eq_false_iff_ne.mpr e).symm
theorem Hw(a b:Str):decide ((Sum.inr a:Key)=Sum.inr b)=decide (a=b):=by
 by_cases e:a=b
 · subst e;simp
 · have h : ¬ (Sum.inr a:Key)=Sum.inr b:=fun q=>e (Sum.inr.inj q)
   rw[decide_eq_false h,decide_eq_false e]
theorem Hx(a:Int)(b:Str):decide ((Sum.inl a:Key)=Sum.inr b)=false:=decide_eq_false (fun q=>nomatch q)
theorem Hy(a:Str)(b:Int):decide ((Sum.inr a:Key)=Sum.inl b)=false:=decide_eq_false (fun q=>nomatch q)
def BD(prog:Program)(w:World):PySem.KeyKind prog w Key where
 is:=BC
 hash:=Hu w
 inj:=fun v a b ha hb=>by
  rcases lK ha with ⟨i,t,rfl,rfl⟩ | ⟨x,t,rfl,rfl⟩
  · rcases lK hb with ⟨j,u,rfl,e⟩ | ⟨y,u,rfl,e⟩
    · injection e with e1 _;rw[e1]
    · exact nomatch e
  · rcases lK hb with ⟨j,u,rfl,e⟩ | ⟨y,u,rfl,e⟩
    · exact nomatch e
    · injection e with e1 _;rw[e1]
 byValue:=fun k v h=>by
  rcases lK h with ⟨i,t,rfl,rfl⟩ | ⟨x,t,rfl,rfl⟩<;>rfl
 pyHash:=fun hv h=>by
  rcases lK hv with ⟨i,t,rfl,rfl⟩ | ⟨x,t,rfl,rfl⟩
  · exact wpAny_pyHash_int h
  · exact wpAny_pyHash_str h
 eqBool:=fun hu hv h=>by
  rcases lK hu with ⟨i,t,rfl,rfl⟩ | ⟨x,t,rfl,rfl⟩
  · rcases lK hv with ⟨j,u,rfl,rfl⟩ | ⟨y,u,rfl,rfl⟩
    · rw[Hv] at h;exact wpAny_eqBool_int h
    · rw[Hx] at h;exact SeqAt.EqAt.int_str i t y u _ _ _ _ h
  · rcases lK hv with ⟨j,u,rfl,rfl⟩ | ⟨y,u,rfl,rfl⟩
    · rw[Hy] at h;exact SeqAt.EqAt.str_int x t j u _ _ _ _ h
    · rw[Hw] at h;exact wpAny_eqBool_str h
 «strs» := fun k x t v h=>by
  rcases lK h with ⟨i,u,rfl,e⟩ | ⟨y,u,rfl,e⟩
  · exact nomatch e
  · injection e with e1 _
    subst e1
    cases v<;>rfl
inductive V where
 |ao | bl (b:Bool) | int (i:Int) | str (x:Str) | jC (b:Array UInt8) | flt (b:UInt64) | ref (a:Addr) | ty (n:String)
 deriving DecidableEq
def RelV:V->Value->Prop
 | .ao,u=>u=Value.none
 | .bl b,u=>u=Value.bool b
 | .int i,u=>∃ t,u=Value.int i t
 | .str x,u=>∃ t,u=Value.str x t
 | .jC b,u=>∃ t,u=Value.bytes b t
 | .flt b,u=>∃ t,u=Value.float b t
 | .ref a,u=>u=Value.ref a
 | .ty n,u=>u=Value.type n
abbrev Vals:List V->List Value->Prop:=Paired RelV
theorem Vals.length{xs:List V}{us:List Value}(r:Vals xs us):xs.length=us.length:=Paired.length r
theorem Vals.get:∀ {xs:List V} {us:List Value} {i:Nat} {x:V},Vals xs us->xs[i]? = some x->∃ u,us[i]? = some u/\RelV x u
 | _,_,_,_,.nil,e=>by simp at e
 | _,_,0,_,.cons r _,e=>by simp at e;subst e;exact⟨_,rfl,r⟩
 | _,_,i+1,x,.cons _ t,e=>by
   obtain⟨u,h1,h2⟩:=Vals.get (i:=i) (x:=x) t (by simpa using e)
   exact⟨u,by simpa using h1,h2⟩
theorem Vals.set{x:V}{u:Value}(r:RelV x u):∀ {xs:List V} {us:List Value} (i:Nat),Vals xs us->Vals (xs.set i x) (us.set i u)
 | _,_,_,.nil=>.nil
 | _,_,0,.cons _ t=>.cons r t
 | _,_,i+1,.cons q t=>.cons q (Vals.set r i t)
theorem Vals.append:∀ {xs ys:List V} {us ws:List Value},Vals xs us->Vals ys ws->Vals (xs++ys) (us++ws)
 | _,_,_,_,.nil,s=>s
 | _,_,_,_,.cons r t,s=>.cons r (Vals.append t s)
theorem Vals.take:∀ {xs:List V} {us:List Value} (n:Nat),Vals xs us->Vals (xs.take n) (us.take n)
 | _,_,0,_=>.nil
 | _,_,_+1,.nil=>.nil
 | _,_,n+1,.cons r t=>.cons r (Vals.take n t)
theorem Vals.drop:∀ {xs:List V} {us:List Value} (n:Nat),Vals xs us->Vals (xs.drop n) (us.drop n)
 | _,_,0,r=>r
 | _,_,_+1,.nil=>.nil
 | _,_,n+1,.cons _ t=>Vals.drop n t
def cy:Option V->Option Value->Prop
 |some v,some u=>RelV v u
 |none,none=>True
 | _,_=>False
def KV{κ:Type}:List (κ×V)->List (κ×Value)->Prop:=Paired fun (p:κ×V) (q:κ×Value)=>p.1=q.1/\RelV p.2 q.2
def kV:Key->V
 | .inl i=>.int i
 | .inr x=>.str x
inductive HO where
 |lst (xs:List V)
 |tup (xs:List V)
 |dK (kvs:List (Key×V)) | dT (kvs:List (List Key×V))
 |set (S:Int->Bool) (n:Nat)
 |ins (C dx:Addr) (fs:List (Str×V))
 |own (x:Addr)
 |xd (fs:List (Str×V))
 |met (f x:Addr)
 |wG (lo hi:Int)
 |ak (o:Obj) (u:HO)
 |nP (ps:Array Value)
 |ext (φ:Heap->Prop)
abbrev Hp:=Addr->Option HO
def upd(H:Hp)(a:Addr)(o:HO):Hp:=fun b=>if b=a then some o else H b
theorem cN{H:Hp}{a:Addr}{o:HO}:upd H a o a=some o:=by unfold upd;rw[if_pos rfl]
theorem aV{H:Hp}{a b:Addr}{o:HO}(h:b≠a):upd H a o b=H b:=by unfold upd;rw[if_neg h]
theorem wH{H:Hp}{a:Addr}{o u:HO}:upd (upd H a o) a u=upd H a u:=by
 funext b;unfold upd;split<;>rfl
theorem m8{H:Hp}{a b:Addr}{o u:HO}(h:H a=some o)(h':H b=some u)(d:o≠u):a≠b:=by
 intro e;subst e;rw[h] at h';exact d (Option.some.inj h')
theorem eU{H:Hp}{a b:Addr}{o:HO}(h:H a=some o)(h':H b=none):a≠b:=by
 intro e;subst e;rw[h] at h';cases h'
section
variable(P:Program)(w:World)
def aD(H:Hp)(h:Heap)(a:Addr):HO->Prop
 | .lst xs=>xs.length<=sizeLine/\∃ (its:List Value) (n:Nat),Vals xs its/\h.get? a=some { cls:=.type "list",data:=.seq its.toArray n }
 | .tup xs=>xs.length<=sizeLine/\∃ its:List Value,Vals xs its/\IsTup h a its.toArray
 | .dK kvs=>kvs.length<=sizeLine/\(a == sysModules)=false/\∃ vs,KV kvs vs/\h.DictOf (BD P w) a vs
 | .dT kvs=>kvs.length<=sizeLine/\(a == sysModules)=false/\∃ xs:List (List Key×Addr×Value),
  Paired (fun (p:List Key×V) (q:List Key×Addr×Value)=>p.1=q.1/\H q.2.1=some (.tup (p.1.map kV))/\RelV p.2 q.2.2) kvs xs /\
  ∃ o es ep,h.get? a=some o/\o.ExactDict/\o.data = .dict es ep/\es.toList=xs.map (entryOfKey (tupleKind (BD P w)))/\(xs.map (·.1)).Nodup
 | .set S n=>h.SetOf (intKind P w) a S n
 | .ins C dx fs=>H dx=some (.own a)/\fs.length<=1000/\dx≠a/\h.get? a=some (W.instObj C dx) /\
  ∃ mA,h.Ns1 dx mA/\(∀ f,cy (fs.lookup f) (mA f))/\PySem.Within mA (fs.map (·.1))
 | .own _=>∃ o,h.get? a=some o
 | .xd fs=>∃ mA,h.Ns1 a mA/\∀ f,cy (fs.lookup f) (mA f)
 | .wG lo hi=>∃ t u v,h.get? a=some { cls:=.type "range",data:=.fields #[.int lo t,.int hi u,.int 1 v] }
 | .ak o u=>h.get? a=some o/\aD H h a u
 | .nP ps=>h.get? a=some { cls:=.none,data:=.fields ps }
 | .met f x=>h.get? a=some (W.methodObj (.ref f) (.ref x))
 | .ext φ=>φ h/\(∃ o,h.get? a=some o)/\∀ h1 h2:Heap,φ h1->(∀ o,h1.get? a=some o->h2.get? a=some o)->φ h2
def b6(H:Hp)(h:Heap):Prop:=∀ a o,H a=some o->aD P w H h a o
end
section
variable{P:Program}{w:World}{H H':Hp}{h h':Heap}{a:Addr}{o:HO}
theorem aD.lt(x:aD P w H h a o):a<h.objs.size:=by
 cases o with
 |lst xs=>obtain⟨_,_,_,_,e⟩:=x;exact Heap.lt_size e
 |tup xs=>obtain⟨_,_,_,p⟩:=x;exact p.lt
 |dK kvs=>obtain⟨_,_,_,_,o,_,_,e,_⟩:=x;exact Heap.lt_size e
 |dT kvs=>obtain⟨_,_,_,_,o,_,_,e,_⟩:=x;exact Heap.lt_size e
 |set S n=>obtain⟨o,_,_,_,e,_⟩:=x;exact Heap.lt_size e
 |ins C dx fs=>obtain⟨_,_,_,e,_⟩:=x;exact Heap.lt_size e
 |own y=>obtain⟨_,e⟩:=x;exact Heap.lt_size e
 |xd fs=>obtain⟨_,⟨_,_,_,e,_⟩,_⟩:=x;exact Heap.lt_size e
 |wG lo hi=>obtain⟨_,_,_,e⟩:=x;exact Heap.lt_size e
 |ak ob u=>obtain⟨e,_⟩:=x;exact Heap.lt_size e
 |nP ps=>exact Heap.lt_size (show h.get? a=some _ from x)
 |met f y=>exact Heap.lt_size (show h.get? a=some _ from x)
 |ext φ=>obtain⟨_,⟨_,e⟩,_⟩:=x;exact Heap.lt_size e
theorem Paired.qF{α β:Type}{F G:α->β->Prop}:∀ {l₁:List α} {l₂:List β},Paired F l₁ l₂->(∀ a b,F a b->G a b)->Paired G l₁ l₂
 | _,_,.nil,_=>.nil
 | _,_,.cons r t,f=>.cons (f _ _ r) (Paired.qF t f)
theorem aD.stay(x:aD P w H h a o)(k:∀ b u,(b=a\/H b=some (.own a))->h.get? b=some u->h'.get? b=some u)
 (ho:∀ b,H b=some (.own a)->H' b=some (.own a)) (ht:∀ b xs,H b=some (.tup xs)->H' b=some (.tup xs)):aD P w H' h' a o:=by
 induction o with
 |lst xs=>obtain⟨z,its,n,r,e⟩:=x;exact⟨z,its,n,r,k _ _ (.inl rfl) e⟩
 |tup xs=>obtain⟨z,its,r,ob,e,c⟩:=x;exact⟨z,its,r,ob,k _ _ (.inl rfl) e,c⟩
 |dK kvs=>obtain⟨z,y,vs,r,ob,es,ep,e,c⟩:=x;exact⟨z,y,vs,r,ob,es,ep,k _ _ (.inl rfl) e,c⟩
 |dT kvs =>
   obtain⟨z,y,xs,r,ob,es,ep,e,c⟩:=x
   exact⟨z,y,xs,Paired.qF r fun p q z=>⟨z.1,ht _ _ z.2.1,z.2.2⟩,ob,es,ep,k _ _ (.inl rfl) e,c⟩
 |set S n=>obtain⟨ob,es,ep,t,e,c⟩:=x;exact⟨ob,es,ep,t,k _ _ (.inl rfl) e,c⟩
 |ins C dx fs =>
   obtain⟨d,z,ne,e,mA,⟨od,es,ep,e2,c⟩,r⟩:=x
   exact⟨ho _ d,z,ne,k _ _ (.inl rfl) e,mA,⟨od,es,ep,k _ _ (.inr d) e2,c⟩,r⟩
 |own y=>obtain⟨ob,e⟩:=x;exact⟨ob,k _ _ (.inl rfl) e⟩
 |xd fs=>obtain⟨mA,⟨od,es,ep,e,c⟩,r⟩:=x;exact⟨mA,⟨od,es,ep,k _ _ (.inl rfl) e,c⟩,r⟩
 |wG lo hi=>obtain⟨t,u,v,e⟩:=x;exact⟨t,u,v,k _ _ (.inl rfl) e⟩
 |ak ob u ih=>obtain⟨e,q⟩:=x;exact⟨k _ _ (.inl rfl) e,ih q⟩
 |nP ps =>
   have e:h.get? a=some { cls:=.none,data:=.fields ps }:=x
   show h'.get? a=some { cls:=.none,data:=.fields ps }
   exact k a _ (.inl rfl) e
 |met f y =>
   have e:h.get? a=some (W.methodObj (.ref f) (.ref y)):=x
   show h'.get? a=some (W.methodObj (.ref f) (.ref y))
   exact k a _ (.inl rfl) e
 |ext φ=>obtain⟨p,⟨o,e⟩,st⟩:=x;exact⟨st _ _ p fun o q=>k _ _ (.inl rfl) q,⟨o,k _ _ (.inl rfl) e⟩,st⟩
theorem b6.lt(x:b6 P w H h)(e:H a=some o):a<h.objs.size:=(x a o e).lt
theorem b6.fresh(x:b6 P w H h)(e:h.objs.size<=a):H a=none:=by
 cases q:H a with
 |none=>rfl
 |some u=>exact absurd (Nat.lt_of_lt_of_le (x.lt q) e) (Nat.lt_irrefl _)
theorem b6.kept(x:b6 P w H h)(k:∀ b u,h.get? b=some u->h'.get? b=some u):b6 P w H h':=fun a o e =>
 (x a o e).stay (fun b u _ q=>k b u q) (fun _ q=>q) fun _ _ q=>q
theorem b6.laid(x:b6 P w H h)(k:∀ b u,h.get? b=some u->h'.get? b=some u)(hp:h.objs.size<=a)(new:aD P w (upd H a o) h' a o):b6 P w (upd H a o) h':=fun b u e=>by
 have hn:=x.fresh hp
 by_cases hb:b=a
 · subst hb;rw[cN] at e;cases e;exact new
 · rw[aV hb] at e
   exact(x b u e).stay (fun c v _ q=>k c v q) (fun c q=>by rw[aV (eU q hn)];exact q) fun c xs q=>by rw[aV (eU q hn)];exact q
end
def Rd(H:Hp)(a:Addr)(u:HO):Prop:=H a=some u\/∃ o,H a=some (.ak o u)
theorem Rd.ok{P:Program}{w:World}{H:Hp}{h:Heap}{a:Addr}{u:HO}(r:Rd H a u)(x:b6 P w H h):aD P w H h a u:=by
 rcases r with r | ⟨o,r⟩
 · exact x a u r
 · obtain⟨_,q⟩:=x a _ r
   exact q
def t6:Option HO->Prop
 |some (.lst _)=>True
 |some (.dK _)=>True
 |some (.dT _)=>True
 |some (.set _ _)=>True
 |some (.ins _ _ _)=>True
 |some (.ext _)=>True
 | _=>False
section
variable{P:Program}{w:World}{H:Hp}{h h':Heap}{x e:Addr}{o':HO}
theorem b6.write(ok:b6 P w H h)(mu:t6 (H x))(he:e=x\/H e=some (.own x))(k:∀ b u,b≠e->h.get? b=some u->h'.get? b=some u)(heo:∃ u,h'.get? e=some u)
 (new:aD P w (upd H x o') h' x o'):b6 P w (upd H x o') h':=fun b u q=>by
 have qG:∀ c y,H c=some (.own y)->c≠x:=fun c y r z=>by subst z;rw[r] at mu;exact mu
 have wI:∀ c xs,H c=some (.tup xs)->c≠x:=fun c xs r z=>by subst z;rw[r] at mu;exact mu
 by_cases hb:b=x
 · subst hb;rw[cN] at q;cases q;exact new
 · rw[aV hb] at q
   by_cases hbe:b=e
   · have q':H b=some (.own x):=by
      rcases he with z | z
      · exact absurd (hbe.trans z) hb
      · rw[hbe];exact z
     rw[q] at q';cases q'
     obtain⟨v,hv⟩:=heo
     exact⟨v,by rw[hbe];exact hv⟩
   · refine(ok b u q).stay (fun c v hc r=>k c v ?_ r) (fun c r=>by rw[aV (qG c b r)];exact r) fun c xs r=>by rw[aV (wI c xs r)];exact r
     rcases hc with rfl | hc
     · exact hbe
     · rintro rfl
       rcases he with z | z
       · exact qG c b hc z
       · rw[hc] at z;cases z;exact hb rfl
end
structure Un(fs ex:List Addr)(H H':Hp)(h h':Heap):Prop where
 keep:∀ b o,h.get? b=some o->H b=none->b ∉ fs->b ∉ ex->h'.get? b=some o
 slot:∀ b o,h.get? b=some o->H b=none->b∈fs->b ∉ ex->∃ sl,h'.get? b=some { o with slots:=sl }
 free:∀ b o,h.get? b=some o->H b=none->b ∉ ex->H' b=none
 there:∀ b o,h.get? b=some o->b ∉ ex->∃ o',h'.get? b=some o'
 tups:∀ b xs,H b=some (.tup xs)->H' b=some (.tup xs)
 dM:∀ b o u,H b=some (.ak o u)->H' b=some (.ak o u)
 d_:∀ b ps,H b=some (.nP ps)->∃ more,H' b=some (.nP (ps++more))
section
variable{fs fs' ex ex':List Addr}{H H1 H2:Hp}{h h1 h2 h':Heap}{a x e:Addr}{o:HO}
theorem Un.any(u:Un fs ex H H1 h h1){b:Addr}{ob:Obj}(q:h.get? b=some ob)(n:H b=none)(hx:b ∉ ex):∃ sl,h1.get? b=some { ob with slots:=sl }:=by
 by_cases hb:b∈fs
 · exact u.slot b ob q n hb hx
 · exact⟨ob.slots,u.keep b ob q n hb hx⟩
theorem Un.kept(k:∀ b u,h.get? b=some u->h'.get? b=some u):Un fs ex H H h h' :=
 ⟨fun b ob q _ _ _=>k b ob q,fun b ob q _ _ _=>⟨ob.slots,k b ob q⟩,fun _ _ _ n _=>n,fun b ob q _=>⟨ob,k b ob q⟩,fun _ _ q=>q,fun _ _ _ q=>q,fun _ ps q=>⟨#[],by rw[q];simp⟩⟩
theorem Un.refl:Un fs ex H H h h:=Un.kept fun _ _ q=>q
theorem Un.laid(k:∀ b u,h.get? b=some u->h'.get? b=some u)(hp:h.objs.size<=a)(hn:H a=none):Un fs ex H (upd H a o) h h' where
 keep:=fun b u q _ _ _=>k b u q
 slot:=fun b u q _ _ _=>⟨u.slots,k b u q⟩
 free:=fun b u q n _=>by rw[aV (Nat.ne_of_lt (Nat.lt_of_lt_of_le (Heap.lt_size q) hp))];exact n
 there:=fun b u q _=>⟨u,k b u q⟩
 tups:=fun b xs q=>by rw[aV (eU q hn)];exact q
 dM:=fun b u xs q=>by rw[aV (eU q hn)];exact q
 d_:=fun b ps q=>⟨#[],by rw[aV (eU q hn),q];simp⟩
theorem Un.write(mu:t6 (H x))(he:e=x\/H e=some (.own x))(k:∀ b u,b≠e->h.get? b=some u->h'.get? b=some u)(heo:∃ u,h'.get? e=some u):Un fs ex H (upd H x o) h h':=by
 have hx:∀ b,H b=none->b≠x:=fun b n z=>by subst z;rw[n] at mu;exact mu
 have hb:∀ b,H b=none->b≠e:=fun b n z=>by
  subst z
  rcases he with r | r
  · exact hx b n r
  · rw[n] at r;cases r
 have hm:∀ b u,H b=some u -> ¬ t6 (some u)->b≠x:=fun b u q nm z=>by subst z;rw[q] at mu;exact nm mu
 refine⟨fun b u q n _ _=>k b u (hb b n) q,fun b u q n _ _=>⟨u.slots,k b u (hb b n) q⟩,fun b u q n _=>by rw[aV (hx b n)];exact n,fun b u q _=>?_,
  fun b xs q=>by rw[aV (hm b _ q fun z=>z)];exact q,fun b u xs q=>by rw[aV (hm b _ q fun z=>z)];exact q,fun b ps q=>⟨#[],by rw[aV (hm b _ q fun z=>z),q];simp⟩⟩
 by_cases hbe:b=e
 · subst hbe;exact heo
 · exact⟨u,k b u hbe q⟩
end
def t7(h:Heap)(H:Hp):List Addr:=(List.range h.objs.size).filter fun a=>(H a).isSome
def lL(h:Heap)(H:Hp):Heap:=W.hideAll h (t7 h H)
theorem Hz(h:Heap)(H:Hp):(lL h H).objs.size=h.objs.size:=W.hideAll_size _ _
theorem HA{h:Heap}{H:Hp}{b:Addr}{o:Obj}(e:h.get? b=some o)(n:H b=none):(lL h H).get? b=some o :=
 W.hideAll_get _ e fun hm=>by
  have q:(H b).isSome=true:=(List.mem_filter.mp hm).2
  rw[n] at q;simp at q
theorem HB{h:Heap}{H:Hp}{b:Addr}{o:Obj}(e:(lL h H).get? b=some o):h.get? b=some o/\H b=none:=by
 have e':h.get? b=some o:=W.of_hideAll (t7 h H) e
 refine⟨e',?_⟩
 cases q:H b with
 |none=>rfl
 |some x =>
   have hm:b∈t7 h H:=List.mem_filter.mpr ⟨List.mem_range.mpr (Heap.lt_size e'),by simp[q]⟩
   have z:(lL h H).get? b=none:=W.hideAll_none (t7 h H) hm
   rw[z] at e;cases e
structure Mod(K:W.Frag)(mg:Str->Option Value)(base:Heap):Prop where
 m9:K.In base
 glob:base.Ns mainGlobals mg
 blt:∃ mb,base.Ns builtinsNs mb/\∀ x:Str,x ≠ "__name__" -> mb x=bootBuiltins x
 nolimit:base.NoLimit
structure Cx where
 prog:Program
 w:World
 K:W.Frag
 mg:Str->Option Value
 base:Heap
 A:Around
 N:List Str
 s₀:Shared
 H₀:Hp
 env:Env
 outer:List Env
 stack:List Env
 ex:List Addr
 fn:Str->Bool
 calm:Bool
 pn:List (Addr×Obj)
 xe:Value->Shared->Prop
def frs(l:List Env):List Addr:=l.filterMap (·.frame)
abbrev Cx.fs(X:Cx):List Addr:=frs X.outer
def t8(sc:Scope)(x:Str):Prop:=sc.names.lookup x=some .local\/sc.names.lookup x=some .cell\/sc.names.lookup x=some .free
def Loc(sc:Scope)(x:Str):Prop:=sc.names.lookup x=some .local\/sc.names.lookup x=some .cell
def Look(env:Env)(h:Heap)(m:Str->Option Value)(x:Str)(u:Value):Prop :=
 (env.kindOf x=some .local/\m x=some u)\/((env.kindOf x=some .cell\/env.kindOf x=some .free)/\∃ c,env.cells.lookup x=some c/\h.IsCell c (some u))
structure Cx.Ok(X:Cx):Prop where
 mod:Mod X.K X.mg X.base
 kind:X.env.scope.kind = .function
 glob:X.env.globals=mainGlobals
 blt:X.env.builtins=builtinsNs
 above:X.s₀.heap.objs.size<=X.env.locals
 inj:∀ x y c,X.env.cells.lookup x=some c->X.env.cells.lookup y=some c->x=y
 has:∀ x,(X.env.kindOf x=some .cell\/X.env.kindOf x=some .free)->∃ c,X.env.cells.lookup x=some c
 cab:∀ x c,X.fn x=true->X.env.cells.lookup x=some c->X.s₀.heap.objs.size<=c
 hd:X.calm=true->X.A.handled=none
 frames:X.A.frames=some X.stack
 m_:X.stack=X.outer\/(X.stack=X.env::X.outer/\X.env.frame=some X.env.locals)
 kX:∀ b∈X.ex,b≠X.env.locals/\∀ x c,X.env.cells.lookup x=some c->c≠b
 bs:∀ b o,X.base.get? b=some o->X.s₀.heap.get? b=some o/\X.H₀ b=none
 iS:X.base.objs.size<=X.s₀.heap.objs.size
 fM:∀ b o,X.base.get? b=some o->b ∉ X.ex
 eV:∀ b∈X.ex,b ∉ X.fs
 cz:X.s₀.heap.FunFrames X.base X.outer
 jQ:∀ b∈X.fs,X.H₀ b=none
structure Inv(X:Cx)(pins:List (Addr×Obj))(σ:List (Option V))(H:Hp)(s:Shared):Prop where
 ok:X.Ok
 os:s.os=X.s₀.os
 bare:AllBare s.gens
 base:Un X.fs X.ex X.H₀ H X.s₀.heap s.heap
 loc:∃ m,s.heap.Ns X.env.locals m/\∀ (i:Nat) (x:Str) (v:V),X.N[i]? = some x->σ[i]? = some (some v)->t8 X.env.scope x->∃ u,RelV v u/\Look X.env s.heap m x u
 cell:∀ x c,X.env.cells.lookup x=some c->∃ v,s.heap.IsCell c v
 free:H X.env.locals=none
 bj:∀ x c,X.env.cells.lookup x=some c->H c=none
 pin:∀ p∈X.pn++pins,s.heap.get? p.1=some p.2/\H p.1=none/\p.1≠X.env.locals/\p.1 ∉ X.fs/\∀ v,p.2.data ≠ .cell v
 hok:b6 X.prog X.w H s.heap
 len:σ.length=X.N.length
section
variable{X:Cx}{pins:List (Addr×Obj)}{σ:List (Option V)}{H H':Hp}{s:Shared}{h':Heap}
theorem Cx.Ok.wJ(ok:X.Ok){b:Addr}{o:Obj}(e:X.base.get? b=some o):b ∉ X.fs:=fun hb=>by
 have:=(ok.cz.mem hb).1
 rw[e] at this;cases this
theorem Inv.bs(I:Inv X pins σ H s):∀ b o,X.base.get? b=some o->s.heap.get? b=some o/\H b=none:=fun b o e =>
 ⟨I.base.keep b o (I.ok.bs b o e).1 (I.ok.bs b o e).2 (I.ok.wJ e) (I.ok.fM b o e),I.base.free b o (I.ok.bs b o e).1 (I.ok.bs b o e).2 (I.ok.fM b o e)⟩
theorem Inv.bk(I:Inv X pins σ H s):∀ b o,X.base.get? b=some o->s.heap.get? b=some o:=fun b o e=>(I.bs b o e).1
theorem Inv.mod(I:Inv X pins σ H s):Mod X.K X.mg X.base:=I.ok.mod
theorem Inv.bf(I:Inv X pins σ H s):X.K.In s.heap:=I.ok.mod.m9.keeps I.bk
theorem Inv.fr(I:Inv X pins σ H s):∃ m,Fr X.base X.env.locals s.heap m :=
 let ⟨m,hn,_⟩:=I.loc
 ⟨m,hn,I.bk,Nat.le_trans I.ok.iS I.ok.above⟩
theorem Inv.lt(I:Inv X pins σ H s):X.env.locals<s.heap.objs.size:=let ⟨_,hn,_⟩:=I.loc;hn.lt
theorem Inv.sz(I:Inv X pins σ H s):X.s₀.heap.objs.size<=s.heap.objs.size:=Nat.le_trans I.ok.above (Nat.le_of_lt I.lt)
theorem Inv.wK(I:Inv X pins σ H s){a:Addr}(h:s.heap.objs.size<=a):a ∉ X.fs:=fun hb=>by
 obtain⟨_,o,ho,_⟩:=I.ok.cz.mem hb
 exact absurd (Nat.lt_of_lt_of_le (Heap.lt_size ho) (Nat.le_trans I.sz h)) (Nat.lt_irrefl _)
theorem Inv.jR(I:Inv X pins σ H s):∀ x c,X.env.cells.lookup x=some c->c≠X.env.locals:=fun x c e z=>by
 obtain⟨v,o,ho,hd⟩:=I.cell x c e
 obtain⟨m,⟨o',es,ep,ho',hd',_⟩,_⟩:=I.loc
 rw[z,ho'] at ho;cases ho;rw[hd'] at hd;cases hd
theorem Inv.cz(I:Inv X pins σ H s):s.heap.FunFrames X.base X.outer:=by
 have all:∀ (l:List Env),(∀ b∈frs l,b∈X.fs)->X.s₀.heap.FunFrames X.base l->s.heap.FunFrames X.base l:=by
  intro l
  induction l with
  |nil=>intro _ _;trivial
  |cons env r ih =>
    intro hs hl
    obtain⟨hk,⟨L,o,hf,hn,ho,hd⟩,hr⟩:=hl
    have hL:L∈X.fs:=hs L (by unfold frs;rw[List.filterMap_cons,hf];exact List.mem_cons_self)
    obtain⟨sl,e⟩:=I.base.slot L o ho (I.ok.jQ L hL) hL fun z=>I.ok.eV L z hL
    exact⟨hk,⟨L,_,hf,hn,e,hd⟩,ih (fun b hb=>hs b (by unfold frs;rw[List.filterMap_cons,hf];exact List.mem_cons_of_mem _ hb)) hr⟩
 exact all X.outer (fun _ hb=>hb) I.ok.cz
theorem Inv.stack(I:Inv X pins σ H s):s.heap.FunFrames X.base X.stack:=by
 rcases I.ok.m_ with e | ⟨e,hf⟩
 · rw[e];exact I.cz
 · rw[e]
   obtain⟨m,hn,_⟩:=I.loc
   refine .cons (by rw[I.ok.kind];decide) hf hn ?_ I.cz
   exact Heap.get?_none_of_le (Nat.le_trans I.ok.iS I.ok.above)
theorem Inv.fN(I:Inv X pins σ H s):∀ b∈frs X.stack,b∈X.env.locals::X.fs:=fun b hb=>by
 rcases I.ok.m_ with e | ⟨e,hf⟩
 · rw[e] at hb;exact List.mem_cons_of_mem _ hb
 · rw[e] at hb
   unfold frs at hb
   rw[List.filterMap_cons,hf] at hb
   exact hb
theorem Inv.dS(I:Inv X pins σ H s):∀ b∈frs X.stack,H b=none:=fun b hb=>by
 rcases List.mem_cons.mp (I.fN b hb) with e | hb
 · rw[e];exact I.free
 · obtain⟨_,o,ho,_⟩:=I.ok.cz.mem hb
   exact I.base.free b o ho (I.ok.jQ b hb) fun z=>I.ok.eV b z hb
theorem Inv.step{g':Array GenState}{t':Nat}{d':Drawn}{ch:List Addr}(I:Inv X pins σ H s)
 (hch:∀ b∈ch,(b∈X.ex\/X.s₀.heap.objs.size<=b)/\b≠X.env.locals/\(∀ x c,X.env.cells.lookup x=some c->c≠b)/\∀ p∈X.pn++pins,p.1≠b)
 (keep:∀ b o,b≠X.env.locals->b ∉ X.fs->b ∉ ch->s.heap.get? b=some o->H b=none->h'.get? b=some o)
 (slot:∀ b o,b≠X.env.locals->b∈X.fs->b ∉ ch->s.heap.get? b=some o->H b=none->∃ sl,h'.get? b=some { o with slots:=sl }) (free:∀ b o,b ∉ ch->s.heap.get? b=some o->H b=none->H' b=none)
 (there:∀ b o,b ∉ ch->s.heap.get? b=some o->∃ o',h'.get? b=some o')
 (tups:∀ b xs,H b=some (.tup xs)->H' b=some (.tup xs)) (dM:∀ b o u,H b=some (.ak o u)->H' b=some (.ak o u)) (d_:∀ b ps,H b=some (.nP ps)->∃ more,H' b=some (.nP (ps++more)))
 (ns:∀ m,s.heap.Ns X.env.locals m->h'.Ns X.env.locals m) (hok:b6 X.prog X.w H' h') (hg:AllBare g') :
 Inv X pins σ H' { s with heap:=h',gens:=g',drawn:=d',toks:=t' }:=by
 have BE:∀ b o,X.s₀.heap.get? b=some o->b≠X.env.locals:=fun b o e=>Nat.ne_of_lt (Nat.lt_of_lt_of_le (Heap.lt_size e) I.ok.above)
 have t9:∀ b o,X.s₀.heap.get? b=some o->b ∉ X.ex->b ∉ ch:=fun b o e hx hb=>by
  rcases(hch b hb).1 with z | z
  · exact hx z
  · exact absurd (Nat.lt_of_lt_of_le (Heap.lt_size e) z) (Nat.lt_irrefl _)
 have cellK:∀ x c,X.env.cells.lookup x=some c->∀ v,s.heap.IsCell c v->h'.IsCell c v:=fun x c e v ⟨o,ho,hd⟩=>by
  have qH:c ∉ ch:=fun z=>(hch c z).2.2.1 x c e rfl
  by_cases hc:c∈X.fs
  · obtain⟨sl,q⟩:=slot c o (I.jR x c e) hc qH ho (I.bj x c e)
    exact⟨_,q,hd⟩
  · exact⟨o,keep c o (I.jR x c e) hc qH ho (I.bj x c e),hd⟩
 refine⟨I.ok,I.os,hg,⟨fun b o e n hb hx=>?_,fun b o e n hb hx=>?_,fun b o e n hx=>?_,fun b o e hx=>?_,fun b xs e=>tups b xs (I.base.tups b xs e),fun b o xs e=>dM b o xs (I.base.dM b o xs e),fun b ps e=>?_⟩,?_,fun x c e=>?_,?_,fun x c e=>?_,fun p hp=>?_,hok,I.len⟩
 · exact keep b o (BE b o e) hb (t9 b o e hx) (I.base.keep b o e n hb hx) (I.base.free b o e n hx)
 · obtain⟨sl,e1⟩:=I.base.slot b o e n hb hx
   obtain⟨sl',e2⟩:=slot b _ (BE b o e) hb (t9 b o e hx) e1 (I.base.free b o e n hx)
   exact⟨sl',e2⟩
 · obtain⟨o',e1⟩:=I.base.there b o e hx
   exact free b o' (t9 b o e hx) e1 (I.base.free b o e n hx)
 · obtain⟨o',e1⟩:=I.base.there b o e hx
   exact there b o' (t9 b o e hx) e1
 · obtain⟨m1,e1⟩:=I.base.d_ b ps e
   obtain⟨m2,e2⟩:=d_ b _ e1
   exact⟨m1++m2,by rw[e2,Array.append_assoc]⟩
 · obtain⟨m,hn,hl⟩:=I.loc
   refine⟨m,ns m hn,fun i x v e1 e2 e3=>?_⟩
   obtain⟨u,r,l⟩:=hl i x v e1 e2 e3
   refine⟨u,r,?_⟩
   rcases l with l | ⟨k,c,e,z⟩
   · exact .inl l
   · exact .inr ⟨k,c,e,cellK x c e _ z⟩
 · obtain⟨v,z⟩:=I.cell x c e
   exact⟨v,cellK x c e v z⟩
 · obtain⟨m,⟨o,_,_,ho,_⟩,_⟩:=I.loc
   exact free _ o (fun z=>(hch _ z).2.1 rfl) ho I.free
 · obtain⟨v,o,ho,hd⟩:=I.cell x c e
   exact free c o (fun z=>(hch c z).2.2.1 x c e rfl) ho (I.bj x c e)
 · obtain⟨e,n,ne,nf,d⟩:=I.pin p hp
   have qH:p.1 ∉ ch:=fun z=>(hch p.1 z).2.2.2 p hp rfl
   exact⟨keep p.1 p.2 ne nf qH e n,free p.1 p.2 qH e n,ne,nf,d⟩
theorem Inv.un{t':Nat}(I:Inv X pins σ H s)(u:Un X.fs [] H H' s.heap h')(hok:b6 X.prog X.w H' h'):Inv X pins σ H' { s with heap:=h',toks:=t' }:=by
 obtain⟨m,⟨o,es,ep,ho,r⟩,_⟩:=id I.loc
 obtain⟨sl,hL⟩:=u.any ho I.free (by simp)
 exact I.step (g':=s.gens) (d':=s.drawn) (ch:=[]) (fun _ z=>nomatch z) (fun b o _ hb _ e n=>u.keep b o e n hb (by simp)) (fun b o _ hb _ e n=>u.slot b o e n hb (by simp)) (fun b o _ e n=>u.free b o e n (by simp)) (fun b o _ e=>u.there b o e (by simp)) u.tups u.dM u.d_ (fun m' hm=>by
  obtain⟨o',es',ep',ho',r'⟩:=hm
  rw[ho] at ho';cases ho'
  exact⟨_,es',ep',hL,r'⟩) hok I.bare
theorem Inv.call{g':Array GenState}{t':Nat}{d':Drawn}{ch:List Addr}(I:Inv X pins σ H s)(u:Un (frs X.stack) ch H H' s.heap h')(hok:b6 X.prog X.w H' h')(hg:AllBare g')
 (hch:∀ b∈ch,(b∈X.ex\/X.s₀.heap.objs.size<=b)/\b≠X.env.locals/\(∀ x c,X.env.cells.lookup x=some c->c≠b)/\∀ p∈X.pn++pins,p.1≠b) :
 Inv X pins σ H' { s with heap:=h',gens:=g',drawn:=d',toks:=t' }:=by
 obtain⟨m,⟨o,es,ep,ho,r⟩,_⟩:=id I.loc
 obtain⟨sl,hL⟩:=u.any ho I.free fun z=>(hch _ z).2.1 rfl
 exact I.step (ch:=ch) hch (fun b o hL hb hc e n=>u.keep b o e n (fun z=>(List.mem_cons.mp (I.fN b z)).elim hL hb) hc) (fun b o _ _ hc e n=>u.any e n hc) (fun b o hc e n=>u.free b o e n hc) (fun b o hc e=>u.there b o e hc) u.tups u.dM u.d_ (fun m' hm=>by
  obtain⟨o',es',ep',ho',r'⟩:=hm
  rw[ho] at ho';cases ho'
  exact⟨_,es',ep',hL,r'⟩) hok hg
theorem Inv.turned{t':Nat}{it:Addr}(I:Inv X pins σ H s)(k:∀ b o,b≠it->s.heap.get? b=some o->h'.get? b=some o)(hn:H it=none)(hL:it≠X.env.locals)
 (h1:it∈X.ex\/X.s₀.heap.objs.size<=it) (h2:∀ x c,X.env.cells.lookup x=some c->c≠it) (h3:∀ p∈X.pn++pins,p.1≠it):Inv X pins σ H { s with heap:=h',toks:=t' }:=by
 have BF:∀ b u,H b=some u->b≠it:=fun b u e z=>by rw[z,hn] at e;cases e
 refine I.step (g':=s.gens) (d':=s.drawn) (ch:=[it]) (fun b hb=>?_) (fun b o _ _ hc e _=>k b o (fun z=>hc (by simp[z])) e) (fun b o _ _ hc e _=>⟨o.slots,k b o (fun z=>hc (by simp[z])) e⟩) (fun _ _ _ _ n=>n)
  (fun b o hc e=>⟨o,k b o (fun z=>hc (by simp[z])) e⟩) (fun _ _ e=>e) (fun _ _ _ e=>e) (fun b ps e=>⟨#[],by rw[e];simp⟩) (fun m hm=>?_) (fun b u e=>?_) I.bare
 · have e:b=it:=by simpa using hb
   subst e
   exact⟨h1,hL,h2,h3⟩
 · obtain⟨o,es,ep,ho,r⟩:=hm
   exact⟨o,es,ep,k _ o (Ne.symm hL) ho,r⟩
 · refine(I.hok b u e).stay (fun c v hc q=>k c v ?_ q) (fun _ q=>q) fun _ _ q=>q
   rcases hc with z | z
   · rw[z];exact BF b u e
   · exact BF c _ z
theorem Inv.tok(I:Inv X pins σ H s)(t:Nat):Inv X pins σ H { s with toks:=t }:=I.un (h':=s.heap) (t':=t) Un.refl I.hok
theorem Inv.kept{t':Nat}(I:Inv X pins σ H s)(k:∀ b u,s.heap.get? b=some u->h'.get? b=some u):Inv X pins σ H { s with heap:=h',toks:=t' }:=I.un (Un.kept k) (I.hok.kept k)
theorem Inv.laid{a:Addr}{o:HO}{t':Nat}(I:Inv X pins σ H s)(k:∀ b u,s.heap.get? b=some u->h'.get? b=some u)(hp:s.heap.objs.size<=a)(new:aD X.prog X.w (upd H a o) h' a o) :
 Inv X pins σ (upd H a o) { s with heap:=h',toks:=t' }:=I.un (Un.laid k hp (I.hok.fresh hp)) (I.hok.laid k hp new)
theorem Inv.write{x e:Addr}{o:HO}{t':Nat}(I:Inv X pins σ H s)(mu:t6 (H x))(he:e=x\/H e=some (.own x))(k:∀ b u,b≠e->s.heap.get? b=some u->h'.get? b=some u)(heo:∃ u,h'.get? e=some u)
 (new:aD X.prog X.w (upd H x o) h' x o):Inv X pins σ (upd H x o) { s with heap:=h',toks:=t' }:=I.un (Un.write mu he k heo) (I.hok.write mu he k heo new)
theorem Inv.weak{ay:List (Option V)}(I:Inv X pins σ H s)(hl:ay.length=σ.length)(w:∀ (i:Nat) v,ay[i]? = some (some v)->σ[i]? = some (some v)):Inv X pins ay H s :=
 ⟨I.ok,I.os,I.bare,I.base,let ⟨m,hn,hl'⟩:=I.loc; ⟨m,hn,fun i x v e1 e2 e3=>hl' i x v e1 (w i v e2) e3⟩,I.cell,I.free,I.bj,I.pin,I.hok,hl.trans I.len⟩
theorem Inv.dU{ef:List (Addr×Obj)}(I:Inv X pins σ H s)(h:∀ p∈ef,s.heap.get? p.1=some p.2/\H p.1=none/\p.1≠X.env.locals/\p.1 ∉ X.fs/\∀ v,p.2.data ≠ .cell v):Inv X ef σ H s :=
 ⟨I.ok,I.os,I.bare,I.base,I.loc,I.cell,I.free,I.bj,fun p hp=>(List.mem_append.mp hp).elim (fun z=>I.pin p (List.mem_append_left _ z)) (h p),I.hok,I.len⟩
theorem wL{N:List Str}(hN:N.Nodup){i j:Nat}{x:Str}(a:N[i]? = some x)(b:N[j]? = some x):i=j:=by
 obtain⟨h1,e1⟩:=List.getElem?_eq_some_iff.mp a
 obtain⟨h2,e2⟩:=List.getElem?_eq_some_iff.mp b
 exact(List.getElem_inj hN).mp (e1.trans e2.symm)
theorem HC{M:Model}{A:Around}{E:Value->Shared->Prop}{i:Nat}{x:Str}{v:V}{u:Value}{Q:Unit->Shared->Prop}(I:Inv X pins σ H s)(hN:X.N.Nodup)(hi:X.N[i]? = some x)(hx:Loc X.env.scope x)(r:RelV v u)
 (h:∀ s',Inv X pins (σ.set i (some v)) H s'->(∃ a,Heap.SameBut a s.heap s'.heap/\(a=X.env.locals\/X.env.cells.lookup x=some a))->Q () s') (hf:X.fn x=true\/X.env.scope.names.lookup x=some .local:=by first | exact .inl rfl | exact .inr rfl | assumption):wpAny M A (storeName X.env x u) Q E s:=by
 obtain⟨m,hn,hl⟩:=id I.loc
 have hcls:(X.env.scope.kind == .class || (X.env.scope.kind == .module && X.env.locals != X.env.globals))=false:=by rw[I.ok.kind];rfl
 have lM:i<σ.length:=by rw[I.len];exact(List.getElem?_eq_some_iff.mp hi).1
 have jR:=I.jR
 have tracked:∀ {a:Addr} {h':Heap},(∃ o,s.heap.get? a=some o/\H a=none)->Heap.SameBut a s.heap h'->b6 X.prog X.w H h':=fun {a h'} ha hs b ob e=>by
  obtain⟨_,_,hfree⟩:=ha
  refine(I.hok b ob e).stay (fun c w' hc q=>(hs.2 c ?_).trans q) (fun _ q=>q) fun _ _ q=>q
  rintro rfl
  rcases hc with rfl | hc
  · rw[hfree] at e;cases e
  · rw[hfree] at hc;cases hc
 rcases hx with hk | hk
 · refine wpAny_storeName_local hk hn (fun h' hn' hs=>?_) hcls
   obtain⟨oL,_,_,hoL,_⟩:=id hn
   refine h _ ⟨I.ok,I.os,I.bare,⟨fun b o e n hb hx=>?_,fun b o e n hb hx=>?_,I.base.free,fun b o e hx=>?_,I.base.tups,I.base.dM,I.base.d_⟩,⟨_,hn',fun j y v' e1 e2 e3=>?_⟩,fun y c e=>?_,I.free,I.bj,fun p hp=>?_,tracked ⟨oL,hoL,I.free⟩ hs,by simpa using I.len⟩ ⟨_,hs,.inl rfl⟩
   · exact(hs.2 b (Nat.ne_of_lt (Nat.lt_of_lt_of_le (Heap.lt_size e) I.ok.above))).trans (I.base.keep b o e n hb hx)
   · obtain⟨sl,e1⟩:=I.base.slot b o e n hb hx
     exact⟨sl,(hs.2 b (Nat.ne_of_lt (Nat.lt_of_lt_of_le (Heap.lt_size e) I.ok.above))).trans e1⟩
   · obtain⟨o',e1⟩:=I.base.there b o e hx
     exact⟨o',(hs.2 b (Nat.ne_of_lt (Nat.lt_of_lt_of_le (Heap.lt_size e) I.ok.above))).trans e1⟩
   · by_cases hj:j=i
     · subst hj
       rw[hi] at e1;cases e1
       rw[List.getElem?_set_self lM] at e2
       cases e2
       exact⟨u,r,.inl ⟨hk,by simp⟩⟩
     · rw[List.getElem?_set_ne (Ne.symm hj)] at e2
       obtain⟨u',r',q⟩:=hl j y v' e1 e2 e3
       refine⟨u',r',?_⟩
       rcases q with ⟨k,e⟩ | ⟨k,c,e,z⟩
       · refine .inl ⟨k,?_⟩
         have:y≠x:=fun e=>hj (wL hN e1 (e ▸ hi))
         simp[this,e]
       · exact .inr ⟨k,c,e,z.sameBut hs (jR y c e)⟩
   · obtain⟨w',z⟩:=I.cell y c e
     exact⟨w',z.sameBut hs (jR y c e)⟩
   · obtain⟨e,n,ne,nf,d⟩:=I.pin p hp
     exact⟨(hs.2 p.1 ne).trans e,n,ne,nf,d⟩
 · have hfn:X.fn x=true:=by
    rcases hf with z | z
    · exact z
    · rw[z] at hk;cases hk
   obtain⟨c,hc⟩:=I.ok.has x (.inl hk)
   obtain⟨w',z⟩:=I.cell x c hc
   refine wpAny_storeName_cell I.ok.kind hk hc z (fun h' hc' hs=>?_)
   obtain⟨oc,hoc,wM⟩:=id z
   refine h { s with heap:=h' } ⟨I.ok,I.os,I.bare,⟨fun b o e n hb hx=>?_,fun b o e n hb hx=>?_,I.base.free,fun b o e hx=>?_,I.base.tups,I.base.dM,I.base.d_⟩,⟨m,hn.sameBut hs (Ne.symm (jR x c hc)),fun j y v' e1 e2 e3=>?_⟩,fun y c' e=>?_,I.free,I.bj,fun p hp=>?_,tracked ⟨oc,hoc,I.bj x c hc⟩ hs,by simpa using I.len⟩ ⟨c,hs,.inr hc⟩
   · exact(hs.2 b (Nat.ne_of_lt (Nat.lt_of_lt_of_le (Heap.lt_size e) (I.ok.cab x c hfn hc)))).trans (I.base.keep b o e n hb hx)
   · obtain⟨sl,e1⟩:=I.base.slot b o e n hb hx
     exact⟨sl,(hs.2 b (Nat.ne_of_lt (Nat.lt_of_lt_of_le (Heap.lt_size e) (I.ok.cab x c hfn hc)))).trans e1⟩
   · obtain⟨o',e1⟩:=I.base.there b o e hx
     exact⟨o',(hs.2 b (Nat.ne_of_lt (Nat.lt_of_lt_of_le (Heap.lt_size e) (I.ok.cab x c hfn hc)))).trans e1⟩
   · by_cases hj:j=i
     · subst hj
       rw[hi] at e1;cases e1
       rw[List.getElem?_set_self lM] at e2
       cases e2
       exact⟨u,r,.inr ⟨.inl hk,c,hc,hc'⟩⟩
     · rw[List.getElem?_set_ne (Ne.symm hj)] at e2
       obtain⟨u',r',q⟩:=hl j y v' e1 e2 e3
       refine⟨u',r',?_⟩
       rcases q with q | ⟨k,c',e,z'⟩
       · exact .inl q
       · refine .inr ⟨k,c',e,z'.sameBut hs ?_⟩
         rintro rfl
         exact hj (wL hN e1 (I.ok.inj _ _ _ e hc ▸ hi))
   · by_cases hcc:c'=c
     · subst hcc;exact⟨_,hc'⟩
     · obtain⟨w2,z2⟩:=I.cell y c' e
       exact⟨w2,z2.sameBut hs hcc⟩
   · obtain⟨e,n,ne,nf,d⟩:=I.pin p hp
     refine⟨(hs.2 p.1 ?_).trans e,n,ne,nf,d⟩
     intro q
     rw[q,hoc] at e
     have q':oc=p.2:=Option.some.inj e
     exact d w' (by rw[<- q'];exact wM)
theorem t_{M:Model}{A:Around}{E:Value->Shared->Prop}{i:Nat}{x:Str}{v:V}{u:Value}{Q:Unit->Shared->Prop}(I:Inv X pins σ H s)(hN:X.N.Nodup)(hi:X.N[i]? = some x)(hx:Loc X.env.scope x)(r:RelV v u)
 (h:∀ s',Inv X pins (σ.set i (some v)) H s'->Q () s') (hf:X.fn x=true\/X.env.scope.names.lookup x=some .local:=by first | exact .inl rfl | exact .inr rfl | assumption):wpAny M A (storeName X.env x u) Q E s :=
 HC I hN hi hx r (fun s' I' _=>h s' I') hf
theorem Inv.jS{s':Shared}{ch:List Addr}(I:Inv X pins σ H s)(ho:s'.os=s.os)(u:Un (frs X.stack) ch H H' s.heap s'.heap)(hok:b6 X.prog X.w H' s'.heap)(hg:AllBare s'.gens)
 (hch:∀ b∈ch,(b∈X.ex\/X.s₀.heap.objs.size<=b)/\b≠X.env.locals/\(∀ x c,X.env.cells.lookup x=some c->c≠b)/\∀ p∈X.pn++pins,p.1≠b):Inv X pins σ H' s':=by
 obtain⟨h',g',d',t',o'⟩:=s'
 have e:o'=s.os:=ho
 subst e
 exact I.call (g':=g') (t':=t') (d':=d') u hok hg hch
end
abbrev XK:=Value->Option Addr->Hp->Prop
abbrev St:=List (Option V)
abbrev VK:=V->Hp->Prop
abbrev TE:=St->Hp->VK->Prop
abbrev TT:=St->Hp->(Bool->Hp->Prop)->Prop
abbrev TA:=St->Hp->(List V->Hp->Prop)->Prop
structure Ends where
 nx:St->Hp->Prop
 rt:VK
 bk:St->Hp->Prop:=fun _ _=>False
 ct:St->Hp->Prop:=fun _ _=>False
abbrev TS:=Ends->St->Hp->Prop
def EP(X:Cx)(pins:List (Addr×Obj))(σ:St)(Q:VK)(u:Value)(s':Shared):Prop:=∃ v H',Inv X pins σ H' s'/\RelV v u/\Q v H'
def TP(X:Cx)(pins:List (Addr×Obj))(σ:St)(Q:Bool->Hp->Prop)(b:Bool)(s':Shared):Prop:=∃ H',Inv X pins σ H' s'/\Q b H'
def AP(X:Cx)(pins:List (Addr×Obj))(σ:St)(Q:List V->Hp->Prop)(us:List Value)(s':Shared):Prop:=∃ vs H',Inv X pins σ H' s'/\Vals vs us/\Q vs H'
def SP(X:Cx)(pins:List (Addr×Obj))(D:Ends)(f:Flow)(s':Shared):Prop :=
 match f with
 | .next=>∃ ay H',Inv X pins ay H' s'/\D.nx ay H'
 | .brk=>∃ ay H',Inv X pins ay H' s'/\D.bk ay H'
 | .cont=>∃ ay H',Inv X pins ay H' s'/\D.ct ay H'
 | .ret u=>∃ v ay H',Inv X pins ay H' s'/\RelV v u/\D.rt v H'
def PE(X:Cx)(e:Expr)(t:TE):Prop :=
 ∀ (pins:List (Addr×Obj)) (s:Shared) (σ:St) (H:Hp) (Q:VK),Inv X pins σ H s->t σ H Q->wpAny (model X.prog X.w) X.A (eval e X.env) (EP X pins σ Q) X.xe s
def PT(X:Cx)(e:Expr)(t:TT):Prop :=
 ∀ (pins:List (Addr×Obj)) (s:Shared) (σ:St) (H:Hp) (Q:Bool->Hp->Prop),Inv X pins σ H s->t σ H Q->wpAny (model X.prog X.w) X.A (isTrue e X.env (eval e X.env)) (TP X pins σ Q) X.xe s
def PW(X:Cx)(e:Expr)(t:TT):Prop :=
 ∀ (whole:Sem Value) (pins:List (Addr×Obj)) (s:Shared) (σ:St) (H:Hp) (Q:Bool->Hp->Prop),Inv X pins σ H s->t σ H Q->wpAny (model X.prog X.w) X.A (isTrue e X.env whole) (TP X pins σ Q) X.xe s
theorem PW.pt{X:Cx}{e:Expr}{t:TT}(h:PW X e t):PT X e t:=h _
def PA(X:Cx)(es:List Expr)(t:TA):Prop :=
 ∀ (pos:Pos) (pins:List (Addr×Obj)) (s:Shared) (σ:St) (H:Hp) (Q:List V->Hp->Prop),Inv X pins σ H s->t σ H Q->wpAny (model X.prog X.w) X.A (spliced (backTo pos (starEach es X.env))) (AP X pins σ Q) X.xe s
def PS(X:Cx)(st:Stmt)(t:TS):Prop :=
 ∀ (pins:List (Addr×Obj)) (s:Shared) (σ:St) (H:Hp) (D:Ends),Inv X pins σ H s->t D σ H->wpAny (model X.prog X.w) X.A (exec st X.env) (SP X pins D) X.xe s
def PSs(X:Cx)(st:List Stmt)(t:TS):Prop :=
 ∀ (pins:List (Addr×Obj)) (s:Shared) (σ:St) (H:Hp) (D:Ends),Inv X pins σ H s->t D σ H->wpAny (model X.prog X.w) X.A (execs st X.env) (SP X pins D) X.xe s
theorem aL{α:Type}{t:Sem α}{Q Q':α->Shared->Prop}{M:Model}{A:Around}{E:Value->Shared->Prop}{s:Shared}(h:wpAny M A t Q E s)(hQ:∀ a s,Q a s->Q' a s):wpAny M A t Q' E s:=wpAny_mono h hQ fun _ _ x=>x
section
variable{X:Cx}
def nc(i:Nat):TE:=fun σ H Q=>∃ v,σ[i]? = some (some v)/\Q v H
def tC(v:V):TE:=fun _ H Q=>Q v H
theorem HD{i:Nat}{x:Str}{pos:Pos}(hN:X.N[i]? = some x)(hv:t8 X.env.scope x)(hd:(x == ("__debug__" : Str))=false:=by decide)(hcd:(x == ("__classdict__" : Str))=false:=by decide):PE X (.Name x pos) (nc i):=by
 intro pins s σ H Q I h
 obtain⟨v,e,h⟩:=h
 obtain⟨m,hn,hl⟩:=I.loc
 obtain⟨u,r,l⟩:=hl i x v hN e hv
 have fin:EP X pins σ Q u s:=⟨v,H,I,r,h⟩
 rcases l with ⟨hk,hm⟩ | ⟨hk,c,hc,hcell⟩
 · exact wpAny_Name (wpAny_loadName_local I.ok.kind hk hn hm fin) hd
 · rcases hk with hk | hk
   · exact wpAny_Name (wpAny_loadName_cell I.ok.kind hk hc hcell fin) hd
   · exact wpAny_Name (wpAny_loadName_free I.ok.kind hk hc hcell fin hcd) hd
theorem HE{i j pos}:PE X (.Constant (.int i) j pos) (tC (.int i)):=fun _ _ _ H _ I h=>wpAny_Constant_int ⟨.int i,H,I.tok _,⟨_,rfl⟩,h⟩
theorem HF{b j pos}:PE X (.Constant (.bool b) j pos) (tC (.bl b)):=fun _ _ _ H _ I h=>Constant_bool ⟨.bl b,H,I,rfl,h⟩
theorem HG{j pos}:PE X (.Constant .none j pos) (tC .ao):=fun _ _ _ H _ I h=>Constant_none ⟨.ao,H,I,rfl,h⟩
theorem BG{x j pos}:PE X (.Constant (.str x) j pos) (tC (.str x)):=fun _ _ _ H _ I h=>Calls.Constant_str ⟨.str x,H,I.tok _,⟨_,rfl⟩,h⟩
def Gl(X:Cx)(x:Str):Prop:=X.env.kindOf x=some .globalImplicit
theorem nQ{E:Value->Shared->Prop}{pins:List (Addr×Obj)}{s:Shared}{σ:St}{H:Hp}{x:Str}{u:Value}{pos:Pos}{Q:Value->Shared->Prop}(I:Inv X pins σ H s)(hg:Gl X x)(hm:X.mg x=some u)(h:Q u s)
 (hd:(x == ("__debug__" : Str))=false:=by decide):wpAny (model X.prog X.w) X.A (eval (.Name x pos) X.env) Q E s :=
 Calls.Name_function_global I.ok.kind hg (Calls.loadGlobal_global (by rw[I.ok.glob];exact I.mod.glob.keeps I.bk) hm h) hd
theorem ph{E:Value->Shared->Prop}{pins:List (Addr×Obj)}{s:Shared}{σ:St}{H:Hp}{x:Str}{u:Value}{pos:Pos}{Q:Value->Shared->Prop}(I:Inv X pins σ H s)(hg:Gl X x)(hm:X.mg x=none)(hv:bootBuiltins x=some u)(h:Q u s)
 (hn:x ≠ "__name__" := by decide) (hd:(x == ("__debug__" : Str))=false:=by decide):wpAny (model X.prog X.w) X.A (eval (.Name x pos) X.env) Q E s:=by
 obtain⟨mb,h1,h2⟩:=I.mod.blt
 exact Calls.Name_function_global I.ok.kind hg (Calls.loadGlobal_builtin (by rw[I.ok.glob];exact I.mod.glob.keeps I.bk) hm (by rw[I.ok.blt];exact h1.keeps I.bk) ((h2 x hn).trans hv) h) hd
theorem gj{x:Str}{v:V}{u:Value}{pos:Pos}(hg:Gl X x)(hm:X.mg x=some u)(r:RelV v u)(hd:(x == ("__debug__" : Str))=false:=by decide):PE X (.Name x pos) (tC v) :=
 fun _ _ _ H _ I h=>nQ I hg hm ⟨v,H,I,r,h⟩ hd
theorem pj{x:Str}{v:V}{u:Value}{pos:Pos}(hg:Gl X x)(hm:X.mg x=none)(hv:bootBuiltins x=some u)(r:RelV v u)(hn:x ≠ "__name__" := by decide)(hd:(x == ("__debug__" : Str))=false:=by decide):PE X (.Name x pos) (tC v) :=
 fun _ _ _ H _ I h=>ph I hg hm hv ⟨v,H,I,r,h⟩ hn hd
variable{a b:Expr}{ta tb:TE}{pos:Pos}
def tB(t:TE):TT:=fun σ H Q=>t σ H fun x H1=>∃ c,x = .bl c/\Q c H1
theorem HH{e:Expr}{t:TE}(h:PE X e t)(he:∀ whole,isTrue e X.env whole=(do let v <- whole;standAt e.pos;holding [v] (truthy v)):=by intro _;rfl):PT X e (tB t):=by
 intro pins s σ H Q I hw
 refine isTrue_plain (aL (h pins s σ H _ I hw) fun v s1 ⟨x,H1,I1,r1,q1⟩=>?_) (he _)
 obtain⟨d,rfl,q⟩:=q1
 cases r1
 exact wpAny_truthy_bool ⟨H1,I1,q⟩
variable{tA BH:TT}{rest:List Expr}
def BI(t u:TT):TT:=fun σ H Q=>t σ H fun c H1=>if c=true then Q true H1 else u σ H1 Q
def BJ(t:TT):TT:=fun σ H Q=>t σ H fun c H1=>Q (!c) H1
theorem HI(ha:PT X a tA):PW X (.BoolOp .Or [a] pos) tA:=by
 intro wh pins s σ H Q I h
 refine isTrue_or (aL (ha pins s σ H Q I h) fun c s1 e=>?_)
 cases c with
 |false=>exact isTrue_or_nil e
 |true=>exact e
theorem HJ(ha:PT X a tA)(hb:PW X (.BoolOp .Or (b::rest) pos) BH):PW X (.BoolOp .Or (a::b::rest) pos) (BI tA BH):=by
 intro wh pins s σ H Q I h
 refine isTrue_or (aL (ha pins s σ H _ I h) fun c s1 ⟨H1,I1,q1⟩=>?_)
 cases c with
 |true=>exact⟨H1,I1,q1⟩
 |false=>exact hb wh pins s1 σ H1 Q I1 q1
theorem HK(ha:PT X a tA):PT X (.UnaryOp .Not a pos) (BJ tA):=by
 intro pins s σ H Q I h
 exact isTrue_not (ha pins s σ H (fun c H1=>Q (!c) H1) I h)
def HL(ta tb:TE):TE:=fun σ H Q=>ta σ H fun x H1=>∃ c,x = .bl c/\if c=true then tb σ H1 Q else Q (.bl false) H1
def HM(ta:TE):TE:=fun σ H Q=>ta σ H fun x H1=>∃ c,x = .bl c/\Q (.bl (!c)) H1
theorem HN{op}{t:TE}(h:PE X a t):PE X (.BoolOp op [a] pos) t:=fun pins s σ H Q I hw=>BoolOp_one (h pins s σ H Q I hw)
theorem HP(ha:PE X a ta)(hb:PE X (.BoolOp .And (b::rest) pos) tb):PE X (.BoolOp .And (a::b::rest) pos) (HL ta tb):=by
 intro pins s σ H Q I h
 refine BoolOp_and (aL (ha pins s σ H _ I h) fun v s1 ⟨x,H1,I1,r1,q1⟩=>?_)
 obtain⟨c,rfl,q1⟩:=q1
 cases r1
 refine wpAny_truthy_bool ?_
 cases c with
 |true=>exact hb pins s1 σ H1 Q I1 q1
 |false=>exact⟨.bl false,H1,I1,rfl,q1⟩
theorem HQ(ha:PE X a ta):PE X (.UnaryOp .Not a pos) (HM ta):=by
 intro pins s σ H Q I h
 refine UnaryOp_ (aL (ha pins s σ H _ I h) fun v s1 ⟨x,H1,I1,r1,q1⟩=>?_)
 obtain⟨c,rfl,q1⟩:=q1
 cases r1
 exact not_of (wpAny_truthy_bool ⟨.bl (!c),H1,I1,rfl,q1⟩)
end
def bQ(K:W.Frag)(H:Hp)(a:Addr)(xs:List V):Prop :=
 Rd H a (.lst xs) \/
  ∃ (o:Obj) (its:Array Value) (n:Nat),K.lookup a=some o/\o.cls = .type "list" /\ o.dict=none/\o.data = .seq its n/\its.size<=sizeLine/\Vals xs its.toList
def c8(K:W.Frag)(H:Hp)(a:Addr)(xs:List V):Prop :=
 Rd H a (.tup xs) \/
  ∃ (o:Obj) (its:Array Value) (n:Nat),K.lookup a=some o/\o.cls = .type "tuple" /\ o.data = .seq its n/\its.size<=sizeLine/\Vals xs its.toList
def HR:Value->Option V
 | .none=>some .ao
 | .bool b=>some (.bl b)
 | .int i _=>some (.int i)
 | .str x _=>some (.str x)
 | .bytes b _=>some (.jC b)
 | .float b _=>some (.flt b)
 | .ref a=>some (.ref a)
 | .type n=>some (.ty n)
 | _=>none
theorem RelV.abs{x:V}{u:Value}(r:RelV x u):HR u=some x:=by
 cases x with
 |ao=>cases r;rfl
 |bl _=>cases r;rfl
 |int _=>obtain⟨t,rfl⟩:=r;rfl
 |str _=>obtain⟨t,rfl⟩:=r;rfl
 |jC _=>obtain⟨t,rfl⟩:=r;rfl
 |flt _=>obtain⟨t,rfl⟩:=r;rfl
 |ref _=>cases r;rfl
 |ty _=>cases r;rfl
theorem RelV.inj{x y:V}{u:Value}(r:RelV x u)(q:RelV y u):x=y:=Option.some.inj (r.abs.symm.trans q.abs)
theorem Vals.inj:∀ {xs ys:List V} {us:List Value},Vals xs us->Vals ys us->xs=ys
 | _,_,_,.nil,.nil=>rfl
 | _,_,_,.cons r t,.cons r' t'=>by rw[r.inj r',Vals.inj t t']
section
variable{X:Cx}{pins:List (Addr×Obj)}{σ:St}{H:Hp}{s:Shared}{a:Addr}{xs ys:List V}
theorem bQ.of{K:W.Frag}(h:H a=some (.lst xs)):bQ K H a xs:=.inl (.inl h)
theorem c8.of{K:W.Frag}(h:H a=some (.tup xs)):c8 K H a xs:=.inl (.inl h)
theorem Inv.list(I:Inv X pins σ H s)(h:bQ X.K H a xs):∃ its:List Value,Vals xs its/\PlainL s.heap a its.toArray/\xs.length<=sizeLine:=by
 rcases h with h | ⟨o,its,n,hk,hc,hd,hs,hz,r⟩
 · obtain⟨z,its,n,r,e⟩:=h.ok I.hok
   exact⟨its,r,⟨_,n,e,rfl,rfl,rfl⟩,z⟩
 · refine⟨its.toList,r,⟨o,n,I.bf a o hk,hc,hd,by simpa using hs⟩,?_⟩
   have e:=r.length
   simp only[Array.length_toList] at e
   omega
theorem Inv.tuple(I:Inv X pins σ H s)(h:c8 X.K H a xs):∃ its:List Value,Vals xs its/\IsTup s.heap a its.toArray/\xs.length<=sizeLine:=by
 rcases h with h | ⟨o,its,n,hk,hc,hs,hz,r⟩
 · obtain⟨z,its,r,p⟩:=h.ok I.hok
   exact⟨its,r,p,z⟩
 · refine⟨its.toList,r,⟨o,I.bf a o hk,hc,n,by simpa using hs⟩,?_⟩
   have e:=r.length
   simp only[Array.length_toList] at e
   omega
theorem Inv.jT(I:Inv X pins σ H s)(h:bQ X.K H a xs)(h':bQ X.K H a ys):xs=ys:=by
 obtain⟨its,r,⟨o,n,e,_,_,d⟩,_⟩:=I.list h
 obtain⟨its',r',⟨o',n',e',_,_,d'⟩,_⟩:=I.list h'
 rw[e] at e';cases e'
 rw[d] at d'
 injection d' with d1 _
 have:its=its':=by simpa using congrArg Array.toList d1
 subst this
 exact r.inj r'
theorem Inv.i_(I:Inv X pins σ H s)(h:c8 X.K H a xs)(h':c8 X.K H a ys):xs=ys:=by
 obtain⟨its,r,⟨o,e,_,n,d⟩,_⟩:=I.tuple h
 obtain⟨its',r',⟨o',e',_,n',d'⟩,_⟩:=I.tuple h'
 rw[e] at e';cases e'
 rw[d] at d'
 injection d' with d1 _
 have:its=its':=by simpa using congrArg Array.toList d1
 subst this
 exact r.inj r'
end
abbrev Cx.eW(X:Cx)(E:Value->Shared->Prop):Cx:={ X with xe:=E }
abbrev Cx.jU(X:Cx):Cx:=X.eW fun _ _=>False
theorem Cx.Ok.eW{X:Cx}(ok:X.Ok)(E:Value->Shared->Prop):(X.eW E).Ok :=
 ⟨ok.mod,ok.kind,ok.glob,ok.blt,ok.above,ok.inj,ok.has,ok.cab,ok.hd,ok.frames,ok.m_,ok.kX,ok.bs,ok.iS,ok.fM,ok.eV,ok.cz,ok.jQ⟩
theorem Cx.Ok.cb{X:Cx}{E:Value->Shared->Prop}(ok:(X.eW E).Ok):X.Ok :=
 ⟨ok.mod,ok.kind,ok.glob,ok.blt,ok.above,ok.inj,ok.has,ok.cab,ok.hd,ok.frames,ok.m_,ok.kX,ok.bs,ok.iS,ok.fM,ok.eV,ok.cz,ok.jQ⟩
section
variable{X:Cx}{pins:List (Addr×Obj)}{σ:St}{H:Hp}{s:Shared}{E:Value->Shared->Prop}
theorem Inv.eW(I:Inv X pins σ H s)(E:Value->Shared->Prop):Inv (X.eW E) pins σ H s:=⟨I.ok.eW E,I.os,I.bare,I.base,I.loc,I.cell,I.free,I.bj,I.pin,I.hok,I.len⟩
theorem Inv.cb(I:Inv (X.eW E) pins σ H s):Inv X pins σ H s:=⟨I.ok.cb,I.os,I.bare,I.base,I.loc,I.cell,I.free,I.bj,I.pin,I.hok,I.len⟩
theorem SP.cb{D:Ends}{f:Flow}{s':Shared}(h:SP (X.eW E) pins D f s'):SP X pins D f s':=by
 cases f with
 |next=>obtain⟨ay,H',I,q⟩:=h;exact⟨ay,H',I.cb,q⟩
 |brk=>obtain⟨ay,H',I,q⟩:=h;exact⟨ay,H',I.cb,q⟩
 |cont=>obtain⟨ay,H',I,q⟩:=h;exact⟨ay,H',I.cb,q⟩
 |ret u=>obtain⟨v,ay,H',I,r,q⟩:=h;exact⟨v,ay,H',I.cb,r,q⟩
theorem PSs.jU{st:List Stmt}{t:TS}(h:PSs X.jU st t):PSs X st t:=fun pins s σ H D I hw =>
 wpAny_mono (h pins s σ H D (I.eW _) hw) (fun _ _ q=>q.cb) fun _ _ z=>False.elim z
end
section
variable{X:Cx}{st:Stmt}{rest:List Stmt}{t u:TS}{e:Expr}{te:TE}{pos:Pos}
def HS:TS:=fun D σ H=>D.nx σ H
def HU(t u:TS):TS:=fun D σ H=>t { D with nx:=u D } σ H
theorem BK:PSs X [] HS:=fun _ _ σ H _ I h=>wpAny_execs_nil ⟨σ,H,I,h⟩
theorem ua(h1:PS X st t)(h2:PSs X rest u):PSs X (st::rest) (HU t u):=by
 intro pins s σ H D I h
 refine wpAny_execs_cons (aL (h1 pins s σ H { D with nx:=u D } I h) fun f s1 q=>?_)
 cases f with
 |next =>
   obtain⟨ay,H',I',q⟩:=q
   exact h2 pins s1 ay H' D I' q
 |ret v=>exact q
 |brk=>exact q
 |cont=>exact q
theorem ub(h1:PS X st t):PSs X [st] t:=by
 intro pins s σ H D I h
 refine wpAny_execs_cons (aL (h1 pins s σ H D I h) fun f s1 q=>?_)
 cases f with
 |next=>exact wpAny_execs_nil q
 |ret v=>exact q
 |brk=>exact q
 |cont=>exact q
theorem Inv.quiet{pins:List (Addr×Obj)}{σ:St}{H:Hp}{s:Shared}(I:Inv X pins σ H s):interactive X.env=false:=by simp[interactive,I.ok.kind]
def HV(te:TE):TS:=fun D σ H=>te σ H fun _ H1=>D.nx σ H1
theorem wN(he:PE X e te)(hs:swapsWith e none pos.line X.env=pure false:=by rfl):PS X (.Expr e pos) (HV te):=by
 intro pins s σ H D I h
 exact wpAny_Expr_any (aL (he pins s σ H _ I h) fun v s1 ⟨x,H1,I1,r1,q1⟩=>⟨σ,H1,I1,q1⟩) I.quiet hs
def HW(te:TE):TS:=fun D σ H=>te σ H D.rt
theorem HX(he:PE X e te):PS X (.Return (some e) pos) (HW te):=by
 intro pins s σ H D I h
 exact wpAny_Return_some (aL (he pins s σ H _ I h) fun v s1 ⟨x,H1,I1,r1,q1⟩=>⟨x,σ,H1,I1,r1,q1⟩)
def HY(c:TT)(t u:TS):TS:=fun D σ H=>c σ H fun b H1=>if b=true then t D σ H1 else u D σ H1
theorem BL{c:Expr}{a b:List Stmt}{tc:TT}(hc:PT X c tc)(ha:PSs X a t)(hb:PSs X b u):PS X (.If c a b pos) (HY tc t u):=by
 intro pins s σ H D I h
 refine wpAny_If (aL (hc pins s σ H _ I h) fun d s1 ⟨H1,I1,q1⟩=>?_)
 cases d with
 |true=>exact ha pins s1 σ H1 D I1 q1
 |false=>exact hb pins s1 σ H1 D I1 q1
end
abbrev TG:=V->St->Hp->(St->Hp->Prop)->Prop
abbrev ja:=List V->St->Hp->(St->Hp->Prop)->Prop
def PG(X:Cx)(target:Expr)(t:TG):Prop :=
 ∀ (pins:List (Addr×Obj)) (s:Shared) (σ:St) (H:Hp) (v:V) (u:Value) (Q:St->Hp->Prop),Inv X pins σ H s->RelV v u->t v σ H Q ->
  wpAny (model X.prog X.w) X.A (assign target X.env u) (fun _ s'=>∃ ay H',Inv X pins ay H' s'/\Q ay H') X.xe s
def PGs(X:Cx)(ts:List Expr)(t:ja):Prop :=
 ∀ (pins:List (Addr×Obj)) (s:Shared) (σ:St) (H:Hp) (vs:List V) (us:List Value) (Q:St->Hp->Prop),Inv X pins σ H s->Vals vs us->t vs σ H Q ->
  wpAny (model X.prog X.w) X.A (assignInOrder ((assignEach ts X.env).map (·.2)) us) (fun _ s'=>∃ ay H',Inv X pins ay H' s'/\Q ay H') X.xe s
abbrev wO:=V->V->V->Hp->(Hp->Prop)->Prop
def BM(X:Cx)(t:wO):Prop :=
 ∀ (pins:List (Addr×Obj)) (s:Shared) (σ:St) (H:Hp) (o i v:V) (ov iv u:Value) (Q:Hp->Prop),Inv X pins σ H s->RelV o ov->RelV i iv->RelV v u->t o i v H Q ->
  wpAny (model X.prog X.w) X.A (setItem ov iv u) (fun _ s'=>∃ H',Inv X pins σ H' s'/\Q H') X.xe s
section
variable{X:Cx}{pos:Pos}
def ng(i:Nat):TG:=fun v σ H Q=>Q (σ.set i (some v)) H
theorem ig{i:Nat}{x:Str}(hN:X.N.Nodup)(hi:X.N[i]? = some x)(hx:Loc X.env.scope x)(hf:X.fn x=true\/X.env.scope.names.lookup x=some .local:=by first | exact .inl rfl | exact .inr rfl | assumption):PG X (.Name x pos) (ng i):=by
 intro pins s σ H v u Q I r h
 exact wpAny_assign_Name (t_ I hN hi hx r (fun s' I'=>⟨_,H,I',h⟩) hf)
def wQ:ja:=fun vs σ H Q=>vs=[]/\Q σ H
def wR(t:TG)(u:ja):ja:=fun vs σ H Q=>∃ v r,vs=v::r/\t v σ H fun ay H'=>u r ay H' Q
theorem qI:PGs X [] wQ:=by
 intro pins s σ H vs us Q I r h
 obtain⟨e,h⟩:=h
 subst e
 cases r
 exact assignInOrder_nil ⟨σ,H,I,h⟩
theorem kY{e:Expr}{es:List Expr}{t:TG}{u:ja}(h1:PG X e t)(h2:PGs X es u)
 (hs:(assignEach (e::es) X.env).map (·.2)=assign e X.env::(assignEach es X.env).map (·.2):=by rfl):PGs X (e::es) (wR t u):=by
 intro pins s σ H vs us Q I r h
 obtain⟨v,vr,e1,h⟩:=h
 subst e1
 cases r with
 |cons r rr =>
   rw[hs]
   refine assignInOrder_cons (aL (h1 pins s σ H _ _ _ I r h) fun _ s1 ⟨dC,H1,I1,q1⟩=>?_)
   exact h2 pins s1 dC H1 _ _ Q I1 rr q1
def wU(K:W.Frag)(n:Nat)(t:ja):TG:=fun v σ H Q=>∃ a xs,v = .ref a/\c8 K H a xs/\xs.length=n/\t xs σ H Q
theorem qJ{es:List Expr}{k:Nat}{t:ja}{n:Nat}(hc:X.calm=true)(h:PGs X es t)
 (hn:(assignEach es X.env).length=n:=by rfl) (hst:(assignEach es X.env).findIdx? (·.1)=none:=by rfl):PG X (.Tuple es k pos) (wU X.K n t):=by
 intro pins s σ H v u Q I r hw
 obtain⟨a,xs,e1,hq,hl,hw⟩:=hw
 subst e1
 cases r
 obtain⟨its,rv,ht,hz⟩:=I.tuple hq
 refine assign_Tuple_tuple (I.ok.hd hc) ht (by simp[hn, <- hl,rv.length]) hst fun h' hx=>?_
 have I1:Inv X pins σ H { s with heap:=h' }:=I.kept (t':=s.toks) fun b o e=>hx b o (Nat.ne_of_lt (Heap.lt_size e)) e
 exact h pins _ σ H xs _ Q I1 (by simpa using rv) hw
def BN(to ti:TE)(t:wO):TG:=fun v σ H Q=>to σ H fun o H1=>ti σ H1 fun i H2=>t o i v H2 fun H3=>Q σ H3
theorem BO{o i:Expr}{to ti:TE}{t:wO}(ho:PE X o to)(hi:PE X i ti)(hs:BM X t)
 (ha:∀ v,assign (.Subscript o i pos) X.env v=(do
  let ov <- holding [v] (eval o X.env)
  let iv <- holding [v,ov] (eval i X.env)
  standAt pos
  holding [v,ov,iv] (setItem ov iv v)
  release [v,ov,iv] []):=by intro _;rfl):PG X (.Subscript o i pos) (BN to ti t):=by
 intro pins s σ H v u Q I r h
 rw[ha]
 refine wpAny_bind (wpAny_holding (aL (ho pins s σ H _ I h) fun ov s1 ⟨x,H1,I1,r1,q1⟩=>?_))
 refine wpAny_bind (wpAny_holding (aL (hi pins s1 σ H1 _ I1 q1) fun iv s2 ⟨y,H2,I2,r2,q2⟩=>?_))
 refine wpAny_bind (wpAny_standAt (wpAny_bind (wpAny_holding (aL (hs pins s2 σ H2 x y v ov iv u _ I2 r1 r2 r q2) fun _ s3 ⟨H3,I3,q3⟩=>?_))))
 exact wpAny_release ⟨σ,H3,I3,q3⟩
def pq(te:TE)(g:TG):TS:=fun D σ H=>te σ H fun x H1=>g x σ H1 D.nx
theorem BP{tg e:Expr}{te:TE}{g:TG}(he:PE X e te)(hg:PG X tg g)(hs:swapsWithSole [tg] e pos.line X.env=pure false:=by rfl)(hw:swappedStores [tg] e X.env=pure none:=by rfl)
 (h1:(assignEach [tg] X.env).map (·.2)=[assign tg X.env]:=by rfl):PS X (.Assign [tg] e pos) (pq te g):=by
 intro pins s σ H D I h
 refine wpAny_Assign_stores (aL (he pins s σ H _ I h) fun v s1 ⟨x,H1,I1,r1,q1⟩=>?_) hs hw
 rw[h1]
 exact aL (hg pins s1 σ H1 x v _ I1 r1 q1) fun _ s2 q=>q
theorem BQ{i:Nat}{x:Str}{e:Expr}{te:TE}{pos':Pos}(hN:X.N.Nodup)(hi:X.N[i]? = some x)(hx:Loc X.env.scope x)(he:PE X e te)(hs:swapsWith e (some (.Name x pos')) pos.line X.env=pure false:=by rfl)(hf:X.fn x=true\/X.env.scope.names.lookup x=some .local:=by first | exact .inl rfl | exact .inr rfl | assumption) :
 PS X (.Assign [.Name x pos'] e pos) (pq te (ng i)):=by
 intro pins s σ H D I h
 refine wpAny_Assign_Name (aL (he pins s σ H _ I h) fun v s1 ⟨y,H1,I1,r1,q1⟩=>?_) hs
 exact t_ I1 hN hi hx r1 (fun s2 I2=>⟨_,H1,I2,q1⟩) hf
end
structure It where
 go:Nat->Hp->Prop
 nh:Nat->Hp->V->Hp->Prop
 stop:Nat->Hp->Prop
def g9(X:Cx)(pins:List (Addr×Obj))(H:Hp)(b:Addr):Prop :=
 H b=none/\b≠X.env.locals/\b ∉ X.fs/\(b∈X.ex\/X.s₀.heap.objs.size<=b)/\(∀ x c,X.env.cells.lookup x=some c->c≠b)/\∀ p∈X.pn++pins,p.1≠b
theorem Inv.ij{X:Cx}{pins:List (Addr×Obj)}{σ:St}{H H':Hp}{s:Shared}{b:Addr}(I:Inv X pins σ H s)(hb:s.heap.objs.size<=b)(hn:H' b=none):g9 X pins H' b:=by
 refine⟨hn,Nat.ne_of_gt (Nat.lt_of_lt_of_le I.lt hb),I.wK hb,.inr (Nat.le_trans I.sz hb),fun x c e z=>?_,fun p hp z=>?_⟩
 · obtain⟨v,q⟩:=I.cell x c e
   exact absurd (Nat.lt_of_lt_of_le q.lt (by rw[z];exact hb)) (Nat.lt_irrefl _)
 · exact absurd (Nat.lt_of_lt_of_le (Heap.lt_size (I.pin p hp).1) (by rw[z];exact hb)) (Nat.lt_irrefl _)
structure Turn(P:Program)(w:World)(K:W.Frag)(tg:Expr)(J:It)(fp:List Addr)(it:Addr)(tn:Nat->Heap->Prop):Prop where
 mem:it∈fp
 obj:∀ i h,tn i h->∀ b∈fp,∃ o,h.get? b=some o/\∀ v,o.data ≠ .cell v
 keep:∀ i h h',tn i h->(∀ b∈fp,∀ o,h.get? b=some o->h'.get? b=some o)->tn i h'
 item:∀ (X:Cx),X.prog=P->X.w=w->X.K=K->X.calm=true->∀ (i:Nat) (pins:List (Addr×Obj)) (s:Shared) (σ:St) (H:Hp) (E:Value->Shared->Prop),Inv X pins σ H s->(∀ b∈fp,g9 X pins H b)->tn i s.heap->J.go i H ->
  wpAny (model P w) X.A (pyNext (.ref it)) (fun r s1=>∃ u,r=some u /\
   wpAny (model P w) X.A (letOwnedTupleGo tg (.ref it) u) (fun _ s2=>∃ x H',Inv X pins σ H' s2/\RelV x u/\J.nh i H x H'/\tn (i+1) s2.heap/\∀ b∈fp,H' b=none) E s1) E s
 done:∀ (X:Cx),X.prog=P->X.w=w->X.K=K->X.calm=true->∀ (i:Nat) (pins:List (Addr×Obj)) (s:Shared) (σ:St) (H:Hp) (E:Value->Shared->Prop),Inv X pins σ H s->(∀ b∈fp,g9 X pins H b)->tn i s.heap->J.stop i H ->
  wpAny (model P w) X.A (pyNext (.ref it)) (fun r s1=>r=none/\Inv X pins σ H s1) E s
 self:∀ (A:Around) (i:Nat) (s:Shared) (Q:Value->Shared->Prop) (E:Value->Shared->Prop),tn i s.heap->Q (.ref it) s->wpAny (model P w) A (pyIter (.ref it)) Q E s
abbrev TI:=St->Hp->(It->Hp->Prop)->Prop
def BR(X:Cx)(pins:List (Addr×Obj))(σ:St)(tg:Expr)(R:It->Hp->Prop)(itv:Value)(s2:Shared):Prop :=
 ∃ (it:Addr) (fp:List Addr) (tn:Nat->Heap->Prop) (J:It) (H':Hp),itv = .ref it/\Inv X pins σ H' s2/\Turn X.prog X.w X.K tg J fp it tn/\tn 0 s2.heap/\(∀ b∈fp,g9 X pins H' b)/\R J H'
def PI(X:Cx)(tg iter:Expr)(wi:TI):Prop :=
 ∀ (pins:List (Addr×Obj)) (s:Shared) (σ:St) (H:Hp) (R:It->Hp->Prop),Inv X pins σ H s->wi σ H R ->
  wpAny (model X.prog X.w) X.A (eval iter X.env) (fun v s1=>wpAny (model X.prog X.w) X.A (pyIter v) (BR X pins σ tg R) X.xe s1) X.xe s
theorem wV{M:Model}{A:Around}{E:Value->Shared->Prop}{s:Shared}{tg:Expr}{it:Addr}{u:Value}{o:Obj}{n:String}{vs:Array Value}{Q:Unit->Shared->Prop}(ho:s.heap.get? it=some o)(hc:o.cls = .type n)(hd:o.data = .fields vs)
 (hn:["enumerate","zip","dict_itemiterator","dict_reverseitemiterator","odict_iterator","itertools.zip_longest","itertools.pairwise"].contains n=false) (hQ:Q () s):wpAny M A (letOwnedTupleGo tg (.ref it) u) Q E s:=by
 unfold letOwnedTupleGo
 cases tg<;>first
  |exact wpAny_pure hQ
  | (cases u<;>first
   |exact wpAny_pure hQ
   | (refine wpAny_bind (wpAny_load ho ?_)
      rw[hc,hd]
      show wpAny M A (if (["enumerate","zip","dict_itemiterator","dict_reverseitemiterator","odict_iterator","itertools.zip_longest","itertools.pairwise"].contains n && vs[0]? == some (rawInt _))=true then _ else _) Q E s
      rw[if_neg (by intro h;rw[hn,Bool.false_and] at h;cases h)]
      exact wpAny_pure hQ))
def wW(K:W.Frag)(a:Addr):It :=
 ⟨fun i H=>∃ xs x,bQ K H a xs/\xs[i]? = some x,fun i H x H'=>H'=H/\∀ xs,bQ K H a xs->xs[i]? = some x,fun i H=>∃ xs,bQ K H a xs/\xs.length<=i⟩
def wX(K:W.Frag)(a:Addr):It :=
 ⟨fun i H=>∃ xs x,c8 K H a xs/\xs[i]? = some x,fun i H x H'=>H'=H/\∀ xs,c8 K H a xs->xs[i]? = some x,fun i H=>∃ xs,c8 K H a xs/\xs.length<=i⟩
def uc(lo:Int)(n:Nat):It:=⟨fun i _=>i<n,fun i H x H'=>H'=H/\x = .int (lo+i),fun i _=>n<=i⟩
theorem HZ{P:Program}{w:World}{K:W.Frag}{tg:Expr}(a it:Addr):Turn P w K tg (wW K a) [it] it (fun i h=>h.IsListIter it a i) where
 mem:=by simp
 obj:=fun i h st b hb=>by
  have e:b=it:=by simpa using hb
  subst e
  obtain⟨o,e,c,d⟩:=st
  exact⟨o,e,fun v z=>by rw[d] at z;cases z⟩
 keep:=fun i h h' st k=>st.at fun o e=>k it (by simp) o e
 item:=by
  intro X hP hw hK hc i pins s σ H E I hf st hg
  subst hP hw hK
  obtain⟨xs,x,hq,hx⟩:=hg
  obtain⟨its,rv,p,hz⟩:=I.list hq
  obtain⟨u,hu,ru⟩:=rv.get hx
  obtain⟨f0,f1,f2,f3,f4,f5⟩:=hf it (by simp)
  refine wpAny_pyNext_list_item st p.isList (x:=u) (by simpa using hu) fun h' st' sb=>?_
  have I1:Inv X pins σ H { s with heap:=h' }:=I.turned (t':=s.toks) (fun b o hb e=>(sb.2 b hb).trans e) f0 f1 f3 f4 f5
  obtain⟨o,e,c,d⟩:=id st'
  exact⟨u,rfl,wV (s:={ s with heap:=h' }) e c d (by decide) ⟨x,H,I1,ru,⟨rfl,fun ys hy=>by rw[I.jT hy hq];exact hx⟩,st',fun b hb=>(hf b hb).1⟩⟩
 done:=by
  intro X hP hw hK hc i pins s σ H E I hf st hg
  subst hP hw hK
  obtain⟨xs,hq,hx⟩:=hg
  obtain⟨its,rv,p,hz⟩:=I.list hq
  obtain⟨f0,f1,f2,f3,f4,f5⟩:=hf it (by simp)
  have hl:=rv.length
  exact wpAny_pyNext_list_end (I.ok.hd hc) st p.isList (by simp;omega) fun h' eb=>⟨rfl,I.turned (t':=s.toks) (fun b o hb e=>eb b o hb e) f0 f1 f3 f4 f5⟩
 self:=fun _ _ _ _ _ st h=>wpAny_pyIter_listiter st h
theorem H_{P:Program}{w:World}{K:W.Frag}{tg:Expr}(a it:Addr):Turn P w K tg (wX K a) [it] it (fun i h=>h.IsTupleIter it a i) where
 mem:=by simp
 obj:=fun i h st b hb=>by
  have e:b=it:=by simpa using hb
  subst e
  obtain⟨o,e,c,d⟩:=st
  exact⟨o,e,fun v z=>by rw[d] at z;cases z⟩
 keep:=fun i h h' st k=>st.at fun o e=>k it (by simp) o e
 item:=by
  intro X hP hw hK hc i pins s σ H E I hf st hg
  subst hP hw hK
  obtain⟨xs,x,hq,hx⟩:=hg
  obtain⟨its,rv,p,hz⟩:=I.tuple hq
  obtain⟨u,hu,ru⟩:=rv.get hx
  obtain⟨f0,f1,f2,f3,f4,f5⟩:=hf it (by simp)
  refine wpAny_pyNext_tuple_item st (show s.heap.IsTuple a its.toArray from p) (x:=u) (by simpa using hu) fun h' st' sb=>?_
  have I1:Inv X pins σ H { s with heap:=h' }:=I.turned (t':=s.toks) (fun b o hb e=>(sb.2 b hb).trans e) f0 f1 f3 f4 f5
  obtain⟨o,e,c,d⟩:=id st'
  exact⟨u,rfl,wV (s:={ s with heap:=h' }) e c d (by decide) ⟨x,H,I1,ru,⟨rfl,fun ys hy=>by rw[I.i_ hy hq];exact hx⟩,st',fun b hb=>(hf b hb).1⟩⟩
 done:=by
  intro X hP hw hK hc i pins s σ H E I hf st hg
  subst hP hw hK
  obtain⟨xs,hq,hx⟩:=hg
  obtain⟨its,rv,p,hz⟩:=I.tuple hq
  obtain⟨f0,f1,f2,f3,f4,f5⟩:=hf it (by simp)
  have hl:=rv.length
  exact wpAny_pyNext_tuple_end (I.ok.hd hc) st (show s.heap.IsTuple a its.toArray from p) (by simp;omega) fun h' eb=>⟨rfl,I.turned (t':=s.toks) (fun b o hb e=>eb b o hb e) f0 f1 f3 f4 f5⟩
 self:=fun _ _ _ _ _ st h=>wpAny_pyIter_tupleiter st h
theorem Ia{P:Program}{w:World}{K:W.Frag}{tg:Expr}(it:Addr)(lo:Int)(n:Nat):Turn P w K tg (uc lo n) [it] it (fun i h=>IsRangeIter h it (lo+(i:Nat) * 1) ((n:Int) - (i:Nat)) 1) where
 mem:=by simp
 obj:=fun i h st b hb=>by
  have e:b=it:=by simpa using hb
  subst e
  exact⟨_,st,fun v z=>by
   have z':Data.fields _=Data.cell v:=z
   cases z'⟩
 keep:=fun i h h' st k=>k it (by simp) _ st
 item:=by
  intro X hP hw hK hc i pins s σ H E I hf st hg
  subst hP hw hK
  obtain⟨f0,f1,f2,f3,f4,f5⟩:=hf it (by simp)
  have W:=Walks.range (prog:=X.prog) (w:=X.w) (I.ok.hd hc) it lo 1 n
  refine W.item i s _ _ hg st fun v h' tk hv st' kk=>?_
  obtain⟨t,rfl⟩:=hv
  have I1:Inv X pins σ H { s with heap:=h',toks:=tk }:=I.turned (fun b o hb e=>kk b o (by simpa using hb) e) f0 f1 f3 f4 f5
  refine⟨_,rfl,wV (s:={ s with heap:=h',toks:=tk }) (n := "range_iterator") st' rfl rfl (by decide) ⟨.int (lo+i),H,I1,⟨t,?_⟩,⟨rfl,rfl⟩,st',fun b hb=>(hf b hb).1⟩⟩
  rw[Int.mul_one]
 done:=by
  intro X hP hw hK hc i pins s σ H E I hf st hg
  subst hP hw hK
  obtain⟨f0,f1,f2,f3,f4,f5⟩:=hf it (by simp)
  exact wpAny_pyNext_range_end (I.ok.hd hc) st (by have:n<=i:=hg;omega) fun h' eb=>⟨rfl,I.turned (t':=s.toks) (fun b o hb e=>eb b o hb e) f0 f1 f3 f4 f5⟩
 self:=fun _ _ _ _ _ st h=>wpAny_pyIter_rangeiter st h
section
variable{X:Cx}{tg:Expr}
def Ib(K:W.Frag)(tl:TE):TI:=fun σ H R=>tl σ H fun x H1=>∃ a,x = .ref a/\(∃ xs,bQ K H1 a xs)/\R (wW K a) H1
def Ic(K:W.Frag)(tl:TE):TI:=fun σ H R=>tl σ H fun x H1=>∃ a,x = .ref a/\(∃ xs,c8 K H1 a xs)/\R (wX K a) H1
theorem Ie{l:Expr}{tl:TE}(hl:PE X l tl):PI X tg l (Ib X.K tl):=by
 intro pins s σ H R I h
 refine aL (hl pins s σ H _ I h) fun v s1 ⟨x,H1,I1,r1,q1⟩=>?_
 obtain⟨a,e,⟨xs,hq⟩,q⟩:=q1
 subst e
 cases r1
 obtain⟨its,rv,p,hz⟩:=I1.list hq
 refine wpAny_pyIter_list p.isList ?_
 refine⟨s1.heap.objs.size,[s1.heap.objs.size],_,_,H1,rfl,I1.kept (t':=s1.toks) fun b o e=>Heap.get?_push_of_some _ e,HZ a _,⟨_,Heap.get?_push_size _ rfl,rfl,rfl⟩,fun b hb=>?_,q⟩
 have e:b=s1.heap.objs.size:=by simpa using hb
 subst e
 exact I1.ij (Nat.le_refl _) (I1.hok.fresh (Nat.le_refl _))
theorem Ig{l:Expr}{tl:TE}(hl:PE X l tl):PI X tg l (Ic X.K tl):=by
 intro pins s σ H R I h
 refine aL (hl pins s σ H _ I h) fun v s1 ⟨x,H1,I1,r1,q1⟩=>?_
 obtain⟨a,e,⟨xs,hq⟩,q⟩:=q1
 subst e
 cases r1
 obtain⟨its,rv,p,hz⟩:=I1.tuple hq
 refine wpAny_pyIter_tuple (show s1.heap.IsTuple a its.toArray from p) ?_
 refine⟨s1.heap.objs.size,[s1.heap.objs.size],_,_,H1,rfl,I1.kept (t':=s1.toks) fun b o e=>Heap.get?_push_of_some _ e,H_ a _,⟨_,Heap.get?_push_size _ rfl,rfl,rfl⟩,fun b hb=>?_,q⟩
 have e:b=s1.heap.objs.size:=by simpa using hb
 subst e
 exact I1.ij (Nat.le_refl _) (I1.hok.fresh (Nat.le_refl _))
theorem Ih{pins:List (Addr×Obj)}{σ:St}{H:Hp}{s:Shared}{R:It->Hp->Prop}{E:Value->Shared->Prop}{lo hi:Int}{t u v:Tok}{tk:Nat}(I:Inv X pins σ H s)(h1 : -(2 ^ 62)<=lo)(h2:lo<2 ^ 62)(h3 : -(2 ^ 62)<=hi)(h4:hi<2 ^ 62)
 (q:R (uc lo (hi - lo).toNat) H):wpAny (model X.prog X.w) X.A (pyIter (.ref s.heap.objs.size)) (BR X pins σ tg R) E { s with heap:=s.heap.push { cls:=.type "range",data:=.fields #[.int lo t,.int hi u,.int 1 v] },toks:=tk }:=by
 refine wpAny_pyIter_range (IsRange.new ..) (small_one h1 h2 h3 h4) ?_
 have I1:Inv X pins σ H { s with heap:=s.heap.push { cls:=.type "range",data:=.fields #[.int lo t,.int hi u,.int 1 v] },toks:=tk }:=I.kept fun b o e=>Heap.get?_push_of_some _ e
 refine⟨(s.heap.push { cls:=.type "range",data:=.fields #[.int lo t,.int hi u,.int 1 v] }).objs.size,[(s.heap.push { cls:=.type "range",data:=.fields #[.int lo t,.int hi u,.int 1 v] }).objs.size],_,_,H,rfl,
  I1.kept (t':=tk) fun b o e=>Heap.get?_push_of_some _ e,Ia _ lo (hi - lo).toNat,?_,fun b hb=>?_,q⟩
 · have e1:lo+((0:Nat):Int) * 1=lo:=by simp
   have e2:(((hi - lo).toNat:Nat):Int) - ((0:Nat):Int)=Builtin.Range.rangeSize lo hi 1:=by rw[rangeSize_one];split<;>omega
   show IsRangeIter _ _ (lo+((0:Nat):Int) * 1) ((((hi - lo).toNat:Nat):Int) - ((0:Nat):Int)) 1
   rw[e1,e2]
   exact Heap.get?_push_size _ rfl
 · have e:b=(s.heap.push { cls:=.type "range",data:=.fields #[.int lo t,.int hi u,.int 1 v] }).objs.size:=by simpa using hb
   subst e
   exact I1.ij (Nat.le_refl _) (I1.hok.fresh (Nat.le_refl _))
def BS(ta:TA):TI:=fun σ H R=>ta σ H fun vs H1=>∃ j:Int,vs=[.int j] /\ -(2 ^ 62)<=j/\j<2 ^ 62/\R (uc 0 j.toNat) H1
theorem wY{a:Expr}{ta:TA}{p pos:Pos}(hg:Gl X "range")(hm:X.mg "range" = none)(ha:PA X [a] ta)(hs:starEach [a] X.env=[(false,eval a X.env)]:=by rfl):PI X tg (.Call (.Name "range" p) [a] [] pos) (BS ta):=by
 intro pins s σ H R I h
 refine Call_ (ph I hg hm boot_range (PyProof.Rows.callWith_type1 (aL (ha pos pins s σ H _ I h) fun us s1 ⟨vs,H1,I1,r1,q1⟩=>?_) hs rfl))
 obtain⟨j,e,q1,q2,q⟩:=q1
 subst e
 cases r1 with
 |cons r rr =>
   cases rr
   obtain⟨t,rfl⟩:=r
   exact call_range_1 (Ih I1 (by omega) (by omega) q1 q2 (by simpa using q))
def wZ(wi:TI)(g:TG)(tb:TS):TS:=fun D σ H=>wi σ H fun J H1=>∃ W:Nat->Nat->St->Hp->Prop,(∃ m,W 0 m σ H1)/\∀ i m σ H,W i m σ H ->
 (J.stop i H/\D.nx σ H)\/(J.go i H/\∃ N:St->Hp->Prop,(∀ ay H',N ay H'->∃ m',m'<m/\W (i+1) m' ay H')/\∀ x H',J.nh i H x H'->g x σ H' fun eM H2=>tb { D with nx:=N,ct:=N,bk:=D.nx } eM H2)
def pB(fp:List Addr)(h:Heap):List (Addr×Obj):=fp.filterMap fun b=>(h.get? b).map fun o=>(b,o)
theorem pC{fp:List Addr}{h:Heap}{b:Addr}{o:Obj}(hb:b∈fp)(e:h.get? b=some o):(b,o)∈pB fp h:=List.mem_filterMap.mpr ⟨b,hb,by rw[e];rfl⟩
theorem Ii{fp:List Addr}{h:Heap}{p:Addr×Obj}(hp:p∈pB fp h):p.1∈fp/\h.get? p.1=some p.2:=by
 obtain⟨b,hb,e⟩:=List.mem_filterMap.mp hp
 cases q:h.get? b with
 |none=>rw[q] at e;cases e
 |some o =>
   rw[q] at e
   have e':(b,o)=p:=Option.some.inj e
   subst e'
   exact⟨hb,q⟩
theorem Inv.pinned{pins:List (Addr×Obj)}{σ:St}{H:Hp}{s:Shared}{fp:List Addr}(I:Inv X pins σ H s)(hf:∀ b∈fp,g9 X pins H b)(ho:∀ b∈fp,∃ o,s.heap.get? b=some o/\∀ v,o.data ≠ .cell v):Inv X (pins++pB fp s.heap) σ H s :=
 I.dU fun p hp=>(List.mem_append.mp hp).elim (fun z=>I.pin p (List.mem_append_right _ z)) fun z=>by
  obtain⟨hb,e⟩:=Ii z
  obtain⟨f0,f1,f2,_⟩:=hf p.1 hb
  obtain⟨o,e',d⟩:=ho p.1 hb
  rw[e] at e';cases e'
  exact⟨e,f0,f1,f2,d⟩
theorem Inv.cc{pins pl:List (Addr×Obj)}{σ:St}{H:Hp}{s:Shared}(I:Inv X (pins++pl) σ H s):Inv X pins σ H s:=I.dU fun p hp=>I.pin p (List.mem_append_right _ (List.mem_append_left _ hp))
theorem ud{iter:Expr}{body:List Stmt}{wi:TI}{g:TG}{tb:TS}{pos:Pos}(hp:PassesOwn (model X.prog X.w) X.A X.env X.xe)(hc:X.calm=true)(hi:PI X tg iter wi)(hg:PG X tg g)(hb:PSs X body tb)
 (hs:∀ x,foldedSetIterable iter X.env x=pure x:=by intro _;rfl):PS X (.For tg iter body [] pos) (wZ wi g tb):=by
 intro pins s σ H D I h
 refine wpAny_For (aL (hi pins s σ H _ I h) fun v s1 h1=>aL h1 fun itv s2 h2=>?_) hs
 obtain⟨it,fp,tn,J,H2,e,I2,T,st2,f2,W,⟨m0,w0⟩,turn⟩:=h2
 subst e
 have stat:∀ {H':Hp},(∀ b∈fp,H' b=none)->∀ b∈fp,g9 X pins H' b:=fun hn b hb=>⟨hn b hb,(f2 b hb).2⟩
 refine codeAny_forLoop_any (fun n s'=>∃ i ay H',Inv X pins ay H' s'/\tn i s'.heap/\(∀ b∈fp,H' b=none)/\W i n ay H') ?_ m0 ⟨0,σ,H2,I2,st2,fun b hb=>(f2 b hb).1,w0⟩
 rintro n s3 ⟨i,kZ,H3,I3,st3,ni,w3⟩
 rcases turn i n kZ H3 w3 with ⟨stop,qn⟩ | ⟨go,N,hN,step⟩
 · refine wpAny_passesOwn hp (aL (T.done X rfl rfl rfl hc i pins s3 kZ H3 X.xe I3 (stat ni) st3 stop) fun r s4 ⟨hr,I4⟩=>?_)
   subst hr
   exact wpAny_execs_nil ⟨kZ,H3,I4,qn⟩
 · refine wpAny_passesOwn hp (aL (T.item X rfl rfl rfl hc i pins s3 kZ H3 X.xe I3 (stat ni) st3 go) fun r s4 ⟨u,hr,h4⟩=>?_)
   subst hr
   refine wpAny_passesOwn hp (aL h4 fun _ s5 ⟨x,H5,I5,r5,y5,eO,qK⟩=>?_)
   have Ij:=I5.pinned (stat qK) (T.obj _ _ eO)
   refine wpAny_passesOwn hp (aL (hg _ s5 kZ H5 x u _ Ij r5 (step x H5 y5)) fun _ s6 ⟨eg,H6,I6,q6⟩=>?_)
   refine wpAny_passesOwn hp (aL (hb _ s6 eg H6 _ I6 q6) fun f s7 q7=>?_)
   have again:∀ {jV:St} {H7:Hp},Inv X (pins++pB fp s5.heap) jV H7 s7->N jV H7->∃ m,m<n/\∃ i ay H',Inv X pins ay H' s7/\tn i s7.heap/\(∀ b∈fp,H' b=none)/\W i m ay H':=fun {jV H7} I7 n7=>by
    obtain⟨m',hm,w7⟩:=hN jV H7 n7
    refine⟨m',hm,i+1,jV,H7,I7.cc,T.keep _ _ _ eO fun b hb o e=>(I7.pin (b,o) (List.mem_append_right _ (List.mem_append_right _ (pC hb e)))).1,fun b hb=>?_,w7⟩
    obtain⟨o,e,d⟩:=T.obj _ _ eO b hb
    exact(I7.pin (b,o) (List.mem_append_right _ (List.mem_append_right _ (pC hb e)))).2.1
   cases f with
   |next=>obtain⟨jV,H7,I7,n7⟩:=q7;exact again I7 n7
   |cont=>obtain⟨jV,H7,I7,n7⟩:=q7;exact again I7 n7
   |brk=>obtain⟨jV,H7,I7,q7⟩:=q7;exact⟨jV,H7,I7.cc,q7⟩
   |ret v=>obtain⟨x7,jV,H7,I7,r7,q7⟩:=q7;exact⟨x7,jV,H7,I7.cc,r7,q7⟩
end
abbrev R2:=V->V->Hp->VK->Prop
def bX(X:Cx)(f:Value->Value->Sem Value)(r:R2):Prop :=
 ∀ (pins:List (Addr×Obj)) (s:Shared) (σ:St) (H:Hp) (x y:V) (v u:Value) (Q:VK),Inv X pins σ H s->RelV x v->RelV y u->r x y H Q ->
  wpAny (model X.prog X.w) X.A (f v u) (EP X pins σ Q) X.xe s
def w4(X:Cx)(f:Value->Sem Value)(r:V->Hp->VK->Prop):Prop :=
 ∀ (pins:List (Addr×Obj)) (s:Shared) (σ:St) (H:Hp) (x:V) (v:Value) (Q:VK),Inv X pins σ H s->RelV x v->r x H Q ->
  wpAny (model X.prog X.w) X.A (f v) (EP X pins σ Q) X.xe s
def aS(X:Cx)(f:Value)(r:List V->Hp->VK->Prop):Prop :=
 ∀ (pins:List (Addr×Obj)) (s:Shared) (σ:St) (H:Hp) (xs:List V) (us:List Value) (Q:VK),Inv X pins σ H s->Vals xs us->r xs H Q ->
  wpAny (model X.prog X.w) X.A (call f us) (EP X pins σ Q) X.xe s
def qL(r:R2)(ta tb:TE):TE:=fun σ H Q=>ta σ H fun x H1=>tb σ H1 fun y H2=>r x y H2 Q
def Ik(r:V->Hp->VK->Prop)(ta:TE):TE:=fun σ H Q=>ta σ H fun x H1=>r x H1 Q
def rI(C:Int->Int->Prop)(g:Int->Int->V):R2:=fun x y H Q=>∃ i j,x = .int i/\y = .int j/\C i j/\Q (g i j) H
def jW(g:Int->Int->V):R2:=fun x y H Q=>∃ i j,x = .int i/\y = .int j/\Q (g i j) H
def rU(g:Int->V):V->Hp->VK->Prop:=fun x H Q=>∃ i,x = .int i/\Q (g i) H
section
variable{X:Cx}{a b c:Expr}{ta tb tc:TE}{pos:Pos}
theorem w5(ha:PE X a ta)(hb:PE X b tb){pins:List (Addr×Obj)}{s:Shared}{σ:St}{H:Hp}{R:V->V->Hp->Prop}(I:Inv X pins σ H s)
 (h:ta σ H fun x H1=>tb σ H1 fun y H2=>R x y H2) {Q:Value->Shared->Prop} {f:Value->Value->Sem Value}
 (hf:∀ v u s2 x y H2,Inv X pins σ H2 s2->RelV x v->RelV y u->R x y H2->wpAny (model X.prog X.w) X.A (f v u) Q X.xe s2) :
 wpAny (model X.prog X.w) X.A (eval a X.env) (fun v aE=>wpAny (model X.prog X.w) X.A (eval b X.env) (fun u w6=>wpAny (model X.prog X.w) X.A (f v u) Q X.xe w6) X.xe aE) X.xe s:=by
 refine aL (ha pins s σ H _ I h) fun v s1 ⟨x,H1,I1,r1,q1⟩=>?_
 refine aL (hb pins s1 σ H1 _ I1 q1) fun u s2 ⟨y,H2,I2,r2,q2⟩=>?_
 exact hf v u s2 x y H2 I2 r1 r2 q2
theorem Il{op:Operator}{r:R2}(ho:bX X (binaryOp op) r)(ha:PE X a ta)(hb:PE X b tb):PE X (.BinOp a op b pos) (qL r ta tb):=by
 intro pins s σ H Q I h
 exact wpAny_BinOp (w5 ha hb I h fun v u s2 x y H2 I2 rx ry q=>ho pins s2 σ H2 x y v u Q I2 rx ry q)
theorem Im{op:UnaryOp}{r:V->Hp->VK->Prop}(ho:w4 X (unaryOp op) r)(ha:PE X a ta):PE X (.UnaryOp op a pos) (Ik r ta):=by
 intro pins s σ H Q I h
 exact UnaryOp_ (aL (ha pins s σ H _ I h) fun v s1 ⟨x,H1,I1,r1,q1⟩=>ho pins s1 σ H1 x v Q I1 r1 q1)
theorem ue{f:Value->Value->Sem Value}{C:Int->Int->Prop}{g:Int->Int->Int}
 (rule:∀ (i j:Int) (t u:Tok) (s:Shared) (Q:Value->Shared->Prop) (E:Value->Shared->Prop),C i j->Q (.int (g i j) s.toks) { s with toks:=s.toks+1 }->wpAny (model X.prog X.w) X.A (f (.int i t) (.int j u)) Q E s) :
 bX X f (rI C fun i j=>.int (g i j)):=by
 intro pins s σ H x y v u Q I rx ry h
 obtain⟨i,j,rfl,rfl,hc,q⟩:=h
 obtain⟨t,rfl⟩:=rx
 obtain⟨t',rfl⟩:=ry
 exact rule i j t t' s _ _ hc ⟨.int (g i j),H,I.tok _,⟨_,rfl⟩,q⟩
theorem Io{f:Value->Value->Sem Value}{g:Int->Int->Int}
 (rule:∀ (i j:Int) (t u:Tok) (s:Shared) (Q:Value->Shared->Prop) (E:Value->Shared->Prop),Q (.int (g i j) s.toks) { s with toks:=s.toks+1 }->wpAny (model X.prog X.w) X.A (f (.int i t) (.int j u)) Q E s) :
 bX X f (jW fun i j=>.int (g i j)):=by
 intro pins s σ H x y v u Q I rx ry h
 obtain⟨i,j,rfl,rfl,q⟩:=h
 obtain⟨t,rfl⟩:=rx
 obtain⟨t',rfl⟩:=ry
 exact rule i j t t' s _ _ ⟨.int (g i j),H,I.tok _,⟨_,rfl⟩,q⟩
theorem w_{f:Value->Value->Sem Value}{g:Int->Int->Bool}
 (rule:∀ (i j:Int) (t u:Tok) (s:Shared) (Q:Value->Shared->Prop) (E:Value->Shared->Prop),Q (.bool (g i j)) s->wpAny (model X.prog X.w) X.A (f (.int i t) (.int j u)) Q E s) :
 bX X f (jW fun i j=>.bl (g i j)):=by
 intro pins s σ H x y v u Q I rx ry h
 obtain⟨i,j,rfl,rfl,q⟩:=h
 obtain⟨t,rfl⟩:=rx
 obtain⟨t',rfl⟩:=ry
 exact rule i j t t' s _ _ ⟨.bl (g i j),H,I,rfl,q⟩
def BU(i j:Int):Prop:=0<j/\j<1073741824
def BV(i j:Int):Prop:=0<=j/\j<=1000000/\i.natAbs<2 ^ 64
def jb(i j:Int):Prop:=(-(2 ^ 64)<i/\i<2 ^ 64)\/(-(2 ^ 64)<j/\j<2 ^ 64)
theorem jb.ok{i j:Int}(h:jb i j):IntMulOk i j:=by
 rcases h with ⟨h1,h2⟩ | ⟨h1,h2⟩
 · exact .of_left (intBits_le_64 h1 h2)
 · exact .of_right (intBits_le_64 h1 h2)
theorem nR:bX X (binaryOp .Add) (jW fun i j=>.int (i+j)):=Io fun _ _ _ _ _ _ _ q=>add_int q
theorem nS:bX X (binaryOp .Mult) (rI jb fun i j=>.int (i * j)):=ue fun _ _ _ _ _ _ _ hc q=>mul_int q hc.ok
theorem BW:bX X (binaryOp .FloorDiv) (rI BU fun i j=>.int (i / j)):=ue fun i j _ _ _ _ _ hc q=>by
 have h1:(0:Int)<j:=hc.1
 have h2:j<1073741824:=hc.2
 exact floordiv_int (by omega) (by rw[Int.fdiv_eq_ediv_of_nonneg i (by omega)];exact q) (.inl (PyProof.noPylong_small (by omega)))
theorem nj:bX X (binaryOp .Mod) (rI (fun _ j=>0<j) fun i j=>.int (i % j)):=ue fun i j _ _ _ _ _ hc q=>by
 have h1:(0:Int)<j:=hc
 exact mod_int' (by omega) (by rw[Int.fmod_eq_emod_of_nonneg i (by omega)];exact q)
theorem xa:bX X (binaryOp .Pow) (rI BV fun i j=>.int (i ^ j.toNat)):=ue fun _ _ _ _ _ _ _ hc q=>pow_int_small hc.1 hc.2.1 hc.2.2 q
theorem Ip{f:Value->Sem Value}{g:Int->Int}
 (rule:∀ (i:Int) (t:Tok) (s:Shared) (Q:Value->Shared->Prop) (E:Value->Shared->Prop),Q (.int (g i) s.toks) { s with toks:=s.toks+1 }->wpAny (model X.prog X.w) X.A (f (.int i t)) Q E s) :
 w4 X f (rU fun i=>.int (g i)):=by
 intro pins s σ H x v Q I rx h
 obtain⟨i,rfl,q⟩:=h
 obtain⟨t,rfl⟩:=rx
 exact rule i t s _ _ ⟨.int (g i),H,I.tok _,⟨_,rfl⟩,q⟩
theorem Iq:w4 X (unaryOp .USub) (rU fun i=>.int (-i)):=Ip fun _ _ _ _ _ q=>neg_int q
end
def BX:V->V->Bool
 | .ao,.ao=>true | .ao,.int _=>true | .int _,.ao=>true | .ao,.bl _=>true | .bl _,.ao=>true | .ao,.str _=>true | .str _,.ao=>true
 | .int _,.int _=>true | .bl _,.bl _=>true | .str _,.str _=>true | .jC _,.jC _=>true
 | .int _,.str _=>true | .str _,.int _=>true | .bl _,.str _=>true | .str _,.bl _=>true
 | _,_=>false
def BY:R2:=fun x y H Q=>BX x y=true/\Q (.bl (decide (x=y))) H
def BZ:R2:=fun x y H Q=>BX x y=true/\Q (.bl (!decide (x=y))) H
theorem B4{i j:Int}:decide (V.int i=V.int j)=(i == j):=by
 rw[Bool.eq_iff_iff]
 simp
theorem B5{i j:Bool}:decide (V.bl i=V.bl j)=(i == j):=by
 rw[Bool.eq_iff_iff]
 simp
theorem B6{i j:Str}:decide (V.str i=V.str j)=(i == j):=by
 rw[Bool.eq_iff_iff]
 simp
theorem B7{i j:Array UInt8}:decide (V.jC i=V.jC j)=(i.toList == j.toList):=by
 rw[Bool.eq_iff_iff]
 cases i
 cases j
 simp
section
variable{X:Cx}{a b c:Expr}{ta tb tc:TE}{pos:Pos}
theorem cJ{pins:List (Addr×Obj)}{σ:St}{H:Hp}{s:Shared}{Q:VK}{k k':Bool}(I:Inv X pins σ H s)(q:Q (.bl k) H)(e:k=k'):EP X pins σ Q (.bool k') s:=by
 subst e
 exact⟨.bl k,H,I,rfl,q⟩
theorem op_eq:bX X (compareOp .Eq) BY:=by
 intro pins s σ H x y v u Q I rx ry h
 obtain⟨hs,q⟩:=h
 cases x with
 |ao =>
   cases rx
   cases y with
   |ao=>cases ry;exact PySem.EqNone.eq_none_none (cJ I q (by simp))
   |bl j=>cases ry;exact PySem.EqNone.eq_none_bool (cJ I q (by simp))
   |int j=>obtain⟨t',rfl⟩:=ry;exact PySem.EqNone.eq_none_int (cJ I q (by simp))
   |str j=>obtain⟨t',rfl⟩:=ry;exact PySem.EqNone.eq_none_str (cJ I q (by simp))
   | _=>exact absurd (show false=true from hs) Bool.false_ne_true
 |bl i =>
   cases rx
   cases y with
   |ao=>cases ry;exact PySem.EqNone.eq_bool_none (cJ I q (by simp))
   |bl j=>cases ry;exact eq_bool (cJ I q B5)
   |str j=>obtain⟨t',rfl⟩:=ry;exact PySem.EqMixed.eq_bool_str (cJ I q (by simp))
   | _=>exact absurd (show false=true from hs) Bool.false_ne_true
 |int i =>
   obtain⟨t,rfl⟩:=rx
   cases y with
   |ao=>cases ry;exact PySem.EqNone.eq_int_none (cJ I q (by simp))
   |int j=>obtain⟨t',rfl⟩:=ry;exact eq_int (cJ I q B4)
   |str j=>obtain⟨t',rfl⟩:=ry;exact PySem.EqMixed.eq_int_str (cJ I q (by simp))
   | _=>exact absurd (show false=true from hs) Bool.false_ne_true
 |str i =>
   obtain⟨t,rfl⟩:=rx
   cases y with
   |ao=>cases ry;exact PySem.EqNone.eq_str_none (cJ I q (by simp))
   |bl j=>cases ry;exact PySem.EqMixed.eq_str_bool (cJ I q (by simp))
   |int j=>obtain⟨t',rfl⟩:=ry;exact PySem.EqMixed.eq_str_int (cJ I q (by simp))
   |str j=>obtain⟨t',rfl⟩:=ry;exact eq_str (cJ I q B6)
   | _=>exact absurd (show false=true from hs) Bool.false_ne_true
 |jC i =>
   obtain⟨t,rfl⟩:=rx
   cases y with
   |jC j=>obtain⟨t',rfl⟩:=ry;exact W.eq_bytes (cJ I q B7)
   | _=>exact absurd (show false=true from hs) Bool.false_ne_true
 | _=>cases y<;>exact absurd (show false=true from hs) Bool.false_ne_true
theorem Ir:bX X (compareOp .NotEq) BZ:=by
 intro pins s σ H x y v u Q I rx ry h
 obtain⟨hs,q⟩:=h
 cases x with
 |ao =>
   cases rx
   cases y with
   |ao=>cases ry;exact PySem.EqNone.ne_none_none (cJ I q (by simp))
   |bl j=>cases ry;exact PySem.EqNone.ne_none_bool (cJ I q (by simp))
   |int j=>obtain⟨t',rfl⟩:=ry;exact PySem.EqNone.ne_none_int (cJ I q (by simp))
   |str j=>obtain⟨t',rfl⟩:=ry;exact PySem.EqNone.ne_none_str (cJ I q (by simp))
   | _=>exact absurd (show false=true from hs) Bool.false_ne_true
 |bl i =>
   cases rx
   cases y with
   |ao=>cases ry;exact PySem.EqNone.ne_bool_none (cJ I q (by simp))
   |bl j=>cases ry;exact ne_bool (cJ I q (congrArg not B5))
   |str j=>obtain⟨t',rfl⟩:=ry;exact PySem.EqMixed.ne_bool_str (cJ I q (by simp))
   | _=>exact absurd (show false=true from hs) Bool.false_ne_true
 |int i =>
   obtain⟨t,rfl⟩:=rx
   cases y with
   |ao=>cases ry;exact PySem.EqNone.ne_int_none (cJ I q (by simp))
   |int j=>obtain⟨t',rfl⟩:=ry;exact ne_int (cJ I q (congrArg not B4))
   |str j=>obtain⟨t',rfl⟩:=ry;exact PySem.EqMixed.ne_int_str (cJ I q (by simp))
   | _=>exact absurd (show false=true from hs) Bool.false_ne_true
 |str i =>
   obtain⟨t,rfl⟩:=rx
   cases y with
   |ao=>cases ry;exact PySem.EqNone.ne_str_none (cJ I q (by simp))
   |bl j=>cases ry;exact PySem.EqMixed.ne_str_bool (cJ I q (by simp))
   |int j=>obtain⟨t',rfl⟩:=ry;exact PySem.EqMixed.ne_str_int (cJ I q (by simp))
   |str j=>obtain⟨t',rfl⟩:=ry;exact ne_str (cJ I q (congrArg not B6))
   | _=>exact absurd (show false=true from hs) Bool.false_ne_true
 |jC i =>
   obtain⟨t,rfl⟩:=rx
   cases y with
   |jC j=>obtain⟨t',rfl⟩:=ry;exact W.ne_bytes (cJ I q (congrArg not B7))
   | _=>exact absurd (show false=true from hs) Bool.false_ne_true
 | _=>cases y<;>exact absurd (show false=true from hs) Bool.false_ne_true
theorem xb:bX X (compareOp .Lt) (jW fun i j=>.bl (decide (i<j))):=w_ fun _ _ _ _ _ _ _ q=>lt_int q
theorem B8:bX X (compareOp .LtE) (jW fun i j=>.bl (decide (i<=j))):=w_ fun _ _ _ _ _ _ _ q=>le_int q
theorem B9:bX X (compareOp .Gt) (jW fun i j=>.bl (decide (j<i))):=w_ fun _ _ _ _ _ _ _ q=>gt_int q
theorem B_:bX X (compareOp .Is) (fun x y H Q=>y = .ao/\Q (.bl (decide (x = .ao))) H):=by
 intro pins s σ H x y v u Q I rx ry h
 obtain⟨rfl,q⟩:=h
 cases ry
 refine is_none_gen (cJ I q ?_)
 cases x<;>first
  | (cases rx;rfl)
  | (obtain⟨t,rfl⟩:=rx;rfl)
theorem bX.or{f:Value->Value->Sem Value}{r r':R2}(h:bX X f r)(h':bX X f r'):bX X f (fun x y H Q=>r x y H Q\/r' x y H Q):=by
 intro pins s σ H x y v u Q I rx ry q
 rcases q with q | q
 · exact h pins s σ H x y v u Q I rx ry q
 · exact h' pins s σ H x y v u Q I rx ry q
theorem dW(b:Expr){op:CmpOp}(h:op ≠ .In:=by decide)(h2:op ≠ .NotIn:=by decide):behindInMarks op b=false:=by
 have e1:(op == CmpOp.In)=false:=by cases op<;>first | rfl | exact absurd rfl h
 have e2:(op == CmpOp.NotIn)=false:=by cases op<;>first | rfl | exact absurd rfl h2
 cases b<;>simp[behindInMarks,e1,e2]
theorem Iu{op:CmpOp}{r:R2}(ho:bX X (compareOp op) r)(ha:PE X a ta)(hb:PE X b tb)(hm:behindInMarks op b=false):PE X (.Compare a [op] [b] pos) (qL r ta tb):=by
 intro pins s σ H Q I h
 exact wpAny_Compare1 (w5 ha hb I h fun v u s2 x y H2 I2 rx ry q=>ho pins s2 σ H2 x y v u Q I2 rx ry q) hm
def Ca(t:TE):TT:=fun σ H Q=>t σ H fun x H'=>∃ k,x = .bl k/\Q k H'
theorem Iv{op:CmpOp}{r:R2}(ho:bX X (compareOp op) r)(ha:PE X a ta)(hb:PE X b tb)(hm:behindInMarks op b=false):PT X (.Compare a [op] [b] pos) (Ca (qL r ta tb)):=by
 intro pins s σ H Q I h
 refine wpAny_isTrue_Compare1 (aL (ha pins s σ H _ I h) fun v s1 ⟨x,H1,I1,r1,q1⟩=>aL (hb pins s1 σ H1 _ I1 q1) fun u s2 ⟨y,H2,I2,r2,q2⟩ =>
  aL (ho pins s2 σ H2 x y v u _ I2 r1 r2 q2) fun c s3 ⟨z,H3,I3,r3,k,e,q3⟩=>?_) hm
 subst e
 cases r3
 exact wpAny_truthy_bool ⟨H3,I3,q3⟩
def Cb(r r':R2)(ta tb tc:TE):TE:=fun σ H Q=>ta σ H fun x H1=>tb σ H1 fun y H2=>r x y H2 fun z H3=>∃ k,z = .bl k /\
 (if k=true then tc σ H3 fun w' H4=>r' y w' H4 Q else Q (.bl false) H3)
theorem Iw{op op':CmpOp}{r r':R2}(ho:bX X (compareOp op) r)(ho':bX X (compareOp op') r')(ha:PE X a ta)(hb:PE X b tb)(hc:PE X c tc)
 (hm:lastMarks [op,op'] [b,c]=false:=by with_unfolding_all rfl):PE X (.Compare a [op,op'] [b,c] pos) (Cb r r' ta tb tc):=by
 intro pins s σ H Q I h
 refine Compare_chain (aL (ha pins s σ H _ I h) fun v s1 ⟨x,H1,I1,r1,q1⟩=>chain_link (aL (hb pins s1 σ H1 _ I1 q1) fun u s2 ⟨y,H2,I2,r2,q2⟩ =>
  aL (ho pins s2 σ H2 x y v u _ I2 r1 r2 q2) fun d s3 ⟨z,H3,I3,r3,k,e,q3⟩=>?_)) hm
 subst e
 cases r3
 refine wpAny_truthy_bool ?_
 cases k with
 |false=>exact ite_ff ⟨.bl false,H3,I3,rfl,q3⟩
 |true=>exact ite_tt (chain_last (aL (hc pins s3 σ H3 _ I3 q3) fun w' s4 ⟨z',H4,I4,r4,q4⟩=>ho' pins s4 σ H4 y z' u w' Q I4 r2 r4 q4))
theorem pE:(sizeLine:Nat)<2 ^ 63:=by rw[sizeLine_eq];decide
theorem Iy:bX X (binaryOp .Add) (fun x y H Q=>∃ i j,x = .str i/\y = .str j/\i.length+j.length<=sizeLine/\Q (.str (i++j)) H):=by
 intro pins s σ H x y v u Q I rx ry h
 obtain⟨i,j,rfl,rfl,hz,q⟩:=h
 obtain⟨t,rfl⟩:=rx
 obtain⟨t',rfl⟩:=ry
 exact add_str (fun t' tk=>⟨.str (i++j),H,I.tok _,⟨_,rfl⟩,q⟩) hz
theorem vals1{x:V}{us:List Value}(r:Vals [x] us):∃ u,us=[u]/\RelV x u:=by
 cases r with
 |cons r1 r2=>cases r2;exact⟨_,rfl,r1⟩
theorem vals2{x y:V}{us:List Value}(r:Vals [x,y] us):∃ u w',us=[u,w']/\RelV x u/\RelV y w':=by
 cases r with
 |cons r1 r2 =>
   cases r2 with
   |cons r3 r4=>cases r4;exact⟨_,_,rfl,r1,r3⟩
theorem Iz(hc:X.calm=true):aS X (.builtin "max") (fun xs H Q=>∃ i j,xs=[.int i,.int j]/\Q (.int (if j > i then j else i)) H):=by
 intro pins s σ H xs us Q I r h
 obtain⟨i,j,rfl,q⟩:=h
 obtain⟨u,w',rfl,⟨t,rfl⟩,⟨t',rfl⟩⟩:=vals2 r
 refine max_two_ints (I.ok.hd hc) fun h' tk k=>⟨_,H,I.kept k,?_,q⟩
 by_cases hj:j > i
 · rw[if_pos hj,if_pos hj];exact⟨_,rfl⟩
 · rw[if_neg hj,if_neg hj];exact⟨_,rfl⟩
theorem IA(hc:X.calm=true):aS X (.builtin "min") (fun xs H Q=>∃ i j,xs=[.int i,.int j]/\Q (.int (if j<i then j else i)) H):=by
 intro pins s σ H xs us Q I r h
 obtain⟨i,j,rfl,q⟩:=h
 obtain⟨u,w',rfl,⟨t,rfl⟩,⟨t',rfl⟩⟩:=vals2 r
 refine min_two_ints (I.ok.hd hc) fun h' tk k=>⟨_,H,I.kept k,?_,q⟩
 by_cases hj:j<i
 · rw[if_pos hj,if_pos hj];exact⟨_,rfl⟩
 · rw[if_neg hj,if_neg hj];exact⟨_,rfl⟩
theorem Cc:aS X (.type "int") (fun xs H Q=>(∃ i,xs=[.int i]/\Q (.int i) H)\/∃ k,xs=[.bl k]/\Q (.int (if k then 1 else 0)) H):=by
 intro pins s σ H xs us Q I r h
 rcases h with ⟨i,rfl,q⟩ | ⟨k,rfl,q⟩
 · obtain⟨u,rfl,t,rfl⟩:=vals1 r
   exact call_int_int ⟨.int i,H,I,⟨_,rfl⟩,q⟩
 · obtain⟨u,rfl,r1⟩:=vals1 r
   cases r1
   exact call_int_bool ⟨.int (if k then 1 else 0),H,I.tok _,⟨_,rfl⟩,q⟩
end
structure ik(h:Heap)(x dx C:Addr)(mA:Str->Option Value):Prop where
 obj:h.get? x=some (W.instObj C dx)
 ns:h.Ns1 dx mA
 ne:dx≠x
theorem dg{h:Heap}{dx:Addr}{mA:Str->Option Value}(n:h.Ns1 dx mA):∃ od,h.get? dx=some od/\∀ name,W.lookIn name od=some (mA name):=by
 obtain⟨o,es,ep,ho,hd,hk,_,hm⟩:=n
 refine⟨o,ho,fun name=>?_⟩
 have e:=hm name
 unfold nsFind findBy at e
 rw[<- Array.find?_toList] at e
 unfold W.lookIn
 rw[hd]
 dsimp only
 split
 · rename_i y q
   rw[q] at e
   exact congrArg some e
 · rename_i q
   rw[q] at e
   have a:es.toList.any (·.refKey)=false:=by
    rw[List.any_eq_false]
    intro y hy
    obtain⟨z,t,hkey⟩:=hk y (Array.mem_toList_iff.mp hy)
    simp[DictEntry.refKey,hkey]
   have a' : ¬ es.toList.any (·.refKey)=true:=by rw[a];exact Bool.false_ne_true
   rw[if_neg a']
   exact congrArg some e
theorem ik.look{h:Heap}{x dx C:Addr}{mA:Str->Option Value}(I:ik h x dx C mA):∃ od,W.InstAt h x (W.instObj C dx) C (some od)/\∀ name,W.lookIn name od=some (mA name) :=
 let ⟨od,ho,hl⟩:=dg I.ns
 ⟨od,⟨I.obj,rfl,rfl,ho⟩,hl⟩
section
variable{prog:Program}{w:World}{A:Around}{E:Value->Shared->Prop}{s:Shared}{K:W.Frag}{x dx C f:Addr}{mA:Str->Option Value}{name:Str}{v:Value}
theorem IB{expr:Bool}{Q:Value->Shared->Prop}(X:K.In s.heap)(I:ik s.heap x dx C mA)(hg:W.plainGet K C name=true)(hh:W.hasDictIn K C=true)
 (ha:W.findIn K (.ref C) name=some none) (hv:mA name=some v) (hv':W.handedIn v=true) (h:Q v { s with toks:=s.toks+1 }) :
 wpAny (model prog w) A (getAttr (.ref x) name expr) Q E s:=by
 obtain⟨od,J,hl⟩:=I.look
 exact W.get_value X J (W.plainGet_of hg).1 (W.findObj_own hh ha rfl (by rw[hl,hv])) hv' h
theorem IC{pl:Sem Bool}{Q:Value×List Value->Shared->Prop}(X:K.In s.heap)(I:ik s.heap x dx C mA)(hg:W.plainGet K C name=true)
 (hf:W.findIn K (.ref C) name=some (some (.ref f))) (ht:W.isFn K (.ref f)=true) (hv:mA name=none) (h:Q (.ref f,[.ref x]) s) :
 wpAny (model prog w) A (getMethod (.ref x) name pl) Q E s:=by
 obtain⟨od,J,hl⟩:=I.look
 exact W.method_fn X J (W.plainGet_of hg).1 (W.plainGet_of hg).2 hf (beq_iff_eq.mp ht) (by show(W.lookIn name od).map (·.isSome)=some false;rw[hl,hv];rfl) h
theorem ID{ns:List Str}{Q:Unit->Shared->Prop}(X:K.In s.heap)(I:ik s.heap x dx C mA)
 (hs:W.findIn K (.ref C) "__setattr__" = some (some (.builtin "object.__setattr__"))) (hp:W.plainOver K C=true) (ht:W.takerIn K C name=some none) (hh:W.hasDictIn K C=true)
 (hw:PySem.Within mA ns) (hsz:ns.length<=sizeLine)
 (h:∀ h',ik h' x dx C (fun y=>if y=name then some v else mA y)->Heap.SameBut dx s.heap h'->Q () { s with heap:=h',toks:=s.toks+2 }) :
 wpAny (model prog w) A (setAttr (.ref x) name v) Q E s:=by
 obtain⟨od,J,hl⟩:=I.look
 refine W.set_plain X J hs (W.osa_open (s:={ s with toks:=s.toks+1 }) (r:=none) X J hp ht fun b=>?_)
 obtain⟨cd,hc,hd'⟩:=W.any_some hh
 have hx:s.heap.get? x=some ⟨.ref C,some dx,.plain, #[]⟩:=I.obj
 refine wpAny_bind (wpAny_pure (wpAny_bind (wpAny_bind (wpAny_loadPart hx (wpAny_bind (W.Looks.here (s:={ s with toks:=s.toks+1 }) (W.looks_clsIn X hc) ?_))))))
 rw[hd']
 refine wpAny_pure (a:=some dx) (wpAny_bind (wpAny_pure (wpAny_bind ?_)))
 refine wpAny_nsSet1 (s:={ s with toks:=s.toks+1 }) I.ns fun h' hn2 hs2=>?_
 obtain⟨oD,esD,epD,hoD,hdD,hcD⟩:=hn2.count (PySem.Within.cons name v hw)
 refine wpAny_bind (wpAny_lookBehind hoD (by rw[hdD];exact pastItsLine_dict (Nat.le_trans hcD (by rw[List.length_cons];omega))) ?_)
 exact wpAny_pure (h _ ⟨(hs2.2 _ (Ne.symm I.ne)).trans I.obj,hn2,I.ne⟩ hs2)
theorem Cd{R:Result->Shared->Prop}{vs:List Value}{kw:List (Str×Value)}(X:K.In s.heap)(hm:W.makesIn K C=true)
 (hi:W.findIn K (.ref C) "__init__" = some (some (.ref f))) (hf:W.typeIn K (.ref f)=some (.type "function"))
 (h:codeAny (model prog w) (A.under (.builtin "type.__call__" ⟨.ref C::vs,kw⟩)) (.call (.ref f) ⟨.ref (s.heap.objs.size+1)::vs,kw⟩) (W.InitBack (s.heap.objs.size+1) R)
  { s with heap:=(s.heap.push W.emptyDict).push (W.instObj C s.heap.objs.size) }) :
 codeAny (model prog w) A (.call (.ref C) ⟨vs,kw⟩) R s:=by
 obtain⟨hh,g,d,t,os⟩:=s
 exact W.make_core (W.makes_of X hm) (W.looks_findIn X hi) (fun self=>W.bind_fn X self hf) (.inl rfl) h
end
def gk(f:Str)(v:V):List (Str×V)->List (Str×V)
 | []=>[(f,v)]
 | (g,x)::r=>if g=f then (g,v)::r else (g,x)::gk f v r
theorem xf(f g:Str)(v:V):∀ fs:List (Str×V),(gk f v fs).lookup g=if g=f then some v else fs.lookup g
 | []=>by
   show List.lookup g [(f,v)]=_
   by_cases h:g=f
   · have hb:(g == f)=true:=beq_iff_eq.mpr h
     simp only[List.lookup,hb,if_pos h]
   · have hb:(g == f)=false:=beq_eq_false_iff_ne.mpr h
     simp only[List.lookup,hb,if_neg h]
 | (k,x)::r=>by
   have ih:=xf f g v r
   rw[show gk f v ((k,x)::r)=(if k=f then (k,v)::r else (k,x)::gk f v r) from rfl]
   by_cases hk:k=f
   · rw[if_pos hk]
     by_cases h:g=k
     · have hb:(g == k)=true:=beq_iff_eq.mpr h
       simp only[List.lookup,hb,if_pos (h.trans hk)]
     · have hb:(g == k)=false:=beq_eq_false_iff_ne.mpr h
       simp only[List.lookup,hb,if_neg (fun e:g=f=>h (e.trans hk.symm))]
   · rw[if_neg hk]
     by_cases h:g=k
     · have hb:(g == k)=true:=beq_iff_eq.mpr h
       simp only[List.lookup,hb,if_neg (fun e:g=f=>hk (h.symm.trans e))]
     · have hb:(g == k)=false:=beq_eq_false_iff_ne.mpr h
       simp only[List.lookup,hb]
       exact ih
theorem qM(f:Str)(v:V):∀ fs:List (Str×V),f∈(gk f v fs).map (·.1)/\∀ g,g∈fs.map (·.1)->g∈(gk f v fs).map (·.1)
 | []=>⟨by simp[gk],fun g h=>by simp at h⟩
 | (k,x)::r=>by
   obtain⟨i1,i2⟩:=qM f v r
   rw[show gk f v ((k,x)::r)=(if k=f then (k,v)::r else (k,x)::gk f v r) from rfl]
   by_cases hk:k=f
   · rw[if_pos hk]
     subst hk
     exact⟨by simp,fun g h=>by simpa using h⟩
   · rw[if_neg hk]
     refine⟨?_,fun g h=>?_⟩
     · rw[List.map_cons]
       exact List.mem_cons_of_mem _ i1
     · rw[List.map_cons] at h ⊢
       rcases List.mem_cons.mp h with e | e
       · exact List.mem_cons.mpr (.inl e)
       · exact List.mem_cons_of_mem _ (i2 g e)
theorem Ce(f:Str)(v:V):∀ fs:List (Str×V),(gk f v fs).length<=fs.length+1
 | []=>by simp[gk]
 | (k,x)::r=>by
   have ih:=Ce f v r
   rw[show gk f v ((k,x)::r)=(if k=f then (k,v)::r else (k,x)::gk f v r) from rfl]
   by_cases hk:k=f
   · rw[if_pos hk,List.length_cons,List.length_cons];omega
   · rw[if_neg hk,List.length_cons,List.length_cons];omega
theorem cy.some_of{v:V}{o:Option Value}(r:cy (some v) o):∃ u,o=some u/\RelV v u:=by
 cases o with
 |none=>exact(show False from r).elim
 |some u=>exact⟨u,rfl,r⟩
theorem cy.none_of{o:Option Value}(r:cy none o):o=none:=by
 cases o with
 |none=>rfl
 |some u=>exact(show False from r).elim
theorem Cf{v:V}{u:Value}(r:RelV v u):W.handedIn u=true:=by
 cases v with
 |ao=>cases (show u=Value.none from r);rfl
 |bl b=>cases (show u=Value.bool b from r);rfl
 |int i=>obtain⟨t,e⟩:=(show ∃ t,u=Value.int i t from r);cases e;rfl
 |str x=>obtain⟨t,e⟩:=(show ∃ t,u=Value.str x t from r);cases e;rfl
 |jC b=>obtain⟨t,e⟩:=(show ∃ t,u=Value.bytes b t from r);cases e;rfl
 |flt b=>obtain⟨t,e⟩:=(show ∃ t,u=Value.float b t from r);cases e;rfl
 |ref a=>cases (show u=Value.ref a from r);rfl
 |ty n=>cases (show u=Value.type n from r);rfl
section
variable{P:Program}{w:World}{H H':Hp}{h h':Heap}{a C dx:Addr}{fs fs':List (Str×V)}
theorem qN(hok:b6 P w H h)(e:H a=some (.ins C dx fs)):∃ mA,ik h a dx C mA/\(∀ f,cy (fs.lookup f) (mA f))/\PySem.Within mA (fs.map (·.1))/\fs.length<=1000/\H dx=some (.own a):=by
 obtain⟨d,z,ne,ob,mA,n,r,q⟩:=(show aD P w H h a (.ins C dx fs) from hok a _ e)
 exact⟨mA,⟨ob,n,ne⟩,r,q,z,d⟩
end
structure g_(K:W.Frag)(C:Addr):Prop where
 pg:W.plainGet K C Str.empty=true
 hd:W.hasDictIn K C=true
 po:W.plainOver K C=true
 sa:W.findIn K (.ref C) "__setattr__" = some (some (.builtin "object.__setattr__"))
theorem g_.get{K:W.Frag}{C:Addr}(c:g_ K C)(f:Str):W.plainGet K C f=true:=c.pg
def aU(K:W.Frag)(C:Addr)(f:Str):Prop:=W.findIn K (.ref C) f=some none
theorem aU.taker{K:W.Frag}{C:Addr}{f:Str}(n:aU K C f):W.takerIn K C f=some none:=by
 unfold W.takerIn
 rw[show W.findIn K (.ref C) f=some none from n]
 rfl
structure Meth(K:W.Frag)(C:Addr)(m:Str)(f:Addr):Prop where
 at_:W.findIn K (.ref C) m=some (some (.ref f))
 fn:W.isFn K (.ref f)=true
 kp:W.keepIn K (.ref f)=true
section
variable{X:Cx}{pins:List (Addr×Obj)}{σ:St}{H:Hp}{s:Shared}{a C dx:Addr}{fs:List (Str×V)}{f:Str}{v:V}{A:Around}{E:Value->Shared->Prop}
theorem IE{b:Bool}{Q:Value->Shared->Prop}(I:Inv X pins σ H s)(e:H a=some (.ins C dx fs))(c:g_ X.K C)(n:aU X.K C f)(l:fs.lookup f=some v)
 (h:∀ u s',Inv X pins σ H s'->RelV v u->Q u s'):wpAny (model X.prog X.w) A (getAttr (.ref a) f b) Q E s:=by
 obtain⟨mA,O,r,_,_,_⟩:=qN I.hok e
 obtain⟨u,hu,ru⟩:=cy.some_of (v:=v) (o:=mA f) (by rw[<- l];exact r f)
 exact IB I.bf O (c.get f) c.hd n hu (Cf ru) (h u _ (I.tok _) ru)
theorem IF{m:Str}{g:Addr}{pl:Sem Bool}{Q:Value×List Value->Shared->Prop}(I:Inv X pins σ H s)(e:H a=some (.ins C dx fs))(c:g_ X.K C)(k:Meth X.K C m g)(l:fs.lookup m=none)
 (h:Q (.ref g,[.ref a]) s):wpAny (model X.prog X.w) A (getMethod (.ref a) m pl) Q E s:=by
 obtain⟨mA,O,r,_,_,_⟩:=qN I.hok e
 have hn:mA m=none:=cy.none_of (by rw[<- l];exact r m)
 exact IC I.bf O (c.get m) k.at_ k.fn hn h
theorem IG{y:V}{u:Value}{Q:Unit->Shared->Prop}(I:Inv X pins σ H s)(e:H a=some (.ins C dx fs))(c:g_ X.K C)(n:aU X.K C f)(hl:fs.length<1000)(ry:RelV y u)
 (h:∀ s',Inv X pins σ (upd H a (.ins C dx (gk f y fs))) s'->Q () s'):wpAny (model X.prog X.w) A (setAttr (.ref a) f u) Q E s:=by
 obtain⟨mA,O,r,wi,_,ho⟩:=qN I.hok e
 have hz:(fs.map (·.1)).length<=sizeLine:=by rw[List.length_map,sizeLine_eq];omega
 refine ID I.bf O c.sa c.po n.taker c.hd wi hz fun h' O' sb=>h _ ?_
 have hd:∃ o,h'.get? dx=some o:=let ⟨o,_,_,e',_⟩:=O'.ns; ⟨o,e'⟩
 refine I.write (x:=a) (e:=dx) (by rw[e];exact True.intro) (.inr ho) (fun b q hb z=>(sb.2 b hb).trans z) hd ?_
 refine⟨by rw[aV O.ne];exact ho,?_,O.ne,O'.obj,_,O'.ns,fun g=>?_,fun g hg=>?_⟩
 · have:=Ce f y fs;omega
 · show cy ((gk f y fs).lookup g) (if g=f then some u else mA g)
   rw[xf]
   by_cases q:g=f
   · rw[if_pos q,if_pos q];exact ry
   · rw[if_neg q,if_neg q];exact r g
 · by_cases q:g=f
   · rw[q];exact(qM f y fs).1
   · refine(qM f y fs).2 g (wi g fun z=>hg ?_)
     show(if g=f then some u else mA g)=none
     rw[if_neg q];exact z
theorem Inv.made(I:Inv X pins σ H s):Inv X pins σ (upd (upd H s.heap.objs.size (.own (s.heap.objs.size+1))) (s.heap.objs.size+1) (.ins C s.heap.objs.size []))
 { s with heap:=(s.heap.push W.emptyDict).push (W.instObj C s.heap.objs.size) }:=by
 have e1:(s.heap.push W.emptyDict).get? s.heap.objs.size=some W.emptyDict:=Heap.get?_push_size s.heap rfl
 have e2:((s.heap.push W.emptyDict).push (W.instObj C s.heap.objs.size)).get? (s.heap.objs.size+1)=some (W.instObj C s.heap.objs.size):=by
  have:=Heap.get?_push_size (s.heap.push W.emptyDict) (o:=W.instObj C s.heap.objs.size) rfl
  rwa[Heap.size_push] at this
 have e3:(s.heap.push W.emptyDict).Ns s.heap.objs.size (fun _=>none):=⟨W.emptyDict, #[],_,e1,rfl,(fun e he=>absurd he (by simp)),fun _=>rfl⟩
 have I1:=I.laid (a:=s.heap.objs.size) (o:=.own (s.heap.objs.size+1)) (h':=s.heap.push W.emptyDict) (t':=s.toks) (fun b u q=>Heap.get?_push_of_some _ q) (Nat.le_refl _) ⟨_,e1⟩
 refine I1.laid (a:=s.heap.objs.size+1) (o:=.ins C s.heap.objs.size []) (t':=s.toks) (fun b u q=>Heap.get?_push_of_some _ q) (Nat.le_of_eq (Heap.size_push _ _)) ?_
 have ne:s.heap.objs.size≠s.heap.objs.size+1:=Nat.ne_of_lt (Nat.lt_succ_self _)
 refine⟨by rw[aV ne,cN],Nat.zero_le _,ne,e2,fun _=>none,(Heap.Ns1.of_empty e3).at fun o q=>Heap.get?_push_of_some _ q,fun _=>True.intro,fun y hy=>absurd rfl hy⟩
theorem Cg{prog:Program}{w:World}{env:Env}{e:Expr}{f:Str}{pos:Pos}{s:Shared}{Q:Value->Shared->Prop}(hb:attributeBase e f env (eval e env)=eval e env)
 (h:wpAny (model prog w) A (eval e env) (fun o aE=>wpAny (model prog w) A (getAttr o f true) Q E aE) E s):wpAny (model prog w) A (eval (.Attribute e f pos) env) Q E s :=
 Attribute_any_ h (by rw[arm_eval_Attribute,hb])
end
def IH(K:W.Frag)(ta:TE)(f:Str):TE:=fun σ H Q=>ta σ H fun x H1=>∃ a C dx fs v,x = .ref a/\H1 a=some (.ins C dx fs)/\g_ K C/\aU K C f/\fs.lookup f=some v/\Q v H1
def II(K:W.Frag)(ta tv:TE)(f:Str):TS:=fun D σ H=>tv σ H fun y H1=>ta σ H1 fun x H2=>∃ a C dx fs,x = .ref a/\H2 a=some (.ins C dx fs)/\g_ K C/\aU K C f/\fs.length<1000 /\
 D.nx σ (upd H2 a (.ins C dx (gk f y fs)))
section
variable{X:Cx}{o e value:Expr}{f:Str}{pos pos' tpos:Pos}{ta tv:TE}
theorem IJ(he:PE X e ta)(hb:attributeBase e f X.env (eval e X.env)=eval e X.env):PE X (.Attribute e f pos) (IH X.K ta f):=by
 intro pins s σ H Q I h
 refine Cg hb (aL (he pins s σ H _ I h) fun u s1 ⟨x,H1,I1,rx,a,C,dx,fs,v,ex,ea,c,n,l,q⟩=>?_)
 subst ex
 obtain rfl:u=Value.ref a:=rx
 exact IE I1 ea c n l fun u' s2 I2 ru=>⟨v,H1,I2,ru,q⟩
theorem IK(ha:PE X o ta)(hv:PE X value tv)(hs:swapsWith value (some (.Attribute o f pos')) pos.line X.env=pure false):PS X (.Assign [.Attribute o f pos'] value pos) (II X.K ta tv f):=by
 intro pins s σ H D I h
 refine plainObj_wpAny_Assign_Attribute (aL (hv pins s σ H _ I h) fun u s1 ⟨y,H1,I1,ry,q⟩=>aL (ha pins s1 σ H1 _ I1 q) fun ov s2 ⟨x,H2,I2,rx,a,C,dx,fs,ex,ea,c,n,l,q2⟩=>?_) hs
 subst ex
 obtain rfl:ov=Value.ref a:=rx
 exact IG I2 ea c n l ry fun s3 I3=>⟨σ,_,I3,q2⟩
end
section
variable{X:Cx}{pins:List (Addr×Obj)}{σ:St}{H:Hp}{s:Shared}{A:Around}{E:Value->Shared->Prop}{Q:Value->Shared->Prop}{c:Value}{b:Bool}
inductive cA(K:W.Frag)(H:Hp):V->Value->Prop where
 |ao:cA K H .ao (.type "NoneType")
 |bl (x:Bool):cA K H (.bl x) (.type "bool")
 |int (i:Int):cA K H (.int i) (.type "int")
 |str (x:Str):cA K H (.str x) (.type "str")
 |flt (x:UInt64):cA K H (.flt x) (.type "float")
 |lst {a:Addr} {xs:List V} (e:H a=some (.lst xs)):cA K H (.ref a) (.type "list")
 |ak {a:Addr} {o:Obj} {xs:List V} (e:H a=some (.ak o (.lst xs))):cA K H (.ref a) (.type "list")
 |tup {a:Addr} {xs:List V} (e:H a=some (.tup xs)):cA K H (.ref a) (.type "tuple")
 |dK {a:Addr} {kvs:List (Key×V)} (e:H a=some (.dK kvs)):cA K H (.ref a) (.type "dict")
 |dT {a:Addr} {kvs:List (List Key×V)} (e:H a=some (.dT kvs)):cA K H (.ref a) (.type "dict")
 |ins {a C dx:Addr} {fs:List (Str×V)} (e:H a=some (.ins C dx fs)) (cl:g_ K C) (ha:W.findIn K (.ref C) "__class__" = some (some (.builtin "object.__class__")))
  (hn:W.specialIn K (.builtin "object.__class__") "__get__" = some (some (.builtin "getset_descriptor.__get__"))) (htk:W.takesIn K (.builtin "object.__class__")=some true)
  (hm:W.mroIn K C (.type "object")=some true):cA K H (.ref a) (.ref C)
theorem IL{x:V}{u t:Value}(I:Inv X pins σ H s)(rx:RelV x u)(ty:cA X.K H x t)(e:W.kitOne X.K t c=some b)(h:∀ tk,Q (.bool b) { s with toks:=tk }) :
 wpAny (model X.prog X.w) A (call (.builtin "isinstance") [u,c]) Q E s:=by
 cases ty with
 |ao=>cases (show u=Value.none from rx);exact W.kia_one W.kitx_none I.bf True.intro e (fun z=>nomatch z) h
 |bl y=>cases (show u=Value.bool y from rx);exact W.kia_one W.kitx_bool I.bf True.intro e (fun z=>nomatch z) h
 |int i=>obtain⟨t,q⟩:=(show ∃ t,u=Value.int i t from rx);cases q;exact W.kia_one W.kitx_int I.bf True.intro e (fun z=>nomatch z) h
 |str y=>obtain⟨t,q⟩:=(show ∃ t,u=Value.str y t from rx);cases q;exact W.kia_one W.kitx_str I.bf True.intro e (fun z=>nomatch z) h
 |flt y=>obtain⟨t,q⟩:=(show ∃ t,u=Value.float y t from rx);cases q;exact W.kia_one W.kitx_float I.bf True.intro e (fun z=>nomatch z) h
 | @lst a xs ea =>
   cases (show u=Value.ref a from rx)
   obtain⟨_,_,n,_,h1⟩:=(show aD X.prog X.w H s.heap a (.lst xs) from I.hok a _ ea)
   exact W.kia_one W.kitx_list I.bf ⟨_,h1,rfl⟩ e (fun z=>nomatch z) h
 | @ak a ob xs ea =>
   cases (show u=Value.ref a from rx)
   obtain⟨_,_,_,n,_,h1⟩:=(show aD X.prog X.w H s.heap a (.ak ob (.lst xs)) from I.hok a _ ea)
   exact W.kia_one W.kitx_list I.bf ⟨_,h1,rfl⟩ e (fun z=>nomatch z) h
 | @tup a xs ea =>
   cases (show u=Value.ref a from rx)
   obtain⟨_,_,_,p⟩:=(show aD X.prog X.w H s.heap a (.tup xs) from I.hok a _ ea)
   obtain⟨o,h1,h2,_⟩:=p
   exact W.kia_one W.kitx_tuple I.bf ⟨o,h1,h2⟩ e (fun z=>nomatch z) h
 | @dK a kvs ea =>
   cases (show u=Value.ref a from rx)
   obtain⟨_,_,vs,_,p⟩:=(show aD X.prog X.w H s.heap a (.dK kvs) from I.hok a _ ea)
   obtain⟨o,es,ep,h1,h2,_⟩:=p
   exact W.kia_one W.kitx_dict I.bf ⟨o,h1,h2.1⟩ e (fun z=>nomatch z) h
 | @dT a kvs ea =>
   cases (show u=Value.ref a from rx)
   obtain⟨_,_,xs,_,o,es,ep,h1,h2,_⟩:=(show aD X.prog X.w H s.heap a (.dT kvs) from I.hok a _ ea)
   exact W.kia_one W.kitx_dict I.bf ⟨o,h1,h2.1⟩ e (fun z=>nomatch z) h
 | @ins a C dx fs ea cl ha hn htk hm =>
   cases (show u=Value.ref a from rx)
   obtain⟨mA,O,_⟩:=qN I.hok ea
   obtain⟨od,J,_⟩:=O.look
   exact W.kia_one (W.kitx_own (cl.get _) cl.hd ha hn htk hm) I.bf J e (fun z=>nomatch z) h
end
structure ax(k:Nat)(A:Around):Prop where
 hd:A.handled=none
 dp:A.depth+3 * k+5<recursionLimit
 un:A.units+16 * k+200<cLine
 gd:A.guards=some []
theorem ax.mono{j k:Nat}{A:Around}(r:ax k A)(h:j<=k):ax j A:=⟨r.hd,by have:=r.dp;omega,by have:=r.un;omega,r.gd⟩
theorem ax.deeper{k:Nat}{A:Around}(r:ax (k+1) A)(env:Env):ax k (A.deeper env) :=
 ⟨r.hd,by have:=r.dp;show A.depth+1+3 * k+5<_;omega,by have:=r.un;show A.units+3+16 * k+200<_;omega,r.gd⟩
theorem IM{A:Around}{C:Addr}{us:List Value}{kw:List (Str×Value)}:(A.under (.builtin "type.__call__" ⟨.ref C::us,kw⟩)).depth=A.depth+1:=by
 first | rfl | simp[Around.under,Code.weight,Code.isCreation,Code.isGuard,Code.isCaller,Code.frames,Code.isFrame,guardIds]
theorem IP{A:Around}{C:Addr}{us:List Value}{kw:List (Str×Value)}:(A.under (.builtin "type.__call__" ⟨.ref C::us,kw⟩)).units=A.units+1:=by
 first | rfl | simp[Around.under,Code.cUnits,Code.frames,Code.isFrame]
theorem IQ{A:Around}{C:Addr}{us:List Value}{kw:List (Str×Value)}(h:A.guards=some []):(A.under (.builtin "type.__call__" ⟨.ref C::us,kw⟩)).guards=some []:=by
 show pushGuards (Code.guards (.builtin "type.__call__" ⟨.ref C::us,kw⟩)) A.guards=some []
 rw[h];first | rfl | (simp[Code.guards,Code.isGuard,guardIds,pushGuards])
theorem ax.make{k:Nat}{A:Around}(r:ax (k+1) A)(C:Addr)(us:List Value)(kw:List (Str×Value)):ax k (A.under (.builtin "type.__call__" ⟨.ref C::us,kw⟩)) :=
 ⟨r.hd,by have:=r.dp;rw[IM];omega,by have:=r.un;rw[IP];omega,IQ r.gd⟩
theorem ax.depth{k:Nat}{A:Around}(r:ax k A):A.depth<recursionLimit:=by have:=r.dp;omega
theorem ax.units{k:Nat}{A:Around}(r:ax k A):A.units+64<cLine:=by have:=r.un;omega
def lN:TA:=fun _ H Q=>Q [] H
def jD(ta:TE)(tr:TA):TA:=fun σ H Q=>ta σ H fun x H1=>tr σ H1 fun xs H2=>Q (x::xs) H2
section
variable{X:Cx}{e:Expr}{es:List Expr}{te:TE}{t:TA}{pos:Pos}
theorem dD:PA X [] lN:=fun _ _ _ _ H Q I h=>Calls.spliced_nil ⟨[],H,I,.nil,h⟩
theorem bp(ha:PE X e te)(hr:PA X es t)(hs:starEach (e::es) X.env=(false,eval e X.env)::starEach es X.env:=by rfl):PA X (e::es) (jD te t):=by
 intro pos pins s σ H Q I h
 rw[hs]
 show wpAny _ _ (spliced ((false,eval e X.env)::backTo pos (starEach es X.env))) _ _ s
 refine Calls.spliced_cons (aL (ha pins s σ H _ I h) fun u s1 ⟨x,H1,I1,r1,q1⟩=>?_)
 exact aL (hr pos pins s1 σ H1 _ I1 q1) fun us s2 ⟨xs,H2,I2,r2,q2⟩=>⟨x::xs,H2,I2,.cons r1 r2,q2⟩
def Ci(t:TA):TE:=fun σ H Q=>t σ H fun xs H1=>xs.length<=sizeLine/\∀ p,H1 p=none->Q (.ref p) (upd H1 p (.tup xs))
def IS(t:TA):TE:=fun σ H Q=>t σ H fun xs H1=>xs.length<=sizeLine/\∀ p,H1 p=none->Q (.ref p) (upd H1 p (.lst xs))
theorem Cj{x1}(h:PA X es t):PE X (.Tuple es x1 pos) (Ci t):=by
 intro pins s σ H Q I hq
 refine wpAny_Tuple_spliced (aL (h pos pins s σ H _ I hq) fun us s1 ⟨xs,H1,I1,r,z,q⟩=>⟨by rw[<- r.length];exact z,?_⟩)
 have hf:H1 s1.heap.objs.size=none:=I1.hok.fresh (Nat.le_refl _)
 refine⟨.ref s1.heap.objs.size,upd H1 s1.heap.objs.size (.tup xs),I1.laid (t':=s1.toks) (fun b u e=>Heap.get?_push_of_some _ e) (Nat.le_refl _) ?_,rfl,q _ hf⟩
 exact⟨z,us,r,⟨_,Heap.get?_push_size _ rfl,rfl,_,rfl⟩⟩
theorem IT(h:PA X es t):PE X (.List es pos) (IS t):=by
 intro pins s σ H Q I hq
 refine wpAny_List_spliced (aL (h pos pins s σ H _ I hq) fun us s1 ⟨xs,H1,I1,r,z,q⟩=>⟨by rw[<- r.length];exact z,?_⟩)
 have hf:H1 s1.heap.objs.size=none:=I1.hok.fresh (Nat.le_refl _)
 refine⟨.ref s1.heap.objs.size,upd H1 s1.heap.objs.size (.lst xs),I1.laid (t':=s1.toks) (fun b u e=>Heap.get?_push_of_some _ e) (Nat.le_refl _) ?_,rfl,q _ hf⟩
 exact⟨z,us,0,r,Heap.get?_push_size _ rfl⟩
end
abbrev Sp:=List V->Hp->VK->XK->Prop
abbrev jc:=List Env->Hp->Shared->XK->Value->Shared->Prop
structure ip(P:Program)(w:World)(K:W.Frag)(mg:Str->Option Value)(base:Heap)(A:Around)(outer:List Env)(s:Shared)(H:Hp):Prop where
 frames:A.frames=some outer
 mod:Mod K mg base
 bs:∀ b o,base.get? b=some o->s.heap.get? b=some o/\H b=none
 iS:base.objs.size<=s.heap.objs.size
 cz:s.heap.FunFrames base outer
 jQ:∀ b∈frs outer,H b=none
 hok:b6 P w H s.heap
 bare:AllBare s.gens
def CE(outer:List Env)(P:Program)(w:World)(H:Hp)(s:Shared)(Q:VK)(u:Value)(s':Shared):Prop :=
 ∃ v H',s'.os=s.os/\AllBare s'.gens/\Un (frs outer) [] H H' s.heap s'.heap/\b6 P w H' s'.heap/\RelV v u/\Q v H'
def CR(CX:jc)(outer:List Env)(P:Program)(w:World)(H:Hp)(s:Shared)(Q:VK)(E:XK)(r:Result)(s':Shared):Prop :=
 match r with
 | .ok (.ret u)=>CE outer P w H s Q u s'
 | .ok _=>False
 | .error e=>CX outer H s E e s'
structure a8(P:Program)(w:World)(K:W.Frag)(mg:Str->Option Value)(base:Heap)(CX:jc)(k:Nat)(f:Addr)(fd:FuncData)(ps:List Str)(sp:Sp):Prop where
 len:∀ vs H Q E,sp vs H Q E->vs.length=ps.length
 run:∀ (A:Around) (outer:List Env) (s:Shared) (H:Hp) (args:Args) (us:List Value) (vs:List V) (Q:VK) (E:XK),ax k A->ip P w K mg base A outer s H->BindsTo s fd args (ps.zip us)->Vals vs us->sp vs H Q E ->
  codeAny (model P w) A (.call (.ref f) args) (CR CX outer P w H s Q E) s
theorem a8.imp{P:Program}{w:World}{K:W.Frag}{mg:Str->Option Value}{base:Heap}{CX:jc}{k:Nat}{f:Addr}{fd:FuncData}{ps:List Str}{sp Ck:Sp}(F:a8 P w K mg base CX k f fd ps sp)
 (h:∀ vs H Q E,Ck vs H Q E->sp vs H Q E):a8 P w K mg base CX k f fd ps Ck :=
 ⟨fun vs H Q E q=>F.len vs H Q E (h _ _ _ _ q),fun A outer s H args us vs Q E hr he hb hv hs=>F.run A outer s H args us vs Q E hr he hb hv (h _ _ _ _ hs)⟩
theorem ip.make{P:Program}{w:World}{K:W.Frag}{mg:Str->Option Value}{base:Heap}{A:Around}{outer:List Env}{s:Shared}{H:Hp}(e:ip P w K mg base A outer s H)(C:Addr)(us:List Value)(kw:List (Str×Value)) :
 ip P w K mg base (A.under (.builtin "type.__call__" ⟨.ref C::us,kw⟩)) outer s H:=⟨by first | exact e.frames | (simpa [Around.under,Code.envs,Code.isFrame,pushEnvs] using e.frames),e.mod,e.bs,e.iS,e.cz,e.jQ,e.hok,e.bare⟩
section
variable{X:Cx}{pins:List (Addr×Obj)}{σ:St}{H:Hp}{s s':Shared}
theorem Inv.env0(I:Inv X pins σ H s):ip X.prog X.w X.K X.mg X.base X.A X.stack s H :=
 ⟨I.ok.frames,I.ok.mod,I.bs,Nat.le_trans I.ok.iS I.sz,I.stack,I.dS,I.hok,I.bare⟩
theorem Inv.after{Q:VK}{u:Value}(I:Inv X pins σ H s)(h:CE X.stack X.prog X.w H s Q u s'):EP X pins σ Q u s':=by
 obtain⟨v,H',os,bare,un,hok,r,q⟩:=h
 obtain⟨hh,g,d,t,os'⟩:=s'
 obtain rfl:os'=s.os:=os
 exact⟨v,H',I.call (h':=hh) (g':=g) (d':=d) (t':=t) (ch:=[]) un hok bare (fun b z=>absurd z (by simp)),r,q⟩
end
def xg(sp:Sp)(dvs:List V)(E:XK)(t:TA):TE:=fun σ H Q=>t σ H fun vs H1=>sp (vs++dvs) H1 Q E
def IU(C:Addr)(m:Str)(sp:Sp)(dvs:List V)(E:XK)(ta:TE)(t:TA):TE:=fun σ H Q=>ta σ H fun x H1=>∃ a dx fs,x = .ref a/\H1 a=some (.ins C dx fs)/\fs.lookup m=none /\
 t σ H1 fun vs H2=>sp (x::(vs++dvs)) H2 Q E
def Binds(K:W.Frag)(fd:FuncData)(ps:List Str)(ds:List Value):Prop :=
 ∀ (s:Shared) (us:List Value),K.In s.heap->(us++ds).length=ps.length->BindsTo s fd ⟨us,[]⟩ (ps.zip (us++ds))
theorem Binds.all{K:W.Frag}{fd:FuncData}{ps:List Str}(h:∀ us:List Value,us.length=ps.length->bindArgs fd ⟨us,[]⟩=pure (ps.zip us)):Binds K fd ps []:=fun s us _ hl=>by
 rw[List.append_nil] at hl ⊢
 exact .of_eq (h us hl)
def uf(CX:jc)(X:Cx)(E:XK):Prop:=∀ (pins:List (Addr×Obj)) (σ:St) (H:Hp) (s:Shared) (e:Value) (s':Shared),Inv X pins σ H s->CX X.stack H s E e s'->X.xe e s'
section
variable{X:Cx}{CX:jc}{k:Nat}{f C:Addr}{fd:FuncData}{ps:List Str}{sp:Sp}{dvs:List V}{ds:List Value}{E:XK}{x m:Str}{p pos apos:Pos}{e o:Expr}{es:List Expr}{ta:TE}{t:TA}
theorem Cm{pins:List (Addr×Obj)}{σ:St}{H:Hp}{s:Shared}{Q:VK}{us:List Value}{vs:List V}(F:a8 X.prog X.w X.K X.mg X.base CX k f fd ps sp)(hr:ax k X.A)(hb:Binds X.K fd ps ds)(hd:Vals dvs ds)(hx:uf CX X E)
 (I:Inv X pins σ H s) (r:Vals vs us) (h:sp (vs++dvs) H Q E):wpAny (model X.prog X.w) X.A (call (.ref f) us) (EP X pins σ Q) X.xe s:=by
 have r2:Vals (vs++dvs) (us++ds):=r.append hd
 have hl:(us++ds).length=ps.length:=by rw[<- r2.length];exact F.len _ _ _ _ h
 refine wpAny_call (codeAny_mono (F.run X.A X.stack s H ⟨us,[]⟩ (us++ds) (vs++dvs) Q E hr I.env0 (hb s us I.bf hl) r2 h) fun r s' hq=>?_)
 cases r with
 |error e=>exact hx pins σ H s e s' I hq
 |ok fl =>
   cases fl with
   |ret u=>exact I.after hq
   |next=>exact False.elim hq
   |brk=>exact False.elim hq
   |cont=>exact False.elim hq
theorem Co(F:a8 X.prog X.w X.K X.mg X.base CX k f fd ps sp)(hr:ax k X.A)(hg:Gl X x)(hm:X.mg x=some (.ref f))(hk:W.keepIn X.K (.ref f)=true)(hb:Binds X.K fd ps ds)(hd:Vals dvs ds)(hx:uf CX X E)
 (ha:PA X (e::es) t) (hdb:(x == ("__debug__" : Str))=false:=by decide) (he:starEach (e::es) X.env=(false,eval e X.env)::starEach es X.env:=by rfl) (hpl:(backTo pos (starEach es X.env)).any (·.1)=false:=by rfl) :
 PE X (.Call (.Name x p) (e::es) [] pos) (xg sp dvs E t):=by
 intro pins s σ H Q I h
 refine wpAny_Call_Name_kw (nQ I hg hm ?_ hdb)
 refine W.callWith_K (h₀:=X.base) I.ok.mod.m9 hk (aL (ha pos pins s σ H _ I h) fun us s1 ⟨vs,H1,I1,r,q⟩=>⟨I1.bf,?_⟩) he hpl
 exact Cm F hr hb hd hx I1 r q
theorem IV{pl:Sem Bool}(he:PE X o ta)(c:g_ X.K C)(hm:Meth X.K C m f)(F:a8 X.prog X.w X.K X.mg X.base CX k f fd ps sp)(hr:ax k X.A)(hb:Binds X.K fd ps ds)(hd:Vals dvs ds)(hx:uf CX X E)
 (ht:eval (.Call (.Attribute o m apos) [] [] pos) X.env=(do
  let ov <- eval o X.env
  standAt apos.atName
  let (f,first) <- holding [ov] (getMethod ov m pl)
  callWith pos f first (backTo pos (starEach [] X.env)) (backToKw pos (keywordEach [] X.env))):=by rfl) :
 PE X (.Call (.Attribute o m apos) [] [] pos) (IU C m sp dvs E ta lN):=by
 intro pins s σ H Q I h
 refine W.methodCall_KW (pl:=pl) (aL (he pins s σ H _ I h) fun u s1 ⟨x,H1,I1,rx,a,dx,fs,ex,ea,l,q⟩=>?_) ht
 subst ex
 obtain rfl:u=Value.ref a:=rx
 refine IF I1 ea c hm l ?_
 exact W.callWith_K0 (first:=[.ref a]) I1.bf hm.kp (Cm (us:=[.ref a]) (vs:=[.ref a]) F hr hb hd hx I1 (.cons rfl .nil) q)
structure Mk(K:W.Frag)(C f:Addr):Prop where
 makes:W.makesIn K C=true
 init:W.findIn K (.ref C) "__init__" = some (some (.ref f))
 fn:W.isFn K (.ref f)=true
 kp:W.keepIn K (.ref C)=true
end
def PK(X:Cx)(kws:List Keyword)(t:TA):Prop :=
 ∀ (pos:Pos) (pins:List (Addr×Obj)) (s:Shared) (σ:St) (H:Hp) (Q:List V->Hp->Prop),Inv X pins σ H s->t σ H Q->wpAny (model X.prog X.w) X.A (evalAll ((backToKw pos (keywordEach kws X.env)).map (·.2))) (AP X pins σ Q) X.xe s
section
variable{X:Cx}{CX:jc}{k:Nat}{f C:Addr}{fd:FuncData}{ps ks:List Str}{sp:Sp}{E:XK}{x m:Str}{p pos apos kpos:Pos}{e o:Expr}{es:List Expr}{kws:List Keyword}{te ta:TE}{t tk:TA}{nm:Option Str}
theorem IW:PK X [] lN:=fun _ _ _ _ H Q I h=>wpAny_evalAll_nil ⟨[],H,I,.nil,h⟩
theorem IX(ha:PE X e te)(hr:PK X kws t):PK X (⟨nm,e,kpos⟩::kws) (jD te t):=by
 intro pos pins s σ H Q I h
 show wpAny _ _ (evalAll ((do let v <- eval e X.env;standAt pos;pure v)::(backToKw pos (keywordEach kws X.env)).map (·.2))) _ _ s
 refine wpAny_evalAll_cons (wpAny_bind (aL (ha pins s σ H _ I h) fun u s1 ⟨x,H1,I1,r1,q1⟩=>wpAny_bind (wpAny_standAt (wpAny_pure ?_))))
 exact aL (hr pos pins s1 σ H1 _ I1 q1) fun us s2 ⟨xs,H2,I2,r2,q2⟩=>⟨x::xs,H2,I2,.cons r1 r2,q2⟩
variable{g:List Value->List Value->List Value}{gV:List V->List V->List V}
end
structure aq(N P:List Str)(sc:Scope):Prop where
 kind:sc.kind = .function
 co:sc.isCoroutine=false
 gen:sc.isGenerator=false
 nd:N.Nodup
 pre:N.take P.length=P
 par:∀ x∈P,sc.names.lookup x=some .local\/sc.names.lookup x=some .cell
 nU:∀ y∈sc.names,y.2 ≠ .free
theorem Cp{kindOf:Str->Option NameKind}{x:Str}:∀ {binds:List (Str×Value)} {m:Str->Option Value},(∀ v,(x,v) ∉ binds)->bindL kindOf binds m x=m x
 | [],_,_=>rfl
 | (n,v)::r,m,h=>by
   unfold bindL
   rw[Cp fun w hw=>h w (List.mem_cons_of_mem _ hw)]
   split
   · have:x≠n:=by rintro rfl;exact h v List.mem_cons_self
     simp[this]
   · rfl
theorem Cq{kindOf:Str->Option NameKind}{x:Str}:∀ {binds:List (Str×Value)} {m:Str->Option Value},(∀ v,(x,v) ∉ binds)->bindC kindOf binds m x=m x
 | [],_,_=>rfl
 | (n,v)::r,m,h=>by
   unfold bindC
   rw[Cq fun w hw=>h w (List.mem_cons_of_mem _ hw)]
   split
   · rfl
   · have:x≠n:=by rintro rfl;exact h v List.mem_cons_self
     simp[this]
theorem Cr{kindOf:Str->Option NameKind}{x:Str}{v:Value}:∀ {P:List Str} {vs:List Value} {i:Nat} {m:Str->Option Value},P.Nodup->P[i]? = some x->vs[i]? = some v->kindOf x=some .local ->
 bindL kindOf (P.zip vs) m x=some v
 | [],_,_,_,_,h,_,_=>by simp at h
 | _::_,[],_,_,_,_,h,_=>by simp at h
 |p::P,w::vs,0,m,nd,h1,h2,hk=>by
   simp at h1 h2;subst h1;subst h2
   show bindL kindOf ((p,w)::P.zip vs) m p=_
   unfold bindL
   rw[Cp fun v hv=>(List.nodup_cons.mp nd).1 (List.of_mem_zip hv).1,if_pos hk]
   simp
 |p::P,w::vs,i+1,m,nd,h1,h2,hk=>by
   show bindL kindOf ((p,w)::P.zip vs) m x=_
   unfold bindL
   exact Cr (i:=i) (List.nodup_cons.mp nd).2 (by simpa using h1) (by simpa using h2) hk
theorem Cs{kindOf:Str->Option NameKind}{x:Str}{v:Value}:∀ {P:List Str} {vs:List Value} {i:Nat} {m:Str->Option Value},P.Nodup->P[i]? = some x->vs[i]? = some v->kindOf x≠some .local ->
 bindC kindOf (P.zip vs) m x=some v
 | [],_,_,_,_,h,_,_=>by simp at h
 | _::_,[],_,_,_,_,h,_=>by simp at h
 |p::P,w::vs,0,m,nd,h1,h2,hk=>by
   simp at h1 h2;subst h1;subst h2
   show bindC kindOf ((p,w)::P.zip vs) m p=_
   unfold bindC
   rw[Cq fun v hv=>(List.nodup_cons.mp nd).1 (List.of_mem_zip hv).1,if_neg hk]
   simp
 |p::P,w::vs,i+1,m,nd,h1,h2,hk=>by
   show bindC kindOf ((p,w)::P.zip vs) m x=_
   unfold bindC
   exact Cs (i:=i) (List.nodup_cons.mp nd).2 (by simpa using h1) (by simpa using h2) hk
def start(N:List Str)(vs:List V):St:=vs.map some++List.replicate (N.length - vs.length) none
def gn(CX:jc)(P:Program)(w:World)(K:W.Frag)(mg:Str->Option Value)(base:Heap)(N:List Str)(qual:Str)(scope:Scope)(f:Addr)(cd:Value)(A:Around)(outer:List Env)(s:Shared)(H:Hp)(E:XK):Cx where
 prog:=P
 w:=w
 K:=K
 mg:=mg
 base:=base
 A:=A.deeper (envOfC qual scope s.heap.objs.size f cd)
 N:=N
 s₀:=s
 H₀:=H
 env:=envOfC qual scope s.heap.objs.size f cd
 outer:=outer
 stack:=envOfC qual scope s.heap.objs.size f cd::outer
 ex:=[]
 calm:=true
 fn:=fun _=>true
 pn:=[]
 xe:=fun e s'=>wpAny (model P w) (A.deeper (envOfC qual scope s.heap.objs.size f cd)) (leaving (envOfC qual scope s.heap.objs.size f cd) e) (fun _ s''=>CX outer H s E e s'') (fun e' s''=>CX outer H s E e' s'') s'
theorem Ct{sc:Scope}{n:Nat}{x:Str}(h:sc.names.lookup x=some .cell):∃ c,(cellsFrom n sc.names []).lookup x=some c:=by
 have q:=W.cellsFrom_some sc.names n [] (.inl h)
 exact Option.isSome_iff_exists.mp q
theorem IZ{CX:jc}{P:Program}{w:World}{K:W.Frag}{mg:Str->Option Value}{base:Heap}{N ps:List Str}{qual:Str}{scope:Scope}{f:Addr}{cd:Value}{A:Around}{outer:List Env}{s s1:Shared}{H:Hp}{E:XK}{us:List Value}{vs:List V}
 (S:aq N ps scope) (hd:A.handled=none) (e0:ip P w K mg base A outer s H) (hl:vs.length=ps.length) (r:Vals vs us)
 (x:InCallC s s.heap.objs.size (bindL (envOfC qual scope s.heap.objs.size f cd).kindOf (ps.zip us) fun _=>none) (cellsFrom (s.heap.objs.size+1) scope.names []) (bindC (envOfC qual scope s.heap.objs.size f cd).kindOf (ps.zip us) fun _=>none) s1) :
 Inv (gn CX P w K mg base N qual scope f cd A outer s H E) [] (start N vs) H s1:=by
 have hpl:ps.length<=N.length:=by have:=congrArg List.length S.pre;rw[List.length_take] at this;omega
 obtain⟨h1,tk,rfl,hk⟩:=x.done
 have qO:∀ b:Addr,b ∉ (gn CX P w K mg base N qual scope f cd A outer s H E).ex:=fun b z=>absurd (show b∈([]:List Addr) from z) (by simp)
 refine⟨⟨e0.mod,S.kind,rfl,rfl,Nat.le_refl _,fun y z c h1 h2=>?_,fun y hy=>?_,fun y c _ h=>?_,fun _=>hd,Around.frames_deeper e0.frames,.inr ⟨rfl,rfl⟩,fun b z=>absurd z (qO b),e0.bs,e0.iS,fun b _ _=>qO b,fun b z=>absurd z (qO b),e0.cz,e0.jQ⟩,
  rfl,e0.bare,Un.kept hk,⟨_,x.toInCall.ns,fun i y v h1 h2 h3=>?_⟩,fun y c h=>⟨_,x.cell y c h⟩,e0.hok.fresh (Nat.le_refl _),fun y c h=>?_,fun p hp=>absurd (show p∈([]:List (Addr×Obj)) from hp) (by simp),e0.hok.kept hk,?_⟩
 · exact name_of_addr x.apart (PySem.mem_of_lookup h1) (PySem.mem_of_lookup h2)
 · have hy:scope.names.lookup y=some .cell\/scope.names.lookup y=some .free:=hy
   rcases hy with hy | hy
   · exact Ct hy
   · exact absurd rfl (S.nU _ (PySem.mem_of_lookup hy))
 · exact Nat.le_of_lt (x.above y c (PySem.mem_of_lookup h))
 · have hi:i<vs.length:=by
    unfold start at h2
    by_cases hi:i<vs.length
    · exact hi
    · rw[List.getElem?_append_right (by simpa using hi)] at h2
      rw[List.getElem?_replicate] at h2
      split at h2<;>cases h2
   have ha:vs[i]? = some v:=by
    unfold start at h2
    rw[List.getElem?_append_left (by simpa using hi),List.getElem?_map] at h2
    cases e:vs[i]? with
    |none=>rw[e] at h2;cases h2
    |some a=>rw[e] at h2;cases h2;rfl
   obtain⟨u,hu,rv⟩:=r.get ha
   have hp:ps[i]? = some y:=by
    rw[<- S.pre,List.getElem?_take_of_lt (by omega)];exact h1
   have Cu:ps.Nodup:=by rw[<- S.pre];exact S.nd.sublist (List.take_sublist _ _)
   refine⟨u,rv,?_⟩
   rcases S.par y (List.mem_of_getElem? hp) with k | k
   · exact .inl ⟨k,Cr Cu hp hu k⟩
   · obtain⟨c,e⟩:=Ct (n:=s.heap.objs.size+1) k
     refine .inr ⟨.inl k,c,e,?_⟩
     have q:=x.cell y c e
     rw[Cs Cu hp hu (by show scope.names.lookup y≠_;rw[k];decide)] at q
     exact q
 · exact e0.hok.fresh (Nat.le_of_lt (x.above y c (PySem.mem_of_lookup h)))
 · unfold start
   show _=N.length
   rw[List.length_append,List.length_map,List.length_replicate]
   omega
theorem xh{CX:jc}{P:Program}{w:World}{K:W.Frag}{mg:Str->Option Value}{base:Heap}{k:Nat}{f:Addr}{name qual:Str}{params:Arguments}{body:List Stmt}{scope:Scope}{dV kV doc pm cdv ct oc:Value}{an od:Option Addr}
 {osl:Array (Option Value)} {N ps:List Str} {sp:Sp} (lk:K.lookup f=some ⟨oc,od,.func (W.fnOf name qual params body scope dV kV doc pm an cdv ct),osl⟩) (hcd:W.codeIn K cdv qual=true) (S:aq N ps scope)
 (len:∀ vs H Q E,sp vs H Q E->vs.length=ps.length)
 (hbody:∀ (A:Around) (outer:List Env) (s:Shared) (H:Hp) (vs:List V) (Q:VK) (E:XK),ax k (A.deeper (envOfC qual scope s.heap.objs.size f cdv))->sp vs H Q E ->
  ∃ t,PSs (gn CX P w K mg base N qual scope f cdv A outer s H E) body t/\t { nx:=fun _ H'=>Q .ao H',rt:=Q } (start N vs) H) :
 a8 P w K mg base CX (k+1) f (W.fnOf name qual params body scope dV kV doc pm an cdv ct) ps sp:=by
 refine⟨len,fun A outer s H args us vs Q E hr e0 hb r hsp=>?_⟩
 have hl:=len _ _ _ _ hsp
 have KX:K.In s.heap:=e0.mod.m9.keeps fun b o e=>(e0.bs b o e).1
 have lim:s.heap.NoLimit:=e0.mod.nolimit.keeps fun b o e=>(e0.bs b o e).1
 have hkind:∀ y∈ps.zip us,scope.names.lookup y.1=some .local\/(scope.names.lookup y.1=some .cell/\((cellsFrom (s.heap.objs.size+1) scope.names []).lookup y.1).isSome=true):=fun ⟨n,v⟩ hy=>by
  rcases S.par n (List.of_mem_zip hy).1 with q | q
  · exact .inl q
  · exact .inr ⟨q,W.cellsFrom_some _ _ _ (.inl q)⟩
 refine codeAny_call_function hr.depth (KX _ _ lk) rfl S.co S.gen rfl (W.codeRec_of KX hcd) (hb _ _ _ _ ?_)
 refine wpAny_newFunctionEnv_cells S.kind hkind fun env he s1 x=>?_
 subst he
 refine⟨lim.keeps x.toInCall.keep,codeAny_func ?_⟩
 obtain⟨t,ht,hq⟩:=hbody A outer s H vs Q E (hr.deeper _) hsp
 have I:Inv (gn CX P w K mg base N qual scope f cdv A outer s H E) [] (start N vs) H s1:=IZ S hr.hd e0 hl r x
 refine wpAny_mono (ht [] s1 (start N vs) H _ I hq) (fun fl s' hs=>?_) fun e s' hs=>hs
 have fin:∀ {ay:St} {H':Hp} {v:V} {u:Value},Inv (gn CX P w K mg base N qual scope f cdv A outer s H E) [] ay H' s'->RelV v u->Q v H'->CE outer P w H s Q u s' :=
  fun {ay H' v u} J rv q=>⟨v,H',J.os,J.bare,J.base,J.hok,rv,q⟩
 cases fl with
 |ret u =>
   obtain⟨v,ay,H',J,rv,q⟩:=hs
   exact fin J rv q
 |next =>
   obtain⟨ay,H',J,q⟩:=hs
   exact fin (v:=V.ao) (u:=Value.none) J rfl q
 |brk =>
   obtain⟨_,_,_,q⟩:=hs
   exact False.elim q
 |cont =>
   obtain⟨_,_,_,q⟩:=hs
   exact False.elim q
section
variable{X:Cx}{x:Str}{p pos:Pos}{e:Expr}{es:List Expr}{t:TA}{id T:String}{r:List V->Hp->VK->Prop}
def pF(r:List V->Hp->VK->Prop)(t:TA):TE:=fun σ H Q=>t σ H fun vs H1=>r vs H1 Q
theorem cB(hc:aS X (.builtin id) r)(hg:Gl X x)(hm:X.mg x=none)(hv:bootBuiltins x=some (.builtin id))(ha:PA X (e::es) t)(hn:x ≠ "__name__" := by decide)(hdb:(x == ("__debug__" : Str))=false:=by decide)
 (he:starEach (e::es) X.env=(false,eval e X.env)::starEach es X.env:=by rfl) (hpl:(backTo pos (starEach es X.env)).any (·.1)=false:=by rfl):PE X (.Call (.Name x p) (e::es) [] pos) (pF r t):=by
 intro pins s σ H Q I h
 refine wpAny_Call_Name_kw (ph I hg hm hv ?_ hn hdb)
 exact PyProof.Rows.callWith_builtin1 (aL (ha pos pins s σ H _ I h) fun us s1 ⟨vs,H1,I1,r1,q1⟩=>hc pins s1 σ H1 vs us Q I1 r1 q1) he hpl
theorem nV(hc:aS X (.type T) r)(hg:Gl X x)(hm:X.mg x=none)(hv:bootBuiltins x=some (.type T))(ha:PA X (e::es) t)(hn:x ≠ "__name__" := by decide)(hdb:(x == ("__debug__" : Str))=false:=by decide)
 (he:starEach (e::es) X.env=(false,eval e X.env)::starEach es X.env:=by rfl) (hpl:(backTo pos (starEach es X.env)).any (·.1)=false:=by rfl):PE X (.Call (.Name x p) (e::es) [] pos) (pF r t):=by
 intro pins s σ H Q I h
 refine wpAny_Call_Name_kw (ph I hg hm hv ?_ hn hdb)
 exact PyProof.Rows.callWith_type1 (aL (ha pos pins s σ H _ I h) fun us s1 ⟨vs,H1,I1,r1,q1⟩=>hc pins s1 σ H1 vs us Q I1 r1 q1) he hpl
end
end L2
namespace HT
open PySem PyProof.Rows
section
variable{prog:Program}{w:World}{A:Around}{E:Value->Shared->Prop}{s:Shared}
def eZ(n d:Nat):Option Int->Nat
 |none=>d
 |some v=>if v<0 then (v+(n:Int)).toNat else min v.toNat n
theorem iT(n d k:Nat):eZ n d (some (k:Int))=min k n:=by
 show(if (k:Int)<0 then ((k:Int)+(n:Int)).toNat else min (k:Int).toNat n)=min k n
 rw[if_neg (by omega),Int.toNat_natCast]
end
end HT
namespace L2
open PySem PySem.Spec PyProof.Rows
abbrev TO:=St->Hp->(Option Int->Hp->Prop)->Prop
def PO(X:Cx)(e:Option Expr)(t:TO):Prop :=
 ∀ (pins:List (Addr×Obj)) (s:Shared) (σ:St) (H:Hp) (Q:Option Int->Hp->Prop),Inv X pins σ H s->t σ H Q ->
  wpAny (model X.prog X.w) X.A (evalPart e X.env) (fun u s'=>∃ o H',Inv X pins σ H' s'/\IsPart u o/\Q o H') X.xe s
def I0:TO:=fun _ H Q=>Q none H
def I8(t:TE):TO:=fun σ H Q=>t σ H fun x H1=>∃ i,x = .int i/\Q (some i) H1
section
variable{X:Cx}{e:Expr}{te:TE}{lo hi:Option Expr}{tl th:TO}{pos p2:Pos}
theorem I9:PO X none I0:=by
 intro pins s σ H Q I h
 rw[evalPart_none]
 exact wpAny_pure ⟨none,H,I,.none,h⟩
theorem I_(h:PE X e te):PO X (some e) (I8 te):=by
 intro pins s σ H Q I hw
 rw[evalPart_some]
 refine aL (h pins s σ H _ I hw) fun u s1 ⟨x,H1,I1,r1,q1⟩=>?_
 obtain⟨i,rfl,q⟩:=q1
 obtain⟨t,rfl⟩:=r1
 exact⟨some i,H1,I1,.int i t,q⟩
def k6(X:Cx)(r:V->Option Int->Option Int->Hp->VK->Prop):Prop :=
 ∀ (pins:List (Addr×Obj)) (s:Shared) (σ:St) (H:Hp) (x:V) (v vl vu:Value) (lo hi:Option Int) (sl:Addr) (Q:VK),Inv X pins σ H s->RelV x v->s.heap.IsSliceOf sl vl vu .none->IsPart vl lo->IsPart vu hi->r x lo hi H Q ->
  ∃ T id,typeLookup (.type T) "__getitem__" = pure (some (.builtin id))/\s.TypeIs v T/\wpAny (model X.prog X.w) X.A (getItem v (.ref sl)) (EP X pins σ Q) X.xe s
def Ja(r:V->Option Int->Option Int->Hp->VK->Prop)(te:TE)(tl th:TO):TE:=fun σ H Q=>te σ H fun x H1=>tl σ H1 fun l H2=>th σ H2 fun u H3=>r x l u H3 Q
theorem Jb{r:V->Option Int->Option Int->Hp->VK->Prop}(hr:k6 X r)(he:PE X e te)(hl:PO X lo tl)(hu:PO X hi th):PE X (.Subscript e (.Slice lo hi none p2) pos) (Ja r te tl th):=by
 intro pins s σ H Q I h
 refine Subscript_ (aL (he pins s σ H _ I h) fun v s1 ⟨x,H1,I1,r1,q1⟩=>?_)
 refine wpAny_Slice (aL (hl pins s1 σ H1 _ I1 q1) fun vl s2 ⟨l,H2,I2,pl,q2⟩=>aL (hu pins s2 σ H2 _ I2 q2) fun vu s3 ⟨u,H3,I3,pu,q3⟩=>?_)
 rw[evalPart_none]
 refine wpAny_pure ?_
 have I4:Inv X pins σ H3 { s3 with heap:=s3.heap.push { cls:=.type "slice",data:=.fields #[vl,vu,.none] } }:=I3.kept (t':=s3.toks) fun b ob q=>Heap.get?_push_of_some _ q
 obtain⟨T,id,hT,ht,hg⟩:=hr pins { s3 with heap:=s3.heap.push { cls:=.type "slice",data:=.fields #[vl,vu,.none] } } σ H3 x v vl vu l u s3.heap.objs.size Q I4 r1 (Heap.IsSliceOf.new ..) pl pu q3
 show wpAny (model X.prog X.w) X.A (subscriptTail e (.Slice lo hi none p2) v (.ref s3.heap.objs.size)) (EP X pins σ Q) X.xe { s3 with heap:=s3.heap.push { cls:=.type "slice",data:=.fields #[vl,vu,.none] } }
 exact tail_any (ops:=[.ref s3.heap.objs.size,v]) ht hT hg (by with_unfolding_all rfl)
def nW(xs:List V)(lo hi:Option Int):List V:=(xs.drop (HT.eZ xs.length 0 lo)).take (HT.eZ xs.length xs.length hi - HT.eZ xs.length 0 lo)
theorem Jc(xs:List V)(lo hi:Option Int):(nW xs lo hi).length<=xs.length:=by
 unfold nW
 rw[List.length_take,List.length_drop]
 omega
end
def jd(n:Nat)(i:Int):Option Nat:=if 0<=i then (if i<n then some i.toNat else none) else if -(n:Int)<=i then some (i+n).toNat else none
def cC{α:Type}(xs:List α)(i:Int):Option α:=(jd xs.length i).bind fun j=>xs[j]?
theorem Cv{n:Nat}{i:Int}{j:Nat}(h:jd n i=some j):seqIndex? i n=some j/\j<n /\ -(n:Int)<=i/\i<n:=by
 unfold jd at h
 by_cases h0:0<=i
 · rw[if_pos h0] at h
   by_cases h1:i<n
   · rw[if_pos h1] at h
     have e:i.toNat=j:=Option.some.inj h
     exact⟨by rw[seqIndex_of h0 h1,e],by omega,by omega,h1⟩
   · rw[if_neg h1] at h;cases h
 · rw[if_neg h0] at h
   by_cases h1 : -(n:Int)<=i
   · rw[if_pos h1] at h
     have e:(i+n).toNat=j:=Option.some.inj h
     exact⟨by rw[seqIndex_neg (by omega) h1,e],by omega,h1,by omega⟩
   · rw[if_neg h1] at h;cases h
theorem xi{α:Type}{xs:List α}{i:Int}{v:α}(h:cC xs i=some v):∃ j,seqIndex? i xs.length=some j/\xs[j]? = some v/\j<xs.length /\ -(xs.length:Int)<=i/\i<xs.length:=by
 unfold cC at h
 cases e:jd xs.length i with
 |none=>rw[e] at h;cases h
 |some j =>
   rw[e] at h
   obtain⟨h1,h2,h3,h4⟩:=Cv e
   exact⟨j,h1,h,h2,h3,h4⟩
theorem iU{α:Type}{xs:List α}{j:Nat}{v:α}(h:xs[j]? = some v):cC xs (j:Int)=some v:=by
 have hj:j<xs.length:=(List.getElem?_eq_some_iff.mp h).1
 have e:jd xs.length (j:Int)=some j:=by
  unfold jd
  rw[if_pos (by omega),if_pos (by omega)];simp
 unfold cC;rw[e];exact h
def Cw(b:Expr):Prop:=∀ o i,subscripted b false o i=operate [o,i] (getItem o i)
def lO(X:Cx)(r:R2):Prop :=
 ∀ (value slice:Expr) (pins:List (Addr×Obj)) (s:Shared) (σ:St) (H:Hp) (x y:V) (v u:Value) (Q:VK),Inv X pins σ H s->RelV x v->RelV y u->r x y H Q ->
  subscripted slice false v u=operate [v,u] (getItem v u)->wpAny (model X.prog X.w) X.A (subscriptTail value slice v u) (EP X pins σ Q) X.xe s
def ug(X:Cx)(id:String)(r:V->List V->Hp->VK->Prop):Prop :=
 ∀ (pins:List (Addr×Obj)) (s:Shared) (σ:St) (H:Hp) (x:V) (xs:List V) (v:Value) (us:List Value) (Q:VK),Inv X pins σ H s->RelV x v->Vals xs us->r x xs H Q ->
  wpAny (model X.prog X.w) X.A (call (.builtin id) (v::us)) (EP X pins σ Q) X.xe s
section
variable{X:Cx}{a b:Expr}{ta tb:TE}{pos:Pos}
theorem lO.or{r r':R2}(h:lO X r)(h':lO X r'):lO X (fun x y H Q=>r x y H Q\/r' x y H Q):=by
 intro value slice pins s σ H x y v u Q I rx ry q hs
 rcases q with q | q
 · exact h value slice pins s σ H x y v u Q I rx ry q hs
 · exact h' value slice pins s σ H x y v u Q I rx ry q hs
theorem Jd{r:R2}(hr:lO X r)(ha:PE X a ta)(hb:PE X b tb)(hs:Cw b):PE X (.Subscript a b pos) (qL r ta tb):=by
 intro pins s σ H Q I h
 exact Subscript_ (w5 ha hb I h fun v u s2 x y H2 I2 rx ry q=>hr a b pins s2 σ H2 x y v u Q I2 rx ry q (hs _ _))
def Cy(K:W.Frag):R2:=fun x y H Q=>∃ p xs i v,x = .ref p/\y = .int i/\bQ K H p xs/\cC xs i=some v/\Q v H
def Cz(K:W.Frag):R2:=fun x y H Q=>∃ p xs i v,x = .ref p/\y = .int i/\c8 K H p xs/\cC xs i=some v/\Q v H
def CA:R2:=fun x y H Q=>∃ z i c,x = .str z/\y = .int i/\z.length<=sizeLine/\cC z.cps.toList i=some c/\Q (.str ⟨#[c]⟩) H
theorem lP:lO X (Cy X.K):=by
 intro value slice pins s σ H x y v u Q I rx ry h hs
 obtain⟨p,xs,i,z,rfl,rfl,hq,he,q⟩:=h
 cases rx
 obtain⟨t,rfl⟩:=ry
 obtain⟨its,r,pl,hz⟩:=I.list hq
 obtain⟨j,h1,h2,h3,h4,h5⟩:=xi he
 obtain⟨w,ew,rw'⟩:=r.get h2
 have hl:=r.length
 have hn:=pE
 have fin:EP X pins σ Q w s:=⟨z,H,I,rw',q⟩
 by_cases h0:0<=i
 · have hj:i.toNat=j:=by
    rw[seqIndex_of h0 h5] at h1
    exact Option.some.inj h1
   exact item_listR pl.isList h0 (by omega) (by rw[hj];simpa using ew) fin hs
 · have hj:(i+(its.toArray.size:Int)).toNat=j:=by
    rw[seqIndex_neg (by omega) h4] at h1
    rw[List.size_toArray, <- hl]
    exact Option.some.inj h1
   exact subscriptTail_builtinR (x:=w) pl.isList.typeIs slot_list_getitem.lookup
    (wpAny_getItem_list_neg (Q:=fun r s'=>r=w/\EP X pins σ Q r s') pl.isList (by omega) (by rw[List.size_toArray]<;>omega) (by omega) (by rw[hj];simpa using ew) ⟨rfl,fin⟩) hs
theorem nZ:lO X (Cz X.K):=by
 intro value slice pins s σ H x y v u Q I rx ry h hs
 obtain⟨p,xs,i,z,rfl,rfl,hq,he,q⟩:=h
 cases rx
 obtain⟨t,rfl⟩:=ry
 obtain⟨its,r,pl,hz⟩:=I.tuple hq
 obtain⟨j,h1,h2,h3,h4,h5⟩:=xi he
 obtain⟨w,ew,rw'⟩:=r.get h2
 have hl:=r.length
 have hn:=pE
 have fin:EP X pins σ Q w s:=⟨z,H,I,rw',q⟩
 exact subscriptTail_builtinR (x:=w) pl.typeIs slot_tuple_getitem.lookup
  (getItem_tuple (j:=j) (Q:=fun r s'=>r=w/\EP X pins σ Q r s') pl (by omega) (by omega) (by rw[List.size_toArray, <- hl];exact h1) (by simpa using ew) ⟨rfl,fin⟩) hs
theorem Je:lO X CA:=by
 intro value slice pins s σ H x y v u Q I rx ry h hs
 obtain⟨z,i,c,rfl,rfl,hz,he,q⟩:=h
 obtain⟨t,rfl⟩:=rx
 obtain⟨t',rfl⟩:=ry
 obtain⟨j,h1,h2,h3,h4,h5⟩:=xi he
 have hl:z.cps.toList.length=z.length:=by simp[Str.length]
 rw[hl] at h1 h4 h5
 have hn:=pE
 exact tail_any (typeIs_str s z t) slot_str_getitem.lookup (getItem_str (c:=c) (by
  have e1:decide (i < -(2 ^ 63:Int))=false:=decide_eq_false (by omega)
  have e2:decide (i ≥ 2 ^ 63)=false:=decide_eq_false (by omega)
  rw[e1,e2,Bool.or_false]) (by rw[h1];simpa using h2) ⟨.str ⟨#[c]⟩,H,I.tok _,⟨_,rfl⟩,q⟩) hs
def CB(K:W.Frag):R2:=fun x y H Q=>Cy K x y H Q\/Cz K x y H Q\/CA x y H Q
theorem Jf:lO X (CB X.K):=lP.or (nZ.or Je)
theorem Jg(its:List Value)(n j:Nat)(u:Value):Obj.mapSeq (·.setIfInBounds j u) { cls:=.type "list",data:=.seq its.toArray n }={ cls:=.type "list",data:=.seq (its.set j u).toArray n }:=by
 simp[Obj.mapSeq]
theorem Inv.lst{pins:List (Addr×Obj)}{σ:St}{H:Hp}{s:Shared}{p:Addr}{xs:List V}(I:Inv X pins σ H s)(h:H p=some (.lst xs)) :
 ∃ (its:List Value) (n:Nat),Vals xs its/\s.heap.get? p=some { cls:=.type "list",data:=.seq its.toArray n }/\xs.length<=sizeLine:=by
 obtain⟨z,its,n,r,e⟩:=I.hok p _ h
 exact⟨its,n,r,e,z⟩
theorem Inv.n4{pins:List (Addr×Obj)}{σ:St}{H:Hp}{s:Shared}{p:Addr}{xs ys:List V}{its its':List Value}{n n':Nat}{f:Obj->Obj}(I:Inv X pins σ H s)(h:H p=some (.lst xs))
 (ho:s.heap.get? p=some { cls:=.type "list",data:=.seq its.toArray n }) (hf:f { cls:=.type "list",data:=.seq its.toArray n }={ cls:=.type "list",data:=.seq its'.toArray n' }) (r:Vals ys its') (hz:ys.length<=sizeLine) (t:Nat) :
 Inv X pins σ (upd H p (.lst ys)) { s with heap:=s.heap.update p f,toks:=t }:=by
 have e:(s.heap.update p f).get? p=some { cls:=.type "list",data:=.seq its'.toArray n' }:=by
  rw[Heap.get?_update_self f ho (by rw[hf]<;>rfl),hf]
 refine I.write (x:=p) (e:=p) (by rw[h];trivial) (.inl rfl) (fun b u hb q=>(Heap.get?_update_other _ _ (Ne.symm hb)).trans q) ⟨_,e⟩ ?_
 exact⟨hz,its',n',r,e⟩
def CC:V->V->V->Hp->(Hp->Prop)->Prop:=fun o i v H Q=>∃ p xs k j,o = .ref p/\i = .int k/\H p=some (.lst xs)/\jd xs.length k=some j/\Q (upd H p (.lst (xs.set j v)))
theorem set_list:BM X CC:=by
 intro pins s σ H o i v ov iv u Q I ro ri rv h
 obtain⟨p,xs,k,j,rfl,rfl,hp,hj,q⟩:=h
 cases ro
 obtain⟨t,rfl⟩:=ri
 obtain⟨its,n,r,ho,hz⟩:=I.lst hp
 obtain⟨h1,h2,h3,h4⟩:=Cv hj
 have hl:=r.length
 have hn:=pE
 have I':Inv X pins σ (upd H p (.lst (xs.set j v))) { s with heap:=s.heap.update p (Obj.mapSeq (·.setIfInBounds j u)) } :=
  I.n4 hp ho (Jg its n j u) (r.set rv j) (by rw[List.length_set];exact hz) s.toks
 by_cases h0:0<=k
 · have hk:k.toNat=j:=by
    rw[seqIndex_of h0 h4] at h1
    exact Option.some.inj h1
   exact W.ki_setAt ho h0 (by omega) (by rw[List.size_toArray, <- hl];exact h4) (by rw[hk];exact⟨_,I',q⟩)
 · have hk:(k+(its.toArray.size:Int)).toNat=j:=by
    rw[seqIndex_neg (by omega) h3] at h1
    rw[List.size_toArray, <- hl]
    exact Option.some.inj h1
   exact W.ki_setBack ho (by omega) (by rw[List.size_toArray, <- hl];exact h3) (by omega) (by rw[hk];exact⟨_,I',q⟩)
theorem Jh(lo hi:Option Int)(n:Nat):(sliceBounds lo hi none n).1=((HT.eZ n 0 lo:Nat):Int)/\(sliceBounds lo hi none n).2.1=((HT.eZ n n hi:Nat):Int)/\(sliceBounds lo hi none n).2.2=1:=by
 refine⟨?_,?_,rfl⟩
 · cases lo with
   |none=>simp[sliceBounds,HT.eZ]
   |some i =>
     simp only[sliceBounds,HT.eZ,Option.getD_none,show(1:Int) > 0 by decide,if_true]
     by_cases h:i<0
     · simp only[h,if_true]<;>omega
     · simp only[h,if_false]<;>omega
 · cases hi with
   |none=>simp[sliceBounds,HT.eZ]
   |some i =>
     simp only[sliceBounds,HT.eZ,Option.getD_none,show(1:Int) > 0 by decide,if_true]
     by_cases h:i<0
     · simp only[h,if_true]<;>omega
     · simp only[h,if_false]<;>omega
theorem Ji(its:List Value)(lo hi:Option Int):slicePick its.toArray lo hi none=((its.drop (HT.eZ its.length 0 lo)).take (HT.eZ its.length its.length hi - HT.eZ its.length 0 lo)).toArray:=by
 obtain⟨h1,h2,h3⟩:=Jh lo hi its.toArray.size
 unfold slicePick
 rw[h1,h2,h3]
 simp only[sliceRange_one,pick_run,List.size_toArray]<;>rfl
def Jj(K:W.Frag):V->Option Int->Option Int->Hp->VK->Prop:=fun x lo hi H Q=>∃ a xs,x = .ref a/\bQ K H a xs/\∀ p,H p=none->Q (.ref p) (upd H p (.lst (nW xs lo hi)))
theorem Jk:k6 X (Jj X.K):=by
 intro pins s σ H x v vl vu lo hi sl Q I rx hs pl pu h
 obtain⟨a,xs,rfl,hx,q⟩:=h
 cases rx
 obtain⟨its,r,ht,hz⟩:=I.list hx
 have hlen:=r.length
 refine⟨"list",_,slot_list_getitem.lookup,ht.isList.typeIs,?_⟩
 refine wpAny_getItem_list_slice ht.isList hs pl pu .none (by simp) ?_ (by rw[List.size_toArray]<;>omega)
 rw[Ji, <- hlen]
 refine⟨.ref s.heap.objs.size,_,I.laid (t':=s.toks) (o:=.lst (nW xs lo hi)) (fun b ob q=>Heap.get?_push_of_some _ q) (Nat.le_refl _) ?_,rfl,q _ (I.hok.fresh (Nat.le_refl _))⟩
 exact⟨Nat.le_trans (Jc xs lo hi) hz,_,0,(r.drop (HT.eZ xs.length 0 lo)).take (HT.eZ xs.length xs.length hi - HT.eZ xs.length 0 lo),Heap.get?_push_size _ rfl⟩
def je:V->Bool
 | .ao=>true
 | .bl _=>true
 | .int _=>true
 | .str _=>true
 | _=>false
def iq:V->V->Bool
 | .ao,.ao=>true
 | .bl a,.bl b=>a == b
 | .bl a,.int b=>(if a then 1 else 0) == b
 | .int a,.bl b=>a == (if b then 1 else 0)
 | .int a,.int b=>a == b
 | .str a,.str b=>a == b
 | _,_=>false
theorem Jl{A:Around}{s:Shared}{y x:V}{u v:Value}(ry:RelV y u)(rx:RelV x v)(fy:je y=true)(fx:je x=true):SeqAt.EqAt A s u v (iq y x):=by
 cases y with
 |ao =>
   cases ry
   cases x with
   |ao=>cases rx;exact SeqAt.EqAt.same _
   |bl b=>cases rx;exact SeqAt.EqAt.none_bool b
   |int b=>obtain⟨t,rfl⟩:=rx;exact SeqAt.EqAt.none_int b t
   |str b=>obtain⟨t,rfl⟩:=rx;exact SeqAt.EqAt.none_str b t
   | _=>exact absurd (show false=true from fx) Bool.false_ne_true
 |bl a =>
   cases ry
   cases x with
   |ao=>cases rx;exact SeqAt.EqAt.bool_none a
   |bl b=>cases rx;exact SeqAt.EqAt.bool_bool a b
   |int b=>obtain⟨t,rfl⟩:=rx;exact SeqAt.EqAt.bool_int a b t
   |str b=>obtain⟨t,rfl⟩:=rx;exact SeqAt.EqAt.bool_str a b t
   | _=>exact absurd (show false=true from fx) Bool.false_ne_true
 |int a =>
   obtain⟨t',rfl⟩:=ry
   cases x with
   |ao=>cases rx;exact SeqAt.EqAt.int_none a t'
   |bl b=>cases rx;exact SeqAt.EqAt.int_bool a t' b
   |int b=>obtain⟨t,rfl⟩:=rx;exact SeqAt.EqAt.int_int a t' b t
   |str b=>obtain⟨t,rfl⟩:=rx;exact SeqAt.EqAt.int_str a t' b t
   | _=>exact absurd (show false=true from fx) Bool.false_ne_true
 |str a =>
   obtain⟨t',rfl⟩:=ry
   cases x with
   |ao=>cases rx;exact SeqAt.EqAt.str_none a t'
   |bl b=>cases rx;exact SeqAt.EqAt.str_bool a t' b
   |int b=>obtain⟨t,rfl⟩:=rx;exact SeqAt.EqAt.str_int a t' b t
   |str b=>obtain⟨t,rfl⟩:=rx;exact SeqAt.EqAt.str_str a t' b t
   | _=>exact absurd (show false=true from fx) Bool.false_ne_true
 | _=>exact absurd (show false=true from fy) Bool.false_ne_true
def pG(x:V)(u:Value):Bool:=match u with
 | .none=>iq .ao x
 | .bool b=>iq (.bl b) x
 | .int i _=>iq (.int i) x
 | .str z _=>iq (.str z) x
 | _=>false
theorem xj{x y:V}{u:Value}(r:RelV y u)(f:je y=true):pG x u=iq y x:=by
 cases y with
 |ao=>cases r;rfl
 |bl b=>cases r;rfl
 |int i=>obtain⟨t,rfl⟩:=r;rfl
 |str z=>obtain⟨t,rfl⟩:=r;rfl
 | _=>exact absurd (show false=true from f) Bool.false_ne_true
theorem xk{A:Around}{s:Shared}{x:V}{v:Value}(rx:RelV x v)(fx:je x=true):∀ {xs:List V} {us:List Value},Vals xs us->xs.all je=true->∀ u∈us,SeqAt.EqAt A s u v (pG x u)
 | _,_,.nil,_=>fun u hu=>by cases hu
 |y::xs,u::us,.cons r t,f=>fun u' hu=>by
   rw[List.all_cons,Bool.and_eq_true] at f
   rcases List.mem_cons.mp hu with rfl | hu
   · rw[xj r f.1];exact Jl r rx f.1 fx
   · exact xk rx fx t f.2 u' hu
theorem fP:aS X (.builtin "len") (fun xs H Q=>∃ p ys,xs=[.ref p]/\(bQ X.K H p ys\/c8 X.K H p ys)/\Q (.int ys.length) H):=by
 intro pins s σ H xs us Q I r h
 obtain⟨p,ys,rfl,hq,q⟩:=h
 obtain⟨u,rfl,rx⟩:=vals1 r
 cases rx
 have hn:=pE
 rcases hq with hq | hq
 · obtain⟨its,r',pl,hz⟩:=I.list hq
   have hlen:=r'.length
   exact Calls.call_len_list pl.isList (by simp only[List.size_toArray]<;>omega) ⟨.int ys.length,H,I.tok _,⟨s.toks+1,by rw[List.size_toArray,hlen]⟩,q⟩
 · obtain⟨its,r',pl,hz⟩:=I.tuple hq
   have hlen:=r'.length
   exact len_tuple pl (by simp only[List.size_toArray]<;>omega) ⟨.int ys.length,H,I.tok _,⟨s.toks+1,by rw[List.size_toArray,hlen]⟩,q⟩
theorem Jm:aS X (.builtin "len") (fun xs H Q=>∃ z,xs=[.str z]/\z.length<=sizeLine/\Q (.int z.length) H):=by
 intro pins s σ H xs us Q I r h
 obtain⟨z,rfl,hz,q⟩:=h
 obtain⟨u,rfl,t,rfl⟩:=vals1 r
 have hn:=pE
 exact len_str (by omega) ⟨.int z.length,H,I.tok _,⟨_,rfl⟩,q⟩
theorem aS.or{f:Value}{r r':List V->Hp->VK->Prop}(h:aS X f r)(h':aS X f r'):aS X f (fun xs H Q=>r xs H Q\/r' xs H Q):=by
 intro pins s σ H xs us Q I rs q
 rcases q with q | q
 · exact h pins s σ H xs us Q I rs q
 · exact h' pins s σ H xs us Q I rs q
theorem CD:aS X (.type "list") (fun xs H Q=>∃ p ys,xs=[.ref p]/\(bQ X.K H p ys\/c8 X.K H p ys)/\∀ l,H l=none->Q (.ref l) (upd H l (.lst ys))):=by
 intro pins s σ H xs us Q I r h
 obtain⟨p,ys,rfl,hq,q⟩:=h
 obtain⟨u,rfl,rx⟩:=vals1 r
 cases rx
 have fin:∀ (its:List Value),Vals ys its->ys.length<=sizeLine->∀ (h':Heap) (c':Nat),(∀ b o',s.heap.get? b=some o'->h'.get? b=some o') ->
  h'.get? s.heap.objs.size=some { cls:=.type "list",dict:=none,data:=.seq its.toArray c',slots := #[] }->EP X pins σ Q (.ref s.heap.objs.size) { s with heap:=h' }:=fun its r' hz h' c' kp e =>
  ⟨.ref s.heap.objs.size,_,I.laid (t':=s.toks) kp (Nat.le_refl _) (show aD X.prog X.w _ h' _ (.lst ys) from⟨hz,its,c',r',e⟩),rfl,q _ (I.hok.fresh (Nat.le_refl _))⟩
 rcases hq with hq | hq
 · obtain⟨its,r',pl,hz⟩:=I.list hq
   have hlen:=r'.length
   obtain⟨o,ho,hc,n,hd⟩:=pl.isList
   exact call_list_seq p (.inl rfl) ho hc hd (fun h' c' kp e=>fin its r' hz h' c' kp e) (by simp only[List.size_toArray]<;>omega)
 · obtain⟨its,r',pl,hz⟩:=I.tuple hq
   have hlen:=r'.length
   obtain⟨o,ho,hc,n,hd⟩:=pl
   exact call_list_seq p (.inr rfl) ho hc hd (fun h' c' kp e=>fin its r' hz h' c' kp e) (by simp only[List.size_toArray]<;>omega)
theorem CF:aS X (.type "tuple") (fun xs H Q=>∃ p ys,xs=[.ref p]/\((bQ X.K H p ys/\∀ l,H l=none->Q (.ref l) (upd H l (.tup ys)))\/(c8 X.K H p ys/\Q (.ref p) H))):=by
 intro pins s σ H xs us Q I r h
 obtain⟨p,ys,rfl,h⟩:=h
 obtain⟨u,rfl,rx⟩:=vals1 r
 cases rx
 rcases h with ⟨hq,q⟩ | ⟨hq,q⟩
 · obtain⟨its,r',pl,hz⟩:=I.list hq
   have hlen:=r'.length
   refine call_tuple_list pl.isList (fun h' kp=>?_) (by simp only[List.size_toArray]<;>omega)
   have I1:Inv X pins σ H { s with heap:=h' }:=I.kept (t':=s.toks) kp
   have I2:Inv X pins σ (upd H h'.objs.size (.tup ys)) { s with heap:=h'.push { cls:=.type "tuple",data:=.seq its.toArray } } :=
    I1.laid (t':=s.toks) (fun b o e=>Heap.get?_push_of_some _ e) (Nat.le_refl _) (show aD X.prog X.w _ _ _ (.tup ys) from⟨hz,its,r',IsTup.new _ _⟩)
   exact⟨.ref h'.objs.size,_,I2,rfl,q _ (I1.hok.fresh (Nat.le_refl _))⟩
 · obtain⟨its,r',pl,hz⟩:=I.tuple hq
   exact call_tuple_same pl ⟨.ref p,H,I,rfl,q⟩
def uh(K:W.Frag)(T:String)(x:V)(H:Hp):Prop:=match x with
 | .str _=>T = "str"
 | .int _=>T = "int"
 | .ref p=>(T = "list" /\ ∃ xs,bQ K H p xs)\/(T = "tuple" /\ ∃ o,K.lookup p=some o/\o.cls = .type "tuple" /\ o.dict=none) \/
  (T = "dict" /\ ((∃ kvs,H p=some (.dK kvs))\/∃ kvs,H p=some (.dT kvs)))\/(T = "set" /\ ∃ S n,H p=some (.set S n))
 | _=>False
theorem CG{pins:List (Addr×Obj)}{σ:St}{H:Hp}{s:Shared}{T:String}{x:V}{v:Value}(I:Inv X pins σ H s)(r:RelV x v)(ty:uh X.K T x H) :
 s.TypeIs v T/\∀ a,v = .ref a->∃ ob,s.heap.get? a=some ob/\ob.dict=none:=by
 cases x with
 |str z =>
   obtain⟨t,rfl⟩:=r
   cases (show T = "str" from ty)
   exact⟨typeIs_str s z t,fun _ e=>nomatch e⟩
 |int i =>
   obtain⟨t,rfl⟩:=r
   cases (show T = "int" from ty)
   exact⟨typeIs_int s i t,fun _ e=>nomatch e⟩
 |ref p =>
   cases r
   rcases ty with ⟨rfl,xs,hq⟩ | ⟨rfl,o,hk,hc,hd⟩ | ⟨rfl,hk⟩ | ⟨rfl,S,n,hk⟩
   · obtain⟨its,_,pl,_⟩:=I.list hq
     refine⟨pl.isList.typeIs,fun a e=>?_⟩
     cases e
     obtain⟨o,n,e,c,hd,_⟩:=pl
     exact⟨o,e,hd⟩
   · refine⟨⟨o,I.bf p o hk,hc⟩,fun a e=>?_⟩
     cases e
     exact⟨o,I.bf _ o hk,hd⟩
   · have z:∃ o,s.heap.get? p=some o/\o.ExactDict:=by
      rcases hk with ⟨kvs,hk⟩ | ⟨kvs,hk⟩
      · obtain⟨_,_,_,_,o,_,_,e,ex,_⟩:=I.hok p _ hk
        exact⟨o,e,ex⟩
      · obtain⟨_,_,_,_,o,_,_,e,ex,_⟩:=I.hok p _ hk
        exact⟨o,e,ex⟩
     obtain⟨o,e,ex⟩:=z
     refine⟨⟨o,e,ex.1⟩,fun a e2=>?_⟩
     cases e2
     exact⟨o,e,ex.2.1⟩
   · obtain⟨o,_,_,_,e,ex,_⟩:=I.hok p _ hk
     refine⟨⟨o,e,ex.1⟩,fun a e2=>?_⟩
     cases e2
     exact⟨o,e,ex.2.1⟩
 | _=>exact False.elim ty
def CH(K:W.Frag)(T:String)(r:V->List V->Hp->VK->Prop)(to:TE):TE:=fun σ H Q=>to σ H fun x H1=>uh K T x H1/\r x [] H1 Q
def xm(K:W.Frag)(T:String)(r:V->List V->Hp->VK->Prop)(to:TE)(t:TA):TE:=fun σ H Q=>to σ H fun x H1=>uh K T x H1/\t σ H1 fun xs H2=>r x xs H2 Q
variable{o e:Expr}{es:List Expr}{to:TE}{t:TA}{name:Str}{apos cpos:Pos}{T id:String}{r:V->List V->Hp->VK->Prop}
theorem Jn(pa:PlainAttrs T)(slot:Slot T name id)(hty:typeOf (.builtin id)=pure (.type "method_descriptor"))(hm:ug X id r)(ho:PE X o to)
 (hbase:attributeBase o name X.env (eval o X.env)=eval o X.env:=by rfl) (hline:(apos.endLine == cpos.line)=true:=by rfl):PE X (.Call (.Attribute o name apos) [] [] cpos) (CH X.K T r to):=by
 intro pins s σ H Q I h
 refine wpAny_Call_method0_late hbase hline (aL (ho pins s σ H _ I h) fun v s1 ⟨x,H1,I1,r1,ty,q1⟩=>?_)
 obtain⟨h1,h2⟩:=CG I1 r1 ty
 exact⟨T,id,pa,slot,hty,h1,h2,Calls.callWith_builtin rfl (PySem.evalArgs_none (hm pins s1 σ H1 x [] v [] Q I1 r1 .nil q1))⟩
theorem ui(pa:PlainAttrs T)(slot:Slot T name id)(hty:typeOf (.builtin id)=pure (.type "method_descriptor"))(hm:ug X id r)(ho:PE X o to)(ha:PA X (e::es) t)
 (hbase:attributeBase o name X.env (eval o X.env)=eval o X.env:=by rfl)
 (hfew:((backTo cpos (starEach (e::es) X.env)).all (fun x => !x.1) && (backToKw cpos (keywordEach [] X.env)).all (fun x=>x.1.isSome)
  && decide ((e::es).length+([]:List Keyword).length+(if ([]:List Keyword).isEmpty then 0 else 1)<30))=true:=by rfl)
 (hline:(apos.endLine == cpos.line)=true:=by rfl) (hs:starEach (e::es) X.env=(false,eval e X.env)::starEach es X.env:=by rfl) (hplain:(backTo cpos (starEach es X.env)).any (·.1)=false:=by rfl) :
 PE X (.Call (.Attribute o name apos) (e::es) [] cpos) (xm X.K T r to t):=by
 intro pins s σ H Q I h
 refine wpAny_Call_method_late hbase hfew hline rfl (aL (ho pins s σ H _ I h) fun v s1 ⟨x,H1,I1,r1,ty,q1⟩=>?_)
 obtain⟨h1,h2⟩:=CG I1 r1 ty
 refine⟨T,id,pa,slot,hty,h1,h2,?_⟩
 have hA:=ha cpos pins s1 σ H1 _ I1 q1
 rw[hs] at hA ⊢
 refine Calls.callWith_builtin (by show(false || (backTo cpos (starEach es X.env)).any (·.1))=false;rw[hplain]<;>rfl) (Calls.evalArgs_plain ?_)
 exact aL hA fun us s2 ⟨vs,H2,I2,r2,q2⟩=>hm pins s2 σ H2 x vs v us Q I2 r1 r2 q2
end
def CI(X:Cx)(id:String)(r:V->List V->Hp->VK->Prop):Prop :=
 ∀ (pins:List (Addr×Obj)) (s:Shared) (σ:St) (H:Hp) (x:V) (xs:List V) (v:Value) (us:List Value) (Q:VK),Inv X pins σ H s->RelV x v->Vals xs us->r x xs H Q ->
  wpAny (model X.prog X.w) X.A (call (.builtin id) (v::us)) (EP X pins σ Q) X.xe s
theorem Vals.one:∀ {x:V} {us:List Value},Vals [x] us->∃ u,us=[u]/\RelV x u
 | _,_,.cons r .nil=>⟨_,rfl,r⟩
theorem Vals.two:∀ {x y:V} {us:List Value},Vals [x,y] us->∃ u v,us=[u,v]/\RelV x u/\RelV y v
 | _,_,_,.cons r (.cons q .nil)=>⟨_,_,rfl,r,q⟩
theorem Vals.zero:∀ {us:List Value},Vals [] us->us=[]
 | _,.nil=>rfl
theorem Vals.rep{xs:List V}{us:List Value}(h:Vals xs us):∀ k:Nat,Vals (List.replicate k xs).flatten (List.replicate k us).flatten
 | 0=>.nil
 |k+1=>by
   rw[List.replicate_succ,List.replicate_succ,List.flatten_cons,List.flatten_cons]
   exact Vals.append h (Vals.rep h k)
theorem foldl_rep(its:List Value):∀ (k:Nat) (acc:List Value),
 List.foldl (fun x1 x2=>x1++x2) acc.toArray (List.replicate k its.toArray)=(acc++(List.replicate k its).flatten).toArray
 | 0,acc=>by simp
 |k+1,acc=>by
   have e:acc.toArray++its.toArray=(acc++its).toArray:=by simp
   have e2:(acc++its)++(List.replicate k its).flatten=acc++(List.replicate (k+1) its).flatten:=by
    rw[List.replicate_succ,List.flatten_cons,List.append_assoc]
   rw[<- e2, <- foldl_rep its k (acc++its), <- e,List.replicate_succ,List.foldl_cons]
section
variable{X:Cx}{pins:List (Addr×Obj)}{σ:St}{H:Hp}{s:Shared}{l b:Addr}{xs ys zs:List V}
theorem Inv.qP{its its':List Value}{n:Nat}{f:Array Value->Array Value}{t':Nat}(I:Inv X pins σ H s)(hH:H l=some (.lst xs))
 (e:s.heap.get? l=some { cls:=.type "list",data:=.seq its.toArray n }) (hf:f its.toArray=its'.toArray) (hv:Vals ys its') (hz:ys.length<=sizeLine) :
 Inv X pins σ (upd H l (.lst ys)) { s with heap:=s.heap.update l (Obj.mapSeq f),toks:=t' }:=by
 have q:=PySem.IsL.update e f
 rw[hf] at q
 refine I.write (x:=l) (e:=l) (by rw[hH];exact trivial) (.inl rfl) (fun b' u hb hu=>(Heap.get?_update_other s.heap (Obj.mapSeq f) (Ne.symm hb)).trans hu) ⟨_,q⟩ ?_
 exact⟨hz,its',_,hv,q⟩
theorem Inv.qQ{its:List Value}{t':Nat}(I:Inv X pins σ H s)(hv:Vals ys its)(hz:ys.length<=sizeLine) :
 Inv X pins σ (upd H s.heap.objs.size (.lst ys)) { s with heap:=s.heap.push { cls:=.type "list",data:=.seq its.toArray },toks:=t' } :=
 I.laid (fun _ _ q=>Heap.get?_push_of_some _ q) (Nat.le_refl _) ⟨hz,its,0,hv,Heap.get?_push_size _ rfl⟩
theorem Inv.fresh(I:Inv X pins σ H s):H s.heap.objs.size=none:=I.hok.fresh (Nat.le_refl _)
theorem Inv.av(I:Inv X pins σ H s)(hH:H l=some (.lst xs)):xs.length<=sizeLine/\∃ (its:List Value) (n:Nat),Vals xs its/\xs.length=its.length/\s.heap.get? l=some { cls:=.type "list",data:=.seq its.toArray n }:=by
 obtain⟨z,its,n,r,e⟩:=I.hok l _ hH
 exact⟨z,its,n,r,r.length,e⟩
theorem Jo{n:Nat}(h:n<=sizeLine):Builtin.List.listTooLong n=false:=by
 unfold Builtin.List.listTooLong
 exact decide_eq_false (by omega)
end
section
variable{X:Cx}
def CJ:V->List V->Hp->VK->Prop:=fun x vs H Q=>∃ l xs y,x = .ref l/\vs=[y]/\H l=some (.lst xs)/\xs.length<sizeLine/\Q .ao (upd H l (.lst (xs++[y])))
theorem CK:CI X "list.append" CJ:=by
 intro pins s σ H x vs v us Q I rx rv h
 obtain⟨l,xs,y,rfl,rfl,hH,hz,q⟩:=h
 cases rx
 obtain⟨u,rfl,ru⟩:=rv.one
 obtain⟨z,its,n,r,hl,e⟩:=I.av hH
 refine call_meets F.slot_list_append ⟨_,e,rfl⟩ F.entry_list_append (F.args_list_append_2 _ _) (PySem.list_append l its.toArray n u (by rw[List.size_toArray];omega)) ⟨e,?_⟩
 refine⟨.ao,_,I.qP (its':=its++[u]) hH e (by simp) (r.append (.cons ru .nil)) ?_,rfl,q⟩
 rw[List.length_append,List.length_singleton]
 omega
def CL:V->List V->Hp->VK->Prop:=fun x vs H Q=>∃ l xs,x = .ref l/\vs=[]/\H l=some (.lst xs)/\Q .ao (upd H l (.lst []))
theorem Jp:CI X "list.clear" CL:=by
 intro pins s σ H x vs v us Q I rx rv h
 obtain⟨l,xs,rfl,rfl,hH,q⟩:=h
 cases rx
 have hus:=rv.zero
 subst hus
 obtain⟨z,its,n,r,hl,e⟩:=I.av hH
 refine call_meets F.slot_list_clear ⟨_,e,rfl⟩ F.entry_list_clear (F.args_list_clear_1 _) (AutoSeq1.list_clear_list_0 l its.toArray n (by rw[List.size_toArray];omega)) ⟨e,?_⟩
 exact⟨.ao,_,I.qP (its':=[]) (ys:=[]) hH e rfl .nil (Nat.zero_le _),rfl,q⟩
def CM:R2:=fun x y H Q=>∃ l b xs zs,x = .ref l/\y = .ref b/\H l=some (.lst xs)/\H b=some (.lst zs)/\xs.length+zs.length<=sizeLine/\∀ p,H p=none->Q (.ref p) (upd H p (.lst (xs++zs)))
theorem n5:bX X (binaryOp .Add) CM:=by
 intro pins s σ H x y v u Q I rx ry h
 obtain⟨l,b,xs,zs,rfl,rfl,hH,hB,hz,q⟩:=h
 cases rx
 cases ry
 obtain⟨z,its,n,r,hl,e⟩:=I.av hH
 obtain⟨z2,its2,n2,r2,hl2,e2⟩:=I.av hB
 refine PySem.P.add_list e e2 ?_ (by rw[List.size_toArray,List.size_toArray];omega)
 have ea:its.toArray++its2.toArray=(its++its2).toArray:=by simp
 rw[ea]
 exact⟨.ref _,_,I.qQ (t':=s.toks) (r.append r2) (by rw[List.length_append];omega),rfl,q _ I.fresh⟩
def CN:R2:=fun x y H Q=>∃ l k xs,x = .ref l/\y = .int k/\H l=some (.lst xs) /\ -(2 ^ 63)<=k/\k<2 ^ 63/\xs.length * k.toNat<=sizeLine /\
 ∀ p,H p=none->Q (.ref p) (upd H p (.lst (List.replicate k.toNat xs).flatten))
theorem len_rep{α:Type}(xs:List α)(k:Nat):(List.replicate k xs).flatten.length=k * xs.length:=by
 induction k with
 |zero=>simp
 |succ k ih=>rw[List.replicate_succ,List.flatten_cons,List.length_append,ih,Nat.succ_mul,Nat.add_comm]
theorem CO:bX X (binaryOp .Mult) CN:=by
 intro pins s σ H x y v u Q I rx ry h
 obtain⟨l,k,xs,rfl,rfl,hH,h1,h2,hz,q⟩:=h
 cases rx
 obtain⟨t,rfl⟩:=ry
 obtain⟨z,its,n,r,hl,e⟩:=I.av hH
 have hlen:its.toArray.size * k.toNat<=sizeLine:=by rw[List.size_toArray, <- hl];exact hz
 have xn : ¬ its.toArray.size * k.toNat > (2 ^ 63 - 1) / 8:=by
  have:(sizeLine:Nat)<=(2 ^ 63 - 1) / 8:=by decide
  omega
 have hfit : ¬ (!Builtin.List.listFitsIndex k)=true:=by
  rw[fitsIndex_both h1 h2]
  exact Bool.false_ne_true
 have qR : ¬ Builtin.List.listTooLong (its.toArray.size * k.toNat)=true:=by
  rw[Jo hlen]
  exact Bool.false_ne_true
 have hnew:List.foldl (fun x1 x2=>x1++x2) #[] (List.replicate (if its.toArray.isEmpty=true then 0 else k.toNat) its.toArray)=(List.replicate k.toNat its).flatten.toArray:=by
  have f0:∀ m:Nat,List.foldl (fun x1 x2=>x1++x2) #[] (List.replicate m its.toArray)=(List.replicate m its).flatten.toArray:=fun m=>by
   have:=foldl_rep its m []
   rw[List.nil_append] at this
   exact this
  rw[f0]
  cases its with
  |nil=>simp
  |cons a r'=>rw[if_neg (by simp)]
 refine wpAny_binaryOp_repeat_ref (T := "list") (U := "int") (by decide) ⟨_,e,rfl⟩ (fun s'=>typeIs_int s' k t) noFill_list_mul F.fills_int_mul F.slot_int_rmul repeat_list F.slot_int_index.lookup
  (call_meets F.slot_int_rmul (typeIs_int s k t) F.entry_int_rmul (F.args_int_rmul_2 _ _) (int___rmul___int_list k t l its.toArray n)
   ⟨e,rfl,⟨_,e,rfl⟩,call_meets F.slot_list_mul ⟨_,e,rfl⟩ F.entry_list_mul (F.args_list_mul_2 _ _) (AutoListH.list___mul___list_int_3 l its.toArray n k t hfit xn qR) ⟨e,?_⟩⟩)
 rw[hnew]
 exact⟨.ref _,_,I.qQ (t':=s.toks) (r.rep k.toNat) (by rw[len_rep,Nat.mul_comm];exact hz),rfl,q _ I.fresh⟩
end
end L2
namespace CP
open PySem PySem.W PySem.Calls PyProof.Rows
theorem Jq{P:Params}{h:Heap}:∀ (ns:List Int) (vs:List Value),WellAll P h vs (ns.map WData.int)->IntsAre vs ns:=by
 intro ns
 induction ns with
 |nil =>
   intro vs w
   rw[List.map_nil] at w
   cases w
   exact .nil
 |cons n ns ih =>
   intro vs w
   rw[List.map_cons] at w
   cases w with
   |cons a b =>
     cases a
     exact .cons _ _ (ih _ b)
theorem Jr{l:OpenLaw}{n:Nat}(hn:l.most=some n){P:Params}{h:Heap}{args:List WData}{vals:List Value}
 (hpre:l.row.toRowW.claim.pre args=true) (hwl:WellAll P h vals args) :
 ∃ a vs ns,vals=[Value.ref a]/\args=[WData.list (ns.map WData.int)]/\h.get? a=some { cls:=.type "list",data:=.seq vs.toArray }/\IntsAre vs ns/\ns.length<=n:=by
 have hsh:WShape.hasAll [] args [.list .int]=true:=(pre_splitW hpre).1
 have hc:l.pre.holds [] { args:=args }=true:=(pre_splitW hpre).2
 obtain⟨d,r,rfl,h1,h2⟩:=hasAllW_cons hsh
 obtain rfl:=hasAllW_nil h2
 obtain⟨xs,rfl,h3⟩:=hasW_list h1
 obtain⟨ns,rfl⟩:=items_int h3
 have hlen:ns.length<=n:=by
  unfold OpenLaw.pre at hc
  have h4:(WTm.not (.lt (.lit (.int (n:Int))) (.len (.arg 0)))).holds [] { args:=[.list (ns.map .int)] }=true:=by
   have h4:=(holds_andW hc).1
   rw[hn] at h4
   exact h4
  have h5:=condW_of h4 (w_not (w_lt w_lit (w_len_list (w_arg rfl))))
  rw[List.length_map] at h5
  refine Nat.le_of_not_lt fun q=>?_
  have q':(n:Int)<((ns.length:Nat):Int):=by omega
  first
   | (rw[decide_eq_true q'] at h5;exact absurd h5 (by decide))
   | (simp at h5;omega)
 cases hwl with
 |cons w1 w2 =>
   cases w2
   cases w1 with
   |list ho hall=>exact⟨_,_,ns,rfl,rfl,ho,Jq ns _ hall,hlen⟩
theorem Js(l:OpenLaw)(args:List WData):l.row.toRowW.claim.post args (.bool true) args=true :=
 postW_of (r:=l.row.toRowW) (X:=(true == true))
  (show WShape.has [] (.bool true) .bool=true by first | rfl | decide | simp[WShape.has,WShape.arms,WShape.armsAll])
  (show(WTm.eq .res (.lit (.bool true))).value [] { args:=args,res:=some (.bool true),after:=args }=some (.bool (true == true)) from w_eq_bool (w_res rfl) w_lit) rfl
theorem gu{l:OpenLaw}{n:Nat}{q:Program}{loose:List Str}{XP:(Str->Option Value)->Heap->Prop}{YP:World->Heap->Prop}{d:DefRec}
 (hn:l.most=some n) (hdf:d.params.defaults=[])
 (call:∀ (w:World) (s₀ aE:Shared) (mg mb:Str->Option Value) (fa:Addr) (o:Obj) (pm cd doc:Value) (a:Addr) (vs:List Value) (ns:List Int),
  Ground q loose [] XP w s₀ mg mb aE.heap->YP w aE.heap ->
  aE.heap.get? fa=some o->o.data = .func (docDef d.name d.params d.body d.scope pm cd doc)->aE.heap.CodeRec cd d.name->mg d.name=some (.ref fa) ->
  aE.heap.get? a=some { cls:=.type "list",data:=.seq vs.toArray }->IntsAre vs ns->ns.length<=n->aE.gens = #[] ->
  codeAny (model l.prog w) callerA (.call (.ref fa) ⟨[.ref a],[]⟩) (fun r s'=>r = .ok (.ret (.bool true))/\OldK aE.heap s'.heap/\s'.os=aE.os/\AllBare s'.gens) aE) :
 WalkO q loose XP YP l.row.toRowW d [] (fun f vs=>PySem.call f vs):=by
 intro w s₀ aE mg mb G Y fa o pm cd doc dV kV ho hd hcd hD hmg hg args vals as hpre hlay hrd hwl hlo
 obtain rfl:dV = .none:=Dflts.none hD hdf
 obtain rfl:kV = .none:=Dflts.noKw hD
 obtain⟨a,vs,ns,rfl,rfl,hobj,hints,hlen⟩:=Jr hn hpre hwl
 refine enter_call (codeAny_mono (call w s₀ aE mg mb fa o pm cd doc a vs ns G Y ho (fd_plain hd) hcd hmg hobj hints hlen hg) fun r s' hq=>?_)
 obtain⟨rfl,h2,h3,h4⟩:=hq
 exact⟨.inl ⟨.bool true,.bool true,[],rfl,fun _=>rfl,.bool true,Js l _,fun _=>⟨List.Pairwise.nil,fun _ hm=>(nomatch hm)⟩⟩,h2,h3,h4⟩
end CP
namespace L2
open PySem PySem.Spec PyProof.Rows
theorem CQ:∀ {vs:List Value} {ns:List Int},IntsAre vs ns->Vals (ns.map V.int) vs
 | _,_,.nil=>.nil
 | _,_,.cons n t h=>.cons ⟨t,rfl⟩ (CQ h)
def xo(H:Hp):Prop:=∀ b,H b=none\/∃ o xs,H b=some (.ak o (.lst xs))
theorem Jt{P:Program}{w:World}{K:W.Frag}{mg mb:Str->Option Value}{CX:jc}{k:Nat}{fa a:Addr}{fd:FuncData}{x:Str}{sp:Sp}{aE:Shared}{vs:List Value}{ns:List Int}
 (KX:K.In aE.heap) (hns:aE.heap.Ns mainGlobals mg) (hb:aE.heap.Ns builtinsNs mb) (Ju:∀ x:Str,x ≠ "__name__" -> mb x=bootBuiltins x) (hlim:aE.heap.NoLimit) (hg:aE.gens = #[])
 (ha:aE.heap.get? a=some { cls:=.type "list",data:=.seq vs.toArray }) (hi:IntsAre vs ns) (hl:ns.length<=sizeLine) (hr:ax k callerA)
 (F:∀ base:Heap,K.In base->base.Ns mainGlobals mg->a8 P w K mg base CX k fa fd [x] sp) (hbind:∀ (s:Shared) (u:Value),BindsTo s fd ⟨[u],[]⟩ [(x,u)])
 (hsp:∀ H:Hp,xo H->bQ K H a (ns.map V.int)->sp [.ref a] H (fun v _=>v = .bl true) fun _ _ _=>False)
 (xp:∀ H e s',CX [] H aE (fun _ _ _=>False) e s'->False) :
 codeAny (model P w) callerA (.call (.ref fa) ⟨[.ref a],[]⟩) (fun r s'=>r = .ok (.ret (.bool true))/\OldK aE.heap s'.heap/\s'.os=aE.os/\AllBare s'.gens) aE:=by
 have rv:=CQ hi
 have lenV:=hi.length
 have core:∀ H:Hp,xo H->bQ K H a (ns.map V.int)->b6 P w H aE.heap->(∀ b,H b≠none->b=a)->(H a≠none->K.lookup a=none) ->
  codeAny (model P w) callerA (.call (.ref fa) ⟨[.ref a],[]⟩) (fun r s'=>r = .ok (.ret (.bool true))/\OldK aE.heap s'.heap/\s'.os=aE.os/\AllBare s'.gens) aE:=by
  intro H hO hS hok hA hK
  have iV:∀ {b:Addr} {o:Obj},aE.heap.get? b=some o->H b=none->(lL aE.heap H).get? b=some o:=fun e n=>HA e n
  have qO:∀ {b:Addr} {o:Obj} {es:Array DictEntry} {ep:Nat},aE.heap.get? b=some o->o.data = .dict es ep->H b=none:=fun {b o es ep} e d=>by
   cases q:H b with
   |none=>rfl
   |some u =>
     have e':b=a:=hA b (by rw[q];simp)
     subst e'
     rw[ha] at e;cases e
     have d':Data.seq vs.toArray _=Data.dict es ep:=d
     cases d'
  have uj:∀ {b:Addr} {m:Str->Option Value},aE.heap.Ns b m->(lL aE.heap H).Ns b m:=fun {b m} ⟨o,es,ep,e,d,r⟩=>⟨o,es,ep,iV e (qO e d),d,r⟩
  have CS:K.In (lL aE.heap H):=fun b o e=>iV (KX b o e) (by
   cases q:H b with
   |none=>rfl
   |some u =>
     have e':b=a:=hA b (by rw[q];simp)
     subst e'
     rw[hK (by rw[q];simp)] at e;cases e)
  have hM:Mod K mg (lL aE.heap H):=⟨CS,uj hns,⟨mb,uj hb,Ju⟩,let ⟨mc,h1,h2⟩:=hlim; ⟨mc,uj h1,h2⟩⟩
  have e0:ip P w K mg (lL aE.heap H) callerA [] aE H:=⟨rfl,hM,fun b o e=>HB e,Nat.le_of_eq (Hz _ _),trivial,fun b hb=>absurd (show b∈([]:List Addr) from hb) (by simp),hok,.of_eq hg⟩
  refine codeAny_mono ((F _ CS (uj hns)).run callerA [] aE H ⟨[.ref a],[]⟩ [.ref a] [.ref a] _ _ hr e0 (hbind aE (.ref a)) (.cons rfl .nil) (hsp H hO hS)) fun r s' h=>?_
  cases r with
  |error e=>exact(xp H e s' h).elim
  |ok fl =>
    cases fl with
    |next=>exact False.elim h
    |brk=>exact False.elim h
    |cont=>exact False.elim h
    |ret u =>
      obtain⟨v,H',os,bare,un,hok',r',q⟩:=h
      have q':v = .bl true:=q
      subst q'
      obtain rfl:u=Value.bool true:=r'
      refine⟨rfl,OldK.of_keep fun b o e=>?_,os,bare⟩
      cases q:H b with
      |none=>exact un.keep b o e q (by intro z;exact absurd (show b∈([]:List Addr) from z) (by simp)) (by simp)
      |some u =>
        rcases hO b with z | ⟨ob,xs,z⟩
        · rw[q] at z;cases z
        · have z2:=un.dM b ob _ z
          obtain⟨e1,_⟩:=hok b _ z
          obtain⟨e2,_⟩:=hok' b _ z2
          rw[e] at e1;cases e1
          exact e2
 cases hk:K.lookup a with
 |some o =>
   have e:=KX a o hk
   rw[ha] at e
   cases e
   refine core (fun _=>none) (fun _=>.inl rfl) (.inr ⟨_,vs.toArray,_,hk,rfl,rfl,rfl,by rw[List.size_toArray,lenV];exact hl,by simpa using rv⟩) (fun b u z=>by have z':(none:Option HO)=some u:=z;cases z') (fun b z=>absurd rfl z) fun z=>absurd rfl z
 |none =>
   refine core (fun b=>if b=a then some (.ak { cls:=.type "list",data:=.seq vs.toArray } (.lst (ns.map V.int))) else none) (fun b=>?_) (.inl (.inr ⟨{ cls:=.type "list",data:=.seq vs.toArray },if_pos rfl⟩)) (fun b u z=>?_) (fun b z=>?_) fun _=>hk
   · by_cases hb:b=a
     · exact .inr ⟨_,_,if_pos hb⟩
     · exact .inl (if_neg hb)
   · by_cases hb:b=a
     · have z':=(if_pos hb).symm.trans z
       cases z'
       subst hb
       exact⟨ha,by rw[List.length_map];exact hl,vs,_,rv,ha⟩
     · have z':=(if_neg hb).symm.trans z
       cases z'
   · by_cases hb:b=a
     · exact hb
     · exact absurd (if_neg hb) z
theorem lQ{l:W.OpenLaw}{n k:Nat}{q:Program}{loose:List Str}{XP:(Str->Option Value)->Heap->Prop}{YP:World->Heap->Prop}{d:DefRec}{K:Params->W.Frag}{CX:World->jc}{sp:World->Sp}{x:Str}
 (hn:l.most=some n) (hn2:n<=sizeLine) (hdf:d.params.defaults=[]) (hr:ax k callerA)
 (hY:∀ (w:World) (h:Heap),YP w h->(K w.params).In h)
 (F:∀ (w:World) (mg:Str->Option Value) (fa:Addr) (h:Heap),(K w.params).In h->h.Ns mainGlobals mg->mg d.name=some (.ref fa) ->
  ∃ fd:FuncData,(∀ (s:Shared) (u:Value),BindsTo s fd ⟨[u],[]⟩ [(x,u)]) /\
   ∀ base:Heap,(K w.params).In base->base.Ns mainGlobals mg->a8 l.prog w (K w.params) mg base (CX w) k fa fd [x] (sp w))
 (hsp:∀ (w:World) (H:Hp) (a:Addr) (ns:List Int),ns.length<=n->xo H->bQ (K w.params) H a (ns.map V.int)->sp w [.ref a] H (fun v _=>v = .bl true) fun _ _ _=>False)
 (xp:∀ (w:World) (H:Hp) (s:Shared) (e:Value) (s':Shared),CX w [] H s (fun _ _ _=>False) e s'->False) :
 W.WalkO q loose XP YP l.row.toRowW d [] (fun f vs=>PySem.call f vs):=by
 refine CP.gu hn hdf fun w s₀ aE mg mb fa o pm cd doc a vs ns G Y ho hd hcd hmg hobj hints hlen hg=>?_
 have KX:=hY w _ Y
 obtain⟨fd,hb,hF⟩:=F w mg fa _ KX G.T.g hmg
 exact Jt KX G.T.g G.T.b G.T.builtins G.T.nolimit hg hobj hints (Nat.le_trans hlen hn2) hr hF hb (fun H hO hS=>hsp w H a ns hlen hO hS) fun H e s'=>xp w H aE e s'
def inClass(s:Stmt)(j:Nat):Stmt:=match s with
 | .ClassDef _ _ _ body _ _ _ _ _ _ _=>body.getD j (.Pass ⟨0,0,0,0⟩)
 | _=>.Pass ⟨0,0,0,0⟩
def aW(s:Stmt):Arguments:=match s with
 | .FunctionDef _ a _ _ _ _ _ _ _ _=>a
 | _=>{ posonlyargs:=[],args:=[],vararg:=none,kwonlyargs:=[],kw_defaults:=[],kwarg:=none,defaults:=[] }
def ag(s:Stmt):List Stmt:=match s with
 | .FunctionDef _ _ b _ _ _ _ _ _ _=>b
 | _=>[]
def aa(s:Stmt):Scope:=match s with
 | .FunctionDef _ _ _ _ _ _ sc _ _ _=>sc
 | _=>{ kind:=.function,names:=[],isGenerator:=false,isCoroutine:=false }
abbrev eP:jc:=fun _ _ _ _ _ _=>False
abbrev E0:XK:=fun _ _ _=>False
theorem xq{X:Cx}:uf eP X E0:=fun _ _ _ _ _ _ _ h=>h.elim
structure jf(K:W.Frag)(x qual:Str)(st:Stmt)(f:Addr)(fd:FuncData):Prop where
 ex:∃ (oc:Value) (od:Option Addr) (kV doc pm:Value) (an:Option Addr) (cdv ct:Value) (osl:Array (Option Value)),
  fd=W.fnOf x qual (aW st) (ag st) (aa st) .none kV doc pm an cdv ct/\K.lookup f=some ⟨oc,od,.func fd,osl⟩/\W.codeIn K cdv qual=true
 kp:W.keepIn K (.ref f)=true
section
variable{P:Program}{w:World}{K:W.Frag}{mg:Str->Option Value}{base:Heap}
theorem jf.ok{x qual:Str}{st:Stmt}{f:Addr}{fd:FuncData}{N ps:List Str}{k:Nat}{sp:Sp}(F:jf K x qual st f fd)(S:aq N ps (aa st))(len:∀ vs H Q E,sp vs H Q E->vs.length=ps.length)
 (hbody:∀ (cdv:Value) (A:Around) (outer:List Env) (s:Shared) (H:Hp) (vs:List V) (Q:VK) (E:XK),ax k (A.deeper (envOfC qual (aa st) s.heap.objs.size f cdv))->sp vs H Q E ->
  ∃ t,PSs (gn eP P w K mg base N qual (aa st) f cdv A outer s H E).jU (ag st) t/\t { nx:=fun _ H'=>Q .ao H',rt:=Q } (start N vs) H):a8 P w K mg base eP (k+1) f fd ps sp:=by
 obtain⟨oc,od,kV,doc,pm,an,cdv,ct,osl,rfl,lk,hcd⟩:=F.ex
 refine xh lk hcd S len fun A outer s H vs Q E hr hsp=>?_
 obtain⟨t,h,q⟩:=hbody cdv A outer s H vs Q E hr hsp
 exact⟨t,h.jU,q⟩
theorem jf.binds{x qual:Str}{st:Stmt}{f:Addr}{fd:FuncData}{ps:List Str}(F:jf K x qual st f fd)
 (h:∀ (kV doc pm:Value) (an:Option Addr) (cdv ct:Value) (us:List Value),us.length=ps.length->bindArgs (W.fnOf x qual (aW st) (ag st) (aa st) .none kV doc pm an cdv ct) ⟨us,[]⟩=pure (ps.zip us)):Binds K fd ps []:=by
 obtain⟨oc,od,kV,doc,pm,an,cdv,ct,osl,rfl,lk,hcd⟩:=F.ex
 exact .all (h kV doc pm an cdv ct)
theorem n6{x qual:Str}{st:Stmt}{f:Addr}{oc:Value}{od an:Option Addr}{osl:Array (Option Value)}{kV doc pm cdv ct:Value}(l:K.lookup f=some ⟨oc,od,.func (W.fnOf x qual (aW st) (ag st) (aa st) .none kV doc pm an cdv ct),osl⟩)
 (c:W.codeIn K cdv qual=true) (k:W.keepIn K (.ref f)=true):jf K x qual st f (W.fnOf x qual (aW st) (ag st) (aa st) .none kV doc pm an cdv ct):=⟨⟨oc,od,kV,doc,pm,an,cdv,ct,osl,rfl,l,c⟩,k⟩
end
section
variable{X:Cx}
theorem pv(i:Nat){x:Str}{pos:Pos}(hN:X.N[i]? = some x:=by rfl)(hv:t8 X.env.scope x:=by first | exact Or.inl rfl | exact Or.inr (Or.inl rfl) | exact Or.inr (Or.inr rfl))(hd:(x == ("__debug__" : Str))=false:=by decide)
 (hcd:(x == ("__classdict__" : Str))=false:=by decide):PE X (.Name x pos) (nc i):=HD hN hv hd hcd
end
theorem qS{A B:Prop}(h:B):if false=true then A else B:=by
 rw[if_neg Bool.false_ne_true]
 exact h
theorem qT{A B:Prop}(h:A):if true=true then A else B:=by
 rw[if_pos rfl]
 exact h
def ae(H H':Hp):Prop:=∀ b o,H b=some o->H' b=some o
theorem ae.refl(H:Hp):ae H H:=fun _ _ h=>h
theorem ae.trans{H H1 H2:Hp}(a:ae H H1)(b:ae H1 H2):ae H H2:=fun c o h=>b c o (a c o h)
theorem ae.free{H H':Hp}(e:ae H H'){l:Addr}(h:H' l=Option.none):H l=Option.none:=by
 cases q:H l with
 |none=>rfl
 |some o =>
   rw[e l o q] at h
   cases h
theorem ae.seq{K:W.Frag}{H H':Hp}{a:Addr}{xs:List V}(e:ae H H')(h:bQ K H a xs):bQ K H' a xs:=by
 rcases h with (h | ⟨o,h⟩) | h
 · exact .inl (.inl (e _ _ h))
 · exact .inl (.inr ⟨o,e _ _ h⟩)
 · exact .inr h
end L2
namespace Ex
open PySem PySem.Spec PyProof.Rows PySem.W
structure XB(B ini:String)(up:List Value):Prop where
 mroIs:mroOf (.type B)=pure up
 hasB:up.contains (.type B)=true
 noAttr:up.contains (.type "AttributeError")=false
 noName:up.contains (.type "NameError")=false
 slot:Slot B "__init__" ini
 entry:entryFor table ini=some Builtin.«BaseException.__init__»
 split:splitId ini=some (B,"__init__")
 kind:builtinKind ini=some .slot
 row:Manifest.signature? ini=some ⟨.positional,"*",B,.self,[⟨"args",.varPos,false⟩]⟩
 star:(B != "*")=true
theorem XB.of{B nw ini:String}{up:List Value}(f:ExcBaseFacts B nw ini up):XB B ini up:=⟨f.mroIs,f.hasB,f.noAttr,f.noName,f.init,f.initEntry,f.initSplit,f.initKind,f.initRow,f.noStar⟩
def pH(h:Heap)(C:Addr)(as:List Value):Heap :=
 (h.push { cls:=.type "tuple",data:=.seq as.toArray }).push { cls:=.ref C,data:=.fields #[.ref h.objs.size,.none,.none,.none,.bool false,.none] }
theorem uk{h:Heap}{C:Addr}{as:List Value}:∀ b o,h.get? b=some o->(pH h C as).get? b=some o:=fun b o e=>Heap.get?_push_of_some _ (Heap.get?_push_of_some _ e)
theorem CT{h:Heap}{C:Addr}{as:List Value}:(pH h C as).get? (h.objs.size+1)=some { cls:=.ref C,data:=.fields #[.ref h.objs.size,.none,.none,.none,.bool false,.none] } :=
 Heap.get?_push_at (by rw[Heap.size_push]) rfl
section
variable{prog:Program}{w:World}{A:Around}{E:Value->Shared->Prop}{h:Heap}{g:Array GenState}{d:Drawn}{t:Nat}{os:OsState}{nm qn:Str}{C N:Addr}{bs tl up un:List Value}{hd:Bool}{sn:List Str}{sub:List Value}{ab:Bool}{col:Option Bool}
 {dd:Option Addr} {j0 j1 j2 j3 j5:Option Value} {B D nw ini lR:String} {K:Frag} {fI:Addr} {as:List Value}
theorem Jv{R:Result->Shared->Prop}(fn:ExcBaseFacts D nw lR un)(hD:up.contains (.type D)=true)(F:XB B ini up)(T:OwnTail h up tl)(hC:h.get? C=some (excClassObj nm qn C N bs tl hd sn sub ab col dd j0 j1 j2 j3 j5 nw))
 (hl:as.length<=sizeLine) (q:R (.ok (.ret (.ref (h.objs.size+1)))) ⟨pH h C as,g,d,t,os⟩):codeAny (model prog w) A (.builtin nw ⟨.ref C::as,[]⟩) R ⟨h,g,d,t,os⟩:=by
 have isIn:∀ {n:String} {b:Bool},up.contains (.type n)=b->(Value.ref C::tl).contains (.type n)=b:=fun {n b} e=>by rw[List.contains_cons,T.hasType e];exact Bool.false_or _
 have c1:=isIn hD;have c2:=isIn F.noAttr;have c3:=isIn F.noName;have ends:=fn.ends
 apply codeAny_builtinAt fn.entry
 delta Builtin.«BaseException.__new__»
 apply PySem.wpAt_bind
 change PySem.wpAt _ _ _ (stack >>= _) _ _ _
 apply PySem.wpAt_bind;apply PySem.wpAt_stack;intro p below;apply PySem.wpAt_of_wpAny
 wp_walk
 apply PySem.wpAt_of_wpAny
 rw[fn.owner]
 repeat (first
  | (with_reducible apply wpAny_madeHere_exc fn.canon hC)
  | (with_reducible apply wpAny_loadPart_at hC)
  | (with_reducible apply wpAny_isSubtype_exc hC;first | rw[c1] | rw[c2] | rw[c3])
  |wp_step)
 change R _ _
 rw[Heap.size_push]
 exact q
theorem Jw{Q:Value->Shared->Prop}{iv:Value}(fn:ExcBaseFacts D nw lR un)(hD:up.contains (.type D)=true)(F:XB B ini up)(T:OwnTail h up tl)(X:K.In h)(hC:h.get? C=some (excClassObj nm qn C N bs tl hd sn sub ab col dd j0 j1 j2 j3 j5 nw))
 (at_:findIn K (.ref C) "__init__" = some (some iv)) (bd:Looks (model prog w) (pH h C as) (bindSpecial iv (.ref (h.objs.size+1))) (iv,[.ref (h.objs.size+1)])) (hl:as.length<=sizeLine)
 (q:wpAny (model prog w) (A.under (.builtin "type.__call__" ⟨.ref C::as,[]⟩)) (call iv (.ref (h.objs.size+1)::as)) (fun r s'=>r = .none/\Q (.ref (h.objs.size+1)) s') E ⟨pH h C as,g,d,t,os⟩) :
 wpAny (model prog w) A (call (.ref C) as) Q E ⟨h,g,d,t,os⟩:=by
 have look:=tc_lookup;have bnd:=tc_bind (.ref C)
 have tyC:(⟨h,g,d,t,os⟩:Shared).TypeIs (.ref C) "type" := ⟨_,hC,rfl⟩
 have X':K.In (pH h C as):=X.keeps uk
 have hC':=uk (as:=as) (C:=C) _ _ hC
 have self:(Value.ref C::tl).contains (.ref C)=true:=by rw[List.contains_cons,beq_self_eq_true];exact Bool.true_or _
 apply wpAny_call;apply codeAny_of_tree
 change wpAny _ _ (callAny (.ref C) _) _ _ _
 repeat (any_goals (first | assumption | (with_reducible apply wpAny_loadPart_at hC) | wp_step))
 constructor
 · rfl
 apply codeAny_call_builtin_at (Code.quiet_builtin _ (by decide +kernel)) entry_typeCall
 apply wpAny_check_type_call_sub hC
 repeat (first | (with_reducible apply wpAny_loadPart_at hC) | (with_reducible apply wpAny_madeBy_exc hC) | wp_step)
 apply codeAny_call_builtin_code (Code.quiet_builtin _ fn.quiet)
 apply wpAny_check_new_subU fn hD T hC
 apply Jv fn hD F T hC hl
 change wpAny _ _ _ _ _ _
 delta isInstance
 repeat (first | (with_reducible apply wpAny_loadPart_at CT) | (with_reducible apply wpAny_isSubtype_exc hC';rw[self]) | wp_step)
 change wpAny _ _ (typeLookup (.ref C) _) _ _ _
 apply (looks_findIn X' at_).here (s:=⟨_,g,d,t,os⟩)
 apply wpAny_holding;apply wpAny_bind
 apply bd.here (s:=⟨_,g,d,t,os⟩)
 apply wpAny_bind
 apply wpAny_mono q
 · rintro r s' ⟨rfl,k⟩
   wp_walk
   exact k
 · exact fun _ _ z=>z
end
end Ex
namespace Ex
open PySem PySem.Spec PyProof.Rows PySem.W PySem.Calls Builtin Builtin.ObjectAttr
structure XC(K:Frag)(C:Addr):Prop where
 ga:findIn K (.ref C) "__getattribute__" = some (some (.builtin "BaseException.__getattribute__"))
 gt:findIn K (.ref C) "__getattr__" = some none
 sa:findIn K (.ref C) "__setattr__" = some (some (.builtin "object.__setattr__"))
 be:mroIn K C (.type "BaseException")=some true
 ob:mroIn K C (.type "object")=some true
 pass:∃ cd,clsIn K C=some cd/\cd.hasDict=true/\∀ self,refuseLoop self "__setattr__" cd.mro=pure ()
 ca:findIn K (.ref C) "__class__" = some (some (.builtin "object.__class__"))
 cg:specialIn K (.builtin "object.__class__") "__get__" = some (some (.builtin "getset_descriptor.__get__"))
 ct:takesIn K (.builtin "object.__class__")=some true
 kc:kitCls K (.ref C) (.ref C)=some true
section
variable{prog:Program}{w:World}{A:Around}{E:Value->Shared->Prop}{s:Shared}{K:Frag}{x C:Addr}{ox:Obj}{od:Option Obj}{n:Str}{ex fl:Bool}{tk:Tok}
theorem CU{Q:Value->Shared->Prop}(X:K.In s.heap)(I:InstAt s.heap x ox C od)(c:XC K C)
 (k:wpAny (model prog w) A.in1 (Builtin.«object.__getattribute__» ⟨[.ref x,.str n tk],[]⟩) (fun r s'=>∃ v,r = .done (.ret v)/\wpAny (model prog w) A (handedOut v) Q E s') (fun _ _=>False) s) :
 wpAny (model prog w) A (getAttrBy (.ref x) (.str n tk) fl ex) Q E s:=by
 have noObj:(Value.builtin "BaseException.__getattribute__" == Value.builtin "object.__getattribute__")=false:=by decide +kernel
 have SL:=PySem.F.attr_ValueError.ga
 have hook:Looks (model prog w) s.heap (hookBefore (.ref C)) none:=looks_hook X (mc:=.ref C) (show findIn K (.ref C) "__getattr__" = some none from c.gt)
 apply wpAny_holding;apply wpAny_bind;apply I.type.here;apply wpAny_bind;apply (looks_findIn X c.ga).here
 dsimp only
 rw[noObj,Bool.and_false,if_neg Bool.false_ne_true]
 apply wpAny_bind;apply hook.here;apply wpAny_bind;apply wpAny_attempt;apply wpAny_holding
 unfold callGetattribute
 rw[show(ex && onTheHeap (Value.builtin "BaseException.__getattribute__"))=false from Bool.and_false ex,if_neg Bool.false_ne_true]
 unfold boundAndCalled
 rw[SL.bind]
 apply wpAny_bind;apply wpAny_pure
 change wpAny _ _ (call (.builtin "BaseException.__getattribute__") [.ref x,.str n tk]) _ _ _
 apply wpAny_call;apply codeAny_call_builtin SL.plain PySem.F.entry_bexc_ga
 apply @check_slot (model prog w) A.in1 _ s "BaseException.__getattribute__" "BaseException" "__getattribute__" (.ref x) [.str n tk] []
 · decide +kernel
 · decide +kernel
 · exact I.type.andThen (looks_mroIn X c.be)
 · exact PySem.F.args_bexc_ga _ _
 · exact wpAny_mono k (fun r s' ⟨v,e,z⟩=>by subst e;exact z) fun _ _ z=>z.elim
theorem Jx{v:Value}{Q:Value->Shared->Prop}(X:K.In s.heap)(I:InstAt s.heap x ox C od)(c:XC K C)(hf:findObj K C od n=some (.value v))(hh:handedIn v=true)(q:Q v { s with toks:=s.toks+1 }) :
 wpAny (model prog w) A (getAttr (.ref x) n ex) Q E s:=by
 apply wpAny_bind;apply wpAny_mkText
 apply CU (s:={ s with toks:=s.toks+1 }) X I c
 delta Builtin.«object.__getattribute__»
 apply wpAny_bind;apply wpAny_pure;apply wpAny_bind;apply wpAny_pure
 apply wpAny_bind;apply I.type.here (s:={ s with toks:=s.toks+1 })
 apply wpAny_bind;apply (looks_find X I hf).here (s:={ s with toks:=s.toks+1 })
 exact wpAny_pure ⟨v,rfl,by rw[handedOut_of hh];exact wpAny_pure q⟩
theorem Jy{Q:Option Value->Shared->Prop}(X:K.In s.heap)(I:InstAt s.heap x ox C od)(c:XC K C)(q:Q (some (.ref C)) { s with toks:=s.toks+1 }):wpAny (model prog w) A (getAttr? (.ref x) "__class__") Q E s:=by
 obtain⟨cd,hc,_,_⟩:=c.pass
 have Jz:findObj K C od "__class__" = some (.bind (.builtin "getset_descriptor.__get__") (.builtin "object.__class__")):=by
  unfold findObj
  rw[hc,Option.bind_some,c.ca,Option.bind_some];dsimp only
  rw[c.cg,Option.bind_some];dsimp only
  rw[c.ct,Option.bind_some]
 apply wpAny_bind;apply wpAny_mkText;apply wpAny_bind;apply wpAny_attempt
 apply CU (s:={ s with toks:=s.toks+1 }) X I c
 delta Builtin.«object.__getattribute__»
 apply wpAny_bind;apply wpAny_pure;apply wpAny_bind;apply wpAny_pure
 apply wpAny_bind;apply I.type.here (s:={ s with toks:=s.toks+1 })
 apply wpAny_bind;apply (looks_find X I Jz).here (s:={ s with toks:=s.toks+1 })
 change wpAny _ _ (holding [_] (call (.builtin "getset_descriptor.__get__") [.builtin "object.__class__",.ref x,.ref C]) >>= ret) _ _ _
 apply wpAny_bind;apply wpAny_holding;apply wpAny_call
 exact class_get (s:={ s with toks:=s.toks+1 }) (ox:=ox) (od:=od) X I c.ob (wpAny_pure ⟨_,rfl,handed_on rfl (wpAny_pure q)⟩)
end
theorem JA{K:Frag}{x C:Addr}(c:XC K C):KitX K (.ref x) (.ref C) (fun h=>∃ ox od,InstAt h x ox C od) where
 ty:=fun _ _ _ ⟨_,_,I⟩=>I.type
 it:=fun _ _ X _=>(kit_cls X c.kc).2.1
 ne:=fun h tp _ _ _ _ X e=>by
  obtain⟨cd,hc,_⟩:=c.pass
  cases z:(Value.ref C == Value.ref tp) with
  |false=>rfl
  |true =>
    cases beq_iff_eq.mp z
    unfold clsIn at hc
    split at hc
    · rename_i a
      cases (X _ _ a).symm.trans e
    · cases hc
 ca:=fun X ⟨_,_,I⟩ k=>Jy X I c k
section
variable{prog:Program}{w:World}{A:Around}{E:Value->Shared->Prop}{s:Shared}{K:Frag}{x C:Addr}{ox:Obj}{od:Option Obj}{n:Str}{v:Value}
theorem CV{Q:Unit->Shared->Prop}(X:K.In s.heap)(I:InstAt s.heap x ox C od)(c:XC K C)(none_:findIn K (.ref C) n=some none)
 (k:wpAny (model prog w) A.in1 (storeInOwnDict (.ref x) (.ref C) (.str n s.toks) n v false) (fun r s'=>∃ u,r = .done (.ret u)/\Q () s') E { s with toks:=s.toks+1 }):wpAny (model prog w) A (setAttr (.ref x) n v) Q E s:=by
 have SO:=PySem.F.store_object
 obtain⟨cd,hc,_,pass⟩:=c.pass
 apply set_plain X I c.sa
 apply codeAny_call_builtin SO.slot.plain SO.entry
 apply @check_slot (model prog w) A.in1 _ { s with toks:=s.toks+1 } "object.__setattr__" "object" "__setattr__" (.ref x) [.str n s.toks,v] [] _ SO.kind SO.split
 · exact I.type.andThen (looks_mroIn X c.ob)
 · exact SO.args _ _ _
 rw[osa_eq,refuse_eq]
 apply wpAny_bind;apply wpAny_bind;apply I.type.here (s:={ s with toks:=s.toks+1 })
 apply wpAny_bind;apply ((looks_clsIn X hc).andThen .now:Looks (model prog w) s.heap (mroOf (.ref C)) cd.mro).here (s:={ s with toks:=s.toks+1 })
 rw[pass]
 apply wpAny_pure;apply wpAny_bind;apply I.type.here (s:={ s with toks:=s.toks+1 })
 apply wpAny_bind;apply (looks_findIn X none_).here (s:={ s with toks:=s.toks+1 })
 apply wpAny_bind;apply wpAny_pure
 exact wpAny_mono k (fun r s' ⟨u,e,z⟩=>by subst e;exact z) fun _ _ z=>z
theorem CW{R:Fin->Shared->Prop}{dx:Addr}{mA:Str->Option Value}{ks:List Str}{tk:Tok}(N:s.heap.Ns1 dx mA)(W:Within mA ks)(few:ks.length<sizeLine)
 (k:∀ h' tk',Heap.SameBut dx s.heap h'->h'.Ns1 dx (fun y=>if y=n then some v else mA y)->R (.done (.ret .none)) { s with heap:=h',toks:=tk' }):wpAny (model prog w) A (storeInDict dx (.str n tk) n v) R E s:=by
 unfold storeInDict newKeyGuard;apply wpAny_bind;apply wpAny_pure;apply wpAny_bind;apply wpAny_nsSet1 N
 intro h' N' sb
 obtain⟨o,es,ep,ho,hd,le⟩:=N'.count (Within.cons n v W)
 apply wpAny_bind
 apply wpAny_lookBehind ho
 · rw[hd];apply pastItsLine_dict;rw[List.length_cons] at le;omega
 · exact wpAny_pure (k h' _ sb N')
theorem CY(hx:s.heap.get? x=some ox)(cl:ox.cls = .ref C){vs:Array Value}(hd:ox.data = .fields vs)(dict:match ox.dict,od with | some dx,some o=>s.heap.get? dx=some o | none,none=>True | _,_=>False):InstAt s.heap x ox C od :=
 ⟨hx,cl,by unfold notCls;rw[hd],dict⟩
theorem JB{Q:Unit->Shared->Prop}{vs:Array Value}(X:K.In s.heap)(hx:s.heap.get? x=some ox)(cl:ox.cls = .ref C)(hd:ox.data = .fields vs)(xt:ox.dict=none)(c:XC K C)(none_:findIn K (.ref C) n=some none)
 (k:∀ h' tk',(∀ b o,b≠x->s.heap.get? b=some o->h'.get? b=some o)->h'.get? x=some { ox with dict:=some s.heap.objs.size }->h'.Ns1 s.heap.objs.size (fun y=>if y=n then some v else none)->Q () { s with heap:=h',toks:=tk' }) :
 wpAny (model prog w) A (setAttr (.ref x) n v) Q E s:=by
 obtain⟨cd,hc,own,_⟩:=c.pass
 apply CV (od:=none) X (CY hx cl hd (by rw[xt];trivial)) c none_
 obtain⟨p1,p2,p3,osl⟩:=ox
 dsimp only at cl hd xt
 subst cl hd xt
 obtain⟨h,g,d,t,os⟩:=s
 dsimp only at hx X k
 have new:x≠h.objs.size:=Nat.ne_of_lt (Heap.lt_size hx)
 have hx2:=Heap.get?_push_of_some emptyDict hx
 unfold storeInOwnDict
 apply wpAny_bind;apply wpAny_pure
 rw[if_neg (show ¬ ((Value.ref C == Value.type "module")=true) by intro z;cases beq_iff_eq.mp z)]
 change wpAny _ _ (instanceDict x true >>= _) _ _ _
 unfold instanceDict
 apply wpAny_bind;apply wpAny_bind;apply wpAny_loadPart_at hx;dsimp only
 apply wpAny_bind;apply (looks_clsIn X hc).here (s:=⟨h,g,d,t+1,os⟩)
 rw[own,if_neg (by decide)]
 rw[if_neg (show ¬ ((!true || !typeHasDict (.ref C))=true) from Bool.false_ne_true)]
 apply wpAny_bind;apply wpAny_alloc;apply wpAny_bind;apply wpAny_update hx2;apply wpAny_pure
 have gx:((h.push emptyDict).update x fun o=>{ o with dict:=some h.objs.size }).get? x=some ⟨.ref C,some h.objs.size,.fields vs,osl⟩:=Heap.get?_update_self _ hx2 rfl
 have gd:((h.push emptyDict).update x fun o=>{ o with dict:=some h.objs.size }).get? h.objs.size=some emptyDict:=by
  rw[Heap.get?_update_other _ _ new];exact Heap.get?_push_size h rfl
 apply CW (ks:=[]) (Heap.Ns1.of_empty ⟨_, #[],_,gd,rfl,(by intro e he;exact absurd he (by simp)),fun _=>rfl⟩) Within.nil (by rw[sizeLine_eq];decide)
 intro h' tk' sb N
 refine⟨_,rfl,k h' tk' (fun b o ne e=>?_) ((sb.2 x new).trans gx) N⟩
 rw[sb.2 b (Nat.ne_of_lt (Heap.lt_size e)),Heap.get?_update_other _ _ (Ne.symm ne)]
 exact Heap.get?_push_of_some emptyDict e
theorem JC{Q:Unit->Shared->Prop}{vs:Array Value}{dx:Addr}{mA:Str->Option Value}{ks:List Str}(X:K.In s.heap)(hx:s.heap.get? x=some ox)(cl:ox.cls = .ref C)(hd:ox.data = .fields vs)(hdx:ox.dict=some dx)(N:s.heap.Ns1 dx mA)(W:Within mA ks)(few:ks.length<sizeLine)
 (c:XC K C) (none_:findIn K (.ref C) n=some none) (k:∀ h' tk',Heap.SameBut dx s.heap h'->h'.Ns1 dx (fun y=>if y=n then some v else mA y)->Q () { s with heap:=h',toks:=tk' }):wpAny (model prog w) A (setAttr (.ref x) n v) Q E s:=by
 obtain⟨cd,hc,own,_⟩:=c.pass
 obtain⟨oD,hD,_⟩:=L2.dg N
 apply CV (od:=some oD) X (CY hx cl hd (by rw[hdx];exact hD)) c none_
 obtain⟨p1,p2,p3,osl⟩:=ox
 dsimp only at cl hd hdx
 subst cl hd hdx
 obtain⟨h,g,d,t,os⟩:=s
 dsimp only at hx X k N
 unfold storeInOwnDict
 apply wpAny_bind;apply wpAny_pure
 rw[if_neg (show ¬ ((Value.ref C == Value.type "module")=true) by intro z;cases beq_iff_eq.mp z)]
 change wpAny _ _ (instanceDict x true >>= _) _ _ _
 unfold instanceDict
 apply wpAny_bind;apply wpAny_bind;apply wpAny_loadPart_at hx;dsimp only
 apply wpAny_bind;apply (looks_clsIn X hc).here (s:=⟨h,g,d,t+1,os⟩)
 rw[own,if_neg (by decide)]
 apply wpAny_pure
 apply CW (s:=⟨h,g,d,t+1,os⟩) N W few
 exact fun h' tk' sb N'=>⟨_,rfl,k h' tk' sb N'⟩
theorem JD{B ini:String}{up:List Value}{Q:Value->Shared->Prop}{vs:Array Value}{as:List Value}{t0:Addr}(F:XB B ini up)(X:K.In s.heap)(I:InstAt s.heap x ox C od)(c:XC K C)(sub:mroIn K C (.type B)=some true)(hd:ox.data = .fields vs)(v0:vs[0]? = some (.ref t0))(few:as.length<=sizeLine)
 (k:∀ h',(∀ b o,b≠x->s.heap.get? b=some o->h'.get? b=some o)->h'.get? x=some { ox with data:=.fields (vs.setIfInBounds 0 (.ref s.heap.objs.size)) }->Q .none { s with heap:=h' }):wpAny (model prog w) A (call (.builtin ini) (.ref x::as)) Q E s:=by
 have CZ:Looks (model prog w) s.heap (isInstance (.ref x) (.type B)) true:=I.type.andThen (looks_mroIn X sub)
 obtain⟨cd,hc,_,_⟩:=c.pass
 have lc:=looks_clsIn (M:=model prog w) X hc
 have hx:=I.at_;have cl:=I.cls
 obtain⟨h,g,d,t,os⟩:=s
 obtain⟨p1,p2,p3,p4⟩:=ox
 dsimp only at cl hd hx CZ k
 subst cl hd
 have pos:0<vs.size:=(Array.getElem?_eq_some_iff.mp v0).1
 have hx2:=Heap.get?_push_of_some { cls:=.type "tuple",data:=.seq as.toArray } hx
 have anyArgs:∀ (a b:String) (m:Nat),Bind.check ⟨.positional,"*",B,.self,[⟨"args",.varPos,false⟩]⟩ a b m (List.map (·.fst) ({ pos:=Value.ref x::as }:Args).kw)=pure ():=fun _ _ _=>check_star_args _ _ _ _ _ _
 have last:Q .none ⟨(h.push { cls:=.type "tuple",data:=.seq as.toArray }).update x (Obj.mapFields (·.setIfInBounds 0 (.ref h.objs.size))),g,d,t,os⟩:=k _ (fun b o ne e=>by rw[Heap.get?_update_other _ _ (Ne.symm ne)];exact Heap.get?_push_of_some _ e) (Heap.get?_update_self _ hx2 rfl)
 have notStar:=F.star
 apply wpAny_call;apply codeAny_call_builtin F.slot.plain F.entry
 simp only[F.kind,F.split,F.row,checkBuiltinCall]
 apply wpAny_bind;apply CZ.here (s:=⟨h,g,d,t,os⟩)
 rw[show(!true)=false from rfl,if_neg Bool.false_ne_true]
 repeat (first | apply wpAny_onRaise | (rw[anyArgs];apply wpAny_pure) | (apply wpAny_bind;apply lc.here (s:=⟨h,g,d,t,os⟩)) | wp_step)
 rw[v0]
 apply wpAny_pure;apply wpAny_bind
 apply wpAny_setField hx2 rfl pos
 dsimp only
 repeat (first | exact last | wp_step)
end
end Ex
namespace Ex
open PySem PySem.Spec PyProof.Rows PySem.W PySem.Calls
def nk(h:Heap)(e:Addr)(m:Value):Option Addr->Prop
 |none=>∃ oe vs,h.get? e=some oe/\oe.data = .fields vs/\vs[1]? = some .none
 |some T=>∃ oe vs oT ts,h.get? e=some oe/\oe.data = .fields vs/\vs[1]? = some (.ref T)/\T≠e/\h.get? T=some oT/\oT.data = .fields ts/\ts[3]? = some m
structure Step(fr:List Addr)(e:Addr)(tb:Option Addr)(h h':Heap):Prop where
 keep:∀ b o,h.get? b=some o->b≠e->tb≠some b->b ∉ fr->h'.get? b=some o
 slot:∀ b o,h.get? b=some o->b≠e->tb≠some b->∃ sl,h'.get? b=some { o with slots:=sl }
 exc:∀ oe vs,h.get? e=some oe->oe.data = .fields vs->∃ vs':Array Value,h'.get? e=some { oe with data:=.fields vs' }/\vs'[0]? = vs[0]? /\ vs'.size=vs.size
 there:∀ b o,h.get? b=some o->∃ o',h'.get? b=some o'
theorem JE{o:Obj}{vs:Array Value}(hd:o.data = .fields vs)(f:Array Value->Array Value):o.mapFields f={ o with data:=.fields (f vs) }:=by
 cases o with
 |mk c d dt sl=>cases hd;rfl
theorem um{h:Heap}{a:Addr}{o:Obj}{vs:Array Value}(e:h.get? a=some o)(hd:o.data = .fields vs)(i:Nat)(v:Value) :
 (h.update a (Obj.mapFields (·.setIfInBounds i v))).get? a=some { o with data:=.fields (vs.setIfInBounds i v) }:=by
 rw[<- JE hd (·.setIfInBounds i v)]
 exact Heap.get?_update_self _ e (Obj.isFreed_of_fields (Obj.data_mapFields hd _))
section
variable{M:Model}{A:Around}{E:Value->Shared->Prop}{s:Shared}{env:Env}{outer:List Env}{base:Heap}{L e:Addr}
theorem C0{oe:Obj}{vs:Array Value}{hd0:Value}{more:Bool}{Q:Unit->Shared->Prop}(fr:A.frames=some (env::outer))(ff:s.heap.FunFrames base (env::outer))(at_:env.frame=some L)(he:s.heap.get? e=some oe)(hd:oe.data = .fields vs)(two:1<vs.size)
 (k:∀ h' T,Step (L2.frs (env::outer)) e none s.heap h'->s.heap.objs.size<=T->nk h' e (rawInt L) (some T)->Q () { s with heap:=h' }) :
 wpAny M A (do let fo <- frameOf env;let pl <- entryPlaceOf L more;let en <- EntryCells.newEntry hd0 fo .none (rawInt L) .none pl;setField (.ref e) 1 en) Q E s:=by
 have JF:e ∉ L2.frs (env::outer):=fun m=>let ⟨_,o,ho,no⟩:=ff.mem m;no vs (by rw[he] at ho;cases ho;exact hd)
 apply wpAny_bind;apply wpAny_frameOf_fun fr ff at_
 rintro h1 ⟨sz,same,C1⟩
 apply wpAny_bind;apply wpAny_entryPlaceOf;intro pl qU
 delta EntryCells.newEntry newFields
 apply wpAny_bind;apply wpAny_newObj_type _ (qU.sizeOk5 _ _ _ _ _)
 generalize eN:({ cls:=.type "traceback",dict:=none,data:=.fields ([hd0,.ref L,.none,rawInt L,.none]++(if pl.isEmpty then List.replicate 6 Value.none else pl)).toArray }:Obj)=en
 have e1:h1.get? e=some oe:=(same e JF).trans he
 have ne:h1.objs.size≠e:=fun z=>absurd (Heap.lt_size e1) (by rw[z];exact Nat.lt_irrefl _)
 have e2:=um (Heap.get?_push_of_some en e1) hd 1 (.ref h1.objs.size)
 have oth:∀ b o,b≠e->h1.get? b=some o->((h1.push en).update e (Obj.mapFields (·.setIfInBounds 1 (.ref h1.objs.size)))).get? b=some o:=fun b o nb z=>by
  rw[Heap.get?_update_other _ _ (Ne.symm nb)];exact Heap.get?_push_of_some en z
 have xu:((h1.push en).update e (Obj.mapFields (·.setIfInBounds 1 (.ref h1.objs.size)))).get? h1.objs.size=some en:=by
  rw[Heap.get?_update_other _ _ (Ne.symm ne)];exact Heap.get?_push_size h1 (by rw[<- eN];rfl)
 apply wpAny_setField (Heap.get?_push_of_some en e1) hd two
 apply k _ h1.objs.size
 · constructor
   · exact fun b o z nb _ nf=>oth b o nb ((same b nf).trans z)
   · intro b o z nb _
     obtain⟨sl,z'⟩:=C1 b o z
     exact⟨sl,oth b _ nb z'⟩
   · intro oe' vs' z zd
     cases he.symm.trans z
     cases hd.symm.trans zd
     exact⟨_,e2,Array.getElem?_setIfInBounds_ne (by decide),Array.size_setIfInBounds⟩
   · intro b o z
     by_cases nb:b=e
     · rw[nb];exact⟨_,e2⟩
     · obtain⟨sl,z'⟩:=C1 b o z
       exact⟨_,oth b _ nb z'⟩
 · rw[sz];exact Nat.le_refl _
 · refine⟨_,_,_,_,e2,rfl,by simp[two],ne,xu,by rw[<- eN],?_⟩
   rcases qU with z | ⟨_,_,_,_,_,_,_,z⟩<;>subst z<;>rfl
theorem C2{tb:Option Addr}{Q:Unit->Shared->Prop}(fr:A.frames=some (env::outer))(ff:s.heap.FunFrames base (env::outer))(at_:env.frame=some L)(F:nk s.heap e .none tb)(two:∀ oe vs,s.heap.get? e=some oe->oe.data = .fields vs->1<vs.size)
 (k:∀ h' T,Step (L2.frs (env::outer)) e tb s.heap h'->s.heap.objs.size<=T->nk h' e (rawInt L) (some T)->Q () { s with heap:=h' }):wpAny M A (noteFrame (.ref e) env) Q E s:=by
 unfold noteFrame
 rw[at_]
 dsimp only
 cases tb with
 |none =>
   obtain⟨oe,vs,he,hd,v1⟩:=F
   apply wpAny_bind;apply wpAny_field he hd v1
   rw[if_neg (show ¬ ((Value.none != Value.none)=true) by decide)]
   exact C0 fr ff at_ he hd (two _ _ he hd) k
 |some T =>
   obtain⟨oe,vs,oT,ts,he,hd,v1,nT,hT,hdT,t3⟩:=F
   have oth:∀ b,b≠T->(s.heap.update T (Obj.mapFields (·.setIfInBounds 3 .none))).get? b=s.heap.get? b:=fun b z=>Heap.get?_update_other _ _ (Ne.symm z)
   have JG:∀ b o,s.heap.get? b=some o->(∀ vs,o.data ≠ .fields vs)->b≠T:=fun b o z no q=>by subst q;cases hT.symm.trans z;exact no ts hdT
   apply wpAny_bind;apply wpAny_field he hd v1
   rw[if_pos (show(Value.ref T != Value.none)=true by rfl)]
   apply wpAny_bind;apply wpAny_field hT hdT t3
   rw[if_neg (show ¬ ((Value.none == rawInt L)=true) by intro z;cases beq_iff_eq.mp z)]
   apply wpAny_bind;apply wpAny_setField hT hdT (Array.getElem?_eq_some_iff.mp t3).1
   apply C0 (s:={ s with heap:=s.heap.update T (Obj.mapFields (·.setIfInBounds 3 .none)) }) fr (ff.of_keeps fun b o z no=>⟨o,(oth b (JG b o z no)).trans z,rfl⟩) at_ ((oth e (Ne.symm nT)).trans he) hd (two _ _ he hd)
   intro h' T' S le F'
   apply k h' T' _ (by rw[Heap.size_after_update] at le;exact le) F'
   have via:∀ b,some T≠some b->b≠T:=fun b z q=>z (by rw[q])
   constructor
   · exact fun b o z nb nt nf=>S.keep b o ((oth b (via b nt)).trans z) nb (by intro q;cases q) nf
   · exact fun b o z nb nt=>S.slot b o ((oth b (via b nt)).trans z) nb (by intro q;cases q)
   · exact fun oe' vs' z zd=>S.exc oe' vs' ((oth e (Ne.symm nT)).trans z) zd
   · intro b o z
     by_cases q:b=T
     · rw[q];exact S.there T _ (um hT hdT 3 .none)
     · exact S.there b o ((oth b q).trans z)
theorem xw{T:Addr}{m:Value}{Q:Unit->Shared->Prop}(F:nk s.heap e m (some T))
 (k:∀ h',(∀ b,b≠T->h'.get? b=s.heap.get? b)->nk h' e .none (some T)->Q () { s with heap:=h' }):wpAny M A (setFlight (.ref e) none) Q E s:=by
 obtain⟨oe,vs,oT,ts,he,hd,v1,nT,hT,hdT,t3⟩:=F
 have l3:3<ts.size:=(Array.getElem?_eq_some_iff.mp t3).1
 have oth:∀ b,b≠T->(s.heap.update T (Obj.mapFields (·.setIfInBounds 3 .none))).get? b=s.heap.get? b:=fun b z=>Heap.get?_update_other _ _ (Ne.symm z)
 unfold setFlight
 apply wpAny_bind;apply wpAny_field he hd v1
 rw[if_pos (show(Value.ref T != Value.none)=true by rfl)]
 apply wpAny_setField hT hdT l3
 exact k _ oth ⟨oe,vs,_,_,(oth e (Ne.symm nT)).trans he,hd,v1,nT,um hT hdT 3 .none,rfl,by simp[l3]⟩
end
end Ex
namespace L2
open PySem PySem.Spec PyProof.Rows Ex
def bY(C e:Addr)(dd:Option Addr)(fr:Bool):HO:=.ext fun h=>∃ oe vs t0,h.get? e=some oe/\oe.cls = .ref C/\oe.dict=dd/\oe.data = .fields vs/\vs[0]? = some (.ref t0)/\1<vs.size/\(fr=true->vs[1]? = some .none)
def jE(d:Addr)(fs:List (Str×V)):HO:=.ext fun h=>∃ mA,h.Ns1 d mA/\(∀ f,cy (fs.lookup f) (mA f))/\PySem.Within mA (fs.map (·.1))
section
variable{P:Program}{w:World}{H:Hp}{h:Heap}{e C d:Addr}{dd:Option Addr}{fr:Bool}{fs:List (Str×V)}
theorem pI{oe:Obj}{vs:Array Value}{t0:Addr}(he:h.get? e=some oe)(hc:oe.cls = .ref C)(hdd:oe.dict=dd)(hd:oe.data = .fields vs)(h0:vs[0]? = some (.ref t0))(hs:1<vs.size)(hf:fr=true->vs[1]? = some .none) :
 aD P w H h e (bY C e dd fr) :=
 ⟨⟨oe,vs,t0,he,hc,hdd,hd,h0,hs,hf⟩,⟨oe,he⟩,fun _ _ ⟨oe,vs,t0,he,r⟩ k=>⟨oe,vs,t0,k _ he,r⟩⟩
theorem C3{mA:Str->Option Value}(hn:h.Ns1 d mA)(hr:∀ f,cy (fs.lookup f) (mA f))(hw:PySem.Within mA (fs.map (·.1))):aD P w H h d (jE d fs) :=
 ⟨⟨mA,hn,hr,hw⟩,let ⟨o,_,_,q,_⟩:=hn; ⟨o,q⟩,fun _ _ ⟨mA,⟨o,es,ep,q,r⟩,r2⟩ k=>⟨mA,⟨o,es,ep,k _ q,r⟩,r2⟩⟩
theorem k7(ok:b6 P w H h)(q:H e=some (bY C e dd fr)):∃ oe vs t0,h.get? e=some oe/\oe.cls = .ref C/\oe.dict=dd/\oe.data = .fields vs/\vs[0]? = some (.ref t0)/\1<vs.size/\(fr=true->vs[1]? = some .none):=(ok _ _ q).1
theorem xx(ok:b6 P w H h)(q:H d=some (jE d fs)):∃ mA,h.Ns1 d mA/\(∀ f,cy (fs.lookup f) (mA f))/\PySem.Within mA (fs.map (·.1)):=(ok _ _ q).1
end
structure JH(X:Cx)(pins:List (Addr×Obj))(H:Hp)(s:Shared)(e C:Addr):Prop where
 ex:∃ dd,H e=some (bY C e dd false)
 lo:X.s₀.heap.objs.size<=e
 tr:∃ tb,nk s.heap e .none tb/\∀ T,tb=some T->H T=none/\X.s₀.heap.objs.size<=T/\∀ p∈X.pn++pins,p.1≠T
abbrev a9:=St->XK
def XOk(X:Cx)(EE:a9):Prop:=∀ (pins:List (Addr×Obj)) (σ:St) (H:Hp) (s:Shared) (e C:Addr),Inv X pins σ H s->JH X pins H s e C->EE σ (.ref C) (some e) H->X.xe (.ref e) s
def fQ(P:Program)(w:World):jc:=fun outer H s E ev s'=>∃ e C H',ev = .ref e/\s'.os=s.os/\AllBare s'.gens/\Un (frs outer) [] H H' s.heap s'.heap/\b6 P w H' s'.heap /\
 (∃ dd,H' e=some (bY C e dd false))/\s.heap.objs.size<=e/\(∃ tb,nk s'.heap e .none tb/\∀ T,tb=some T->H' T=none/\s.heap.objs.size<=T)/\E (.ref C) (some e) H'
theorem xy{X:Cx}{EE:a9}(hX:XOk X EE){pins:List (Addr×Obj)}{σ:St}{H:Hp}{s s':Shared}{ev:Value}(I:Inv X pins σ H s)(h:fQ X.prog X.w X.stack H s (EE σ) ev s'):X.xe ev s':=by
 obtain⟨e,C,H',rfl,os,bare,un,hok,ex,lo,⟨tb,F,hT⟩,q⟩:=h
 have I':Inv X pins σ H' s':=I.jS (ch:=[]) os un hok bare fun b z=>absurd z (by simp)
 refine hX pins σ H' s' e C I' ⟨ex,Nat.le_trans I.sz lo,tb,F,fun T z=>⟨(hT T z).1,Nat.le_trans I.sz (hT T z).2,fun p hp=>?_⟩⟩ q
 have lt:=Heap.lt_size (I.pin p hp).1
 have:=(hT T z).2
 exact Nat.ne_of_lt (Nat.lt_of_lt_of_le lt this)
section
variable{P:Program}{w:World}{K:W.Frag}{mg:Str->Option Value}{base:Heap}{N:List Str}{qual:Str}{scope:Scope}{f:Addr}{cd:Value}{A:Around}{outer:List Env}{s:Shared}{H:Hp}{E:XK}
theorem xA:XOk (gn (fQ P w) P w K mg base N qual scope f cd A outer s H E) (fun _=>E):=by
 intro pins σ H1 s1 e C I T q
 obtain⟨⟨dd,ex⟩,lo,tb,F,hT⟩:=T
 show wpAny (model P w) (A.deeper (envOfC qual scope s.heap.objs.size f cd)) (leaving (envOfC qual scope s.heap.objs.size f cd) (.ref e)) (fun _ s''=>fQ P w outer H s E (.ref e) s'') (fun e' s''=>fQ P w outer H s E e' s'') s1
 have hfr:(A.deeper (envOfC qual scope s.heap.objs.size f cd)).frames=some (envOfC qual scope s.heap.objs.size f cd::outer):=I.ok.frames
 have hl:s1.heap.FunFrames base (envOfC qual scope s.heap.objs.size f cd::outer):=I.stack
 obtain⟨oe,vs,t0,he,hc,hdd,hd,h0,hsz,_⟩:=k7 I.hok ex
 have s0:∀ b o,s.heap.get? b=some o->b≠e/\tb≠some b/\b≠s.heap.objs.size:=fun b o z=>by
  have lt:=Heap.lt_size z
  refine⟨Nat.ne_of_lt (Nat.lt_of_lt_of_le lt lo),fun y=>?_,Nat.ne_of_lt lt⟩
  exact Nat.lt_irrefl _ (Nat.lt_of_lt_of_le lt (hT b y).2.1)
 unfold leaving
 refine wpAny_bind (C2 (L:=s.heap.objs.size) hfr hl rfl F (fun oe' vs' a b=>by rw[he] at a;cases a;rw[hd] at b;cases b;exact hsz) fun h' T' S hle FF=>?_)
 refine xw (s:={ s1 with heap:=h' }) FF fun h'' oth F2=>?_
 have JI:s.heap.objs.size<=s1.heap.objs.size:=I.sz
 have hT':∀ b o,s1.heap.get? b=some o->b≠T':=fun b o z=>Nat.ne_of_lt (Nat.lt_of_lt_of_le (Heap.lt_size z) hle)
 have fresh:H1 T'=none:=I.hok.fresh hle
 have keep:∀ b o,s1.heap.get? b=some o->b≠e->tb≠some b->b ∉ frs (envOfC qual scope s.heap.objs.size f cd::outer)->h''.get? b=some o:=fun b o z a1 a2 a3=>(oth b (hT' b o z)).trans (S.keep b o z a1 a2 a3)
 have qV:∀ b,b∈frs (envOfC qual scope s.heap.objs.size f cd::outer)->b=s.heap.objs.size\/b∈frs outer:=fun b hb=>by
  unfold frs at hb ⊢
  rw[List.filterMap_cons] at hb
  rcases List.mem_cons.mp hb with z | z
  · exact .inl z
  · exact .inr z
 have tracked:∀ b u,H1 b=some u->b ∉ frs (envOfC qual scope s.heap.objs.size f cd::outer):=fun b u z hb=>by
  have n:H1 b=none:=I.dS b hb
  rw[z] at n
  cases n
 refine⟨e,C,H1,rfl,I.os,I.bare,⟨fun b o z n hb hx=>?_,fun b o z n hb hx=>?_,I.base.free,fun b o z hx=>?_,I.base.tups,I.base.dM,I.base.d_⟩,fun b u z=>?_,⟨dd,ex⟩,lo,⟨some T',F2,fun T z=>?_⟩,q⟩
 · obtain⟨a1,a2,a3⟩:=s0 b o z
   exact keep b o (I.base.keep b o z n hb hx) a1 a2 fun y=>(qV b y).elim a3 hb
 · obtain⟨a1,a2,a3⟩:=s0 b o z
   obtain⟨sl,e1⟩:=I.base.slot b o z n hb hx
   obtain⟨sl2,e2⟩:=S.slot b _ e1 a1 a2
   exact⟨sl2,(oth b (hT' b _ e1)).trans e2⟩
 · obtain⟨o',e1⟩:=I.base.there b o z hx
   obtain⟨o2,e2⟩:=S.there b o' e1
   exact⟨o2,(oth b (hT' b _ e1)).trans e2⟩
 · by_cases hb:b=e
   · subst hb
     rw[ex] at z
     cases z
     obtain⟨vs',e1,e2,e3⟩:=S.exc oe vs he hd
     exact pI ((oth b (hT' b _ he)).trans e1) hc hdd rfl (by rw[e2];exact h0) (by rw[e3];exact hsz) fun z=>nomatch z
   · refine(I.hok b u z).stay (fun c v hcv r=>?_) (fun _ r=>r) fun _ _ r=>r
     have ne:c≠e:=by
      rcases hcv with rfl | hcv
      · exact hb
      · exact m8 hcv ex (by intro y;cases y)
     have tr:∃ u',H1 c=some u':=by
      rcases hcv with rfl | hcv
      · exact⟨_,z⟩
      · exact⟨_,hcv⟩
     obtain⟨u',hu'⟩:=tr
     exact keep c v r ne (fun y=>by have:=(hT c y).1;rw[hu'] at this;cases this) (tracked c u' hu')
 · cases z
   exact⟨fresh,Nat.le_trans JI hle⟩
end
end L2
namespace Ex
open PySem PySem.Spec PyProof.Rows PySem.W PySem.Calls Builtin Builtin.ObjectAttr
def C4(K:Frag)(h:Heap)(e:Addr):Prop:=∃ oe vs C oC,h.get? e=some oe/\oe.cls = .ref C/\mroIn K C (.type "BaseException")=some true/\K.lookup C=some oC/\oC.cls = .type "type" /\ oe.data = .fields vs/\vs[1]? = some .none
theorem xB{M:Model}{A:Around}{E:Value->Shared->Prop}{s:Shared}{env:Env}{K:Frag}{x:Sem Value}{Q:Flow->Shared->Prop}(calm:A.handled=none)
 (k:wpAny M A x (fun v s'=>∃ e,v = .ref e/\K.In s'.heap/\C4 K s'.heap e/\E v s') E s):wpAny M A (raiseStmt env (some x) none) Q E s:=by
 delta raiseStmt
 apply wpAny_bind;apply wpAny_mono k _ fun _ _ z=>z
 rintro v ⟨h,g,d,t,os⟩ ⟨e,rfl,X,⟨⟨c1,c2,c3,c4⟩,vs,C,⟨d1,d2,d3,d4⟩,he,hc,sub,hC,ht,hd,v1⟩,last⟩
 dsimp only at X he hc hd ht
 subst hc hd ht
 have LS:=looks_mroIn (M:=M) X sub
 have hC':=X _ _ hC
 repeat (first | (with_reducible apply wpAny_loadPart_at hC') | (with_reducible apply wpAny_loadPart_at he) | (with_reducible apply LS.here (s:=⟨h,g,d,t,os⟩)) | rw[v1] | wp_step)
 exact wpAny_raiseNew_none calm last
end Ex
namespace L2
open PySem PySem.Spec PyProof.Rows Ex
def JJ(K:W.Frag)(ta:TE)(f:Str):TE:=fun σ H Q=>ta σ H fun x H1=>∃ a C d fr fs v,x = .ref a/\H1 a=some (bY C a (some d) fr)/\H1 d=some (jE d fs)/\XC K C/\aU K C f/\fs.lookup f=some v/\Q v H1
def JK(K:W.Frag)(ta tv:TE)(f:Str):TS:=fun D σ H=>tv σ H fun y H1=>ta σ H1 fun x H2=>∃ a C fr,x = .ref a/\XC K C/\aU K C f /\
 ((H2 a=some (bY C a none fr)/\∀ d,H2 d=none->d≠a->D.nx σ (upd (upd H2 d (jE d [(f,y)])) a (bY C a (some d) fr))) \/
  (∃ d fs,H2 a=some (bY C a (some d) fr)/\H2 d=some (jE d fs)/\fs.length<1000/\D.nx σ (upd H2 d (jE d (gk f y fs)))))
section
variable{X:Cx}{o e value:Expr}{f:Str}{pos pos' tpos:Pos}{ta tv:TE}
theorem uo{K:W.Frag}{P:Program}{w:World}{H:Hp}{h:Heap}{a C:Addr}{dd:Option Addr}{fr:Bool}(ok:b6 P w H h)(q:H a=some (bY C a dd fr))(hdd:∀ d,dd=some d->∃ o,h.get? d=some o) :
 ∃ ox od,W.InstAt h a ox C od/\ox.dict=dd/\(∀ d,dd=some d->∃ o,od=some o/\h.get? d=some o):=by
 obtain⟨oe,vs,t0,he,hc,hd,hda,_⟩:=k7 ok q
 have hn:W.notCls oe=true:=by unfold W.notCls;rw[hda]
 cases dd with
 |none=>exact⟨oe,none,⟨he,hc,hn,by rw[hd];trivial⟩,hd,fun d z=>nomatch z⟩
 |some d =>
   obtain⟨o,ho⟩:=hdd d rfl
   exact⟨oe,some o,⟨he,hc,hn,by rw[hd];exact ho⟩,hd,fun d' z=>by cases z;exact⟨o,rfl,ho⟩⟩
theorem JL(he:PE X e ta)(hb:attributeBase e f X.env (eval e X.env)=eval e X.env):PE X (.Attribute e f pos) (JJ X.K ta f):=by
 intro pins s σ H Q I h
 refine Cg hb (aL (he pins s σ H _ I h) fun u s1 ⟨x,H1,I1,rx,a,C,d,fr,fs,v,ex,ea,ed,c,n,l,q⟩=>?_)
 subst ex
 obtain rfl:u=Value.ref a:=rx
 obtain⟨mA,hn,hr,_⟩:=xx I1.hok ed
 obtain⟨od,ho,hlk⟩:=dg hn
 obtain⟨ox,od',uq,_,hod⟩:=uo (K:=X.K) I1.hok ea fun d' z=>by cases z;exact⟨od,ho⟩
 obtain⟨o2,e2,ho2⟩:=hod d rfl
 rw[ho] at ho2
 cases ho2
 subst e2
 obtain⟨u,hu,ru⟩:=cy.some_of (v:=v) (o:=mA f) (by rw[<- l];exact hr f)
 obtain⟨cd,hcd,JM,_⟩:=c.pass
 have hf:W.findObj X.K C (some od) f=some (.value u):=W.findObj_own (by unfold W.hasDictIn;rw[hcd];exact JM) n rfl (by rw[hlk,hu])
 exact Jx I1.bf uq c hf (Cf ru) ⟨v,H1,I1.tok _,ru,q⟩
theorem JN(ha:PE X o ta)(hv:PE X value tv)(hs:swapsWith value (some (.Attribute o f pos')) pos.line X.env=pure false):PS X (.Assign [.Attribute o f pos'] value pos) (JK X.K ta tv f):=by
 intro pins s σ H D I h
 refine plainObj_wpAny_Assign_Attribute (aL (hv pins s σ H _ I h) fun u s1 ⟨y,H1,I1,ry,q⟩=>aL (ha pins s1 σ H1 _ I1 q) fun ov s2 ⟨x,H2,I2,rx,a,C,fr,ex,c,n,q2⟩=>?_) hs
 subst ex
 obtain rfl:ov=Value.ref a:=rx
 rcases q2 with ⟨ea,k⟩ | ⟨d,fs,ea,ed,hl,k⟩
 · obtain⟨oe,vs,t0,he,hc,hd,hda,h0,hsz,hfr⟩:=k7 I2.hok ea
   have na:s2.heap.objs.size≠a:=Nat.ne_of_gt (Heap.lt_size he)
   refine JB I2.bf he hc hda hd c n fun h' tk' kp hx hn=>?_
   refine⟨σ,_,?_,k s2.heap.objs.size (I2.hok.fresh (Nat.le_refl _)) na⟩
   have fresh:H2 s2.heap.objs.size=none:=I2.hok.fresh (Nat.le_refl _)
   have hdn:∃ o,h'.get? s2.heap.objs.size=some o:=let ⟨o,_,_,z,_⟩:=hn; ⟨o,z⟩
   have od:∀ (G:Hp),aD X.prog X.w G h' s2.heap.objs.size (jE s2.heap.objs.size [(f,y)]):=fun G=>C3 hn (fun g=>by
    show cy (List.lookup g [(f,y)]) (if g=f then some u else none)
    rw[List.lookup_cons]
    by_cases z:g=f
    · subst z;rw[if_pos rfl];simp only[beq_self_eq_true];exact ry
    · have z':(g == f)=false:=by simpa using z
      rw[if_neg z,z'];exact True.intro) (fun g hg=>by
    have z:g=f:=by
     by_cases z:g=f
     · exact z
     · exact absurd (if_neg z) hg
    rw[z];simp)
   have oe':∀ (G:Hp),aD X.prog X.w G h' a (bY C a (some s2.heap.objs.size) fr):=fun G=>pI hx hc rfl hda h0 hsz hfr
   have un:Un X.fs [] H2 (upd (upd H2 s2.heap.objs.size (jE s2.heap.objs.size [(f,y)])) a (bY C a (some s2.heap.objs.size) fr)) s2.heap h':=by
    have ne:∀ b,H2 b=none->b≠a:=fun b z e=>by rw[e,ea] at z;cases z
    refine⟨fun b ob z z2 _ _=>kp b ob (ne b z2) z,fun b ob z z2 _ _=>⟨ob.slots,kp b ob (ne b z2) z⟩,fun b ob z z2 _=>?_,fun b ob z _=>?_,fun b xs z=>?_,fun b ob xs z=>?_,fun b ps z=>⟨#[],?_⟩⟩
    · rw[aV (ne b z2),aV (Nat.ne_of_lt (Heap.lt_size z))];exact z2
    · by_cases hb:b=a
      · subst hb;exact⟨_,hx⟩
      · exact⟨ob,kp b ob hb z⟩
    · rw[aV (m8 z ea (by intro y;cases y)),aV (eU z fresh)];exact z
    · rw[aV (m8 z ea (by intro y;cases y)),aV (eU z fresh)];exact z
    · rw[aV (m8 z ea (by intro y;cases y)),aV (eU z fresh),z];simp
   refine I2.un un fun b ob z=>?_
   by_cases hb:b=a
   · subst hb;rw[cN] at z;cases z;exact oe' _
   · rw[aV hb] at z
     by_cases hb2:b=s2.heap.objs.size
     · subst hb2;rw[cN] at z;cases z;exact od _
     · rw[aV hb2] at z
       refine(I2.hok b ob z).stay (fun c v hcv r=>kp c v ?_ r) (fun c r=>?_) fun c xs r=>?_
       · rcases hcv with rfl | hcv
         · exact hb
         · exact m8 hcv ea (by intro y;cases y)
       · rw[aV (m8 r ea (by intro y;cases y)),aV (eU r fresh)];exact r
       · rw[aV (m8 r ea (by intro y;cases y)),aV (eU r fresh)];exact r
 · obtain⟨oe,vs,t0,he,hc,hd,hda,h0,hsz,hfr⟩:=k7 I2.hok ea
   obtain⟨mA,hn,hr,hw⟩:=xx I2.hok ed
   refine JC I2.bf he hc hda hd hn hw (by rw[List.length_map,sizeLine_eq];omega) c n fun h' tk' sb hn'=>?_
   refine⟨σ,_,I2.write (x:=d) (e:=d) (by rw[ed];exact True.intro) (.inl rfl) (fun b q hb z=>(sb.2 b hb).trans z) (let ⟨o,_,_,z,_⟩:=hn'; ⟨o,z⟩) ?_,k⟩
   refine C3 hn' (fun g=>?_) fun g hg=>?_
   · show cy ((gk f y fs).lookup g) (if g=f then some u else mA g)
     rw[xf]
     by_cases q:g=f
     · rw[if_pos q,if_pos q];exact ry
     · rw[if_neg q,if_neg q];exact hr g
   · by_cases q:g=f
     · rw[q];exact(qM f y fs).1
     · refine(qM f y fs).2 g (hw g fun z=>hg ?_)
       show(if g=f then some u else mA g)=none
       rw[if_neg q];exact z
end
structure nq(h h':Heap)(e C:Addr):Prop where
 keeps:∀ c u,h.get? c=some u->h'.get? c=some u
 le:h.objs.size<=e
 obj:∃ t0,h'.get? e=some { cls:=.ref C,data:=.fields #[.ref t0,.none,.none,.none,.bool false,.none] }
def XMk(K:W.Frag)(C fI:Addr):Prop:=∀ (prog:Program) (w:World) (A:Around) (E:Value->Shared->Prop) (s:Shared) (rest:List Value) (Q:Value->Shared->Prop),K.In s.heap->rest.length<=sizeLine ->
 (∀ h' e,nq s.heap h' e C->wpAny (model prog w) (A.under (.builtin "type.__call__" ⟨.ref C::rest,[]⟩)) (call (.ref fI) (.ref e::rest)) (fun r s'=>r = .none/\Q (.ref e) s') E { s with heap:=h' }) ->
 wpAny (model prog w) A (call (.ref C) rest) Q E s
structure qW(K:W.Frag)(C:Addr):Prop where
 xc:XC K C
 mt:∃ oC,K.lookup C=some oC/\oC.cls = .type "type"
 kp:W.keepIn K (.ref C)=true
section
variable{X:Cx}{k:Nat}{fI C:Addr}{fd:FuncData}{ps:List Str}{sp:Sp}{dvs:List V}{ds:List Value}{x:Str}{p pos cpos apos:Pos}{e:Expr}{es:List Expr}{t:TA}{EE:a9}
theorem Inv.exc{pins:List (Addr×Obj)}{σ:St}{H:Hp}{s:Shared}{h':Heap}{a:Addr}(I:Inv X pins σ H s)(m:nq s.heap h' a C)(fr:Bool) :
 Inv X pins σ (upd H a (bY C a none fr)) { s with heap:=h' }:=by
 obtain⟨t0,he⟩:=m.obj
 exact I.laid (a:=a) (o:=bY C a none fr) (t':=s.toks) m.keeps m.le (pI he rfl rfl rfl rfl (by simp) fun _=>rfl)
theorem JO{pins:List (Addr×Obj)}{σ:St}{H:Hp}{s:Shared}{Q:VK}{us:List Value}{vs:List V}(M:XMk X.K C fI)(F:a8 X.prog X.w X.K X.mg X.base eP k fI fd ps sp)(hr:ax (k+1) X.A)(hb:Binds X.K fd ps ds)(hd:Vals dvs ds)
 (I:Inv X pins σ H s) (r:Vals vs us) (hlen:vs.length<=1000)
 (h:∀ a,H a=none->sp (.ref a::(vs++dvs)) (upd H a (bY C a none true)) (fun v H2=>v = .ao/\Q (.ref a) H2) E0) :
 wpAny (model X.prog X.w) X.A (call (.ref C) us) (fun u s'=>∃ a H',u = .ref a/\Inv X pins σ H' s'/\s.heap.objs.size<=a/\Q (.ref a) H') X.xe s:=by
 refine M X.prog X.w X.A X.xe s us _ I.bf (by rw[<- r.length,sizeLine_eq];omega) fun h' a m=>?_
 have hq:=h a (I.hok.fresh m.le)
 have I2:=I.exc m true
 have r2:Vals (V.ref a::(vs++dvs)) (Value.ref a::(us++ds)):=.cons rfl (r.append hd)
 have hl:(Value.ref a::us++ds).length=ps.length:=by
  have e:=r2.length
  rw[F.len _ _ _ _ hq] at e
  exact e.symm
 refine wpAny_call (codeAny_mono (F.run _ X.stack _ _ ⟨Value.ref a::us,[]⟩ (Value.ref a::(us++ds)) _ _ E0 (hr.make C us [])
  (I2.env0.make C us []) (hb _ (Value.ref a::us) I2.bf hl) r2 hq) fun r s' hq'=>?_)
 cases r with
 |error e=>exact False.elim hq'
 |ok fl =>
   cases fl with
   |ret u =>
     obtain⟨v,H',I3,rv,ev,q3⟩:=I2.after hq'
     subst ev
     exact⟨rv,a,H',rfl,I3,m.le,q3⟩
   |next=>exact False.elim hq'
   |brk=>exact False.elim hq'
   |cont=>exact False.elim hq'
theorem JP{pins:List (Addr×Obj)}{σ:St}{H:Hp}{s:Shared}{a:Addr}{dd:Option Addr}(hX:XOk X EE)(I:Inv X pins σ H s)(hle:X.s₀.heap.objs.size<=a)(ea:H a=some (bY C a dd true))(q:EE σ (.ref C) (some a) (upd H a (bY C a dd false))):X.xe (.ref a) s:=by
 obtain⟨oe,vs,t0,he,hc,hd,hda,h0,hsz,hfr⟩:=k7 I.hok ea
 have I':Inv X pins σ (upd H a (bY C a dd false)) s:=I.write (x:=a) (e:=a) (t':=s.toks) (h':=s.heap) (by rw[ea];exact True.intro) (.inl rfl) (fun b u _ z=>z) ⟨_,he⟩ (pI he hc hd hda h0 hsz fun z=>nomatch z)
 exact hX pins σ _ s a C I' ⟨⟨dd,cN⟩,hle,none,⟨oe,vs,he,hda,hfr rfl⟩,fun T z=>nomatch z⟩ q
def JQ(C:Addr)(sp:Sp)(dvs:List V)(EE:a9)(t:TA):TS:=fun _ σ H=>t σ H fun vs H1=>vs.length<=1000/\∀ a,H1 a=none ->
 sp (.ref a::(vs++dvs)) (upd H1 a (bY C a none true)) (fun v H2=>v = .ao/\∃ dd,H2 a=some (bY C a dd true)/\EE σ (.ref C) (some a) (upd H2 a (bY C a dd false))) E0
theorem JR{Q:Flow->Shared->Prop}{s:Shared}{xe:Expr}{pos:Pos}(hh:X.A.handled=none)
 (h:wpAny (model X.prog X.w) X.A (eval xe X.env) (fun v aE=>∃ e,v = .ref e/\X.K.In aE.heap/\C4 X.K aE.heap e/\X.xe v aE) X.xe s) :
 wpAny (model X.prog X.w) X.A (exec (.Raise (some xe) none pos) X.env) Q X.xe s:=by
 rw[arm_exec_Raise]
 first
  |exact wpAny_bind (wpAny_standAt (xB hh (wpAny_bind (wpAny_mono h (fun v aE h₁=>wpAny_bind (wpAny_standAt (wpAny_pure h₁))) fun _ _ x=>x))))
  | (simp only[evalOpt,Option.map];exact wpAny_bind (wpAny_standAt (xB hh (wpAny_bind (wpAny_mono h (fun v aE h₁=>wpAny_bind (wpAny_standAt (wpAny_pure h₁))) fun _ _ x=>x)))))
  | (show wpAny _ _ (do standAt pos;raiseStmt X.env (some (do let v <- eval xe X.env;standAt pos;pure v)) none) Q X.xe s;exact wpAny_bind (wpAny_standAt (xB hh (wpAny_bind (wpAny_mono h (fun v aE h₁=>wpAny_bind (wpAny_standAt (wpAny_pure h₁))) fun _ _ x=>x)))))
theorem JS(hX:XOk X EE)(hc:X.calm=true)(M:XMk X.K C fI)(Z:qW X.K C)(F:a8 X.prog X.w X.K X.mg X.base eP k fI fd ps sp)(hr:ax (k+1) X.A)(hg:Gl X x)(hm:X.mg x=some (.ref C))(hb:Binds X.K fd ps ds)(hd:Vals dvs ds)
 (ha:PA X (e::es) t) (hdb:(x == ("__debug__" : Str))=false:=by decide) (he:starEach (e::es) X.env=(false,eval e X.env)::starEach es X.env:=by rfl) (hpl:(backTo cpos (starEach es X.env)).any (·.1)=false:=by rfl) :
 PS X (.Raise (some (.Call (.Name x p) (e::es) [] cpos)) none pos) (JQ C sp dvs EE t):=by
 intro pins s σ H D I h
 refine JR (I.ok.hd hc) (wpAny_Call_Name_kw (nQ I hg hm ?_ hdb))
 refine W.callWith_K (h₀:=X.base) I.ok.mod.m9 Z.kp (aL (ha cpos pins s σ H _ I h) fun us s1 ⟨vs,H1,I1,r,hlen,q⟩=>⟨I1.bf,?_⟩) he hpl
 refine aL (JO (Q:=fun v H2=>∃ a dd,v = .ref a/\H2 a=some (bY C a dd true)/\EE σ (.ref C) (some a) (upd H2 a (bY C a dd false))) M F hr hb hd I1 r hlen fun a na=>?_) fun u s2 ⟨a,H2,eu,I2,hle,a',dd,JT,ex,q2⟩=>?_
 · have q':=q a na
   have:(fun v H2=>v=V.ao/\∃ dd,H2 a=some (bY C a dd true)/\EE σ (.ref C) (some a) (upd H2 a (bY C a dd false)))=(fun v H2=>v=V.ao/\∃ a' dd,V.ref a=V.ref a'/\H2 a'=some (bY C a' dd true)/\EE σ (.ref C) (some a') (upd H2 a' (bY C a' dd false))):=by
    funext v H2
    apply propext
    constructor
    · rintro⟨z,dd,z1,z2⟩;exact⟨z,a,dd,rfl,z1,z2⟩
    · rintro⟨z,a',dd,z0,z1,z2⟩;cases z0;exact⟨z,dd,z1,z2⟩
   rw[<- this]
   exact q'
 · cases JT
   obtain⟨oe,ws,t0,h1,h2,h3,h4,h5,h6,h7⟩:=k7 I2.hok ex
   obtain⟨oC,m1,m2⟩:=Z.mt
   exact⟨a,eu,I2.bf,⟨oe,ws,C,oC,h1,h2,Z.xc.be,m1,m2,h4,h7 rfl⟩,by rw[eu];exact JP hX I2 (Nat.le_trans I1.sz hle) ex q2⟩
end
def n8(K:W.Frag)(C:Addr)(up:List Value)(nw:String):Bool:=(K.lookup C).any fun o=>o.cls == .type "type" && o.slots.size == 6 && o.slots.toList[4]? == some (some (.builtin nw)) &&
 match o.data with
 | .cls cd=>cd.mro.head? == some (.ref C) && !cd.hasDel && cd.hasDict && W.tailIn K up cd.mro.tail && W.nsOkIn K cd.ns
 | _=>false
theorem JU{l:List (Option Value)}{v:Option Value}(h:l.length=6)(q:l[4]? = some v):∃ a b c d e,l=[a,b,c,d,v,e]:=by
 match l,h with
 | [a,b,c,d,x,e],_ =>
   cases q
   exact⟨a,b,c,d,e,rfl⟩
theorem C5{K:W.Frag}{C:Addr}{up:List Value}{nw:String}(q:n8 K C up nw=true) :
 ∃ tl N nm qn bs sn sub ab col dd j0 j1 j2 j3 j5,K.lookup C=some (excClassObj nm qn C N bs tl true sn sub ab col dd j0 j1 j2 j3 j5 nw)/\W.tailIn K up tl=true/\W.nsOkIn K N=true:=by
 unfold n8 at q
 cases z:K.lookup C with
 |none=>rw[z] at q;cases q
 |some o =>
   rw[z] at q
   cases o with
   |mk oc od oda osl =>
     simp only[Option.any_some,Bool.and_eq_true,beq_iff_eq] at q
     obtain⟨⟨⟨rfl,sz⟩,s4⟩,q⟩:=q
     cases oda with
     |cls cd =>
       cases cd with
       |mk nm bs mro N qn JV sn sub ab col del =>
         simp only[Bool.not_eq_true',Bool.and_eq_true,beq_iff_eq] at q
         obtain⟨⟨⟨⟨hm,rfl⟩,rfl⟩,ht⟩,hn⟩:=q
         cases mro with
         |nil=>cases hm
         |cons a tl =>
           cases hm
           obtain⟨l⟩:=osl
           obtain⟨a,b,c,d,e,rfl⟩:=JU (by simpa using sz) (by simpa using s4)
           exact⟨tl,N,nm,qn,bs,sn,sub,ab,col,od,a,b,c,d,e,rfl,ht,hn⟩
     | _=>cases q
section
variable{K:W.Frag}{C fI:Addr}{B D nw lR ini:String}{un up:List Value}
theorem JW(fn:ExcBaseFacts D nw lR un)(hD:up.contains (.type D)=true)(F:XB B ini up)(q:n8 K C up nw=true)(at_:W.findIn K (.ref C) "__init__" = some (some (.ref fI)))(isF:W.isFn K (.ref fI)=true):XMk K C fI:=by
 rintro prog w A E ⟨h,g,d,t,os⟩ as Q X few k
 obtain⟨tl,N,nm,qn,bs,sn,sub,ab,col,dd,j0,j1,j2,j3,j5,hC,ht,hn⟩:=C5 q
 exact Jw fn hD F (W.tail_of_in X ht) X (X _ _ hC) at_ (W.bind_fn (X.keeps uk) _ (beq_iff_eq.mp isF)) few (k _ _ ⟨uk,Nat.le_succ _,_,CT⟩)
theorem stores{self:Value}(ok:refuseLoop self "__setattr__" up=pure ()):∀ {l:List Value},W.tailIn K up l=true->refuseLoop self "__setattr__" l=pure ()
 | [],e=>by
   have z:up=[]:=beq_iff_eq.mp e
   rw[<- z];exact ok
 |v::r,e=>by
   unfold W.tailIn at e
   cases z:((v::r) == up) with
   |true=>rw[beq_iff_eq.mp z];exact ok
   |false =>
     rw[z,Bool.false_or] at e
     cases v with
     |ref a =>
       dsimp only at e
       split at e
       · rw[Bool.and_eq_true] at e
         rw[refuseLoop_ref]
         exact stores ok e.2
       · cases e
     | _=>cases e
theorem JX(ok:∀ self,refuseLoop self "__setattr__" up=pure ())(q:n8 K C up nw=true)
 (ga:W.findIn K (.ref C) "__getattribute__" = some (some (.builtin "BaseException.__getattribute__"))) (gt:W.findIn K (.ref C) "__getattr__" = some none) (sa:W.findIn K (.ref C) "__setattr__" = some (some (.builtin "object.__setattr__")))
 (be:W.mroIn K C (.type "BaseException")=some true) (ob:W.mroIn K C (.type "object")=some true) (ca:W.findIn K (.ref C) "__class__" = some (some (.builtin "object.__class__")))
 (cg:W.specialIn K (.builtin "object.__class__") "__get__" = some (some (.builtin "getset_descriptor.__get__"))) (ct:W.takesIn K (.builtin "object.__class__")=some true) (kc:W.kitCls K (.ref C) (.ref C)=some true) (kp:W.keepIn K (.ref C)=true):qW K C:=by
 obtain⟨tl,N,nm,qn,bs,sn,sub,ab,col,dd,j0,j1,j2,j3,j5,hC,ht,hn⟩:=C5 q
 exact⟨⟨ga,gt,sa,be,ob,⟨_,by unfold W.clsIn;rw[hC],rfl,fun self=>by rw[refuseLoop_ref];exact stores (ok self) ht⟩,ca,cg,ct,kc⟩,⟨_,hC,rfl⟩,kp⟩
end
def lS(H:Hp)(a C:Addr):Prop:=∃ fr,H a=some (bY C a none fr)\/∃ d fs,H a=some (bY C a (some d) fr)/\H d=some (jE d fs)
def ur:V->Option Value
 | .ref a=>some (.ref a)
 | .ty n=>some (.type n)
 | _=>none
theorem JY{c:V}{cv u:Value}(h:ur c=some cv)(r:RelV c u):u=cv:=by
 cases c<;>first | (cases h;exact r) | cases h
def xC(K:W.Frag)(H:Hp)(x:V)(t:Value):Prop:=cA K H x t\/∃ a C,x = .ref a/\t = .ref C/\lS H a C/\XC K C
section
variable{X:Cx}
theorem lS.inst{P:Program}{w:World}{H:Hp}{h:Heap}{a C:Addr}(ok:b6 P w H h)(q:lS H a C):∃ ox od,W.InstAt h a ox C od:=by
 obtain⟨fr,q | ⟨d,fs,q,q2⟩⟩:=q
 · obtain⟨ox,od,I,_⟩:=uo (K:=[]) ok q fun d z=>nomatch z
   exact⟨ox,od,I⟩
 · obtain⟨mA,hn,_⟩:=xx ok q2
   obtain⟨ox,od,I,_⟩:=uo (K:=[]) ok q fun d' z=>by cases z;exact let ⟨o,_,_,z,_⟩:=hn; ⟨o,z⟩
   exact⟨ox,od,I⟩
theorem fw:aS X (.builtin "isinstance") (fun xs H Q=>∃ x c t cv b,xs=[x,c]/\ur c=some cv/\xC X.K H x t/\W.kitOne X.K t cv=some b/\Q (.bl b) H):=by
 intro pins s σ H xs us Q I r h
 obtain⟨x,c,t,cv,b,rfl,hc,ty,e,q⟩:=h
 obtain⟨u,u2,rfl,rx,rc⟩:=Vals.two r
 cases JY hc rc
 rcases ty with ty | ⟨a,C,rfl,rfl,ea,c⟩
 · exact IL I rx ty e fun tk=>⟨.bl b,H,I.tok _,rfl,q⟩
 · obtain rfl:u=Value.ref a:=rx
   exact W.kia_one (JA c) I.bf (ea.inst I.hok) e (fun z=>nomatch z) fun tk=>⟨.bl b,H,I.tok _,rfl,q⟩
structure xD(K:W.Frag)(b:V)(B initId:String):Prop where
 get:(∃ D,b = .ref D/\W.specialIn K (.ref D) "__getattribute__" = some (some (.builtin "type.__getattribute__"))/\W.readsIn K D (.type "type")=true/\W.findCls K (.ref D) (.type "type") "__init__" = some (.val (.builtin initId))) \/
  (∃ T,b = .ty T/\typeOf (.type T)=pure (.type "type")/\Manifest.isStub T=false/\W.findCls K (.type T) (.type "type") "__init__" = some (.val (.builtin initId)))
 hh:W.handedIn (.builtin initId)=true
 base:∃ bmB,XB B initId bmB
def JZ(K:W.Frag)(B:String)(t:TA):TE:=fun σ H Q=>t σ H fun vs H1=>∃ a C fr rest,vs = .ref a::rest/\H1 a=some (bY C a none fr)/\XC K C/\W.mroIn K C (.type B)=some true/\rest.length<=1000/\Q .ao H1
theorem J0{b:V}{B initId:String}{x:Str}{p apos pos:Pos}{e:Expr}{es:List Expr}{t:TA}{pl:Sem Bool}(hb:PE X (.Name x p) (tC b))(Z:xD X.K b B initId)(ha:PA X (e::es) t)
 (hst:starEach (e::es) X.env=(false,eval e X.env)::starEach es X.env:=by rfl) (hpl:(backTo pos (starEach es X.env)).any (·.1)=false:=by rfl)
 (ht:eval (.Call (.Attribute (.Name x p) "__init__" apos) (e::es) [] pos) X.env=(do
  let ov <- eval (.Name x p) X.env
  standAt apos.atName
  let (f,first) <- holding [ov] (getMethod ov "__init__" pl)
  callWith pos f first (backTo pos (starEach (e::es) X.env)) (backToKw pos (keywordEach [] X.env))):=by rfl) :
 PE X (.Call (.Attribute (.Name x p) "__init__" apos) (e::es) [] pos) (JZ X.K B t):=by
 intro pins s σ H Q I h
 refine W.methodCall_KW (pl:=pl) (aL (hb pins s σ H (fun v H1=>v=b/\H1=H) I ⟨rfl,rfl⟩) fun u s1 ⟨x',H1,I1,rx,ex,eH⟩=>?_) ht
 subst ex eH
 obtain⟨bmB,F⟩:=Z.base
 have rest:∀ tk,wpAny (model X.prog X.w) X.A (callWith pos (.builtin initId) [] (backTo pos (starEach (e::es) X.env)) (backToKw pos (keywordEach [] X.env))) (EP X pins σ Q) X.xe { s1 with toks:=tk }:=fun tk=>by
  refine PyProof.Rows.callWith_builtin1 (aL (ha pos pins _ σ H1 _ (I1.tok tk) h) fun us s2 ⟨vs,H2,I2,r,a,C,fr,rest,ev,ea,c,hm,hl,q⟩=>?_) hst hpl
  subst ev
  cases r with
  | @cons _ u' _ us' ra rr =>
    obtain rfl:u'=Value.ref a:=ra
    obtain⟨oe,ws,t0,h1,h2,h3,h4,h5,h6,h7⟩:=k7 I2.hok ea
    obtain⟨ox,od,uq,hdd,_⟩:=uo (K:=X.K) I2.hok ea fun d z=>nomatch z
    have e1:=uq.at_
    rw[h1] at e1
    cases e1
    refine JD F I2.bf uq c hm h4 h5 (by rw[<- rr.length,sizeLine_eq];omega) fun h' kp hx=>?_
    refine⟨.ao,H2,?_,rfl,q⟩
    have I3:=I2.write (x:=a) (e:=a) (o:=bY C a none fr) (t':=s2.toks) (h':=h') (by rw[ea];exact True.intro) (.inl rfl) (fun b u hb z=>kp b u hb z) ⟨_,hx⟩ (by
     exact pI hx h2 h3 rfl (show(ws.setIfInBounds 0 (Value.ref s2.heap.objs.size))[0]? = some (.ref s2.heap.objs.size) by have:0<ws.size:=(by omega);simp[Array.getElem?_setIfInBounds,this]) (by simp;exact h6) (fun z=>by rw[Array.getElem?_setIfInBounds_ne (by decide)];exact h7 z))
    have e2:upd H2 a (bY C a none fr)=H2:=by
     funext b
     by_cases z:b=a
     · subst z;rw[cN,ea]
     · rw[aV z]
    rw[e2] at I3
    exact I3
 rcases Z.get with ⟨D,rfl,hg,hr,hc⟩ | ⟨T,rfl,h1,h2,hc⟩
 · obtain rfl:u=Value.ref D:=rx
   exact W.method_cls I1.bf hg (W.cls_value I1.bf hr hc Z.hh (rest _))
 · obtain rfl:u=Value.type T:=rx
   obtain⟨m,Fr⟩:=I1.fr
   exact W.method_type Fr I1.ok.mod.m9 h1 h2 hc Z.hh (rest _)
theorem uu{M:Model}{A:Around}{E:Value->Shared->Prop}{pins:List (Addr×Obj)}{σ:St}{H:Hp}{s:Shared}{i:Nat}{n:Str}{pos:Pos}{Q:Unit->Shared->Prop}(I:Inv X pins σ H s)(hN:X.N.Nodup)(hi:X.N[i]? = some n)(hl:X.env.scope.names.lookup n=some .local)
 (h:∀ s',Inv X pins (σ.set i none) H s'->Q () s'):wpAny M A (do bindName X.env n .none;unbindBehindTheSuite X.env n pos) Q E s:=by
 obtain⟨m,hn,hlk⟩:=id I.loc
 have hcls:(X.env.scope.kind == .class || (X.env.scope.kind == .module && X.env.locals != X.env.globals))=false:=by rw[I.ok.kind];rfl
 have jR:=I.jR
 refine wpAny_nameGoes_keeps hl hn hcls fun h' v hn' hs=>?_
 obtain⟨oL,_,_,hoL,_⟩:=id hn
 have tracked:b6 X.prog X.w H h':=fun b ob e=>by
  refine(I.hok b ob e).stay (fun c w' hc q=>(hs.2 c ?_).trans q) (fun _ q=>q) fun _ _ q=>q
  rintro rfl
  have hfree:=I.free
  rcases hc with rfl | hc
  · rw[hfree] at e;cases e
  · rw[hfree] at hc;cases hc
 refine h _ ⟨I.ok,I.os,I.bare,⟨fun b o e n hb hx=>?_,fun b o e n hb hx=>?_,I.base.free,fun b o e hx=>?_,I.base.tups,I.base.dM,I.base.d_⟩,⟨_,hn',fun j y v' e1 e2 e3=>?_⟩,fun y c e=>?_,I.free,I.bj,fun p hp=>?_,tracked,by simpa using I.len⟩
 · exact(hs.2 b (Nat.ne_of_lt (Nat.lt_of_lt_of_le (Heap.lt_size e) I.ok.above))).trans (I.base.keep b o e n hb hx)
 · obtain⟨sl,e1⟩:=I.base.slot b o e n hb hx
   exact⟨sl,(hs.2 b (Nat.ne_of_lt (Nat.lt_of_lt_of_le (Heap.lt_size e) I.ok.above))).trans e1⟩
 · obtain⟨o',e1⟩:=I.base.there b o e hx
   exact⟨o',(hs.2 b (Nat.ne_of_lt (Nat.lt_of_lt_of_le (Heap.lt_size e) I.ok.above))).trans e1⟩
 · have lM:i<σ.length:=by rw[I.len];exact(List.getElem?_eq_some_iff.mp hi).1
   by_cases hj:j=i
   · subst hj
     rw[List.getElem?_set_self lM] at e2
     cases e2
   · rw[List.getElem?_set_ne (Ne.symm hj)] at e2
     obtain⟨u',r',q⟩:=hlk j y v' e1 e2 e3
     refine⟨u',r',?_⟩
     rcases q with ⟨k,e⟩ | ⟨k,c,e,z⟩
     · refine .inl ⟨k,?_⟩
       have:y≠n:=fun e=>hj (wL hN e1 (e ▸ hi))
       simp[this,e]
     · exact .inr ⟨k,c,e,z.sameBut hs (jR y c e)⟩
 · obtain⟨w',z⟩:=I.cell y c e
   exact⟨w',z.sameBut hs (jR y c e)⟩
 · obtain⟨e,n,ne,nf,d⟩:=I.pin p hp
   exact⟨(hs.2 p.1 ne).trans e,n,ne,nf,d⟩
end
end L2
namespace Ex
open PySem PySem.Spec PyProof.Rows PySem.W PySem.Calls Builtin Builtin.ObjectAttr
def aQ(K:Frag)(C:Addr):List Value->Option Bool
 | []=>some false
 |c::r=>if fR K c=true then (match subIn K (.ref C) c,aQ K C r with
  |some a,some b=>some (a || b)
  | _,_=>none) else none
where fR (K:Frag) (c:Value):Bool:=kitCls K c c == some true && subIn K c (.type "BaseException") == some true
section
variable{M:Model}{A:Around}{E:Value->Shared->Prop}{s:Shared}{K:Frag}
theorem J1{c:Value}{h:Heap}(X:K.In h)(q:aQ.fR K c=true):Looks M h (isExcClass c) true:=by
 unfold aQ.fR at q
 rw[Bool.and_eq_true] at q
 exact(kit_cls X (beq_iff_eq.mp q.1)).2.1.andThen (looks_subIn X (beq_iff_eq.mp q.2))
theorem J2{β:Type}{l:List Value}{b:β}{f:Value->β->Sem (ForInStep β)}{Q:β->Shared->Prop}(hf:∀ c∈l,∀ R:ForInStep β->Shared->Prop,R (.yield b) s->wpAny M A (f c b) R E s)(h:Q b s):wpAny M A (forIn l b f) Q E s:=by
 induction l with
 |nil=>exact wpAny_pure h
 |cons c r ih =>
   rw[List.forIn_cons]
   refine wpAny_bind (hf c (List.mem_cons_self ..) _ ?_)
   exact ih fun c' hc'=>hf c' (List.mem_cons_of_mem _ hc')
theorem J_{C:Addr}{cs:List Value}{b:Bool}{Q:Option Bool×Unit->Shared->Prop}(X:K.In s.heap)(q:aQ K C cs=some b)(h:Q (if b then (some true,()) else (none,())) s) :
 wpAny M A (forIn cs ((none,()):Option Bool×Unit) fun c __s=>do
  let __do_lift <- isSubtype (.ref C) c
  if __do_lift=true then pure (ForInStep.done (some true,())) else pure (ForInStep.yield (none,()))) Q E s:=by
 induction cs generalizing b with
 |nil=>cases q;exact wpAny_pure h
 |cons c r ih =>
   unfold aQ at q
   split at q
   · split at q
     · rename_i a b' e1 e2
       cases q
       rw[List.forIn_cons]
       refine wpAny_bind (wpAny_bind ((looks_subIn X e1).here ?_))
       cases a with
       |true=>exact wpAny_pure (wpAny_pure h)
       |false =>
         refine wpAny_pure ?_
         exact ih e2 (by simpa using h)
     · cases q
   · cases q
theorem C6{C:Addr}:∀ {cs:List Value} {b:Bool},aQ K C cs=some b->∀ c∈cs,aQ.fR K c=true
 | [],_,_,c,hc=>nomatch hc
 |c::r,b,q,c',hc=>by
   unfold aQ at q
   split at q
   · rename_i hk
     split at q
     · rename_i a b' e1 e2
       cases hc with
       |head=>exact hk
       |tail _ m=>exact C6 e2 c' m
     · cases q
   · cases q
theorem Ka{e C p:Addr}{cs:List Value}{b:Bool}{Q:Bool->Shared->Prop}(X:K.In s.heap)(hty:Looks M s.heap (typeOf (.ref e)) (.ref C))(hp:IsTup s.heap p cs.toArray)(q:aQ K C cs=some b)(h:Q b s) :
 wpAny M A (excMatches (.ref e) (.ref p)) Q E s:=by
 obtain⟨o,ho,hc,n,hd⟩:=hp
 unfold excMatches
 refine wpAny_bind (wpAny_isInstance (T := "tuple") ⟨o,ho,hc⟩ (b:=true) (by rw[isSubtype_type];kernel_rfl) ?_)
 have hs:seqItems? (.ref p)=seqItems? (.ref p):=rfl
 obtain⟨oc,odi,oda,osl⟩:=o
 dsimp only at hc hd
 subst hc hd
 have e0:((some cs.toArray).getD #[]).toList=cs:=by simp
 rw[if_pos rfl]
 refine wpAny_bind (m:=seqItems? (.ref p)) (wpAny_mono (Q:=fun r s'=>r=some cs.toArray/\s'=s) (E:=E) ?_ (fun r s' hr=>?_) fun _ _ x=>x)
 · unfold seqItems?
   obtain⟨h0,g,d,t,os⟩:=s
   repeat (first | with_reducible refine wpAny_loadPart_at ho ?_ | exact⟨rfl,rfl⟩ | wp_step)
 obtain⟨rfl,rfl⟩:=hr
 refine wpAny_bind (wpAny_pure ?_)
 rw[e0]
 dsimp only
 refine wpAny_bind (J2 (fun c hc R hR=>?_) ?_)
 · refine wpAny_bind ((J1 X (C6 q c hc)).here ?_)
   exact wpAny_pure hR
 refine wpAny_bind (hty.here (wpAny_bind (J_ X q ?_)))
 cases b<;>exact wpAny_pure h
end
end Ex
namespace L2
open PySem PySem.Spec PyProof.Rows Ex
abbrev Cx.body(X:Cx)(E':Value->Shared->Prop)(pn':List (Addr×Obj)):Cx:={ X with xe:=E',pn:=pn' }
abbrev Cx.hand(X:Cx)(e:Value)(E':Value->Shared->Prop):Cx:={ X with A:=X.A.mark (some e),calm:=false,xe:=E' }
section
variable{X:Cx}{pins:List (Addr×Obj)}{σ:St}{H:Hp}{s:Shared}
theorem Inv.Kb(I:Inv X pins σ H s)(E':Value->Shared->Prop):Inv (X.body E' (X.pn++pins)) [] σ H s :=
 ⟨⟨I.ok.mod,I.ok.kind,I.ok.glob,I.ok.blt,I.ok.above,I.ok.inj,I.ok.has,I.ok.cab,I.ok.hd,I.ok.frames,I.ok.m_,I.ok.kX,I.ok.bs,I.ok.iS,I.ok.fM,I.ok.eV,I.ok.cz,I.ok.jQ⟩,I.os,I.bare,I.base,I.loc,I.cell,I.free,I.bj,
   fun p hp=>I.pin p (by simpa using hp),I.hok,I.len⟩
theorem Inv.qX{ef:List (Addr×Obj)}{E':Value->Shared->Prop}(I:Inv (X.body E' (X.pn++pins)) ef σ H s):Inv X pins σ H s :=
 ⟨⟨I.ok.mod,I.ok.kind,I.ok.glob,I.ok.blt,I.ok.above,I.ok.inj,I.ok.has,I.ok.cab,I.ok.hd,I.ok.frames,I.ok.m_,I.ok.kX,I.ok.bs,I.ok.iS,I.ok.fM,I.ok.eV,I.ok.cz,I.ok.jQ⟩,I.os,I.bare,I.base,I.loc,I.cell,I.free,I.bj,
   fun p hp=>I.pin p (List.mem_append_left _ hp),I.hok,I.len⟩
theorem Inv.Kc(I:Inv X pins σ H s)(e:Value)(E':Value->Shared->Prop):Inv (X.hand e E') pins σ H s :=
 ⟨⟨I.ok.mod,I.ok.kind,I.ok.glob,I.ok.blt,I.ok.above,I.ok.inj,I.ok.has,I.ok.cab,(fun z=>nomatch z),I.ok.frames,I.ok.m_,I.ok.kX,I.ok.bs,I.ok.iS,I.ok.fM,I.ok.eV,I.ok.cz,I.ok.jQ⟩,I.os,I.bare,I.base,I.loc,I.cell,I.free,I.bj,I.pin,I.hok,I.len⟩
theorem Inv.uv{e:Value}{E':Value->Shared->Prop}(I:Inv (X.hand e E') pins σ H s)(hd:X.calm=true->X.A.handled=none):Inv X pins σ H s :=
 ⟨⟨I.ok.mod,I.ok.kind,I.ok.glob,I.ok.blt,I.ok.above,I.ok.inj,I.ok.has,I.ok.cab,hd,I.ok.frames,I.ok.m_,I.ok.kX,I.ok.bs,I.ok.iS,I.ok.fM,I.ok.eV,I.ok.cz,I.ok.jQ⟩,I.os,I.bare,I.base,I.loc,I.cell,I.free,I.bj,I.pin,I.hok,I.len⟩
theorem Inv.landed{e C T':Addr}{tb:Option Addr}{h' h'':Heap}(I:Inv X pins σ H s)(ex:∃ dd,H e=some (bY C e dd false))(hT:∀ T,tb=some T->H T=none/\X.s₀.heap.objs.size<=T/\∀ p∈X.pn++pins,p.1≠T)
 (xE:∀ T,tb=some T->∃ oT ts,s.heap.get? T=some oT/\oT.data = .fields ts) (S:Step (frs X.stack) e tb s.heap h') (hle:s.heap.objs.size<=T') (oth:∀ b,b≠T'->h''.get? b=h'.get? b):Inv X pins σ H { s with heap:=h'' }:=by
 obtain⟨dd,ex⟩:=ex
 obtain⟨oe,vs,t0,he,hc,hdd,hd,h0,hsz,_⟩:=k7 I.hok ex
 have hT':∀ b o,s.heap.get? b=some o->b≠T':=fun b o z=>Nat.ne_of_lt (Nat.lt_of_lt_of_le (Heap.lt_size z) hle)
 have keep:∀ b o,s.heap.get? b=some o->b≠e->tb≠some b->b ∉ frs X.stack->h''.get? b=some o:=fun b o z a1 a2 a3=>(oth b (hT' b o z)).trans (S.keep b o z a1 a2 a3)
 have tracked:∀ b u,H b=some u->b ∉ frs X.stack:=fun b u z hb=>by
  have n:=I.dS b hb
  rw[z] at n
  cases n
 have ne:∀ b,H b=none->b≠e:=fun b z y=>by rw[y,ex] at z;cases z
 refine I.jS (s':={ s with heap:=h'' }) (ch:=tb.toList) rfl ⟨fun b o z n hb hx=>?_,fun b o z n hb hx=>?_,fun b o z n _=>n,fun b o z _=>?_,fun _ _ z=>z,fun _ _ _ z=>z,fun b ps z=>⟨#[],by rw[z];simp⟩⟩ (fun b u z=>?_) I.bare fun b hb=>?_
 · exact keep b o z (ne b n) (fun y=>hx (by rw[y];simp)) hb
 · obtain⟨sl,e1⟩:=S.slot b o z (ne b n) (fun y=>hx (by rw[y];simp))
   exact⟨sl,(oth b (hT' b o z)).trans e1⟩
 · obtain⟨o2,e2⟩:=S.there b o z
   exact⟨o2,(oth b (hT' b o z)).trans e2⟩
 · by_cases hb:b=e
   · subst hb
     rw[ex] at z
     cases z
     obtain⟨vs',e1,e2,e3⟩:=S.exc oe vs he hd
     exact pI ((oth b (hT' b _ he)).trans e1) hc hdd rfl (by rw[e2];exact h0) (by rw[e3];exact hsz) fun z=>nomatch z
   · refine(I.hok b u z).stay (fun c v hcv r=>?_) (fun _ r=>r) fun _ _ r=>r
     have ne2:c≠e:=by
      rcases hcv with rfl | hcv
      · exact hb
      · exact m8 hcv ex (by intro y;cases y)
     have tr:∃ u',H c=some u':=by
      rcases hcv with rfl | hcv
      · exact⟨_,z⟩
      · exact⟨_,hcv⟩
     obtain⟨u',hu'⟩:=tr
     exact keep c v r ne2 (fun y=>by have:=(hT c y).1;rw[hu'] at this;cases this) (tracked c u' hu')
 · cases tb with
   |none=>simp at hb
   |some T =>
     have:b=T:=by simpa using hb
     subst this
     obtain⟨a1,a2,a3⟩:=hT b rfl
     obtain⟨oT,ts,g1,g2⟩:=xE b rfl
     refine⟨.inr a2,fun y=>?_,fun x c hx y=>?_,a3⟩
     · obtain⟨m,⟨o,es,ep,ho,hd',_⟩,_⟩:=I.loc
       rw[y,ho] at g1
       cases g1
       rw[hd'] at g2
       cases g2
     · obtain⟨v,o,ho,hd'⟩:=I.cell x c hx
       rw[y,g1] at ho
       cases ho
       rw[hd'] at g2
       cases g2
def PN(X:Cx)(es:List Expr)(us:List Value):Prop :=
 ∀ (A:Around) (E:Value->Shared->Prop) (pos:Pos) (pins:List (Addr×Obj)) (σ:St) (H:Hp) (s:Shared) (Q:List Value->Shared->Prop),Inv X pins σ H s->Q us s->wpAny (model X.prog X.w) A (spliced (backTo pos (starEach es X.env))) Q E s
theorem Ke:PN X [] []:=fun _ _ _ _ _ _ _ _ _ h=>Calls.spliced_nil h
theorem xF{x:Str}{p:Pos}{es:List Expr}{u:Value}{us:List Value}(hg:Gl X x)(hm:X.mg x=some u)(hr:PN X es us)(hd:(x == ("__debug__" : Str))=false:=by decide)
 (hs:starEach (.Name x p::es) X.env=(false,eval (.Name x p) X.env)::starEach es X.env:=by rfl):PN X (.Name x p::es) (u::us):=by
 intro A E pos pins σ H s Q I h
 rw[hs]
 show wpAny _ _ (spliced ((false,eval (.Name x p) X.env)::backTo pos (starEach es X.env))) _ _ s
 refine Calls.spliced_cons (Calls.Name_function_global I.ok.kind hg (Calls.loadGlobal_global (by rw[I.ok.glob];exact I.mod.glob.keeps I.bk) hm ?_) hd)
 exact hr A E pos pins σ H s _ I h
section
variable{X:Cx}
def C7(K:W.Frag)(cs:List Value)(i:Nat)(tb:a9->TS)(ts:TS):TS:=fun D σ H =>
 tb (fun ay cls ea H'=>∃ a C,cls = .ref C/\ea=some a/\aQ K C cs=some true /\
  ts { nx:=fun jX qY=>D.nx (jX.set i none) qY,rt:=D.rt,bk:=fun jX qY=>D.bk (jX.set i none) qY,ct:=fun jX qY=>D.ct (jX.set i none) qY } (ay.set i (some (.ref a))) H') D σ H
theorem Kf{body suite:List Stmt}{qZ:Stmt}{n:Str}{i:Nat}{es:List Expr}{cs:List Value}{k1 p1 hpos pos}{tb:a9->TS}{ts:TS}(hst:X.stack=X.env::X.outer/\X.env.frame=some X.env.locals)
 (hN:X.N.Nodup) (hi:X.N[i]? = some n) (hl:X.env.scope.names.lookup n=some .local) (hes:PN X es cs) (hcs:cs.length<=1000)
 (hb:∀ E' pn' EE,XOk (X.body E' pn') EE->PSs (X.body E' pn') body (tb EE)) (hs:∀ a,PSs (X.hand (.ref a) fun _ _=>False) (qZ::suite) ts) :
 PS X (.Try body [.ExceptHandler (some (.Tuple es k1 p1)) (some n) (qZ::suite) hpos] [] [] pos) (C7 X.K cs i tb ts):=by
 intro pins s σ H D I h
 refine wpAny_Try_except ?_
 have fin:∀ {f:Flow} {s1:Shared},SP X pins D f s1->(match f with | .next=>wpAny (model X.prog X.w) X.A (execs [] X.env) (SP X pins D) X.xe s1 | f=>SP X pins D f s1):=fun {f s1} hsp=>by
  cases f<;>first | exact hsp | exact wpAny_execs_nil hsp
 refine wpAny_mono (hb _ (X.pn++pins) _ ?_ [] s σ H D (I.Kb _) h) (fun f s1 hsp=>fin ?_) fun e s1 z=>z
 · -- what is wanted of exceptions
   intro ef ay H' s' e C I' T q
   obtain⟨ex,lo,tb',F,hT⟩:=T
   have I1:Inv X pins ay H' s':=I'.qX
   have hT1:∀ T,tb'=some T->H' T=none/\X.s₀.heap.objs.size<=T/\∀ p∈X.pn++pins,p.1≠T:=fun T z=>⟨(hT T z).1,(hT T z).2.1,fun p hp=>(hT T z).2.2 p (List.mem_append_left _ hp)⟩
   have xE:∀ T,tb'=some T->∃ oT ts,s'.heap.get? T=some oT/\oT.data = .fields ts:=fun T z=>by
    subst z
    obtain⟨_,_,oT,ts,_,_,_,_,g1,g2,_⟩:=F
    exact⟨oT,ts,g1,g2⟩
   obtain⟨dd,ex'⟩:=id ex
   obtain⟨oe,vs,t0,he,hc,hdd,hd,h0,hsz,_⟩:=k7 I1.hok ex'
   have hfr:X.A.frames=some (X.env::X.outer):=by rw[I1.ok.frames,hst.1]
   have hfl:s'.heap.FunFrames X.base (X.env::X.outer):=by rw[<- hst.1];exact I1.stack
   show wpAny (model X.prog X.w) X.A (noteFrame (.ref e) X.env) _ X.xe s'
   refine C2 (L:=X.env.locals) hfr hfl hst.2 F (fun oe' vs' a b=>by rw[he] at a;cases a;rw[hd] at b;cases b;exact hsz) fun h' T' S hle FF=>?_
   refine xw (s:={ s' with heap:=h' }) FF fun h'' oth F2=>?_
   have I2:Inv X pins ay H' { s' with heap:=h'' }:=I1.landed ex hT1 xE (by rw[hst.1];exact S) hle oth
   obtain⟨a,C',ec,ea,hm,hk⟩:=q
   cases ec
   cases ea
   obtain⟨PU,vs2,t2,he2,hc2,_⟩:=k7 I2.hok ex'
   refine wpAny_handleBy_cons (codeAny_handlers_test ?_) (by intro q;cases q)
   refine wpAny_Tuple_spliced (hes _ _ _ pins ay H' _ _ I2 ⟨by rw[sizeLine_eq];omega,?_⟩)
   have I3:Inv X pins ay H' { s' with heap:=h''.push { cls:=.type "tuple",data:=.seq cs.toArray } }:=I2.kept (t':=s'.toks) fun b u z=>Heap.get?_push_of_some _ z
   have Kg:=Heap.get?_push_of_some { cls:=.type "tuple",data:=.seq cs.toArray } he2
   have F3:nk (h''.push { cls:=.type "tuple",data:=.seq cs.toArray }) e .none (some T'):=by
    obtain⟨o1,v1,o2,v2,g1,g2,g3,g4,g5,g6,g7⟩:=F2
    exact⟨o1,v1,o2,v2,Heap.get?_push_of_some _ g1,g2,g3,g4,Heap.get?_push_of_some _ g5,g6,g7⟩
   have LT:W.Looks (model X.prog X.w) (h''.push { cls:=.type "tuple",data:=.seq cs.toArray }) (typeOf (.ref e)) (.ref C):=hc2 ▸ (W.Looks.ld Kg).andThen .now
   refine Ka (s:={ s' with heap:=h''.push { cls:=.type "tuple",data:=.seq cs.toArray } }) I3.bf LT ⟨_,Heap.get?_push_size _ rfl,rfl,_,rfl⟩ hm ?_
   apply codeAny_handlers_suite_as
   refine xw (s:={ s' with heap:=h''.push { cls:=.type "tuple",data:=.seq cs.toArray } }) F3 fun h4 xG F4=>?_
   have I4:Inv X pins ay H' { s' with heap:=h4 }:=by
    refine I3.turned (t':=s'.toks) (fun b o hb z=>(xG b hb).trans z) (I1.hok.fresh hle) (Nat.ne_of_gt (Nat.lt_of_lt_of_le I1.lt hle)) (.inr (Nat.le_trans I1.sz hle)) (fun x c hx=>?_) fun p hp=>?_
    · obtain⟨v,o,ho,_⟩:=I1.cell x c hx
      exact Nat.ne_of_lt (Nat.lt_of_lt_of_le (Heap.lt_size ho) hle)
    · exact Nat.ne_of_lt (Nat.lt_of_lt_of_le (Heap.lt_size (I1.pin p hp).1) hle)
   refine t_ (s:={ s' with heap:=h4 }) I4 hN hi (.inl hl) (v:=.ref e) rfl (fun s5 I5=>?_) (.inr hl)
   refine wpAny_mono (PSs.jU (X:=X.hand (.ref e) _) (hs e) pins s5 _ _ _ (I5.Kc _ _) hk) (fun f s6 hsp=>?_) fun x s6 z=>z
   show wpAny _ _ _ _ _ _
   cases f with
   |next =>
     obtain⟨eg,H6,J,z⟩:=hsp
     exact uu (J.uv I.ok.hd) hN hi hl fun s7 I7=>⟨_,_,I7,z⟩
   |brk =>
     obtain⟨eg,H6,J,z⟩:=hsp
     exact uu (J.uv I.ok.hd) hN hi hl fun s7 I7=>⟨_,_,I7,z⟩
   |cont =>
     obtain⟨eg,H6,J,z⟩:=hsp
     exact uu (J.uv I.ok.hd) hN hi hl fun s7 I7=>⟨_,_,I7,z⟩
   |ret u =>
     obtain⟨v,eg,H6,J,rv,z⟩:=hsp
     exact uu (J.uv I.ok.hd) hN hi hl fun s7 I7=>⟨v,_,_,I7,rv,z⟩
 · cases f with
   |next=>obtain⟨eg,H6,J,z⟩:=hsp;exact⟨eg,H6,J.qX,z⟩
   |brk=>obtain⟨eg,H6,J,z⟩:=hsp;exact⟨eg,H6,J.qX,z⟩
   |cont=>obtain⟨eg,H6,J,z⟩:=hsp;exact⟨eg,H6,J.qX,z⟩
   |ret u=>obtain⟨v,eg,H6,J,rv,z⟩:=hsp;exact⟨v,eg,H6,J.qX,rv,z⟩
end
end
structure C8(env:Env)(scope:Scope)(cl:List (Str×Addr)):Prop where
 clos:closureFor scope env=pure cl
 sub:∀ x c,cl.lookup x=some c->env.cells.lookup x=some c
 has:∀ x,(x,NameKind.free)∈scope.names->∃ c,cl.lookup x=some c
theorem lookup_mem{α:Type}{x:Str}{c:α}:∀ {l:List (Str×α)},l.lookup x=some c->(x,c)∈l
 | [],h=>by simp at h
 | (y,d)::r,h=>by
   rw[List.lookup_cons] at h
   split at h
   · rename_i q
     cases h
     rw[beq_iff_eq.mp q]
     exact List.mem_cons_self ..
   · exact List.mem_cons_of_mem _ (lookup_mem h)
theorem mem_lookup{α:Type}{x:Str}{c:α}:∀ {l:List (Str×α)},(x,c)∈l->∃ d,l.lookup x=some d
 | [],h=>nomatch h
 | (y,d)::r,h=>by
   rw[List.lookup_cons]
   split
   · exact⟨d,rfl⟩
   · rename_i q
     rcases List.mem_cons.mp h with z | z
     · cases z;simp at q
     · exact mem_lookup z
theorem C9{env:Env}{scope:Scope}(h:∀ x,(x,NameKind.free)∈scope.names->∃ c,env.cells.lookup x=some c):∃ cl,C8 env scope cl:=by
 have go:∀ (names:List (Str×NameKind)) (cs:List (Str×Addr)),(∀ x,(x,NameKind.free)∈names->∃ c,env.cells.lookup x=some c) ->
  ∃ cl,(forIn (m:=Sem) names cs fun x r=>(match x with | (name,kind)=>if (kind == NameKind.free)=true then do let a <- cellOf env name;pure (ForInStep.yield ((name,a)::r)) else pure (ForInStep.yield r)))=pure cl /\
   (∀ y c,(y,c)∈cl->(y,c)∈cs\/env.cells.lookup y=some c)/\(∀ y c,(y,c)∈cs->(y,c)∈cl)/\(∀ y,(y,NameKind.free)∈names->∃ c,(y,c)∈cl):=by
  intro names
  induction names with
  |nil=>intro cs _;exact⟨cs,rfl,fun _ _ z=>.inl z,fun _ _ z=>z,fun _ z=>nomatch z⟩
  |cons p r ih =>
    intro cs hh
    obtain⟨y,k⟩:=p
    by_cases hk:k = .free
    · subst hk
      obtain⟨c,hc⟩:=hh y (List.mem_cons_self ..)
      obtain⟨cl,e,h1,h2,h3⟩:=ih ((y,c)::cs) fun x hx=>hh x (List.mem_cons_of_mem _ hx)
      refine⟨cl,?_,fun z d hz=>?_,fun z d hz=>h2 z d (List.mem_cons_of_mem _ hz),fun z hz=>?_⟩
      · have ec:cellOf env y=pure c:=by simp only[cellOf,hc]
        rw[List.forIn_cons]
        simp only[beq_self_eq_true,if_true,ec,pure_bind]
        exact e
      · rcases h1 z d hz with q | q
        · rcases List.mem_cons.mp q with q | q
          · cases q;exact .inr hc
          · exact .inl q
        · exact .inr q
      · rcases List.mem_cons.mp hz with q | q
        · cases q;exact⟨c,h2 _ _ (List.mem_cons_self ..)⟩
        · exact h3 z q
    · obtain⟨cl,e,h1,h2,h3⟩:=ih cs fun x hx=>hh x (List.mem_cons_of_mem _ hx)
      refine⟨cl,?_,h1,h2,fun z hz=>?_⟩
      · rw[List.forIn_cons]
        have:(k == NameKind.free)=false:=by simpa using hk
        simp only[this,Bool.false_eq_true,if_false,pure_bind]
        exact e
      · rcases List.mem_cons.mp hz with q | q
        · cases q;exact absurd rfl hk
        · exact h3 z q
 obtain⟨cl,e,h1,h2,h3⟩:=go scope.names [] h
 refine⟨cl,?_,fun x c hx=>?_,fun x hx=>?_⟩
 · unfold closureFor
   first
    |exact e
    | (show(forIn (m:=Sem) scope.names ([]:List (Str×Addr)) _ >>= fun r=>pure r)=pure cl;rw[bind_pure];exact e)
    | (rw[bind_pure];exact e)
    | (trace_state;fail "x")
 · exact(h1 x c (lookup_mem hx)).elim (fun z=>nomatch z) id
 · obtain⟨c,hc⟩:=h3 x hx
   exact mem_lookup hc
abbrev Cx.blk(X:Cx)(Nc:List Str)(scope:Scope)(cl:List (Str×Addr))(C:Addr)(s3:Shared)(H3:Hp)(fp:List Addr)(pn':List (Addr×Obj))(E':Value->Shared->Prop):Cx :=
 { X with N:=Nc,s₀:=s3,H₀:=H3,env:=compEnvC scope cl C X.env,outer:=X.stack,ex:=fp,fn:=fun _=>false,pn:=pn',xe:=E' }
def aj(fr:List Nat)(own:Nat)(σ:St):St:=List.replicate own none++fr.map fun j=>(σ[j]?).join
structure e_(X:Cx)(scope:Scope)(Nc:List Str)(own:Nat)(fr:List Nat):Prop where
 len:Nc.length=own+fr.length
 free:∀ (k j:Nat) (x:Str),fr[k]? = some j->Nc[own+k]? = some x->X.N[j]? = some x/\(X.env.scope.names.lookup x=some .cell\/X.env.scope.names.lookup x=some .free)/\scope.names.lookup x=some .free
 kind:scope.kind = .function
 fS:∀ y∈scope.names,y.2 ≠ .cell
 names:∀ x∈scope.names,x.2 = .local->scope.names.lookup x.1=some .local
 frees:∀ x,(x,NameKind.free)∈scope.names->X.env.scope.names.lookup x=some .cell\/X.env.scope.names.lookup x=some .free
def n9(X:Cx)(ifs:List Expr)(t:TT):Prop :=
 ∀ (pins:List (Addr×Obj)) (s:Shared) (σ:St) (H:Hp) (Q:Bool->Hp->Prop),Inv X pins σ H s->t σ H Q ->
  wpAny (model X.prog X.w) X.A (forIn ifs true fun c r=>if r=true then do let ok <- isTrue c X.env (eval c X.env);pure (ForInStep.yield ok) else pure (ForInStep.yield r)) (TP X pins σ Q) X.xe s
theorem Kh{X:Cx}:n9 X [] (fun _ H Q=>Q true H):=fun _ _ _ H _ I h=>wpAny_tests_nil ⟨H,I,h⟩
def xH(fr:List Nat)(own:Nat)(wi:TI)(g:TG)(tc:TT)(te:TE):TE:=fun σ H Q=>wi σ H fun J H1=>∀ D,H1 D=none->∃ W:Nat->Nat->List V->Hp->Prop,(∃ m,W 0 m [] (upd H1 D (.lst []))) /\
 ∀ i m ys H2,H2 D=some (.lst ys)->W i m ys H2->(J.stop i H2/\Q (.ref D) H2)\/(J.go i H2/\ys.length<sizeLine/\∀ x H3,J.nh i H2 x H3->g x (aj fr own σ) H3 fun c9 H4=>tc c9 H4 fun b H5 =>
  if b=true then te c9 H5 fun y H6=>H6 D=some (.lst ys)/\∃ m',m'<m/\W (i+1) m' (ys++[y]) (upd H6 D (.lst (ys++[y]))) else H5 D=some (.lst ys)/\∃ m',m'<m/\W (i+1) m' ys H5)
theorem C_{scope:Scope}{env:Env}{x:Str}(hn:∀ y∈scope.names,y.2 ≠ .cell){k:NameKind}(h:(relabel scope env).names.lookup x=some k)(hk:k = .cell\/k = .free):(x,NameKind.free)∈scope.names:=by
 have m:=lookup_mem h
 obtain⟨⟨y,k'⟩,hy,e⟩:=List.mem_map.mp m
 dsimp only at e
 split at e
 · rename_i q
   rw[Bool.and_eq_true,Bool.and_eq_true] at q
   have Ki:=beq_iff_eq.mp q.1.1
   cases e
   rw[Ki] at hy
   exact hy
 · cases e
   rcases hk with rfl | rfl
   · exact absurd rfl (hn _ hy)
   · exact hy
theorem Kj{scope:Scope}{env:Env}{x:Str}(h:scope.names.lookup x=some .free):(relabel scope env).names.lookup x=some .cell\/(relabel scope env).names.lookup x=some .free:=by
 unfold relabel
 dsimp only
 generalize scope.names=l at h
 induction l with
 |nil=>simp at h
 |cons p r ih =>
   obtain⟨y,k⟩:=p
   rw[List.lookup_cons] at h
   rw[List.map_cons, ]
   split at h
   · rename_i q
     cases h
     dsimp only
     split
     · rw[List.lookup_cons,q];exact .inl rfl
     · rw[List.lookup_cons,q];exact .inr rfl
   · rename_i q
     dsimp only
     split
     · rw[List.lookup_cons,q];exact ih h
     · rw[List.lookup_cons,q];exact ih h
section
variable{X:Cx}{pins:List (Addr×Obj)}{σ:St}{H:Hp}{s:Shared}
theorem Inv.block{scope:Scope}{Nc:List Str}{own:Nat}{fr:List Nat}{cl:List (Str×Addr)}{fp:List Addr}{h₁:Heap}{t':Nat}{E':Value->Shared->Prop}(I:Inv X pins σ H s)(B:e_ X scope Nc own fr)(ir:C8 X.env scope cl)
 (hfp:∀ b∈fp,g9 X pins H b/\∃ o,s.heap.get? b=some o) (hns:h₁.Ns s.heap.objs.size (fun _=>none)) (keep:∀ b o,s.heap.get? b=some o->h₁.get? b=some o) :
 Inv (X.blk Nc scope cl s.heap.objs.size s H fp (X.pn++pins) E') [] (aj fr own σ) H { s with heap:=h₁,toks:=t' }:=by
 have lt:∀ b∈fp,b<s.heap.objs.size:=fun b hb=>let ⟨_,_,e⟩:=hfp b hb;Heap.lt_size e
 have xI:∀ x c,X.env.cells.lookup x=some c->c<s.heap.objs.size:=fun x c e=>let ⟨_,_,e,_⟩:=I.cell x c e;Heap.lt_size e
 refine⟨⟨I.ok.mod,B.kind,I.ok.glob,I.ok.blt,Nat.le_refl _,fun x y c h1 h2=>I.ok.inj x y c (ir.sub x c h1) (ir.sub y c h2),fun x hx=>?_,(fun x c z=>nomatch z),I.ok.hd,I.ok.frames,.inl rfl,fun b hb=>?_,I.bs,Nat.le_trans I.ok.iS I.sz,fun b o e hb=>?_,fun b hb=>?_,I.stack,I.dS⟩,
  rfl,I.bare,Un.kept keep,⟨_,hns,fun i x v e1 e2 e3=>?_⟩,fun x c e=>?_,I.hok.fresh (Nat.le_refl _),fun x c e=>I.bj x c (ir.sub x c e),fun p hp=>?_,I.hok.kept keep,?_⟩
 · rcases hx with hx | hx
   · exact ir.has x (C_ B.fS hx (.inl rfl))
   · exact ir.has x (C_ B.fS hx (.inr rfl))
 · exact⟨Nat.ne_of_lt (lt b hb),fun x c e z=>(hfp b hb).1.2.2.2.2.1 x c (ir.sub x c e) z⟩
 · -- a base object is no iterator of ours
   have e0:=I.ok.bs b o e
   rcases(hfp b hb).1.2.2.2.1 with z | z
   · exact I.ok.fM b o e z
   · exact absurd (Nat.lt_of_lt_of_le (Nat.lt_of_lt_of_le (Heap.lt_size e) I.ok.iS) z) (Nat.lt_irrefl _)
 · intro z
   rcases List.mem_cons.mp (I.fN b z) with z | z
   · exact(hfp b hb).1.2.1 z
   · exact(hfp b hb).1.2.2.1 z
 · -- a slot
   unfold aj at e2
   by_cases hi:i<own
   · rw[List.getElem?_append_left (by simpa using hi),List.getElem?_replicate,if_pos hi] at e2
     cases e2
   · have hge:own<=i:=Nat.le_of_not_lt hi
     rw[List.getElem?_append_right (by simpa using hge),List.length_replicate,List.getElem?_map] at e2
     cases hj:fr[i - own]? with
     |none=>rw[hj] at e2;cases e2
     |some j =>
       rw[hj] at e2
       have e2':(σ[j]?).join=some v:=by simpa using e2
       have e4:σ[j]? = some (some v):=by
        cases q:σ[j]? with
        |none=>rw[q] at e2';cases e2'
        |some o=>rw[q] at e2';have:o=some v:=e2';rw[this]
       have e5:Nc[own+(i - own)]? = some x:=by rw[Nat.add_sub_cancel' hge];exact e1
       obtain⟨n1,n2,n3⟩:=B.free (i - own) j x hj e5
       obtain⟨m,hn,hl⟩:=I.loc
       have Kk:t8 X.env.scope x:=n2.elim (fun z=>.inr (.inl z)) fun z=>.inr (.inr z)
       obtain⟨u,r,l⟩:=hl j x v n1 e4 Kk
       refine⟨u,r,.inr ⟨Kj n3,?_⟩⟩
       rcases l with ⟨k,_⟩ | ⟨_,c,hc,hcell⟩
       · rcases n2 with n2 | n2
         · have k':X.env.scope.names.lookup x=some .local:=k
           rw[n2] at k';cases k'
         · have k':X.env.scope.names.lookup x=some .local:=k
           rw[n2] at k';cases k'
       · obtain⟨c',hc'⟩:=ir.has x (lookup_mem n3)
         have e6:=ir.sub x c' hc'
         rw[hc] at e6
         cases e6
         obtain⟨o,ho,hd⟩:=hcell
         exact⟨c,hc',o,keep _ _ ho,hd⟩
 · obtain⟨v,o,ho,hd⟩:=I.cell x c (ir.sub x c e)
   exact⟨v,o,keep _ _ ho,hd⟩
 · have hp':p∈X.pn++pins:=by simpa using hp
   obtain⟨e,n,ne,nf,d⟩:=I.pin p hp'
   refine⟨keep _ _ e,n,Nat.ne_of_lt (Heap.lt_size e),fun z=>?_,d⟩
   rcases List.mem_cons.mp (I.fN p.1 z) with z | z
   · exact ne z
   · exact nf z
 · show(aj fr own σ).length=Nc.length
   unfold aj
   rw[List.length_append,List.length_replicate,List.length_map,B.len]
theorem Inv.iW{scope:Scope}{Nc:List Str}{cl:List (Str×Addr)}{fp:List Addr}{E':Value->Shared->Prop}{ef:List (Addr×Obj)}{ay:St}{H':Hp}{s':Shared}{h':Heap}(I:Inv X pins σ H s)(hfp:∀ b∈fp,g9 X pins H b)
 (J:Inv (X.blk Nc scope cl s.heap.objs.size s H fp (X.pn++pins) E') ef ay H' s') (sb:Heap.SameBut s.heap.objs.size s'.heap h'):Inv X pins σ H' { s' with heap:=h' }:=by
 have ne:∀ b o,s.heap.get? b=some o->b≠s.heap.objs.size:=fun b o e=>Nat.ne_of_lt (Heap.lt_size e)
 have hC:H' s.heap.objs.size=none:=J.free
 refine I.jS (s':={ s' with heap:=h' }) (ch:=fp) J.os ⟨fun b o e n hb hx=>?_,fun b o e n hb hx=>?_,J.base.free,fun b o e hx=>?_,J.base.tups,J.base.dM,J.base.d_⟩ (fun b u e=>?_) J.bare fun b hb=>?_
 · exact(sb.2 b (ne b o e)).trans (J.base.keep b o e n hb hx)
 · obtain⟨sl,z⟩:=J.base.slot b o e n hb hx
   exact⟨sl,(sb.2 b (ne b o e)).trans z⟩
 · obtain⟨o',z⟩:=J.base.there b o e hx
   exact⟨o',(sb.2 b (ne b o e)).trans z⟩
 · refine(J.hok b u e).stay (fun c v hc q=>(sb.2 c ?_).trans q) (fun _ q=>q) fun _ _ q=>q
   rintro rfl
   rcases hc with rfl | hc
   · rw[hC] at e;cases e
   · rw[hC] at hc;cases hc
 · obtain⟨f0,f1,f2,f3,f4,f5⟩:=hfp b hb
   exact⟨f3,f1,f4,f5⟩
def k9(own:Nat)(g:TG):Prop:=∀ (x:V) (σ:St) (H:Hp) (Q:St->Hp->Prop),g x σ H Q->g x σ H fun ay H'=>Q ay H'/\∀ k,own<=k->ay[k]? = σ[k]?
def uw(own:Nat)(g:ja):Prop:=∀ (x:List V) (σ:St) (H:Hp) (Q:St->Hp->Prop),g x σ H Q->g x σ H fun ay H'=>Q ay H'/\∀ k,own<=k->ay[k]? = σ[k]?
theorem Dc{own i:Nat}(h:i<own):k9 own (ng i):=fun x σ H Q q=>⟨q,fun k hk=>List.getElem?_set_ne (by omega)⟩
theorem ux{own:Nat}:uw own wQ:=fun x σ H Q q=>⟨q.1,q.2,fun _ _=>rfl⟩
theorem nu{own i:Nat}{u:ja}(h:i<own)(hu:uw own u):uw own (wR (ng i) u):=fun x σ H Q q=>by
 obtain⟨v,r,e,q⟩:=q
 refine⟨v,r,e,?_⟩
 have q':=hu r _ H _ q
 have e2:(fun ay H'=>Q ay H'/\∀ k,own<=k->ay[k]? = (σ.set i (some v))[k]?)=(fun ay H'=>Q ay H'/\∀ k,own<=k->ay[k]? = σ[k]?):=by
  funext ay H'
  apply propext
  constructor
  · rintro⟨a,b⟩
    exact⟨a,fun k hk=>by rw[b k hk,List.getElem?_set_ne (by omega)]⟩
  · rintro⟨a,b⟩
    exact⟨a,fun k hk=>by rw[b k hk,List.getElem?_set_ne (by omega)]⟩
 rw[e2] at q'
 exact q'
theorem uy{own n:Nat}{K:W.Frag}{u:ja}(hu:uw own u):k9 own (wU K n u):=fun x σ H Q q=>by
 obtain⟨a,xs,e1,e2,e3,q⟩:=q
 exact⟨a,xs,e1,e2,e3,hu xs σ H Q q⟩
end
def turnOf(e:Expr)(k:Nat)(tg:Expr)(p:Pos)(ifs:List Expr)(act:Sem Unit)(it acc:Value)(env:Env):Sem Fin:=do
 standAt p
 match <- pyNext it with
 |none=>pure (.done .next)
 |some v =>
   letOwnedTupleGo tg it v
   assign tg env v
   let mut ok:=true
   for c in ifs do
    if ok then ok <- isTrue c env (eval c env)
   if ok then act
   again (.compLoop e k it acc env)
abbrev Kl(M:Model)(A:Around)(env:Env)(tg:Expr)(it:Value)(ifs:List Expr)(act:Sem Unit)(N:Value->Shared->Prop)(next:Shared->Prop)(v:Value)(s:Shared):Prop :=
 wpAny M A (letOwnedTupleGo tg it v) (fun _ a=>wpAny M A (assign tg env v) (fun _ b =>
  wpAny M A (forIn ifs true fun c r=>if r=true then do let ok <- isTrue c env (eval c env);pure (ForInStep.yield ok) else pure (ForInStep.yield r)) (fun yes c =>
   if yes=true then wpAny M A act (fun _=>next) N c else next c) N b) N a) N s
theorem Km{prog:Program}{w:World}{A:Around}{R:Result->Shared->Prop}{s:Shared}{el tg:Expr}{gs:List Comprehension}{sc:Scope}{pos:Pos}{k:Nat}{p:Pos}{ifs:List Expr}{act:Sem Unit}{it acc:Value}{env:Env}(ht:compTurn (.ListComp el gs sc pos) k it acc env=turnOf (.ListComp el gs sc pos) k tg p ifs act it acc env)(J:Nat->Shared->Prop)(n:Nat)(start:J n s)
 (turn:∀ n s,J n s->wpAny (model prog w) A (pyNext it) (fun r a=>match r with
  |none=>R (.ok .next) a
  |some v=>Kl (model prog w) A env tg it ifs act (notedBy (model prog w) A env fun x=>R (.error x)) (fun b=>∃ m,m<n/\J m b) v a) (notedBy (model prog w) A env fun x=>R (.error x)) s) :
 codeAny (model prog w) A (.compLoop (.ListComp el gs sc pos) k it acc env) R s:=by
 apply codeAny_loop rfl J _ n start
 intro n s j
 change wpAny _ A (Sem.onRaise (compTurn (.ListComp el gs sc pos) k it acc env) fun x=>do noteFrame x env;theTreesLotGoes x) _ _ s
 apply wpAny_noted;rw[ht];unfold turnOf
 apply wpAny_bind;apply wpAny_standAt;apply wpAny_bind;apply wpAny_mono (turn n s j) _ fun _ _ z=>z
 intro r a k
 cases r with
 |none=>exact wpAny_pure k
 |some v =>
   apply wpAny_bind;apply wpAny_mono k _ fun _ _ z=>z;intro _ b k
   apply wpAny_bind;apply wpAny_mono k _ fun _ _ z=>z;intro _ c k
   apply wpAny_bind;apply wpAny_mono k _ fun _ _ z=>z;intro yes d k
   cases yes
   · exact wpAny_pure (And.intro rfl k)
   · apply wpAny_bind;apply wpAny_mono k _ fun _ _ z=>z;intro _ f k
     exact wpAny_pure (And.intro rfl k)
abbrev uz:=St->Hp->Addr->List V->(List V->Hp->Prop)->Prop
def Dd(Y:Cx)(L:List V->Prop)(te:uz)(act:Value->Sem Unit):Prop:=∀ (pins:List (Addr×Obj)) (s:Shared) (σ:St) (H:Hp) (D:Addr) (ys:List V) (K:List V->Hp->Prop),Inv Y pins σ H s->L ys->te σ H D ys K ->
 wpAny (model Y.prog Y.w) Y.A (act (.ref D)) (fun _ s'=>∃ H' ys',Inv Y pins σ H' s'/\H' D=some (.lst ys')/\K ys' H') (fun _ _=>False) s
def emit(el:Expr)(env:Env)(acc:Value):Sem Unit:=do let _ <- call (.builtin "list.append") [acc, <- eval el env]
def xJ(te:TE):uz:=fun σ H D ys K=>te σ H fun y H6=>H6 D=some (.lst ys)/\K (ys++[y]) (upd H6 D (.lst (ys++[y])))
abbrev xK(ys:List V):Prop:=ys.length<sizeLine
theorem De{Y:Cx}{el:Expr}{te:TE}(hx:Y.xe=fun _ _=>False)(he:PE Y el te):Dd Y xK (xJ te) (emit el Y.env):=by
 intro pins s σ H D ys K J hlen q
 unfold emit
 refine wpAny_bind (wpAny_mono (he pins s σ H _ J q) (fun v s8 ⟨y,H8,J8,r8,e8,k8⟩=>?_) fun _ _ z=>by rw[hx] at z;exact z)
 refine wpAny_bind (wpAny_mono (CK _ s8 σ H8 (.ref D) [y] (.ref D) [v] (fun _ H9=>H9=upd H8 D (.lst (ys++[y]))) J8 rfl (.cons r8 .nil) ⟨_,ys,y,rfl,rfl,e8,hlen,rfl⟩) (fun _ s9 ⟨_,H9,J9,_,e9⟩=>?_) fun _ _ z=>by rw[hx] at z;exact z)
 subst e9
 exact wpAny_pure ⟨_,_,J9,cN,k8⟩
def xM(fr:List Nat)(own:Nat)(wi:TI)(g:TG)(tc:TT)(L:List V->Prop)(te:uz):TE:=fun σ H Q=>wi σ H fun J H1=>∀ D,H1 D=none->∃ W:Nat->Nat->List V->Hp->Prop,(∃ m,W 0 m [] (upd H1 D (.lst []))) /\
 ∀ i m ys H2,H2 D=some (.lst ys)->W i m ys H2->(J.stop i H2/\Q (.ref D) H2)\/(J.go i H2/\L ys/\∀ x H3,J.nh i H2 x H3->g x (aj fr own σ) H3 fun c9 H4=>tc c9 H4 fun b H5 =>
  if b=true then te c9 H5 D ys (fun ys' H6=>∃ m',m'<m/\W (i+1) m' ys' H6) else H5 D=some (.lst ys)/\∃ m',m'<m/\W (i+1) m' ys H5)
section
variable{X:Cx}{pins:List (Addr×Obj)}{σ:St}{H:Hp}{s:Shared}
theorem Df{elt tg iter:Expr}{ifs:List Expr}{scope:Scope}{pos n_:Pos}{Nc:List Str}{own:Nat}{fr:List Nat}{wi:TI}{g:TG}{tc:TT}{L:List V->Prop}{te:uz}{act:Env->Value->Sem Unit}{gs:List Comprehension}{use:Option (Value->Sem Unit)}{QQ:Value->Shared->Prop}{Q:VK}(hc:X.calm=true)(B:e_ X scope Nc own fr)(hi:PI X tg iter wi)(hog:k9 own g)
 (hg:∀ cl C s3 H3 fp pn',PG (X.blk Nc scope cl C s3 H3 fp pn' fun _ _=>False) tg g) (ht:∀ cl C s3 H3 fp pn',n9 (X.blk Nc scope cl C s3 H3 fp pn' fun _ _=>False) ifs tc) (hturn:∀ it acc env,compTurn (.ListComp elt (⟨tg,iter,ifs,0⟩::gs) scope pos) 0 it acc env=turnOf (.ListComp elt (⟨tg,iter,ifs,0⟩::gs) scope pos) 0 tg iter.pos ifs (act env acc) it acc env) (ha:∀ cl C s3 H3 fp pn',Dd (X.blk Nc scope cl C s3 H3 fp pn' fun _ _=>False) L te (act (compEnvC scope cl C X.env)))
 (hs:∀ x,foldedSetIterable iter X.env x=pure x) (I:Inv X pins σ H s) (h:xM fr own wi g tc L te σ H Q)
 (fin:∀ (D C:Addr) (H3:Hp) (s4:Shared),(∃ m,s4.heap.Ns C m)->g9 X pins H3 C->(∀ h',Heap.SameBut C s4.heap h'->Inv X pins σ H3 { s4 with heap:=h' })->Q (.ref D) H3->compPost (model X.prog X.w) X.A X.xe use QQ (.ref D) C (.ok .next) s4) :
 wpAny (model X.prog X.w) X.A (comprehension (.ListComp elt (⟨tg,iter,ifs,0⟩::gs) scope pos) scope X.env n_ (newList []) false (eval iter X.env) use) QQ X.xe s:=by
 obtain⟨cl,ir⟩:=C9 (env:=X.env) (scope:=scope) fun x hx=>I.ok.has x (B.frees x hx)
 apply wpAny_comprehension_free rfl hs ir.clos B.kind B.names
 apply wpAny_mono (hi pins s σ H _ I h) _ fun _ _ e=>e
 intro xv s1 h1
 apply wpAny_mono h1 _ fun _ _ e=>e
 intro itv s2 h2
 obtain⟨it,fp,tn,J,H2,rfl,I2,T,st2,f2,q⟩:=h2
 refine wpAny_newObj_type (wpAny_newFunctionEnv B.fS (by intro y hy;simp at hy) (fun h₁ iu iw=>?_) B.kind)
 have hD:H2 s2.heap.objs.size=none:=I2.hok.fresh (Nat.le_refl _)
 obtain⟨W,⟨m0,w0⟩,turn⟩:=q s2.heap.objs.size hD
 have I3:Inv X pins σ (upd H2 s2.heap.objs.size (.lst [])) { s2 with heap:=s2.heap.push { cls:=.type "list",dict:=none,data:=.seq ([]:List Value).toArray } } :=
  I2.laid (t':=s2.toks) (fun b u e=>Heap.get?_push_of_some _ e) (Nat.le_refl _) ⟨Nat.zero_le _,[],0,.nil,Heap.get?_push_size _ rfl⟩
 have og:∀ b∈fp,b≠s2.heap.objs.size:=fun b hb=>let ⟨o,e,_⟩:=T.obj _ _ st2 b hb;Nat.ne_of_lt (Heap.lt_size e)
 have f3:∀ b∈fp,g9 X pins (upd H2 s2.heap.objs.size (.lst [])) b:=fun b hb=>⟨by rw[aV (og b hb)];exact(f2 b hb).1,(f2 b hb).2⟩
 have keep:∀ b o,(s2.heap.push { cls:=.type "list",dict:=none,data:=.seq ([]:List Value).toArray }).get? b=some o->h₁.get? b=some o:=fun b o e =>
  (iw.2 b (Nat.ne_of_lt (Heap.lt_size e))).trans (Heap.get?_push_of_some _ e)
 have IY:=I3.block (h₁:=h₁) (t':=s2.toks+([]:List (Str×Value)).length) (E':=fun _ _=>False) B ir (fun b hb=>⟨f3 b hb,let ⟨o,e,_⟩:=T.obj _ _ st2 b hb; ⟨o,Heap.get?_push_of_some _ e⟩⟩) iu keep
 have st1:tn 0 h₁:=T.keep _ _ _ st2 fun b hb o e=>keep b o (Heap.get?_push_of_some _ e)
 have fY:∀ {H':Hp},(∀ b∈fp,H' b=none)->∀ b∈fp,g9 (X.blk Nc scope cl (s2.heap.push { cls:=.type "list",dict:=none,data:=.seq ([]:List Value).toArray }).objs.size { s2 with heap:=s2.heap.push { cls:=.type "list",dict:=none,data:=.seq ([]:List Value).toArray } } (upd H2 s2.heap.objs.size (.lst [])) fp (X.pn++pins) fun _ _=>False) [] H' b:=fun hn b hb =>
  ⟨hn b hb,(IY.ok.kX b hb).1,IY.ok.eV b hb,.inl hb,(IY.ok.kX b hb).2,fun p hp=>(f2 b hb).2.2.2.2.2 p (by simpa using hp)⟩
 have loop:codeAny (model X.prog X.w) X.A (.compLoop (.ListComp elt (⟨tg,iter,ifs,0⟩::gs) scope pos) 0 (.ref it) (.ref s2.heap.objs.size) (compEnvC scope cl (s2.heap.push { cls:=.type "list",dict:=none,data:=.seq ([]:List Value).toArray }).objs.size X.env))
  (compPost (model X.prog X.w) X.A X.xe use QQ (.ref s2.heap.objs.size) (s2.heap.push { cls:=.type "list",dict:=none,data:=.seq ([]:List Value).toArray }).objs.size) { s2 with heap:=h₁,toks:=s2.toks+([]:List (Str×Value)).length }:=by
  refine Km (hturn _ _ _) (fun n s'=>∃ i ys H',Inv (X.blk Nc scope cl (s2.heap.push { cls:=.type "list",dict:=none,data:=.seq ([]:List Value).toArray }).objs.size { s2 with heap:=s2.heap.push { cls:=.type "list",dict:=none,data:=.seq ([]:List Value).toArray } } (upd H2 s2.heap.objs.size (.lst [])) fp (X.pn++pins) fun _ _=>False) [] (aj fr own σ) H' s'/\tn i s'.heap/\(∀ b∈fp,H' b=none)/\H' s2.heap.objs.size=some (.lst ys)/\W i n ys H')
   m0 ⟨0,[],_,IY,st1,fun b hb=>(f3 b hb).1,cN,w0⟩ ?_
  rintro n s3 ⟨i,ys,H3,J3,st3,ni,e3,w3⟩
  rcases turn i n ys H3 e3 w3 with ⟨stop,qn⟩ | ⟨go,hlen,step⟩
  · refine aL (T.done (X.blk Nc scope cl (s2.heap.push { cls:=.type "list",dict:=none,data:=.seq ([]:List Value).toArray }).objs.size { s2 with heap:=s2.heap.push { cls:=.type "list",dict:=none,data:=.seq ([]:List Value).toArray } } (upd H2 s2.heap.objs.size (.lst [])) fp (X.pn++pins) fun _ _=>False) rfl rfl rfl hc i [] s3 _ H3 _ J3 (fY ni) st3 stop) fun r s4 ⟨hr,J4⟩=>?_
    subst hr
    obtain⟨m,hn,_⟩:=J4.loc
    exact fin _ _ H3 s4 ⟨m,hn⟩ (I3.ij (Nat.le_refl _) J4.free) (fun h' sb=>I3.iW f3 J4 sb) qn
  · refine aL (T.item (X.blk Nc scope cl (s2.heap.push { cls:=.type "list",dict:=none,data:=.seq ([]:List Value).toArray }).objs.size { s2 with heap:=s2.heap.push { cls:=.type "list",dict:=none,data:=.seq ([]:List Value).toArray } } (upd H2 s2.heap.objs.size (.lst [])) fp (X.pn++pins) fun _ _=>False) rfl rfl rfl hc i [] s3 _ H3 _ J3 (fY ni) st3 go) fun r s4 ⟨u,hr,h4⟩=>?_
    subst hr
    refine aL h4 fun _ s5 ⟨x,H5,J5,r5,y5,eO,qK⟩=>?_
    have xN:=J5.pinned (fY qK) (T.obj _ _ eO)
    have lift:∀ {α:Type} {m:Sem α} {Q':α->Shared->Prop} {E':Value->Shared->Prop} {s':Shared},wpAny (model X.prog X.w) X.A m Q' (fun _ _=>False) s'->wpAny (model X.prog X.w) X.A m Q' E' s':=fun h=>wpAny_mono h (fun _ _ z=>z) fun _ _ z=>z.elim
    refine lift (aL (hg _ _ _ _ _ _ _ s5 _ H5 x u _ xN r5 (hog _ _ _ _ (step x H5 y5))) fun _ s6 ⟨eg,H6,J6,q6,oh⟩=>?_)
    refine lift (aL (ht _ _ _ _ _ _ _ s6 eg H6 _ J6 q6) fun b s7 ⟨H7,J7,q7⟩=>?_)
    have back:∀ {H8:Hp} {s8:Shared} {ys':List V} {m':Nat},Inv (X.blk Nc scope cl (s2.heap.push { cls:=.type "list",dict:=none,data:=.seq ([]:List Value).toArray }).objs.size { s2 with heap:=s2.heap.push { cls:=.type "list",dict:=none,data:=.seq ([]:List Value).toArray } } (upd H2 s2.heap.objs.size (.lst [])) fp (X.pn++pins) fun _ _=>False) ([]++pB fp s5.heap) eg H8 s8->H8 s2.heap.objs.size=some (.lst ys')->m'<n->W (i+1) m' ys' H8 ->
     ∃ m,m<n/\∃ i ys H',Inv (X.blk Nc scope cl (s2.heap.push { cls:=.type "list",dict:=none,data:=.seq ([]:List Value).toArray }).objs.size { s2 with heap:=s2.heap.push { cls:=.type "list",dict:=none,data:=.seq ([]:List Value).toArray } } (upd H2 s2.heap.objs.size (.lst [])) fp (X.pn++pins) fun _ _=>False) [] (aj fr own σ) H' s8/\tn i s8.heap/\(∀ b∈fp,H' b=none)/\H' s2.heap.objs.size=some (.lst ys)/\W i m ys H':=fun {H8 s8 ys' m'} J8 e8 hm w8=>by
     refine⟨m',hm,i+1,ys',H8,?_,T.keep _ _ _ eO fun b hb o e=>(J8.pin (b,o) (List.mem_append_right _ (List.mem_append_right _ (pC hb e)))).1,fun b hb=>?_,e8,w8⟩
     · refine(Inv.cc (pins:=[]) J8).weak ?_ fun j v' z=>?_
       · rw[IY.len];exact J8.len.symm
       · by_cases hj:j<own
         · unfold aj at z
           rw[List.getElem?_append_left (by simpa using hj),List.getElem?_replicate,if_pos hj] at z
           cases z
         · rw[oh j (Nat.le_of_not_lt hj)];exact z
     · obtain⟨o,e,d⟩:=T.obj _ _ eO b hb
       exact(J8.pin (b,o) (List.mem_append_right _ (List.mem_append_right _ (pC hb e)))).2.1
    cases b with
    |false =>
      obtain⟨e7,m',hm,w7⟩:=(show H7 s2.heap.objs.size=some (.lst ys)/\∃ m',m'<n/\W (i+1) m' ys H7 from by simpa using q7)
      exact back J7 e7 hm w7
    |true =>
      have xO:te eg H7 s2.heap.objs.size ys (fun ys' H6=>∃ m',m'<n/\W (i+1) m' ys' H6):=by simpa using q7
      refine lift (aL (ha _ _ _ _ _ _ _ s7 eg H7 _ ys _ J7 hlen xO) fun v s8 ⟨H8,ys',J8,e8,m',hm,w8⟩=>?_)
      exact back J8 e8 hm w8
 exact codeAny_compStart_list loop (T.self _ _ _ _ _ st1 loop)
theorem Kn{elt tg iter:Expr}{ifs:List Expr}{scope:Scope}{pos:Pos}{Nc:List Str}{own:Nat}{fr:List Nat}{wi:TI}{g:TG}{tc:TT}{te:TE}(hc:X.calm=true)(B:e_ X scope Nc own fr)(hi:PI X tg iter wi)(hog:k9 own g)
 (hg:∀ cl C s3 H3 fp pn',PG (X.blk Nc scope cl C s3 H3 fp pn' fun _ _=>False) tg g) (ht:∀ cl C s3 H3 fp pn',n9 (X.blk Nc scope cl C s3 H3 fp pn' fun _ _=>False) ifs tc) (he:∀ cl C s3 H3 fp pn',PE (X.blk Nc scope cl C s3 H3 fp pn' fun _ _=>False) elt te)
 (hs:∀ x,foldedSetIterable iter X.env x=pure x:=by intro _;rfl):PE X (.ListComp elt [⟨tg,iter,ifs,0⟩] scope pos) (xH fr own wi g tc te):=by
 intro pins s σ H Q I h
 rw[eval_ListComp]
 exact Df (act:=fun env acc=>emit elt env acc) (QQ:=EP X pins σ Q) hc B hi hog hg ht (fun _ _ _=>rfl) (fun cl C s3 H3 fp pn'=>De rfl (he cl C s3 H3 fp pn')) hs I (show xM fr own wi g tc xK (xJ te) σ H Q from h) fun L C H3 s4 hn f q8 q=>let ⟨m,hm⟩:=hn; ⟨m,hm,fun h' sb=>⟨.ref L,H3,q8 h' sb,rfl,q⟩⟩
theorem Ko{elt tg iter:Expr}{ifs:List Expr}{scope:Scope}{pos py spos:Pos}{Nc:List Str}{own i:Nat}{fr:List Nat}{wi:TI}{g:TG}{tc:TT}{te:TE}{y:Str}(hN:X.N.Nodup)(hi':X.N[i]? = some y)(hx:Loc X.env.scope y)(hc:X.calm=true)(B:e_ X scope Nc own fr)(hi:PI X tg iter wi)(hog:k9 own g)
 (hg:∀ cl C s3 H3 fp pn',PG (X.blk Nc scope cl C s3 H3 fp pn' fun _ _=>False) tg g) (ht:∀ cl C s3 H3 fp pn',n9 (X.blk Nc scope cl C s3 H3 fp pn' fun _ _=>False) ifs tc) (he:∀ cl C s3 H3 fp pn',PE (X.blk Nc scope cl C s3 H3 fp pn' fun _ _=>False) elt te)
 (hs:∀ x,foldedSetIterable iter X.env x=pure x:=by intro _;rfl) (hsw:swapsWith (.ListComp elt [⟨tg,iter,ifs,0⟩] scope pos) (some (.Name y py)) spos.line X.env=pure true:=by rfl)
 (hf:X.fn y=true\/X.env.scope.names.lookup y=some .local:=by first | exact .inl rfl | exact .inr rfl | assumption) :
 PS X (.Assign [.Name y py] (.ListComp elt [⟨tg,iter,ifs,0⟩] scope pos) spos) (pq (xH fr own wi g tc te) (ng i)):=by
 intro pins s σ H D I h
 rw[exec_Assign_Name_used (hs:=hsw)]
 apply wpAny_bind;apply wpAny_standAt;apply wpAny_bind
 change wpAny _ _ (comprehension (.ListComp elt [⟨tg,iter,ifs,0⟩] scope pos) scope X.env _ (newList []) false (eval iter X.env) (some (assign (.Name y py) X.env)) >>= fun _=>pure ()) _ _ _
 apply wpAny_bind
 refine wpAny_mono (Df (Q:=fun x H1=>ng i x σ H1 D.nx) (act:=fun env acc=>emit elt env acc) (QQ:=fun _ s'=>SP X pins D .next s') hc B hi hog hg ht (fun _ _ _=>rfl) (fun cl C s3 H3 fp pn'=>De rfl (he cl C s3 H3 fp pn')) hs I (show xM fr own wi g tc xK (xJ te) σ H _ from h) (fun L C H3 s4 hn f q8 q=>?_)) (fun _ s' q=>wpAny_pure (wpAny_pure q)) fun _ _ e=>e
 obtain⟨m,o,es,ep,ho,hd,r⟩:=hn
 have I4:Inv X pins σ H3 s4:=q8 s4.heap (Heap.SameBut.refl _ _)
 obtain⟨f0,f1,f2,f3,f4,f5⟩:=f
 have I5:Inv X ((C,o)::pins) σ H3 s4:=I4.dU fun p hp=>by
  rcases List.mem_cons.mp hp with e | e
  · subst e;exact⟨ho,f0,f1,f2,fun v z=>by rw[hd] at z;cases z⟩
  · exact I4.pin p (List.mem_append_right _ e)
 show wpAny _ _ (assign (.Name y py) X.env (.ref L)) _ _ _
 apply wpAny_assign_Name
 apply t_ I5 hN hi' hx (v:=.ref L) rfl _ hf
 intro s5 I6
 have hC:=(I6.pin (C,o) (List.mem_append_right _ (List.mem_cons_self ..))).1
 refine⟨m,⟨o,es,ep,hC,hd,r⟩,fun h' sb=>⟨_,H3,?_,q⟩⟩
 have I7:Inv X pins (σ.set i (some (.ref L))) H3 s5:=I6.dU fun p hp=>I6.pin p (List.mem_append_right _ (List.mem_cons_of_mem _ hp))
 exact I7.turned (t':=s5.toks) (fun b o hb e=>(sb.2 b hb).trans e) f0 f1 f3 f4 f5
end
section
variable{X:Cx}
theorem Dg{y:V}:∀ {xs:List V} {us:List Value},Vals xs us->xs.all je=true->us.countP (pG y)=xs.countP fun z=>iq z y
 | _,_,.nil,_=>rfl
 | _,_,.cons r t,h=>by
   have h:=Bool.and_eq_true_iff.mp ((List.all_cons ..).symm.trans h)
   rw[List.countP_cons,List.countP_cons,Dg t h.2,xj r h.1]
def Dh:V->List V->Hp->VK->Prop:=fun x vs H Q=>∃ l xs y,x = .ref l/\vs=[y]/\H l=some (.lst xs)/\je y=true/\xs.all je=true/\Q (.int (xs.countP fun z=>iq z y)) H
theorem Kp:ug X "list.count" Dh:=by
 intro pins s σ H x vs v us Q I rx rv h
 obtain⟨l,xs,y,rfl,rfl,hH,fy,fx,q⟩:=h
 cases rx
 obtain⟨u,rfl,ru⟩:=rv.one
 obtain⟨z,its,n,r,hl,e⟩:=I.av hH
 refine call_meets (s:=s) F.slot_list_count (show s.TypeIs (.ref l) "list" from⟨_,e,rfl⟩) F.entry_list_count (F.args_list_count_2 _ _) (SeqAt.list_countAt l its.toArray n none #[] u (pG y)) ?_
 refine⟨e,fun w hw=>xk ru fy r fx w (by simpa using hw),?_⟩
 refine⟨.int (xs.countP fun z=>iq z y),H,I.tok _,⟨s.toks,?_⟩,q⟩
 rw[<- Dg r fx]
def Di:V->List V->Hp->VK->Prop:=fun x vs H Q=>∃ l xs y j,x = .ref l/\vs=[y]/\H l=some (.lst xs)/\je y=true/\xs.all je=true/\(∃ w,xs[j]? = some w/\iq w y=true)/\(∀ (m:Nat) w,m<j->xs[m]? = some w->iq w y=false)/\j<1000/\Q (.int j) H
theorem Dj{y:V}{xs:List V}{us:List Value}(r:Vals xs us)(f:xs.all je=true){m:Nat}{w:V}(h:xs[m]? = some w):∃ hm:m<us.length,pG y us[m]=iq w y:=by
 obtain⟨u,hu,ru⟩:=r.get h
 obtain⟨hm,e⟩:=List.getElem?_eq_some_iff.mp hu
 exact⟨hm,by rw[e];exact xj ru (List.all_eq_true.mp f w (List.mem_of_getElem? h))⟩
theorem Dk:ug X "list.index" Di:=by
 intro pins s σ H x vs v us Q I rx rv h
 obtain⟨l,xs,y,j,rfl,rfl,hH,fy,fx,⟨w,hw,hit⟩,no,small,q⟩:=h
 cases rx
 obtain⟨u,rfl,ru⟩:=rv.one
 obtain⟨z,its,n,r,hl,e⟩:=I.av hH
 obtain⟨hj,ej⟩:=Dj (y:=y) r fx hw
 refine call_meets (s:=s) F.slot_list_index (show s.TypeIs (.ref l) "list" from⟨_,e,rfl⟩) F.entry_list_index (F.args_list_index_2 _ _) (SeqAt.list_indexAt l its.toArray n none #[] u (pG y) j (by simpa using hj) (by omega) (by simpa [hit] using ej) ?_) ?_
 case refine_2=>exact⟨e,fun w hw=>xk ru fy r fx w (by simpa using hw),.int j,H,I.tok _,⟨s.toks,rfl⟩,q⟩
 case refine_1 =>
  intro m hm lt
  have hm':m<xs.length:=by rw[r.length];simpa using hm
  obtain⟨_,em⟩:=Dj (y:=y) r fx (List.getElem?_eq_getElem hm')
  have:=no m _ lt (List.getElem?_eq_getElem hm')
  simpa [this] using em
mutual
inductive cK(H:Hp):V->PyData->Prop
 |ao:cK H .ao .none
 |bl (b:Bool):cK H (.bl b) (.bool b)
 |int (i:Int):cK H (.int i) (.int i)
 |str (x:Str):cK H (.str x) (.str x)
 |lst {a:Addr} {xs:List V} {ds:List PyData}:H a=some (.lst xs)->cf H xs ds->cK H (.ref a) (.list ds)
 |tup {a:Addr} {xs:List V} {ds:List PyData}:H a=some (.tup xs)->cf H xs ds->cK H (.ref a) (.tuple ds)
inductive cf(H:Hp):List V->List PyData->Prop
 |nil:cf H [] []
 |cons {x:V} {d:PyData} {xs:List V} {ds:List PyData}:cK H x d->cf H xs ds->cf H (x::xs) (d::ds)
end
mutual
theorem cK.reads{P:Program}{w:World}{H:Hp}{h:Heap}(ok:b6 P w H h):∀ {x:V} {d:PyData} {u:Value},cK H x d->RelV x u->∃ as,Reads h u d as
 | _,_,_,.ao,r=>by cases r;exact⟨_,.none⟩
 | _,_,_,.bl b,r=>by cases r;exact⟨_,.bool b⟩
 | _,_,_,.int i,r=>by obtain⟨t,rfl⟩:=r;exact⟨_,.int i t⟩
 | _,_,_,.str x,r=>by obtain⟨t,rfl⟩:=r;exact⟨_,.str x t⟩
 | _,_,_,.lst e D,r=>by
   cases r
   obtain⟨_,its,n,rv,q⟩:=ok _ _ e
   obtain⟨as,R⟩:=cf.reads ok D rv
   exact⟨_,.list q rfl rfl R⟩
 | _,_,_,.tup e D,r=>by
   cases r
   obtain⟨_,its,rv,o,q,c,n,d⟩:=ok _ _ e
   obtain⟨as,R⟩:=cf.reads ok D rv
   exact⟨_,.tuple q c d R⟩
theorem cf.reads{P:Program}{w:World}{H:Hp}{h:Heap}(ok:b6 P w H h):∀ {xs:List V} {ds:List PyData} {us:List Value},cf H xs ds->Vals xs us->∃ as,ReadsAll h us ds as
 | _,_,_,.nil,r=>by cases r;exact⟨_,.nil⟩
 | _,_,_,.cons a b,r=>by
   cases r with
   |cons r1 r2 =>
     obtain⟨_,R1⟩:=cK.reads ok a r1
     obtain⟨_,R2⟩:=cf.reads ok b r2
     exact⟨_,.cons R1 R2⟩
end
end
end L2
namespace Ex
open PySem PySem.Spec PyProof.Rows PySem.Calls Builtin.SmallTypes
structure Kq(prog:Program)(w:World)(it:Addr)(fp:List Addr)(xs:Array Value)(St:Nat->Heap->Prop):Prop where
 keep:∀ k h h',St k h->(∀ b∈it::fp,∀ o,h.get? b=some o->h'.get? b=some o)->St k h'
 obj:∀ k h,St k h->∃ o vs,h.get? it=some o/\o.data = .fields vs
 item:∀ (A:Around) (E:Value->Shared->Prop) (s:Shared) (k:Nat) (x:Value) (Q:Value->Shared->Prop),St k s.heap->xs[k]? = some x->(∀ h',St (k+1) h'->Heap.SameBut it s.heap h'->Q x { s with heap:=h' })->wpAny (model prog w) A (nextOf (.ref it)) Q E s
theorem fz{prog:Program}{w:World}{it l:Addr}{xs:Array Value}(ne:l≠it):Kq prog w it [l] xs (fun k h=>h.IsTupleIter it l k/\h.IsTuple l xs) where
 keep:=fun k h h' st kp=>⟨let ⟨o,e,r⟩:=st.1; ⟨o,kp it (by simp) o e,r⟩,let ⟨o,e,r⟩:=st.2; ⟨o,kp l (by simp) o e,r⟩⟩
 obj:=fun k h st=>let ⟨o,e,_,d⟩:=st.1; ⟨o,_,e,d⟩
 item:=fun A E s k x Q st hx q=>by
  obtain⟨st1,st2⟩:=st
  obtain⟨o,ho,hc,hd⟩:=id st1
  obtain⟨ol,hol,_,nl,hdl⟩:=id st2
  delta nextOf
  apply wpAny_bind
  apply wpAny_callSpecial?_slot (name:=Str.ofString "__next__") st1.typeIs F.slot_tuple_iterator_next
  apply wpAny_call_entry F.slot_tuple_iterator_next st1.typeIs F.entry_tuple_iterator_next _ (F.args_tuple_iterator_next_1 _)
  change wpAny _ _ (field (.ref it) 0 >>= _) _ _ _
  apply wpAny_bind;apply wpAny_field ho hd (x:=.ref l) rfl
  change wpAny _ _ (if (Value.ref l == Value.none)=true then _ else _) _ _ _
  rw[if_neg (by intro z;cases beq_iff_eq.mp z)]
  change wpAny _ _ (field (.ref it) 1 >>= _) _ _ _
  apply wpAny_bind;apply wpAny_field ho hd (x:=.int k 0) rfl
  change wpAny _ _ (seqItems? (.ref l) >>= _) _ _ _
  apply wpAny_bind;apply wpAny_seqItems hol hdl
  rw[Int.toNat_natCast]
  dsimp only
  rw[hx]
  dsimp only
  apply wpAny_bind;apply wpAny_setField ho hd (by simp)
  have e2:=um ho hd 1 (rawInt (k+1))
  refine wpAny_pure ⟨x,rfl,wpAny_pure (q _ ⟨⟨_,e2,hc,rfl⟩,st2.extBut (Heap.SameBut.update ..).extBut ne⟩ (Heap.SameBut.update ..))⟩
end Ex
namespace L2
open PySem PySem.Spec PyProof.Rows Ex
section
variable{X:Cx}{pins:List (Addr×Obj)}{σ:St}{H:Hp}{s:Shared}{h':Heap}{fp:List Addr}
theorem Inv.fA{t':Nat}(I:Inv X pins σ H s)(k:∀ b o,b ∉ fp->s.heap.get? b=some o->h'.get? b=some o)(hf:∀ b∈fp,g9 X pins H b):Inv X pins σ H { s with heap:=h',toks:=t' }:=by
 have apart:∀ b u,H b=some u->b ∉ fp:=fun b u e z=>by have q:=(hf b z).1;rw[e] at q;cases q
 refine I.step (g':=s.gens) (d':=s.drawn) (ch:=fp) (fun b hb=>?_) (fun b o _ _ hc e _=>k b o hc e) (fun b o _ _ hc e _=>⟨o.slots,k b o hc e⟩) (fun _ _ _ _ n=>n) (fun b o hc e=>⟨o,k b o hc e⟩) (fun _ _ e=>e) (fun _ _ _ e=>e) (fun b ps e=>⟨#[],by rw[e];simp⟩) (fun m hm=>?_) (fun b u e=>?_) I.bare
 · obtain⟨_,f1,_,f3,f4,f5⟩:=hf b hb
   exact⟨f3,f1,f4,f5⟩
 · obtain⟨o,es,ep,ho,r⟩:=hm
   exact⟨o,es,ep,k _ o (fun z=>(hf _ z).2.1 rfl) ho,r⟩
 · apply (I.hok b u e).stay (h':=h') (H':=H) _ (fun _ q=>q) (fun _ _ q=>q)
   intro c v hc q
   cases hc with
   |inl z=>exact k c v (by rw[z];exact apart b u e) q
   |inr z=>exact k c v (apart c _ z) q
theorem Inv.fB{t':Nat}{a:Addr}{o:HO}(I:Inv X pins σ H s)(k:∀ b o,b ∉ fp->s.heap.get? b=some o->h'.get? b=some o)(hf:∀ b∈fp,g9 X pins H b)(ha:s.heap.objs.size<=a)(new:aD X.prog X.w (upd H a o) h' a o):Inv X pins σ (upd H a o) { s with heap:=h',toks:=t' }:=by
 have apart:∀ b u,H b=some u->b ∉ fp:=fun b u e z=>by have q:=(hf b z).1;rw[e] at q;cases q
 have fr:H a=none:=I.hok.fresh ha
 have old:∀ b u,H b=some u->upd H a o b=some u:=fun b u e=>by rw[aV (eU e fr)];exact e
 refine I.step (g':=s.gens) (d':=s.drawn) (ch:=fp) (fun b hb=>?_) (fun b o _ _ hc e _=>k b o hc e) (fun b o _ _ hc e _=>⟨o.slots,k b o hc e⟩) (fun b u _ e n=>?_) (fun b o hc e=>⟨o,k b o hc e⟩) (fun b xs e=>old b _ e) (fun b o u e=>old b _ e) (fun b ps e=>⟨#[],by rw[old b _ e];simp⟩) (fun m hm=>?_) (fun b u e=>?_) I.bare
 · obtain⟨_,f1,_,f3,f4,f5⟩:=hf b hb
   exact⟨f3,f1,f4,f5⟩
 · have lt:b<s.heap.objs.size:=Heap.lt_size e
   rw[aV (Nat.ne_of_lt (Nat.lt_of_lt_of_le lt ha))];exact n
 · obtain⟨o,es,ep,ho,r⟩:=hm
   exact⟨o,es,ep,k _ o (fun z=>(hf _ z).2.1 rfl) ho,r⟩
 · by_cases hb:b=a
   · subst hb;rw[cN] at e;cases e;exact new
   · rw[aV hb] at e
     apply (I.hok b u e).stay (h':=h') (H':=upd H a o) _ (fun c q=>old c _ q) (fun c xs q=>old c _ q)
     intro c v hc q
     cases hc with
     |inl z=>exact k c v (by rw[z];exact apart b u e) q
     |inr z=>exact k c v (apart c _ z) q
end
section
variable{X:Cx}
def xQ:R2:=fun x y H Q=>∃ d e,cK H x d/\cK H y e/\SeqAt.shaped d=true/\SeqAt.shaped e=true/\Q (.bl (PyData.eqv d e)) H
def xR:R2:=fun x y H Q=>∃ d e,cK H x d/\cK H y e/\SeqAt.shaped d=true/\SeqAt.shaped e=true/\Q (.bl (!PyData.eqv d e)) H
theorem Kr{k:Nat}(hr:ax k X.A):bX X (compareOp .Eq) xQ:=by
 intro pins s σ H x y v u Q I rx ry h
 obtain⟨d,e,hd,he,sd,se,q⟩:=h
 obtain⟨as,ra⟩:=hd.reads I.hok rx
 obtain⟨bs,rb⟩:=he.reads I.hok ry
 exact SeqAt.compareEq_shaped ra rb sd se hr.units ⟨.bl _,H,I,rfl,q⟩
theorem Ks{k:Nat}(hr:ax k X.A):bX X (compareOp .NotEq) xR:=by
 intro pins s σ H x y v u Q I rx ry h
 obtain⟨d,e,hd,he,sd,se,q⟩:=h
 obtain⟨as,ra⟩:=hd.reads I.hok rx
 obtain⟨bs,rb⟩:=he.reads I.hok ry
 exact SeqAt.compareNe_shaped ra rb sd se hr.units ⟨.bl _,H,I,rfl,q⟩
end
def xS(l:Addr):It where
 go:=fun i H=>∃ xs x,H l=some (.lst xs)/\xs[i]? = some x
 nh:=fun i H v H'=>∃ p xs x,v = .ref p/\H p=none/\H'=upd H p (.tup [.int i,x])/\H l=some (.lst xs)/\xs[i]? = some x
 stop:=fun i H=>∃ xs,H l=some (.lst xs)/\xs.length<=i
def jF(n:Addr):List Addr:=[n+1,n]
theorem aK{n b:Addr}:b∈jF n ↔ b=n+1\/b=n:=by simp[jF]
def Kt(n l:Addr)(i:Nat)(h:Heap):Prop:=∃ old,IsEnum h (n+1) n i old/\h.IsListIter n l i
theorem Ku{P:Program}{w:World}{K:W.Frag}{es:List Expr}{x1}{pos:Pos}(l n:Addr):Turn P w K (.Tuple es x1 pos) (xS l) (jF n) (n+1) (Kt n l) where
 mem:=by simp[jF]
 obj:=fun i h st b hb=>by
  obtain⟨old,he,⟨o,e,c,d⟩⟩:=st
  rcases aK.mp hb with z | z<;>subst z
  · exact⟨_,he,fun v z=>nomatch z⟩
  · exact⟨_,e,fun v z=>by rw[d] at z;cases z⟩
 keep:=fun i h h' st k=>by
  obtain⟨old,he,⟨o,e,r⟩⟩:=st
  exact⟨old,k _ (aK.mpr (.inl rfl)) _ he,⟨o,k _ (aK.mpr (.inr rfl)) _ e,r⟩⟩
 item:=by
  intro X hP hw hK hc i pins s σ H E I hf st hg
  subst hP hw hK
  obtain⟨xs,x,q1,hx⟩:=hg
  obtain⟨old,he,st1⟩:=st
  have ne:n+1≠n:=Nat.succ_ne_self n
  obtain⟨us,r1,p1,z1⟩:=I.list (bQ.of q1)
  obtain⟨u,hu,ru⟩:=r1.get hx
  have new:∀ b∈jF n,b<s.heap.objs.size:=fun b hb=>by
   rcases aK.mp hb with e | e<;>subst e
   · exact Heap.lt_size he
   · obtain⟨_,e,_⟩:=st1;exact Heap.lt_size e
  apply wpAny_pyNext_enum_item he st1 p1.isList (x:=u) (by simpa using hu) ne
  intro h1 ho1 s1 np sz kept
  refine⟨_,rfl,wpAny_letOwnedTupleGo_enum ho1 fun h2 he2 sb=>?_⟩
  have k2:∀ b o,b ∉ jF n->s.heap.get? b=some o->h2.get? b=some o:=fun b o hb e=>by
   rw[aK] at hb
   exact sb.extBut _ _ (fun z=>hb (.inl z)) (kept b o (fun z=>hb (.inl z)) (fun z=>hb (.inr z)) e)
  have fr:H s.heap.objs.size=none:=I.hok.fresh (Nat.le_refl _)
  have nz:s.heap.objs.size≠n+1:=fun e=>absurd (new (n+1) (aK.mpr (.inl rfl))) (by rw[e];exact Nat.lt_irrefl _)
  refine⟨.ref s.heap.objs.size,upd H s.heap.objs.size (.tup [.int i,x]),I.fB (t':=s.toks+1) k2 hf (Nat.le_refl _) ?_,rfl,⟨_,xs,x,rfl,fr,rfl,q1,hx⟩,⟨u,?_,?_⟩,fun b hb=>?_⟩
  · exact⟨by show(2:Nat)<=sizeLine;decide,[.int i s.toks,u],.cons ⟨_,rfl⟩ (.cons ru .nil),⟨_,sb.extBut _ _ nz np,rfl,_,rfl⟩⟩
  · exact he2
  · obtain⟨o,e,r⟩:=s1
    exact⟨o,sb.extBut _ _ (Ne.symm ne) e,r⟩
  · rw[aV (Nat.ne_of_lt (new b hb))];exact(hf b hb).1
 done:=by
  intro X hP hw hK hc i pins s σ H E I hf st hg
  subst hP hw hK
  obtain⟨xs,q1,hx⟩:=hg
  obtain⟨old,he,st1⟩:=st
  obtain⟨us,r1,p1,z1⟩:=I.list (bQ.of q1)
  have hl:=r1.length
  apply wpAny_pyNext_enum_end (I.ok.hd hc) he st1 p1.isList (by simp;omega)
  intro h1 kept
  exact⟨rfl,I.fA (t':=s.toks) (fun b o hb e=>kept b o (fun z=>hb (aK.mpr (.inr z))) e) hf⟩
 self:=fun A i s Q E st h=>by
  obtain⟨old,he,_⟩:=st
  have ty:s.TypeIs (.ref (n+1)) "enumerate" := ⟨_,he,rfl⟩
  apply wpAny_pyIter_slot ty F.slot_enumerate_iter
  apply wpAny_call_entry F.slot_enumerate_iter ty F.entry_enumerate_iter _ (F.args_enumerate_iter_1 _)
  change wpAny _ _ (ret (.ref (n+1))) _ _ s
  exact wpAny_pure ⟨_,rfl,"enumerate",_,ty,F.slot_enumerate_next.lookup,h⟩
def xT(ta:TA):TI:=fun σ H R=>ta σ H fun vs H1=>∃ l xs,vs=[.ref l]/\H1 l=some (.lst xs)/\R (xS l) H1
section
variable{X:Cx}
theorem Dl:bootBuiltins "enumerate" = some (.type "enumerate"):=by decide +kernel
theorem Kv{a:Expr}{es:List Expr}{x1}{tp:Pos}{ta:TA}{p pos:Pos}(hg:Gl X "enumerate")(hm:X.mg "enumerate" = none)(ha:PA X [a] ta)(hs:starEach [a] X.env=[(false,eval a X.env)]:=by rfl):PI X (.Tuple es x1 tp) (.Call (.Name "enumerate" p) [a] [] pos) (xT ta):=by
 intro pins s σ H R I h
 refine Call_ (ph I hg hm Dl (PyProof.Rows.callWith_type1 (aL (ha pos pins s σ H _ I h) fun us s1 ⟨vs,H1,I1,r1,q1⟩=>?_) hs rfl))
 obtain⟨l,xs,e,q1,q⟩:=q1
 subst e
 obtain⟨u,rfl,e1⟩:=vals1 r1
 cases e1
 obtain⟨us,r1,p1,z1⟩:=I1.list (bQ.of q1)
 apply call_enumerate_list p1.isList
 intro h' he st sz kept
 have T:=Ku (P:=X.prog) (w:=X.w) (K:=X.K) (es:=es) (x1:=x1) (pos:=tp) l s1.heap.objs.size
 apply T.self X.A 0 _ _ _ ⟨.none,he,st⟩
 refine⟨_,jF s1.heap.objs.size,_,_,H1,rfl,I1.kept (t':=s1.toks) kept,T,⟨.none,he,st⟩,fun b hb=>?_,q⟩
 have le:s1.heap.objs.size<=b:=by
  rw[aK] at hb
  rcases hb with e | e<;>rw[e]<;>first | exact Nat.le_refl _ | exact Nat.le_add_right _ _
 exact I1.ij le (I1.hok.fresh le)
end
def Kw(K:W.Frag):List V->Hp->VK->Prop:=fun xs H Q=>∃ x c t cv b,xs=[x,c]/\ur c=some cv/\xC K H x t/\W.kitOne K t cv=some b/\Q (.bl b) H
theorem ix{H:Hp}{p:Addr}{o:HO}(h:H p=none):ae H (upd H p o):=fun b u e=>by rw[aV (eU e h)];exact e
end L2
namespace Dv
open PySem L2 Ex
inductive Cn where
 |PointError | NoPoints | NoBox | NoAsks | NoRun | NoText | NoTurn | NoTree | NoTop | NotServed | NoRow | NoPoint | NoName | NoKey | NoBack | TooMany | Points | oi | Search | oj | xU
 deriving DecidableEq
class KC where
 K:W.Frag
 cls:Cn->Addr
variable[KC]
inductive D where
 |ao | bl (b:Bool) | int (i:Int) | str (x:Str)
 |lst (xs:List D) | tup (xs:List D) | gp (ks vs:List D) | bM (ns:List Int) | ins (C:Cn) (ns:List Str) (vs:List D) | obj (C:Cn) (ns:List Str) (vs:List D)
mutual
inductive Rp(R:Hp):V->D->Prop
 |ao:Rp R .ao .ao
 |bl (b:Bool):Rp R (.bl b) (.bl b)
 |int (i:Int):Rp R (.int i) (.int i)
 |str (x:Str):Rp R (.str x) (.str x)
 |lst {a:Addr} {xs:List V} {ds:List D}:R a=some (.lst xs)->aB R xs ds->Rp R (.ref a) (.lst ds)
 |tup {a:Addr} {xs:List V} {ds:List D}:R a=some (.tup xs)->aB R xs ds->Rp R (.ref a) (.tup ds)
 |gv {a:Addr}:R a=some (.dK [])->Rp R (.ref a) (.gp [] [])
 |bM {a:Addr} {ns:List Int}:bQ KC.K R a (ns.map V.int)->Rp R (.ref a) (.bM ns)
 |fT {a:Addr} {C:Cn}:R a=some (bY (KC.cls C) a none false)->Rp R (.ref a) (.ins C [] [])
 |exc {a d:Addr} {C:Cn} {fs:List (Str×V)} {ds:List D}:R a=some (bY (KC.cls C) a (some d) false)->R d=some (jE d fs)->aB R (fs.map (·.2)) ds->Rp R (.ref a) (.ins C (fs.map (·.1)) ds)
 |obj {a dx:Addr} {C:Cn} {fs:List (Str×V)} {ds:List D}:R a=some (.ins (KC.cls C) dx fs)->aB R (fs.map (·.2)) ds->Rp R (.ref a) (.obj C (fs.map (·.1)) ds)
inductive aB(R:Hp):List V->List D->Prop
 |nil:aB R [] []
 |cons {x:V} {d:D} {xs:List V} {ds:List D}:Rp R x d->aB R xs ds->aB R (x::xs) (d::ds)
end
mutual
theorem Rp.sm{H H':Hp}(s:ae H H'):∀ {x:V} {d:D},Rp H x d->Rp H' x d
 | _,_,.ao=>.ao
 | _,_,.bl b=>.bl b
 | _,_,.int i=>.int i
 | _,_,.str x=>.str x
 | _,_,.lst e h=>.lst (s _ _ e) (aB.sm s h)
 | _,_,.tup e h=>.tup (s _ _ e) (aB.sm s h)
 | _,_,.gv e=>.gv (s _ _ e)
 | _,_,.bM e=>.bM (s.seq e)
 | _,_,.fT e=>.fT (s _ _ e)
 | _,_,.exc e e' h=>.exc (s _ _ e) (s _ _ e') (aB.sm s h)
 | _,_,.obj e h=>.obj (s _ _ e) (aB.sm s h)
theorem aB.sm{H H':Hp}(s:ae H H'):∀ {xs:List V} {ds:List D},aB H xs ds->aB H' xs ds
 | _,_,.nil=>.nil
 | _,_,.cons a b=>.cons (Rp.sm s a) (aB.sm s b)
end
section
variable{R:Hp}
theorem aB.len:∀ {xs:List V} {ds:List D},aB R xs ds->xs.length=ds.length
 | _,_,.nil=>rfl
 | _,_,.cons _ h=>congrArg Nat.succ (aB.len h)
theorem aB.at:∀ {xs:List V} {ds:List D} {i:Nat} {x:V},aB R xs ds->xs[i]? = some x->∃ d,ds[i]? = some d/\Rp R x d
 | _,_,_,_,.nil,e=>by simp at e
 | _,_,0,_,.cons r _,e=>by simp at e;subst e;exact⟨_,rfl,r⟩
 | _,_,i+1,x,.cons _ t,e=>by
   obtain⟨u,h1,h2⟩:=aB.at (i:=i) (x:=x) t (by simpa using e)
   exact⟨u,by simpa using h1,h2⟩
theorem aB.ta{xs:List V}{ds:List D}{i:Nat}{d:D}(h:aB R xs ds)(e:ds[i]? = some d):∃ x,xs[i]? = some x/\Rp R x d:=by
 have lt:i<xs.length:=by rw[h.len];exact(List.getElem?_eq_some_iff.mp e).1
 obtain⟨d',e',r⟩:=h.at (List.getElem?_eq_getElem lt)
 rw[e] at e';cases e'
 exact⟨_,List.getElem?_eq_getElem lt,r⟩
theorem aB.app:∀ {xs ys:List V} {ds es:List D},aB R xs ds->aB R ys es->aB R (xs++ys) (ds++es)
 | _,_,_,_,.nil,h=>h
 | _,_,_,_,.cons a b,h=>.cons a (aB.app b h)
theorem aB.take:∀ {xs:List V} {ds:List D} (n:Nat),aB R xs ds->aB R (xs.take n) (ds.take n)
 | _,_,0,_=>.nil
 | _,_,_+1,.nil=>.nil
 | _,_,n+1,.cons a b=>.cons a (aB.take n b)
theorem aB.drop:∀ {xs:List V} {ds:List D} (n:Nat),aB R xs ds->aB R (xs.drop n) (ds.drop n)
 | _,_,0,h=>h
 | _,_,_+1,.nil=>.nil
 | _,_,n+1,.cons _ b=>aB.drop n b
theorem aB.set{x:V}{d:D}(r:Rp R x d):∀ {xs:List V} {ds:List D} (n:Nat),aB R xs ds->aB R (xs.set n x) (ds.set n d)
 | _,_,_,.nil=>.nil
 | _,_,0,.cons _ b=>.cons r b
 | _,_,n+1,.cons a b=>.cons a (aB.set r n b)
theorem aB.ints:∀ ns:List Int,aB R (ns.map V.int) (ns.map D.int)
 | []=>.nil
 |n::r=>.cons (.int n) (aB.ints r)
end
inductive Kd where
 |ak | own | io (k:Nat)
 deriving DecidableEq
abbrev Sl:=Option (Kd×D)
abbrev En:=List Sl
inductive RV where
 |val (d:D) | new (d:D) | var (i:Nat)
def OwR(R H:Hp)(v:V)(d:D):Prop:=∃ a xs ds,v = .ref a/\R a=none/\H a=some (.lst xs)/\d = .lst ds/\aB R xs ds
def k6(ios:List Addr)(R H:Hp)(v:V):Kd×D->Prop
 | (.ak,d)=>Rp R v d
 | (.own,d)=>OwR R H v d
 | (.io k,d)=>OwR R H v d/\∃ a,ios[k]? = some a/\v = .ref a
def owned:Kd->Bool
 | .ak=>false
 | _=>true
def Ow(σ:St)(Γ:En)(b:Addr):Prop:=∃ (i:Nat) (k:Kd) (d:D),Γ[i]? = some (some (k,d))/\owned k=true/\σ[i]? = some (some (.ref b))
structure ER(ios:List Addr)(R H:Hp)(σ:St)(Γ:En):Prop where
 sub:ae R H
 len:σ.length=Γ.length
 sl:∀ (i:Nat) (s:Kd×D),Γ[i]? = some (some s)->∃ v,σ[i]? = some (some v)/\k6 ios R H v s
 dj:∀ (i j:Nat) (k l:Kd) (d e:D) (b:Addr),Γ[i]? = some (some (k,d))->owned k=true->Γ[j]? = some (some (l,e))->owned l=true->σ[i]? = some (some (.ref b))->σ[j]? = some (some (.ref b))->i=j
structure Go(O:Addr->Prop)(R H:Hp)(O':Addr->Prop)(R' H':Hp):Prop where
 rr:ae R R'
 hh:∀ b o,H b=some o -> ¬ O b->H' b=some o
 no:∀ b o,H b=some o -> ¬ O b->R b=none->R' b=none
 oo:∀ b,O' b->O b\/H b=none
 th:∀ b o,H b=some o->∃ o',H' b=some o'
theorem Go.refl{O:Addr->Prop}{R H:Hp}:Go O R H O R H:=⟨ae.refl _,fun _ _ h _=>h,fun _ _ _ _ h=>h,fun _ h=>.inl h,fun _ o h=>⟨o,h⟩⟩
theorem Go.trans{O O1 O2:Addr->Prop}{R H R1 H1 R2 H2:Hp}(g:Go O R H O1 R1 H1)(k:Go O1 R1 H1 O2 R2 H2):Go O R H O2 R2 H2:=by
 have nO:∀ b o,H b=some o -> ¬ O b -> ¬ O1 b:=fun b o h n z=>(g.oo b z).elim n fun q=>by rw[h] at q;cases q
 refine⟨g.rr.trans k.rr,fun b o h n=>k.hh b o (g.hh b o h n) (nO b o h n),fun b o h n r=>k.no b o (g.hh b o h n) (nO b o h n) (g.no b o h n r),fun b z=>?_,fun b o h=>let ⟨o1,h1⟩:=g.th b o h;k.th b o1 h1⟩
 rcases k.oo b z with q | q
 · exact g.oo b q
 · by_cases hO:O b
   · exact .inl hO
   · cases e:H b with
     |none=>exact .inr rfl
     |some o=>rw[g.hh b o e hO] at q;cases q
end Dv
namespace Dv
open PySem L2 Ex
variable[KC]
structure Xc where
 C:Cn
 fs:List (Str×D)
inductive Res(α:Type) where
 |ok (a:α) (Γ:En) | ex (x:Xc) (Γ:En) | st
abbrev M(α:Type):=En->Res α
def M.pure{α:Type}(a:α):M α:=fun Γ=>.ok a Γ
def M.bind{α β:Type}(f:M α)(g:α->M β):M β:=fun Γ=>match f Γ with
 | .ok a Γ'=>g a Γ'
 | .ex x Γ'=>.ex x Γ'
 | .st=>.st
def M.st{α:Type}:M α:=fun _=>.st
def M.cF{α:Type}:Option α->M α
 |some a=>M.pure a
 |none=>M.st
def bx{α:Type}(r:Res α)(K:α->En->Prop)(E:Xc->En->Prop):Prop:=match r with
 | .ok a Γ=>K a Γ
 | .ex x Γ=>E x Γ
 | .st=>False
theorem ZY{α β:Type}{f:M α}{g:α->M β}{Γ:En}{K:β->En->Prop}{E:Xc->En->Prop}:bx (M.bind f g Γ) K E=bx (f Γ) (fun a Γ'=>bx (g a Γ') K E) E:=by
 unfold M.bind bx
 cases f Γ<;>rfl
theorem aT{α:Type}{r:Res α}{K K':α->En->Prop}{E E':Xc->En->Prop}(h:bx r K E)(hK:∀ a Γ,K a Γ->K' a Γ)(hE:∀ x Γ,E x Γ->E' x Γ):bx r K' E':=by
 cases r with
 |ok a Γ=>exact hK _ _ h
 |ex x Γ=>exact hE _ _ h
 |st=>exact h
theorem iy{α:Type}{o:Option α}{Γ:En}{K:α->En->Prop}{E:Xc->En->Prop}(h:bx (M.cF o Γ) K E):∃ a,o=some a/\K a Γ:=by
 cases o with
 |none=>exact False.elim h
 |some a=>exact⟨a,rfl,h⟩
structure Al(R H R' H':Hp):Prop where
 sub:ae R' H'
 rr:ae R R'
 hh:ae H H'
 no:∀ b o,H b=some o->R b=none->R' b=none
theorem Al.refl{R H:Hp}(s:ae R H):Al R H R H:=⟨s,ae.refl _,ae.refl _,fun _ _ _ h=>h⟩
theorem Al.go{O:Addr->Prop}{R H R' H':Hp}(a:Al R H R' H'):Go O R H O R' H':=⟨a.rr,fun b o h _=>a.hh b o h,fun b o h _ r=>a.no b o h r,fun _ h=>.inl h,fun b o h=>⟨o,a.hh b o h⟩⟩
theorem ER.ow{ios:List Addr}{R H:Hp}{σ:St}{Γ:En}(e:ER ios R H σ Γ){b:Addr}(o:Ow σ Γ b):R b=none/\∃ xs,H b=some (.lst xs):=by
 obtain⟨i,k,d,h1,h2,h3⟩:=o
 obtain⟨v,hv,s⟩:=e.sl i _ h1
 rw[h3] at hv
 cases hv
 cases k with
 |ak=>cases h2
 |own=>obtain⟨a,xs,ds,e1,e2,e3,_⟩:=s;cases e1;exact⟨e2,xs,e3⟩
 |io n=>obtain⟨⟨a,xs,ds,e1,e2,e3,_⟩,_⟩:=s;cases e1;exact⟨e2,xs,e3⟩
theorem OwR.mono{R H R' H':Hp}{v:V}{d:D}(h:OwR R H v d)(rr:ae R R')(k:∀ a xs,v = .ref a->H a=some (.lst xs)->R a=none->H' a=some (.lst xs)/\R' a=none):OwR R' H' v d:=by
 obtain⟨a,xs,ds,rfl,h1,h2,rfl,h3⟩:=h
 obtain⟨k1,k2⟩:=k a xs rfl h2 h1
 exact⟨a,xs,ds,rfl,k2,k1,rfl,h3.sm rr⟩
theorem k6.mono{ios:List Addr}{R H R' H':Hp}{v:V}{s:Kd×D}(h:k6 ios R H v s)(rr:ae R R')(k:owned s.1=true->∀ a xs,v = .ref a->H a=some (.lst xs)->R a=none->H' a=some (.lst xs)/\R' a=none):k6 ios R' H' v s:=by
 obtain⟨kd,d⟩:=s
 cases kd with
 |ak=>exact Rp.sm rr h
 |own=>exact OwR.mono h rr (k rfl)
 |io n=>exact⟨OwR.mono h.1 rr (k rfl),h.2⟩
theorem ER.al{ios:List Addr}{R H R' H':Hp}{σ:St}{Γ:En}(e:ER ios R H σ Γ)(a:Al R H R' H'):ER ios R' H' σ Γ where
 sub:=a.sub
 len:=e.len
 sl:=fun i s h=>let ⟨v,hv,q⟩:=e.sl i s h; ⟨v,hv,q.mono a.rr fun _ b xs _ h1 h2=>⟨a.hh _ _ h1,a.no _ _ h1 h2⟩⟩
 dj:=e.dj
structure aM(ios:List Addr)(R H:Hp)(σ:St)(Γ:En)(R' H':Hp)(Γ':En):Prop where
 er:ER ios R' H' σ Γ'
 go:Go (Ow σ Γ) R H (Ow σ Γ') R' H'
 sh:∀ b,Ow σ Γ' b->Ow σ Γ b
section
variable{ios:List Addr}{R H R1 H1 R2 H2:Hp}{σ:St}{Γ ah au:En}
theorem aM.refl(e:ER ios R H σ Γ):aM ios R H σ Γ R H Γ:=⟨e,Go.refl,fun _ h=>h⟩
theorem aM.trans(a:aM ios R H σ Γ R1 H1 ah)(b:aM ios R1 H1 σ ah R2 H2 au):aM ios R H σ Γ R2 H2 au:=⟨b.er,a.go.trans b.go,fun c h=>a.sh c (b.sh c h)⟩
theorem aM.al(a:aM ios R H σ Γ R1 H1 ah)(b:Al R1 H1 R2 H2):aM ios R H σ Γ R2 H2 ah:=⟨a.er.al b,a.go.trans b.go,a.sh⟩
def dX(R H H':Hp)(σ:St)(x:V):RV->Prop
 | .val d=>Rp R x d
 | .new d=>OwR R H' x d/\∃ a,x = .ref a/\H a=none
 | .var i=>σ[i]? = some (some x)
theorem dX.go{rv:RV}{x:V}(e:ER ios R H σ Γ)(a:aM ios R H σ Γ R1 H1 ah)(h:dX R1 H H1 σ x rv)(b:Go (Ow σ ah) R1 H1 (Ow σ au) R2 H2):dX R2 H H2 σ x rv:=by
 cases rv with
 |val d=>exact Rp.sm b.rr h
 |var i=>exact h
 |new d =>
   obtain⟨h1,p,hp,hn⟩:=h
   refine⟨h1.mono b.rr fun q xs e1 e2 e3=>?_,p,hp,hn⟩
   have : ¬ Ow σ ah q:=fun z=>by
    have hq:q=p:=by rw[hp] at e1;exact(V.ref.inj e1).symm
    obtain⟨_,xs,e4⟩:=e.ow (a.sh q z)
    rw[hq,hn] at e4;cases e4
   exact⟨b.hh _ _ e2 this,b.no _ _ e2 this e3⟩
def Pk(R H:Hp)(x:V)(d:D):Prop:=Rp R x d\/∃ a xs ds,x = .ref a/\H a=some (.lst xs)/\d = .lst ds/\aB R xs ds
theorem Pk.lst{ds:List D}{x:V}(s:ae R H)(h:Pk R H x (.lst ds)):∃ a xs,x = .ref a/\H a=some (.lst xs)/\aB R xs ds:=by
 rcases h with h | ⟨a,xs,ds',rfl,h1,h2,h3⟩
 · cases h with | lst e q=>exact⟨_,_,rfl,s _ _ e,q⟩
 · cases h2;exact⟨a,xs,rfl,h1,h3⟩
theorem Pk.hv{d:D}{x:V}(s:ae R H)(h:Pk R H x d):Rp H x d:=by
 rcases h with h | ⟨a,xs,ds',rfl,h1,rfl,h3⟩
 · exact h.sm s
 · exact .lst h1 (h3.sm s)
theorem Pk.int{i:Int}{x:V}(h:Pk R H x (.int i)):x = .int i:=by
 rcases h with h | ⟨a,xs,ds',rfl,h1,h2,h3⟩
 · cases h;rfl
 · cases h2
theorem Pk.bl{i:Bool}{x:V}(h:Pk R H x (.bl i)):x = .bl i:=by
 rcases h with h | ⟨a,xs,ds',rfl,h1,h2,h3⟩
 · cases h;rfl
 · cases h2
theorem Pk.str{i:Str}{x:V}(h:Pk R H x (.str i)):x = .str i:=by
 rcases h with h | ⟨a,xs,ds',rfl,h1,h2,h3⟩
 · cases h;rfl
 · cases h2
theorem Pk.tup{ds:List D}{x:V}(h:Pk R H x (.tup ds)):∃ a xs,x = .ref a/\R a=some (.tup xs)/\aB R xs ds:=by
 rcases h with h | ⟨a,xs,ds',rfl,h1,h2,h3⟩
 · cases h with | tup e q=>exact⟨_,_,rfl,e,q⟩
 · cases h2
end
def peek:RV->M D
 | .val d=>M.pure d
 | .new d=>M.pure d
 | .var i=>fun Γ=>match Γ[i]? with
   |some (some (_,d))=>.ok d Γ
   | _=>.st
def mat:RV->M D
 | .val d=>M.pure d
 | .new d=>M.pure d
 | .var i=>fun Γ=>match Γ[i]? with
   |some (some (_,d))=>.ok d (Γ.set i (some (.ak,d)))
   | _=>.st
section
variable{ios:List Addr}{R H R1 H1 R2 H2:Hp}{σ:St}{Γ ah au:En}
theorem k6.pk{v:V}{s:Kd×D}(h:k6 ios R H v s):Pk R H v s.2:=by
 obtain⟨kd,d⟩:=s
 cases kd with
 |ak=>exact .inl h
 |own=>obtain⟨a,xs,ds,h1,_,h2,h3,h4⟩:=h;exact .inr ⟨a,xs,ds,h1,h2,h3,h4⟩
 |io n=>obtain⟨⟨a,xs,ds,h1,_,h2,h3,h4⟩,_⟩:=h;exact .inr ⟨a,xs,ds,h1,h2,h3,h4⟩
theorem jg{rv:RV}{x:V}{K:D->En->Prop}{E:Xc->En->Prop}(e:ER ios R1 H1 σ ah)(h:dX R1 H H1 σ x rv)(k:bx (peek rv ah) K E):∃ d,Pk R1 H1 x d/\K d ah:=by
 cases rv with
 |val d=>exact⟨d,.inl h,k⟩
 |new d =>
   obtain⟨⟨a,xs,ds,h1,_,h2,h3,h4⟩,_⟩:=h
   exact⟨d,.inr ⟨a,xs,ds,h1,h2,h3,h4⟩,k⟩
 |var i =>
   unfold peek at k
   dsimp only at k
   split at k
   · rename_i q
     obtain⟨v,hv,s⟩:=e.sl i _ q
     have h:σ[i]? = some (some x):=h
     rw[h] at hv
     cases hv
     exact⟨_,s.pk,k⟩
   · exact False.elim k
def ext(R H:Hp)(a:Addr):Hp:=fun b=>if b=a then H a else R b
theorem pJ{R H:Hp}{a:Addr}(h:R a=none):ae R (ext R H a):=fun b o e=>by
 unfold ext
 split
 · rename_i z;rw[z,h] at e;cases e
 · exact e
theorem lT{R H:Hp}{a:Addr}:ext R H a a=H a:=by unfold ext;rw[if_pos rfl]
theorem k_{R H:Hp}{a b:Addr}(h:b≠a):ext R H a b=R b:=by unfold ext;rw[if_neg h]
theorem uA{R H:Hp}{a:Addr}(s:ae R H):ae (ext R H a) H:=fun b o e=>by
 unfold ext at e
 split at e
 · rename_i z;rw[z];exact e
 · exact s b o e
theorem Dm{i:Nat}{d:D}{b:Addr}(h:Ow σ (Γ.set i (some (.ak,d))) b):Ow σ Γ b /\ ¬ (σ[i]? = some (some (.ref b))/\∀ j k d,Γ[j]? = some (some (k,d))->owned k=true->σ[j]? = some (some (.ref b))->j=i):=by
 obtain⟨j,k,e,h1,h2,h3⟩:=h
 by_cases hj:j=i
 · subst hj
   by_cases hl:j<Γ.length
   · rw[List.getElem?_set_self hl] at h1;cases h1;cases h2
   · rw[List.getElem?_eq_none (by rw[List.length_set];omega)] at h1;cases h1
 · rw[List.getElem?_set_ne (Ne.symm hj)] at h1
   exact⟨⟨j,k,e,h1,h2,h3⟩,fun ⟨_,z⟩=>hj (z j k e h1 h2 h3)⟩
theorem ER.freeze{i:Nat}{k:Kd}{d:D}{x:V}(e:ER ios R H σ Γ)(hi:Γ[i]? = some (some (k,d)))(hx:σ[i]? = some (some x)):∃ R',aM ios R H σ Γ R' H (Γ.set i (some (.ak,d)))/\Rp R' x d:=by
 obtain⟨v,hv,s⟩:=e.sl i _ hi
 rw[hx] at hv
 cases hv
 have hlt:i<Γ.length:=(List.getElem?_eq_some_iff.mp hi).1
 by_cases hk:owned k=true
 · obtain⟨a,xs,ds,rfl,h1,h2,rfl,h3⟩:OwR R H x d:=by
    cases k with
    |ak=>cases hk
    |own=>exact s
    |io n=>exact s.1
   have inj:∀ j l z,Γ[j]? = some (some (l,z))->owned l=true->σ[j]? = some (some (.ref a))->j=i:=fun j l z q1 q2 q3=>(e.dj i j k l _ z a hi hk q1 q2 hx q3).symm
   have rr:ae R (ext R H a):=pJ h1
   refine⟨ext R H a,⟨⟨uA e.sub,by rw[List.length_set];exact e.len,fun j t hj=>?_,fun j j' l l' z z' b q1 q2 q3 q4 q5 q6=>?_⟩,⟨rr,fun _ _ h _=>h,fun b o hb nb rb=>?_,fun b z=>.inl (Dm z).1,fun b o h=>⟨o,h⟩⟩,fun b z=>(Dm z).1⟩,.lst (by rw[lT];exact h2) (h3.sm rr)⟩
   · by_cases hji:j=i
     · subst hji
       rw[List.getElem?_set_self hlt] at hj
       cases hj
       exact⟨_,hx,.lst (by rw[lT];exact h2) (h3.sm rr)⟩
     · rw[List.getElem?_set_ne (Ne.symm hji)] at hj
       obtain⟨v,hv,q⟩:=e.sl j t hj
       refine⟨v,hv,q.mono rr fun ho b ys eb hb rb=>⟨hb,?_⟩⟩
       rw[k_]
       · exact rb
       · rintro rfl
         subst eb
         exact hji (inj j t.1 t.2 hj ho hv)
   · have g1:Γ[j]? = some (some (l,z)):=by
      by_cases hji:j=i
      · subst hji;rw[List.getElem?_set_self hlt] at q1;cases q1;cases q2
      · rwa[List.getElem?_set_ne (Ne.symm hji)] at q1
     have g2:Γ[j']? = some (some (l',z')):=by
      by_cases hji:j'=i
      · subst hji;rw[List.getElem?_set_self hlt] at q3;cases q3;cases q4
      · rwa[List.getElem?_set_ne (Ne.symm hji)] at q3
     exact e.dj j j' l l' z z' b g1 q2 g2 q4 q5 q6
   · rw[k_]
     · exact rb
     · rintro rfl
       exact nb ⟨i,k,_,hi,hk,hx⟩
 · have hk:k = .ak:=by cases k<;>first | rfl | exact absurd rfl hk
   subst hk
   have:Γ.set i (some (.ak,d))=Γ:=by
    apply List.ext_getElem?
    intro j
    by_cases hj:j=i
    · subst hj;rw[List.getElem?_set_self hlt,hi]
    · rw[List.getElem?_set_ne (Ne.symm hj)]
   rw[this]
   exact⟨R,aM.refl e,s⟩
theorem jh{rv:RV}{x:V}{K:D->En->Prop}{E:Xc->En->Prop}(e:ER ios R H σ Γ)(a:aM ios R H σ Γ R1 H1 ah)(h:dX R1 H H1 σ x rv)(k:bx (mat rv ah) K E):∃ d au R2,aM ios R H σ Γ R2 H1 au/\ae R1 R2/\Rp R2 x d/\K d au:=by
 cases rv with
 |val d=>exact⟨d,ah,R1,a,ae.refl _,h,k⟩
 |new d =>
   obtain⟨⟨p,xs,ds,rfl,h1,h2,rfl,h3⟩,q,hq,hn⟩:=h
   cases hq
   have rr:ae R1 (ext R1 H1 p):=pJ h1
   have nO : ¬ Ow σ Γ p:=fun z=>by obtain⟨_,xs,e4⟩:=e.ow z;rw[hn] at e4;cases e4
   refine⟨_,ah,ext R1 H1 p,⟨⟨uA a.er.sub,a.er.len,fun j t hj=>?_,a.er.dj⟩,⟨a.go.rr.trans rr,a.go.hh,fun b o hb nb rb=>?_,a.go.oo,a.go.th⟩,a.sh⟩,rr,.lst (by rw[lT];exact h2) (h3.sm rr),k⟩
   · obtain⟨v,hv,s⟩:=a.er.sl j t hj
     refine⟨v,hv,s.mono rr fun ho b ys eb hb rb=>⟨hb,?_⟩⟩
     rw[k_]
     · exact rb
     · rintro rfl
       subst eb
       exact nO (a.sh _ ⟨j,t.1,t.2,hj,ho,hv⟩)
   · rw[k_]
     · exact a.go.no b o hb nb rb
     · rintro rfl
       rw[hn] at hb;cases hb
 |var i =>
   unfold mat at k
   dsimp only at k
   split at k
   · rename_i q
     obtain⟨R',f,r⟩:=a.er.freeze q h
     exact⟨_,_,R',a.trans f,f.go.rr,r,k⟩
   · exact False.elim k
end
def lb(R H0 H:Hp)(e:Addr)(x:Xc):Prop:=R e=none/\H0 e=none/\((x.fs=[]/\H e=some (bY (KC.cls x.C) e none false)) \/
 ∃ d fs,H e=some (bY (KC.cls x.C) e (some d) false)/\H d=some (jE d fs)/\R d=none/\H0 d=none/\fs.map (·.1)=x.fs.map (·.1)/\aB R (fs.map (·.2)) (x.fs.map (·.2)))
theorem lb.back{R H0 H1 H:Hp}{e:Addr}{x:Xc}(b:∀ a,H1 a=none->H0 a=none)(h:lb R H1 H e x):lb R H0 H e x:=by
 obtain⟨h1,h2,h3⟩:=h
 refine⟨h1,b _ h2,h3.imp id fun ⟨d,fs,a1,a2,a3,a4,a5⟩=>⟨d,fs,a1,a2,a3,b _ a4,a5⟩⟩
theorem aM.since{ios:List Addr}{R H R' H':Hp}{σ:St}{Γ Γ':En}(h:aM ios R H σ Γ R' H' Γ'):∀ b,H' b=none->H b=none:=fun b hb=>by
 cases q:H b with
 |none=>rfl
 |some o =>
   obtain⟨o',z⟩:=h.go.th b o q
   rw[hb] at z;cases z
def eh(EE:a9)(ios:List Addr)(R H:Hp)(σ:St)(Γ:En):Xc->En->Prop:=fun x Γ'=>∀ e H' R',aM ios R H σ Γ R' H' Γ'->lb R' H H' e x->EE σ (.ref (KC.cls x.C)) (some e) H'
theorem eh.trans{EE:a9}{ios:List Addr}{R H R1 H1:Hp}{σ:St}{Γ ah:En}(a:aM ios R H σ Γ R1 H1 ah){x:Xc}{Γ':En}(h:eh EE ios R H σ Γ x Γ'):eh EE ios R1 H1 σ ah x Γ':=fun e H' R' b q=>h e H' R' (a.trans b) (q.back a.since)
def fU(EE:a9)(ios:List Addr)(t:TE)(f:M RV):Prop:=∀ σ H R Γ Q,ER ios R H σ Γ ->
 bx (f Γ) (fun rv Γ'=>∀ x H' R',aM ios R H σ Γ R' H' Γ'->dX R' H H' σ x rv->Q x H') (eh EE ios R H σ Γ)->t σ H Q
def lg(EE:a9)(ios:List Addr)(t:TT)(f:M Bool):Prop:=∀ σ H R Γ Q,ER ios R H σ Γ ->
 bx (f Γ) (fun b Γ'=>∀ H' R',aM ios R H σ Γ R' H' Γ'->Q b H') (eh EE ios R H σ Γ)->t σ H Q
def VE(X:Cx)(EE:a9)(ios:List Addr)(e:Expr)(f:M RV):Prop:=∃ t,PE X e t/\fU EE ios t f
def VT(X:Cx)(EE:a9)(ios:List Addr)(e:Expr)(f:M Bool):Prop:=∃ t,PT X e t/\lg EE ios t f
def VW(X:Cx)(EE:a9)(ios:List Addr)(e:Expr)(f:M Bool):Prop:=∃ t,PW X e t/\lg EE ios t f
def om(R:Hp)(σ:St)(x:V):RV->Prop
 | .val d=>Rp R x d
 | .new _=>False
 | .var i=>σ[i]? = some (some x)
inductive eo(R:Hp)(σ:St):List V->List RV->Prop where
 |nil:eo R σ [] []
 |cons {x:V} {rv:RV} {xs:List V} {rvs:List RV}:om R σ x rv->eo R σ xs rvs->eo R σ (x::xs) (rv::rvs)
theorem om.sm{R R':Hp}{σ:St}(s:ae R R'){x:V}{rv:RV}(h:om R σ x rv):om R' σ x rv:=by
 cases rv with
 |val d=>exact Rp.sm s h
 |new d=>exact h
 |var i=>exact h
theorem eo.sm{R R':Hp}{σ:St}(s:ae R R'):∀ {xs:List V} {rvs:List RV},eo R σ xs rvs->eo R' σ xs rvs
 | _,_,.nil=>.nil
 | _,_,.cons a b=>.cons (a.sm s) (b.sm s)
theorem om.rv{R H H':Hp}{σ:St}{x:V}{rv:RV}(h:om R σ x rv):dX R H H' σ x rv:=by
 cases rv with
 |val d=>exact h
 |new d=>exact h.elim
 |var i=>exact h
def pK(EE:a9)(ios:List Addr)(t:TA)(f:M (List RV)):Prop:=∀ σ H R Γ Q,ER ios R H σ Γ ->
 bx (f Γ) (fun rvs Γ'=>∀ xs H' R',aM ios R H σ Γ R' H' Γ'->eo R' σ xs rvs->Q xs H') (eh EE ios R H σ Γ)->t σ H Q
def VA(X:Cx)(EE:a9)(ios:List Addr)(es:List Expr)(f:M (List RV)):Prop:=∃ t,PA X es t/\pK EE ios t f
section
variable{X:Cx}{EE:a9}{ios:List Addr}{e a b c:Expr}{f g k:M RV}{pos:Pos}
def ai(i:Nat):M RV:=fun Γ=>match Γ[i]? with
 |some (some (.ak,d))=>.ok (.val d) Γ
 |some (some _)=>.ok (.var i) Γ
 | _=>.st
theorem aw{i:Nat}(h:PE X e (nc i)):VE X EE ios e (ai i):=by
 refine⟨_,h,fun σ H R Γ Q er w=>?_⟩
 unfold ai at w
 split at w
 · rename_i q
   obtain⟨v,hv,s⟩:=er.sl i _ q
   exact⟨v,hv,w v H R (aM.refl er) s⟩
 · rename_i q
   obtain⟨v,hv,s⟩:=er.sl i _ q
   exact⟨v,hv,w v H R (aM.refl er) hv⟩
 · exact False.elim w
theorem q9{v:V}{d:D}(h:PE X e (tC v))(r:∀ R,Rp R v d):VE X EE ios e (M.pure (.val d)) :=
 ⟨_,h,fun σ H R Γ Q er w=>w v H R (aM.refl er) (r R)⟩
theorem aG{i:Int}{j:Nat}:VE X EE ios (.Constant (.int i) j pos) (M.pure (.val (.int i))):=q9 HE fun _=>.int i
theorem iz{i:Bool}{j:Nat}:VE X EE ios (.Constant (.bool i) j pos) (M.pure (.val (.bl i))):=q9 HF fun _=>.bl i
theorem jY{j:Nat}:VE X EE ios (.Constant .none j pos) (M.pure (.val .ao)):=q9 HG fun _=>.ao
theorem c_{i:Str}{j:Nat}:VE X EE ios (.Constant (.str i) j pos) (M.pure (.val (.str i))):=q9 BG fun _=>.str i
def iX(R H H':Hp)(z:V):RV->Prop
 | .val d=>Rp R z d
 | .new d=>OwR R H' z d/\∃ a,z = .ref a/\H a=none
 | .var _=>False
theorem iX.rv{R H0 H H':Hp}{σ:St}{z:V}{rv:RV}(h:iX R H H' z rv)(s:∀ b,H b=none->H0 b=none):dX R H0 H' σ z rv:=by
 cases rv with
 |val d=>exact h
 |new d=>obtain⟨h1,a,h2,h3⟩:=h;exact⟨h1,a,h2,s _ h3⟩
 |var i=>exact h.elim
theorem aM.back{R H R' H':Hp}{σ:St}{Γ Γ':En}(er:ER ios R H σ Γ)(h:aM ios R H σ Γ R' H' Γ'):∀ b,H' b=none->H b=none:=fun b hb=>by
 cases q:H b with
 |none=>rfl
 |some o =>
   obtain⟨o',z⟩:=h.go.th b o q
   rw[hb] at z;cases z
end
section
variable{X:Cx}{EE:a9}{ios:List Addr}{e a b c:Expr}{f g k:M RV}{pos:Pos}{ta tb tc t:TE}{r r':R2}
def dE(r:R2)(g:D->D->Option RV):Prop:=∀ R H x y d e rv (Q:VK),ae R H->Pk R H x d->Pk R H y e->g d e=some rv->(∀ z H' R',Al R H R' H'->iX R' H H' z rv->Q z H')->r x y H Q
def op2(o:D->D->Option RV)(f g:M RV):M RV:=M.bind f fun x=>M.bind g fun y=>M.bind (peek x) fun d=>M.bind (peek y) fun e=>M.cF (o d e)
theorem uB{o:D->D->Option RV}(ho:dE r o)(ha:fU EE ios ta f)(hb:fU EE ios tb g):fU EE ios (qL r ta tb) (op2 o f g):=by
 intro σ H R Γ Q er w
 unfold op2 at w
 rw[ZY] at w
 refine ha σ H R Γ _ er (aT w (fun rx ah w x H1 R1 p1 hx=>?_) fun _ _ z=>z)
 rw[ZY] at w
 refine hb σ H1 R1 ah _ p1.er (aT w (fun ry au w y H2 R2 p2 hy=>?_) fun _ _ z=>eh.trans p1 z)
 rw[ZY] at w
 obtain⟨d,pd,w⟩:=jg p2.er (hx.go er p1 p2.go) w
 rw[ZY] at w
 obtain⟨e,pe,w⟩:=jg p2.er hy w
 obtain⟨rv,hg,w⟩:=iy w
 exact ho R2 H2 x y d e rv Q p2.er.sub pd pe hg fun z H' R' al ra=>w z H' R' ((p1.trans p2).al al) (ra.rv ((p1.trans p2).back er))
theorem b9{op:Operator}{o:D->D->Option RV}(h:bX X (binaryOp op) r)(ho:dE r o)(ha:VE X EE ios a f)(hb:VE X EE ios b g):VE X EE ios (.BinOp a op b pos) (op2 o f g) :=
 let ⟨_,h1,h2⟩:=ha;let ⟨_,h3,h4⟩:=hb; ⟨_,Il h h1 h3,uB ho h2 h4⟩
theorem oq{op:CmpOp}{o:D->D->Option RV}(h:bX X (compareOp op) r)(ho:dE r o)(ha:VE X EE ios a f)(hb:VE X EE ios b g)(hm:behindInMarks op b=false):VE X EE ios (.Compare a [op] [b] pos) (op2 o f g) :=
 let ⟨_,h1,h2⟩:=ha;let ⟨_,h3,h4⟩:=hb; ⟨_,Iu h h1 h3 hm,uB ho h2 h4⟩
def bz(rv:RV):M Bool:=match rv with
 | .val (.bl b)=>M.pure b
 | _=>M.st
theorem Dp(h:fU EE ios t f):lg EE ios (Ca t) (M.bind f bz):=by
 intro σ H R Γ Q er w
 rw[ZY] at w
 refine h σ H R Γ _ er (aT w (fun rv ah w x H1 R1 p1 hx=>?_) fun _ _ z=>z)
 unfold bz at w
 split at w
 · cases hx;exact⟨_,rfl,w H1 R1 p1⟩
 · exact False.elim w
theorem gw{op:CmpOp}{o:D->D->Option RV}(h:bX X (compareOp op) r)(ho:dE r o)(ha:VE X EE ios a f)(hb:VE X EE ios b g)(hm:behindInMarks op b=false):VT X EE ios (.Compare a [op] [b] pos) (M.bind (op2 o f g) bz) :=
 let ⟨_,h1,h2⟩:=ha;let ⟨_,h3,h4⟩:=hb; ⟨_,Iv h h1 h3 hm,Dp (uB ho h2 h4)⟩
theorem xW(ha:VE X EE ios e f)(he:∀ whole,isTrue e X.env whole=(do let v <- whole;standAt e.pos;holding [v] (truthy v)):=by intro _;rfl):VT X EE ios e (M.bind f bz) :=
 let ⟨_,h1,h2⟩:=ha; ⟨_,HH h1 he,Dp h2⟩
def q_(o o':D->D->Option RV)(f g k:M RV):M RV:=M.bind f fun x=>M.bind g fun y=>M.bind (peek x) fun d=>M.bind (peek y) fun e=>M.bind (M.bind (M.cF (o d e)) bz) fun q =>
 if q then M.bind k fun z=>M.bind (peek y) fun e'=>M.bind (peek z) fun u=>M.cF (o' e' u) else M.pure (.val (.bl false))
theorem Kx{o o':D->D->Option RV}(ho:dE r o)(ho':dE r' o')(ha:fU EE ios ta f)(hb:fU EE ios tb g)(hc:fU EE ios tc k):fU EE ios (Cb r r' ta tb tc) (q_ o o' f g k):=by
 intro σ H R Γ Q er w
 unfold q_ at w
 rw[ZY] at w
 refine ha σ H R Γ _ er (aT w (fun rx ah w x H1 R1 p1 hx=>?_) fun _ _ z=>z)
 rw[ZY] at w
 refine hb σ H1 R1 ah _ p1.er (aT w (fun ry au w y H2 R2 p2 hy=>?_) fun _ _ z=>eh.trans p1 z)
 have lh:=p1.trans p2
 rw[ZY] at w
 obtain⟨d,pd,w⟩:=jg p2.er (hx.go er p1 p2.go) w
 rw[ZY] at w
 obtain⟨e,pe,w⟩:=jg p2.er hy w
 rw[ZY,ZY] at w
 obtain⟨rv,hg,w⟩:=iy w
 refine ho R2 H2 x y d e rv _ p2.er.sub pd pe hg fun z H3 R3 al ra=>?_
 unfold bz at w
 split at w
 · rename_i q
   cases ra
   refine⟨q,rfl,?_⟩
   have w:bx ((if q=true then M.bind k fun z=>M.bind (peek ry) fun e'=>M.bind (peek z) fun u=>M.cF (o' e' u) else M.pure (.val (.bl false))) au) _ _:=w
   cases q with
   |false=>exact qS (w (.bl false) H3 R3 (lh.al al) (.bl false))
   |true =>
     refine qT ?_
     simp only[if_true] at w
     rw[ZY] at w
     have lU:=lh.al al
     refine hc σ H3 R3 au _ lU.er (aT w (fun rz nv w z H4 R4 p4 hz=>?_) fun _ _ z=>eh.trans lU z)
     rw[ZY] at w
     have Ky:dX R3 H1 H3 σ y ry:=hy.go p1.er p2 al.go
     obtain⟨e',Kz,w⟩:=jg p4.er (Ky.go p1.er (p2.al al) p4.go) w
     rw[ZY] at w
     obtain⟨u,pu,w⟩:=jg p4.er hz w
     obtain⟨rv,hg',w⟩:=iy w
     exact ho' R4 H4 y z e' u rv Q p4.er.sub Kz pu hg' fun v H' R' al' KA=>w v H' R' ((lU.trans p4).al al') (KA.rv ((lU.trans p4).back er))
 · exact False.elim w
theorem KD{op op':CmpOp}{o o':D->D->Option RV}(h:bX X (compareOp op) r)(h':bX X (compareOp op') r')(ho:dE r o)(ho':dE r' o')(ha:VE X EE ios a f)(hb:VE X EE ios b g)(hc:VE X EE ios c k)
 (hm:lastMarks [op,op'] [b,c]=false:=by with_unfolding_all rfl):VE X EE ios (.Compare a [op,op'] [b,c] pos) (q_ o o' f g k) :=
 let ⟨_,h1,h2⟩:=ha;let ⟨_,h3,h4⟩:=hb;let ⟨_,h5,h6⟩:=hc; ⟨_,Iw h h' h1 h3 h5 hm,Kx ho ho' h2 h4 h6⟩
variable{p q:M Bool}
def jZ(p:M Bool):M Bool:=M.bind p fun b=>M.pure (!b)
def orM(p q:M Bool):M Bool:=M.bind p fun b=>if b then M.pure true else q
theorem KG{t:TT}(h:lg EE ios t p):lg EE ios (BJ t) (jZ p):=by
 intro σ H R Γ Q er w
 unfold jZ at w
 rw[ZY] at w
 exact h σ H R Γ _ er (aT w (fun b ah w H1 R1 p1=>w H1 R1 p1) fun _ _ z=>z)
theorem KH{t u:TT}(h:lg EE ios t p)(h':lg EE ios u q):lg EE ios (BI t u) (orM p q):=by
 intro σ H R Γ Q er w
 unfold orM at w
 rw[ZY] at w
 refine h σ H R Γ _ er (aT w (fun b ah w H1 R1 p1=>?_) fun _ _ z=>z)
 cases b with
 |true=>exact qT (w H1 R1 p1)
 |false=>exact qS (h' σ H1 R1 ah _ p1.er (aT w (fun b au w H2 R2 p2=>w H2 R2 (p1.trans p2)) fun _ _ z=>eh.trans p1 z))
theorem Dq(h:VT X EE ios a p):VT X EE ios (.UnaryOp .Not a pos) (jZ p):=let ⟨_,h1,h2⟩:=h; ⟨_,HK h1,KG h2⟩
theorem rf(h:VT X EE ios a p):VW X EE ios (.BoolOp .Or [a] pos) p:=let ⟨_,h1,h2⟩:=h; ⟨_,HI h1,h2⟩
theorem pL{rest:List Expr}(h:VT X EE ios a p)(h':VW X EE ios (.BoolOp .Or (b::rest) pos) q):VW X EE ios (.BoolOp .Or (a::b::rest) pos) (orM p q):=let ⟨_,h1,h2⟩:=h;let ⟨_,h3,h4⟩:=h'; ⟨_,HJ h1 h3,KH h2 h4⟩
theorem rg(h:VW X EE ios a p):VT X EE ios a p:=let ⟨_,h1,h2⟩:=h; ⟨_,PW.pt h1,h2⟩
def uC(p:M Bool):M RV:=M.bind p fun b=>M.pure (.val (.bl b))
def jG(f g:M RV):M RV:=M.bind (M.bind f bz) fun b=>if b then g else M.pure (.val (.bl false))
theorem KI{R0 H0 R H R' H':Hp}{σ:St}{fV Γ Γ':En}{x:V}{rv:RV}(er:ER ios R0 H0 σ fV)(p1:aM ios R0 H0 σ fV R H Γ)(h:dX R' H H' σ x rv):dX R' H0 H' σ x rv:=by
 cases rv with
 |val d=>exact h
 |new d=>obtain⟨h1,a,h2,h3⟩:=h;exact⟨h1,a,h2,p1.back er _ h3⟩
 |var i=>exact h
theorem xZ{op:BoolOp}(h:VE X EE ios a f):VE X EE ios (.BoolOp op [a] pos) f:=let ⟨_,h1,h2⟩:=h; ⟨_,HN h1,h2⟩
theorem ot{rest:List Expr}(h:VE X EE ios a f)(h':VE X EE ios (.BoolOp .And (b::rest) pos) g):VE X EE ios (.BoolOp .And (a::b::rest) pos) (jG f g):=by
 obtain⟨_,h1,h2⟩:=h
 obtain⟨_,h3,h4⟩:=h'
 refine⟨_,HP h1 h3,fun σ H R Γ Q er w=>?_⟩
 unfold jG at w
 rw[ZY] at w
 refine h2 σ H R Γ _ er (aT (by rw[ZY] at w;exact w) (fun rv ah w x H1 R1 p1 hx=>?_) fun _ _ z=>z)
 unfold bz at w
 split at w
 · rename_i q
   cases hx
   refine⟨_,rfl,?_⟩
   cases q with
   |false=>exact qS (w (.bl false) H1 R1 p1 (.bl false))
   |true=>exact qT (h4 σ H1 R1 ah _ p1.er (aT w (fun rv au w y H2 R2 p2 hy=>w y H2 R2 (p1.trans p2) (KI (Γ':=au) er p1 hy)) fun _ _ z=>eh.trans p1 z))
 · exact False.elim w
theorem KJ(h:VE X EE ios a f):VE X EE ios (.UnaryOp .Not a pos) (uC (jZ (M.bind f bz))):=by
 obtain⟨_,h1,h2⟩:=h
 refine⟨_,HQ h1,fun σ H R Γ Q er w=>?_⟩
 unfold uC jZ at w
 rw[ZY,ZY,ZY] at w
 refine h2 σ H R Γ _ er (aT w (fun rv ah w x H1 R1 p1 hx=>?_) fun _ _ z=>z)
 unfold bz at w
 split at w
 · cases hx
   exact⟨_,rfl,w _ H1 R1 p1 (.bl _)⟩
 · exact False.elim w
end
mutual
def D.py:D->PyData
 | .ao=>.none
 | .bl b=>.bool b
 | .int i=>.int i
 | .str x=>.str x
 | .lst xs=>.list (D.eQ xs)
 | .tup xs=>.tuple (D.eQ xs)
 | .gp _ _=>.dict []
 | .bM _=>.dict []
 | .ins _ _ _=>.dict []
 | .obj _ _ _=>.dict []
def D.eQ:List D->List PyData
 | []=>[]
 |x::r=>x.py::D.eQ r
end
mutual
theorem Rp.dat{H:Hp}:∀ {x:V} {d:D},Rp H x d->d.py.canLay0=true->cK H x d.py
 | _,_,.ao,_=>.ao
 | _,_,.bl b,_=>.bl b
 | _,_,.int i,_=>.int i
 | _,_,.str x,_=>.str x
 | _,_,.lst e h,p=>.lst e (aB.dat h (by simpa [D.py,PyData.canLay0] using p))
 | _,_,.tup e h,p=>.tup e (aB.dat h (by simpa [D.py,PyData.canLay0] using p))
 | _,_,.gv e,p=>by simp[D.py,PyData.canLay0] at p
 | _,_,.bM e,p=>by simp[D.py,PyData.canLay0] at p
 | _,_,.fT e,p=>by simp[D.py,PyData.canLay0] at p
 | _,_,.exc e e' h,p=>by simp[D.py,PyData.canLay0] at p
 | _,_,.obj e h,p=>by simp[D.py,PyData.canLay0] at p
theorem aB.dat{H:Hp}:∀ {xs:List V} {ds:List D},aB H xs ds->PyData.canLayAll0 (D.eQ ds)=true->cf H xs (D.eQ ds)
 | _,_,.nil,_=>.nil
 | _,_,.cons a b,p=>by
   have p:=Bool.and_eq_true_iff.mp (show(PyData.canLay0 _ && PyData.canLayAll0 _)=true from by simpa only [D.eQ,PyData.canLayAll0] using p)
   exact .cons (Rp.dat a p.1) (aB.dat b p.2)
end
def eqB(d e:D):Bool:=PyData.eqv d.py e.py
def fb(d:D):Bool:=SeqAt.shaped d.py
theorem uD{d:D}(h:fb d=true):d.py.canLay0=true:=SeqAt.canLay_of_shaped h
def pM(d e:D):Option RV:=if fb d && fb e then some (.val (.bl (eqB d e))) else none
def rh(d e:D):Option RV:=if fb d && fb e then some (.val (.bl (!eqB d e))) else none
section
variable{K:W.Frag}
theorem KL:dE xQ pM:=by
 intro R H x y d e rv Q s px py hg q
 unfold pM at hg
 split at hg
 · rename_i c
   rw[Bool.and_eq_true] at c
   cases hg
   exact⟨d.py,e.py,(px.hv s).dat (uD c.1),(py.hv s).dat (uD c.2),c.1,c.2,q _ H R (Al.refl s) (.bl _)⟩
 · cases hg
theorem KN:dE xR rh:=by
 intro R H x y d e rv Q s px py hg q
 unfold rh at hg
 split at hg
 · rename_i c
   rw[Bool.and_eq_true] at c
   cases hg
   exact⟨d.py,e.py,(px.hv s).dat (uD c.1),(py.hv s).dat (uD c.2),c.1,c.2,q _ H R (Al.refl s) (.bl _)⟩
 · cases hg
def fc:D->D->Option RV
 | .str x,.str y=>some (.val (.bl (decide (x=y))))
 |d,e=>pM d e
def cR:D->D->Option RV
 | .str x,.str y=>some (.val (.bl (!decide (x=y))))
 |d,e=>rh d e
def x_:R2:=fun x y H Q=>xQ x y H Q\/BY x y H Q
def Dr:R2:=fun x y H Q=>xR x y H Q\/BZ x y H Q
omit [KC] in
theorem pN{X:Cx}{k:Nat}(hr:ax k X.A):bX X (compareOp .Eq) x_:=(Kr hr).or op_eq
omit [KC] in
theorem j4{X:Cx}{k:Nat}(hr:ax k X.A):bX X (compareOp .NotEq) Dr:=(Ks hr).or Ir
omit [KC] in
theorem Ds(x y:Str):decide (V.str x=V.str y)=decide (x=y):=by
 by_cases h:x=y
 · subst h;simp
 · simp[h]
theorem pP:dE x_ fc:=by
 intro R H x y d e rv Q s px py hg q
 unfold fc at hg
 split at hg
 · cases hg
   cases px.str
   cases py.str
   refine .inr ⟨rfl,?_⟩
   rw[Ds]
   exact q _ H R (Al.refl s) (.bl _)
 · exact .inl (KL R H x y _ _ rv Q s px py hg q)
theorem j6:dE Dr cR:=by
 intro R H x y d e rv Q s px py hg q
 unfold cR at hg
 split at hg
 · cases hg
   cases px.str
   cases py.str
   refine .inr ⟨rfl,?_⟩
   rw[Ds]
   exact q _ H R (Al.refl s) (.bl _)
 · exact .inl (KN R H x y _ _ rv Q s px py hg q)
def pQ(g:Int->Int->D)(d e:D):Option RV:=match d,e with
 | .int i,.int j=>some (.val (g i j))
 | _,_=>none
def rj(C:Int->Int->Bool)(g:Int->Int->D)(d e:D):Option RV:=match d,e with
 | .int i,.int j=>if C i j then some (.val (g i j)) else none
 | _,_=>none
theorem ya{g:Int->Int->V}{g':Int->Int->D}(h:∀ R i j,Rp R (g i j) (g' i j)):dE (jW g) (pQ g'):=by
 intro R H x y d e rv Q s px py hg q
 unfold pQ at hg
 split at hg
 · cases hg
   exact⟨_,_,px.int,py.int,q _ H R (Al.refl s) (h R _ _)⟩
 · cases hg
theorem yb{C:Int->Int->Prop}{C':Int->Int->Bool}{g:Int->Int->V}{g':Int->Int->D}(hC:∀ i j,C' i j=true->C i j)(h:∀ R i j,Rp R (g i j) (g' i j)):dE (rI C g) (rj C' g'):=by
 intro R H x y d e rv Q s px py hg q
 unfold rj at hg
 split at hg
 · split at hg
   · rename_i c
     cases hg
     exact⟨_,_,px.int,py.int,hC _ _ c,q _ H R (Al.refl s) (h R _ _)⟩
   · cases hg
 · cases hg
def cd(p:Prop):Bool:=@decide p (Classical.propDecidable p)
omit [KC] in
theorem jH{p:Prop}(h:p):cd p=true:=by unfold cd;exact @decide_eq_true p (Classical.propDecidable p) h
omit [KC] in
theorem lj{p:Prop}(h:cd p=true):p:=by unfold cd at h;exact @of_decide_eq_true p (Classical.propDecidable p) h
abbrev uE:=pQ fun i j=>.bl (decide (i<j))
abbrev yc:=pQ fun i j=>.bl (decide (i<=j))
abbrev uF:=pQ fun i j=>.bl (decide (j<i))
abbrev jI:=rj (fun _ j=>cd (0<j)) fun i j=>.int (i % j)
abbrev uG:=rj (fun _ j=>cd (0<j/\j<1073741824)) fun i j=>.int (i / j)
abbrev ny:=rj (fun i j=>cd (0<=j/\j<=1000000/\i.natAbs<2 ^ 64)) fun i j=>.int (i ^ j.toNat)
theorem yd:dE (jW fun i j=>.bl (decide (i<j))) uE:=ya fun _ _ _=>.bl _
theorem Dt:dE (jW fun i j=>.bl (decide (i<=j))) yc:=ya fun _ _ _=>.bl _
theorem Du:dE (jW fun i j=>.bl (decide (j<i))) uF:=ya fun _ _ _=>.bl _
theorem nA:dE (rI (fun _ j=>0<j) fun i j=>.int (i % j)) jI:=yb (fun _ _ h=>lj h) fun _ _ _=>.int _
theorem Dw:dE (rI BU fun i j=>.int (i / j)) uG:=yb (fun _ _ h=>lj h) fun _ _ _=>.int _
theorem ye:dE (rI BV fun i j=>.int (i ^ j.toNat)) ny:=yb (fun _ _ h=>lj h) fun _ _ _=>.int _
theorem lV{R H:Hp}{p:Addr}{xs:List V}{ds:List D}(s:ae R H)(hp:H p=none)(h:aB R xs ds):Al R H R (upd H p (.lst xs))/\iX R H (upd H p (.lst xs)) (.ref p) (.new (.lst ds)) :=
 ⟨⟨s.trans (ix hp),ae.refl _,ix hp,fun _ _ _ z=>z⟩,⟨p,xs,ds,rfl,s.free hp,cN,rfl,h⟩,p,rfl,hp⟩
theorem uH{R H:Hp}{p:Addr}{xs:List V}{ds:List D}(s:ae R H)(hp:H p=none)(h:aB R xs ds):Al R H (upd R p (.tup xs)) (upd H p (.tup xs))/\iX (upd R p (.tup xs)) H (upd H p (.tup xs)) (.ref p) (.val (.tup ds)):=by
 have hr:R p=none:=s.free hp
 refine⟨⟨fun b o e=>?_,ix hr,ix hp,fun b o e r=>?_⟩,.tup cN (h.sm (ix hr))⟩
 · by_cases hb:b=p
   · subst hb;rw[cN] at e ⊢;exact e
   · rw[aV hb] at e ⊢;exact s b o e
 · rw[aV (eU e hp)];exact r
def dY(d e:D):Option RV:=match d,e with
 | .int i,.int j=>some (.val (.int (i+j)))
 | .lst xs,.lst ys=>if xs.length+ys.length<=sizeLine then some (.new (.lst (xs++ys))) else none
 | .str i,.str j=>if i.length+j.length<=sizeLine then some (.val (.str (i++j))) else none
 | _,_=>none
def Dx:R2:=fun x y H Q=>jW (fun i j=>.int (i+j)) x y H Q\/(CM x y H Q\/(∃ i j,x = .str i/\y = .str j/\i.length+j.length<=sizeLine/\Q (.str (i++j)) H))
theorem iY{X:Cx}:bX X (binaryOp .Add) Dx:=nR.or (n5.or Iy)
theorem iZ:dE Dx dY:=by
 intro R H x y d e rv Q s px py hg q
 unfold dY at hg
 split at hg
 · cases hg
   exact .inl ⟨_,_,px.int,py.int,q _ H R (Al.refl s) (.int _)⟩
 · split at hg
   · rename_i c
     cases hg
     obtain⟨a,xs,rfl,h1,h2⟩:=px.lst s
     obtain⟨b,ys,rfl,h3,h4⟩:=py.lst s
     refine .inr (.inl ⟨a,b,xs,ys,rfl,rfl,h1,h3,by rw[h2.len,h4.len];exact c,fun p hp=>?_⟩)
     obtain⟨al,rv⟩:=lV s hp (h2.app h4)
     exact q _ _ _ al rv
   · cases hg
 · split at hg
   · rename_i c
     cases hg
     exact .inr (.inr ⟨_,_,px.str,py.str,c,q _ H R (Al.refl s) (.str _)⟩)
   · cases hg
 · cases hg
def ou(i j:Int):Bool:=cd (jb i j)
def lq(d e:D):Option RV:=match d,e with
 | .int i,.int j=>if ou i j then some (.val (.int (i * j))) else none
 | _,_=>none
theorem KO{i j:Int}(h:ou i j=true):jb i j:=lj h
theorem oy:dE (rI jb fun i j=>.int (i * j)) lq:=by
 intro R H x y d e rv Q s px py hg q
 unfold lq at hg
 split at hg
 · split at hg
   · rename_i c
     cases hg
     exact⟨_,_,px.int,py.int,KO c,q _ H R (Al.refl s) (.int _)⟩
   · cases hg
 · cases hg
def isNone:D->Bool
 | .ao=>true
 | _=>false
theorem Pk.isNone{R H:Hp}{x:V}{d:D}(h:Pk R H x d):decide (x = .ao)=isNone d:=by
 rcases h with h | ⟨a,xs,ds,rfl,_,rfl,_⟩
 · cases h<;>first | rfl | exact decide_eq_false (fun z=>nomatch z)
 · exact decide_eq_false (fun z=>nomatch z)
def rk(d e:D):Option RV:=match e with
 | .ao=>some (.val (.bl (isNone d)))
 | _=>none
theorem Pk.yf{R H:Hp}{x:V}(h:Pk R H x .ao):x = .ao:=by
 rcases h with h | ⟨a,xs,ds,rfl,_,h2,_⟩
 · cases h;rfl
 · cases h2
theorem Dy:dE (fun x y H Q=>y = .ao/\Q (.bl (decide (x = .ao))) H) rk:=by
 intro R H x y d e rv Q s px py hg q
 unfold rk at hg
 split at hg
 · cases hg
   refine⟨py.yf,?_⟩
   rw[px.isNone]
   exact q _ H R (Al.refl s) (.bl _)
 · cases hg
def oz:D->Bool
 | .ao=>true
 | .bl _=>true
 | .int _=>true
 | .str _=>true
 | _=>false
def oA:D->D->Bool
 | .ao,.ao=>true
 | .bl a,.bl b=>a == b
 | .bl a,.int b=>(if a then 1 else 0) == b
 | .int a,.bl b=>a == (if b then 1 else 0)
 | .int a,.int b=>a == b
 | .str a,.str b=>a == b
 | _,_=>false
theorem Rp.flat{R:Hp}{x:V}{d:D}(h:Rp R x d):je x=oz d:=by cases h<;>rfl
theorem Rp.Dz{R:Hp}{x y:V}{d e:D}(h:Rp R x d)(h':Rp R y e):iq x y=oA d e:=by cases h<;>cases h'<;>rfl
end
section
variable{X:Cx}{EE:a9}{ios:List Addr}{e a b c:Expr}{es:List Expr}{f g k:M RV}{fs:M (List RV)}{pos:Pos}{ta tb tc t:TE}{r r':R2}
def jJ(f:M RV):M RV:=M.bind f fun rv=>match rv with
 | .var i=>M.pure (.var i)
 |rv=>M.bind (mat rv) fun d=>M.pure (.val d)
def ZS(f:M RV)(g:M (List RV)):M (List RV):=M.bind (jJ f) fun x=>M.bind g fun xs=>M.pure (x::xs)
theorem uI(h:fU EE ios t f){σ:St}{H R:Hp}{Γ:En}{Q:VK}(er:ER ios R H σ Γ)
 (w:bx (jJ f Γ) (fun rv Γ'=>∀ x H' R',aM ios R H σ Γ R' H' Γ'->om R' σ x rv->Q x H') (eh EE ios R H σ Γ)):t σ H Q:=by
 unfold jJ at w
 rw[ZY] at w
 refine h σ H R Γ _ er (aT w (fun rv ah w x H1 R1 p1 hx=>?_) fun _ _ z=>z)
 cases rv with
 |var i=>exact w x H1 R1 p1 hx
 |val d =>
   rw[ZY] at w
   obtain⟨d,au,R2,e2,_,r2,w⟩:=jh er p1 hx w
   exact w x H1 R2 e2 r2
 |new d =>
   rw[ZY] at w
   obtain⟨d,au,R2,e2,_,r2,w⟩:=jh er p1 hx w
   exact w x H1 R2 e2 r2
theorem aC:VA X EE ios [] (M.pure []):=⟨_,dD,fun σ H R Γ Q er w=>w [] H R (aM.refl er) .nil⟩
theorem DA{u:TA}(h:fU EE ios t f)(h':pK EE ios u fs):pK EE ios (jD t u) (ZS f fs):=by
 intro σ H R Γ Q er w
 unfold ZS at w
 rw[ZY] at w
 refine uI h er (aT w (fun rv ah w x H1 R1 p1 hx=>?_) fun _ _ z=>z)
 rw[ZY] at w
 refine h' σ H1 R1 ah _ p1.er (aT w (fun rvs au w xs H2 R2 p2 hxs=>?_) fun _ _ z=>eh.trans p1 z)
 exact w (x::xs) H2 R2 (p1.trans p2) (.cons (hx.sm p2.go.rr) hxs)
theorem Zj(ha:VE X EE ios e f)(hr:VA X EE ios es fs)(hs:starEach (e::es) X.env=(false,eval e X.env)::starEach es X.env:=by rfl):VA X EE ios (e::es) (ZS f fs) :=
 let ⟨_,h1,h2⟩:=ha;let ⟨_,h3,h4⟩:=hr; ⟨_,bp h1 h3 hs,DA h2 h4⟩
def b7:List RV->M (List D)
 | []=>M.pure []
 |rv::r=>M.bind (mat rv) fun d=>M.bind (b7 r) fun ds=>M.pure (d::ds)
def cS:List RV->M (List D)
 | []=>M.pure []
 |rv::r=>M.bind (peek rv) fun d=>M.bind (cS r) fun ds=>M.pure (d::ds)
inductive Pks(R H:Hp):List V->List D->Prop where
 |nil:Pks R H [] []
 |cons {x:V} {d:D} {xs:List V} {ds:List D}:Pk R H x d->Pks R H xs ds->Pks R H (x::xs) (d::ds)
theorem pR{R H:Hp}{σ:St}{Γ:En}(er:ER ios R H σ Γ):∀ {xs:List V} {rvs:List RV} {K:List D->En->Prop} {E:Xc->En->Prop},eo R σ xs rvs->bx (cS rvs Γ) K E->∃ ds,Pks R H xs ds/\K ds Γ
 | _,_,K,E,.nil,w=>⟨[],.nil,w⟩
 | _,_,K,E,.cons a b,w=>by
   unfold cS at w
   rw[ZY] at w
   obtain⟨d,pd,w⟩:=jg (H:=H) er a.rv w
   rw[ZY] at w
   obtain⟨ds,pds,w⟩:=pR er b w
   exact⟨d::ds,.cons pd pds,w⟩
theorem ji{R0 H0 H:Hp}{σ:St}{fV:En}(er:ER ios R0 H0 σ fV):∀ {xs:List V} {rvs:List RV} {R:Hp} {Γ:En} {K:List D->En->Prop} {E:Xc->En->Prop},aM ios R0 H0 σ fV R H Γ->eo R σ xs rvs->bx (b7 rvs Γ) K E ->
 ∃ ds Γ' R',aM ios R0 H0 σ fV R' H Γ'/\ae R R'/\aB R' xs ds/\K ds Γ'
 | _,_,R,Γ,K,E,p,.nil,w=>⟨[],Γ,R,p,ae.refl _,.nil,w⟩
 | _,_,R,Γ,K,E,p,.cons a b,w=>by
   unfold b7 at w
   rw[ZY] at w
   obtain⟨d,ah,R1,p1,s1,r1,w⟩:=jh er p a.rv w
   rw[ZY] at w
   obtain⟨ds,au,R2,p2,s2,r2,w⟩:=ji er p1 (b.sm s1) w
   exact⟨d::ds,au,R2,p2,s1.trans s2,.cons (r1.sm s2) r2,w⟩
def av(fs:M (List RV)):M RV:=M.bind fs fun rvs=>M.bind (b7 rvs) fun ds=>if ds.length<=sizeLine then M.pure (.new (.lst ds)) else M.st
def cu(fs:M (List RV)):M RV:=M.bind fs fun rvs=>M.bind (b7 rvs) fun ds=>if ds.length<=sizeLine then M.pure (.val (.tup ds)) else M.st
theorem cD(h:VA X EE ios es fs):VE X EE ios (.List es pos) (av fs):=by
 obtain⟨t,h1,h2⟩:=h
 refine⟨_,IT h1,fun σ H R Γ Q er w=>?_⟩
 unfold av at w
 rw[ZY] at w
 refine h2 σ H R Γ _ er (aT w (fun rvs ah w xs H1 R1 p1 hx=>?_) fun _ _ z=>z)
 rw[ZY] at w
 obtain⟨ds,au,R2,p2,s2,r2,w⟩:=ji er p1 hx w
 split at w
 · rename_i c
   refine⟨by rw[r2.len];exact c,fun p hp=>?_⟩
   obtain⟨al,rv⟩:=lV p2.er.sub hp r2
   exact w _ _ _ (p2.al al) (rv.rv (p2.back er))
 · exact False.elim w
theorem eR{k1:Nat}(h:VA X EE ios es fs):VE X EE ios (.Tuple es k1 pos) (cu fs):=by
 obtain⟨t,h1,h2⟩:=h
 refine⟨_,Cj h1,fun σ H R Γ Q er w=>?_⟩
 unfold cu at w
 rw[ZY] at w
 refine h2 σ H R Γ _ er (aT w (fun rvs ah w xs H1 R1 p1 hx=>?_) fun _ _ z=>z)
 rw[ZY] at w
 obtain⟨ds,au,R2,p2,s2,r2,w⟩:=ji er p1 hx w
 split at w
 · rename_i c
   refine⟨by rw[r2.len];exact c,fun p hp=>?_⟩
   obtain⟨al,rv⟩:=uH p2.er.sub hp r2
   exact w _ _ _ (p2.al al) (rv.rv (p2.back er))
 · exact False.elim w
def nB(r:List V->Hp->VK->Prop)(g:List D->Option RV):Prop:=∀ R H xs ds rv (Q:VK),ae R H->Pks R H xs ds->g ds=some rv->(∀ z H' R',Al R H R' H'->iX R' H H' z rv->Q z H')->r xs H Q
def cm(g:List D->Option RV)(fs:M (List RV)):M RV:=M.bind fs fun rvs=>M.bind (cS rvs) fun ds=>M.cF (g ds)
theorem hU{r:List V->Hp->VK->Prop}{g:List D->Option RV}{e0:Expr}(hp:∀ t,PA X es t->PE X e0 (pF r t))(hv:nB r g)(ha:VA X EE ios es fs):VE X EE ios e0 (cm g fs):=by
 obtain⟨t,h1,h2⟩:=ha
 refine⟨_,hp t h1,fun σ H R Γ Q er w=>?_⟩
 unfold cm at w
 rw[ZY] at w
 refine h2 σ H R Γ _ er (aT w (fun rvs ah w xs H1 R1 p1 hx=>?_) fun _ _ z=>z)
 rw[ZY] at w
 obtain⟨ds,pd,w⟩:=pR p1.er hx w
 obtain⟨rv,hg,w⟩:=iy w
 exact hv R1 H1 xs ds rv Q p1.er.sub pd hg fun z H' R' al ra=>w z H' R' (p1.al al) (ra.rv (p1.back er))
theorem Pks.one{R H:Hp}{xs:List V}{d:D}(h:Pks R H xs [d]):∃ x,xs=[x]/\Pk R H x d:=by
 cases h with | cons a b=>cases b;exact⟨_,rfl,a⟩
theorem Pks.two{R H:Hp}{xs:List V}{d e:D}(h:Pks R H xs [d,e]):∃ x y,xs=[x,y]/\Pk R H x d/\Pk R H y e:=by
 cases h with | cons a b=>obtain⟨y,rfl,q⟩:=b.one;exact⟨_,_,rfl,a,q⟩
def j7:List D->Option RV
 | [.lst xs]=>some (.val (.int xs.length))
 | [.tup xs]=>some (.val (.int xs.length))
 | [.bM xs]=>some (.val (.int xs.length))
 | [.str z]=>if z.length<=sizeLine then some (.val (.int z.length)) else none
 | _=>none
def DB(K:W.Frag):List V->Hp->VK->Prop:=fun xs H Q=>(∃ p ys,xs=[.ref p]/\(bQ K H p ys\/c8 K H p ys)/\Q (.int ys.length) H)\/(∃ z,xs=[.str z]/\z.length<=sizeLine/\Q (.int z.length) H)
theorem uJ:aS X (.builtin "len") (DB X.K):=fP.or Jm
theorem uK:nB (DB KC.K) j7:=by
 intro R H xs ds rv Q s px hg q
 unfold j7 at hg
 split at hg
 · cases hg
   obtain⟨x,rfl,p⟩:=px.one
   obtain⟨a,ys,rfl,h1,h2⟩:=p.lst s
   refine .inl ⟨a,ys,rfl,.inl (bQ.of h1),?_⟩
   rw[h2.len]
   exact q _ H R (Al.refl s) (.int _)
 · cases hg
   obtain⟨x,rfl,p⟩:=px.one
   obtain⟨a,ys,rfl,h1,h2⟩:=p.tup
   refine .inl ⟨a,ys,rfl,.inr (c8.of (s _ _ h1)),?_⟩
   rw[h2.len]
   exact q _ H R (Al.refl s) (.int _)
 · cases hg
   obtain⟨x,rfl,p⟩:=px.one
   rcases p with p | ⟨_,_,_,_,_,z,_⟩
   · cases p with
     |bM h1 =>
       refine .inl ⟨_,_,rfl,.inl (s.seq h1),?_⟩
       rw[List.length_map]
       exact q _ H R (Al.refl s) (.int _)
   · cases z
 · split at hg
   · rename_i c
     cases hg
     obtain⟨x,rfl,p⟩:=px.one
     cases p.str
     exact .inr ⟨_,rfl,c,q _ H R (Al.refl s) (.int _)⟩
   · cases hg
 · cases hg
def rn:List D->Option RV
 | [.int i,.int j]=>some (.val (.int (if j > i then j else i)))
 | _=>none
def rq:List D->Option RV
 | [.int i,.int j]=>some (.val (.int (if j<i then j else i)))
 | _=>none
theorem KP:nB (fun xs H Q=>∃ i j,xs=[.int i,.int j]/\Q (.int (if j > i then j else i)) H) rn:=by
 intro R H xs ds rv Q s px hg q
 unfold rn at hg
 split at hg
 · cases hg
   obtain⟨x,y,rfl,p,p'⟩:=px.two
   exact⟨_,_,by rw[p.int,p'.int],q _ H R (Al.refl s) (.int _)⟩
 · cases hg
theorem KQ:nB (fun xs H Q=>∃ i j,xs=[.int i,.int j]/\Q (.int (if j<i then j else i)) H) rq:=by
 intro R H xs ds rv Q s px hg q
 unfold rq at hg
 split at hg
 · cases hg
   obtain⟨x,y,rfl,p,p'⟩:=px.two
   exact⟨_,_,by rw[p.int,p'.int],q _ H R (Al.refl s) (.int _)⟩
 · cases hg
def oB:List D->Option RV
 | [.int i]=>some (.val (.int i))
 | [.bl k]=>some (.val (.int (if k then 1 else 0)))
 | _=>none
theorem DC:nB (fun xs H Q=>(∃ i,xs=[.int i]/\Q (.int i) H)\/∃ k,xs=[.bl k]/\Q (.int (if k then 1 else 0)) H) oB:=by
 intro R H xs ds rv Q s px hg q
 unfold oB at hg
 split at hg
 · cases hg
   obtain⟨x,rfl,p⟩:=px.one
   exact .inl ⟨_,by rw[p.int],q _ H R (Al.refl s) (.int _)⟩
 · cases hg
   obtain⟨x,rfl,p⟩:=px.one
   exact .inr ⟨_,by rw[p.bl],q _ H R (Al.refl s) (.int _)⟩
 · cases hg
def pS:List D->Option RV
 | [.lst xs]=>some (.new (.lst xs))
 | [.tup xs]=>some (.new (.lst xs))
 | _=>none
theorem DD{K:W.Frag}:nB (fun xs H Q=>∃ p ys,xs=[.ref p]/\(bQ K H p ys\/c8 K H p ys)/\∀ l,H l=none->Q (.ref l) (upd H l (.lst ys))) pS:=by
 intro R H xs ds rv Q s px hg q
 unfold pS at hg
 split at hg
 · cases hg
   obtain⟨x,rfl,p⟩:=px.one
   obtain⟨a,ys,rfl,h1,h2⟩:=p.lst s
   refine⟨a,ys,rfl,.inl (bQ.of h1),fun l hl=>?_⟩
   obtain⟨al,rv⟩:=lV s hl h2
   exact q _ _ _ al rv
 · cases hg
   obtain⟨x,rfl,p⟩:=px.one
   obtain⟨a,ys,rfl,h1,h2⟩:=p.tup
   refine⟨a,ys,rfl,.inr (c8.of (s _ _ h1)),fun l hl=>?_⟩
   obtain⟨al,rv⟩:=lV s hl h2
   exact q _ _ _ al rv
 · cases hg
def lW:List D->Option RV
 | [.lst xs]=>some (.val (.tup xs))
 | [.tup xs]=>some (.val (.tup xs))
 | _=>none
theorem DE{K:W.Frag}:nB (fun xs H Q=>∃ p ys,xs=[.ref p]/\((bQ K H p ys/\∀ l,H l=none->Q (.ref l) (upd H l (.tup ys)))\/(c8 K H p ys/\Q (.ref p) H))) lW:=by
 intro R H xs ds rv Q s px hg q
 unfold lW at hg
 split at hg
 · cases hg
   obtain⟨x,rfl,p⟩:=px.one
   obtain⟨a,ys,rfl,h1,h2⟩:=p.lst s
   refine⟨a,ys,rfl,.inl ⟨bQ.of h1,fun l hl=>?_⟩⟩
   obtain⟨al,rv⟩:=uH s hl h2
   exact q _ _ _ al rv
 · cases hg
   obtain⟨x,rfl,p⟩:=px.one
   obtain⟨a,ys,rfl,h1,h2⟩:=p.tup
   exact⟨a,ys,rfl,.inr ⟨c8.of (s _ _ h1),q _ H R (Al.refl s) (.tup h1 h2)⟩⟩
 · cases hg
end
section
variable{X:Cx}{EE:a9}{ios:List Addr}{e a b c:Expr}{es:List Expr}{f g k:M RV}{fs:M (List RV)}{pos:Pos}{ta tb tc t:TE}{r r':R2}{K:W.Frag}
def dh(d e:D):Option RV:=match d,e with
 | .lst xs,.int i=>(cC xs i).map .val
 | .tup xs,.int i=>(cC xs i).map .val
 | .bM ns,.int i=>(cC ns i).map fun n=>.val (.int n)
 | .str z,.int i=>if z.length<=sizeLine then (cC z.cps.toList i).map fun c=>.val (.str ⟨#[c]⟩) else none
 | _,_=>none
theorem aB.cC{R:Hp}{xs:List V}{ds:List D}{i:Int}{d:D}(h:aB R xs ds)(e:L2.cC ds i=some d):∃ x,L2.cC xs i=some x/\Rp R x d:=by
 unfold L2.cC at e ⊢
 rw[h.len]
 cases q:jd ds.length i with
 |none=>rw[q] at e;cases e
 |some j =>
   rw[q] at e
   exact h.ta e
theorem KR{α β:Type}(f:α->β)(xs:List α)(i:Int):L2.cC (xs.map f) i=(L2.cC xs i).map f:=by
 unfold L2.cC
 rw[List.length_map]
 cases jd xs.length i with
 |none=>rfl
 |some j=>simp
theorem KS:dE (CB KC.K) dh:=by
 intro R H x y d e rv Q s px py hg q
 unfold dh at hg
 split at hg
 · rename_i ds i
   cases h:L2.cC ds i with
   |none=>rw[h] at hg;cases hg
   |some d =>
     rw[h] at hg
     cases hg
     obtain⟨a,xs,rfl,h1,h2⟩:=px.lst s
     obtain⟨v,hv,rv⟩:=h2.cC h
     exact .inl ⟨a,xs,i,v,rfl,py.int,bQ.of h1,hv,q _ H R (Al.refl s) rv⟩
 · rename_i ds i
   cases h:L2.cC ds i with
   |none=>rw[h] at hg;cases hg
   |some d =>
     rw[h] at hg
     cases hg
     obtain⟨a,xs,rfl,h1,h2⟩:=px.tup
     obtain⟨v,hv,rv⟩:=h2.cC h
     exact .inr (.inl ⟨a,xs,i,v,rfl,py.int,c8.of (s _ _ h1),hv,q _ H R (Al.refl s) rv⟩)
 · rename_i ns i
   cases h:L2.cC ns i with
   |none=>rw[h] at hg;cases hg
   |some n =>
     rw[h] at hg
     cases hg
     rcases px with px | ⟨_,_,_,_,_,z,_⟩
     · cases px with
       |bM h1=>exact .inl ⟨_,_,i,.int n,rfl,py.int,s.seq h1,by rw[KR,h];rfl,q _ H R (Al.refl s) (.int n)⟩
     · cases z
 · rename_i z i
   split at hg
   · rename_i c
     cases h:L2.cC z.cps.toList i with
     |none=>rw[h] at hg;cases hg
     |some n =>
       rw[h] at hg
       cases hg
       exact .inr (.inr ⟨z,i,n,px.str,py.int,c,h,q _ H R (Al.refl s) (.str _)⟩)
   · cases hg
 · cases hg
theorem hV(ha:VE X EE ios a f)(hb:VE X EE ios b g)(hs:Cw b:=by intro _ _;rfl)(hK:X.K=KC.K:=by rfl):VE X EE ios (.Subscript a b pos) (op2 dh f g) :=
 let ⟨_,h1,h2⟩:=ha;let ⟨_,h3,h4⟩:=hb; ⟨_,Jd Jf h1 h3 hs,uB (by rw[hK];exact KS) h2 h4⟩
def i4{α:Type}(xs:List α)(lo hi:Option Int):List α:=(xs.drop (HT.eZ xs.length 0 lo)).take (HT.eZ xs.length xs.length hi - HT.eZ xs.length 0 lo)
def l7(d:D)(lo hi:Option Int):Option RV:=match d with
 | .lst xs=>some (.new (.lst (i4 xs lo hi)))
 | .bM ns=>some (.new (.lst ((i4 ns lo hi).map D.int)))
 | _=>none
def KU(EE:a9)(ios:List Addr)(t:TO)(f:M (Option Int)):Prop:=∀ σ H R Γ Q,ER ios R H σ Γ ->
 bx (f Γ) (fun o Γ'=>∀ H' R',aM ios R H σ Γ R' H' Γ'->Q o H') (eh EE ios R H σ Γ)->t σ H Q
def VO(X:Cx)(EE:a9)(ios:List Addr)(e:Option Expr)(f:M (Option Int)):Prop:=∃ t,PO X e t/\KU EE ios t f
theorem yg:VO X EE ios none (M.pure none):=⟨_,I9,fun σ H R Γ Q er w=>w H R (aM.refl er)⟩
def l9(rv:RV):M (Option Int):=match rv with
 | .val (.int i)=>M.pure (some i)
 | _=>M.st
theorem yh(h:VE X EE ios e f):VO X EE ios (some e) (M.bind f l9):=by
 obtain⟨t,h1,h2⟩:=h
 refine⟨_,I_ h1,fun σ H R Γ Q er w=>?_⟩
 rw[ZY] at w
 refine h2 σ H R Γ _ er (aT w (fun rv ah w x H1 R1 p1 hx=>?_) fun _ _ z=>z)
 unfold l9 at w
 split at w
 · cases hx;exact⟨_,rfl,w H1 R1 p1⟩
 · exact False.elim w
def l_(o:D->Option Int->Option Int->Option RV)(f:M RV)(lo hi:M (Option Int)):M RV:=M.bind f fun x=>M.bind lo fun l=>M.bind hi fun u=>M.bind (peek x) fun d=>M.cF (o d l u)
theorem aB.cut{R:Hp}{xs:List V}{ds:List D}(h:aB R xs ds)(lo hi:Option Int):aB R (nW xs lo hi) (i4 ds lo hi):=by
 unfold nW i4
 rw[h.len]
 exact(h.drop _).take _
theorem KW{α β:Type}(f:α->β)(xs:List α)(lo hi:Option Int):(i4 xs lo hi).map f=i4 (xs.map f) lo hi:=by
 unfold i4
 rw[List.length_map,List.map_take,List.map_drop]
theorem yi{lo hi:Option Expr}{l u:M (Option Int)}{p2:Pos}(ha:VE X EE ios a f)(hl:VO X EE ios lo l)(hu:VO X EE ios hi u)(hK:X.K=KC.K:=by rfl):VE X EE ios (.Subscript a (.Slice lo hi none p2) pos) (l_ l7 f l u):=by
 obtain⟨t1,h1,h2⟩:=ha
 obtain⟨t2,h3,h4⟩:=hl
 obtain⟨t3,h5,h6⟩:=hu
 refine⟨_,Jb Jk h1 h3 h5,fun σ H R Γ Q er w=>?_⟩
 unfold l_ at w
 rw[ZY] at w
 refine h2 σ H R Γ _ er (aT w (fun rx ah w x H1 R1 p1 hx=>?_) fun _ _ z=>z)
 rw[ZY] at w
 refine h4 σ H1 R1 ah _ p1.er (aT w (fun l au w H2 R2 p2=>?_) fun _ _ z=>eh.trans p1 z)
 rw[ZY] at w
 have lh:=p1.trans p2
 refine h6 σ H2 R2 au _ p2.er (aT w (fun u me w H3 R3 p3=>?_) fun _ _ z=>eh.trans lh z)
 have lU:=lh.trans p3
 rw[ZY] at w
 obtain⟨d,pd,w⟩:=jg p3.er (hx.go er p1 (p2.trans p3).go) w
 obtain⟨rv,hg,w⟩:=iy w
 unfold l7 at hg
 split at hg
 · cases hg
   obtain⟨a,xs,rfl,h1,h2⟩:=pd.lst p3.er.sub
   refine⟨a,xs,rfl,bQ.of h1,fun p hp=>?_⟩
   obtain⟨al,rv⟩:=lV p3.er.sub hp (h2.cut l u)
   exact w _ _ _ (lU.al al) (rv.rv (lU.back er))
 · cases hg
   rcases pd with pd | ⟨_,_,_,_,_,z,_⟩
   · cases pd with
     |bM h1 =>
       refine⟨_,_,rfl,by rw[hK];exact p3.er.sub.seq h1,fun p hp=>?_⟩
       rw[show nW=i4 from rfl, <- KW]
       obtain⟨al,rv⟩:=lV p3.er.sub hp (aB.ints (R:=R3) _)
       exact w _ _ _ (lU.al al) (rv.rv (lU.back er))
   · cases z
 · cases hg
def op1(o:D->Option RV)(f:M RV):M RV:=M.bind f fun x=>M.bind (peek x) fun d=>M.cF (o d)
def oE:D->Option RV
 | .int i=>some (.val (.int (-i)))
 | _=>none
theorem yj(ha:VE X EE ios a f):VE X EE ios (.UnaryOp .USub a pos) (op1 oE f):=by
 obtain⟨t,h1,h2⟩:=ha
 refine⟨_,Im Iq h1,fun σ H R Γ Q er w=>?_⟩
 unfold op1 at w
 rw[ZY] at w
 refine h2 σ H R Γ _ er (aT w (fun rx ah w x H1 R1 p1 hx=>?_) fun _ _ z=>z)
 rw[ZY] at w
 obtain⟨d,pd,w⟩:=jg p1.er hx w
 obtain⟨rv,hg,w⟩:=iy w
 unfold oE at hg
 split at hg
 · cases hg
   exact⟨_,pd.int,w _ H1 R1 p1 (.int _)⟩
 · cases hg
def rA:D->String
 | .ao => "NoneType"
 | .bl _ => "bool"
 | .int _ => "int"
 | .str _ => "str"
 | .lst _ => "list"
 | .tup _ => "tuple"
 | .gp _ _ => "dict"
 | .bM _ => "list"
 | .ins _ _ _ => "object"
 | .obj _ _ _ => "object"
def plain:D->Bool
 | .bM _=>false
 | .ins _ _ _=>false
 | .obj _ _ _=>false
 | _=>true
theorem Rp.ty{H:Hp}{x:V}{d:D}(h:Rp H x d)(ns:plain d=true):cA K H x (.type (rA d)):=by
 cases h with
 |ao=>exact .ao
 |bl b=>exact .bl b
 |int i=>exact .int i
 |str x=>exact .str x
 |lst e _=>exact .lst e
 |tup e _=>exact .tup e
 |gv e=>exact .dK e
 |bM e=>cases ns
 |fT e=>cases ns
 |exc e _ _=>cases ns
 |obj e _=>cases ns
inductive Ty where
 |int | bool | str | list | tuple | dict
def Ty.nm:Ty->String
 | .int => "int"
 | .bool => "bool"
 | .str => "str"
 | .list => "list"
 | .tuple => "tuple"
 | .dict => "dict"
def et:Ty->D->Bool
 | .int,.bl _=>true
 | .bool,.bl _=>true
 | .int,.int _=>true
 | .str,.str _=>true
 | .list,.lst _=>true
 | .list,.bM _=>true
 | .tuple,.tup _=>true
 | .dict,.gp _ _=>true
 | _,_=>false
theorem KY(K:W.Frag)(d:D)(hd:plain d=true)(T:Ty):W.kitOne K (.type (rA d)) (.type T.nm)=some (et T d):=by
 cases T<;>cases d<;>first | kernel_rfl | cases hd
def nC(T:Ty):D->Option RV
 | .bM _=>none
 | .ins _ _ _=>none
 | .obj _ _ _=>none
 |d=>some (.val (.bl (et T d)))
def oF(T:Ty)(f:M RV):M RV:=M.bind (jJ f) fun x=>M.bind (peek x) fun d=>M.cF (nC T d)
theorem uL{T:Ty}{e0:Expr}(hp:∀ t,PE X a t->PE X e0 (pF (Kw X.K) (jD t (jD (tC (.ty T.nm)) lN))))(ha:VE X EE ios a f):VE X EE ios e0 (oF T f):=by
 obtain⟨t,h1,h2⟩:=ha
 refine⟨_,hp t h1,fun σ H R Γ Q er w=>?_⟩
 unfold oF at w
 rw[ZY] at w
 refine uI h2 er (aT w (fun rx ah w x H1 R1 p1 hx=>?_) fun _ _ z=>z)
 rw[ZY] at w
 obtain⟨d,pd,w⟩:=jg (H:=H) p1.er hx.rv w
 have hv:=pd.hv p1.er.sub
 obtain⟨rv,hg,w⟩:=iy w
 have ns:plain d=true:=by cases d<;>first | rfl | cases hg
 have hg:rv = .val (.bl (et T d)):=by cases d<;>first | (cases hg;done) | exact(Option.some.inj hg).symm
 subst hg
 exact⟨x,.ty T.nm,_,_,_,rfl,rfl,.inl (hv.ty ns),KY X.K d ns T,w _ H1 R1 p1 (.bl _)⟩
theorem ER.mut{R H:Hp}{σ:St}{Γ:En}{i:Nat}{kd:Kd}{ds ds':List D}{x:V}(er:ER ios R H σ Γ)(hi:Γ[i]? = some (some (kd,.lst ds)))(ho:owned kd=true)(hx:σ[i]? = some (some x)) :
 ∃ p xs,x = .ref p/\H p=some (.lst xs)/\aB R xs ds/\∀ xs',aB R xs' ds'->aM ios R H σ Γ R (upd H p (.lst xs')) (Γ.set i (some (kd,.lst ds'))):=by
 obtain⟨v,hv,s⟩:=er.sl i _ hi
 rw[hx] at hv
 cases hv
 have hlt:i<Γ.length:=(List.getElem?_eq_some_iff.mp hi).1
 obtain⟨⟨a,xs,bq,rfl,h1,h2,h3,h4⟩,hio⟩:OwR R H x (.lst ds)/\∀ n,kd = .io n->∃ a,ios[n]? = some a/\x = .ref a:=by
  cases kd with
  |ak=>cases ho
  |own=>exact⟨s,fun _ z=>nomatch z⟩
  |io n=>exact⟨s.1,fun m z=>by cases z;exact s.2⟩
 cases h3
 have inj:∀ j l z,Γ[j]? = some (some (l,z))->owned l=true->σ[j]? = some (some (.ref a))->j=i:=fun j l z q1 q2 q3=>(er.dj i j kd l _ z a hi ho q1 q2 hx q3).symm
 have rB:∀ b,Ow σ (Γ.set i (some (kd,.lst ds'))) b->Ow σ Γ b:=by
  rintro b ⟨j,l,z,q1,q2,q3⟩
  by_cases hj:j=i
  · subst hj
    rw[List.getElem?_set_self hlt] at q1
    cases q1
    exact⟨j,kd,_,hi,ho,q3⟩
  · rw[List.getElem?_set_ne (Ne.symm hj)] at q1
    exact⟨j,l,z,q1,q2,q3⟩
 refine⟨a,xs,rfl,h2,h4,fun xs' h5=>⟨⟨fun b o e=>?_,by rw[List.length_set];exact er.len,fun j t hj=>?_,fun j j' l l' z z' b q1 q2 q3 q4 q5 q6=>?_⟩,⟨ae.refl _,fun b o h n=>?_,fun _ _ _ _ z=>z,fun b z=>.inl (rB b z),fun b o h=>?_⟩,rB⟩⟩
 · rw[aV]
   · exact er.sub b o e
   · rintro rfl;rw[h1] at e;cases e
 · by_cases hji:j=i
   · subst hji
     rw[List.getElem?_set_self hlt] at hj
     cases hj
     refine⟨_,hx,?_⟩
     have z:OwR R (upd H a (.lst xs')) (.ref a) (.lst ds'):=⟨a,xs',ds',rfl,h1,cN,rfl,h5⟩
     cases kd with
     |ak=>cases ho
     |own=>exact z
     |io n=>exact⟨z,hio n rfl⟩
   · rw[List.getElem?_set_ne (Ne.symm hji)] at hj
     obtain⟨v,hv,q⟩:=er.sl j t hj
     refine⟨v,hv,q.mono (ae.refl _) fun ho' b ys eb hb rb=>⟨?_,rb⟩⟩
     rw[aV]
     · exact hb
     · rintro rfl
       subst eb
       exact hji (inj j t.1 t.2 hj ho' hv)
 · have g:∀ {j:Nat} {l:Kd} {z:D},(Γ.set i (some (kd,.lst ds')))[j]? = some (some (l,z))->∃ z',Γ[j]? = some (some (l,z')):=by
    intro j l z q
    by_cases hji:j=i
    · subst hji;rw[List.getElem?_set_self hlt] at q;cases q;exact⟨_,hi⟩
    · rw[List.getElem?_set_ne (Ne.symm hji)] at q;exact⟨z,q⟩
   obtain⟨z1,g1⟩:=g q1
   obtain⟨z2,g2⟩:=g q3
   exact er.dj j j' l l' z1 z2 b g1 q2 g2 q4 q5 q6
 · rw[aV]
   · exact h
   · rintro rfl;exact n ⟨i,kd,_,hi,ho,hx⟩
 · by_cases hb:b=a
   · subst hb;exact⟨_,cN⟩
   · exact⟨o,by rw[aV hb];exact h⟩
def rC(r:V->List V->Hp->VK->Prop)(g:List D->List D->Option (List D×D)):Prop:=∀ R H p xs ds ys es ds' res (Q:VK),ae R H->R p=none->H p=some (.lst xs)->aB R xs ds->aB R ys es->g ds es=some (ds',res) ->
 (∀ xs' z,aB R xs' ds'->Rp R z res->Q z (upd H p (.lst xs')))->r (.ref p) ys H Q
def recv(i:Nat):M Unit:=fun Γ=>match Γ[i]? with
 |some (some (kd,.lst _))=>if owned kd then .ok () Γ else .st
 | _=>.st
def rD(i:Nat)(g:List D->List D->Option (List D×D))(es:List D):M RV:=fun Γ=>match Γ[i]? with
 |some (some (kd,.lst ds))=>if owned kd then match g ds es with
   |some (ds',res)=>.ok (.val res) (Γ.set i (some (kd,.lst ds')))
   |none=>.st else .st
 | _=>.st
def rE(i:Nat)(g:List D->List D->Option (List D×D))(fs:M (List RV)):M RV:=M.bind (recv i) fun _=>M.bind fs fun rvs=>M.bind (b7 rvs) fun es=>rD i g es
theorem yk{H:Hp}{p:Addr}{xs:List V}(h:H p=some (.lst xs)):uh K "list" (.ref p) H:=.inl ⟨rfl,_,bQ.of h⟩
theorem DF{i:Nat}{σ:St}{H R:Hp}{Γ:En}{K':Unit->En->Prop}{E:Xc->En->Prop}(er:ER ios R H σ Γ)(w:bx (recv i Γ) K' E):∃ p xs,σ[i]? = some (some (.ref p))/\H p=some (.lst xs)/\K' () Γ:=by
 unfold recv at w
 split at w
 · rename_i kd ds q
   split at w
   · rename_i ho
     obtain⟨v,hv,s⟩:=er.sl i _ q
     obtain⟨p,xs,rfl,h2,_⟩:=er.mut (ds':=ds) q ho hv
     exact⟨p,xs,hv,h2,w⟩
   · exact False.elim w
 · exact False.elim w
theorem KZ{i:Nat}{r:V->List V->Hp->VK->Prop}{g:List D->List D->Option (List D×D)}(hv:rC r g){R0 H0 R H:Hp}{σ:St}{fV Γ:En}{p:Addr}{ys:List V}{es:List D}{Q:VK}{E:Xc->En->Prop}(p1:aM ios R0 H0 σ fV R H Γ)
 (j8:σ[i]? = some (some (.ref p))) (hys:aB R ys es) (w:bx (rD i g es Γ) (fun rv Γ'=>∀ x H' R',aM ios R0 H0 σ fV R' H' Γ'->dX R' H0 H' σ x rv->Q x H') E):r (.ref p) ys H Q:=by
 unfold rD at w
 split at w
 · rename_i kd ds q
   split at w
   · rename_i ho
     split at w
     · rename_i ds' res hg
       obtain⟨p',xs,e,h2,h3,k⟩:=p1.er.mut (ds':=ds') q ho j8
       cases e
       have hr:R p=none:=(p1.er.ow ⟨i,kd,_,q,ho,j8⟩).1
       exact hv R H p xs ds ys es ds' res Q p1.er.sub hr h2 h3 hys hg fun xs' z hxs hz=>w z _ R (p1.trans (k xs' hxs)) hz
     · exact False.elim w
   · exact False.elim w
 · exact False.elim w
theorem K0{i:Nat}{r:V->List V->Hp->VK->Prop}{g:List D->List D->Option (List D×D)}{e0:Expr}(hp:PE X e0 (CH X.K "list" r (nc i)))(hv:rC r g):VE X EE ios e0 (rE i g (M.pure [])):=by
 refine⟨_,hp,fun σ H R Γ Q er w=>?_⟩
 unfold rE at w
 rw[ZY] at w
 obtain⟨p,xs0,j8,h0,w⟩:=DF er w
 have ty:=yk (K:=X.K) h0
 exact⟨_,j8,ty,KZ hv (aM.refl er) j8 .nil w⟩
def rF(ds es:List D):Option (List D×D):=match es with
 | [d]=>if ds.length<sizeLine then some (ds++[d],.ao) else none
 | _=>none
theorem K1:rC CJ rF:=by
 intro R H p xs ds ys es ds' res Q s hr hp hx hy hg q
 unfold rF at hg
 split at hg
 · split at hg
   · rename_i c
     cases hg
     cases hy with
     |cons h1 h2 =>
       cases h2
       exact⟨p,xs,_,rfl,rfl,hp,by rw[hx.len];exact c,q _ _ (hx.app (.cons h1 .nil)) .ao⟩
   · cases hg
 · cases hg
end
inductive Fl where
 |nx | ret (rv:RV) | brk | cont
structure bu(ios:List Addr)(R H:Hp)(σ:St)(Γ:En)(R' H':Hp)(ay:St)(Γ':En):Prop where
 er:ER ios R' H' ay Γ'
 go:Go (Ow σ Γ) R H (Ow ay Γ') R' H'
section
variable{ios:List Addr}{R H R1 H1 R2 H2:Hp}{σ dC eM:St}{Γ ah au:En}
theorem bu.refl(e:ER ios R H σ Γ):bu ios R H σ Γ R H σ Γ:=⟨e,Go.refl⟩
theorem bu.trans(a:bu ios R H σ Γ R1 H1 dC ah)(b:bu ios R1 H1 dC ah R2 H2 eM au):bu ios R H σ Γ R2 H2 eM au:=⟨b.er,a.go.trans b.go⟩
theorem aM.eS(a:aM ios R H σ Γ R1 H1 ah):bu ios R H σ Γ R1 H1 σ ah:=⟨a.er,a.go⟩
theorem bu.back(h:bu ios R H σ Γ R1 H1 dC ah):∀ b,H1 b=none->H b=none:=fun b hb=>by
 cases q:H b with
 |none=>rfl
 |some o=>obtain⟨o',z⟩:=h.go.th b o q;rw[hb] at z;cases z
theorem uM{R' H':Hp}{ay:St}{x:V}{rv:RV}(p1:∀ b,H1 b=none->H b=none)(h:dX R' H1 H' ay x rv):dX R' H H' ay x rv:=by
 cases rv with
 |val d=>exact h
 |new d=>obtain⟨h1,a,h2,h3⟩:=h;exact⟨h1,a,h2,p1 _ h3⟩
 |var i=>exact h
end
def gy(EE:a9)(ios:List Addr)(R H:Hp)(σ:St)(Γ:En):Xc->En->Prop:=fun x Γ'=>∀ e ay H' R',bu ios R H σ Γ R' H' ay Γ'->lb R' H H' e x->EE ay (.ref (KC.cls x.C)) (some e) H'
theorem gy.exp{EE:a9}{ios:List Addr}{R H:Hp}{σ:St}{Γ:En}{x:Xc}{Γ':En}(h:gy EE ios R H σ Γ x Γ'):eh EE ios R H σ Γ x Γ':=fun e H' R' p q=>h e σ H' R' p.eS q
theorem gy.trans{EE:a9}{ios:List Addr}{R H R1 H1:Hp}{σ dC:St}{Γ ah:En}(a:bu ios R H σ Γ R1 H1 dC ah){x:Xc}{Γ':En}(h:gy EE ios R H σ Γ x Γ'):gy EE ios R1 H1 dC ah x Γ':=fun e ay H' R' b q=>h e ay H' R' (a.trans b) (q.back a.back)
def nD(ios:List Addr)(R H:Hp)(σ:St)(Γ:En)(D:Ends):Fl->En->Prop:=fun fl Γ'=>∀ ay H' R',bu ios R H σ Γ R' H' ay Γ'->match fl with
 | .nx=>D.nx ay H'
 | .brk=>D.bk ay H'
 | .cont=>D.ct ay H'
 | .ret rv=>∀ x,dX R' H H' ay x rv->D.rt x H'
def mf(EE:a9)(ios:List Addr)(t:TS)(f:M Fl):Prop:=∀ σ H R Γ D,ER ios R H σ Γ->bx (f Γ) (nD ios R H σ Γ D) (gy EE ios R H σ Γ)->t D σ H
def VS(X:Cx)(EE:a9)(ios:List Addr)(st:Stmt)(f:M Fl):Prop:=∃ t,PS X st t/\mf EE ios t f
def cG(X:Cx)(EE:a9)(ios:List Addr)(st:List Stmt)(f:M Fl):Prop:=∃ t,PSs X st t/\mf EE ios t f
section
variable{X:Cx}{EE:a9}{ios:List Addr}{e a b c:Expr}{es:List Expr}{f g k:M RV}{fs:M (List RV)}{p:M Bool}{s s':M Fl}{st:Stmt}{sts fh:List Stmt}{pos:Pos}
theorem jj:cG X EE ios [] (M.pure .nx):=⟨_,BK,fun σ H R Γ D er w=>w σ H R (bu.refl er)⟩
def aI(f g:M Fl):M Fl:=M.bind f fun fl=>match fl with
 | .nx=>g
 |fl=>M.pure fl
theorem bN(h:VS X EE ios st s)(h':cG X EE ios sts s'):cG X EE ios (st::sts) (aI s s'):=by
 obtain⟨t,h1,h2⟩:=h
 obtain⟨u,h3,h4⟩:=h'
 refine⟨_,ua h1 h3,fun σ H R Γ D er w=>?_⟩
 unfold aI at w
 rw[ZY] at w
 refine h2 σ H R Γ _ er (aT w (fun fl ah w dC H1 R1 p1=>?_) fun _ _ z=>z)
 cases fl with
 |nx =>
   refine h4 dC H1 R1 ah D p1.er (aT w (fun fl au w eM H2 R2 p2=>?_) fun _ _ z=>gy.trans p1 z)
   have:=w eM H2 R2 (p1.trans p2)
   cases fl with
   |nx=>exact this
   |brk=>exact this
   |cont=>exact this
   |ret rv=>exact fun x hx=>this x (uM p1.back hx)
 |brk=>exact w dC H1 R1 p1
 |cont=>exact w dC H1 R1 p1
 |ret rv=>exact w dC H1 R1 p1
theorem cE(h:VS X EE ios st s):cG X EE ios [st] s:=let ⟨_,h1,h2⟩:=h; ⟨_,ub h1,h2⟩
def lu(f:M RV):M Fl:=M.bind f fun _=>M.pure .nx
theorem DG(h:VE X EE ios e f)(hs:swapsWith e none pos.line X.env=pure false:=by rfl):VS X EE ios (.Expr e pos) (lu f):=by
 obtain⟨t,h1,h2⟩:=h
 refine⟨_,wN h1 hs,fun σ H R Γ D er w=>?_⟩
 unfold lu at w
 rw[ZY] at w
 exact h2 σ H R Γ _ er (aT w (fun rv ah w x H1 R1 p1 hx=>w σ H1 R1 p1.eS) fun _ _ z=>z.exp)
def cH(f:M RV):M Fl:=M.bind f fun rv=>M.pure (.ret rv)
theorem eA(h:VE X EE ios e f):VS X EE ios (.Return (some e) pos) (cH f):=by
 obtain⟨t,h1,h2⟩:=h
 refine⟨_,HX h1,fun σ H R Γ D er w=>?_⟩
 unfold cH at w
 rw[ZY] at w
 exact h2 σ H R Γ _ er (aT w (fun rv ah w x H1 R1 p1 hx=>w σ H1 R1 p1.eS x hx) fun _ _ z=>z.exp)
def dF(p:M Bool)(s s':M Fl):M Fl:=M.bind p fun b=>if b then s else s'
theorem jk(hc:VT X EE ios c p)(h:cG X EE ios sts s)(h':cG X EE ios fh s'):VS X EE ios (.If c sts fh pos) (dF p s s'):=by
 obtain⟨_,h0,h0'⟩:=hc
 obtain⟨t,h1,h2⟩:=h
 obtain⟨u,h3,h4⟩:=h'
 refine⟨_,BL h0 h1 h3,fun σ H R Γ D er w=>?_⟩
 unfold dF at w
 rw[ZY] at w
 refine h0' σ H R Γ _ er (aT w (fun b ah w H1 R1 p1=>?_) fun _ _ z=>z.exp)
 have go:∀ fl au,nD ios R H σ Γ D fl au->nD ios R1 H1 σ ah D fl au:=fun fl au w eM H2 R2 p2=>by
  have:=w eM H2 R2 (p1.eS.trans p2)
  cases fl with
  |nx=>exact this
  |brk=>exact this
  |cont=>exact this
  |ret rv=>exact fun x hx=>this x (uM p1.eS.back hx)
 cases b with
 |true=>exact qT (h2 σ H1 R1 ah D p1.er (aT w go fun _ _ z=>gy.trans p1.eS z))
 |false=>exact qS (h4 σ H1 R1 ah D p1.er (aT w go fun _ _ z=>gy.trans p1.eS z))
def rG(i:Nat)(s:Kd×D):M Unit:=fun Γ=>.ok () (Γ.set i (some s))
theorem K2{σ:St}{Γ:En}{i:Nat}{x:V}{s:Kd×D}{b:Addr}(h:Ow (σ.set i (some x)) (Γ.set i (some s)) b):Ow σ Γ b\/(owned s.1=true/\x = .ref b):=by
 obtain⟨j,k,d,h1,h2,h3⟩:=h
 by_cases hj:j=i
 · subst hj
   have l1:j<Γ.length:=by have:=(List.getElem?_eq_some_iff.mp h1).1;rwa[List.length_set] at this
   have l2:j<σ.length:=by have:=(List.getElem?_eq_some_iff.mp h3).1;rwa[List.length_set] at this
   rw[List.getElem?_set_self l1] at h1
   rw[List.getElem?_set_self l2] at h3
   cases h1
   cases h3
   exact .inr ⟨h2,rfl⟩
 · rw[List.getElem?_set_ne (Ne.symm hj)] at h1 h3
   exact .inl ⟨j,k,d,h1,h2,h3⟩
theorem bu.set{R H R1 H1:Hp}{σ:St}{Γ ah:En}{i:Nat}{x:V}{s:Kd×D}(er:ER ios R H σ Γ)(p1:aM ios R H σ Γ R1 H1 ah)(hs:k6 ios R1 H1 x s)(hn:owned s.1=true->∀ a,x = .ref a->H a=none) :
 bu ios R H σ Γ R1 H1 (σ.set i (some x)) (ah.set i (some s)):=by
 have hfresh:owned s.1=true->∀ a,x = .ref a -> ¬ Ow σ ah a:=fun ho a ea z=>by
  obtain⟨_,xs,q⟩:=er.ow (p1.sh a z)
  rw[hn ho a ea] at q;cases q
 refine⟨⟨p1.er.sub,by rw[List.length_set,List.length_set];exact p1.er.len,fun j t hj=>?_,fun j j' l l' d d' b q1 q2 q3 q4 q5 q6=>?_⟩,⟨p1.go.rr,p1.go.hh,p1.go.no,fun b z=>?_,p1.go.th⟩⟩
 · by_cases hji:j=i
   · subst hji
     have l1:j<ah.length:=by have:=(List.getElem?_eq_some_iff.mp hj).1;rwa[List.length_set] at this
     rw[List.getElem?_set_self l1] at hj
     cases hj
     exact⟨x,by rw[List.getElem?_set_self (by rw[p1.er.len];exact l1)],hs⟩
   · rw[List.getElem?_set_ne (Ne.symm hji)] at hj ⊢
     exact p1.er.sl j t hj
 · by_cases h1:j=i
   · by_cases h2:j'=i
     · rw[h1,h2]
     · subst h1
       have l1:j<ah.length:=by have:=(List.getElem?_eq_some_iff.mp q1).1;rwa[List.length_set] at this
       rw[List.getElem?_set_self l1] at q1
       rw[List.getElem?_set_self (by rw[p1.er.len];exact l1)] at q5
       rw[List.getElem?_set_ne (Ne.symm h2)] at q3 q6
       cases q1;cases q5
       exact absurd ⟨j',l',d',q3,q4,q6⟩ (hfresh q2 b rfl)
   · by_cases h2:j'=i
     · subst h2
       have l1:j'<ah.length:=by have:=(List.getElem?_eq_some_iff.mp q3).1;rwa[List.length_set] at this
       rw[List.getElem?_set_self l1] at q3
       rw[List.getElem?_set_self (by rw[p1.er.len];exact l1)] at q6
       rw[List.getElem?_set_ne (Ne.symm h1)] at q1 q5
       cases q3;cases q6
       exact absurd ⟨j,l,d,q1,q2,q5⟩ (hfresh q4 b rfl)
     · rw[List.getElem?_set_ne (Ne.symm h1)] at q1 q5
       rw[List.getElem?_set_ne (Ne.symm h2)] at q3 q6
       exact p1.er.dj j j' l l' d d' b q1 q2 q3 q4 q5 q6
 · rcases K2 z with z | ⟨ho,rfl⟩
   · exact .inl (p1.sh b z)
   · exact .inr (hn ho b rfl)
def bw(i:Nat)(f:M RV):M Fl:=M.bind f fun rv=>M.bind (match rv with
 | .new d=>rG i (.own,d)
 | .val d=>rG i (.ak,d)
 | .var j=>M.bind (mat (.var j)) fun d=>rG i (.ak,d)) fun _=>M.pure .nx
theorem DH{t:TE}{i:Nat}(h:fU EE ios t f):mf EE ios (pq t (ng i)) (bw i f):=by
 intro σ H R Γ D er w
 unfold bw at w
 rw[ZY] at w
 refine h σ H R Γ _ er (aT w (fun rv ah w x H1 R1 p1 hx=>?_) fun _ _ z=>z.exp)
 show D.nx (σ.set i (some x)) H1
 rw[ZY] at w
 cases rv with
 |val d=>exact w _ H1 R1 (bu.set er p1 (s:=(.ak,d)) hx fun z=>by cases z)
 |new d =>
   obtain⟨h1,a,h2,h3⟩:=hx
   exact w _ H1 R1 (bu.set er p1 (s:=(.own,d)) h1 fun _ b eb=>by rw[h2] at eb;cases eb;exact h3)
 |var j =>
   rw[ZY] at w
   obtain⟨d,au,R2,p2,_,r2,w⟩:=jh er p1 hx w
   exact w _ H1 R2 (bu.set er p2 (s:=(.ak,d)) r2 fun z=>by cases z)
theorem dP{i:Nat}{x:Str}{pos':Pos}(hN:X.N.Nodup)(hi:X.N[i]? = some x)(hx:Loc X.env.scope x)(he:VE X EE ios e f)(hs:swapsWith e (some (.Name x pos')) pos.line X.env=pure false:=by rfl)(hf:X.fn x=true\/X.env.scope.names.lookup x=some .local:=by first | exact .inl rfl | exact .inr rfl | assumption) :
 VS X EE ios (.Assign [.Name x pos'] e pos) (bw i f):=let ⟨_,h1,h2⟩:=he; ⟨_,BQ hN hi hx h1 hs hf,DH h2⟩
def rH:Xc->En->Prop:=fun _ _=>False
def jm(ios:List Addr)(n:Nat)(g:TG)(m:D->M Unit):Prop:=∀ σ H R Γ v d (Q:St->Hp->Prop),ER ios R H σ Γ->Rp R v d ->
 bx (m d Γ) (fun _ Γ'=>∀ ay H' R',bu ios R H σ Γ R' H' ay Γ'->(∀ k,n<=k->ay[k]? = σ[k]?)->ae R R'->Q ay H') rH->g v σ H Q
def uN(ios:List Addr)(n:Nat)(g:ja)(m:List D->M Unit):Prop:=∀ σ H R Γ vs ds (Q:St->Hp->Prop),ER ios R H σ Γ->aB R vs ds ->
 bx (m ds Γ) (fun _ Γ'=>∀ ay H' R',bu ios R H σ Γ R' H' ay Γ'->(∀ k,n<=k->ay[k]? = σ[k]?)->ae R R'->Q ay H') rH->g vs σ H Q
def gN(i:Nat)(d:D):M Unit:=rG i (.ak,d)
theorem iA{i n:Nat}(h:i<n):jm ios n (ng i) (gN i):=fun σ H R Γ v d Q er hv w =>
 w _ H R (bu.set er (aM.refl er) (s:=(.ak,d)) hv fun z=>by cases z) (fun k hk=>List.getElem?_set_ne (by omega)) (ae.refl _)
def iB:List D->M Unit
 | []=>M.pure ()
 | _=>M.st
def dc(m:D->M Unit)(ms:List D->M Unit):List D->M Unit
 |d::r=>M.bind (m d) fun _=>ms r
 | []=>M.st
theorem rJ{n:Nat}:uN ios n wQ iB:=fun σ H R Γ vs ds Q er hv w=>by
 cases hv with
 |nil=>exact⟨rfl,w σ H R (bu.refl er) (fun _ _=>rfl) (ae.refl _)⟩
 |cons _ _=>exact False.elim w
theorem ly{n:Nat}{g:TG}{gs:ja}{m:D->M Unit}{ms:List D->M Unit}(h:jm ios n g m)(h':uN ios n gs ms):uN ios n (wR g gs) (dc m ms):=fun σ H R Γ vs ds Q er hv w=>by
 cases hv with
 |nil=>exact False.elim w
 |cons h1 h2 =>
   refine⟨_,_,rfl,?_⟩
   unfold dc at w
   rw[ZY] at w
   refine h σ H R Γ _ _ _ er h1 (aT w (fun _ ah w dC H1 R1 p1 k1 s1=>?_) fun _ _ z=>z)
   exact h' dC H1 R1 ah _ _ _ p1.er (h2.sm s1) (aT w (fun _ au w eM H2 R2 p2 k2 s2=>w eM H2 R2 (p1.trans p2) (fun k hk=>(k2 k hk).trans (k1 k hk)) (s1.trans s2)) fun _ _ z=>z)
def gT(n:Nat)(ms:List D->M Unit):D->M Unit
 | .tup ds=>if ds.length=n then ms ds else M.st
 | _=>M.st
theorem rK{n m:Nat}{K:W.Frag}{gs:ja}{ms:List D->M Unit}(h:uN ios n gs ms):jm ios n (wU K m gs) (gT m ms):=fun σ H R Γ v d Q er hv w=>by
 unfold gT at w
 split at w
 · split at w
   · rename_i c
     cases hv with
     |tup e q=>exact⟨_,_,rfl,c8.of (er.sub _ _ e),by rw[q.len];exact c,h σ H R Γ _ _ Q er q w⟩
   · exact False.elim w
 · exact False.elim w
def g2(ms:List D->M Unit):D->M Unit
 | .lst [x,y]=>ms [x,y]
 | _=>M.st
def lC(m:M Unit):M Unit:=fun Γ=>match m Γ with
 | .ok a Γ'=>.ok a Γ'
 | _=>.st
def pT(m:D->M Unit)(f:M RV):M Fl:=M.bind f fun rv=>M.bind (mat rv) fun d=>M.bind (lC (m d)) fun _=>M.pure .nx
theorem nE{m:M Unit}{Γ:En}{K:Unit->En->Prop}{E:Xc->En->Prop}(h:bx (lC m Γ) K E):bx (m Γ) K rH:=by
 unfold lC at h
 cases q:m Γ with
 |ok a Γ'=>rw[q] at h;exact h
 |ex x Γ'=>rw[q] at h;exact False.elim h
 |st=>rw[q] at h;exact False.elim h
theorem K3{t:TE}{g:TG}{m:D->M Unit}{n:Nat}(h:fU EE ios t f)(hg:jm ios n g m):mf EE ios (pq t g) (pT m f):=by
 intro σ H R Γ D er w
 unfold pT at w
 rw[ZY] at w
 refine h σ H R Γ _ er (aT w (fun rv ah w x H1 R1 p1 hx=>?_) fun _ _ z=>z.exp)
 rw[ZY] at w
 obtain⟨d,au,R2,p2,_,r2,w⟩:=jh er p1 hx w
 rw[ZY] at w
 exact hg σ H1 R2 au x d _ p2.er r2 (aT (nE w) (fun _ me w kZ H3 R3 p3 _ _=>w kZ H3 R3 (p2.eS.trans p3)) fun _ _ z=>z)
theorem DI{tg:Expr}{g:TG}{m:D->M Unit}{n:Nat}(he:VE X EE ios e f)(hr:jm ios n g m)(hp:∀ t,PE X e t->PS X (.Assign [tg] e pos) (pq t g)):VS X EE ios (.Assign [tg] e pos) (pT m f) :=
 let ⟨_,h1,h2⟩:=he; ⟨_,hp _ h1,K3 h2 hr⟩
def setAt(j:Nat)(d di:D):M Unit:=fun Γ=>match Γ[j]?,di with
 |some (some (kd,.lst ds)),.int i=>if owned kd then match jd ds.length i with
   |some k=>.ok () (Γ.set j (some (kd,.lst (ds.set k d))))
   |none=>.st else .st
 | _,_=>.st
def gS(j:Nat)(fi:M RV)(d:D):M Unit:=M.bind (recv j) fun _=>M.bind fi fun ri=>M.bind (peek ri) fun di=>setAt j d di
theorem DJ{j n:Nat}{ti:TE}{fi:M RV}(hi:fU EE ios ti fi):jm ios n (BN (nc j) ti CC) (gS j fi):=fun σ H R Γ v d Q er hv w=>by
 unfold gS at w
 rw[ZY] at w
 obtain⟨p,_,j8,_,w⟩:=DF er w
 refine⟨_,j8,?_⟩
 rw[ZY] at w
 refine hi σ H R Γ _ er (aT w (fun ri ah w y H1 R1 p1 hy=>?_) fun _ _ z=>z.elim)
 rw[ZY] at w
 obtain⟨di,pd,w⟩:=jg p1.er hy w
 unfold setAt at w
 split at w
 · rename_i kd ds i q
   split at w
   · rename_i ho
     split at w
     · rename_i k hk
       obtain⟨p',xs,e,h2,h3,m⟩:=p1.er.mut (ds':=ds.set k d) q ho j8
       cases e
       exact⟨p,xs,i,k,rfl,pd.int,h2,by rw[h3.len];exact hk,w σ _ R1 (p1.trans (m _ (h3.set (hv.sm p1.go.rr) k))).eS (fun _ _=>rfl) p1.go.rr⟩
     · exact False.elim w
   · exact False.elim w
 · exact False.elim w
def pU(J:It)(R0:Hp)(items:List D):Prop:=∀ (i:Nat) (H R:Hp),ae R0 R->ae R H ->
 (∀ d,items[i]? = some d->J.go i H/\∀ x H',J.nh i H x H'->∃ R',Al R H R' H'/\Rp R' x d)/\(items.length<=i->J.stop i H)
def rL(EE:a9)(ios:List Addr)(wi:TI)(f:M (List D)):Prop:=∀ σ H R Γ Rk,ER ios R H σ Γ ->
 bx (f Γ) (fun items Γ'=>∀ J H' R',aM ios R H σ Γ R' H' Γ'->pU J R' items->Rk J H') (eh EE ios R H σ Γ)->wi σ H Rk
def VI(X:Cx)(EE:a9)(ios:List Addr)(tg iter:Expr)(f:M (List D)):Prop:=∃ wi,PI X tg iter wi/\rL EE ios wi f
variable{tg:Expr}
def lD(f:M RV):M (List D):=M.bind f fun rv=>M.bind (mat rv) fun d=>match d with
 | .lst ds=>M.pure ds
 | .bM ns=>M.pure (ns.map D.int)
 | _=>M.st
def tupI(f:M RV):M (List D):=M.bind f fun rv=>M.bind (mat rv) fun d=>match d with
 | .tup ds=>M.pure ds
 | _=>M.st
theorem DK{K:W.Frag}{R0:Hp}{a:Addr}{xs:List V}{ds:List D}(h:∀ H,ae R0 H->bQ K H a xs)(r:aB R0 xs ds):pU (wW K a) R0 ds:=by
 intro i H R s1 s2
 have s:=s1.trans s2
 refine⟨fun d hd=>?_,fun hl=>⟨xs,h H s,by rw[r.len];exact hl⟩⟩
 obtain⟨x,hx,rx⟩:=r.ta hd
 refine⟨⟨xs,x,h H s,hx⟩,fun y H' hy=>?_⟩
 obtain⟨rfl,hy⟩:=hy
 have:=hy xs (h _ s)
 rw[hx] at this
 cases this
 exact⟨R,Al.refl s2,rx.sm s1⟩
theorem K4{K:W.Frag}{R0:Hp}{a:Addr}{xs:List V}{ds:List D}(h:∀ H,ae R0 H->c8 K H a xs)(r:aB R0 xs ds):pU (wX K a) R0 ds:=by
 intro i H R s1 s2
 have s:=s1.trans s2
 refine⟨fun d hd=>?_,fun hl=>⟨xs,h H s,by rw[r.len];exact hl⟩⟩
 obtain⟨x,hx,rx⟩:=r.ta hd
 refine⟨⟨xs,x,h H s,hx⟩,fun y H' hy=>?_⟩
 obtain⟨rfl,hy⟩:=hy
 have:=hy xs (h _ s)
 rw[hx] at this
 cases this
 exact⟨R,Al.refl s2,rx.sm s1⟩
theorem rM(h:VE X EE ios e f)(hK:X.K=KC.K:=by rfl):VI X EE ios tg e (lD f):=by
 obtain⟨t,h1,h2⟩:=h
 refine⟨_,Ie h1,fun σ H R Γ Rk er w=>?_⟩
 unfold lD at w
 rw[ZY] at w
 refine h2 σ H R Γ _ er (aT w (fun rv ah w x H1 R1 p1 hx=>?_) fun _ _ z=>z)
 rw[ZY] at w
 obtain⟨d,au,R2,p2,_,r2,w⟩:=jh er p1 hx w
 split at w
 · cases r2 with
   |lst e q=>exact⟨_,rfl,⟨_,bQ.of (p2.er.sub _ _ e)⟩,w _ H1 R2 p2 (DK (fun H s=>bQ.of (s _ _ e)) q)⟩
 · cases r2 with
   |bM e=>exact⟨_,rfl,⟨_,by rw[hK];exact p2.er.sub.seq e⟩,w _ H1 R2 p2 (DK (fun H s=>by rw[hK];exact s.seq e) (aB.ints _))⟩
 · exact False.elim w
theorem DL(h:VE X EE ios e f):VI X EE ios tg e (tupI f):=by
 obtain⟨t,h1,h2⟩:=h
 refine⟨_,Ig h1,fun σ H R Γ Rk er w=>?_⟩
 unfold tupI at w
 rw[ZY] at w
 refine h2 σ H R Γ _ er (aT w (fun rv ah w x H1 R1 p1 hx=>?_) fun _ _ z=>z)
 rw[ZY] at w
 obtain⟨d,au,R2,p2,_,r2,w⟩:=jh er p1 hx w
 split at w
 · cases r2 with
   |tup e q=>exact⟨_,rfl,⟨_,c8.of (p2.er.sub _ _ e)⟩,w _ H1 R2 p2 (K4 (fun H s=>c8.of (s _ _ e)) q)⟩
 · exact False.elim w
def hW(lo:Int)(n:Nat):List D:=(List.range n).map fun (i:Nat)=>D.int (lo+i)
theorem K5{R0:Hp}{lo:Int}{n:Nat}:pU (uc lo n) R0 (hW lo n):=by
 intro i H R s1 s2
 refine⟨fun d hd=>?_,fun hl=>show n<=i by simpa [hW] using hl⟩
 unfold hW at hd
 rw[List.getElem?_map] at hd
 cases q:(List.range n)[i]? with
 |none=>rw[q] at hd;cases hd
 |some j =>
   rw[q] at hd
   cases hd
   obtain⟨h1,h2⟩:=List.getElem?_eq_some_iff.mp q
   rw[List.getElem_range] at h2
   subst h2
   refine⟨show i<n by simpa using h1,fun x H' hx=>?_⟩
   obtain⟨rfl,rfl⟩:=hx
   exact⟨R,Al.refl s2,.int _⟩
def small(j:Int):Bool:=cd (-(2 ^ 62)<=j/\j<2 ^ 62)
def mh(fs:M (List RV)):M (List D):=M.bind fs fun rvs=>match rvs with
 | [.val (.int j)]=>if small j then M.pure (hW 0 j.toNat) else M.st
 | _=>M.st
theorem yl{e0:Expr}(hp:∀ t,PA X es t->PI X tg e0 (BS t))(ha:VA X EE ios es fs):VI X EE ios tg e0 (mh fs):=by
 obtain⟨t,h1,h2⟩:=ha
 refine⟨_,hp t h1,fun σ H R Γ Rk er w=>?_⟩
 unfold mh at w
 rw[ZY] at w
 refine h2 σ H R Γ _ er (aT w (fun rvs ah w xs H1 R1 p1 hx=>?_) fun _ _ z=>z)
 split at w
 · split at w
   · rename_i c
     have c:=lj c
     cases hx with
     |cons a b =>
       cases b
       cases a
       exact⟨_,rfl,c.1,c.2,w _ H1 R1 p1 K5⟩
   · exact False.elim w
 · exact False.elim w
def mi(ds:List D):List D:=ds.zipIdx.map fun p=>D.tup [.int p.2,p.1]
theorem K6{R0:Hp}{l:Addr}{xs:List V}{ds:List D}(h:R0 l=some (.lst xs))(r:aB R0 xs ds):pU (xS l) R0 (mi ds):=by
 intro i H R s1 s2
 have hl:H l=some (.lst xs):=s2 _ _ (s1 _ _ h)
 refine⟨fun d hd=>?_,fun hl'=>⟨xs,hl,by rw[r.len];simpa [mi] using hl'⟩⟩
 have hd:((ds.zipIdx)[i]?).map (fun p=>D.tup [.int p.2,p.1])=some d:=by rw[<- List.getElem?_map];exact hd
 rw[List.getElem?_zipIdx] at hd
 cases q:ds[i]? with
 |none=>rw[q] at hd;cases hd
 |some d0 =>
   rw[q] at hd
   cases hd
   obtain⟨x,hx,rx⟩:=r.ta q
   refine⟨⟨xs,x,hl,hx⟩,fun v H' hv=>?_⟩
   obtain⟨p,ys,y,rfl,hp,rfl,hy,rN⟩:=hv
   rw[hl] at hy
   cases hy
   rw[hx] at rN
   cases rN
   obtain⟨al,rv⟩:=uH (xs:=[.int i,x]) (ds:=[.int i,d0]) s2 hp (.cons (.int _) (.cons (rx.sm s1) .nil))
   refine⟨_,al,?_⟩
   have rv:Rp _ _ _:=rv
   simpa using rv
def rO(fs:M (List RV)):M (List D):=M.bind fs fun rvs=>M.bind (b7 rvs) fun ds=>match ds with
 | [.lst ds]=>M.pure (mi ds)
 | _=>M.st
theorem K7{e0:Expr}(hp:∀ t,PA X es t->PI X tg e0 (xT t))(ha:VA X EE ios es fs):VI X EE ios tg e0 (rO fs):=by
 obtain⟨t,h1,h2⟩:=ha
 refine⟨_,hp t h1,fun σ H R Γ Rk er w=>?_⟩
 unfold rO at w
 rw[ZY] at w
 refine h2 σ H R Γ _ er (aT w (fun rvs ah w xs H1 R1 p1 hx=>?_) fun _ _ z=>z)
 rw[ZY] at w
 obtain⟨ds,au,R2,p2,_,r2,w⟩:=ji er p1 hx w
 split at w
 · cases r2 with
   |cons a b =>
     cases b
     cases a with
     |lst e q=>exact⟨_,_,rfl,p2.er.sub _ _ e,w _ H1 R2 p2 (K6 e q)⟩
 · exact False.elim w
end
section
variable{X:Cx}{EE:a9}{ios:List Addr}{e a b c iter tg:Expr}{es:List Expr}{f g k:M RV}{fs:M (List RV)}{p:M Bool}{s s':M Fl}{st:Stmt}{sts fh:List Stmt}{pos:Pos}
theorem mj{α:Type}{a:α}{Γ:En}{K:α->En->Prop}{E:Xc->En->Prop}(h:K a Γ):bx (.ok a Γ) K E:=h
theorem nF{α:Type}{a:α}{Γ:En}{K:α->En->Prop}{E:Xc->En->Prop}(h:bx (.ok a Γ) K E):K a Γ:=h
def rQ(m:D->M Unit)(body:M Fl)(rest:M Fl)(d:D):M Fl:=M.bind (lC (m d)) fun _=>M.bind body fun fl=>match fl with
 | .nx=>rest
 | .cont=>rest
 | .brk=>M.pure .nx
 | .ret rv=>M.pure (.ret rv)
def iC(m:D->M Unit)(body:M Fl):List D->M Fl
 | []=>M.pure .nx
 |d::r=>rQ m body (iC m body r) d
def forM(items:M (List D))(m:D->M Unit)(body:M Fl):M Fl:=M.bind items fun ds=>iC m body ds
theorem K8{wi:TI}{gt:TG}{tb:TS}{items:M (List D)}{m:D->M Unit}{n:Nat}(hi:rL EE ios wi items)(hg:jm ios n gt m)(hb:mf EE ios tb s):mf EE ios (wZ wi gt tb) (forM items m s):=by
 intro σ H R Γ D er w
 unfold forM at w
 rw[ZY] at w
 refine hi σ H R Γ _ er (aT w (fun ds ah w J H1 R1 p1 hJ=>?_) fun _ _ z=>z.exp)
 refine⟨fun i m' eM H2=>m'=ds.length - i/\i<=ds.length/\∃ R2 au,bu ios R H σ Γ R2 H2 eM au/\ae R1 R2/\bx (iC m s (ds.drop i) au) (nD ios R H σ Γ D) (gy EE ios R H σ Γ),⟨ds.length,rfl,Nat.zero_le _,R1,ah,p1.eS,ae.refl _,w⟩,?_⟩
 rintro i m' eM H2 ⟨rfl,hi',R2,au,p2,s2,w⟩
 obtain⟨go,stop⟩:=hJ i H2 R2 s2 p2.er.sub
 by_cases hlt:i<ds.length
 · have hd:ds[i]? = some ds[i]:=List.getElem?_eq_getElem hlt
   obtain⟨g1,g2⟩:=go _ hd
   rw[List.drop_eq_getElem_cons hlt] at w
   have w:bx (rQ m s (iC m s (ds.drop (i+1))) ds[i] au) (nD ios R H σ Γ D) (gy EE ios R H σ Γ):=w
   unfold rQ at w
   rw[ZY] at w
   refine .inr ⟨g1,fun kZ H3=>∃ R3 me,bu ios R H σ Γ R3 H3 kZ me/\ae R1 R3/\bx (iC m s (ds.drop (i+1)) me) (nD ios R H σ Γ D) (gy EE ios R H σ Γ),?_,fun x H3 hx=>?_⟩
   · rintro kZ H3 ⟨R3,me,q1,q2,q3⟩
     exact⟨_,by omega,rfl,hlt,R3,me,q1,q2,q3⟩
   · obtain⟨R3,al,rx⟩:=g2 x H3 hx
     have uO:ER ios R3 H3 eM au:=p2.er.al al
     have p3:bu ios R H σ Γ R3 H3 eM au:=⟨uO,p2.go.trans al.go⟩
     refine hg eM H3 R3 au x _ _ uO rx (aT (nE w) (fun _ nv w c9 H4 R4 p4 _ s4=>?_) fun _ _ z=>z)
     rw[ZY] at w
     have ym:=p3.trans p4
     refine hb c9 H4 R4 nv _ p4.er (aT w (fun fl DM w DN H5 R5 p5=>?_) fun _ _ z=>gy.trans ym z)
     have p35:=ym.trans p5
     have s5:ae R1 R5:=((s2.trans al.rr).trans s4).trans p5.go.rr
     cases fl with
     |nx=>exact⟨R5,DM,p35,s5,w⟩
     |cont=>exact⟨R5,DM,p35,s5,w⟩
     |brk=>exact w DN H5 R5 p35
     |ret rv=>exact fun y hy=>w DN H5 R5 p35 y (uM ym.back hy)
 · have e:ds.drop i=[]:=List.drop_eq_nil_of_le (by omega)
   rw[e] at w
   exact .inl ⟨stop (by omega),w eM H2 R2 p2⟩
theorem uP{gt:TG}{items:M (List D)}{m:D->M Unit}{n:Nat}(hi:VI X EE ios tg iter items)(hr:jm ios n gt m)(hb:cG X EE ios sts s)
 (hps:∀ wi tb,PI X tg iter wi->PSs X sts tb->PS X (.For tg iter sts [] pos) (wZ wi gt tb)):VS X EE ios (.For tg iter sts [] pos) (forM items m s) :=
 let ⟨_,h1,h2⟩:=hi;let ⟨_,h3,h4⟩:=hb; ⟨_,hps _ _ h1 h3,K8 h2 hr h4⟩
def bR(fr:List Nat)(own:Nat)(Γ:En):En:=List.replicate own none++fr.map fun j=>(Γ[j]?).join
def aF:List Nat->Nat->En->En->En
 | [],_,Γ,_=>Γ
 |j::r,k,Γ,bS=>aF r (k+1) (Γ.set j (bS[k]?).join) bS
theorem yn{α:Type}{fr:List Nat}{own:Nat}{L:List (Option α)}{i:Nat}(h:i<own):(List.replicate own (none:Option α)++fr.map fun j=>(L[j]?).join)[i]? = some none:=by
 rw[List.getElem?_append_left (by rw[List.length_replicate];exact h),List.getElem?_replicate,if_pos h]
theorem uQ{α:Type}{fr:List Nat}{own:Nat}{L:List (Option α)}{i:Nat}(h:own<=i):(List.replicate own (none:Option α)++fr.map fun j=>(L[j]?).join)[i]? = (fr[i - own]?).map fun j=>(L[j]?).join:=by
 rw[List.getElem?_append_right (by rw[List.length_replicate];exact h),List.length_replicate,List.getElem?_map]
theorem uR{α:Type}{o:Option (Option α)}{a:α}(h:o.join=some a):o=some (some a):=by
 cases o with
 |none=>cases h
 |some o=>cases o with
   |none=>cases h
   |some b=>cases h;rfl
theorem pV{fr:List Nat}{own i:Nat}{Γ:En}{s:Kd×D}(h:(bR fr own Γ)[i]? = some (some s)):own<=i/\∃ j,fr[i - own]? = some j/\Γ[j]? = some (some s):=by
 unfold bR at h
 by_cases hi:i<own
 · rw[yn hi] at h;cases h
 · rw[uQ (by omega)] at h
   cases q:fr[i - own]? with
   |none=>rw[q] at h;cases h
   |some j =>
     rw[q] at h
     exact⟨by omega,j,rfl,uR (Option.some.inj h)⟩
theorem K9{fr:List Nat}{own i j:Nat}{σ:St}{v:V}(hi:own<=i)(hj:fr[i - own]? = some j)(hv:σ[j]? = some (some v)):(aj fr own σ)[i]? = some (some v):=by
 unfold aj
 rw[uQ hi,hj]
 show some ((σ[j]?).join)=_
 rw[hv];rfl
theorem rR{fr:List Nat}{own i j:Nat}{σ:St}{v:V}(hi:own<=i)(hj:fr[i - own]? = some j)(h:(aj fr own σ)[i]? = some (some v)):σ[j]? = some (some v):=by
 unfold aj at h
 rw[uQ hi,hj] at h
 exact uR (Option.some.inj h)
theorem K_{fr:List Nat}(hn:fr.Nodup){i j x:Nat}(h1:fr[i]? = some x)(h2:fr[j]? = some x):i=j:=by
 obtain⟨l1,e1⟩:=List.getElem?_eq_some_iff.mp h1
 obtain⟨l2,e2⟩:=List.getElem?_eq_some_iff.mp h2
 exact(List.getElem_inj hn).mp (e1.trans e2.symm)
theorem ER.blk{R H:Hp}{σ:St}{Γ:En}{fr:List Nat}{own:Nat}(er:ER ios R H σ Γ)(hn:fr.Nodup):ER ios R H (aj fr own σ) (bR fr own Γ) where
 sub:=er.sub
 len:=by unfold aj bR;simp
 sl:=fun i s h=>by
  obtain⟨hi,j,hj,hs⟩:=pV h
  obtain⟨v,hv,q⟩:=er.sl j s hs
  exact⟨v,K9 hi hj hv,q⟩
 dj:=fun i j k l d e b q1 q2 q3 q4 q5 q6=>by
  obtain⟨hi,i',hi',s1⟩:=pV q1
  obtain⟨hj,j',hj',s2⟩:=pV q3
  have:=er.dj i' j' k l d e b s1 q2 s2 q4 (rR hi hi' q5) (rR hj hj' q6)
  subst this
  have:=K_ hn hi' hj'
  omega
theorem Ow.blk{σ:St}{Γ:En}{fr:List Nat}{own:Nat}{b:Addr}(h:Ow (aj fr own σ) (bR fr own Γ) b):Ow σ Γ b:=by
 obtain⟨i,k,d,h1,h2,h3⟩:=h
 obtain⟨hi,j,hj,hs⟩:=pV h1
 exact⟨j,k,d,hs,h2,rR hi hj h3⟩
theorem yo:∀ {fr:List Nat} {k:Nat} {Γ bS:En},(aF fr k Γ bS).length=Γ.length
 | [],_,_,_=>rfl
 |j::r,k,Γ,bS=>by unfold aF;rw[yo,List.length_set]
theorem yp:∀ {fr:List Nat} {k j:Nat} {Γ bS:En},j ∉ fr->(aF fr k Γ bS)[j]? = Γ[j]?
 | [],_,_,_,_,_=>rfl
 |i::r,k,j,Γ,bS,h=>by
   unfold aF
   rw[yp (fun z=>h (List.mem_cons_of_mem _ z)),List.getElem?_set_ne (fun z=>h (by rw[z];exact List.mem_cons_self ..))]
theorem DO:∀ {fr:List Nat} {k i j:Nat} {Γ bS:En},fr.Nodup->fr[i]? = some j->j<Γ.length->(aF fr k Γ bS)[j]? = some (bS[k+i]?).join
 | [],_,_,_,_,_,_,h,_=>by simp at h
 |x::r,k,0,j,Γ,bS,hn,h,hl=>by
   simp at h
   subst h
   unfold aF
   rw[yp (List.nodup_cons.mp hn).1,List.getElem?_set_self hl]
   rfl
 |x::r,k,i+1,j,Γ,bS,hn,h,hl=>by
   unfold aF
   rw[DO (List.nodup_cons.mp hn).2 (by simpa using h) (by rw[List.length_set];exact hl)]
   rw[show k+1+i=k+(i+1) by omega]
theorem aM.aF{R H R1 H1:Hp}{σ pW:St}{Γ bS:En}{fr:List Nat}{own:Nat}(er:ER ios R H σ Γ)(hn:fr.Nodup)(p:bu ios R H (aj fr own σ) (bR fr own Γ) R1 H1 pW bS)(keep:∀ k,own<=k->pW[k]? = (aj fr own σ)[k]?)
 (sh:∀ b,Ow pW bS b->Ow (aj fr own σ) (bR fr own Γ) b):aM ios R H σ Γ R1 H1 (Dv.aF fr own Γ bS):=by
 have slot:∀ (j:Nat) (s:Kd×D),(Dv.aF fr own Γ bS)[j]? = some (some s)->(j ∉ fr/\Γ[j]? = some (some s))\/∃ i,fr[i]? = some j/\bS[own+i]? = some (some s)/\pW[own+i]? = some ((σ[j]?).join):=by
  intro j s h
  by_cases hj:j∈fr
  · obtain⟨i,hi,e⟩:=List.getElem_of_mem hj
    have hi':fr[i]? = some j:=by rw[List.getElem?_eq_getElem hi,e]
    have hl:j<Γ.length:=by have:=(List.getElem?_eq_some_iff.mp h).1;rwa[yo] at this
    rw[DO hn hi' hl] at h
    refine .inr ⟨i,hi',uR (Option.some.inj h),?_⟩
    rw[keep _ (by omega)]
    unfold aj
    rw[uQ (by omega),show own+i - own=i by omega,hi']
    rfl
  · rw[yp hj] at h
    exact .inl ⟨hj,h⟩
 have inside:∀ (i j:Nat) (k:Kd) (d:D) (b:Addr),fr[i]? = some j->bS[own+i]? = some (some (k,d))->owned k=true->pW[own+i]? = some ((σ[j]?).join)->σ[j]? = some (some (.ref b))->∃ j0 k0 d0,j0∈fr/\Γ[j0]? = some (some (k0,d0))/\owned k0=true/\σ[j0]? = some (some (.ref b)):=by
  intro i j k d b hi q h2 e h3
  have e:pW[own+i]? = some (some (.ref b)):=by rw[e,h3];rfl
  obtain⟨i0,k0,d0,g1,g2,g3⟩:=sh b ⟨own+i,k,d,q,h2,e⟩
  obtain⟨hi0,j0,hj0,hs0⟩:=pV g1
  exact⟨j0,k0,d0,List.mem_of_getElem? hj0,hs0,g2,rR hi0 hj0 g3⟩
 have sh':∀ b,Ow σ (Dv.aF fr own Γ bS) b->Ow σ Γ b:=by
  rintro b ⟨j,k,d,h1,h2,h3⟩
  rcases slot j _ h1 with ⟨_,q⟩ | ⟨i,hi,q,e⟩
  · exact⟨j,k,d,q,h2,h3⟩
  · obtain⟨j0,k0,d0,_,g1,g2,g3⟩:=inside i j k d b hi q h2 e h3
    exact⟨j0,k0,d0,g1,g2,g3⟩
 have out:∀ (j:Nat) (k:Kd) (d:D) (b:Addr),j ∉ fr->Γ[j]? = some (some (k,d))->owned k=true->σ[j]? = some (some (.ref b)) -> ¬ Ow (aj fr own σ) (bR fr own Γ) b:=by
  rintro j k d b hj h1 h2 h3 ⟨i0,k0,d0,g1,g2,g3⟩
  obtain⟨hi0,j0,hj0,hs0⟩:=pV g1
  have:=er.dj j j0 k k0 d d0 b h1 h2 hs0 g2 h3 (rR hi0 hj0 g3)
  subst this
  exact hj (List.mem_of_getElem? hj0)
 refine⟨⟨p.er.sub,by rw[yo];exact er.len,fun j t hj=>?_,fun j j' l l' d d' b q1 q2 q3 q4 q5 q6=>?_⟩,⟨p.go.rr,fun b o h n=>p.go.hh b o h fun z=>n z.blk,fun b o h n r=>p.go.no b o h (fun z=>n z.blk) r,fun b z=>.inl (sh' b z),p.go.th⟩,sh'⟩
 · rcases slot j t hj with ⟨hf,q⟩ | ⟨i,hi,q,e⟩
   · obtain⟨v,hv,q'⟩:=er.sl j t q
     refine⟨v,hv,q'.mono p.go.rr fun ho b ys eb hb rb=>?_⟩
     subst eb
     have:=out j t.1 t.2 b hf q ho hv
     exact⟨p.go.hh b _ hb this,p.go.no b _ hb this rb⟩
   · obtain⟨v,hv,q'⟩:=p.er.sl _ t q
     rw[e] at hv
     exact⟨v,uR (Option.some.inj hv),q'⟩
 · rcases slot j _ q1 with ⟨hf,g1⟩ | ⟨i,hi,g1,e1⟩
   · rcases slot j' _ q3 with ⟨hf',g3⟩ | ⟨i',hi',g3,e3⟩
     · exact er.dj j j' l l' d d' b g1 q2 g3 q4 q5 q6
     · obtain⟨j0,k0,d0,m0,z1,z2,z3⟩:=inside i' j' l' d' b hi' g3 q4 e3 q6
       have:=er.dj j j0 l k0 d d0 b g1 q2 z1 z2 q5 z3
       subst this
       exact absurd m0 hf
   · rcases slot j' _ q3 with ⟨hf',g3⟩ | ⟨i',hi',g3,e3⟩
     · obtain⟨j0,k0,d0,m0,z1,z2,z3⟩:=inside i j l d b hi g1 q2 e1 q5
       have:=er.dj j' j0 l' k0 d' d0 b g3 q4 z1 z2 q6 z3
       subst this
       exact absurd m0 hf'
     · have:=p.er.dj (own+i) (own+i') l l' d d' b g1 q2 g3 q4 (by rw[e1,q5];rfl) (by rw[e3,q6];rfl)
       have:i=i':=by omega
       subst this
       rw[hi] at hi'
       exact Option.some.inj hi'
def nG(n:Nat)(m:D->M Unit):Prop:=∀ d Γ Γ',m d Γ = .ok () Γ'->(∀ k,n<=k->Γ'[k]? = Γ[k]?)/\∀ i s,i<n->Γ'[i]? = some (some s)->Γ[i]? = some (some s)\/s.1 = .ak
def uS(n:Nat)(m:List D->M Unit):Prop:=∀ d Γ Γ',m d Γ = .ok () Γ'->(∀ k,n<=k->Γ'[k]? = Γ[k]?)/\∀ i s,i<n->Γ'[i]? = some (some s)->Γ[i]? = some (some s)\/s.1 = .ak
theorem lF{i n:Nat}(h:i<n):nG n (gN i):=fun d Γ Γ' e=>by
 cases e
 refine⟨fun k hk=>List.getElem?_set_ne (by omega),fun j s hj q=>?_⟩
 by_cases hji:j=i
 · subst hji
   have l1:j<Γ.length:=by have:=(List.getElem?_eq_some_iff.mp q).1;rwa[List.length_set] at this
   rw[List.getElem?_set_self l1] at q
   cases q
   exact .inr rfl
 · rw[List.getElem?_set_ne (Ne.symm hji)] at q
   exact .inl q
theorem uT{n:Nat}:uS n iB:=fun d Γ Γ' e=>by
 cases d with
 |nil=>cases e;exact⟨fun _ _=>rfl,fun _ _ _ q=>.inl q⟩
 |cons _ _=>cases e
theorem nH{n:Nat}{m:D->M Unit}{ms:List D->M Unit}(h:nG n m)(h':uS n ms):uS n (dc m ms):=fun d Γ Γ' e=>by
 cases d with
 |nil=>cases e
 |cons d r =>
   have e:M.bind (m d) (fun _=>ms r) Γ = .ok () Γ':=e
   unfold M.bind at e
   cases q:m d Γ with
   |ok a ah =>
     rw[q] at e
     obtain⟨a1,a2⟩:=h d Γ ah q
     obtain⟨b1,b2⟩:=h' r ah Γ' e
     exact⟨fun k hk=>(b1 k hk).trans (a1 k hk),fun i s hi z=>(b2 i s hi z).elim (fun z=>a2 i s hi z) .inr⟩
   |ex x ah=>rw[q] at e;cases e
   |st=>rw[q] at e;cases e
theorem uU{n k:Nat}{ms:List D->M Unit}(h:uS n ms):nG n (gT k ms):=fun d Γ Γ' e=>by
 unfold gT at e
 split at e
 · split at e
   · exact h _ _ _ e
   · cases e
 · cases e
def j9(m:D->M Unit)(p:M Bool)(f:M RV)(d:D):M (Option D):=M.bind (lC (m d)) fun _=>M.bind p fun b=>if b then M.bind f fun rv=>M.bind (mat rv) fun y=>M.pure (some y) else M.pure none
def dk(fr:List Nat)(own:Nat)(m:D->M Unit)(p:M Bool)(f:M RV):List D->M (List D)
 | []=>M.pure []
 |d::r=>fun Γ=>match j9 m p f d (bR fr own Γ) with
   | .ok y bS=>match dk fr own m p f r (aF fr own Γ bS) with
     | .ok ys Γ'=>.ok (y.toList++ys) Γ'
     | _=>.st
   | _=>.st
def jK(items:M (List D))(fr:List Nat)(own:Nat)(m:D->M Unit)(p:M Bool)(f:M RV):M RV:=M.bind items fun ds=>if ds.length<sizeLine then M.bind (dk fr own m p f ds) fun ys=>M.pure (.new (.lst ys)) else M.st
abbrev EN:a9:=fun _ _ _ _=>False
theorem DP{wi:TI}{gt:TG}{tc:TT}{te:TE}{items:M (List D)}{m:D->M Unit}{fr:List Nat}{own:Nat}(hn:fr.Nodup)(hi:rL EE ios wi items)(hg:jm ios own gt m)(hk:nG own m)(hc:lg EN ios tc p)(he:fU EN ios te f):fU EE ios (xH fr own wi gt tc te) (jK items fr own m p f):=by
 intro σ H R Γ Q er w
 unfold jK at w
 rw[ZY] at w
 refine hi σ H R Γ _ er (aT w (fun ds ah w J H1 R1 p1 hJ=>?_) fun _ _ z=>z)
 split at w
 · rename_i hsz
   rw[ZY] at w
   intro A hA
   have yq:R1 A=none:=p1.er.sub.free hA
   have yr:Al R1 H1 R1 (upd H1 A (.lst [])):=⟨p1.er.sub.trans (ix hA),ae.refl _,ix hA,fun _ _ _ z=>z⟩
   refine⟨fun i n ys H2=>n=ds.length - i/\i<=ds.length/\∃ R2 au gz L,aM ios R H σ Γ R2 H2 au/\ae R1 R2/\R2 A=none/\aB R2 ys gz/\ys.length<=i/\dk fr own m p f (ds.drop i) au=L/\bx L (fun zs Γ'=>∀ x H' R',aM ios R H σ Γ R' H' Γ'->dX R' H H' σ x (.new (.lst (gz++zs)))->Q x H') (eh EE ios R H σ Γ),⟨ds.length,rfl,Nat.zero_le _,R1,ah,[],_,p1.al yr,ae.refl _,yq,.nil,by simp,rfl,w⟩,?_⟩
   rintro i n ys H2 oG ⟨rfl,hi',R2,au,gz,L,p2,s2,mn,hys,hyl,rfl,w⟩
   obtain⟨go,stop⟩:=hJ i H2 R2 s2 p2.er.sub
   have rT : ¬ Ow σ Γ A:=fun z=>by
    obtain⟨_,xs,q⟩:=er.ow z
    rw[p1.back er A hA] at q;cases q
   by_cases hlt:i<ds.length
   · have hd:ds[i]? = some ds[i]:=List.getElem?_eq_getElem hlt
     obtain⟨g1,g2⟩:=go _ hd
     rw[List.drop_eq_getElem_cons hlt] at w
     refine .inr ⟨g1,by omega,fun x H3 hx=>?_⟩
     obtain⟨R3,al,rx⟩:=g2 x H3 hx
     unfold dk at w
     have p3:aM ios R H σ Γ R3 H3 au:=p2.al al
     have mq:H3 A=some (.lst ys):=al.hh _ _ oG
     have j_:R3 A=none:=al.no _ _ oG mn
     have yt:ER ios R3 H3 (aj fr own σ) (bR fr own au):=p3.er.blk hn
     have fW : ¬ Ow (aj fr own σ) (bR fr own au) A:=fun z=>rT (p3.sh A z.blk)
     have run:bx (j9 m p f ds[i] (bR fr own au)) (fun y bS=>bx (dk fr own m p f (ds.drop (i+1)) (Dv.aF fr own au bS)) (fun zs Γ'=>∀ x H' R',aM ios R H σ Γ R' H' Γ'->dX R' H H' σ x (.new (.lst (gz++(y.toList++zs))))->Q x H') (fun _ _=>False)) rH:=by
      cases q:j9 m p f ds[i] (bR fr own au) with
      |ok y bS =>
        rw[q] at w
        dsimp only at w
        show bx (dk fr own m p f (ds.drop (i+1)) (Dv.aF fr own au bS)) _ _
        cases q':dk fr own m p f (ds.drop (i+1)) (Dv.aF fr own au bS) with
        |ok zs Γ'=>rw[q'] at w;exact w
        |ex _ _=>rw[q'] at w;exact False.elim w
        |st=>rw[q'] at w;exact False.elim w
      |ex _ _=>rw[q] at w;exact False.elim w
      |st=>rw[q] at w;exact False.elim w
     unfold j9 at run
     rw[ZY] at run
     cases hm:m ds[i] (bR fr own au) with
     |ex _ _=>have:=nE run;rw[hm] at this;exact this.elim
     |st=>have:=nE run;rw[hm] at this;exact this.elim
     |ok u nv =>
       obtain⟨k1,k2⟩:=hk _ _ _ hm
       have wm:=nE run
       rw[hm] at wm
       refine hg (aj fr own σ) H3 R3 (bR fr own au) x _ _ yt rx ?_
       rw[hm]
       refine mj fun c9 H4 R4 p4 keep s4=>?_
       have w:=nF wm
       rw[ZY] at w
       have ke:∀ b,Ow c9 nv b->Ow (aj fr own σ) (bR fr own au) b:=by
        rintro b ⟨j,k,d,h1,h2,h3⟩
        by_cases hj:own<=j
        · rw[k1 j hj] at h1
          rw[keep j hj] at h3
          exact⟨j,k,d,h1,h2,h3⟩
        · rcases k2 j (k,d) (by omega) h1 with z | z
          · unfold bR at z;rw[yn (by omega)] at z;cases z
          · cases z;cases h2
       refine hc c9 H4 R4 nv _ p4.er (aT w (fun b mv w H6 R6 p6=>?_) fun _ _ z=>z.elim)
       have p46:bu ios R3 H3 (aj fr own σ) (bR fr own au) R6 H6 c9 mv:=p4.trans p6.eS
       have rV:∀ b,Ow c9 mv b->Ow (aj fr own σ) (bR fr own au) b:=fun b z=>ke b (p6.sh b z)
       have yu:H6 A=some (.lst ys):=p46.go.hh _ _ mq fW
       have oH:R6 A=none:=p46.go.no _ _ mq fW j_
       cases b with
       |false =>
         simp only[Bool.false_eq_true,if_false] at w ⊢
         have pu:aM ios R3 H3 σ au R6 H6 (Dv.aF fr own au mv):=aM.aF p3.er hn p46 keep rV
         refine⟨yu,_,Nat.sub_lt_sub_left hlt (Nat.lt_succ_self i),rfl,hlt,R6,_,gz,_,p3.trans pu,(s2.trans al.rr).trans p46.go.rr,oH,hys.sm (al.rr.trans p46.go.rr),by omega,rfl,?_⟩
         exact aT w (fun zs Γ' w x H' R' p q=>w x H' R' p q) fun _ _ z=>z.elim
       |true =>
         simp only[if_true] at w ⊢
         rw[ZY] at w
         refine he c9 H6 R6 mv _ p6.er (aT w (fun rv La w y H7 R7 p7 hy=>?_) fun _ _ z=>z.elim)
         rw[ZY] at w
         obtain⟨dy,kg,R8,p8,s8,ry,w⟩:=jh p6.er p7 hy w
         have mw:bu ios R3 H3 (aj fr own σ) (bR fr own au) R8 H7 c9 kg:=p46.trans p8.eS
         have yv:∀ b,Ow c9 kg b->Ow (aj fr own σ) (bR fr own au) b:=fun b z=>rV b (p8.sh b z)
         have pu:aM ios R3 H3 σ au R8 H7 (Dv.aF fr own au kg):=aM.aF p3.er hn mw keep yv
         have yw:H7 A=some (.lst ys):=mw.go.hh _ _ mq fW
         have kh:R8 A=none:=mw.go.no _ _ mq fW j_
         have dZ:=p3.trans pu
         have yx : ¬ Ow σ (Dv.aF fr own au kg) A:=fun z=>rT (dZ.sh A z)
         have pA:aM ios R H σ Γ R8 (upd H7 A (.lst (ys++[y]))) (Dv.aF fr own au kg):=by
          have up:∀ b,b≠A->upd H7 A (.lst (ys++[y])) b=H7 b:=fun b hb=>aV hb
          refine⟨⟨fun b o q=>?_,dZ.er.len,fun j t hj=>?_,dZ.er.dj⟩,⟨dZ.go.rr,fun b o q n=>?_,dZ.go.no,dZ.go.oo,fun b o q=>?_⟩,dZ.sh⟩
          · rw[up b (fun z=>by rw[z,kh] at q;cases q)];exact dZ.er.sub b o q
          · obtain⟨v,hv,q⟩:=dZ.er.sl j t hj
            refine⟨v,hv,q.mono (ae.refl _) fun ho b zs eb hb rb=>⟨?_,rb⟩⟩
            rw[up b]
            · exact hb
            · rintro rfl;subst eb;exact yx ⟨j,t.1,t.2,hj,ho,hv⟩
          · rw[up b (fun z=>by rw[z,p1.back er A hA] at q;cases q)];exact dZ.go.hh b o q n
          · by_cases hb:b=A
            · subst hb;exact⟨_,cN⟩
            · rw[up b hb];exact dZ.go.th b o q
         refine⟨yw,_,Nat.sub_lt_sub_left hlt (Nat.lt_succ_self i),rfl,hlt,R8,_,gz++[dy],_,pA,((s2.trans al.rr).trans p46.go.rr).trans p8.go.rr,kh,(hys.sm ((al.rr.trans p46.go.rr).trans p8.go.rr)).app (.cons ry .nil),by rw[List.length_append];simp;omega,rfl,?_⟩
         refine aT w (fun zs Γ' w x H' R' p q=>w x H' R' p ?_) fun _ _ z=>z.elim
         simpa using q
   · have e:ds.drop i=[]:=List.drop_eq_nil_of_le (by omega)
     rw[e] at w
     refine .inl ⟨stop (by omega),w _ H2 R2 p2 ⟨⟨A,ys,gz,rfl,mn,oG,by simp,hys⟩,A,rfl,p1.back er A hA⟩⟩
 · exact False.elim w
end
section
variable{X:Cx}{EE:a9}{ios:List Addr}{e a b c iter tg elt:Expr}{es ifs:List Expr}{f g k:M RV}{fs:M (List RV)}{p:M Bool}{s s':M Fl}{st:Stmt}{sts fh:List Stmt}{pos:Pos}
def DQ(EE:a9)(ios:List Addr)(f:M RV):TE:=fun σ H Q=>∃ R Γ,ER ios R H σ Γ/\bx (f Γ) (fun rv Γ'=>∀ x H' R',aM ios R H σ Γ R' H' Γ'->dX R' H H' σ x rv->Q x H') (eh EE ios R H σ Γ)
def Lb(EE:a9)(ios:List Addr)(f:M Bool):TT:=fun σ H Q=>∃ R Γ,ER ios R H σ Γ/\bx (f Γ) (fun b Γ'=>∀ H' R',aM ios R H σ Γ R' H' Γ'->Q b H') (eh EE ios R H σ Γ)
theorem VE.pe(h:VE X EE ios e f):PE X e (DQ EE ios f):=let ⟨_,h1,h2⟩:=h;fun pins s σ H Q I ⟨R,Γ,er,w⟩=>h1 pins s σ H Q I (h2 σ H R Γ Q er w)
def uV(X:Cx)(EE:a9)(ios:List Addr)(ifs:List Expr)(p:M Bool):Prop:=n9 X ifs (Lb EE ios p)
theorem pX:uV X EE ios [] (M.pure true):=fun pins s σ H Q I ⟨R,Γ,er,w⟩=>Kh pins s σ H Q I (w H R (aM.refl er))
abbrev mz(X:Cx)(Nc:List Str)(scope:Scope)(cl:List (Str×Addr))(C:Addr)(s3:Shared)(H3:Hp)(fp:List Addr)(pn':List (Addr×Obj)):Cx:=X.blk Nc scope cl C s3 H3 fp pn' fun _ _=>False
theorem uW{scope:Scope}{Nc:List Str}{own:Nat}{fr:List Nat}{gt:TG}{items:M (List D)}{m:D->M Unit}(hc:X.calm=true)(B:e_ X scope Nc own fr)(hn:fr.Nodup)(hi:VI X EE ios tg iter items)(hog:k9 own gt)
 (hg:∀ cl C s3 H3 fp pn',PG (mz X Nc scope cl C s3 H3 fp pn') tg gt) (hr:jm ios own gt m) (hk:nG own m) (ht:∀ cl C s3 H3 fp pn',uV (mz X Nc scope cl C s3 H3 fp pn') EN ios ifs p) (he:∀ cl C s3 H3 fp pn',VE (mz X Nc scope cl C s3 H3 fp pn') EN ios elt f)
 (hs:∀ x,foldedSetIterable iter X.env x=pure x:=by intro _;rfl):VE X EE ios (.ListComp elt [⟨tg,iter,ifs,0⟩] scope pos) (jK items fr own m p f) :=
 let ⟨_,h1,h2⟩:=hi
 ⟨_,Kn hc B h1 hog hg ht (fun cl C s3 H3 fp pn'=>(he cl C s3 H3 fp pn').pe) hs,DP hn h2 hr hk (fun σ H R Γ Q er w=>⟨R,Γ,er,w⟩) (fun σ H R Γ Q er w=>⟨R,Γ,er,w⟩)⟩
theorem Lc{scope:Scope}{Nc:List Str}{own i:Nat}{fr:List Nat}{gt:TG}{items:M (List D)}{m:D->M Unit}{y:Str}{py spos:Pos}(hN:X.N.Nodup)(hi':X.N[i]? = some y)(hx:Loc X.env.scope y)(hc:X.calm=true)(B:e_ X scope Nc own fr)(hn:fr.Nodup)(hi:VI X EE ios tg iter items)(hog:k9 own gt)
 (hg:∀ cl C s3 H3 fp pn',PG (mz X Nc scope cl C s3 H3 fp pn') tg gt) (hr:jm ios own gt m) (hk:nG own m) (ht:∀ cl C s3 H3 fp pn',uV (mz X Nc scope cl C s3 H3 fp pn') EN ios ifs p) (he:∀ cl C s3 H3 fp pn',VE (mz X Nc scope cl C s3 H3 fp pn') EN ios elt f)
 (hs:∀ x,foldedSetIterable iter X.env x=pure x:=by intro _;rfl) (hsw:swapsWith (.ListComp elt [⟨tg,iter,ifs,0⟩] scope pos) (some (.Name y py)) spos.line X.env=pure true:=by rfl)
 (hf:X.fn y=true\/X.env.scope.names.lookup y=some .local:=by first | exact .inl rfl | exact .inr rfl | assumption):VS X EE ios (.Assign [.Name y py] (.ListComp elt [⟨tg,iter,ifs,0⟩] scope pos) spos) (bw i (jK items fr own m p f)) :=
 let ⟨_,h1,h2⟩:=hi
 ⟨_,Ko hN hi' hx hc B h1 hog hg ht (fun cl C s3 H3 fp pn'=>(he cl C s3 H3 fp pn').pe) hs hsw hf,DH (DP hn h2 hr hk (fun σ H R Γ Q er w=>⟨R,Γ,er,w⟩) (fun σ H R Γ Q er w=>⟨R,Γ,er,w⟩))⟩
inductive Rt where
 |val (d:D) | new (d:D)
def Rt.rv:Rt->RV
 | .val d=>.val d
 | .new d=>.new d
def Ld(R H:Hp)(r:Option Rt)(Q:VK):Prop:=match r with
 |some r=>∀ x H' R',Al R H R' H'->iX R' H H' x r.rv->Q x H'
 |none=>False
def cT(G:List D->Option Rt):Sp:=fun vs H Q _=>∃ R ds,ae R H/\aB R vs ds/\Ld R H (G ds) Q
def gam(N:List Str)(ds:List D):En:=ds.map (fun d=>some (.ak,d))++List.replicate (N.length - ds.length) none
def bG:Res Fl->Option Rt
 | .ok .nx _=>some (.val .ao)
 | .ok (.ret (.val d)) _=>some (.val d)
 | .ok (.ret (.new d)) _=>some (.new d)
 | .ok (.ret (.var i)) Γ=>match Γ[i]? with
   |some (some (.own,d))=>some (.new d)
   |some (some (.ak,d))=>some (.val d)
   | _=>none
 | _=>none
theorem uX{N:List Str}{ds:List D}{i:Nat}{t:Kd×D}(h:(gam N ds)[i]? = some (some t)):∃ d,ds[i]? = some d/\t=(.ak,d):=by
 unfold gam at h
 by_cases hi:i<ds.length
 · rw[List.getElem?_append_left (by rw[List.length_map];exact hi),List.getElem?_map,List.getElem?_eq_getElem hi] at h
   cases h
   exact⟨_,List.getElem?_eq_getElem hi,rfl⟩
 · rw[List.getElem?_append_right (by rw[List.length_map];omega),List.getElem?_replicate] at h
   split at h<;>cases h
theorem yy{N:List Str}{vs:List V}{i:Nat}{v:V}(h:vs[i]? = some v):(L2.start N vs)[i]? = some (some v):=by
 unfold L2.start
 have hi:=(List.getElem?_eq_some_iff.mp h).1
 rw[List.getElem?_append_left (by rw[List.length_map];exact hi),List.getElem?_map,h]
 rfl
theorem yz{N:List Str}{R H:Hp}{vs:List V}{ds:List D}(s:ae R H)(h:aB R vs ds):ER [] R H (L2.start N vs) (gam N ds) where
 sub:=s
 len:=by unfold L2.start gam;simp[h.len]
 sl:=fun i t q=>by
  obtain⟨d,hd,rfl⟩:=uX q
  obtain⟨x,hx,rx⟩:=h.ta hd
  exact⟨x,yy hx,rx⟩
 dj:=fun i j k l d e b q1 q2 _ _ _ _=>by
  obtain⟨_,_,z⟩:=uX q1
  cases z;cases q2
theorem uY{N:List Str}{σ:St}{ds:List D}{b:Addr} : ¬ Ow σ (gam N ds) b:=by
 rintro⟨i,k,d,q1,q2,_⟩
 obtain⟨_,_,z⟩:=uX q1
 cases z;cases q2
theorem bu.al{N:List Str}{R H R' H':Hp}{σ ay:St}{ds:List D}{Γ':En}(p:bu ios R H σ (gam N ds) R' H' ay Γ'):Al R H R' H':=⟨p.er.sub,p.go.rr,fun b o h=>p.go.hh b o h uY,fun b o h r=>p.go.no b o h uY r⟩
theorem yA{P:Program}{w:World}{K:W.Frag}{mg:Str->Option Value}{base:Heap}{x qual:Str}{fa:Addr}{fd:FuncData}{N ps:List Str}{k:Nat}{G:List D->Option Rt}{bm:M Fl}(F:jf K x qual st fa fd)(S:aq N ps (aa st))
 (hb:∀ (cdv:Value) (A:Around) (outer:List Env) (s:Shared) (H:Hp) (E:XK),ax k (A.deeper (PyProof.Rows.envOfC qual (aa st) s.heap.objs.size fa cdv))->cG (gn eP P w K mg base N qual (aa st) fa cdv A outer s H E).jU EN [] (ag st) bm)
 (h:∀ ds r,G ds=some r->ds.length=ps.length/\bG (bm (gam N ds))=some r):a8 P w K mg base eP (k+1) fa fd ps (cT G):=by
 refine F.ok S (fun vs H Q E q=>?_) (fun cdv A outer s H vs Q E hr q=>?_)
 · obtain⟨R,ds,_,h2,h3⟩:=q
   cases e:G ds with
   |none=>rw[e] at h3;exact h3.elim
   |some r=>rw[h2.len];exact(h ds r e).1
 · obtain⟨R,ds,h1,h2,h3⟩:=q
   cases e:G ds with
   |none=>rw[e] at h3;exact h3.elim
   |some r =>
     rw[e] at h3
     obtain⟨t,b1,b2⟩:=hb cdv A outer s H E hr
     refine⟨t,b1,b2 _ H R _ _ (yz h1 h2) ?_⟩
     have fin:=(h ds r e).2
     cases q:bm (gam N ds) with
     |st=>rw[q] at fin;cases fin
     |ex _ _=>rw[q] at fin;cases fin
     |ok fl Γ' =>
       rw[q] at fin
       refine mj fun ay H' R' p=>?_
       cases fl with
       |brk=>cases fin
       |cont=>cases fin
       |nx=>cases fin;exact h3 .ao H' R' p.al .ao
       |ret rv =>
         intro y hy
         cases rv with
         |val d=>cases fin;exact h3 y H' R' p.al hy
         |new d=>cases fin;exact h3 y H' R' p.al hy
         |var i =>
           have fin:(match Γ'[i]? with
            |some (some (.own,d))=>some (Rt.new d)
            |some (some (.ak,d))=>some (.val d)
            | _=>none)=some r:=fin
           split at fin
           · rename_i d hs
             cases fin
             obtain⟨v,hv,sl⟩:=p.er.sl i _ hs
             have hy:ay[i]? = some (some y):=hy
             rw[hy] at hv
             cases hv
             obtain⟨a,xs,ds',rfl,r1,r2,r3,r4⟩:=sl
             refine h3 _ H' R' p.al ⟨⟨a,xs,ds',rfl,r1,r2,r3,r4⟩,a,rfl,?_⟩
             exact(p.go.oo a ⟨i,.own,d,hs,rfl,hy⟩).elim (fun z=>absurd z uY) id
           · rename_i d hs
             cases fin
             obtain⟨v,hv,sl⟩:=p.er.sl i _ hs
             have hy:ay[i]? = some (some y):=hy
             rw[hy] at hv
             cases hv
             exact h3 _ H' R' p.al sl
           · cases fin
mutual
def jL:D->Bool
 | .ao=>true
 | .bl _=>true
 | .int _=>true
 | .str _=>true
 | .tup xs=>gA xs
 | _=>false
def gA:List D->Bool
 | []=>true
 |d::r=>jL d && gA r
end
def gq:Rt->Bool
 | .val d=>jL d
 | .new (.lst ds)=>gA ds
 | .new _=>false
def jn:RV->Bool
 | .var _=>true
 | _=>false
mutual
theorem Rp.less{R R':Hp}(h:∀ b xs,R b=some (.tup xs)->R' b=some (.tup xs)):∀ {x:V} {d:D},Rp R x d->jL d=true->Rp R' x d
 | _,_,.ao,_=>.ao
 | _,_,.bl b,_=>.bl b
 | _,_,.int i,_=>.int i
 | _,_,.str x,_=>.str x
 | _,_,.lst _ _,z=>by simp[jL] at z
 | _,_,.tup e q,z=>.tup (h _ _ e) (aB.less h q (by simpa [jL] using z))
 | _,_,.gv _,z=>by simp[jL] at z
 | _,_,.bM _,z=>by simp[jL] at z
 | _,_,.fT _,z=>by simp[jL] at z
 | _,_,.exc _ _ _,z=>by simp[jL] at z
 | _,_,.obj _ _,z=>by simp[jL] at z
theorem aB.less{R R':Hp}(h:∀ b xs,R b=some (.tup xs)->R' b=some (.tup xs)):∀ {xs:List V} {ds:List D},aB R xs ds->gA ds=true->aB R' xs ds
 | _,_,.nil,_=>.nil
 | _,_,.cons a b,z=>by
   have z:=Bool.and_eq_true_iff.mp (show(jL _ && gA _)=true from by simpa only [gA] using z)
   exact .cons (Rp.less h a z.1) (aB.less h b z.2)
end
def dq(G:List D->Option Rt)(fs:M (List RV)):M RV:=M.bind fs fun rvs=>M.bind (cS rvs) fun ds=>match G ds with
 |some r=>if rvs.any jn && !gq r then M.bind (b7 rvs) fun ds'=>M.cF ((G ds').map Rt.rv) else M.pure r.rv
 |none=>M.st
open Classical in
def lent(O:Addr->Prop)(R H:Hp):Hp:=fun b=>if O b then H b else R b
theorem uZ{O:Addr->Prop}{R H:Hp}(s:ae R H):ae (lent O R H) H:=fun b o e=>by
 unfold lent at e
 split at e
 · exact e
 · exact s b o e
theorem yB{O:Addr->Prop}{R H:Hp}(h:∀ b,O b->R b=none):ae R (lent O R H):=fun b o e=>by
 unfold lent
 split
 · rename_i z;rw[h b z] at e;cases e
 · exact e
theorem Pks.lent{R H:Hp}{σ:St}{Γ:En}(er:ER ios R H σ Γ):∀ {xs:List V} {rvs:List RV} {ds:List D},eo R σ xs rvs->Pks R H xs ds->cS rvs Γ = .ok ds Γ->aB (lent (Ow σ Γ) R H) xs ds:=by
 have ss:ae R (Dv.lent (Ow σ Γ) R H):=yB fun b z=>(er.ow z).1
 intro xs rvs
 induction rvs generalizing xs with
 |nil=>intro ds h1 h2 _;cases h1;cases h2;exact .nil
 |cons rv r ih =>
   intro ds h1 h2 h3
   cases h1 with
   |cons a b =>
     cases h2 with
     |cons c d =>
       unfold cS M.bind at h3
       cases q:peek rv Γ with
       |ex _ _=>rw[q] at h3;cases h3
       |st=>rw[q] at h3;cases h3
       |ok d0 fV =>
         have e0:fV=Γ:=by
          cases rv with
          |val _=>cases q;rfl
          |new _=>cases q;rfl
          |var i=>unfold peek at q;dsimp only at q;split at q<;>cases q;rfl
         subst e0
         rw[q] at h3
         dsimp only at h3
         cases q2:cS r fV with
         |ex _ _=>rw[q2] at h3;cases h3
         |st=>rw[q2] at h3;cases h3
         |ok bq ah =>
           rw[q2] at h3
           cases h3
           refine .cons ?_ (ih b d q2)
           cases rv with
           |val d'=>cases q;exact Rp.sm ss a
           |new d'=>exact a.elim
           |var i =>
             unfold peek at q
             dsimp only at q
             split at q
             · rename_i kd d' hs
               cases q
               obtain⟨v,hv,sl⟩:=er.sl i _ hs
               have a:σ[i]? = some (some _):=a
               rw[a] at hv
               cases hv
               cases kd with
               |ak=>exact Rp.sm ss sl
               |own =>
                 obtain⟨ad,ys,es,rfl,r1,r2,rfl,r4⟩:=sl
                 refine .lst ?_ (r4.sm ss)
                 unfold Dv.lent
                 rw[if_pos ⟨i,.own,_,hs,rfl,a⟩]
                 exact r2
               |io n =>
                 obtain⟨⟨ad,ys,es,rfl,r1,r2,rfl,r4⟩,_⟩:=sl
                 refine .lst ?_ (r4.sm ss)
                 unfold Dv.lent
                 rw[if_pos ⟨i,.io n,_,hs,rfl,a⟩]
                 exact r2
             · cases q
theorem DR{Γ Γ':En}:∀ {rvs:List RV} {ds:List D},cS rvs Γ = .ok ds Γ'->Γ'=Γ:=by
 intro rvs
 induction rvs with
 |nil=>intro ds h;cases h;rfl
 |cons rv r ih =>
   intro ds h
   unfold cS M.bind at h
   cases q:peek rv Γ with
   |ex _ _=>rw[q] at h;cases h
   |st=>rw[q] at h;cases h
   |ok d0 fV =>
     have e0:fV=Γ:=by
      cases rv with
      |val _=>cases q;rfl
      |new _=>cases q;rfl
      |var i=>unfold peek at q;dsimp only at q;split at q<;>cases q;rfl
     subst e0
     rw[q] at h
     dsimp only at h
     cases q2:cS r fV with
     |ex _ _=>rw[q2] at h;cases h
     |st=>rw[q2] at h;cases h
     |ok bq ah=>rw[q2] at h;cases h;exact ih q2
theorem DS{R:Hp}{σ:St}{Γ:En}:∀ {xs:List V} {rvs:List RV} {ds:List D},eo R σ xs rvs->rvs.any jn=false->cS rvs Γ = .ok ds Γ->aB R xs ds:=by
 intro xs rvs
 induction rvs generalizing xs with
 |nil=>intro ds h1 _ h3;cases h1;cases h3;exact .nil
 |cons rv r ih =>
   intro ds h1 h2 h3
   rw[List.any_cons,Bool.or_eq_false_iff] at h2
   cases h1 with
   |cons a b =>
     cases rv with
     |var i=>cases h2.1
     |new d=>exact a.elim
     |val d =>
       have h3:M.bind (cS r) (fun ds=>M.pure (d::ds)) Γ = .ok ds Γ:=h3
       unfold M.bind at h3
       cases q2:cS r Γ with
       |ex _ _=>rw[q2] at h3;cases h3
       |st=>rw[q2] at h3;cases h3
       |ok bq ah =>
         have:=DR q2
         subst this
         rw[q2] at h3
         cases h3
         exact .cons a (ih b h2.2 q2)
theorem Le{Γ Γ':En}{x:Xc}:∀ {rvs:List RV},cS rvs Γ ≠ .ex x Γ':=by
 intro rvs
 induction rvs with
 |nil=>intro h;cases h
 |cons rv r ih =>
   intro h
   unfold cS M.bind at h
   cases q:peek rv Γ with
   |ex _ _ =>
     cases rv with
     |val _=>cases q
     |new _=>cases q
     |var i=>unfold peek at q;dsimp only at q;split at q<;>cases q
   |st=>rw[q] at h;cases h
   |ok d0 fV =>
     have e0:fV=Γ:=by
      cases rv with
      |val _=>cases q;rfl
      |new _=>cases q;rfl
      |var i=>unfold peek at q;dsimp only at q;split at q<;>cases q;rfl
     subst e0
     rw[q] at h
     dsimp only at h
     cases q2:cS r fV with
     |ex _ _=>exact ih (by rw[q2] at h;cases h;exact q2)
     |st=>rw[q2] at h;cases h
     |ok bq ah=>rw[q2] at h;cases h
theorem yC{rvs:List RV}{Γ:En}{K:List D->En->Prop}{E:Xc->En->Prop}(w:bx (cS rvs Γ) K E):∃ ds,cS rvs Γ = .ok ds Γ/\K ds Γ:=by
 cases q:cS rvs Γ with
 |ex _ _=>exact absurd q Le
 |st=>rw[q] at w;exact False.elim w
 |ok ds Γ' =>
   have:=DR q
   subst this
   rw[q] at w
   exact⟨ds,rfl,w⟩
open Classical in
def cw(O:Addr->Prop)(R:Hp):Hp:=fun b=>if O b then none else R b
theorem Lf{G:List D->Option Rt}{e0:Expr}(hp:∀ t,PA X es t->PE X e0 (xg (cT G) [] E0 t))(ha:VA X EE ios es fs):VE X EE ios e0 (dq G fs):=by
 obtain⟨t,h1,h2⟩:=ha
 refine⟨_,hp t h1,fun σ H R Γ Q er w=>?_⟩
 unfold dq at w
 rw[ZY] at w
 refine h2 σ H R Γ _ er (aT w (fun rvs ah w xs H1 R1 p1 hx=>?_) fun _ _ z=>z)
 show cT G (xs++[]) H1 Q E0
 rw[List.append_nil]
 rw[ZY] at w
 obtain⟨ds,q,w⟩:=yC w
 obtain⟨ds',pk,e⟩:=pR (K:=fun ds' _=>ds'=ds) (E:=fun _ _=>False) p1.er hx (by rw[q];exact rfl)
 subst e
 cases hG:G ds' with
 |none=>rw[hG] at w;exact False.elim w
 |some r =>
   rw[hG] at w
   dsimp only at w
   by_cases hv:rvs.any jn=true
   · by_cases fX:gq r=true
     · rw[hv,fX] at w
       have w:∀ x H' R',aM ios R H σ Γ R' H' ah->dX R' H H' σ x r.rv->Q x H':=w
       refine⟨lent (Ow σ ah) R1 H1,ds',uZ p1.er.sub,Pks.lent p1.er hx pk q,?_⟩
       rw[hG]
       intro x H' R' al ra
       have ow:∀ b,Ow σ ah b->R1 b=none/\∃ xs,H1 b=some (.lst xs):=fun b z=>p1.er.ow z
       have un:∀ b, ¬ Ow σ ah b->cw (Ow σ ah) R' b=R' b:=fun b z=>by unfold cw;rw[if_neg z]
       have un':∀ b,Ow σ ah b->cw (Ow σ ah) R' b=none:=fun b z=>by unfold cw;rw[if_pos z]
       have tup:∀ b ys,R' b=some (.tup ys)->cw (Ow σ ah) R' b=some (.tup ys):=fun b ys z=>by
        rw[un b]
        · exact z
        · intro o
          obtain⟨_,zs,hz⟩:=ow b o
          have:=al.sub _ _ z
          rw[al.hh _ _ hz] at this
          cases this
       have rr:ae R1 (cw (Ow σ ah) R'):=fun b o z=>by
        have nb : ¬ Ow σ ah b:=fun q=>by rw[(ow b q).1] at z;cases z
        rw[un b nb]
        apply al.rr
        unfold lent
        rw[if_neg nb]
        exact z
       have no:∀ b o,H1 b=some o->R1 b=none->cw (Ow σ ah) R' b=none:=fun b o hb rb=>by
        by_cases nb:Ow σ ah b
        · exact un' b nb
        · rw[un b nb]
          apply al.no b o hb
          unfold lent
          rw[if_neg nb]
          exact rb
       have al':Al R1 H1 (cw (Ow σ ah) R') H':=⟨fun b o z=>by
        by_cases nb:Ow σ ah b
        · rw[un' b nb] at z;cases z
        · rw[un b nb] at z;exact al.sub b o z,rr,al.hh,no⟩
       refine w x H' _ (p1.al al') ?_
       cases r with
       |val d=>exact Rp.less tup ra fX
       |new d =>
         cases d with
         |lst zs =>
           obtain⟨⟨a,ys,fj,rfl,r1,r2,r3,r4⟩,a',ea,hf⟩:=ra
           cases ea
           cases r3
           refine⟨⟨a,ys,zs,rfl,?_,r2,rfl,r4.less tup fX⟩,a,rfl,p1.back er a hf⟩
           by_cases nb:Ow σ ah a
           · exact un' a nb
           · rw[un a nb];exact r1
         | _=>cases fX
     · have fX:gq r=false:=by cases z:gq r<;>simp_all
       rw[hv,fX] at w
       have w:bx (M.bind (b7 rvs) (fun ds'=>M.cF ((G ds').map Rt.rv)) ah) _ _:=w
       rw[ZY] at w
       obtain⟨fj,au,R2,p2,s2,r2,w⟩:=ji er p1 hx w
       obtain⟨rv,hrv,w⟩:=iy w
       refine⟨R2,fj,p2.er.sub,r2,?_⟩
       cases ki:G fj with
       |none=>rw[ki] at hrv;cases hrv
       |some r' =>
         rw[ki] at hrv
         cases hrv
         exact fun x H' R' al ra=>w x H' R' (p2.al al) (ra.rv (p2.back er))
   · have hv:rvs.any jn=false:=by cases z:rvs.any jn<;>simp_all
     rw[hv] at w
     have w:∀ x H' R',aM ios R H σ Γ R' H' ah->dX R' H H' σ x r.rv->Q x H':=w
     refine⟨R1,ds',p1.er.sub,DS hx hv q,?_⟩
     rw[hG]
     exact fun x H' R' al ra=>w x H' R' (p1.al al) (ra.rv (p1.back er))
end
section
variable{X:Cx}{EE:a9}{ios:List Addr}{e a b c iter tg elt:Expr}{es ifs:List Expr}{f g k:M RV}{fs:M (List RV)}{p:M Bool}{s s':M Fl}{st:Stmt}{sts fh:List Stmt}{pos:Pos}
abbrev GI:=List D->List D->Option (Rt×List D)
def kj(G:GI):Sp:=fun vs H Q _=>∃ R p xs bq vs' ds,vs = .ref p::vs'/\ae R H/\R p=none/\H p=some (.lst xs)/\aB R xs bq/\aB R vs' ds/\match G bq ds with
 |some (r,out)=>∀ x H' R' xs',ae R' H'->Go (· = p) R H (· = p) R' H'->H' p=some (.lst xs')->R' p=none->aB R' xs' out->iX R' H H' x r.rv->Q x H'
 |none=>False
def jo(N:List Str)(bq ds:List D):En:=some (.io 0,.lst bq)::(ds.map (fun d=>some (.ak,d))++List.replicate (N.length - (ds.length+1)) none)
def mB:Res Fl->Option (Rt×List D)
 | .ok fl Γ=>match (Γ:List Sl)[(0:Nat)]? with
   |some (some (.io 0,.lst out))=>(bG (.ok fl Γ)).map fun r=>(r,out)
   | _=>none
 | _=>none
theorem u0{N:List Str}{bq ds:List D}{i:Nat}{t:Kd×D}(h:(jo N bq ds)[i]? = some (some t)):(i=0/\t=(.io 0,.lst bq))\/∃ j d,i=j+1/\ds[j]? = some d/\t=(.ak,d):=by
 cases i with
 |zero=>cases h;exact .inl ⟨rfl,rfl⟩
 |succ j =>
   have h:(ds.map (fun d=>some (Kd.ak,d))++List.replicate (N.length - (ds.length+1)) none)[j]? = some (some t):=h
   by_cases hj:j<ds.length
   · rw[List.getElem?_append_left (by rw[List.length_map];exact hj),List.getElem?_map,List.getElem?_eq_getElem hj] at h
     cases h
     exact .inr ⟨j,_,rfl,List.getElem?_eq_getElem hj,rfl⟩
   · rw[List.getElem?_append_right (by rw[List.length_map];omega),List.getElem?_replicate] at h
     split at h<;>cases h
theorem Lg{N:List Str}{R H:Hp}{q:Addr}{xs:List V}{bq:List D}{vs:List V}{ds:List D}(s:ae R H)(h0:R q=none)(h1:H q=some (.lst xs))(h2:aB R xs bq)(h:aB R vs ds):ER [q] R H (L2.start N (.ref q::vs)) (jo N bq ds) where
 sub:=s
 len:=by unfold L2.start jo;simp[h.len]
 sl:=fun i t z=>by
  rcases u0 z with ⟨rfl,rfl⟩ | ⟨j,d,rfl,hd,rfl⟩
  · exact⟨.ref q,rfl,⟨q,xs,bq,rfl,h0,h1,rfl,h2⟩,q,rfl,rfl⟩
  · obtain⟨x,hx,rx⟩:=h.ta hd
    exact⟨x,yy (by simpa using hx),rx⟩
 dj:=fun i j k l d e b q1 q2 q3 q4 _ _=>by
  rcases u0 q1 with ⟨rfl,z⟩ | ⟨j,d,_,_,z⟩
  · rcases u0 q3 with ⟨rfl,_⟩ | ⟨j,d,_,_,z'⟩
    · rfl
    · cases z';cases q4
  · cases z;cases q2
theorem yD{N:List Str}{q:Addr}{vs:List V}{bq ds:List D}{b:Addr}:Ow (L2.start N (.ref q::vs)) (jo N bq ds) b ↔ b=q:=by
 constructor
 · rintro⟨i,k,d,q1,q2,q3⟩
   rcases u0 q1 with ⟨rfl,z⟩ | ⟨j,d,_,_,z⟩
   · have:(L2.start N (.ref q::vs))[0]? = some (some (.ref q)):=rfl
     rw[this] at q3
     cases q3
     rfl
   · cases z;cases q2
 · rintro rfl
   exact⟨0,.io 0,.lst bq,rfl,rfl,rfl⟩
theorem Lh{P:Program}{w:World}{K:W.Frag}{mg:Str->Option Value}{base:Heap}{x qual:Str}{fa:Addr}{fd:FuncData}{N ps:List Str}{k:Nat}{G:GI}{bm:M Fl}(F:jf K x qual st fa fd)(S:aq N ps (aa st))
 (hb:∀ (cdv:Value) (A:Around) (outer:List Env) (s:Shared) (H:Hp) (E:XK) (q:Addr),ax k (A.deeper (PyProof.Rows.envOfC qual (aa st) s.heap.objs.size fa cdv))->cG (gn eP P w K mg base N qual (aa st) fa cdv A outer s H E).jU EN [q] (ag st) bm)
 (h:∀ bq ds r,G bq ds=some r->ds.length+1=ps.length/\mB (bm (jo N bq ds))=some r):a8 P w K mg base eP (k+1) fa fd ps (kj G):=by
 refine F.ok S (fun vs H Q E q=>?_) (fun cdv A outer s H vs Q E hr q=>?_)
 · obtain⟨R,q,xs,bq,vs',ds,rfl,_,_,_,_,h2,h3⟩:=q
   cases e:G bq ds with
   |none=>rw[e] at h3;exact h3.elim
   |some r=>rw[List.length_cons,h2.len];exact(h bq ds r e).1
 · obtain⟨R,q,xs,bq,vs',ds,rfl,s1,r0,hq,hxs,h2,h3⟩:=q
   cases e:G bq ds with
   |none=>rw[e] at h3;exact h3.elim
   |some ro =>
     obtain⟨r,out⟩:=ro
     rw[e] at h3
     obtain⟨t,b1,b2⟩:=hb cdv A outer s H E q hr
     refine⟨t,b1,b2 _ H R _ _ (Lg s1 r0 hq hxs h2) ?_⟩
     have fin:=(h bq ds _ e).2
     cases q0:bm (jo N bq ds) with
     |st=>rw[q0] at fin;cases fin
     |ex _ _=>rw[q0] at fin;cases fin
     |ok fl Γ' =>
       rw[q0] at fin
       refine mj fun ay H' R' pp=>?_
       unfold mB at fin
       dsimp only at fin
       split at fin
       · rename_i out' hs0
         obtain⟨v0,hv0,⟨a0,xs',ds',e0,r1,r2,r3,r4⟩,a1,i1,i2⟩:=pp.er.sl 0 _ hs0
         cases i1
         rw[i2] at e0
         cases e0
         cases r3
         rw[i2] at hv0
         have go:Go (· = q) R H (· = q) R' H':=⟨pp.go.rr,fun b o z n=>pp.go.hh b o z fun y=>n (yD.mp y),fun b o z n r=>pp.go.no b o z (fun y=>n (yD.mp y)) r,fun b z=>.inl z,pp.go.th⟩
         have fin':∀ {r'},bG (.ok fl Γ')=some r'->r'=r/\out'=out:=fun z=>by rw[z] at fin;cases fin;exact⟨rfl,rfl⟩
         have use:∀ y r',bG (.ok fl Γ')=some r'->iX R' H H' y r'.rv->Q y H':=fun y r' z ra=>by
          obtain⟨rfl,rfl⟩:=fin' z
          exact h3 y H' R' xs' pp.er.sub go r2 r1 r4 ra
         cases fl with
         |brk=>cases fin
         |cont=>cases fin
         |nx=>exact use .ao _ rfl .ao
         |ret rv =>
           intro y hy
           cases rv with
           |val d=>exact use y _ rfl hy
           |new d=>exact use y _ rfl hy
           |var i =>
             have hy:ay[i]? = some (some y):=hy
             cases hsi:Γ'[i]? with
             | none => have : bG (.ok (.ret (.var i)) Γ') = none := by show (match Γ'[i]? with | some (some (.own, d)) => some (Rt.new d) | some (some (.ak, d)) => some (.val d) | _ => none) = none; rw [hsi]
                       rw[this] at fin;cases fin
             |some o =>
               cases o with
               | none => have : bG (.ok (.ret (.var i)) Γ') = none := by show (match Γ'[i]? with | some (some (.own, d)) => some (Rt.new d) | some (some (.ak, d)) => some (.val d) | _ => none) = none; rw [hsi]
                         rw[this] at fin;cases fin
               |some sd =>
                 obtain⟨kd,d⟩:=sd
                 obtain⟨v,hv,sl⟩:=pp.er.sl i _ hsi
                 rw[hy] at hv
                 cases hv
                 cases kd with
                 | io n => have : bG (.ok (.ret (.var i)) Γ') = none := by show (match Γ'[i]? with | some (some (.own, d)) => some (Rt.new d) | some (some (.ak, d)) => some (.val d) | _ => none) = none; rw [hsi]
                           rw[this] at fin;cases fin
                 |ak=>exact use y (.val d) (by show(match Γ'[i]? with | some (some (.own,d))=>some (Rt.new d) | some (some (.ak,d))=>some (.val d) | _=>none)=_;rw[hsi]) sl
                 |own =>
                   obtain⟨a,ys,fj,rfl,t1,t2,t3,t4⟩:=sl
                   refine use _ (.new d) (by show(match Γ'[i]? with | some (some (.own,d))=>some (Rt.new d) | some (some (.ak,d))=>some (.val d) | _=>none)=_;rw[hsi]) ⟨⟨a,ys,fj,rfl,t1,t2,t3,t4⟩,a,rfl,?_⟩
                   rcases pp.go.oo a ⟨i,.own,d,hsi,rfl,hy⟩ with z | z
                   · have:=yD.mp z
                     subst this
                     have:=pp.er.dj i 0 .own (.io 0) d _ a hsi rfl hs0 rfl hy hv0
                     subst this
                     rw[hs0] at hsi
                     cases hsi
                   · exact z
       · cases fin
def u3(i:Nat)(G:GI)(ds:List D):M RV:=fun Γ=>match Γ[i]? with
 |some (some (kd,.lst bq))=>if owned kd then match G bq ds with
   |some (r,out)=>.ok r.rv (Γ.set i (some (kd,.lst out)))
   |none=>.st else .st
 | _=>.st
def fC(G:GI)(fs:M (List RV)):M RV:=M.bind fs fun rvs=>match rvs with
 | .var i::r=>M.bind (b7 r) fun ds=>u3 i G ds
 | _=>M.st
theorem Li{G:GI}{e0:Expr}(hp:∀ t,PA X es t->PE X e0 (xg (kj G) [] E0 t))(ha:VA X EE ios es fs):VE X EE ios e0 (fC G fs):=by
 obtain⟨t,h1,h2⟩:=ha
 refine⟨_,hp t h1,fun σ H R Γ Q er w=>?_⟩
 unfold fC at w
 rw[ZY] at w
 refine h2 σ H R Γ _ er (aT w (fun rvs ah w xs H1 R1 p1 hx=>?_) fun _ _ z=>z)
 show kj G (xs++[]) H1 Q E0
 rw[List.append_nil]
 split at w
 · rename_i i r
   cases hx with
   |cons hx hr =>
     rw[ZY] at w
     obtain⟨ds,au,R2,p2,s2,r2,w⟩:=ji er p1 hr w
     unfold u3 at w
     split at w
     · rename_i kd bq hi
       split at w
       · rename_i ho
         cases hG:G bq ds with
         |none=>rw[hG] at w;exact False.elim w
         |some ro =>
           obtain⟨rt,out⟩:=ro
           rw[hG] at w
           dsimp only at w
           have w:=nF w
           have hx:σ[i]? = some (some _):=hx
           have hlt:i<au.length:=(List.getElem?_eq_some_iff.mp hi).1
           obtain⟨q,ys,rfl,h2,h3,_⟩:=p2.er.mut (ds':=bq) hi ho hx
           have hr0:R2 q=none:=(p2.er.ow ⟨i,kd,_,hi,ho,hx⟩).1
           refine⟨R2,q,ys,bq,_,ds,rfl,p2.er.sub,hr0,h2,h3,r2,?_⟩
           rw[hG]
           intro x H' R' xs' sub go g1 g2 g3 ra
           have inj:∀ (j:Nat) (l:Kd) (z:D),au[j]? = some (some (l,z))->owned l=true->σ[j]? = some (some (.ref q))->j=i:=fun j l z q1 q2 q3=>(p2.er.dj i j kd l _ z q hi ho q1 q2 hx q3).symm
           have rB:∀ b,Ow σ (au.set i (some (kd,.lst out))) b->Ow σ au b:=by
            rintro b ⟨j,l,z,q1,q2,q3⟩
            by_cases hj:j=i
            · subst hj
              rw[List.getElem?_set_self hlt] at q1
              cases q1
              exact⟨j,kd,_,hi,ho,q3⟩
            · rw[List.getElem?_set_ne (Ne.symm hj)] at q1
              exact⟨j,l,z,q1,q2,q3⟩
           have qo:Ow σ au q:=⟨i,kd,_,hi,ho,hx⟩
           have uO:ER ios R' H' σ (au.set i (some (kd,.lst out))):=by
            refine⟨sub,by rw[List.length_set];exact p2.er.len,fun j t hj=>?_,fun j j' l l' z z' b q1 q2 q3 q4 q5 q6=>?_⟩
            · by_cases hji:j=i
              · subst hji
                rw[List.getElem?_set_self hlt] at hj
                cases hj
                obtain⟨v,hv,sl⟩:=p2.er.sl j _ hi
                rw[hx] at hv
                cases hv
                have z:OwR R' H' (.ref q) (.lst out):=⟨q,xs',out,rfl,g2,g1,rfl,g3⟩
                refine⟨_,hx,?_⟩
                cases kd with
                |ak=>cases ho
                |own=>exact z
                |io n=>exact⟨z,sl.2⟩
              · rw[List.getElem?_set_ne (Ne.symm hji)] at hj
                obtain⟨v,hv,sl⟩:=p2.er.sl j t hj
                refine⟨v,hv,sl.mono go.rr fun ho' b zs eb hb rb=>?_⟩
                subst eb
                have nb : ¬ b=q:=by rintro rfl;exact hji (inj j t.1 t.2 hj ho' hv)
                exact⟨go.hh b _ hb nb,go.no b _ hb nb rb⟩
            · have g:∀ {j:Nat} {l:Kd} {z:D},(au.set i (some (kd,.lst out)))[j]? = some (some (l,z))->∃ z',au[j]? = some (some (l,z')):=by
               intro j l z y
               by_cases hji:j=i
               · subst hji;rw[List.getElem?_set_self hlt] at y;cases y;exact⟨_,hi⟩
               · rw[List.getElem?_set_ne (Ne.symm hji)] at y;exact⟨z,y⟩
              obtain⟨z1,y1⟩:=g q1
              obtain⟨z2,y2⟩:=g q3
              exact p2.er.dj j j' l l' z1 z2 b y1 q2 y2 q4 q5 q6
           have p3:aM ios R2 H1 σ au R' H' (au.set i (some (kd,.lst out))):=⟨uO,⟨go.rr,fun b o hb nb=>go.hh b o hb (fun z=>nb (by rw[z];exact qo)),fun b o hb nb rb=>go.no b o hb (fun z=>nb (by rw[z];exact qo)) rb,fun b z=>.inl (rB b z),go.th⟩,rB⟩
           exact w x H' R' (p2.trans p3) (ra.rv (p2.back er))
       · exact False.elim w
     · exact False.elim w
 · exact False.elim w
end
def At(mg:Str->Option Value)(x:Str)(st:Stmt):Prop:=∃ f fd,jf KC.K x x st f fd/\mg x=some (.ref f)/\W.keepIn KC.K (.ref f)=true
def dr(P:Program)(w:World)(mg:Str->Option Value)(base:Heap)(x:Str)(k:Nat)(ps:List Str)(sp:Sp):Prop:=∃ f fd,a8 P w KC.K mg base eP k f fd ps sp/\mg x=some (.ref f)/\W.keepIn KC.K (.ref f)=true/\Binds KC.K fd ps []
section
variable{X:Cx}{EE:a9}{ios:List Addr}{e:Expr}{es:List Expr}{fs:M (List RV)}{x:Str}{k:Nat}{ps:List Str}{p pos:Pos}{st:Stmt}
theorem jq{G:List D->Option Rt}(C:dr X.prog X.w X.mg X.base x k ps (cT G))(hr:ax k X.A)(hg:Gl X x)(ha:VA X EE ios (e::es) fs)(hK:X.K=KC.K:=by rfl)(hdb:(x == ("__debug__" : Str))=false:=by decide)
 (he:starEach (e::es) X.env=(false,eval e X.env)::starEach es X.env:=by rfl) (hpl:(backTo pos (starEach es X.env)).any (·.1)=false:=by rfl):VE X EE ios (.Call (.Name x p) (e::es) [] pos) (dq G fs):=by
 obtain⟨f,fd,F,hm,hk,hb⟩:=C
 rw[<- hK] at F hk hb
 exact Lf (fun t h=>Co F hr hg hm hk hb .nil xq h hdb he hpl) ha
theorem nI{G:GI}(C:dr X.prog X.w X.mg X.base x k ps (kj G))(hr:ax k X.A)(hg:Gl X x)(ha:VA X EE ios (e::es) fs)(hK:X.K=KC.K:=by rfl)(hdb:(x == ("__debug__" : Str))=false:=by decide)
 (he:starEach (e::es) X.env=(false,eval e X.env)::starEach es X.env:=by rfl) (hpl:(backTo pos (starEach es X.env)).any (·.1)=false:=by rfl):VE X EE ios (.Call (.Name x p) (e::es) [] pos) (fC G fs):=by
 obtain⟨f,fd,F,hm,hk,hb⟩:=C
 rw[<- hK] at F hk hb
 exact Li (fun t h=>Co F hr hg hm hk hb .nil xq h hdb he hpl) ha
theorem mC{P:Program}{w:World}{mg:Str->Option Value}{base:Heap}{N:List Str}{G:List D->Option Rt}{bm:M Fl}(A0:At mg x st)(S:aq N ps (aa st))
 (bd:∀ (kV doc pm:Value) (an:Option Addr) (cdv ct:Value) (us:List Value),us.length=ps.length->bindArgs (W.fnOf x x (aW st) (ag st) (aa st) .none kV doc pm an cdv ct) ⟨us,[]⟩=pure (ps.zip us))
 (hb:∀ (fa:Addr) (cdv:Value) (A:Around) (outer:List Env) (s:Shared) (H:Hp) (E:XK),ax k (A.deeper (PyProof.Rows.envOfC x (aa st) s.heap.objs.size fa cdv))->cG (gn eP P w KC.K mg base N x (aa st) fa cdv A outer s H E).jU EN [] (ag st) bm)
 (h:∀ ds r,G ds=some r->ds.length=ps.length/\bG (bm (gam N ds))=some r):dr P w mg base x (k+1) ps (cT G) :=
 let ⟨f,fd,F,hm,hk⟩:=A0
 ⟨f,fd,yA F S (hb f) h,hm,hk,F.binds bd⟩
theorem yE{P:Program}{w:World}{mg:Str->Option Value}{base:Heap}{N:List Str}{G:GI}{bm:M Fl}(A0:At mg x st)(S:aq N ps (aa st))
 (bd:∀ (kV doc pm:Value) (an:Option Addr) (cdv ct:Value) (us:List Value),us.length=ps.length->bindArgs (W.fnOf x x (aW st) (ag st) (aa st) .none kV doc pm an cdv ct) ⟨us,[]⟩=pure (ps.zip us))
 (hb:∀ (fa:Addr) (cdv:Value) (A:Around) (outer:List Env) (s:Shared) (H:Hp) (E:XK) (q:Addr),ax k (A.deeper (PyProof.Rows.envOfC x (aa st) s.heap.objs.size fa cdv))->cG (gn eP P w KC.K mg base N x (aa st) fa cdv A outer s H E).jU EN [q] (ag st) bm)
 (h:∀ bq ds r,G bq ds=some r->ds.length+1=ps.length/\mB (bm (jo N bq ds))=some r):dr P w mg base x (k+1) ps (kj G) :=
 let ⟨f,fd,F,hm,hk⟩:=A0
 ⟨f,fd,Lh F S (hb f) h,hm,hk,F.binds bd⟩
def DT(sc scope:Scope)(N Nc:List Str)(own:Nat)(fr:List Nat):Bool :=
 decide (Nc.length=own+fr.length) && decide (scope.kind = .function) && scope.names.all (fun y=>decide (y.2 ≠ .cell)) && scope.names.all (fun y=>decide (y.2 = .local->scope.names.lookup y.1=some .local)) &&
 scope.names.all (fun y=>decide (y.2 = .free->sc.names.lookup y.1=some .cell\/sc.names.lookup y.1=some .free)) &&
 (List.range fr.length).all fun k=>match fr[k]?,Nc[own+k]? with
  |some j,some x=>decide (N[j]? = some x) && decide (sc.names.lookup x=some .cell\/sc.names.lookup x=some .free) && decide (scope.names.lookup x=some .free)
  | _,_=>true
omit [KC] in
theorem pY{X:Cx}{scope sc:Scope}{N Nc:List Str}{own:Nat}{fr:List Nat}(hs:X.env.scope=sc)(hN:X.N=N)(h:DT sc scope N Nc own fr=true):e_ X scope Nc own fr:=by
 subst hs hN
 unfold DT at h
 simp only[Bool.and_eq_true,decide_eq_true_eq,List.all_eq_true] at h
 obtain⟨⟨⟨⟨⟨h1,h2⟩,h3⟩,h4⟩,h5⟩,h6⟩:=h
 refine⟨h1,fun k j x e1 e2=>?_,h2,h3,h4,fun x hx=>h5 _ hx rfl⟩
 have hk:k<fr.length:=(List.getElem?_eq_some_iff.mp e1).1
 have z:=h6 k (List.mem_range.mpr hk)
 rw[e1,e2] at z
 simp only[Bool.and_eq_true,decide_eq_true_eq] at z
 exact⟨z.1.1,z.1.2,z.2⟩
end
section
variable{X:Cx}{EE:a9}{ios:List Addr}{e a b c:Expr}{f g k:M RV}{pos p:Pos}{x:Str}{ps:List Str}{kk:Nat}
theorem DU:fU EE ios (DQ EE ios f) f:=fun σ H R Γ Q er w=>⟨R,Γ,er,w⟩
theorem DV{i:Int}(h:∃ t,X.mg x=some (.int i t))(hg:Gl X x)(hd:(x == ("__debug__" : Str))=false:=by decide):VE X EE ios (.Name x pos) (M.pure (.val (.int i))) :=
 let ⟨t,h⟩:=h;q9 (gj (v:=.int i) hg h ⟨t,rfl⟩ hd) fun _=>.int i
end
def cP(n:Nat)(N:List Str)(bm:M Fl):List D->Option Rt:=fun ds=>if ds.length=n then bG (bm (gam N ds)) else none
def mD(n:Nat)(N:List Str)(bm:M Fl):GI:=fun bq ds=>if ds.length+1=n then mB (bm (jo N bq ds)) else none
theorem km{n:Nat}{N:List Str}{bm:M Fl}{ds:List D}{r:Rt}(h:cP n N bm ds=some r):ds.length=n/\bG (bm (gam N ds))=some r:=by
 unfold cP at h
 split at h
 · rename_i q;exact⟨q,h⟩
 · cases h
theorem yF{n:Nat}{N:List Str}{bm:M Fl}{bq ds:List D}{r:Rt×List D}(h:mD n N bm bq ds=some r):ds.length+1=n/\mB (bm (jo N bq ds))=some r:=by
 unfold mD at h
 split at h
 · rename_i q;exact⟨q,h⟩
 · cases h
end Dv
namespace Dv
open PySem L2 Ex
section
variable{α β:Type}{Γ Γ':En}{f g k:M RV}{fs:M (List RV)}{p q:M Bool}{s s':M Fl}{d:D}{i:Nat}
@[simp] theorem yG{a:α}:M.pure a Γ = .ok a Γ:=(rfl)
@[simp] theorem yH{f:M α}{g:α->M β}:M.bind f g Γ=match f Γ with
 | .ok a Γ'=>g a Γ'
 | .ex x Γ'=>.ex x Γ'
 | .st=>.st:=(rfl)
@[simp] theorem yI{a:α}:M.cF (some a) Γ = .ok a Γ:=(rfl)
@[simp] theorem yJ:ai i Γ=match Γ[i]? with
 |some (some (.ak,d))=>.ok (.val d) Γ
 |some (some _)=>.ok (.var i) Γ
 | _=>.st:=(rfl)
@[simp] theorem u4:peek (.val d) Γ = .ok d Γ:=(rfl)
@[simp] theorem u5:peek (.new d) Γ = .ok d Γ:=(rfl)
@[simp] theorem u6:peek (.var i) Γ=match Γ[i]? with
 |some (some (_,d))=>.ok d Γ
 | _=>.st:=(rfl)
@[simp] theorem yK:mat (.val d) Γ = .ok d Γ:=(rfl)
@[simp] theorem yL:mat (.new d) Γ = .ok d Γ:=(rfl)
@[simp] theorem yM:mat (.var i) Γ=match Γ[i]? with
 |some (some (_,d))=>.ok d (Γ.set i (some (.ak,d)))
 | _=>.st:=(rfl)
@[simp] theorem DW{o:D->Option RV}:op1 o f Γ=M.bind f (fun x=>M.bind (peek x) fun d=>M.cF (o d)) Γ:=(rfl)
@[simp] theorem DX{o:D->D->Option RV}:op2 o f g Γ=M.bind f (fun x=>M.bind g fun y=>M.bind (peek x) fun d=>M.bind (peek y) fun e=>M.cF (o d e)) Γ:=(rfl)
@[simp] theorem DY{o o':D->D->Option RV}:q_ o o' f g k Γ=M.bind f (fun x=>M.bind g fun y=>M.bind (peek x) fun d=>M.bind (peek y) fun e=>M.bind (M.bind (M.cF (o d e)) bz) fun q =>
 if q then M.bind k fun z=>M.bind (peek y) fun e'=>M.bind (peek z) fun u=>M.cF (o' e' u) else M.pure (.val (.bl false))) Γ:=(rfl)
@[simp] theorem DZ{b:Bool}:bz (.val (.bl b)) Γ = .ok b Γ:=(rfl)
@[simp] theorem Lj:jZ p Γ=M.bind p (fun b=>M.pure (!b)) Γ:=(rfl)
@[simp] theorem Lk:orM p q Γ=M.bind p (fun b=>if b then M.pure true else q) Γ:=(rfl)
@[simp] theorem yN:uC p Γ=M.bind p (fun b=>M.pure (.val (.bl b))) Γ:=(rfl)
@[simp] theorem yO:jG f g Γ=M.bind (M.bind f bz) (fun b=>if b then g else M.pure (.val (.bl false))) Γ:=(rfl)
@[simp] theorem D0:jJ f Γ=match f Γ with
 | .ok (.var i) Γ'=>.ok (.var i) Γ'
 | .ok (.val d) Γ'=>.ok (.val d) Γ'
 | .ok (.new d) Γ'=>.ok (.val d) Γ'
 | .ex x Γ'=>.ex x Γ'
 | .st=>.st:=by
 unfold jJ M.bind
 cases f Γ with
 |ok rv Γ'=>cases rv<;>rfl
 |ex _ _=>rfl
 |st=>rfl
@[simp] theorem yP:ZS f fs Γ=M.bind (jJ f) (fun x=>M.bind fs fun xs=>M.pure (x::xs)) Γ:=(rfl)
@[simp] theorem yQ:b7 [] Γ = .ok [] Γ:=(rfl)
@[simp] theorem yR{rv:RV}{r:List RV}:b7 (rv::r) Γ=M.bind (mat rv) (fun d=>M.bind (b7 r) fun ds=>M.pure (d::ds)) Γ:=(rfl)
@[simp] theorem u7:cS [] Γ = .ok [] Γ:=(rfl)
@[simp] theorem u9{rv:RV}{r:List RV}:cS (rv::r) Γ=M.bind (peek rv) (fun d=>M.bind (cS r) fun ds=>M.pure (d::ds)) Γ:=(rfl)
@[simp] theorem D1:av fs Γ=M.bind fs (fun rvs=>M.bind (b7 rvs) fun ds=>if ds.length<=sizeLine then M.pure (.new (.lst ds)) else M.st) Γ:=(rfl)
@[simp] theorem D2:cu fs Γ=M.bind fs (fun rvs=>M.bind (b7 rvs) fun ds=>if ds.length<=sizeLine then M.pure (.val (.tup ds)) else M.st) Γ:=(rfl)
@[simp] theorem D3{g:List D->Option RV}:cm g fs Γ=M.bind fs (fun rvs=>M.bind (cS rvs) fun ds=>M.cF (g ds)) Γ:=(rfl)
@[simp] theorem D4{T:Ty}:oF T f Γ=M.bind (jJ f) (fun x=>M.bind (peek x) fun d=>M.cF (nC T d)) Γ:=(rfl)
@[simp] theorem D5{o:D->Option Int->Option Int->Option RV}{lo hi:M (Option Int)}:l_ o f lo hi Γ=M.bind f (fun x=>M.bind lo fun l=>M.bind hi fun u=>M.bind (peek x) fun d=>M.cF (o d l u)) Γ:=(rfl)
@[simp] theorem D6{n:Int}:l9 (.val (.int n)) Γ = .ok (some n) Γ:=(rfl)
@[simp] theorem D7{m:List D->List D->Option (List D×D)}:rE i m fs Γ=M.bind (recv i) (fun _=>M.bind fs fun rvs=>M.bind (b7 rvs) fun es=>rD i m es) Γ:=(rfl)
@[simp] theorem yS:recv i Γ=match Γ[i]? with
 |some (some (kd,.lst _))=>if owned kd then .ok () Γ else .st
 | _=>.st:=(rfl)
@[simp] theorem u_{m:List D->List D->Option (List D×D)}{es:List D}:rD i m es Γ=match Γ[i]? with
 |some (some (kd,.lst ds))=>if owned kd then match m ds es with
   |some (ds',res)=>.ok (.val res) (Γ.set i (some (kd,.lst ds')))
   |none=>.st else .st
 | _=>.st:=(rfl)
@[simp] theorem D8:owned .own=true:=(rfl)
@[simp] theorem Ll{n:Nat}:owned (.io n)=true:=(rfl)
@[simp] theorem D9:aI s s' Γ=match s Γ with
 | .ok .nx Γ'=>s' Γ'
 | .ok fl Γ'=>.ok fl Γ'
 | .ex x Γ'=>.ex x Γ'
 | .st=>.st:=by
 unfold aI M.bind
 cases s Γ with
 |ok fl Γ'=>cases fl<;>rfl
 |ex _ _=>rfl
 |st=>rfl
@[simp] theorem yT:lu f Γ=M.bind f (fun _=>M.pure .nx) Γ:=(rfl)
@[simp] theorem D_:cH f Γ=M.bind f (fun rv=>M.pure (.ret rv)) Γ:=(rfl)
@[simp] theorem Lm:dF p s s' Γ=M.bind p (fun b=>if b then s else s') Γ:=(rfl)
@[simp] theorem Ea:bw i f Γ=match f Γ with
 | .ok (.new d) Γ'=>.ok .nx (Γ'.set i (some (.own,d)))
 | .ok (.val d) Γ'=>.ok .nx (Γ'.set i (some (.ak,d)))
 | .ok (.var j) Γ'=>M.bind (mat (.var j)) (fun d=>M.bind (rG i (.ak,d)) fun _=>M.pure .nx) Γ'
 | .ex x Γ'=>.ex x Γ'
 | .st=>.st:=by
 unfold bw M.bind
 cases f Γ with
 |ok rv Γ' =>
   cases rv with
   |var j=>dsimp only[M.bind];cases mat (.var j) Γ'<;>rfl
   | _=>rfl
 |ex _ _=>rfl
 |st=>rfl
@[simp] theorem yU{m:D->M Unit}:pT m f Γ=M.bind f (fun rv=>M.bind (mat rv) fun d=>M.bind (lC (m d)) fun _=>M.pure .nx) Γ:=(rfl)
@[simp] theorem Ln{m:M Unit}:lC m Γ=match m Γ with
 | .ok a Γ'=>.ok a Γ'
 | _=>.st:=(rfl)
@[simp] theorem Lo:gN i d Γ = .ok () (Γ.set i (some (.ak,d))):=(rfl)
@[simp] theorem Eb:iB [] Γ = .ok () Γ:=(rfl)
@[simp] theorem Ec{m:D->M Unit}{ms:List D->M Unit}{r:List D}:dc m ms (d::r) Γ=M.bind (m d) (fun _=>ms r) Γ:=(rfl)
@[simp] theorem Lp{n:Nat}{ms:List D->M Unit}{ds:List D}:gT n ms (.tup ds) Γ=(if ds.length=n then ms ds else M.st) Γ:=(rfl)
@[simp] theorem Lq{fi:M RV}:gS i fi d Γ=M.bind (recv i) (fun _=>M.bind fi fun ri=>M.bind (peek ri) fun di=>setAt i d di) Γ:=(rfl)
@[simp] theorem va{n:Int}:setAt i d (.int n) Γ=match Γ[i]? with
 |some (some (kd,.lst ds))=>if owned kd then match jd ds.length n with
   |some k=>.ok () (Γ.set i (some (kd,.lst (ds.set k d))))
   |none=>.st else .st
 | _=>.st:=by
 unfold setAt
 cases Γ[i]? with
 |none=>rfl
 |some o=>cases o with
   |none=>rfl
   |some t=>obtain⟨kd,d⟩:=t;cases d<;>rfl
@[simp] theorem Ed{items:M (List D)}{m:D->M Unit}:forM items m s Γ=M.bind items (fun ds=>iC m s ds) Γ:=(rfl)
@[simp] theorem Lr{m:D->M Unit}:iC m s [] Γ = .ok .nx Γ:=(rfl)
theorem vb{m:D->M Unit}{r:List D}:iC m s (d::r) Γ=match lC (m d) Γ with
 | .ok _ ah=>match s ah with
   | .ok .nx au=>iC m s r au
   | .ok .cont au=>iC m s r au
   | .ok .brk au=>.ok .nx au
   | .ok (.ret rv) au=>.ok (.ret rv) au
   | .ex x au=>.ex x au
   | .st=>.st
 | .ex x ah=>.ex x ah
 | .st=>.st:=by
 show rQ m s (iC m s r) d Γ=_
 unfold rQ M.bind
 cases lC (m d) Γ with
 |ok a ah =>
   dsimp only
   cases s ah with
   |ok fl au=>cases fl<;>rfl
   |ex _ _=>rfl
   |st=>rfl
 |ex _ _=>rfl
 |st=>rfl
@[simp] theorem yV:lD f Γ=M.bind f (fun rv=>M.bind (mat rv) fun d=>match d with
 | .lst ds=>M.pure ds
 | .bM ns=>M.pure (ns.map D.int)
 | _=>M.st) Γ:=(rfl)
@[simp] theorem yW:tupI f Γ=M.bind f (fun rv=>M.bind (mat rv) fun d=>match d with
 | .tup ds=>M.pure ds
 | _=>M.st) Γ:=(rfl)
@[simp] theorem yX:rO fs Γ=M.bind fs (fun rvs=>M.bind (b7 rvs) fun ds=>match ds with
 | [.lst ds]=>M.pure (mi ds)
 | _=>M.st) Γ:=(rfl)
@[simp] theorem yY:mh fs Γ=M.bind fs (fun rvs=>match rvs with
 | [.val (.int j)]=>if small j then M.pure (hW 0 j.toNat) else M.st
 | _=>M.st) Γ:=(rfl)
@[simp] theorem vc{G:List D->Option Rt}:dq G fs Γ=M.bind fs (fun rvs=>M.bind (cS rvs) fun ds=>match G ds with
 |some r=>if rvs.any jn && !gq r then M.bind (b7 rvs) fun ds'=>M.cF ((G ds').map Rt.rv) else M.pure r.rv
 |none=>M.st) Γ:=(rfl)
@[simp] theorem vd{G:GI}:fC G fs Γ=M.bind fs (fun rvs=>match rvs with
 | .var i::r=>M.bind (b7 r) fun ds=>u3 i G ds
 | _=>M.st) Γ:=(rfl)
@[simp] theorem Ee{G:GI}{ds:List D}:u3 i G ds Γ=match Γ[i]? with
 |some (some (kd,.lst bq))=>if owned kd then match G bq ds with
   |some (r,out)=>.ok r.rv (Γ.set i (some (kd,.lst out)))
   |none=>.st else .st
 | _=>.st:=(rfl)
@[simp] theorem Ef:(Rt.val d).rv = .val d:=(rfl)
@[simp] theorem Eg:(Rt.new d).rv = .new d:=(rfl)
@[simp] theorem Eh:jn (.val d)=false:=(rfl)
@[simp] theorem yZ:jn (.var i)=true:=(rfl)
end
@[simp] theorem Ls{i j:Int}(h:0<j):jI (.int i) (.int j)=some (.val (.int (i % j))):=by
 show(if cd (0<j)=true then _ else _)=_
 rw[if_pos (jH h)]
@[simp] theorem pZ{i j:Int}(h:0<j)(h':j<1073741824):uG (.int i) (.int j)=some (.val (.int (i / j))):=by
 show(if cd (0<j/\j<1073741824)=true then _ else _)=_
 rw[if_pos (jH ⟨h,h'⟩)]
@[irreducible] def vf:Int:=1000000000000000000
theorem Ei:ny (.int 10) (.int 18)=some (.val (.int vf)):=by
 show(if cd ((0:Int)<=18/\(18:Int)<=1000000/\(10:Int).natAbs<2 ^ 64)=true then some (RV.val (.int (10 ^ (18:Int).toNat))) else none)=_
 rw[if_pos (jH (by decide))]
 have:(10:Int) ^ (18:Int).toNat=vf:=by unfold vf;decide +kernel
 rw[this]
@[simp] theorem Ej{g:Int->Int->D}{i j:Int}:pQ g (.int i) (.int j)=some (.val (g i j)):=(rfl)
@[simp] theorem y_{i j:Int}:dY (.int i) (.int j)=some (.val (.int (i+j))):=(rfl)
@[simp] theorem za{xs ys:List D}(h:xs.length+ys.length<=sizeLine):dY (.lst xs) (.lst ys)=some (.new (.lst (xs++ys))):=by
 show(if _ then _ else _)=_
 rw[if_pos h]
@[simp] theorem Ek{i j:Int}(h:ou i j=true):lq (.int i) (.int j)=some (.val (.int (i * j))):=by
 show(if _ then _ else _)=_
 rw[if_pos h]
@[simp] theorem Lu{d:D}:rk d .ao=some (.val (.bl (isNone d))):=(rfl)
@[simp] theorem zb{xs:List D}:j7 [.lst xs]=some (.val (.int xs.length)):=(rfl)
@[simp] theorem zc{xs:List D}:j7 [.tup xs]=some (.val (.int xs.length)):=(rfl)
@[simp] theorem ze{xs:List Int}:j7 [.bM xs]=some (.val (.int xs.length)):=(rfl)
@[simp] theorem Em{xs:List D}{i:Int}:dh (.lst xs) (.int i)=(L2.cC xs i).map .val:=(rfl)
@[simp] theorem Eo{xs:List D}{i:Int}:dh (.tup xs) (.int i)=(L2.cC xs i).map .val:=(rfl)
@[simp] theorem Ep{xs:List Int}{i:Int}:dh (.bM xs) (.int i)=(L2.cC xs i).map fun n=>.val (.int n):=(rfl)
@[simp] theorem Er{i:Int}:oE (.int i)=some (.val (.int (-i))):=(rfl)
@[simp] theorem zf{xs:List D}{lo hi:Option Int}:l7 (.lst xs) lo hi=some (.new (.lst (i4 xs lo hi))):=(rfl)
@[simp] theorem Es{i j:Int}:rn [.int i,.int j]=some (.val (.int (if j > i then j else i))):=(rfl)
@[simp] theorem Et{i j:Int}:rq [.int i,.int j]=some (.val (.int (if j<i then j else i))):=(rfl)
@[simp] theorem zg{k:Bool}:oB [.bl k]=some (.val (.int (if k then 1 else 0))):=(rfl)
@[simp] theorem zh{xs:List D}:pS [.lst xs]=some (.new (.lst xs)):=(rfl)
@[simp] theorem zi{T:Ty}{xs:List D}:nC T (.tup xs)=some (.val (.bl (et T (.tup xs)))):=(rfl)
@[simp] theorem zj{T:Ty}{i:Int}:nC T (.int i)=some (.val (.bl (et T (.int i)))):=(rfl)
@[simp] theorem zk{T:Ty}:nC T .ao=some (.val (.bl (et T .ao))):=(rfl)
@[simp] theorem zo{T:Ty}{b:Bool}:nC T (.bl b)=some (.val (.bl (et T (.bl b)))):=(rfl)
@[simp] theorem zq{T:Ty}{z:Str}:nC T (.str z)=some (.val (.bl (et T (.str z)))):=(rfl)
@[simp] theorem zt{T:Ty}{xs:List D}:nC T (.lst xs)=some (.val (.bl (et T (.lst xs)))):=(rfl)
@[simp] theorem zu{j:Int}(h : -4611686018427387904<=j/\j<4611686018427387904):small j=true:=jH (by omega)
theorem oI{i j:Int}(h : -18446744073709551616<i/\i<18446744073709551616):ou i j=true:=jH (.inl (by omega))
theorem Eu{m:D->M Unit}{s:M Fl}(I:Nat->En->Prop){ds:List D}{Γ:En}(h0:I 0 Γ)
 (step:∀ (i:Nat) (d:D) (Γ:En),ds[i]? = some d->I i Γ->∃ ah au,m d Γ = .ok () ah/\(s ah = .ok .nx au\/s ah = .ok .cont au)/\I (i+1) au):∃ Γ',iC m s ds Γ = .ok .nx Γ'/\I ds.length Γ':=by
 induction ds generalizing Γ I with
 |nil=>exact⟨Γ,rfl,h0⟩
 |cons d r ih =>
   obtain⟨ah,au,h1,h2,h3⟩:=step 0 d Γ rfl h0
   obtain⟨Γ',h4,h5⟩:=ih (fun i=>I (i+1)) h3 fun i d Γ hd hi=>step (i+1) d Γ (by simpa using hd) hi
   refine⟨Γ',?_,h5⟩
   rw[vb,Ln,h1]
   rcases h2 with h2 | h2<;>simp only[h2]<;>exact h4
end Dv
namespace Dv
open PySem L2 Ex
variable[KC]
def mE(d e:D):Option RV:=match d,e with
 | .lst xs,.int k=>if cd (-(2 ^ 63)<=k/\k<2 ^ 63/\xs.length * k.toNat<=sizeLine) then some (.new (.lst (List.replicate k.toNat xs).flatten)) else none
 | _,_=>none
theorem aB.rep{R:Hp}{xs:List V}{ds:List D}(h:aB R xs ds):∀ k:Nat,aB R (List.replicate k xs).flatten (List.replicate k ds).flatten
 | 0=>.nil
 |k+1=>by
   rw[List.replicate_succ,List.replicate_succ,List.flatten_cons,List.flatten_cons]
   exact h.app (aB.rep h k)
theorem Ew:dE CN mE:=by
 intro R H x y d e rv Q s px py hg q
 unfold mE at hg
 split at hg
 · split at hg
   · rename_i c
     cases hg
     obtain⟨c1,c2,c3⟩:=lj c
     obtain⟨a,xs,rfl,h1,h2⟩:=px.lst s
     refine⟨a,_,xs,rfl,py.int,h1,c1,c2,by rw[h2.len];exact c3,fun p hp=>?_⟩
     obtain⟨al,rv⟩:=lV s hp (h2.rep _)
     exact q _ _ _ al rv
   · cases hg
 · cases hg
section
variable{X:Cx}{EE:a9}{ios:List Addr}{pos:Pos}
theorem Lv{R H:Hp}{p:Addr}(s:ae R H)(hp:H p=none):Al R H (upd R p (.dK [])) (upd H p (.dK []))/\iX (upd R p (.dK [])) H (upd H p (.dK [])) (.ref p) (.val (.gp [] [])):=by
 have hr:R p=none:=s.free hp
 refine⟨⟨fun b o e=>?_,ix hr,ix hp,fun b o e r=>?_⟩,.gv cN⟩
 · by_cases hb:b=p
   · subst hb;rw[cN] at e ⊢;exact e
   · rw[aV hb] at e ⊢;exact s b o e
 · rw[aV (eU e hp)];exact r
def Lw:TE:=fun _ H Q=>∀ p,H p=none->Q (.ref p) (upd H p (.dK []))
theorem Lx:PE X (.Dict [] [] pos) Lw:=by
 intro pins s σ H Q I h
 refine wpAny_Dict_empty ⟨.ref s.heap.objs.size,upd H s.heap.objs.size (.dK []),?_,rfl,h _ I.fresh⟩
 refine Inv.laid (t':=s.toks) I (fun _ _ q=>Heap.get?_push_of_some _ q) (Nat.le_refl _) ?_
 have m:mainGlobals<s.heap.objs.size:=Heap.Ns.lt (I.mod.glob.keeps I.bk)
 refine⟨Nat.zero_le _,beq_eq_false_iff_ne.mpr (fun z=>?_),[],.nil,Heap.DictOf.new _⟩
 rw[z] at m
 exact absurd m (by decide)
theorem Ly:VE X EE ios (.Dict [] [] pos) (M.pure (.val (.gp [] []))):=by
 refine⟨_,Lx,fun σ H R Γ Q er w=>fun p hp=>?_⟩
 obtain⟨al,rv⟩:=Lv er.sub hp
 exact w _ _ _ ((aM.refl er).al al) (rv.rv ((aM.refl er).back er))
end
end Dv
namespace L2
open PySem PySem.Spec PyProof.Rows Ex
section
variable{X:Cx}
theorem Lz{P:Program}{w:World}{H:Hp}{h:Heap}{b:Addr}(ok:b6 P w H h)(e:H b=some (.dK [])):Reads h (.ref b) (.dict []) [b]/\b≠sysModules:=by
 obtain⟨_,ns,vs,kv,o,es,ep,g,ex,dt,_,pr,_⟩:=ok _ _ e
 cases kv
 have z:es.toList=[]:=by
  cases q:es.toList with
  |nil=>rfl
  |cons a r=>rw[q] at pr;cases pr
 refine⟨?_,fun z=>by rw[z] at ns;exact absurd ns (by decide)⟩
 have R:Reads h (.ref b) (.dict []) (b::[]++[]):=.dict g ex.1 dt (by rw[z];exact .nil) (by rw[z];exact .nil)
 exact R
theorem gB:aS X (.builtin "repr") (fun xs H Q=>∃ i:Int,xs=[.int i]/\i.natAbs.log2<1920/\Q (.str (toString i)) H):=by
 intro pins s σ H xs us Q I r h
 obtain⟨i,rfl,hi,q⟩:=h
 obtain⟨u,rfl,ru⟩:=r.one
 obtain⟨t,rfl⟩:=ru
 exact PySem.P.repr_of_int hi ⟨.str (toString i),H,I.kept (fun _ _ e=>e),⟨_,rfl⟩,q⟩
end
end L2
namespace Dv
open PySem L2 Ex
section
variable{Γ Γ':En}{f g k l:M RV}{fs:M (List RV)}{p q:M Bool}{d:D}{i j:Nat}{m:D->M Unit}{fr:List Nat}{own:Nat}
@[simp] theorem zv{items:M (List D)}:jK items fr own m p f Γ=M.bind items (fun ds=>if ds.length<sizeLine then M.bind (dk fr own m p f ds) fun ys=>M.pure (.new (.lst ys)) else M.st) Γ:=(rfl)
@[simp] theorem Ey:j9 m p f d Γ=M.bind (lC (m d)) (fun _=>M.bind p fun b=>if b then M.bind f fun rv=>M.bind (mat rv) fun y=>M.pure (some y) else M.pure none) Γ:=(rfl)
theorem Ez(F:D->Option D):∀ (ds:List D),(∀ d∈ds,∃ bS,j9 m p f d (bR fr own Γ) = .ok (F d) bS/\aF fr own Γ bS=Γ)->dk fr own m p f ds Γ = .ok (ds.filterMap F) Γ
 | [],_=>rfl
 |d::r,h=>by
   obtain⟨bS,h1,h2⟩:=h d (List.mem_cons_self ..)
   have ih:=Ez F r fun d hd=>h d (List.mem_cons_of_mem _ hd)
   unfold dk
   rw[h1]
   simp only[h2,ih]
   cases e:F d<;>simp[List.filterMap_cons,e]
theorem EA(F:D->D){ds:List D}(h:∀ d∈ds,∃ bS,j9 m p f d (bR fr own Γ) = .ok (some (F d)) bS/\aF fr own Γ bS=Γ):dk fr own m p f ds Γ = .ok (ds.map F) Γ:=by
 rw[Ez (fun d=>some (F d)) ds h]
 exact congrArg (fun z=>Res.ok z Γ) (by induction ds with
  |nil=>rfl
  |cons a r ih=>rw[List.filterMap_cons,List.map_cons,ih fun d hd=>h d (List.mem_cons_of_mem _ hd)])
end
end Dv
namespace L2
open PySem PySem.Spec PyProof.Rows Ex
section
variable{X:Cx}{EE:a9}{k:Nat}{f:Addr}{fd:FuncData}{ps:List Str}{sp:Sp}{dvs:List V}{ds:List Value}{x:Str}{p pos:Pos}{e:Expr}{es:List Expr}{t:TA}
def oJ(sp:Sp)(dvs:List V)(EE:a9)(t:TA):TE:=fun σ H Q=>t σ H fun vs H1=>sp (vs++dvs) H1 Q (EE σ)
theorem LA{pins:List (Addr×Obj)}{σ:St}{H:Hp}{s:Shared}{Q:VK}{us:List Value}{vs:List V}(F:a8 X.prog X.w X.K X.mg X.base (fQ X.prog X.w) k f fd ps sp)(hr:ax k X.A)(hb:Binds X.K fd ps ds)(hd:Vals dvs ds)(hX:XOk X EE)
 (I:Inv X pins σ H s) (r:Vals vs us) (h:sp (vs++dvs) H Q (EE σ)):wpAny (model X.prog X.w) X.A (call (.ref f) us) (EP X pins σ Q) X.xe s:=by
 have r2:Vals (vs++dvs) (us++ds):=r.append hd
 have hl:(us++ds).length=ps.length:=by rw[<- r2.length];exact F.len _ _ _ _ h
 refine wpAny_call (codeAny_mono (F.run X.A X.stack s H ⟨us,[]⟩ (us++ds) (vs++dvs) Q (EE σ) hr I.env0 (hb s us I.bf hl) r2 h) fun r s' hq=>?_)
 cases r with
 |error e=>exact xy hX I hq
 |ok fl =>
   cases fl with
   |ret u=>exact I.after hq
   |next=>exact False.elim hq
   |brk=>exact False.elim hq
   |cont=>exact False.elim hq
theorem LB(F:a8 X.prog X.w X.K X.mg X.base (fQ X.prog X.w) k f fd ps sp)(hr:ax k X.A)(hg:Gl X x)(hm:X.mg x=some (.ref f))(hk:W.keepIn X.K (.ref f)=true)(hb:Binds X.K fd ps ds)(hd:Vals dvs ds)(hX:XOk X EE)
 (ha:PA X (e::es) t) (hdb:(x == ("__debug__" : Str))=false:=by decide) (he:starEach (e::es) X.env=(false,eval e X.env)::starEach es X.env:=by rfl) (hpl:(backTo pos (starEach es X.env)).any (·.1)=false:=by rfl) :
 PE X (.Call (.Name x p) (e::es) [] pos) (oJ sp dvs EE t):=by
 intro pins s σ H Q I h
 refine wpAny_Call_Name_kw (nQ I hg hm ?_ hdb)
 refine W.callWith_K (h₀:=X.base) I.ok.mod.m9 hk (aL (ha pos pins s σ H _ I h) fun us s1 ⟨vs,H1,I1,r,q⟩=>⟨I1.bf,?_⟩) he hpl
 exact LA F hr hb hd hX I1 r q
theorem vg{X:Cx}:XOk X (fun _ _ _ _=>False):=fun _ _ _ _ _ _ _ _ h=>h.elim
end
end L2
namespace Dv
open PySem L2 Ex
variable[KC]
section
variable{X:Cx}{EE:a9}{ios:List Addr}{e a b c:Expr}{es:List Expr}{f g:M RV}{fs:M (List RV)}{p:M Bool}{s s':M Fl}{st:Stmt}{sts fh:List Stmt}{pos:Pos}
inductive Rx where
 |ok (r:Rt) | ex (x:Xc)
def LC(R H:Hp)(r:Option Rx)(Q:VK)(E:XK):Prop:=match r with
 |some (.ok r)=>∀ x H' R',Al R H R' H'->iX R' H H' x r.rv->Q x H'
 |some (.ex x)=>∀ e H' R',Al R H R' H'->lb R' H H' e x->E (.ref (KC.cls x.C)) (some e) H'
 |none=>False
def oK(G:List D->Option Rx):Sp:=fun vs H Q E=>∃ R ds,ae R H/\aB R vs ds/\LC R H (G ds) Q E
def p9:Res Fl->Option Rx
 | .ex x _=>some (.ex x)
 |r=>(bG r).map .ok
theorem LD{N:List Str}{R H:Hp}{σ:St}{ds:List D}{fl:Fl}{Γ':En}{r:Rt}{Q:VK}(fin:bG (.ok fl Γ')=some r)(h3:∀ x H' R',Al R H R' H'->iX R' H H' x r.rv->Q x H'):nD ios R H σ (gam N ds) { nx:=fun _ H'=>Q .ao H',rt:=Q } fl Γ':=by
 intro ay H' R' p
 cases fl with
 |brk=>cases fin
 |cont=>cases fin
 |nx=>cases fin;exact h3 .ao H' R' p.al .ao
 |ret rv =>
   intro y hy
   cases rv with
   |val d=>cases fin;exact h3 y H' R' p.al hy
   |new d=>cases fin;exact h3 y H' R' p.al hy
   |var i =>
     have fin:(match Γ'[i]? with
      |some (some (.own,d))=>some (Rt.new d)
      |some (some (.ak,d))=>some (.val d)
      | _=>none)=some r:=fin
     split at fin
     · rename_i d hs
       cases fin
       obtain⟨v,hv,sl⟩:=p.er.sl i _ hs
       have hy:ay[i]? = some (some y):=hy
       rw[hy] at hv
       cases hv
       obtain⟨a,xs,ds',rfl,r1,r2,r3,r4⟩:=sl
       refine h3 _ H' R' p.al ⟨⟨a,xs,ds',rfl,r1,r2,r3,r4⟩,a,rfl,?_⟩
       exact(p.go.oo a ⟨i,.own,d,hs,rfl,hy⟩).elim (fun z=>absurd z uY) id
     · rename_i d hs
       cases fin
       obtain⟨v,hv,sl⟩:=p.er.sl i _ hs
       have hy:ay[i]? = some (some y):=hy
       rw[hy] at hv
       cases hv
       exact h3 _ H' R' p.al sl
     · cases fin
theorem LF{P:Program}{w:World}{K:W.Frag}{mg:Str->Option Value}{base:Heap}{x qual:Str}{fa:Addr}{fd:FuncData}{N ps:List Str}{k:Nat}{G:List D->Option Rx}{bm:M Fl}(F:jf K x qual st fa fd)(S:aq N ps (aa st))
 (hb:∀ (cdv:Value) (A:Around) (outer:List Env) (s:Shared) (H:Hp) (E:XK),ax k (A.deeper (PyProof.Rows.envOfC qual (aa st) s.heap.objs.size fa cdv))->cG (gn (fQ P w) P w K mg base N qual (aa st) fa cdv A outer s H E) (fun _=>E) [] (ag st) bm)
 (h:∀ ds r,G ds=some r->ds.length=ps.length/\p9 (bm (gam N ds))=some r):a8 P w K mg base (fQ P w) (k+1) fa fd ps (oK G):=by
 obtain⟨oc,od,kV,doc,pm,an,cdv,ct,osl,rfl,lk,hcd⟩:=F.ex
 refine xh lk hcd S (fun vs H Q E q=>?_) fun A outer s H vs Q E hr q=>?_
 · obtain⟨R,ds,_,h2,h3⟩:=q
   cases e:G ds with
   |none=>rw[e] at h3;exact h3.elim
   |some r=>rw[h2.len];exact(h ds r e).1
 · obtain⟨R,ds,h1,h2,h3⟩:=q
   cases e:G ds with
   |none=>rw[e] at h3;exact h3.elim
   |some r =>
     rw[e] at h3
     obtain⟨t,b1,b2⟩:=hb cdv A outer s H E hr
     refine⟨t,b1,b2 _ H R _ _ (yz h1 h2) ?_⟩
     have fin:=(h ds r e).2
     cases q:bm (gam N ds) with
     |st=>rw[q] at fin;cases fin
     |ex x Γ' =>
       rw[q] at fin
       cases fin
       exact fun e ay H' R' p qx=>h3 e H' R' p.al qx
     |ok fl Γ' =>
       rw[q] at fin
       have fin:(bG (.ok fl Γ')).map Rx.ok=some r:=fin
       cases q2:bG (.ok fl Γ') with
       |none=>rw[q2] at fin;cases fin
       |some r' =>
         rw[q2] at fin
         cases fin
         exact mj (LD q2 h3)
def M.thr{α:Type}(x:Xc):M α:=fun Γ=>.ex x Γ
def rW(G:List D->Option Rx)(fs:M (List RV)):M RV:=M.bind fs fun rvs=>M.bind (cS rvs) fun ds=>match G ds with
 |some (.ok r)=>if rvs.any jn && !gq r then M.bind (b7 rvs) fun ds'=>match G ds' with
  |some (.ok r)=>M.pure r.rv
  | _=>M.st
   else M.pure r.rv
 |some (.ex x)=>M.bind (b7 rvs) fun ds'=>match G ds' with
  |some (.ex x)=>M.thr x
  | _=>M.st
 |none=>M.st
theorem LG{G:List D->Option Rx}{e0:Expr}(hp:∀ t,PA X es t->PE X e0 (oJ (oK G) [] EE t))(ha:VA X EE ios es fs):VE X EE ios e0 (rW G fs):=by
 obtain⟨t,h1,h2⟩:=ha
 refine⟨_,hp t h1,fun σ H R Γ Q er w=>?_⟩
 unfold rW at w
 rw[ZY] at w
 refine h2 σ H R Γ _ er (aT w (fun rvs ah w xs H1 R1 p1 hx=>?_) fun _ _ z=>z)
 show oK G (xs++[]) H1 Q (EE σ)
 rw[List.append_nil]
 rw[ZY] at w
 obtain⟨ds,q,w⟩:=yC w
 obtain⟨ds',pk,e⟩:=pR (K:=fun ds' _=>ds'=ds) (E:=fun _ _=>False) p1.er hx (by rw[q];exact rfl)
 subst e
 cases hG:G ds' with
 |none=>rw[hG] at w;exact False.elim w
 |some rx =>
   rw[hG] at w
   cases rx with
   |ex x =>
     have w:bx (M.bind (b7 rvs) (fun ds'=>match G ds' with
      |some (.ex x)=>M.thr x
      | _=>M.st) ah) _ _:=w
     rw[ZY] at w
     obtain⟨fj,au,R2,p2,s2,r2,w⟩:=ji er p1 hx w
     refine⟨R2,fj,p2.er.sub,r2,?_⟩
     cases ki:G fj with
     |none=>rw[ki] at w;exact False.elim w
     |some ry =>
       rw[ki] at w
       cases ry with
       |ok r=>exact False.elim w
       |ex y=>exact fun e H' R' al xr=>w e H' R' (p2.al al) (xr.back p2.since)
   |ok r =>
     dsimp only at w
     by_cases hv:rvs.any jn=true
     · by_cases fX:gq r=true
       · rw[hv,fX] at w
         have w:∀ x H' R',aM ios R H σ Γ R' H' ah->dX R' H H' σ x r.rv->Q x H':=w
         refine⟨lent (Ow σ ah) R1 H1,ds',uZ p1.er.sub,Pks.lent p1.er hx pk q,?_⟩
         rw[hG]
         intro x H' R' al ra
         have ow:∀ b,Ow σ ah b->R1 b=none/\∃ xs,H1 b=some (.lst xs):=fun b z=>p1.er.ow z
         have un:∀ b, ¬ Ow σ ah b->cw (Ow σ ah) R' b=R' b:=fun b z=>by unfold cw;rw[if_neg z]
         have un':∀ b,Ow σ ah b->cw (Ow σ ah) R' b=none:=fun b z=>by unfold cw;rw[if_pos z]
         have tup:∀ b ys,R' b=some (.tup ys)->cw (Ow σ ah) R' b=some (.tup ys):=fun b ys z=>by
          rw[un b]
          · exact z
          · intro o
            obtain⟨_,zs,hz⟩:=ow b o
            have:=al.sub _ _ z
            rw[al.hh _ _ hz] at this
            cases this
         have rr:ae R1 (cw (Ow σ ah) R'):=fun b o z=>by
          have nb : ¬ Ow σ ah b:=fun q=>by rw[(ow b q).1] at z;cases z
          rw[un b nb]
          apply al.rr
          unfold lent
          rw[if_neg nb]
          exact z
         have no:∀ b o,H1 b=some o->R1 b=none->cw (Ow σ ah) R' b=none:=fun b o hb rb=>by
          by_cases nb:Ow σ ah b
          · exact un' b nb
          · rw[un b nb]
            apply al.no b o hb
            unfold lent
            rw[if_neg nb]
            exact rb
         have al':Al R1 H1 (cw (Ow σ ah) R') H':=⟨fun b o z=>by
          by_cases nb:Ow σ ah b
          · rw[un' b nb] at z;cases z
          · rw[un b nb] at z;exact al.sub b o z,rr,al.hh,no⟩
         refine w x H' _ (p1.al al') ?_
         cases r with
         |val d=>exact Rp.less tup ra fX
         |new d =>
           cases d with
           |lst zs =>
             obtain⟨⟨a,ys,fj,rfl,r1,r2,r3,r4⟩,a',ea,hf⟩:=ra
             cases ea
             cases r3
             refine⟨⟨a,ys,zs,rfl,?_,r2,rfl,r4.less tup fX⟩,a,rfl,p1.back er a hf⟩
             by_cases nb:Ow σ ah a
             · exact un' a nb
             · rw[un a nb];exact r1
           | _=>cases fX
       · have fX:gq r=false:=by cases z:gq r<;>simp_all
         rw[hv,fX] at w
         have w:bx (M.bind (b7 rvs) (fun ds'=>match G ds' with
          |some (.ok r)=>M.pure r.rv
          | _=>M.st) ah) _ _:=w
         rw[ZY] at w
         obtain⟨fj,au,R2,p2,s2,r2,w⟩:=ji er p1 hx w
         refine⟨R2,fj,p2.er.sub,r2,?_⟩
         cases ki:G fj with
         |none=>rw[ki] at w;exact False.elim w
         |some r' =>
           rw[ki] at w
           cases r' with
           |ex y=>exact False.elim w
           |ok r'=>exact fun x H' R' al ra=>w x H' R' (p2.al al) (ra.rv (p2.back er))
     · have hv:rvs.any jn=false:=by cases z:rvs.any jn<;>simp_all
       rw[hv] at w
       have w:∀ x H' R',aM ios R H σ Γ R' H' ah->dX R' H H' σ x r.rv->Q x H':=w
       refine⟨R1,ds',p1.er.sub,DS hx hv q,?_⟩
       rw[hG]
       exact fun x H' R' al ra=>w x H' R' (p1.al al) (ra.rv (p1.back er))
def vh(P:Program)(w:World)(mg:Str->Option Value)(base:Heap)(x:Str)(k:Nat)(ps:List Str)(sp:Sp):Prop:=∃ f fd,a8 P w KC.K mg base (fQ P w) k f fd ps sp/\mg x=some (.ref f)/\W.keepIn KC.K (.ref f)=true/\Binds KC.K fd ps []
theorem LH{G:List D->Option Rx}{x:Str}{k:Nat}{ps:List Str}{p0:Pos}(hX:XOk X EE)(C:vh X.prog X.w X.mg X.base x k ps (oK G))(hr:ax k X.A)(hg:Gl X x)(ha:VA X EE ios (e::es) fs)(hK:X.K=KC.K:=by rfl)(hdb:(x == ("__debug__" : Str))=false:=by decide)
 (he:starEach (e::es) X.env=(false,eval e X.env)::starEach es X.env:=by rfl) (hpl:(backTo pos (starEach es X.env)).any (·.1)=false:=by rfl):VE X EE ios (.Call (.Name x p0) (e::es) [] pos) (rW G fs):=by
 obtain⟨f,fd,F,hm,hk,hb⟩:=C
 rw[<- hK] at F hk hb
 exact LG (fun t h=>LB F hr hg hm hk hb .nil hX h hdb he hpl) ha
theorem LI{P:Program}{w:World}{mg:Str->Option Value}{base:Heap}{x:Str}{k:Nat}{N ps:List Str}{G:List D->Option Rx}{bm:M Fl}(A0:At mg x st)(S:aq N ps (aa st))
 (bd:∀ (kV doc pm:Value) (an:Option Addr) (cdv ct:Value) (us:List Value),us.length=ps.length->bindArgs (W.fnOf x x (aW st) (ag st) (aa st) .none kV doc pm an cdv ct) ⟨us,[]⟩=pure (ps.zip us))
 (hb:∀ (fa:Addr) (cdv:Value) (A:Around) (outer:List Env) (s:Shared) (H:Hp) (E:XK),ax k (A.deeper (PyProof.Rows.envOfC x (aa st) s.heap.objs.size fa cdv))->cG (gn (fQ P w) P w KC.K mg base N x (aa st) fa cdv A outer s H E) (fun _=>E) [] (ag st) bm)
 (h:∀ ds r,G ds=some r->ds.length=ps.length/\p9 (bm (gam N ds))=some r):vh P w mg base x (k+1) ps (oK G) :=
 let ⟨f,fd,F,hm,hk⟩:=A0
 ⟨f,fd,LF F S (hb f) h,hm,hk,F.binds bd⟩
def oM(n:Nat)(N:List Str)(bm:M Fl):List D->Option Rx:=fun ds=>if ds.length=n then p9 (bm (gam N ds)) else none
theorem LJ{n:Nat}{N:List Str}{bm:M Fl}{ds:List D}{r:Rx}(h:oM n N bm ds=some r):ds.length=n/\p9 (bm (gam N ds))=some r:=by
 unfold oM at h
 split at h
 · rename_i c;exact⟨c,h⟩
 · cases h
end
section
variable{X:Cx}{EE:a9}{ios:List Addr}{e a b c:Expr}{es:List Expr}{f g:M RV}{fs:M (List RV)}{p:M Bool}{s s':M Fl}{st:Stmt}{sts fh:List Stmt}{pos cpos p0:Pos}{x:Str}
theorem LK{R H:Hp}{p:Addr}{o:HO}(s:ae R H)(hp:H p=none):Al R H R (upd H p o) :=
 ⟨fun b u e=>by rw[aV (eU (s _ _ e) hp)];exact s _ _ e,ae.refl _,ix hp,fun _ _ _ r=>r⟩
def zw(C:Addr)(y:Str):Sp:=fun vs H Q _=>∃ a v fr,vs=[.ref a,v]/\H a=some (bY C a none fr)/\∀ d,H d=none->d≠a->Q .ao (upd (upd H d (jE d [(y,v)])) a (bY C a (some d) fr))
structure EB(P:Program)(w:World)(mg:Str->Option Value)(base:Heap)(C:Cn)(ps:List Str)(sp:Sp):Prop where
 ex:∃ fI fd,XMk KC.K (KC.cls C) fI/\a8 P w KC.K mg base eP 1 fI fd ps sp/\Binds KC.K fd ps []
 z:qW KC.K (KC.cls C)
def oN(C:Cn)(ns:List Str)(fs:M (List RV)):M Fl:=M.bind fs fun rvs=>M.bind (b7 rvs) fun ds=>if ds.length=ns.length/\ds.length<=1000 then M.thr ⟨C,ns.zip ds⟩ else M.st
theorem EC{C:Cn}{y:Str}{k:Nat}(hX:XOk X EE)(I:EB X.prog X.w X.mg X.base C ["self",y] (zw (KC.cls C) y))(hr:ax k X.A)(hk:2<=k)(hm:X.mg x=some (.ref (KC.cls C)))(ha:VA X EE ios (e::es) fs)(hg:Gl X x:=by rfl)(hc:X.calm=true:=by rfl)(hK:X.K=KC.K:=by rfl)(hdb:(x == ("__debug__" : Str))=false:=by decide)
 (he:starEach (e::es) X.env=(false,eval e X.env)::starEach es X.env:=by rfl) (hpl:(backTo cpos (starEach es X.env)).any (·.1)=false:=by rfl):VS X EE ios (.Raise (some (.Call (.Name x p0) (e::es) [] cpos)) none pos) (oN C [y] fs):=by
 obtain⟨t,h1,h2⟩:=ha
 obtain⟨⟨fI,fd,i1,i2,i3⟩,z⟩:=I
 refine⟨_,JS hX hc (by rw[hK];exact i1) (by rw[hK];exact z) (by rw[hK];exact i2) (hr.mono hk) hg hm (by rw[hK];exact i3) .nil h1 hdb he hpl,fun σ H R Γ D er w=>?_⟩
 unfold oN at w
 rw[ZY] at w
 refine h2 σ H R Γ _ er (aT w (fun rvs ah w xs H1 R1 p1 hx=>?_) fun _ _ z=>z.exp)
 rw[ZY] at w
 obtain⟨ds,au,R2,p2,s2,r2,w⟩:=ji er p1 hx w
 split at w
 · rename_i hl
   obtain⟨hl,hl2⟩:=hl
   match ds,hl with
   | [d],_ =>
     obtain⟨v,rfl,rv⟩:∃ v,xs=[v]/\Rp R2 v d:=by cases r2 with | cons rv r=>cases r;exact⟨_,rfl,rv⟩
     refine⟨by simp,fun a na=>?_⟩
     refine⟨a,v,true,rfl,cN,fun d' nd ne=>⟨rfl,some d',cN,?_⟩⟩
     have vi:H1 d'=none:=by rwa[aV ne] at nd
     have fa:R2 a=none:=p2.er.sub.free na
     have fd':R2 d'=none:=p2.er.sub.free vi
     refine w a σ _ R2 (p2.al ⟨fun b u q=>?_,ae.refl _,fun b u q=>?_,fun _ _ _ r=>r⟩).eS ⟨fa,p2.since _ na,.inr ⟨d',[(y,v)],cN,?_,fd',p2.since _ vi,rfl,.cons rv .nil⟩⟩
     · have q':=p2.er.sub _ _ q
       rw[wH,aV (eU q' na),aV (eU q' vi),aV (eU q' na)];exact q'
     · rw[wH,aV (eU q na),aV (eU q vi),aV (eU q na)];exact q
     · rw[wH,aV ne,cN]
 · exact False.elim w
def LL(EE:a9)(ios:List Addr)(f:M Fl):TS:=fun D σ H=>∃ R Γ,ER ios R H σ Γ/\bx (f Γ) (nD ios R H σ Γ D) (gy EE ios R H σ Γ)
theorem cG.pss(h:cG X EE ios sts s):PSs X sts (LL EE ios s):=let ⟨_,h1,h2⟩:=h;fun pins s σ H D I ⟨R,Γ,er,w⟩=>h1 pins s σ H D I (h2 σ H R Γ D er w)
def lG(x:Xc):D:=.ins x.C (x.fs.map (·.1)) (x.fs.map (·.2))
def rX(mt:Cn->Bool)(i:Nat)(body suite:M Fl):M Fl:=fun Γ=>match body Γ with
 | .ok fl Γ'=>.ok fl Γ'
 | .ex x Γ'=>if mt x.C then match suite (Γ'.set i (some (.ak,lG x))) with
  | .ok .nx oO=>.ok .nx (oO.set i none)
  | _=>.st
   else .st
 | .st=>.st
theorem bu.ext1{R H R1 H1:Hp}{σ dC:St}{Γ ah:En}{a:Addr}(p:bu ios R H σ Γ R1 H1 dC ah)(ra:R1 a=none)(h0:H a=none)(no : ¬ Ow dC ah a):bu ios R H σ Γ (ext R1 H1 a) H1 dC ah:=by
 have rr:ae R1 (ext R1 H1 a):=pJ ra
 refine⟨⟨uA p.er.sub,p.er.len,fun j t hj=>?_,p.er.dj⟩,⟨p.go.rr.trans rr,p.go.hh,fun b o hb nb rb=>?_,p.go.oo,p.go.th⟩⟩
 · obtain⟨v,hv,s⟩:=p.er.sl j t hj
   refine⟨v,hv,s.mono rr fun ho b ys eb hb rb=>⟨hb,?_⟩⟩
   rw[k_]
   · exact rb
   · rintro rfl
     subst eb
     exact no ⟨j,t.1,t.2,hj,ho,hv⟩
 · rw[k_]
   · exact p.go.no b o hb nb rb
   · rintro rfl
     rw[h0] at hb;cases hb
theorem LM{σ:St}{Γ:En}{i:Nat}{b:Addr}(h:Ow (σ.set i none) (Γ.set i none) b):Ow σ Γ b:=by
 obtain⟨j,k,d,h1,h2,h3⟩:=h
 by_cases hj:j=i
 · subst hj
   rw[List.getElem?_set] at h1
   simp at h1
 · rw[List.getElem?_set_ne (Ne.symm hj)] at h1 h3
   exact⟨j,k,d,h1,h2,h3⟩
theorem bu.unset{R H:Hp}{σ:St}{Γ:En}{i:Nat}(er:ER ios R H σ Γ):bu ios R H σ Γ R H (σ.set i none) (Γ.set i none):=by
 have ne:∀ {j:Nat} {t:Kd×D},(Γ.set i none)[j]? = some (some t)->j≠i/\Γ[j]? = some (some t):=fun {j t} h=>by
  by_cases hj:j=i
  · subst hj
    rw[List.getElem?_set] at h
    simp at h
  · exact⟨hj,by rwa[List.getElem?_set_ne (Ne.symm hj)] at h⟩
 refine⟨⟨er.sub,by rw[List.length_set,List.length_set];exact er.len,fun j t hj=>?_,fun j j' l l' d d' b q1 q2 q3 q4 q5 q6=>?_⟩,⟨ae.refl _,fun _ _ h _=>h,fun _ _ _ _ r=>r,fun b z=>.inl (LM z),fun b o h=>⟨o,h⟩⟩⟩
 · obtain⟨n1,n2⟩:=ne hj
   obtain⟨v,hv,s⟩:=er.sl j t n2
   exact⟨v,by rw[List.getElem?_set_ne (Ne.symm n1)];exact hv,s⟩
 · obtain⟨n1,n2⟩:=ne q1
   obtain⟨m1,m2⟩:=ne q3
   rw[List.getElem?_set_ne (Ne.symm n1)] at q5
   rw[List.getElem?_set_ne (Ne.symm m1)] at q6
   exact er.dj j j' l l' d d' b n2 q2 m2 q4 q5 q6
theorem caught{R H R1 H1:Hp}{σ dC:St}{Γ ah:En}{x:Xc}{e:Addr}(p:bu ios R H σ Γ R1 H1 dC ah)(h:lb R1 H H1 e x):∃ R2,bu ios R H σ Γ R2 H1 dC ah/\Rp R2 (.ref e) (lG x):=by
 obtain⟨re,h0,h⟩:=h
 have no:∀ b (o:HO),H1 b=some o->(∀ xs,o ≠ .lst xs) -> ¬ Ow dC ah b:=fun b o hb hn z=>by
  obtain⟨_,xs,q⟩:=p.er.ow z
  rw[hb] at q
  cases q
  exact hn xs rfl
 rcases h with ⟨hf,he⟩ | ⟨d,fs,he,hd,rd,d0,hn,hv⟩
 · refine⟨ext R1 H1 e,p.ext1 re h0 (no e _ he (by intro xs z;cases z)),?_⟩
   unfold lG
   rw[hf]
   exact .fT (by rw[lT];exact he)
 · have p2:=p.ext1 re h0 (no e _ he (by intro xs z;cases z))
   have s2:ae R1 (ext R1 H1 e):=pJ re
   by_cases ed:d=e
   · subst ed
     refine⟨_,p2,?_⟩
     unfold lG
     rw[<- hn]
     exact .exc (by rw[lT];exact he) (by rw[lT];exact hd) (hv.sm s2)
   · have ED:ext R1 H1 e d=none:=by rw[k_ ed];exact rd
     have s3:ae (ext R1 H1 e) (ext (ext R1 H1 e) H1 d):=pJ ED
     refine⟨_,p2.ext1 ED d0 (no d _ hd (by intro xs z;cases z)),?_⟩
     unfold lG
     rw[<- hn]
     exact .exc (by rw[k_ (Ne.symm ed),lT];exact he) (by rw[lT];exact hd) (hv.sm (s2.trans s3))
theorem LN{K:W.Frag}{cs:List Value}{i:Nat}{tb:a9->TS}{ts:TS}{mt:Cn->Bool}(hm:∀ C,mt C=true->aQ K (KC.cls C) cs=some true)(hb:∀ nJ,mf nJ ios (tb nJ) s)(hs:mf EN ios ts s'):mf EE ios (C7 K cs i tb ts) (rX mt i s s'):=by
 intro σ H R Γ D er w
 unfold rX at w
 refine hb _ σ H R Γ D er ?_
 cases h:s Γ with
 |st=>rw[h] at w;exact w
 |ok fl Γ'=>rw[h] at w;exact w
 |ex x Γ' =>
   rw[h] at w
   dsimp only at w
   split at w
   · rename_i c
     intro e dC H1 R1 p xr
     refine⟨e,KC.cls x.C,rfl,rfl,hm _ c,?_⟩
     obtain⟨R2,p2,rp⟩:=caught p xr
     have p3:bu ios R H σ Γ R2 H1 (dC.set i (some (.ref e))) (Γ'.set i (some (.ak,lG x))):=p2.trans (bu.set (s:=(.ak,lG x)) p2.er (aM.refl p2.er) rp fun z=>nomatch z)
     refine hs _ H1 R2 _ _ p3.er ?_
     cases h2:s' (Γ'.set i (some (.ak,lG x))) with
     |st=>rw[h2] at w;exact w.elim
     |ex _ _=>rw[h2] at w;exact w.elim
     |ok fl au =>
       rw[h2] at w
       cases fl with
       |nx =>
         intro c9 H4 R4 p4
         exact w (c9.set i none) H4 R4 ((p3.trans p4).trans (bu.unset p4.er))
       |brk=>exact w.elim
       |cont=>exact w.elim
       |ret _=>exact w.elim
   · exact w.elim
theorem LO{i:Nat}{n:Str}{cs:List Value}{k1 p1 hpos}{b0:Stmt}{suite:List Stmt}{mt:Cn->Bool}(hN:X.N.Nodup)(hi:X.N[i]? = some n)(hl:X.env.scope.names.lookup n=some .local)(hes:PN X es cs)(hcs:cs.length<=1000)(hm:∀ C,mt C=true->aQ KC.K (KC.cls C) cs=some true)
 (hb:∀ E' pn' nJ,XOk (X.body E' pn') nJ->cG (X.body E' pn') nJ ios sts s) (hs:∀ a,cG (X.hand (.ref a) fun _ _=>False) EN ios (b0::suite) s') (hst:X.stack=X.env::X.outer/\X.env.frame=some X.env.locals:=by exact⟨rfl,rfl⟩) (hK:X.K=KC.K:=by rfl) :
 VS X EE ios (.Try sts [.ExceptHandler (some (.Tuple es k1 p1)) (some n) (b0::suite) hpos] [] [] pos) (rX mt i s s') :=
 ⟨_,Kf hst hN hi hl hes hcs (fun E' pn' nJ ok=>(hb E' pn' nJ ok).pss) (fun a=>(hs a).pss),LN (by rw[hK];exact hm) (fun nJ σ H R Γ D er w=>⟨R,Γ,er,w⟩) fun σ H R Γ D er w=>⟨R,Γ,er,w⟩⟩
def sub(C T:Cn):Bool:=C == T || (T == .PointError && (match C with
 | .NoPoints | .NoBox | .NoAsks | .NoRun | .NoText | .NoTurn | .NoTree | .NoTop | .NotServed | .NoRow=>true
 | _=>false))
def vj(L:List Cn)(T:Cn):D->Option RV
 | .bM _=>none
 | .obj _ _ _=>none
 | .ins C _ _=>if L.contains C then some (.val (.bl (sub C T))) else none
 | _=>some (.val (.bl false))
def fZ(L:List Cn)(T:Cn)(f:M RV):M RV:=M.bind (jJ f) fun x=>M.bind (peek x) fun d=>M.cF (vj L T d)
def mF:List String:=["NoneType","bool","int","str","list","tuple","dict"]
structure KitX(L:List Cn)(T:Cn):Prop where
 own:∀ C,L.contains C=true->W.kitOne KC.K (.ref (KC.cls C)) (.ref (KC.cls T))=some (sub C T)/\XC KC.K (KC.cls C)
 no:∀ t∈mF,W.kitOne KC.K (.type t) (.ref (KC.cls T))=some false
theorem LP{d:D}(h:plain d=true):rA d∈mF:=by cases d<;>first | (cases h;done) | simp[rA,mF]
theorem hZ{L:List Cn}{T:Cn}{e0:Expr}(kit:KitX L T)(hp:∀ t,PE X a t->PE X e0 (pF (fun xs H Q=>∃ x c t cv b,xs=[x,c]/\ur c=some cv/\xC X.K H x t/\W.kitOne X.K t cv=some b/\Q (.bl b) H) (jD t (jD (tC (.ref (KC.cls T))) lN))))(ha:VE X EE ios a f)(hK:X.K=KC.K:=by rfl):VE X EE ios e0 (fZ L T f):=by
 obtain⟨t,h1,h2⟩:=ha
 refine⟨_,hp t h1,fun σ H R Γ Q er w=>?_⟩
 unfold fZ at w
 rw[ZY] at w
 refine uI h2 er (aT w (fun rx ah w x H1 R1 p1 hx=>?_) fun _ _ z=>z)
 rw[ZY] at w
 obtain⟨d,pd,w⟩:=jg (H:=H) p1.er hx.rv w
 have hv:=pd.hv p1.er.sub
 obtain⟨rv,hg,w⟩:=iy w
 by_cases pl:plain d=true
 · have hg:rv = .val (.bl false):=by cases d<;>first | (cases pl;done) | exact(Option.some.inj hg).symm
   subst hg
   exact⟨x,.ref (KC.cls T),_,_,_,rfl,rfl,.inl (hv.ty pl),by rw[hK];exact kit.no _ (LP pl),w _ H1 R1 p1 (.bl _)⟩
 · cases d with
   |ins C ns vs =>
     unfold vj at hg
     dsimp only at hg
     split at hg
     · rename_i hc
       cases hg
       obtain⟨k1,k2⟩:=kit.own C hc
       have ty:∃ a,x = .ref a/\lS H1 a (KC.cls C):=by
        cases hv with
        |fT q=>exact⟨_,rfl,false,.inl q⟩
        |exc q q' _=>exact⟨_,rfl,false,.inr ⟨_,_,q,q'⟩⟩
       obtain⟨a',rfl,ea⟩:=ty
       exact⟨.ref a',.ref (KC.cls T),.ref (KC.cls C),_,_,rfl,rfl,.inr ⟨a',KC.cls C,rfl,rfl,ea,by rw[hK];exact k2⟩,by rw[hK];exact k1,w _ H1 R1 p1 (.bl _)⟩
     · cases hg
   |bM _=>cases hg
   |obj _ _ _=>cases hg
   | _=>exact absurd rfl pl
end
section
variable{X:Cx}{EE:a9}{ios:List Addr}{e a b c:Expr}{es:List Expr}{f g:M RV}{fs:M (List RV)}{p:M Bool}{pos p0 p1 p2 pos':Pos}
def zx(r:V->List V->Hp->VK->Prop)(g:List D->List D->Option D):Prop:=∀ R H p xs ds ys es res (Q:VK),ae R H->H p=some (.lst xs)->aB R xs ds->aB R ys es->g ds es=some res->(∀ z,Rp R z res->Q z H)->r (.ref p) ys H Q
def vk(i:Nat):M Unit:=fun Γ=>match Γ[i]? with
 |some (some (_,.lst _))=>.ok () Γ
 | _=>.st
def vm(i:Nat)(g:List D->List D->Option D)(es:List D):M RV:=fun Γ=>match Γ[i]? with
 |some (some (_,.lst ds))=>match g ds es with
   |some r=>.ok (.val r) Γ
   |none=>.st
 | _=>.st
def p_(i:Nat)(g:List D->List D->Option D)(fs:M (List RV)):M RV:=M.bind (vk i) fun _=>M.bind fs fun rvs=>M.bind (b7 rvs) fun es=>vm i g es
theorem EF{R H:Hp}{σ:St}{Γ:En}{i:Nat}{kd:Kd}{ds:List D}(er:ER ios R H σ Γ)(q:Γ[i]? = some (some (kd,.lst ds))):∃ a xs,σ[i]? = some (some (.ref a))/\H a=some (.lst xs)/\aB R xs ds:=by
 obtain⟨v,hv,s⟩:=er.sl i _ q
 obtain⟨a,xs,rfl,h1,h2⟩:=s.pk.lst er.sub
 exact⟨a,xs,hv,h1,h2⟩
theorem zy{i:Nat}{r:V->List V->Hp->VK->Prop}{g:List D->List D->Option D}{e0:Expr}(hp:∀ t,PA X es t->PE X e0 (xm X.K "list" r (nc i) t))(hv:zx r g)(ha:VA X EE ios es fs):VE X EE ios e0 (p_ i g fs):=by
 obtain⟨t,h1,h2⟩:=ha
 refine⟨_,hp t h1,fun σ H R Γ Q er w=>?_⟩
 unfold p_ at w
 rw[ZY] at w
 unfold vk at w
 split at w
 · rename_i kd bq q0
   obtain⟨a,xs0,j8,ha0,_⟩:=EF er q0
   refine⟨_,j8,yk ha0,?_⟩
   have w:=nF w
   rw[ZY] at w
   refine h2 σ H R Γ _ er (aT w (fun rvs ah w ys H1 R1 p1 hx=>?_) fun _ _ z=>z)
   rw[ZY] at w
   obtain⟨es',au,R2,p2,s2,r2,w⟩:=ji er p1 hx w
   unfold vm at w
   split at w
   · rename_i PV ds q
     split at w
     · rename_i res hg
       obtain⟨a',xs,rY,h3,h4⟩:=EF p2.er q
       rw[j8] at rY
       cases rY
       exact hv R2 H1 a xs ds ys es' res Q p2.er.sub h3 h4 r2 hg fun z rz=>w z H1 R2 p2 rz
     · exact False.elim w
   · exact False.elim w
 · exact False.elim w
def vn(ds es:List D):Option D:=match es with
 | [e]=>if oz e && ds.all oz then some (.int (ds.countP fun z=>oA z e)) else none
 | _=>none
theorem zz{R:Hp}:∀ {xs:List V} {ds:List D},aB R xs ds->xs.all je=ds.all oz
 | _,_,.nil=>rfl
 | _,_,.cons a b=>by rw[List.all_cons,List.all_cons,a.flat,zz b]
theorem EG{R:Hp}{y:V}{e:D}(r:Rp R y e):∀ {xs:List V} {ds:List D},aB R xs ds->(xs.countP fun z=>iq z y)=ds.countP fun z=>oA z e
 | _,_,.nil=>rfl
 | _,_,.cons a b=>by rw[List.countP_cons,List.countP_cons,EG r b,a.Dz r]
theorem LQ:zx Dh vn:=by
 intro R H p xs ds ys es res Q s hp hx hy hg q
 unfold vn at hg
 split at hg
 · split at hg
   · rename_i c
     cases hg
     rw[Bool.and_eq_true] at c
     cases hy with
     |cons r hy =>
       cases hy
       refine⟨p,xs,_,rfl,rfl,hp,by rw[r.flat];exact c.1,by rw[zz hx];exact c.2,?_⟩
       rw[EG r hx]
       exact q _ (.int _)
   · cases hg
 · cases hg
def rZ(ds es:List D):Option D:=match es with
 | [e]=>if oz e && ds.all oz && decide (ds.length<=1000) then (ds.findIdx? fun z=>oA z e).map fun j=>.int j else none
 | _=>none
theorem EH:zx Di rZ:=by
 intro R H p xs ds ys es res Q s hp hx hy hg q
 unfold rZ at hg
 split at hg
 · rename_i e
   split at hg
   · rename_i c
     simp only[Bool.and_eq_true,decide_eq_true_eq] at c
     cases h:ds.findIdx? fun z=>oA z e with
     |none=>rw[h] at hg;cases hg
     |some j =>
       rw[h] at hg
       cases hg
       cases hy with
       |cons r hy =>
         cases hy
         obtain⟨hj,h1,h2⟩:=List.findIdx?_eq_some_iff_getElem.mp h
         have lt:j<xs.length:=by rw[hx.len];exact hj
         have EI:∀ (m:Nat) (hm:m<xs.length) (hm':m<ds.length),iq xs[m] _=oA ds[m] e:=fun m hm hm'=>by
          obtain⟨d,e1,e2⟩:=hx.at (List.getElem?_eq_getElem hm)
          rw[List.getElem?_eq_getElem hm'] at e1
          cases e1
          exact e2.Dz r
         refine⟨p,xs,_,j,rfl,rfl,hp,by rw[r.flat];exact c.1.1,by rw[zz hx];exact c.1.2,⟨xs[j],List.getElem?_eq_getElem lt,by rw[EI j lt hj];exact h1⟩,fun m w hm hw=>?_,by omega,q _ (.int _)⟩
         have lm:m<xs.length:=by omega
         rw[List.getElem?_eq_getElem lm] at hw
         cases hw
         rw[EI m lm (by omega)]
         simpa using h2 m hm
   · cases hg
 · cases hg
def r6(L:List Cn)(y:Str)(f:M RV):M RV:=M.bind f fun x=>M.bind (mat x) fun d=>match d with
 | .ins C ns vs=>if L.contains C then M.cF (((ns.zip vs).lookup y).map .val) else M.st
 | _=>M.st
theorem zA{R:Hp}{y:Str}:∀ {fs:List (Str×V)} {vs:List D} {d:D},aB R (fs.map (·.2)) vs->((fs.map (·.1)).zip vs).lookup y=some d->∃ v,fs.lookup y=some v/\Rp R v d
 | [],_,_,h,e=>by cases h;cases e
 | (n,v)::r,_,d,h,e=>by
   cases h with
   |cons a b =>
     rw[List.map_cons,List.zip_cons_cons,List.lookup_cons] at e
     rw[List.lookup_cons]
     cases q:y == n with
     |true =>
       rw[q] at e
       simp only at e
       cases e
       exact⟨v,rfl,a⟩
     |false =>
       rw[q] at e
       exact zA b e
theorem EJ{L:List Cn}{y:Str}(hA:∀ C,L.contains C=true->XC KC.K (KC.cls C)/\aU KC.K (KC.cls C) y)(ha:VE X EE ios e f)(hb:attributeBase e y X.env (eval e X.env)=eval e X.env)(hK:X.K=KC.K:=by rfl):VE X EE ios (.Attribute e y pos) (r6 L y f):=by
 obtain⟨t,h1,h2⟩:=ha
 refine⟨_,JL h1 hb,fun σ H R Γ Q er w=>?_⟩
 unfold r6 at w
 rw[ZY] at w
 refine h2 σ H R Γ _ er (aT w (fun rx ah w x H1 R1 p1 hx=>?_) fun _ _ z=>z)
 rw[ZY] at w
 obtain⟨d,au,R2,p2,s2,r2,w⟩:=jh er p1 hx w
 cases d with
 |ins C ns vs =>
   dsimp only at w
   split at w
   · rename_i hc
     obtain⟨rv,hg,w'⟩:=iy w
     obtain⟨d,hd,rfl⟩:=Option.map_eq_some_iff.mp hg
     obtain⟨k1,k2⟩:=hA C hc
     clear w
     cases r2 with
     |fT q=>cases hd
     |exc q q' hv =>
       obtain⟨v,l1,l2⟩:=zA hv hd
       exact⟨_,_,_,_,_,v,rfl,p2.er.sub _ _ q,p2.er.sub _ _ q',by rw[hK];exact k1,by rw[hK];exact k2,l1,w' v H1 R2 p2 l2⟩
   · exact False.elim w
 | _=>exact False.elim w
end
end Dv
namespace Dv
open PySem L2 Ex
section
variable{Γ Γ':En}{f g:M RV}{fs:M (List RV)}{p:M Bool}{s s':M Fl}{d:D}{i:Nat}{x:Xc}{C T:Cn}{L:List Cn}{y:Str}
@[simp] theorem EK{α:Type}:(M.thr x:M α) Γ = .ex x Γ:=(rfl)
@[simp] theorem vo{G:List D->Option Rx}:rW G fs Γ=M.bind fs (fun rvs=>M.bind (cS rvs) fun ds=>match G ds with
 |some (.ok r)=>if rvs.any jn && !gq r then M.bind (b7 rvs) fun ds'=>match G ds' with
  |some (.ok r)=>M.pure r.rv
  | _=>M.st
   else M.pure r.rv
 |some (.ex x)=>M.bind (b7 rvs) fun ds'=>match G ds' with
  |some (.ex x)=>M.thr x
  | _=>M.st
 |none=>M.st) Γ:=(rfl)
@[simp] theorem vp{ns:List Str}:oN C ns fs Γ=M.bind fs (fun rvs=>M.bind (b7 rvs) fun ds=>if ds.length=ns.length/\ds.length<=1000 then M.thr ⟨C,ns.zip ds⟩ else M.st) Γ:=(rfl)
@[simp] theorem EL{mt:Cn->Bool}:rX mt i s s' Γ=match s Γ with
 | .ok fl Γ'=>.ok fl Γ'
 | .ex x Γ'=>if mt x.C then match s' (Γ'.set i (some (.ak,lG x))) with
  | .ok .nx oO=>.ok .nx (oO.set i none)
  | _=>.st
   else .st
 | .st=>.st:=(rfl)
@[simp] theorem zB:fZ L T f Γ=M.bind (jJ f) (fun x=>M.bind (peek x) fun d=>M.cF (vj L T d)) Γ:=(rfl)
@[simp] theorem zC:r6 L y f Γ=M.bind f (fun x=>M.bind (mat x) fun d=>match d with
 | .ins C ns vs=>if L.contains C then M.cF (((ns.zip vs).lookup y).map .val) else M.st
 | _=>M.st) Γ:=(rfl)
@[simp] theorem zD{m:List D->List D->Option D}:p_ i m fs Γ=M.bind (vk i) (fun _=>M.bind fs fun rvs=>M.bind (b7 rvs) fun es=>vm i m es) Γ:=(rfl)
@[simp] theorem vq:vk i Γ=match Γ[i]? with
 |some (some (_,.lst _))=>.ok () Γ
 | _=>.st:=(rfl)
@[simp] theorem r9{m:List D->List D->Option D}{es:List D}:vm i m es Γ=match Γ[i]? with
 |some (some (_,.lst ds))=>(match m ds es with
   |some r=>.ok (.val r) Γ
   |none=>.st)
 | _=>.st:=(rfl)
@[simp] theorem LR:p9 (.ex x Γ)=some (.ex x):=(rfl)
@[simp] theorem LU{fl:Fl}:p9 (.ok fl Γ)=(bG (.ok fl Γ)).map .ok:=(rfl)
end
end Dv
namespace L2
open PySem PySem.Spec PyProof.Rows Ex
section
variable{X:Cx}
theorem gC:aS X (.builtin "repr") (fun xs H Q=>∃ x:Str,xs=[.str x]/\(reprText x).length<=sizeLine/\Q (.str (reprText x)) H):=by
 intro pins s σ H xs us Q I r h
 obtain⟨x,rfl,hx,q⟩:=h
 obtain⟨u,rfl,ru⟩:=r.one
 obtain⟨t,rfl⟩:=ru
 exact PySem.P.repr_of_str ⟨.str (reprText x),H,I.kept (fun _ _ e=>e),⟨_,rfl⟩,q⟩ hx
end
end L2
namespace Dv
open PySem L2 Ex
variable[KC]
section
variable{X:Cx}{EE:a9}{ios:List Addr}{a b:Expr}{es:List Expr}{f g:M RV}{fs:M (List RV)}{pos:Pos}
theorem aM.zE{R H R1 H1:Hp}{σ:St}{Γ ah:En}(er:ER ios R H σ Γ)(p:aM ios R H σ Γ R1 H1 ah){c:Addr}{xs xs':List V}(h0:H c=none)(r1:R1 c=none)(h1:H1 c=some (.lst xs)):aM ios R H σ Γ R1 (upd H1 c (.lst xs')) ah:=by
 have nO : ¬ Ow σ ah c:=fun z=>by
  obtain⟨_,ys,e⟩:=er.ow (p.sh c z)
  rw[h0] at e;cases e
 have st:∀ {v:V} {d:D} {i:Nat} {k:Kd},ah[i]? = some (some (k,d))->owned k=true->σ[i]? = some (some v)->OwR R1 H1 v d->OwR R1 (upd H1 c (.lst xs')) v d:=by
  rintro v d i k hi hk hv ⟨b,ys,ds,rfl,h2,h3,h4,h5⟩
  have ne:b≠c:=fun z=>by subst z;exact nO ⟨i,k,d,hi,hk,hv⟩
  exact⟨b,ys,ds,rfl,h2,by rw[aV ne];exact h3,h4,h5⟩
 refine⟨⟨fun b o hb=>?_,p.er.len,fun i s hs=>?_,p.er.dj⟩,⟨p.go.rr,fun b o hb hn=>?_,p.go.no,p.go.oo,fun b o hb=>?_⟩,p.sh⟩
 · have ne:b≠c:=fun z=>by subst z;rw[r1] at hb;cases hb
   rw[aV ne]
   exact p.er.sub b o hb
 · obtain⟨v,hv,sr⟩:=p.er.sl i s hs
   refine⟨v,hv,?_⟩
   obtain⟨k,d⟩:=s
   cases k with
   |ak=>exact sr
   |own=>exact st hs rfl hv sr
   |io n=>exact⟨st hs rfl hv sr.1,sr.2⟩
 · have ne:b≠c:=fun z=>by subst z;rw[h0] at hb;cases hb
   rw[aV ne]
   exact p.go.hh b o hb hn
 · have ne:b≠c:=fun z=>by subst z;rw[h0] at hb;cases hb
   rw[aV ne]
   exact p.go.th b o hb
def r_(f:M RV)(g:List D->List D->Option (List D×D))(fs:M (List RV)):M RV:=M.bind f fun rv=>match rv with
 | .new (.lst ds)=>M.bind fs fun rvs=>M.bind (b7 rvs) fun es=>match g ds es with
   |some (_,res)=>M.pure (.val res)
   |none=>M.st
 | _=>M.st
theorem LV{r:V->List V->Hp->VK->Prop}{g:List D->List D->Option (List D×D)}{e0:Expr}(hp:∀ to t,PE X a to->PA X es t->PE X e0 (xm X.K "list" r to t))(hv:rC r g)(ho:VE X EE ios a f)(ha:VA X EE ios es fs):VE X EE ios e0 (r_ f g fs):=by
 obtain⟨to,o1,o2⟩:=ho
 obtain⟨t,h1,h2⟩:=ha
 refine⟨_,hp to t o1 h1,fun σ H R Γ Q er w=>?_⟩
 unfold r_ at w
 rw[ZY] at w
 refine o2 σ H R Γ _ er (aT w (fun rv ah w x H1 R1 p1 hx=>?_) fun _ _ z=>z)
 split at w
 · rename_i bq
   obtain⟨⟨c,xs,ds,rfl,c1,c2,c3,c4⟩,c',e',c5⟩:=hx
   cases e'
   cases c3
   refine⟨yk c2,?_⟩
   rw[ZY] at w
   refine h2 σ H1 R1 ah _ p1.er (aT w (fun rvs au w ys H2 R2 p2 hy=>?_) fun _ _ z=>eh.trans p1 z)
   rw[ZY] at w
   obtain⟨es',me,R3,p3,s3,r3,w⟩:=ji p1.er p2 hy w
   have nO : ¬ Ow σ ah c:=fun z=>by
    obtain⟨_,zs,e⟩:=er.ow (p1.sh c z)
    rw[c5] at e;cases e
   have k1:=p3.go.hh c _ c2 nO
   have k2:=p3.go.no c _ c2 nO c1
   cases hg:g bq es' with
   |none=>rw[hg] at w;exact False.elim w
   |some q =>
     obtain⟨ds',res⟩:=q
     rw[hg] at w
     refine hv R3 H2 c xs bq ys es' ds' res Q p3.er.sub k2 k1 (aB.sm p3.go.rr c4) r3 hg fun xs' z hx' hz=>?_
     exact w z _ R3 (aM.zE er (p1.trans p3) c5 k2 k1) hz
 · exact False.elim w
end
end Dv
namespace L2
open PySem PySem.Spec PyProof.Rows Ex
section
variable{X:Cx}
theorem Inv.drawn{pins:List (Addr×Obj)}{σ:List (Option V)}{H:Hp}{s:Shared}(I:Inv X pins σ H s)(d:Drawn):Inv X pins σ H { s with drawn:=d }:=⟨I.ok,I.os,I.bare,I.base,I.loc,I.cell,I.free,I.bj,I.pin,I.hok,I.len⟩
theorem gD:aS X (.builtin "repr") (fun xs H Q=>∃ b:Bool,xs=[.bl b]/\Q (.str (if b then "True" else "False")) H):=by
 intro pins s σ H xs us Q I r h
 obtain⟨b,rfl,q⟩:=h
 obtain⟨u,rfl,ru⟩:=r.one
 cases ru
 exact PySem.P.repr_of_bool ⟨.str _,H,I.kept (fun _ _ e=>e),⟨_,rfl⟩,q⟩
end
end L2
namespace Ex
open PySem PySem.Spec PyProof.Rows
theorem LW(el tg src:Expr)(ifs:List Expr)(sc:Scope)(pos:Pos)(it acc:Value)(env:Env):compTurn (.SetComp el [⟨tg,src,ifs,0⟩] sc pos) 0 it acc env=(do
 standAt src.pos
 match <- pyNext it with
 |none=>pure (.done .next)
 |some v =>
   letOwnedTupleGo tg it v
   assign tg env v
   let mut ok:=true
   for c in ifs do
    if ok then ok <- isTrue c env (eval c env)
   if ok then (do let v <- eval el env;standAt el.pos;let _ <- call (.builtin "set.add") [acc,v])
   again (.compLoop (.SetComp el [⟨tg,src,ifs,0⟩] sc pos) 0 it acc env)):=rfl
abbrev LX(M:Model)(A:Around)(env:Env)(tg:Expr)(it:Value)(ifs:List Expr)(el:Expr)(acc:Value)(N:Value->Shared->Prop)(next:Shared->Prop)(v:Value)(s:Shared):Prop :=
 wpAny M A (letOwnedTupleGo tg it v) (fun _ a=>wpAny M A (assign tg env v) (fun _ b =>
  wpAny M A (forIn ifs true fun c r=>if r=true then do let ok <- isTrue c env (eval c env);pure (ForInStep.yield ok) else pure (ForInStep.yield r)) (fun yes c =>
   if yes=true then wpAny M A (eval el env) (fun y d=>wpAny M A (standAt el.pos) (fun _ d'=>wpAny M A (call (.builtin "set.add") [acc,y]) (fun _=>next) N d') N d) N c else next c) N b) N a) N s
theorem LY{prog:Program}{w:World}{A:Around}{R:Result->Shared->Prop}{s:Shared}{el tg src:Expr}{ifs:List Expr}{sc:Scope}{pos:Pos}{it acc:Value}{env:Env}(J:Nat->Shared->Prop)(n:Nat)(start:J n s)
 (turn:∀ n s,J n s->wpAny (model prog w) A (pyNext it) (fun r a=>match r with
  |none=>R (.ok .next) a
  |some v=>LX (model prog w) A env tg it ifs el acc (notedBy (model prog w) A env fun x=>R (.error x)) (fun b=>∃ m,m<n/\J m b) v a) (notedBy (model prog w) A env fun x=>R (.error x)) s) :
 codeAny (model prog w) A (.compLoop (.SetComp el [⟨tg,src,ifs,0⟩] sc pos) 0 it acc env) R s:=by
 apply codeAny_loop rfl J _ n start
 intro n s j
 change wpAny _ A (Sem.onRaise (compTurn (.SetComp el [⟨tg,src,ifs,0⟩] sc pos) 0 it acc env) fun x=>do noteFrame x env;theTreesLotGoes x) _ _ s
 apply wpAny_noted;rw[LW]
 apply wpAny_bind;apply wpAny_standAt;apply wpAny_bind;apply wpAny_mono (turn n s j) _ fun _ _ z=>z
 intro r a k
 cases r with
 |none=>exact wpAny_pure k
 |some v =>
   apply wpAny_bind;apply wpAny_mono k _ fun _ _ z=>z;intro _ b k
   apply wpAny_bind;apply wpAny_mono k _ fun _ _ z=>z;intro _ c k
   apply wpAny_bind;apply wpAny_mono k _ fun _ _ z=>z;intro yes d k
   cases yes
   · exact wpAny_pure (And.intro rfl k)
   · apply wpAny_bind;apply wpAny_bind;apply wpAny_mono k _ fun _ _ z=>z;intro y e k
     apply wpAny_bind;apply wpAny_mono k _ fun _ _ z=>z;intro _ e' k
     apply wpAny_bind;apply wpAny_mono k _ fun _ _ z=>z;intro _ f k
     exact wpAny_pure (wpAny_pure (And.intro rfl k))
theorem LZ{prog:Program}{w:World}{A:Around}{R:Result->Shared->Prop}{s:Shared}{el tg src:Expr}{ifs:List Expr}{sc:Scope}{pos:Pos}{it acc:Value}{env:Env}(h0:codeAny (model prog w) A (.compLoop (.SetComp el [⟨tg,src,ifs,0⟩] sc pos) 0 it acc env) R s)
 (h:wpAny (model prog w) A (pyIter it) (fun it' s'=>codeAny (model prog w) A (.compLoop (.SetComp el [⟨tg,src,ifs,0⟩] sc pos) 0 it' acc env) R s') (notedBy (model prog w) A env fun x s'=>R (.error x) s') s) :
 codeAny (model prog w) A (.compStart (.SetComp el [⟨tg,src,ifs,0⟩] sc pos) 0 it acc env) R s:=by
 refine codeAny_of_tree (show wpAny _ _ ((compStart (.SetComp el [⟨tg,src,ifs,0⟩] sc pos) 0 it acc env).onRaise (fun x=>do noteFrame x env;standAt theWindowsPlace)) _ _ s from wpAny_notedAt ?_)
 unfold compStart
 refine(show wpAny _ _ (ask >>= _) _ _ s from wpAny_bind (wpAny_askSetting (wpAny_ite ?_)))
 split
 · first
    |exact wpAny_bind (wpAny_pure (wpAny_pure (And.intro rfl h0)))
    |exact wpAny_pure (And.intro rfl h0)
 · refine wpAny_bind ?_
   refine wpAny_rule (show wpAny _ _ (standAt src.pos >>= _) _ _ s from wpAny_bind (wpAny_standAt (wpAny_bind ?_)))
   exact wpAny_mono h (fun it' s' q=>wpAny_pure (And.intro rfl q)) fun _ _ z=>z
theorem L0{prog:Program}{w:World}{A:Around}{E:Value->Shared->Prop}{s:Shared}{Q:Value->Shared->Prop}(h:Q (.ref s.heap.objs.size) { s with heap:=s.heap.push (St.bh #[] 0 (.fresh 0 0 (!(w.params.followText "set-order")))) }):wpAny (model prog w) A (newSet (.type "set")) Q E s:=by
 unfold newSet setsByText
 refine  wpAny_bind (wpAny_bind ?_)
 refine  wpAny_askSetting (wpAny_pure ?_)
 dsimp only
 simp only[newObj]
 exact wpAny_bind (wpAny_alloc (wpAny_pure h))
end Ex
namespace L2
open PySem PySem.Spec PyProof.Rows Ex St
section
variable{X:Cx}{pins:List (Addr×Obj)}{σ:List (Option V)}{H:Hp}{s:Shared}
def nO(X:Cx):Obj:=bh #[] 0 (.fresh 0 0 (!(X.w.params.followText "set-order")))
def sf(X:Cx)(D:Addr)(zs:List Z):HO:=.ext fun h=>bP (X.w.params.followText "set-order") h D zs
theorem L1{H:Hp}{h:Heap}{D:Addr}{zs:List Z}(S:bP (X.w.params.followText "set-order") h D zs):aD X.prog X.w H h D (sf X D zs):=⟨S,(let ⟨_,_,_,e,_⟩:=S; ⟨_,e⟩),fun h1 h2 x y=>x.at y⟩
theorem vt{P:Program}{w:World}{H:Hp}{h:Heap}{p:Addr}{c:Int×Int}(ok:b6 P w H h)(e:H p=some (.tup [.int c.1,.int c.2])):bO h c p:=by
 obtain⟨_,its,rv,o,g,cl,n,d⟩:=ok p _ e
 cases rv with
 |cons r1 rv =>
   cases rv with
   |cons r2 rv =>
     cases rv
     obtain⟨t,rfl⟩:=r1
     obtain⟨u,rfl⟩:=r2
     exact⟨o,_,n,t,u,g,cl,d,rfl⟩
structure SK(X:Cx)(β:Type) where
 F:Addr->β->Heap->Prop
 e0:β
 AD:β->V->Hp->(β->Prop)->Prop
 nw:∀ (D:Addr) (h:Heap),h.get? D=some (nO X)->F D e0 h
 st:∀ (D:Addr) (b:β) (h1 h2:Heap),F D b h1->(∀ o,h1.get? D=some o->h2.get? D=some o)->F D b h2
 ob:∀ (D:Addr) (b:β) (h:Heap),F D b h->∃ o,h.get? D=some o
 add:∀ (D:Addr) (b:β) (y:V) (v:Value) (H:Hp) (s:Shared) (P:β->Prop) (Q:Value->Shared->Prop) (E:Value->Shared->Prop),b6 X.prog X.w H s.heap->RelV y v->F D b s.heap->AD b y H P ->
  (∀ h' tk b',Heap.SameBut D s.heap h'->F D b' h'->P b'->Q .none { s with heap:=h',toks:=tk })->wpAny (model X.prog X.w) X.A (call (.builtin "set.add") [.ref D,v]) Q E s
abbrev SK.O{β:Type}(S:SK X β)(D:Addr)(b:β):HO:=.ext (S.F D b)
theorem SK.ok{β:Type}(S:SK X β){H:Hp}{h:Heap}{D:Addr}{b:β}(z:S.F D b h):aD X.prog X.w H h D (S.O D b):=⟨z,S.ob D b h z,fun h1 h2 x y=>S.st D b h1 h2 x y⟩
def zF{β:Type}(S:SK X β)(fr:List Nat)(own:Nat)(wi:TI)(g:TG)(tc:TT)(te:TE):TE:=fun σ H Q=>wi σ H fun J H1=>∀ D,H1 D=none->∃ W:Nat->Nat->β->Hp->Prop,(∃ m,W 0 m S.e0 (upd H1 D (S.O D S.e0))) /\
 ∀ i m ys H2,H2 D=some (S.O D ys)->W i m ys H2->(J.stop i H2/\Q (.ref D) H2)\/(J.go i H2/\∀ x H3,J.nh i H2 x H3->g x (aj fr own σ) H3 fun c9 H4=>tc c9 H4 fun b H5 =>
  if b=true then te c9 H5 fun y H6=>H6 D=some (S.O D ys)/\S.AD ys y H6 fun ys'=>∃ m',m'<m/\W (i+1) m' ys' (upd H6 D (S.O D ys')) else H5 D=some (S.O D ys)/\∃ m',m'<m/\W (i+1) m' ys H5)
theorem L3{elt tg iter:Expr}{ifs:List Expr}{scope:Scope}{pos n_:Pos}{Nc:List Str}{own:Nat}{fr:List Nat}{wi:TI}{g:TG}{tc:TT}{te:TE}{use:Option (Value->Sem Unit)}{QQ:Value->Shared->Prop}{Q:VK}{β:Type}(S:SK X β)(hc:X.calm=true)(B:e_ X scope Nc own fr)(hi:PI X tg iter wi)(hog:k9 own g)
 (hg:∀ cl C s3 H3 fp pn',PG (X.blk Nc scope cl C s3 H3 fp pn' fun _ _=>False) tg g) (ht:∀ cl C s3 H3 fp pn',n9 (X.blk Nc scope cl C s3 H3 fp pn' fun _ _=>False) ifs tc) (he:∀ cl C s3 H3 fp pn',PE (X.blk Nc scope cl C s3 H3 fp pn' fun _ _=>False) elt te)
 (hs:∀ x,foldedSetIterable iter X.env x=pure x) (I:Inv X pins σ H s) (h:zF S fr own wi g tc te σ H Q)
 (fin:∀ (D C:Addr) (H3:Hp) (s4:Shared),(∃ m,s4.heap.Ns C m)->g9 X pins H3 C->(∀ h',Heap.SameBut C s4.heap h'->Inv X pins σ H3 { s4 with heap:=h' })->Q (.ref D) H3->compPost (model X.prog X.w) X.A X.xe use QQ (.ref D) C (.ok .next) s4) :
 wpAny (model X.prog X.w) X.A (comprehension (.SetComp elt [⟨tg,iter,ifs,0⟩] scope pos) scope X.env n_ (newSet (.type "set")) false (eval iter X.env) use) QQ X.xe s:=by
 obtain⟨cl,ir⟩:=C9 (env:=X.env) (scope:=scope) fun x hx=>I.ok.has x (B.frees x hx)
 apply wpAny_comprehension_free rfl hs ir.clos B.kind B.names
 apply wpAny_mono (hi pins s σ H _ I h) _ fun _ _ e=>e
 intro xv s1 h1
 apply wpAny_mono h1 _ fun _ _ e=>e
 intro itv s2 h2
 obtain⟨it,fp,tn,J,H2,rfl,I2,T,st2,f2,q⟩:=h2
 refine L0 (wpAny_newFunctionEnv B.fS (by intro y hy;simp at hy) (fun h₁ iu iw=>?_) B.kind)
 have hD:H2 s2.heap.objs.size=none:=I2.hok.fresh (Nat.le_refl _)
 obtain⟨W,⟨m0,w0⟩,turn⟩:=q s2.heap.objs.size hD
 have I3:Inv X pins σ (upd H2 s2.heap.objs.size (S.O s2.heap.objs.size S.e0)) { s2 with heap:=s2.heap.push (nO X) } :=
  I2.laid (t':=s2.toks) (fun b u e=>Heap.get?_push_of_some _ e) (Nat.le_refl _) (S.ok (S.nw _ _ (Heap.get?_push_size _ rfl)))
 have og:∀ b∈fp,b≠s2.heap.objs.size:=fun b hb=>let ⟨o,e,_⟩:=T.obj _ _ st2 b hb;Nat.ne_of_lt (Heap.lt_size e)
 have f3:∀ b∈fp,g9 X pins (upd H2 s2.heap.objs.size (S.O s2.heap.objs.size S.e0)) b:=fun b hb=>⟨by rw[aV (og b hb)];exact(f2 b hb).1,(f2 b hb).2⟩
 have keep:∀ b o,(s2.heap.push (nO X)).get? b=some o->h₁.get? b=some o:=fun b o e =>
  (iw.2 b (Nat.ne_of_lt (Heap.lt_size e))).trans (Heap.get?_push_of_some _ e)
 have IY:=I3.block (h₁:=h₁) (t':=s2.toks+([]:List (Str×Value)).length) (E':=fun _ _=>False) B ir (fun b hb=>⟨f3 b hb,let ⟨o,e,_⟩:=T.obj _ _ st2 b hb; ⟨o,Heap.get?_push_of_some _ e⟩⟩) iu keep
 have st1:tn 0 h₁:=T.keep _ _ _ st2 fun b hb o e=>keep b o (Heap.get?_push_of_some _ e)
 have fY:∀ {H':Hp},(∀ b∈fp,H' b=none)->∀ b∈fp,g9 (X.blk Nc scope cl (s2.heap.push (nO X)).objs.size { s2 with heap:=s2.heap.push (nO X) } (upd H2 s2.heap.objs.size (S.O s2.heap.objs.size S.e0)) fp (X.pn++pins) fun _ _=>False) [] H' b:=fun hn b hb =>
  ⟨hn b hb,(IY.ok.kX b hb).1,IY.ok.eV b hb,.inl hb,(IY.ok.kX b hb).2,fun p hp=>(f2 b hb).2.2.2.2.2 p (by simpa using hp)⟩
 have loop:codeAny (model X.prog X.w) X.A (.compLoop (.SetComp elt [⟨tg,iter,ifs,0⟩] scope pos) 0 (.ref it) (.ref s2.heap.objs.size) (compEnvC scope cl (s2.heap.push (nO X)).objs.size X.env))
  (compPost (model X.prog X.w) X.A X.xe use QQ (.ref s2.heap.objs.size) (s2.heap.push (nO X)).objs.size) { s2 with heap:=h₁,toks:=s2.toks+([]:List (Str×Value)).length }:=by
  refine LY (fun n s'=>∃ i ys H',Inv (X.blk Nc scope cl (s2.heap.push (nO X)).objs.size { s2 with heap:=s2.heap.push (nO X) } (upd H2 s2.heap.objs.size (S.O s2.heap.objs.size S.e0)) fp (X.pn++pins) fun _ _=>False) [] (aj fr own σ) H' s'/\tn i s'.heap/\(∀ b∈fp,H' b=none)/\H' s2.heap.objs.size=some (S.O s2.heap.objs.size ys)/\W i n ys H')
   m0 ⟨0,S.e0,_,IY,st1,fun b hb=>(f3 b hb).1,cN,w0⟩ ?_
  rintro n s3 ⟨i,ys,H3,J3,st3,ni,e3,w3⟩
  rcases turn i n ys H3 e3 w3 with ⟨stop,qn⟩ | ⟨go,step⟩
  · refine aL (T.done (X.blk Nc scope cl (s2.heap.push (nO X)).objs.size { s2 with heap:=s2.heap.push (nO X) } (upd H2 s2.heap.objs.size (S.O s2.heap.objs.size S.e0)) fp (X.pn++pins) fun _ _=>False) rfl rfl rfl hc i [] s3 _ H3 _ J3 (fY ni) st3 stop) fun r s4 ⟨hr,J4⟩=>?_
    subst hr
    obtain⟨m,hn,_⟩:=J4.loc
    exact fin _ _ H3 s4 ⟨m,hn⟩ (I3.ij (Nat.le_refl _) J4.free) (fun h' sb=>I3.iW f3 J4 sb) qn
  · refine aL (T.item (X.blk Nc scope cl (s2.heap.push (nO X)).objs.size { s2 with heap:=s2.heap.push (nO X) } (upd H2 s2.heap.objs.size (S.O s2.heap.objs.size S.e0)) fp (X.pn++pins) fun _ _=>False) rfl rfl rfl hc i [] s3 _ H3 _ J3 (fY ni) st3 go) fun r s4 ⟨u,hr,h4⟩=>?_
    subst hr
    refine aL h4 fun _ s5 ⟨x,H5,J5,r5,y5,eO,qK⟩=>?_
    have xN:=J5.pinned (fY qK) (T.obj _ _ eO)
    have lift:∀ {α:Type} {m:Sem α} {Q':α->Shared->Prop} {E':Value->Shared->Prop} {s':Shared},wpAny (model X.prog X.w) X.A m Q' (fun _ _=>False) s'->wpAny (model X.prog X.w) X.A m Q' E' s':=fun h=>wpAny_mono h (fun _ _ z=>z) fun _ _ z=>z.elim
    refine lift (aL (hg _ _ _ _ _ _ _ s5 _ H5 x u _ xN r5 (hog _ _ _ _ (step x H5 y5))) fun _ s6 ⟨eg,H6,J6,q6,oh⟩=>?_)
    refine lift (aL (ht _ _ _ _ _ _ _ s6 eg H6 _ J6 q6) fun b s7 ⟨H7,J7,q7⟩=>?_)
    have back:∀ {H8:Hp} {s8:Shared} {ys':β} {m':Nat},Inv (X.blk Nc scope cl (s2.heap.push (nO X)).objs.size { s2 with heap:=s2.heap.push (nO X) } (upd H2 s2.heap.objs.size (S.O s2.heap.objs.size S.e0)) fp (X.pn++pins) fun _ _=>False) ([]++pB fp s5.heap) eg H8 s8->H8 s2.heap.objs.size=some (S.O s2.heap.objs.size ys')->m'<n->W (i+1) m' ys' H8 ->
     ∃ m,m<n/\∃ i ys H',Inv (X.blk Nc scope cl (s2.heap.push (nO X)).objs.size { s2 with heap:=s2.heap.push (nO X) } (upd H2 s2.heap.objs.size (S.O s2.heap.objs.size S.e0)) fp (X.pn++pins) fun _ _=>False) [] (aj fr own σ) H' s8/\tn i s8.heap/\(∀ b∈fp,H' b=none)/\H' s2.heap.objs.size=some (S.O s2.heap.objs.size ys)/\W i m ys H':=fun {H8 s8 ys' m'} J8 e8 hm w8=>by
     refine⟨m',hm,i+1,ys',H8,?_,T.keep _ _ _ eO fun b hb o e=>(J8.pin (b,o) (List.mem_append_right _ (List.mem_append_right _ (pC hb e)))).1,fun b hb=>?_,e8,w8⟩
     · refine(Inv.cc (pins:=[]) J8).weak ?_ fun j v' z=>?_
       · rw[IY.len];exact J8.len.symm
       · by_cases hj:j<own
         · unfold aj at z
           rw[List.getElem?_append_left (by simpa using hj),List.getElem?_replicate,if_pos hj] at z
           cases z
         · rw[oh j (Nat.le_of_not_lt hj)];exact z
     · obtain⟨o,e,d⟩:=T.obj _ _ eO b hb
       exact(J8.pin (b,o) (List.mem_append_right _ (List.mem_append_right _ (pC hb e)))).2.1
    cases b with
    |false =>
      obtain⟨e7,m',hm,w7⟩:=(show H7 s2.heap.objs.size=some (S.O s2.heap.objs.size ys)/\∃ m',m'<n/\W (i+1) m' ys H7 from by simpa using q7)
      exact back J7 e7 hm w7
    |true =>
      have xO:te eg H7 fun y H6=>H6 s2.heap.objs.size=some (S.O s2.heap.objs.size ys)/\S.AD ys y H6 fun ys'=>∃ m',m'<n/\W (i+1) m' ys' (upd H6 s2.heap.objs.size (S.O s2.heap.objs.size ys')):=by simpa using q7
      refine lift (aL (he _ _ _ _ _ _ _ s7 eg H7 _ J7 xO) fun v s8 ⟨y,H8,J8,r8,e8,w8⟩=>?_)
      obtain⟨S8,_⟩:=J8.hok _ _ e8
      refine lift (wpAny_standAt (S.add _ ys y v H8 _ _ _ _ J8.hok r8 S8 w8 fun h' tk ys' sb S' hy=>?_))
      obtain⟨m',hm,w9⟩:=hy
      have J9:=J8.write (t':=tk) (o:=S.O s2.heap.objs.size ys') (by rw[e8];trivial) (.inl rfl) (fun b u hb e=>(sb.2 b hb).trans e) (S.ob _ _ _ S') (S.ok S')
      exact back J9 cN hm w9
 exact LZ loop (T.self _ _ _ _ _ st1 loop)
theorem L4{elt tg iter:Expr}{ifs:List Expr}{scope:Scope}{pos:Pos}{Nc:List Str}{own:Nat}{fr:List Nat}{wi:TI}{g:TG}{tc:TT}{te:TE}{β:Type}(S:SK X β)(hc:X.calm=true)(B:e_ X scope Nc own fr)(hi:PI X tg iter wi)(hog:k9 own g)
 (hg:∀ cl C s3 H3 fp pn',PG (X.blk Nc scope cl C s3 H3 fp pn' fun _ _=>False) tg g) (ht:∀ cl C s3 H3 fp pn',n9 (X.blk Nc scope cl C s3 H3 fp pn' fun _ _=>False) ifs tc) (he:∀ cl C s3 H3 fp pn',PE (X.blk Nc scope cl C s3 H3 fp pn' fun _ _=>False) elt te)
 (hs:∀ x,foldedSetIterable iter X.env x=pure x:=by intro _;rfl):PE X (.SetComp elt [⟨tg,iter,ifs,0⟩] scope pos) (zF S fr own wi g tc te):=by
 intro pins s σ H Q I h
 show wpAny _ _ (comprehension (.SetComp elt [⟨tg,iter,ifs,0⟩] scope pos) scope X.env _ (newSet (.type "set")) false (eval iter X.env)) _ _ _
 exact L3 (QQ:=EP X pins σ Q) S hc B hi hog hg ht he hs I h fun L C H3 s4 hn f q8 q=>let ⟨m,hm⟩:=hn; ⟨m,hm,fun h' sb=>⟨.ref L,H3,q8 h' sb,rfl,q⟩⟩
def vv(hu:X.A.units+1<cLine):SK X (List Z) where
 F:=fun D zs h=>bP (X.w.params.followText "set-order") h D zs
 e0:=[]
 AD:=fun ys y H P=>ys.length<300/\∃ (p:Addr) (c:Int×Int),y = .ref p/\H p=some (.tup [.int c.1,.int c.2])/\cq c/\(∀ z∈ys,H z.2=some (.tup [.int z.1.1,.int z.1.2]))/\∀ ys',((ys'=ys/\c∈ys.map (·.1))\/(ys'.Perm ((c,p)::ys)/\c ∉ ys.map (·.1)))->P ys'
 nw:=fun D h e=>bP.fresh _ e
 st:=fun D b h1 h2 x y=>x.at y
 ob:=fun D b h z=>let ⟨_,_,_,e,_⟩:=z; ⟨_,e⟩
 add:=fun D b y v H s P Q E ok r S ad q=>by
  obtain⟨hl,p,c,rfl,hp,sm,tz,k⟩:=ad
  cases r
  exact Ht hu S (fun z hz=>vt ok (tz z hz)) (vt ok hp) sm hl fun h' tk ys' sb S' hy=>q h' tk ys' sb S' (k ys' hy)
end
end L2
namespace Ti
open PySem PyProof.Rows
def qa:Bool->Keyed->Array Keyed->Nat->Nat->Nat->StateT SortSt Sem (Option Nat):=sortPriv% PySem.Builtin.gallop
def EM:Array Keyed->Array Keyed->StateT SortSt Sem (Array Keyed):=sortPriv% PySem.Builtin.mergeLo
def EO:Array Keyed->Array Keyed->StateT SortSt Sem (Array Keyed):=sortPriv% PySem.Builtin.mergeHi
section
variable{M:Model}{A:Around}{E:Value->Shared->Prop}{s:Shared}{κ:SortKind}{φ:Keyed->Int}{El:Keyed->Prop}
def jr(M:Model)(A:Around)(E:Value->Shared->Prop)(s:Shared)(κ:SortKind)(φ:Keyed->Int)(El:Keyed->Prop):Prop:=∀ x y st (Q:Option Bool->SortSt->Prop),El x->El y->kindOf st=κ->Q (some (decide (φ x<φ y))) st->wpS M A E s (lt' x y) Q st
theorem eB{arr:Array Keyed}{i:Nat}{x:Keyed}{Q:Keyed->SortSt->Prop}{st:SortSt}(h:arr[i]? = some x)(q:Q x st):wpS M A E s (elem' arr i) Q st:=by
 rw[elem'_eq,h]
 exact wpS_pure q
structure Cut(p:Nat->Bool)(n k:Nat):Prop where
 le:k<=n
 lo:∀ i,i<k->p i=true
 hi:∀ i,k<=i->i<n->p i=false
def L5(p:Nat->Bool)(n:Nat):Prop:=∀ i j,i<=j->j<n->p j=true->p i=true
theorem qb(C:jr M A E s κ φ El){left:Bool}{key:Keyed}{arr:Array Keyed}{b n hint:Nat}{p:Nat->Bool}{Q:Option Nat->SortSt->Prop}{st:SortSt}(hk:kindOf st=κ)(ek:El key)
 (hp:∀ i,i<n->∃ x,arr[b+i]? = some x/\El x/\p i=if left=true then decide (φ x<φ key) else !decide (φ key<φ x)) (mo:L5 p n) (hh:hint<n) (q:∀ k,Cut p n k->Q (some k) st):wpS M A E s (qa left key arr b n hint) Q st:=by
 have vw:∀ (i:Nat) (R:Option Bool->SortSt->Prop),i<n->R (some (p i)) st->wpS M A E s (do
  let x <- elem' arr (b+i)
  if left=true then lt' x key else do
   let y <- lt' key x
   pure (y.map (!·))) R st:=fun i R hi r=>by
  obtain⟨x,hx,ex,e⟩:=hp i hi
  refine wpS_bind (eB hx ?_)
  cases left with
  |true =>
    rw[if_pos rfl] at e ⊢
    refine C x key st _ ex ek hk ?_
    rw[<- e]
    exact r
  |false =>
    rw[if_neg (by simp)] at e ⊢
    refine wpS_bind (C key x st _ ek ex hk (wpS_pure ?_))
    show R (some (!decide (φ key<φ x))) st
    rw[<- e]
    exact r
 have fin:∀ (lo hi:Nat) (R:Option Nat->SortSt->Prop) (g:Option (Option Nat)×Nat×Nat->StateT SortSt Sem (Option Nat)),(∀ lo hi R,R (some hi) st->wpS M A E s (g (none,lo,hi)) R st)->lo<=hi->hi<=n->(∀ i,i<lo->p i=true)->(∀ i,hi<=i->i<n->p i=false)->(∀ k,Cut p n k->R (some k) st)->wpS M A E s (do
  let t <- forIn [0:n] ((none,lo,hi):Option (Option Nat)×Nat×Nat) fun _ t =>
   if t.2.1 ≥ t.2.2 then pure (.done (none,t.2.1,t.2.2)) else do
    let y <- (do
     let x <- elem' arr (b+(t.2.1+(t.2.2 - t.2.1) / 2))
     if left=true then lt' x key else do
      let y <- lt' key x
      pure (y.map (!·)))
    match y with
    |some more=>if more=true then pure (.yield (none,t.2.1+(t.2.2 - t.2.1) / 2+1,t.2.2)) else pure (.yield (none,t.2.1,t.2.1+(t.2.2 - t.2.1) / 2))
    |x=>pure (.done (some none,t.2.1,t.2.2))
  g t) R st:=by
  intro lo hi R g hg h1 h2 h3 h4 r
  refine wpS_bind (wpS_forRange (I:=fun i t st'=>st'=st/\∃ lo hi,t=(none,lo,hi)/\lo<=hi/\hi<=n/\hi - lo<=n - i/\(∀ i,i<lo->p i=true)/\(∀ i,hi<=i->i<n->p i=false)) ?_ ?_ ⟨rfl,lo,hi,rfl,h1,h2,by omega,h3,h4⟩)
  · rintro i t st' _ hi' ⟨rfl,lo,hi,rfl,h1,h2,h5,h3,h4⟩
    dsimp only
    by_cases c:lo ≥ hi
    · rw[if_pos c]
      exact wpS_pure (hg _ _ _ (r hi ⟨h2,fun i z=>h3 i (by omega),h4⟩))
    · rw[if_neg c]
      refine wpS_bind (vw _ _ (by omega) ?_)
      dsimp only
      cases e:p (lo+(hi - lo) / 2) with
      |true =>
        rw[if_pos rfl]
        exact wpS_pure ⟨rfl,_,hi,rfl,by omega,h2,by omega,fun i z=>mo i _ (by omega) (by omega) e,h4⟩
      |false =>
        rw[if_neg (by simp)]
        refine wpS_pure ⟨rfl,lo,_,rfl,by omega,by omega,by omega,h3,fun i z z'=>?_⟩
        cases e':p i with
        |false=>rfl
        |true=>rw[mo _ i z z' e'] at e;cases e
  · rintro t st' ⟨rfl,lo,hi,rfl,h1,h2,h5,h3,h4⟩
    have:lo=hi:=by omega
    subst this
    exact hg _ _ _ (r lo ⟨h2,h3,h4⟩)
 unfold qa
 refine wpS_bind (vw hint _ hh ?_)
 dsimp only
 cases e0:p hint with
 |true =>
   rw[if_pos rfl]
   refine wpS_bind (wpS_forRange (I:=fun i t st'=>st'=st/\∃ la of,t=(none,la,of)/\la<of/\i+1<=of/\(la=0\/p (hint+la)=true)/\hint+la<n) ?_ ?_ ⟨rfl,0,1,rfl,by omega,by omega,.inl rfl,by omega⟩)
   · rintro i t st' _ hi' ⟨rfl,la,of,rfl,h1,h2,h3,h4⟩
     dsimp only
     have lo':∀ i,i<hint+la+1->p i=true:=fun i z=>by
      rcases h3 with rfl | h3
      · exact mo i hint (by omega) hh e0
      · exact mo i _ (by omega) h4 h3
     by_cases c:of ≥ n - hint
     · rw[if_pos c]
       refine wpS_pure ?_
       dsimp only
       exact fin (hint+la+1) (hint+min of (n - hint)) Q _ (fun _ _ _ r=>wpS_pure r) (by omega) (by omega) lo' (fun i z z'=>by omega) q
     · rw[if_neg c]
       refine wpS_bind (vw _ _ (by omega) ?_)
       dsimp only
       cases e:p (hint+of) with
       |true =>
         rw[if_neg (by simp)]
         exact wpS_pure ⟨rfl,of,2 * of+1,rfl,by omega,by omega,.inr e,by omega⟩
       |false =>
         rw[if_pos (by simp)]
         refine wpS_pure ?_
         dsimp only
         refine fin (hint+la+1) (hint+min of (n - hint)) Q _ (fun _ _ _ r=>wpS_pure r) (by omega) (by omega) lo' (fun i z z'=>?_) q
         cases e':p i with
         |false=>rfl
         |true=>rw[mo (hint+of) i (by omega) z' e'] at e;cases e
   · rintro t st' ⟨rfl,la,of,rfl,h1,h2,h3,h4⟩
     have mx:max 0 n=n:=by omega
     rw[mx] at h2
     dsimp only
     refine fin (hint+la+1) (hint+min of (n - hint)) Q _ (fun _ _ _ r=>wpS_pure r) (by omega) (by omega) (fun i z=>?_) (fun i z z'=>by omega) q
     rcases h3 with rfl | h3
     · exact mo i hint (by omega) hh e0
     · exact mo i _ (by omega) h4 h3
 |false =>
   rw[if_neg (by simp)]
   have no:∀ j,p j=false->∀ i,j<=i->i<n->p i=false:=fun j ej i z z'=>by
    cases e':p i with
    |false=>rfl
    |true=>rw[mo j i z z' e'] at ej;cases ej
   refine wpS_bind (wpS_forRange (I:=fun i t st'=>st'=st/\∃ la of,t=(none,la,of)/\la<of/\i+1<=of/\p (hint - la)=false/\la<=hint) ?_ ?_ ⟨rfl,0,1,rfl,by omega,by omega,e0,by omega⟩)
   · rintro i t st' _ hi' ⟨rfl,la,of,rfl,h1,h2,h3,h4⟩
     dsimp only
     by_cases c:of ≥ hint+1
     · rw[if_pos c]
       refine wpS_pure ?_
       dsimp only
       exact fin (hint+1 - min of (hint+1)) (hint - la) Q _ (fun _ _ _ r=>wpS_pure r) (by omega) (by omega) (fun i z=>by omega) (no _ h3) q
     · rw[if_neg c]
       refine wpS_bind (vw _ _ (by omega) ?_)
       dsimp only
       cases e:p (hint - of) with
       |true =>
         rw[if_pos rfl]
         refine wpS_pure ?_
         dsimp only
         exact fin (hint+1 - min of (hint+1)) (hint - la) Q _ (fun _ _ _ r=>wpS_pure r) (by omega) (by omega) (fun i z=>mo i (hint - of) (by omega) (by omega) e) (no _ h3) q
       |false =>
         rw[if_neg (by simp)]
         exact wpS_pure ⟨rfl,of,2 * of+1,rfl,by omega,by omega,e,by omega⟩
   · rintro t st' ⟨rfl,la,of,rfl,h1,h2,h3,h4⟩
     have mx:max 0 n=n:=by omega
     rw[mx] at h2
     dsimp only
     exact fin (hint+1 - min of (hint+1)) (hint - la) Q _ (fun _ _ _ r=>wpS_pure r) (by omega) (by omega) (fun i z=>by omega) (no _ h3) q
end
section
variable{α:Type}{R:α->α->Prop}{base out ra rb xs:List α}
structure Mg(R:α->α->Prop)(base out ra rb:List α):Prop where
 pm:(out++ra++rb).Perm base
 so:out.Pairwise R
 sa:ra.Pairwise R
 sb:rb.Pairwise R
 oa:∀ x∈out,∀ y∈ra,R x y
 ob:∀ x∈out,∀ y∈rb,R x y
theorem Mg.a(h:Mg R base out (xs++ra) rb)(hx:∀ x∈xs,∀ y∈rb,R x y):Mg R base (out++xs) ra rb:=by
 obtain⟨s1,s2,s3⟩:=List.pairwise_append.mp h.sa
 refine⟨by simpa using h.pm,List.pairwise_append.mpr ⟨h.so,s1,fun x hx y hy=>h.oa x hx y (List.mem_append_left _ hy)⟩,s2,h.sb,fun x hx' y hy=>?_,fun x hx' y hy=>?_⟩
 · rcases List.mem_append.mp hx' with z | z
   · exact h.oa x z y (List.mem_append_right _ hy)
   · exact s3 x z y hy
 · rcases List.mem_append.mp hx' with z | z
   · exact h.ob x z y hy
   · exact hx x z y hy
theorem Mg.b(h:Mg R base out ra (xs++rb))(hx:∀ x∈xs,∀ y∈ra,R x y):Mg R base (out++xs) ra rb:=by
 obtain⟨s1,s2,s3⟩:=List.pairwise_append.mp h.sb
 refine⟨?_,List.pairwise_append.mpr ⟨h.so,s1,fun x hx y hy=>h.ob x hx y (List.mem_append_left _ hy)⟩,h.sa,s2,fun x hx' y hy=>?_,fun x hx' y hy=>?_⟩
 · refine List.Perm.trans ?_ h.pm
   simp only[List.append_assoc]
   refine  List.Perm.append_left _ ?_
   rw[<- List.append_assoc, <- List.append_assoc]
   exact  List.Perm.append_right _ List.perm_append_comm
 · rcases List.mem_append.mp hx' with z | z
   · exact h.oa x z y hy
   · exact hx x z y hy
 · rcases List.mem_append.mp hx' with z | z
   · exact h.ob x z y (List.mem_append_right _ hy)
   · exact s3 x z y hy
theorem Mg.oP(h:Mg R base out ra []):(out++ra).Pairwise R/\(out++ra).Perm base:=⟨List.pairwise_append.mpr ⟨h.so,h.sa,h.oa⟩,by simpa using h.pm⟩
theorem Mg.oQ(h:Mg R base out [] rb):(out++rb).Pairwise R/\(out++rb).Perm base:=⟨List.pairwise_append.mpr ⟨h.so,h.sb,h.ob⟩,by simpa using h.pm⟩
theorem Mg.sg(h:Mg R base out ra rb)(hl:∀ y∈rb,∀ x∈ra,R y x):(out++rb++ra).Pairwise R/\(out++rb++ra).Perm base:=by
 have h':Mg R base out ra (rb++[]):=by simpa using h
 exact(h'.b hl).oP
end
section
variable{a:Array Keyed}{i k:Nat}{x:Keyed}
theorem ES(h:a[i]? = some x):a.toList.drop i=[x]++a.toList.drop (i+1):=by
 have h':a.toList[i]? = some x:=by simpa using h
 obtain⟨hi,e⟩:=List.getElem?_eq_some_iff.mp h'
 rw[List.drop_eq_getElem_cons hi,e]
 rfl
theorem zG(i k:Nat):(a.extract i (i+k)).toList=(a.toList.drop i).take k:=by
 rw[Array.toList_extract]
 show(a.toList.drop i).take (i+k - i)=_
 rw[Nat.add_sub_cancel_left]
theorem qc(i:Nat):(a.extract i a.size).toList=a.toList.drop i:=by
 rw[Array.toList_extract]
 show(a.toList.drop i).take (a.size - i)=_
 rw[List.take_of_length_le (by rw[List.length_drop];simp)]
theorem ET(i k:Nat):a.toList.drop i=(a.toList.drop i).take k++a.toList.drop (i+k):=by
 rw[<- List.drop_drop,List.take_append_drop]
theorem vx{k:Nat}(h:x∈(a.toList.drop i).take k):∃ j,j<k/\a[i+j]? = some x:=by
 obtain⟨j,hj,e⟩:=List.getElem_of_mem h
 rw[List.length_take] at hj
 rw[List.getElem_take,List.getElem_drop] at e
 refine⟨j,by omega,?_⟩
 have:a.toList[i+j]? = some x:=by
  rw[List.getElem?_eq_getElem (by rw[List.length_drop] at hj;omega),e]
 simpa using this
theorem vy(h:x∈a.toList.drop i):∃ j,i<=j/\a[j]? = some x:=by
 obtain⟨j,hj,e⟩:=List.getElem_of_mem h
 rw[List.getElem_drop] at e
 refine⟨i+j,by omega,?_⟩
 have:a.toList[i+j]? = some x:=by
  rw[List.getElem?_eq_getElem (by rw[List.length_drop] at hj;omega),e]
 simpa using this
theorem eT(h:a[i]? = some x):x∈a.toList:=List.mem_of_getElem? (show a.toList[i]? = some x by simpa using h)
theorem at_of(h:i<a.size):∃ x,a[i]? = some x:=⟨a[i],Array.getElem?_eq_getElem h⟩
theorem nK(h:a[i]? = some x):i<a.size:=(Array.getElem?_eq_some_iff.mp h).1
end
structure ae(st st':SortSt):Prop where
 k:kindOf st'=kindOf st
 a:arrOf st'=arrOf st
 p:pendingOf st'=pendingOf st
 f:failedOf st'=failedOf st
section
variable{M:Model}{A:Around}{E:Value->Shared->Prop}{s:Shared}{κ:SortKind}{φ:Keyed->Int}{El:Keyed->Prop}
theorem ae.refl(st:SortSt):ae st st:=⟨rfl,rfl,rfl,rfl⟩
theorem ae.trans{a b c:SortSt}(h:ae a b)(h':ae b c):ae a c:=⟨h'.k.trans h.k,h'.a.trans h.a,h'.p.trans h.p,h'.f.trans h.f⟩
structure mG(φ:Keyed->Int)(El:Keyed->Prop)(a b:Array Keyed):Prop where
 ea:∀ x∈a.toList,El x
 eb:∀ x∈b.toList,El x
 sa:a.toList.Pairwise fun x y=>φ x<φ y
 sb:b.toList.Pairwise fun x y=>φ x<φ y
 ne:∀ x∈a.toList,∀ y∈b.toList,φ x≠φ y
 h0:∃ x y,a[0]? = some x/\b[0]? = some y/\φ y<φ x
 hl:∃ x,a[a.size - 1]? = some x/\∀ y∈b.toList,φ y<φ x
def Good(φ:Keyed->Int)(a b m:Array Keyed):Prop:=(m.toList.Pairwise fun x y=>φ x<φ y)/\m.toList.Perm (a.toList++b.toList)
abbrev ML(φ:Keyed->Int)(a b out:Array Keyed)(ia ib:Nat):Prop:=Mg (fun x y=>φ x<φ y) (a.toList++b.toList) out.toList (a.toList.drop ia) (b.toList.drop ib)
section
variable{a b out:Array Keyed}{ia ib k:Nat}{x y:Keyed}
theorem ML.fD(h:ML φ a b out ia ib)(e:ib=b.size):Good φ a b (out++a.extract ia a.size++b.extract ib b.size):=by
 have z:b.toList.drop ib=[]:=List.drop_eq_nil_of_le (by rw[e];simp)
 unfold Good
 rw[Array.toList_append,Array.toList_append,qc,qc,z,List.append_nil]
 unfold ML at h
 rw[z] at h
 exact h.oP
theorem ML.fF(h:ML φ a b out ia ib)(e:ia=a.size):Good φ a b (out++a.extract ia a.size++b.extract ib b.size):=by
 have z:a.toList.drop ia=[]:=List.drop_eq_nil_of_le (by rw[e];simp)
 unfold Good
 rw[Array.toList_append,Array.toList_append,qc,qc,z,List.append_nil]
 unfold ML at h
 rw[z] at h
 exact h.oQ
theorem ML.last(T:mG φ El a b)(h:ML φ a b out ia ib)(e:ia+1=a.size):Good φ a b (out++b.extract ib b.size++a.extract ia a.size):=by
 unfold Good
 rw[Array.toList_append,Array.toList_append,qc,qc]
 refine h.sg fun y hy x hx=>?_
 obtain⟨z,hz,hz'⟩:=T.hl
 obtain⟨j,hj,ej⟩:=vy hx
 have:=nK ej
 rw[show j=a.size - 1 by omega,hz] at ej
 cases ej
 exact hz' y (List.mem_of_mem_drop hy)
theorem ML.pb(h:ML φ a b out ia ib)(e:b[ib]? = some y)(hy:∀ x∈a.toList.drop ia,φ y<φ x):ML φ a b (out.push y) ia (ib+1):=by
 unfold ML at h ⊢
 rw[ES e] at h
 rw[Array.toList_push]
 exact h.b fun z hz=>by rw[List.mem_singleton.mp hz];exact hy
theorem ML.pa(h:ML φ a b out ia ib)(e:a[ia]? = some x)(hx:∀ y∈b.toList.drop ib,φ x<φ y):ML φ a b (out.push x) (ia+1) ib:=by
 unfold ML at h ⊢
 rw[ES e] at h
 rw[Array.toList_push]
 exact h.a fun z hz=>by rw[List.mem_singleton.mp hz];exact hx
theorem ML.ka(h:ML φ a b out ia ib)(hx:∀ x∈(a.toList.drop ia).take k,∀ y∈b.toList.drop ib,φ x<φ y):ML φ a b (out++a.extract ia (ia+k)) (ia+k) ib:=by
 unfold ML at h ⊢
 rw[ET ia k] at h
 rw[Array.toList_append,zG]
 exact h.a hx
theorem ML.kb(h:ML φ a b out ia ib)(hx:∀ x∈(b.toList.drop ib).take k,∀ y∈a.toList.drop ia,φ x<φ y):ML φ a b (out++b.extract ib (ib+k)) ia (ib+k):=by
 unfold ML at h ⊢
 rw[ET ib k] at h
 rw[Array.toList_append,zG]
 exact h.b hx
theorem qd(sa:a.toList.Pairwise fun x y=>φ x<φ y){i j:Nat}(hi:a[i]? = some x)(hj:a[j]? = some y)(h:i<j):φ x<φ y:=by
 have l:=nK hj
 have l1:i<a.toList.length:=by simp;omega
 have l2:j<a.toList.length:=by simpa using l
 have e1:a.toList[i]=x:=by have:=(Array.getElem?_eq_some_iff.mp hi).2;simpa using this
 have e2:a.toList[j]=y:=by have:=(Array.getElem?_eq_some_iff.mp hj).2;simpa using this
 rw[<- e1, <- e2]
 exact List.pairwise_iff_getElem.mp sa i j l1 l2 h
theorem qe(sa:a.toList.Pairwise fun x y=>φ x<φ y){i:Nat}(hi:a[i]? = some x)(h:y∈a.toList.drop i):φ x<=φ y:=by
 obtain⟨j,hj,e⟩:=vy h
 by_cases z:j=i
 · rw[z,hi] at e;cases e;exact Int.le_refl _
 · exact Int.le_of_lt (qd sa hi e (by omega))
end
theorem vz{g:Nat}{Q:Unit->SortSt->Prop}{st0 st:SortSt}(h:ae st0 st)(q:∀ st',ae st0 st'->Q () st'):wpS M A E s ((sortPriv% PySem.Builtin.setMinGallop) g) Q st :=
 wpS_modify (q _ (h.trans ⟨rfl,rfl,rfl,rfl⟩))
theorem zrk(C:jr M A E s κ φ El){a b:Array Keyed}(T:mG φ El a b){st0 st:SortSt}{ia ib:Nat}{y:Keyed}{Q:Option Nat->SortSt->Prop}(hk:kindOf st=κ)(ey:b[ib]? = some y)(hi:ia<a.size)
 (q:∀ k,ia+k<=a.size->(∀ x∈(a.toList.drop ia).take k,∀ z∈b.toList.drop ib,φ x<φ z)->(∀ x∈a.toList.drop (ia+k),φ y<φ x)->Q (some k) st):wpS M A E s (qa false y a ia (a.size - ia) 0) Q st:=by
 have my:=eT ey
 refine qb C (p:=fun i=>match a[ia+i]? with | some x => !decide (φ y<φ x) | none=>false) hk (T.eb y my) (fun i z=>?_) (fun i j z z' h=>?_) (by omega) fun k c=>q k ?_ ?_ ?_
 · obtain⟨x,hx⟩:=at_of (a:=a) (i:=ia+i) (by omega)
   exact⟨x,hx,T.ea x (eT hx),by rw[hx];rfl⟩
 · obtain⟨x,hx⟩:=at_of (a:=a) (i:=ia+i) (by omega)
   obtain⟨x',hx'⟩:=at_of (a:=a) (i:=ia+j) (by omega)
   dsimp only at h ⊢
   rw[hx'] at h
   rw[hx]
   dsimp only at h ⊢
   rw[Bool.not_eq_true',decide_eq_false_iff_not] at h ⊢
   by_cases e:i=j
   · subst e;rw[hx] at hx';cases hx';exact h
   · have:=qd T.sa hx hx' (by omega);omega
 · have:=c.le;omega
 · intro x hx z hz
   obtain⟨j,hj,e⟩:=vx hx
   have:=c.lo j hj
   rw[e] at this
   dsimp only at this
   rw[Bool.not_eq_true',decide_eq_false_iff_not] at this
   have n:=T.ne x (eT e) y my
   have:=qe T.sb ey hz
   omega
 · intro x hx
   obtain⟨j,hj,e⟩:=vy hx
   have l:=nK e
   have:=c.hi (j - ia) (by omega) (by omega)
   rw[show ia+(j - ia)=j by omega,e] at this
   dsimp only at this
   rw[Bool.not_eq_false'] at this
   exact of_decide_eq_true this
theorem L6(C:jr M A E s κ φ El){a b:Array Keyed}(T:mG φ El a b){st:SortSt}{ia ib:Nat}{x:Keyed}{Q:Option Nat->SortSt->Prop}(hk:kindOf st=κ)(ex:a[ia]? = some x)(hi:ib<b.size)
 (q:∀ k,ib+k<=b.size->(∀ y∈(b.toList.drop ib).take k,∀ z∈a.toList.drop ia,φ y<φ z)->(∀ y∈b.toList.drop (ib+k),φ x<φ y)->Q (some k) st):wpS M A E s (qa true x b ib (b.size - ib) 0) Q st:=by
 have mx:=eT ex
 refine qb C (p:=fun i=>match b[ib+i]? with | some y=>decide (φ y<φ x) | none=>false) hk (T.ea x mx) (fun i z=>?_) (fun i j z z' h=>?_) (by omega) fun k c=>q k ?_ ?_ ?_
 · obtain⟨y,hy⟩:=at_of (a:=b) (i:=ib+i) (by omega)
   exact⟨y,hy,T.eb y (eT hy),by rw[hy];rfl⟩
 · obtain⟨y,hy⟩:=at_of (a:=b) (i:=ib+i) (by omega)
   obtain⟨y',hy'⟩:=at_of (a:=b) (i:=ib+j) (by omega)
   dsimp only at h ⊢
   rw[hy'] at h
   rw[hy]
   dsimp only at h ⊢
   have h:=of_decide_eq_true h
   refine decide_eq_true ?_
   by_cases e:i=j
   · subst e;rw[hy] at hy';cases hy';exact h
   · have:=qd T.sb hy hy' (by omega);omega
 · have:=c.le;omega
 · intro y hy z hz
   obtain⟨j,hj,e⟩:=vx hy
   have:=c.lo j hj
   rw[e] at this
   have:=of_decide_eq_true this
   have:=qe T.sa ex hz
   omega
 · intro y hy
   obtain⟨j,hj,e⟩:=vy hy
   have l:=nK e
   have:=c.hi (j - ib) (by omega) (by omega)
   rw[show ib+(j - ib)=j by omega,e] at this
   have:=of_decide_eq_false this
   have n:=T.ne x mx y (eT e)
   omega
end
section
variable{M:Model}{A:Around}{E:Value->Shared->Prop}{s:Shared}{κ:SortKind}{φ:Keyed->Int}{El:Keyed->Prop}
theorem bA{β:Type}{c:Prop}[Decidable c]{m n:StateT SortSt Sem β}{Q:β->SortSt->Prop}{st:SortSt}(h:c->wpS M A E s m Q st)(h' : ¬ c->wpS M A E s n Q st):wpS M A E s (if c then m else n) Q st:=by
 by_cases z:c
 · rw[if_pos z];exact h z
 · rw[if_neg z];exact h' z
theorem L7(C:jr M A E s κ φ El){a b:Array Keyed}(T:mG φ El a b){Q:Array Keyed->SortSt->Prop}{st:SortSt}(hk:kindOf st=κ)(q:∀ m st',ae st st'->Good φ a b m->Q m st'):wpS M A E s (EM a b) Q st:=by
 obtain⟨x0,y0,hx0,jM,zH⟩:=T.h0
 have l0:=nK hx0
 have l1:=nK jM
 have start:ML φ a b #[y0] 0 1:=by
  have m0:ML φ a b #[] 0 0:=⟨List.Perm.refl _,.nil,by simpa using T.sa,by simpa using T.sb,fun x hx=>by simp at hx,fun x hx=>by simp at hx⟩
  exact m0.pb jM fun x hx=>Int.lt_of_lt_of_le zH (qe T.sa hx0 hx)
 unfold EM
 refine wpS_bind (wpS_lift (wpAny_rule ⟨rfl,?_⟩))
 dsimp only
 refine wpS_bind (eB jM ?_)
 by_cases c1:(1 == b.size)=true
 · rw[if_pos c1]
   exact wpS_pure (q _ _ (ae.refl _) (start.fD (beq_iff_eq.mp c1)))
 rw[if_neg c1]
 by_cases c2:(0+1 == a.size)=true
 · rw[if_pos c2]
   exact wpS_pure (q _ _ (ae.refl _) (start.last T (beq_iff_eq.mp c2)))
 rw[if_neg c2]
 rw[beq_iff_eq] at c1 c2
 refine wpS_bind (wpS_get ?_)
 refine wpS_bind (wpS_mono (wpS_forRange (I:=fun n t st'=>∃ out ia ib g,t=(none,out,ia,ib,g)/\ae st st'/\ML φ a b out ia ib/\ia+1<a.size/\ib<b.size/\n+1<=ia+ib)
  (Q:=fun t st'=>∃ r x,t=(some r,x)/\ae st st'/\Good φ a b r) ?step ?fin ⟨_,0,1,_,rfl,ae.refl _,start,by omega,by omega,by omega⟩) ?post)
 case fin =>
  rintro t st' ⟨out,ia,ib,g,rfl,_,_,h1,h2,h3⟩
  omega
 case post =>
  rintro t st' ⟨r,x,rfl,h,hg⟩
  exact wpS_pure (q r st' h hg)
 case step =>
  rintro n t st' _ hn ⟨out,ia,ib,g,rfl,hs,hm,h1,h2,h3⟩
  dsimp only
  refine wpS_bind (wpS_mono (wpS_forRange (I:=fun n t st''=>∃ out' cL cI ac bc,t=(none,out',cL,cI,ac,bc)/\ae st st''/\ML φ a b out' cL cI/\cL+1<a.size/\cI<b.size/\ia+ib+n<=cL+cI)
   (Q:=fun t st''=>(∃ r x,t=(some r,x)/\ae st st''/\Good φ a b r)\/∃ out' cL cI ac bc,t=(none,out',cL,cI,ac,bc)/\ae st st''/\ML φ a b out' cL cI/\cL+1<a.size/\cI<b.size/\ia+ib<cL+cI) ?step ?fin ⟨out,ia,ib,0,0,rfl,hs,hm,h1,h2,Nat.le_refl _⟩) ?post)
  case fin =>
   rintro t st'' ⟨out',cL,cI,ac,bc,rfl,hs',hm',h1',h2',h3'⟩
   exact .inr ⟨out',cL,cI,ac,bc,rfl,hs',hm',h1',h2',by omega⟩
  case step =>
   rintro m t st'' _ hm2 ⟨out',cL,cI,ac,bc,rfl,hs',hm',h1',h2',h3'⟩
   dsimp only
   obtain⟨y,hy⟩:=at_of h2'
   obtain⟨x,hx⟩:=at_of (a:=a) (i:=cL) (by omega)
   refine wpS_bind (eB hy ?_)
   refine wpS_bind (eB hx ?_)
   refine wpS_bind (C y x st'' _ (T.eb y (eT hy)) (T.ea x (eT hx)) (hs'.k.trans hk) ?_)
   dsimp only
   by_cases c:φ y<φ x
   · rw[if_pos (decide_eq_true c)]
     refine wpS_bind (eB hy ?_)
     have d7:=hm'.pb hy fun z hz=>Int.lt_of_lt_of_le c (qe T.sa hx hz)
     by_cases d:(cI+1 == b.size)=true
     · rw[if_pos d]
       exact wpS_pure (.inl ⟨_,_,rfl,hs',d7.fD (beq_iff_eq.mp d)⟩)
     · rw[if_neg d]
       rw[beq_iff_eq] at d
       by_cases e:bc+1 ≥ g
       · rw[if_pos e]
         exact wpS_pure (.inr ⟨_,_,_,_,_,rfl,hs',d7,h1',by omega,by omega⟩)
       · rw[if_neg e]
         exact wpS_pure ⟨_,_,_,_,_,rfl,hs',d7,h1',by omega,by omega⟩
   · rw[if_neg (by simpa using c)]
     refine wpS_bind (eB hx ?_)
     have nn:=T.ne x (eT hx) y (eT hy)
     have d7:=hm'.pa hx fun z hz=>Int.lt_of_lt_of_le (show φ x<φ y by omega) (qe T.sb hy hz)
     by_cases d:(cL+1+1 == a.size)=true
     · rw[if_pos d]
       exact wpS_pure (.inl ⟨_,_,rfl,hs',d7.last T (beq_iff_eq.mp d)⟩)
     · rw[if_neg d]
       rw[beq_iff_eq] at d
       by_cases e:ac+1 ≥ g
       · rw[if_pos e]
         exact wpS_pure (.inr ⟨_,_,_,_,_,rfl,hs',d7,by omega,h2',by omega⟩)
       · rw[if_neg e]
         exact wpS_pure ⟨_,_,_,_,_,rfl,hs',d7,by omega,h2',by omega⟩
  case post =>
   rintro t st'' (⟨r,x,rfl,hs',hg⟩ | ⟨out',cL,cI,ac,bc,rfl,hs',hm',h1',h2',h3'⟩)
   · exact wpS_pure ⟨r,_,rfl,hs',hg⟩
   dsimp only
   refine wpS_bind (wpS_lift (wpAny_rule ⟨rfl,?_⟩))
   refine wpS_bind (wpS_mono (wpS_forRange (I:=fun n t st''=>∃ out' cL cI g ac bc,t=(none,out',cL,cI,g,ac,bc)/\ae st st''/\ML φ a b out' cL cI/\cL+1<a.size/\cI<b.size/\ia+ib<cL+cI)
    (Q:=fun t st''=>(∃ r x,t=(some r,x)/\ae st st''/\Good φ a b r)\/∃ out' cL cI g ac bc,t=(none,out',cL,cI,g,ac,bc)/\ae st st''/\ML φ a b out' cL cI/\cL+1<a.size/\cI<b.size/\ia+ib<cL+cI) ?step (fun t st'' h=>.inr h) ⟨out',cL,cI,_,ac,bc,rfl,hs',hm',h1',h2',h3'⟩) ?post)
   case post =>
    rintro t st3 (⟨r,x,rfl,hs',hg⟩ | ⟨out',cL,cI,g,ac,bc,rfl,hs',hm',h1',h2',h3'⟩)
    · exact wpS_pure ⟨r,_,rfl,hs',hg⟩
    · exact wpS_bind (vz hs' fun zI hs4=>wpS_pure ⟨out',cL,cI,_,rfl,hs4,hm',h1',h2',by omega⟩)
   case step =>
    rintro m t st3 _ hm2 ⟨out',cL,cI,g,ac,bc,rfl,hs',hm',h1',h2',h3'⟩
    dsimp only
    obtain⟨y,hy⟩:=at_of h2'
    refine bA (fun _=>?_) fun _=>?_
    all_goals
     refine wpS_bind (vz hs' fun zI hs4=>?_)
     refine wpS_bind (eB hy ?_)
     refine wpS_bind (zrk C T (st0:=st) (hs4.k.trans hk) hy (by omega) fun k k1 k2 k3=>?_)
     dsimp only
     refine bA (fun ck=>?_) fun ck=>?_
     case' refine_1 =>
      have hm1:=hm'.ka k2
      refine bA (fun d=>wpS_pure (.inl ⟨_,_,rfl,hs4,hm1.last T (beq_iff_eq.mp d)⟩)) fun d1=>?_
      refine bA (fun d=>wpS_pure (.inl ⟨_,_,rfl,hs4,hm1.fF (beq_iff_eq.mp d)⟩)) fun d2=>?_
      rw[beq_iff_eq] at d1 d2
      have h11:cL+k+1<a.size:=by omega
      have h31:ia+ib<cL+k+cI:=by omega
     case' refine_2 =>
      have e0:k=0:=by omega
      rw[e0,Nat.add_zero] at k3
      have hm1:=hm'
      have h11:=h1'
      have h31:=h3'
     all_goals
      refine wpS_bind (eB hy ?_)
      have hm2:=hm1.pb hy k3
      refine bA (fun d=>wpS_pure (.inl ⟨_,_,rfl,hs4,hm2.fD (beq_iff_eq.mp d)⟩)) fun d3=>?_
      rw[beq_iff_eq] at d3
      obtain⟨x,hx⟩:=at_of (Nat.lt_of_succ_lt h11)
      refine wpS_bind (eB hx ?_)
      refine wpS_bind (L6 C T (hs4.k.trans hk) hx (show cI+1<b.size by omega) fun j j1 j2 j3=>?_)
      dsimp only
      refine bA (fun cj=>?_) fun cj=>?_
      case' refine_1 =>
       have d7:=hm2.kb j2
       refine bA (fun d=>wpS_pure (.inl ⟨_,_,rfl,hs4,d7.fD (beq_iff_eq.mp d)⟩)) fun d4=>?_
       rw[beq_iff_eq] at d4
       have h21:cI+1+j<b.size:=by omega
      case' refine_2 =>
       have e1:j=0:=by omega
       rw[e1,Nat.add_zero] at j3
       have d7:=hm2
       have h21:cI+1<b.size:=by omega
      all_goals
       refine wpS_bind (eB hx ?_)
       have oR:=d7.pa hx j3
       refine bA (fun d=>wpS_pure (.inl ⟨_,_,rfl,hs4,oR.last T (beq_iff_eq.mp d)⟩)) fun d5=>?_
       rw[beq_iff_eq] at d5
       refine bA (fun _=>?_) fun _=>?_
       · exact wpS_pure (.inr ⟨_,_,_,_,_,_,rfl,hs4,oR,by omega,h21,by omega⟩)
       · exact wpS_pure ⟨_,_,_,_,_,_,rfl,hs4,oR,by omega,h21,by omega⟩
end
theorem Mg.sj{α:Type}{R:α->α->Prop}{base out ra rb:List α}(h:Mg R base out ra rb)(hl:∀ x∈ra,∀ y∈rb,R x y):(out++ra++rb).Pairwise R/\(out++ra++rb).Perm base:=by
 have h':Mg R base out (ra++[]) rb:=by simpa using h
 exact(h'.a hl).oQ
section
variable{a:Array Keyed}{i k:Nat}{x:Keyed}
theorem EU(h:a[i]? = some x):(a.toList.take (i+1)).reverse=[x]++(a.toList.take i).reverse:=by
 have h':a.toList[i]? = some x:=by simpa using h
 rw[List.take_succ,h',List.reverse_append]
 rfl
theorem EV(h:i<=k):(a.toList.take k).reverse=((a.extract i k).reverse).toList++(a.toList.take i).reverse:=by
 rw[Array.toList_reverse,Array.toList_extract, <- List.reverse_append]
 show _=(a.toList.take i++(a.toList.drop i).take (k - i)).reverse
 congr 1
 have:=List.take_add (l:=a.toList) (i:=i) (j:=k - i)
 rw[<- this]
 congr 1
 omega
theorem qf(k:Nat):(a.extract 0 k).toList=a.toList.take k:=by
 rw[Array.toList_extract]
 rfl
theorem vA(h:x∈a.toList.take k):∃ j,j<k/\a[j]? = some x:=by
 have:=vx (a:=a) (i:=0) (k:=k) (x:=x) (by simpa using h)
 simpa using this
theorem EW(h:x∈((a.extract i k).reverse).toList):∃ j,i<=j/\j<k/\a[j]? = some x:=by
 rw[Array.toList_reverse,List.mem_reverse,Array.toList_extract] at h
 have h:x∈(a.toList.drop i).take (k - i):=h
 obtain⟨j,hj,e⟩:=vx h
 exact⟨i+j,by omega,by omega,e⟩
end
section
variable{M:Model}{A:Around}{E:Value->Shared->Prop}{s:Shared}{κ:SortKind}{φ:Keyed->Int}{El:Keyed->Prop}
abbrev MH(φ:Keyed->Int)(a b out:Array Keyed)(na nb:Nat):Prop:=Mg (fun x y=>φ y<φ x) (a.toList++b.toList) out.toList (a.toList.take na).reverse (b.toList.take nb).reverse
theorem zJ{a b m:Array Keyed}{l:List Keyed}(e:m.toList=l.reverse)(h:(l.Pairwise fun x y=>φ y<φ x)/\l.Perm (a.toList++b.toList)):Good φ a b m:=by
 unfold Good
 rw[e]
 exact⟨List.pairwise_reverse.mpr h.1,(List.reverse_perm l).trans h.2⟩
section
variable{a b out:Array Keyed}{na nb k:Nat}{x y:Keyed}
theorem MH.fF(h:MH φ a b out na nb)(e:na=0):Good φ a b (a.extract 0 na++b.extract 0 nb++out.reverse):=by
 subst e
 have h':Mg (fun x y=>φ y<φ x) (a.toList++b.toList) out.toList [] (b.toList.take nb).reverse:=h
 refine zJ ?_ h'.oQ
 rw[Array.toList_append,Array.toList_append,qf,qf,Array.toList_reverse,List.reverse_append,List.reverse_reverse]
 simp
theorem MH.fD(h:MH φ a b out na nb)(e:nb=0):Good φ a b (a.extract 0 na++b.extract 0 nb++out.reverse):=by
 subst e
 have h':Mg (fun x y=>φ y<φ x) (a.toList++b.toList) out.toList (a.toList.take na).reverse []:=h
 refine zJ ?_ h'.oP
 rw[Array.toList_append,Array.toList_append,qf,qf,Array.toList_reverse,List.reverse_append,List.reverse_reverse]
 simp
theorem MH.first(T:mG φ El a b)(h:MH φ a b out na nb)(e:nb=1):Good φ a b (b.extract 0 nb++a.extract 0 na++out.reverse):=by
 refine zJ ?_ (h.sj fun x hx y hy=>?_)
 · rw[Array.toList_append,Array.toList_append,qf,qf,Array.toList_reverse,List.reverse_append,List.reverse_append,List.reverse_reverse,List.reverse_reverse]
   simp
 · obtain⟨x0,y0,hx0,jM,zH⟩:=T.h0
   obtain⟨j,hj,ej⟩:=vA (List.mem_reverse.mp hy)
   rw[show j=0 by omega,jM] at ej
   cases ej
   have:=qe T.sa hx0 (y:=x) (by simpa using List.mem_of_mem_take (List.mem_reverse.mp hx))
   omega
theorem MH.pa(h:MH φ a b out (na+1) nb)(e:a[na]? = some x)(hx:∀ y∈b.toList.take nb,φ y<φ x):MH φ a b (out.push x) na nb:=by
 unfold MH at h ⊢
 rw[EU e] at h
 rw[Array.toList_push]
 exact h.a fun z hz y hy=>by rw[List.mem_singleton.mp hz];exact hx y (List.mem_reverse.mp hy)
theorem MH.pb(h:MH φ a b out na (nb+1))(e:b[nb]? = some y)(hy:∀ x∈a.toList.take na,φ x<φ y):MH φ a b (out.push y) na nb:=by
 unfold MH at h ⊢
 rw[EU e] at h
 rw[Array.toList_push]
 exact h.b fun z hz x hx=>by rw[List.mem_singleton.mp hz];exact hy x (List.mem_reverse.mp hx)
theorem MH.ka(h:MH φ a b out na nb)(l:k<=na)(hx:∀ x j,k<=j->j<na->a[j]? = some x->∀ y∈b.toList.take nb,φ y<φ x):MH φ a b (out++(a.extract k na).reverse) k nb:=by
 unfold MH at h ⊢
 rw[EV l] at h
 rw[Array.toList_append]
 refine h.a fun x z y hy=>?_
 obtain⟨j,j1,j2,e⟩:=EW z
 exact hx x j j1 j2 e y (List.mem_reverse.mp hy)
theorem MH.kb(h:MH φ a b out na nb)(l:k<=nb)(hx:∀ y j,k<=j->j<nb->b[j]? = some y->∀ x∈a.toList.take na,φ x<φ y):MH φ a b (out++(b.extract k nb).reverse) na k:=by
 unfold MH at h ⊢
 rw[EV l] at h
 rw[Array.toList_append]
 refine h.b fun y z x hx'=>?_
 obtain⟨j,j1,j2,e⟩:=EW z
 exact hx y j j1 j2 e x (List.mem_reverse.mp hx')
theorem vB(sa:a.toList.Pairwise fun x y=>φ x<φ y){i:Nat}(hi:a[i]? = some x)(h:y∈a.toList.take (i+1)):φ y<=φ x:=by
 obtain⟨j,hj,e⟩:=vA h
 by_cases z:j=i
 · rw[z,hi] at e;cases e;exact Int.le_refl _
 · exact Int.le_of_lt (qd sa e hi (by omega))
end
theorem L8(C:jr M A E s κ φ El){a b:Array Keyed}(T:mG φ El a b){st:SortSt}{na nb:Nat}{y:Keyed}{Q:Option Nat->SortSt->Prop}(hk:kindOf st=κ)(ey:b[nb]? = some y)(hi:na<a.size)
 (q:∀ k,k<=na+1->(∀ x j,k<=j->j<na+1->a[j]? = some x->∀ z∈b.toList.take (nb+1),φ z<φ x)->(∀ x∈a.toList.take k,φ x<φ y)->Q (some k) st):wpS M A E s (qa false y a 0 (na+1) na) Q st:=by
 have my:=eT ey
 refine qb C (p:=fun i=>match a[i]? with | some x => !decide (φ y<φ x) | none=>false) hk (T.eb y my) (fun i z=>?_) (fun i j z z' h=>?_) (by omega) fun k c=>q k c.le ?_ ?_
 · obtain⟨x,hx⟩:=at_of (a:=a) (i:=i) (by omega)
   exact⟨x,by rw[Nat.zero_add];exact hx,T.ea x (eT hx),by rw[hx];rfl⟩
 · obtain⟨x,hx⟩:=at_of (a:=a) (i:=i) (by omega)
   obtain⟨x',hx'⟩:=at_of (a:=a) (i:=j) (by omega)
   dsimp only at h ⊢
   rw[hx'] at h
   rw[hx]
   dsimp only at h ⊢
   rw[Bool.not_eq_true',decide_eq_false_iff_not] at h ⊢
   by_cases e:i=j
   · subst e;rw[hx] at hx';cases hx';exact h
   · have:=qd T.sa hx hx' (by omega);omega
 · intro x j hj hj' e z hz
   have zl:=vB T.sb ey hz
   have:=c.hi j hj hj'
   rw[e] at this
   rw[Bool.not_eq_false'] at this
   have:=of_decide_eq_true this
   omega
 · intro x hx
   obtain⟨j,hj,e⟩:=vA hx
   have:=c.lo j hj
   rw[e] at this
   rw[Bool.not_eq_true',decide_eq_false_iff_not] at this
   have n:=T.ne x (eT e) y my
   omega
theorem L9(C:jr M A E s κ φ El){a b:Array Keyed}(T:mG φ El a b){st:SortSt}{na nb:Nat}{x:Keyed}{Q:Option Nat->SortSt->Prop}(hk:kindOf st=κ)(ex:a[na]? = some x)(hi:nb<b.size)
 (q:∀ k,k<=nb+1->(∀ y j,k<=j->j<nb+1->b[j]? = some y->∀ z∈a.toList.take (na+1),φ z<φ y)->(∀ y∈b.toList.take k,φ y<φ x)->Q (some k) st):wpS M A E s (qa true x b 0 (nb+1) nb) Q st:=by
 have mx:=eT ex
 refine qb C (p:=fun i=>match b[i]? with | some y=>decide (φ y<φ x) | none=>false) hk (T.ea x mx) (fun i z=>?_) (fun i j z z' h=>?_) (by omega) fun k c=>q k c.le ?_ ?_
 · obtain⟨y,hy⟩:=at_of (a:=b) (i:=i) (by omega)
   exact⟨y,by rw[Nat.zero_add];exact hy,T.eb y (eT hy),by rw[hy];rfl⟩
 · obtain⟨y,hy⟩:=at_of (a:=b) (i:=i) (by omega)
   obtain⟨y',hy'⟩:=at_of (a:=b) (i:=j) (by omega)
   dsimp only at h ⊢
   rw[hy'] at h
   rw[hy]
   dsimp only at h ⊢
   have h:=of_decide_eq_true h
   refine decide_eq_true ?_
   by_cases e:i=j
   · subst e;rw[hy] at hy';cases hy';exact h
   · have:=qd T.sb hy hy' (by omega);omega
 · intro y j hj hj' e z hz
   have zl:=vB T.sa ex hz
   have:=c.hi j hj hj'
   rw[e] at this
   have:=of_decide_eq_false this
   have n:=T.ne x mx y (eT e)
   omega
 · intro y hy
   obtain⟨j,hj,e⟩:=vA hy
   have:=c.lo j hj
   rw[e] at this
   exact of_decide_eq_true this
end
section
variable{M:Model}{A:Around}{E:Value->Shared->Prop}{s:Shared}{κ:SortKind}{φ:Keyed->Int}{El:Keyed->Prop}
theorem L_(C:jr M A E s κ φ El){a b:Array Keyed}(T:mG φ El a b){Q:Array Keyed->SortSt->Prop}{st:SortSt}(hk:kindOf st=κ)(q:∀ m st',ae st st'->Good φ a b m->Q m st'):wpS M A E s (EO a b) Q st:=by
 obtain⟨x0,y0,hx0,jM,zH⟩:=T.h0
 obtain⟨xl,oS,gl⟩:=T.hl
 have l0:=nK hx0
 have l1:=nK jM
 have start:MH φ a b #[xl] (a.size - 1) b.size:=by
  have m0:MH φ a b #[] (a.size - 1+1) b.size:=by
   have e1:a.toList.take (a.size - 1+1)=a.toList:=List.take_of_length_le (by simp;omega)
   have e2:b.toList.take b.size=b.toList:=List.take_of_length_le (by simp)
   unfold MH
   rw[e1,e2]
   refine⟨?_,.nil,List.pairwise_reverse.mpr T.sa,List.pairwise_reverse.mpr T.sb,fun x hx=>by simp at hx,fun x hx=>by simp at hx⟩
   exact(List.reverse_perm _).append (List.reverse_perm _)
  exact m0.pa oS fun y hy=>gl y (List.mem_of_mem_take hy)
 unfold EO
 refine wpS_bind (wpS_lift (wpAny_rule ⟨rfl,?_⟩))
 dsimp only
 refine wpS_bind (eB oS ?_)
 refine bA (fun c=>wpS_pure (q _ _ (ae.refl _) (start.fF (beq_iff_eq.mp c)))) fun c1=>?_
 refine bA (fun c=>wpS_pure (q _ _ (ae.refl _) (start.first T (beq_iff_eq.mp c)))) fun c2=>?_
 rw[beq_iff_eq] at c1 c2
 refine wpS_bind (wpS_get ?_)
 refine wpS_bind (wpS_mono (wpS_forRange (I:=fun n t st'=>∃ out na nb g,t=(none,na+1,nb+2,out,g)/\ae st st'/\MH φ a b out (na+1) (nb+2)/\na+1<a.size/\nb+1<b.size/\na+nb+4+n<=a.size+b.size)
  (Q:=fun t st'=>∃ r x,t=(some r,x)/\ae st st'/\Good φ a b r) ?step ?fin ⟨_,a.size - 2,b.size - 2,_,by rw[show a.size - 2+1=a.size - 1 by omega,show b.size - 2+2=b.size by omega],ae.refl _,by rw[show a.size - 2+1=a.size - 1 by omega,show b.size - 2+2=b.size by omega];exact start,by omega,by omega,by omega⟩) ?post)
 case fin =>
  rintro t st' ⟨out,na,nb,g,rfl,_,_,h1,h2,h3⟩
  omega
 case post =>
  rintro t st' ⟨r,x,rfl,h,hg⟩
  exact wpS_pure (q r st' h hg)
 case step =>
  rintro n t st' _ hn ⟨out,na,nb,g,rfl,hs,hm,h1,h2,h3⟩
  dsimp only
  refine wpS_bind (wpS_mono (wpS_forRange (I:=fun n t st''=>∃ out' cn b8 ac bc,t=(none,cn+1,b8+2,out',ac,bc)/\ae st st''/\MH φ a b out' (cn+1) (b8+2)/\cn<=na/\b8<=nb/\cn+b8+n<=na+nb)
   (Q:=fun t st''=>(∃ r x,t=(some r,x)/\ae st st''/\Good φ a b r)\/∃ out' cn b8 ac bc,t=(none,cn+1,b8+2,out',ac,bc)/\ae st st''/\MH φ a b out' (cn+1) (b8+2)/\cn<=na/\b8<=nb/\cn+b8<na+nb) ?step ?fin ⟨out,na,nb,0,0,rfl,hs,hm,Nat.le_refl _,Nat.le_refl _,Nat.le_refl _⟩) ?post)
  case fin =>
   rintro t st'' ⟨out',cn,b8,ac,bc,rfl,hs',hm',h1',h2',h3'⟩
   exact .inr ⟨out',cn,b8,ac,bc,rfl,hs',hm',h1',h2',by omega⟩
  case step =>
   rintro m t st'' _ hm2 ⟨out',cn,b8,ac,bc,rfl,hs',hm',h1',h2',h3'⟩
   dsimp only
   obtain⟨y,hy⟩:=at_of (a:=b) (i:=b8+1) (by omega)
   obtain⟨x,hx⟩:=at_of (a:=a) (i:=cn) (by omega)
   refine wpS_bind (eB hy ?_)
   refine wpS_bind (eB hx ?_)
   refine wpS_bind (C y x st'' _ (T.eb y (eT hy)) (T.ea x (eT hx)) (hs'.k.trans hk) ?_)
   dsimp only
   refine bA (fun c=>?_) fun c=>?_
   · have c:=of_decide_eq_true c
     refine wpS_bind (eB hx ?_)
     have d7:=hm'.pa hx fun z hz=>Int.lt_of_le_of_lt (vB T.sb hy hz) c
     refine bA (fun d=>wpS_pure (.inl ⟨_,_,rfl,hs',d7.fF (beq_iff_eq.mp d)⟩)) fun d=>?_
     rw[beq_iff_eq] at d
     obtain⟨p,rfl⟩:∃ p,cn=p+1:=⟨cn - 1,by omega⟩
     refine bA (fun _=>?_) fun _=>?_
     · exact wpS_pure (.inr ⟨_,p,b8,_,_,rfl,hs',d7,by omega,h2',by omega⟩)
     · exact wpS_pure ⟨_,p,b8,_,_,rfl,hs',d7,by omega,h2',by omega⟩
   · have c : ¬ φ y<φ x:=by simpa using c
     have nn:=T.ne x (eT hx) y (eT hy)
     refine wpS_bind (eB hy ?_)
     have d7:=hm'.pb hy fun z hz=>Int.lt_of_le_of_lt (vB T.sa hx hz) (show φ x<φ y by omega)
     refine bA (fun d=>wpS_pure (.inl ⟨_,_,rfl,hs',d7.first T (beq_iff_eq.mp d)⟩)) fun d=>?_
     rw[beq_iff_eq] at d
     obtain⟨p,rfl⟩:∃ p,b8=p+1:=⟨b8 - 1,by omega⟩
     refine bA (fun _=>?_) fun _=>?_
     · exact wpS_pure (.inr ⟨_,cn,p,_,_,rfl,hs',d7,h1',by omega,by omega⟩)
     · exact wpS_pure ⟨_,cn,p,_,_,rfl,hs',d7,h1',by omega,by omega⟩
  case post =>
   rintro t st'' (⟨r,x,rfl,hs',hg⟩ | ⟨out',cn,b8,ac,bc,rfl,hs',hm',h1',h2',h3'⟩)
   · exact wpS_pure ⟨r,_,rfl,hs',hg⟩
   dsimp only
   refine wpS_bind (wpS_lift (wpAny_rule ⟨rfl,?_⟩))
   refine wpS_bind (wpS_mono (wpS_forRange (I:=fun n t st''=>∃ out' cn b8 g ac bc,t=(none,cn+1,b8+2,out',g,ac,bc)/\ae st st''/\MH φ a b out' (cn+1) (b8+2)/\cn<=na/\b8<=nb/\cn+b8<na+nb)
    (Q:=fun t st''=>(∃ r x,t=(some r,x)/\ae st st''/\Good φ a b r)\/∃ out' cn b8 g ac bc,t=(none,cn+1,b8+2,out',g,ac,bc)/\ae st st''/\MH φ a b out' (cn+1) (b8+2)/\cn<=na/\b8<=nb/\cn+b8<na+nb) ?step (fun t st'' h=>.inr h) ⟨out',cn,b8,_,ac,bc,rfl,hs',hm',h1',h2',h3'⟩) ?post)
   case post =>
    rintro t st3 (⟨r,x,rfl,hs',hg⟩ | ⟨out',cn,b8,g,ac,bc,rfl,hs',hm',h1',h2',h3'⟩)
    · exact wpS_pure ⟨r,_,rfl,hs',hg⟩
    · exact wpS_bind (vz hs' fun zI hs4=>wpS_pure ⟨out',cn,b8,_,rfl,hs4,hm',by omega,by omega,by omega⟩)
   case step =>
    rintro m t st3 _ hm2 ⟨out',cn,b8,g,ac,bc,rfl,hs',hm',h1',h2',h3'⟩
    dsimp only
    obtain⟨y,hy⟩:=at_of (a:=b) (i:=b8+1) (by omega)
    refine bA (fun _=>?_) fun _=>?_
    all_goals
     refine wpS_bind (vz hs' fun zI hs4=>?_)
     refine wpS_bind (eB hy ?_)
     refine wpS_bind (L8 C T (na:=cn) (hs4.k.trans hk) hy (by omega) fun k k1 k2 k3=>?_)
     dsimp only
     refine bA (fun ck=>?_) fun ck=>?_
     case' refine_1 =>
      have hm1:=hm'.ka k1 k2
      refine bA (fun d=>wpS_pure (.inl ⟨_,_,rfl,hs4,hm1.fF (beq_iff_eq.mp d)⟩)) fun d1=>?_
      rw[beq_iff_eq] at d1
      obtain⟨p,rfl⟩:∃ p,k=p+1:=⟨k - 1,by omega⟩
      have h11:p<=na:=by omega
      have h31:p+b8<na+nb:=by omega
     case' refine_2 =>
      have e0:k=cn+1:=by omega
      subst e0
      obtain⟨p,hp⟩:∃ p,p=cn:=⟨_,rfl⟩
      subst hp
      have hm1:=hm'
      have h11:=h1'
      have h31:=h3'
     all_goals
      refine wpS_bind (eB hy ?_)
      have hm2:=hm1.pb hy k3
      refine bA (fun d=>wpS_pure (.inl ⟨_,_,rfl,hs4,hm2.first T (beq_iff_eq.mp d)⟩)) fun d3=>?_
      rw[beq_iff_eq] at d3
      obtain⟨x,hx⟩:=at_of (a:=a) (i:=p) (by omega)
      refine wpS_bind (eB hx ?_)
      refine wpS_bind (L9 C T (nb:=b8) (hs4.k.trans hk) hx (by omega) fun j j1 j2 j3=>?_)
      dsimp only
      refine bA (fun cj=>?_) fun cj=>?_
      case' refine_1 =>
       have d7:=hm2.kb j1 j2
       refine bA (fun d=>wpS_pure (.inl ⟨_,_,rfl,hs4,d7.first T (beq_iff_eq.mp d)⟩)) fun d4=>?_
       refine bA (fun d=>wpS_pure (.inl ⟨_,_,rfl,hs4,d7.fD (beq_iff_eq.mp d)⟩)) fun d6=>?_
       rw[beq_iff_eq] at d4 d6
       obtain⟨u,rfl⟩:∃ u,j=u+2:=⟨j - 2,by omega⟩
       have h21:u<=nb:=by omega
       have Ma:p+u<na+nb:=by omega
      case' refine_2 =>
       obtain⟨u,rfl⟩:∃ u,b8=u+1:=⟨b8 - 1,by omega⟩
       have e1:j=u+2:=by omega
       subst e1
       have d7:=hm2
       have h21:u<=nb:=by omega
       have Ma:p+u<na+nb:=by omega
      all_goals
       refine wpS_bind (eB hx ?_)
       have oR:=d7.pa hx j3
       refine bA (fun d=>wpS_pure (.inl ⟨_,_,rfl,hs4,oR.fF (beq_iff_eq.mp d)⟩)) fun d5=>?_
       rw[beq_iff_eq] at d5
       obtain⟨v,rfl⟩:∃ v,p=v+1:=⟨p - 1,by omega⟩
       refine bA (fun _=>?_) fun _=>?_
       · exact wpS_pure (.inr ⟨_,v,u,_,_,_,rfl,hs4,oR,by omega,h21,by omega⟩)
       · exact wpS_pure ⟨_,v,u,_,_,_,rfl,hs4,oR,by omega,h21,by omega⟩
end
theorem wb{α:Type}:∀ (m:List α) (a:Array α) (o j:Nat),o+j+m.length<=a.size->((m.zipIdx j).foldl (fun a x=>a.setIfInBounds (o+x.2) x.1) a).toList=a.toList.take (o+j)++m++a.toList.drop (o+j+m.length)
 | [],a,o,j,h=>by simp
 |x::m,a,o,j,h=>by
   rw[List.length_cons] at h
   rw[List.zipIdx_cons,List.foldl_cons,wb m _ o (j+1) (by rw[Array.size_setIfInBounds];omega)]
   have lt:o+j<a.toList.length:=by simp;omega
   rw[Array.toList_setIfInBounds]
   show(a.toList.set (o+j) x).take (o+(j+1))++m++(a.toList.set (o+j) x).drop (o+(j+1)+m.length)=_
   rw[List.drop_set_of_lt (by omega),show o+(j+1)=o+j+1 by omega,List.take_succ,List.take_set_of_le (Nat.le_refl _),List.getElem?_set_self lt,List.length_cons]
   simp only[Option.toList_some,List.append_assoc,List.cons_append,List.nil_append]
   rw[show o+j+1+m.length=o+j+(m.length+1) by omega]
section
variable{M:Model}{A:Around}{E:Value->Shared->Prop}{s:Shared}{κ:SortKind}{φ:Keyed->Int}{El:Keyed->Prop}
section
variable{arr:Array Keyed}{pre X Y post:List Keyed}
theorem gX(ha:arr.toList=pre++X++Y++post){j:Nat}{x:Keyed}(h:X[j]? = some x):arr[pre.length+j]? = some x:=by
 rw[<- Array.getElem?_toList,ha,List.append_assoc,List.append_assoc,List.getElem?_append_right (by omega),Nat.add_sub_cancel_left,List.getElem?_append_left (List.getElem?_eq_some_iff.mp h).1]
 exact h
theorem gY(ha:arr.toList=pre++X++Y++post){j:Nat}{y:Keyed}(h:Y[j]? = some y):arr[pre.length+X.length+j]? = some y:=by
 rw[<- Array.getElem?_toList,ha,List.append_assoc,List.getElem?_append_right (by rw[List.length_append];omega),List.length_append,Nat.add_sub_cancel_left,List.getElem?_append_left (List.getElem?_eq_some_iff.mp h).1]
 exact h
theorem xX(ha:arr.toList=pre++X++Y++post){k:Nat}(h:k<=X.length):(arr.extract (pre.length+k) (pre.length+X.length)).toList=X.drop k:=by
 rw[Array.toList_extract]
 show(arr.toList.drop (pre.length+k)).take (pre.length+X.length - (pre.length+k))=_
 rw[ha,List.append_assoc,List.append_assoc,List.drop_append,List.drop_eq_nil_of_le (by omega),Nat.add_sub_cancel_left,List.nil_append,List.drop_append_of_le_length h,List.take_append_of_le_length (by rw[List.length_drop];omega),List.take_of_length_le (by rw[List.length_drop];omega)]
theorem xY(ha:arr.toList=pre++X++Y++post){k:Nat}(h:k<=Y.length):(arr.extract (pre.length+X.length) (pre.length+X.length+k)).toList=Y.take k:=by
 rw[zG,ha,List.append_assoc (pre++X),List.drop_append,List.drop_eq_nil_of_le (by simp),List.length_append,Nat.sub_self,List.drop_zero,List.nil_append,List.take_append_of_le_length h]
end
theorem Mb(C:jr M A E s κ φ El){i:Nat}{Q:Bool->SortSt->Prop}{st:SortSt}{pre X Y post:List Keyed}{p1 p2:Nat}(hk:kindOf st=κ)(hf:failedOf st=none)(ha:(arrOf st).toList=pre++X++Y++post)(h1:(pendingOf st)[i]? = some (pre.length,X.length,p1))(h2:(pendingOf st)[i+1]? = some (pre.length+X.length,Y.length,p2))
 (eX:∀ x∈X,El x) (eY:∀ x∈Y,El x) (sX:X.Pairwise fun x y=>φ x<φ y) (sY:Y.Pairwise fun x y=>φ x<φ y) (ne:∀ x∈X,∀ y∈Y,φ x≠φ y) (nX:X≠[]) (nY:Y≠[])
 (q:∀ st' Z,kindOf st'=κ->failedOf st'=none->pendingOf st'=((pendingOf st).setIfInBounds i (pre.length,X.length+Y.length,p1)).eraseIdxIfInBounds (i+1)->(arrOf st').toList=pre++Z++post->(Z.Pairwise fun x y=>φ x<φ y)->Z.Perm (X++Y)->Q true st'):wpS M A E s (mergeAt' i) Q st:=by
 have lX:0<X.length:=List.length_pos_iff.mpr nX
 have lY:0<Y.length:=List.length_pos_iff.mpr nY
 have pw:∀ {l:List Keyed},(l.Pairwise fun x y=>φ x<φ y)->∀ {i j:Nat} {x y:Keyed},l[i]? = some x->l[j]? = some y->i<j->φ x<φ y:=fun {l} hl i j x y hi hj lt=>by
  obtain⟨a1,a2⟩:=List.getElem?_eq_some_iff.mp hi
  obtain⟨b1,b2⟩:=List.getElem?_eq_some_iff.mp hj
  rw[<- a2, <- b2]
  exact List.pairwise_iff_getElem.mp hl i j a1 b1 lt
 have pw':∀ {l:List Keyed},(l.Pairwise fun x y=>φ x<φ y)->∀ {i j:Nat} {x y:Keyed},l[i]? = some x->l[j]? = some y->i<=j->φ x<=φ y:=fun {l} hl i j x y hi hj le=>by
  by_cases e:i=j
  · subst e;rw[hi] at hj;cases hj;exact Int.le_refl _
  · exact Int.le_of_lt (pw hl hi hj (by omega))
 obtain⟨y0,jM⟩:∃ y,Y[0]? = some y:=⟨_,List.getElem?_eq_getElem lY⟩
 obtain⟨xl,oS⟩:∃ x,X[X.length - 1]? = some x:=⟨_,List.getElem?_eq_getElem (by omega)⟩
 have EX:=List.mem_of_getElem? jM
 have EY:=List.mem_of_getElem? oS
 have whole:(∀ x∈X,∀ y∈Y,φ x<φ y)->∀ st',kindOf st'=kindOf st->failedOf st'=failedOf st->pendingOf st'=((pendingOf st).setIfInBounds i (pre.length,X.length+Y.length,p1)).eraseIdxIfInBounds (i+1)->arrOf st'=arrOf st->Q true st':=fun h st' z1 z2 z3 z4 =>
  q st' (X++Y) (z1.trans hk) (z2.trans hf) z3 (by rw[z4,ha];simp) (List.pairwise_append.mpr ⟨sX,sY,h⟩) (List.Perm.refl _)
 unfold mergeAt'
 refine wpS_bind (wpS_get ?_)
 dsimp only
 rw[h1,h2]
 dsimp only
 refine wpS_bind (wpS_modify (f:=fun _=>_) ?_)
 refine wpS_bind (eB (gY ha jM) ?_)
 refine wpS_bind (qb C (p:=fun j=>match X[j]? with | some x => !decide (φ y0<φ x) | none=>false) hk (eY y0 EX) (fun j z=>?_) (fun a b z z' h=>?_) lX fun k c=>?_)
 · obtain⟨x,hx⟩:∃ x,X[j]? = some x:=⟨_,List.getElem?_eq_getElem z⟩
   exact⟨x,gX ha hx,eX x (List.mem_of_getElem? hx),by rw[hx];rfl⟩
 · obtain⟨x,hx⟩:∃ x,X[a]? = some x:=⟨_,List.getElem?_eq_getElem (by omega)⟩
   obtain⟨x',hx'⟩:∃ x,X[b]? = some x:=⟨_,List.getElem?_eq_getElem z'⟩
   dsimp only at h ⊢
   rw[hx'] at h
   rw[hx]
   dsimp only at h ⊢
   rw[Bool.not_eq_true',decide_eq_false_iff_not] at h ⊢
   have:=pw' sX hx hx' z
   omega
 have EZ:=c.le
 have lo1:∀ j x,j<k->X[j]? = some x->φ x<φ y0:=fun j x hj hx=>by
  have:=c.lo j hj
  rw[hx] at this
  dsimp only at this
  rw[Bool.not_eq_true',decide_eq_false_iff_not] at this
  have:=ne x (List.mem_of_getElem? hx) y0 EX
  omega
 have hi1:∀ j x,k<=j->X[j]? = some x->φ y0<φ x:=fun j x hj hx=>by
  have:=c.hi j hj (List.getElem?_eq_some_iff.mp hx).1
  rw[hx] at this
  dsimp only at this
  rw[Bool.not_eq_false'] at this
  exact of_decide_eq_true this
 have sk:∀ y∈Y,φ y0<=φ y:=fun y hy=>by
  obtain⟨j,hj⟩:=List.mem_iff_getElem?.mp hy
  exact pw' sY jM hj (Nat.zero_le _)
 have oU:∀ x∈X,φ x<=φ xl:=fun x hx=>by
  obtain⟨j,hj⟩:=List.mem_iff_getElem?.mp hx
  have:=(List.getElem?_eq_some_iff.mp hj).1
  exact pw' sX hj oS (by omega)
 dsimp only
 refine bA (fun d=>wpS_pure (whole (fun x hx y hy=>?_) _ rfl rfl rfl rfl)) fun d1=>?_
 · rw[beq_iff_eq] at d
   obtain⟨j,hj⟩:=List.mem_iff_getElem?.mp hx
   have:=(List.getElem?_eq_some_iff.mp hj).1
   exact Int.lt_of_lt_of_le (lo1 j x (by omega) hj) (sk y hy)
 rw[beq_iff_eq] at d1
 have sq:=gX ha oS
 rw[show pre.length+(X.length - 1)=pre.length+k+(X.length - k) - 1 by omega] at sq
 refine wpS_bind (eB sq ?_)
 refine wpS_bind (qb C (p:=fun j=>match Y[j]? with | some y=>decide (φ y<φ xl) | none=>false) hk (eX xl EY) (fun j z=>?_) (fun a b z z' h=>?_) (by omega) fun k2 c2=>?_)
 · obtain⟨y,hy⟩:∃ y,Y[j]? = some y:=⟨_,List.getElem?_eq_getElem z⟩
   exact⟨y,gY ha hy,eY y (List.mem_of_getElem? hy),by rw[hy];rfl⟩
 · obtain⟨y,hy⟩:∃ y,Y[a]? = some y:=⟨_,List.getElem?_eq_getElem (by omega)⟩
   obtain⟨y',hy'⟩:∃ y,Y[b]? = some y:=⟨_,List.getElem?_eq_getElem z'⟩
   dsimp only at h ⊢
   rw[hy'] at h
   rw[hy]
   dsimp only at h ⊢
   have h:=of_decide_eq_true h
   have:=pw' sY hy hy' z
   exact  decide_eq_true (by omega)
 have su:=c2.le
 have lo2:∀ j y,j<k2->Y[j]? = some y->φ y<φ xl:=fun j y hj hy=>by
  have:=c2.lo j hj
  rw[hy] at this
  exact of_decide_eq_true this
 have hi2:∀ j y,k2<=j->Y[j]? = some y->φ xl<φ y:=fun j y hj hy=>by
  have:=c2.hi j hj (List.getElem?_eq_some_iff.mp hy).1
  rw[hy] at this
  have:=of_decide_eq_false this
  have:=ne xl EY y (List.mem_of_getElem? hy)
  omega
 dsimp only
 refine bA (fun d=>wpS_pure (whole (fun x hx y hy=>?_) _ rfl rfl rfl rfl)) fun d2=>?_
 · rw[beq_iff_eq] at d
   obtain⟨j,hj⟩:=List.mem_iff_getElem?.mp hy
   exact Int.lt_of_le_of_lt (oU x hx) (hi2 j y (by omega) hj)
 rw[beq_iff_eq] at d2
 have e1:=xX ha EZ
 have e2:=xY ha su
 have m6:((arrOf st).extract (pre.length+k) (pre.length+X.length)).size=X.length - k:=by rw[<- Array.length_toList,e1,List.length_drop]
 have T:mG φ El ((arrOf st).extract (pre.length+k) (pre.length+X.length)) ((arrOf st).extract (pre.length+X.length) (pre.length+X.length+k2)):=by
  refine⟨?_,?_,?_,?_,?_,?_,?_⟩
  · rw[e1];exact fun x hx=>eX x (List.mem_of_mem_drop hx)
  · rw[e2];exact fun x hx=>eY x (List.mem_of_mem_take hx)
  · rw[e1];exact sX.sublist (List.drop_sublist _ _)
  · rw[e2];exact sY.sublist (List.take_sublist _ _)
  · rw[e1,e2];exact fun x hx y hy=>ne x (List.mem_of_mem_drop hx) y (List.mem_of_mem_take hy)
  · obtain⟨x,hx⟩:∃ x,X[k]? = some x:=⟨_,List.getElem?_eq_getElem (by omega)⟩
    refine⟨x,y0,?_,?_,hi1 k x (Nat.le_refl _) hx⟩
    · rw[<- Array.getElem?_toList,e1,List.getElem?_drop];exact hx
    · rw[<- Array.getElem?_toList,e2,List.getElem?_take,if_pos (by omega)];exact jM
  · refine⟨xl,?_,?_⟩
    · rw[m6, <- Array.getElem?_toList,e1,List.getElem?_drop,show k+(X.length - k - 1)=X.length - 1 by omega];exact oS
    · rw[e2]
      intro y hy
      obtain⟨j,hj⟩:=List.mem_iff_getElem?.mp hy
      rw[List.getElem?_take] at hj
      split at hj
      · rename_i z;exact lo2 j y z hj
      · cases hj
 have Md:(arrOf st).size=pre.length+X.length+Y.length+post.length:=by rw[<- Array.length_toList,ha];simp;omega
 have fin:∀ (m:Array Keyed) (st2:SortSt),Good φ ((arrOf st).extract (pre.length+k) (pre.length+X.length)) ((arrOf st).extract (pre.length+X.length) (pre.length+X.length+k2)) m->kindOf st2=kindOf st->failedOf st2=failedOf st->pendingOf st2=((pendingOf st).setIfInBounds i (pre.length,X.length+Y.length,p1)).eraseIdxIfInBounds (i+1)->arrOf st2=arrOf st ->
  ∀ st3,kindOf st3=kindOf st2->failedOf st3=failedOf st2->pendingOf st3=pendingOf st2->arrOf st3=m.toList.zipIdx.foldl (fun a x=>a.setIfInBounds (pre.length+k+x.2) x.1) (arrOf st2)->Q (failedOf st3).isNone st3:=by
  intro m st2 gm z1 z2 z3 z4 st3 y1 y2 y3 y4
  obtain⟨g1,g2⟩:=gm
  rw[e1,e2] at g2
  have ml:m.toList.length=X.length - k+k2:=by rw[g2.length_eq,List.length_append,List.length_drop,List.length_take];omega
  have e3:(arrOf st3).toList=pre++(X.take k++m.toList++Y.drop k2)++post:=by
   rw[y4,z4,wb m.toList (arrOf st) (pre.length+k) 0 (by rw[ml,Md];omega),Nat.add_zero,ml,ha]
   have t1:(pre++X++Y++post).take (pre.length+k)=pre++X.take k:=by
    rw[List.append_assoc,List.append_assoc,List.take_append,List.take_of_length_le (by omega),Nat.add_sub_cancel_left,List.take_append_of_le_length EZ]
   have t2:(pre++X++Y++post).drop (pre.length+k+(X.length - k+k2))=Y.drop k2++post:=by
    rw[List.append_assoc (pre++X),List.drop_append,List.drop_eq_nil_of_le (by rw[List.length_append];omega),List.length_append,List.nil_append,show pre.length+k+(X.length - k+k2) - (pre.length+X.length)=k2 by omega,List.drop_append_of_le_length su]
   rw[t1,t2]
   simp
  have hfn:failedOf st3=none:=by rw[y2,z2,hf]
  rw[hfn]
  have mm:∀ x∈m.toList,x∈X.drop k\/x∈Y.take k2:=fun x hx=>List.mem_append.mp (g2.mem_iff.mp hx)
  refine q st3 _ (y1.trans (z1.trans hk)) hfn (y3.trans z3) e3 ?_ ?_
  · refine List.pairwise_append.mpr ⟨List.pairwise_append.mpr ⟨sX.sublist (List.take_sublist _ _),g1,fun x hx y hy=>?_⟩,sY.sublist (List.drop_sublist _ _),fun x hx y hy=>?_⟩
    · obtain⟨j,hj⟩:=List.mem_iff_getElem?.mp hx
      rw[List.getElem?_take] at hj
      split at hj
      · rename_i z
        have l0:=lo1 j x z hj
        rcases mm y hy with w | w
        · obtain⟨j',hj'⟩:=List.mem_iff_getElem?.mp w
          rw[List.getElem?_drop] at hj'
          have:=hi1 _ y (by omega) hj'
          omega
        · have:=sk y (List.mem_of_mem_take w)
          omega
      · cases hj
    · obtain⟨j,hj⟩:=List.mem_iff_getElem?.mp hy
      rw[List.getElem?_drop] at hj
      have l0:=hi2 _ y (by omega) hj
      have:φ x<=φ xl:=by
       rcases List.mem_append.mp hx with w | w
       · exact oU x (List.mem_of_mem_take w)
       · rcases mm x w with w | w
         · exact oU x (List.mem_of_mem_drop w)
         · obtain⟨j',hj'⟩:=List.mem_iff_getElem?.mp w
           rw[List.getElem?_take] at hj'
           split at hj'
           · rename_i z;exact Int.le_of_lt (lo2 j' x z hj')
           · cases hj'
      omega
  · have p1:(X.take k++m.toList++Y.drop k2).Perm (X.take k++(X.drop k++Y.take k2)++Y.drop k2):=(g2.append_left _).append_right _
    refine p1.trans (List.Perm.of_eq ?_)
    rw[<- List.append_assoc,List.take_append_drop,List.append_assoc,List.take_append_drop]
 refine bA (fun _=>?_) fun _=>?_
 · refine wpS_bind (L7 C T hk fun m st2 hs2 gm=>?_)
   refine wpS_bind (wpS_modify ?_)
   refine wpS_bind (wpS_get (wpS_pure ?_))
   exact fin m st2 gm hs2.k hs2.f hs2.p hs2.a _ rfl rfl rfl rfl
 · refine wpS_bind (L_ C T hk fun m st2 hs2 gm=>?_)
   refine wpS_bind (wpS_modify ?_)
   refine wpS_bind (wpS_get (wpS_pure ?_))
   exact fin m st2 gm hs2.k hs2.f hs2.p hs2.a _ rfl rfl rfl rfl
end
section
variable{M:Model}{A:Around}{E:Value->Shared->Prop}{s:Shared}{κ:SortKind}{φ:Keyed->Int}{El:Keyed->Prop}{a0:Array Keyed}
def F(φ:Keyed->Int)(a:Array Keyed)(i:Nat):Int:=match a[i]? with
 |some x=>φ x
 |none=>0
def Up(φ:Keyed->Int)(a:Array Keyed)(lo n:Nat):Prop:=∀ i j,lo<=i->i<j->j<lo+n->F φ a i<F φ a j
def Dn(φ:Keyed->Int)(a:Array Keyed)(lo n:Nat):Prop:=∀ i j,lo<=i->i<j->j<lo+n->F φ a j<F φ a i
structure Bs(κ:SortKind)(a0:Array Keyed)(pn:Array (Nat×Nat×Nat))(lo:Nat)(b:Array Keyed)(st:SortSt):Prop where
 k:kindOf st=κ
 f:failedOf st=none
 p:pendingOf st=pn
 pm:(arrOf st).Perm a0
 out:∀ i,i<lo->(arrOf st)[i]? = b[i]?
structure Un(φ:Keyed->Int)(El:Keyed->Prop)(a0:Array Keyed):Prop where
 el:∀ x∈a0.toList,El x
 nd:(a0.toList.map φ).Nodup
theorem qg{a:Array Keyed}{i:Nat}{x:Keyed}(h:a[i]? = some x):F φ a i=φ x:=by unfold F;rw[h]
theorem jN{a b:Array Keyed}{i j:Nat}(h:a[i]? = b[j]?):F φ a i=F φ b j:=by unfold F;rw[h]
theorem Un.ne(U:Un φ El a0){a:Array Keyed}(pm:a.Perm a0){i j:Nat}(h:i<j)(hj:j<a.size):F φ a i≠F φ a j:=by
 have nd:(a.toList.map φ).Nodup:=((Array.perm_iff_toList_perm.mp pm).map φ).nodup_iff.mpr U.nd
 obtain⟨x,hx⟩:=at_of (a:=a) (i:=i) (by omega)
 obtain⟨y,hy⟩:=at_of hj
 rw[qg hx,qg hy]
 intro e
 have l1:i<(a.toList.map φ).length:=by simp;omega
 have l2:j<(a.toList.map φ).length:=by simp;omega
 have:=(List.getElem_inj (h₀:=l1) (h₁:=l2) nd).mp (by
  obtain⟨_,e1⟩:=Array.getElem?_eq_some_iff.mp hx
  obtain⟨_,e2⟩:=Array.getElem?_eq_some_iff.mp hy
  simp[e1,e2,e])
 omega
theorem qh(C:jr M A E s κ φ El)(U:Un φ El a0){st:SortSt}{Q:Option Bool->SortSt->Prop}(hk:kindOf st=κ)(pm:(arrOf st).Perm a0){i j:Nat}(hi:i<a0.size)(hj:j<a0.size)(q:Q (some (decide (F φ (arrOf st) i<F φ (arrOf st) j))) st):wpS M A E s (ltAt' i j) Q st:=by
 have sz:=pm.size_eq
 obtain⟨x,hx⟩:=at_of (a:=arrOf st) (i:=i) (by omega)
 obtain⟨y,hy⟩:=at_of (a:=arrOf st) (i:=j) (by omega)
 rw[qg hx,qg hy] at q
 rw[ltAt'_eq]
 refine wpS_bind (wpS_get ?_)
 refine wpS_bind (eB hx ?_)
 refine wpS_bind (eB hy ?_)
 have m:∀ x∈(arrOf st).toList,El x:=fun x hx=>U.el x ((Array.perm_iff_toList_perm.mp pm).mem_iff.mp hx)
 exact C x y st _ (m x (eT hx)) (m y (eT hy)) hk q
theorem Up.one{a:Array Keyed}{lo:Nat}:Up φ a lo 1:=fun i j h1 h2 h3=>by omega
theorem Up.next{a:Array Keyed}{lo n:Nat}(h:Up φ a lo n)(hn:1<=n)(e:F φ a (lo+n - 1)<F φ a (lo+n)):Up φ a lo (n+1):=fun i j h1 h2 h3=>by
 by_cases z:j<lo+n
 · exact h i j h1 h2 z
 · have:j=lo+n:=by omega
   subst this
   by_cases y:i=lo+n - 1
   · rw[y];exact e
   · exact Int.lt_trans (h i (lo+n - 1) h1 (by omega) (by omega)) e
theorem Dn.next{a:Array Keyed}{lo n:Nat}(h:Dn φ a lo n)(hn:1<=n)(e:F φ a (lo+n)<F φ a (lo+n - 1)):Dn φ a lo (n+1):=fun i j h1 h2 h3=>by
 by_cases z:j<lo+n
 · exact h i j h1 h2 z
 · have:j=lo+n:=by omega
   subst this
   by_cases y:i=lo+n - 1
   · rw[y];exact e
   · exact Int.lt_trans e (h i (lo+n - 1) h1 (by omega) (by omega))
theorem Me(C:jr M A E s κ φ El)(U:Un φ El a0){pn:Array (Nat×Nat×Nat)}{lo:Nat}{b:Array Keyed}{st:SortSt}{Q:Option Nat->SortSt->Prop}(hl:lo<a0.size)(B:Bs κ a0 pn lo b st)(q:∀ n st',1<=n->lo+n<=a0.size->Bs κ a0 pn lo b st'->Up φ (arrOf st') lo n->Q (some n) st'):wpS M A E s (countRun' lo (a0.size - lo)) Q st:=by
 unfold countRun'
 refine wpS_bind (wpS_mono (wpS_forRange (I:=fun i t st'=>st'=st/\t=(none,i)/\Up φ (arrOf st) lo i) (Q:=fun t st'=>st'=st/\∃ n,t=(none,n)/\1<=n/\lo+n<=a0.size/\Up φ (arrOf st) lo n/\(lo+n<a0.size->F φ (arrOf st) (lo+n)<F φ (arrOf st) (lo+n - 1))) ?_ ?_ ⟨rfl,rfl,Up.one⟩) ?_)
 · rintro i t st' h1 h2 ⟨rfl,rfl,up⟩
   dsimp only
   refine wpS_bind (qh C U B.k B.pm (by omega) (by omega) ?_)
   dsimp only
   refine bA (fun c=>wpS_pure ⟨rfl,i,rfl,h1,by omega,up,fun _=>of_decide_eq_true c⟩) fun c=>?_
   have c : ¬ F φ (arrOf st') (lo+i)<F φ (arrOf st') (lo+i - 1):=by simpa using c
   have ne:=U.ne B.pm (i:=lo+i - 1) (j:=lo+i) (by omega) (by rw[B.pm.size_eq];omega)
   exact wpS_pure ⟨rfl,rfl,up.next h1 (by omega)⟩
 · rintro t st' ⟨rfl,rfl,up⟩
   exact⟨rfl,_,rfl,by omega,by omega,up,by omega⟩
 · rintro t st' ⟨rfl,n,rfl,n1,n2,up,dn⟩
   dsimp only
   refine bA (fun _=>wpS_pure (q n _ n1 n2 B up)) fun c=>?_
   rw[beq_iff_eq] at c
   have dn:=dn (by omega)
   refine bA (fun c2=>?_) fun c2=>?_
   · refine wpS_bind (qh C U B.k B.pm (by omega) (by omega) ?_)
     have r:=up lo (lo+n - 1) (Nat.le_refl _) (by omega) (by omega)
     rw[decide_eq_true r]
     dsimp only
     refine bA (fun _=>wpS_pure (q n _ n1 n2 B up)) fun z=>absurd rfl z
   · have e1:n=1:=by omega
     subst e1
     refine wpS_bind (wpS_lift (wpAny_rule ⟨rfl,?_⟩))
     refine wpS_bind (wpS_mono (wpS_forRange (I:=fun i t st''=>st''=st'/\t=(none,i,0)/\Dn φ (arrOf st') lo i) (Q:=fun t st''=>st''=st'/\∃ n,t=(none,n,0)/\2<=n/\lo+n<=a0.size/\Dn φ (arrOf st') lo n) ?_ ?_ ⟨rfl,rfl,?_⟩) ?_)
     · rintro i t st'' h1 h2 ⟨rfl,rfl,up⟩
       dsimp only
       refine wpS_bind (qh C U B.k B.pm (by omega) (by omega) ?_)
       dsimp only
       refine bA (fun c=>?_) fun c=>?_
       · rw[if_neg (by omega)]
         exact wpS_pure ⟨rfl,rfl,up.next (by omega) (of_decide_eq_true c)⟩
       · refine wpS_bind (qh C U B.k B.pm (by omega) (by omega) ?_)
         have c : ¬ F φ (arrOf st'') (lo+i)<F φ (arrOf st'') (lo+i - 1):=by simpa using c
         have ne:=U.ne B.pm (i:=lo+i - 1) (j:=lo+i) (by omega) (by rw[B.pm.size_eq];omega)
         rw[decide_eq_true (show F φ (arrOf st'') (lo+i - 1)<F φ (arrOf st'') (lo+i) by omega)]
         dsimp only
         refine bA (fun _=>wpS_pure ⟨rfl,i,rfl,by omega,by omega,up⟩) fun z=>absurd rfl z
     · rintro t st'' ⟨rfl,rfl,up⟩
       exact⟨rfl,_,rfl,by omega,by omega,up⟩
     · exact Dn.next (n:=1) (fun i j h1 h2 h3=>by omega) (Nat.le_refl _) dn
     · rintro t st'' ⟨rfl,n,rfl,m1,m2,Mf⟩
       dsimp only
       rw[if_neg (by omega)]
       have sz:=B.pm.size_eq
       have gm:=fun k=>getElem?_mirror_all (xs:=arrOf st'') (i:=lo) (j:=lo+n) (by omega) k
       refine wpS_bind (wpS_modify ?_)
       have B2:Bs κ a0 pn lo b (setArr st'' (mirror (arrOf st'') lo (lo+n) ((lo+n - lo) / 2))):=⟨B.k,B.f,B.p,(mirror_perm _ _ _ _).trans B.pm,fun i hi=>by
        show(mirror (arrOf st'') lo (lo+n) ((lo+n - lo) / 2))[i]? = _
        rw[gm,if_neg (by omega)]
        exact B.out i hi⟩
       have Mh:Up φ (mirror (arrOf st'') lo (lo+n) ((lo+n - lo) / 2)) lo n:=fun i j h1 h2 h3=>by
        have e1:=gm i
        rw[if_pos ⟨h1,by omega⟩] at e1
        have e2:=gm j
        rw[if_pos ⟨by omega,h3⟩] at e2
        rw[jN e1,jN e2]
        exact Mf _ _ (by omega) (by omega) (by omega)
       refine wpS_bind (wpS_mono (wpS_forRange (I:=fun i t st3=>st3=setArr st'' (mirror (arrOf st'') lo (lo+n) ((lo+n - lo) / 2))/\t=(none,i)/\Up φ (mirror (arrOf st'') lo (lo+n) ((lo+n - lo) / 2)) lo i) (Q:=fun t st3=>st3=setArr st'' (mirror (arrOf st'') lo (lo+n) ((lo+n - lo) / 2))/\∃ n',t=(none,n')/\1<=n'/\lo+n'<=a0.size/\Up φ (mirror (arrOf st'') lo (lo+n) ((lo+n - lo) / 2)) lo n') ?_ ?_ ⟨rfl,rfl,Mh⟩) ?_)
       · rintro i t st3 h1 h2 ⟨rfl,rfl,up⟩
         dsimp only
         refine wpS_bind (qh C U B2.k B2.pm (by omega) (by omega) ?_)
         dsimp only
         refine bA (fun c=>wpS_pure ⟨rfl,i,rfl,by omega,by omega,up⟩) fun c=>?_
         have c : ¬ F φ (mirror (arrOf st'') lo (lo+n) ((lo+n - lo) / 2)) (lo+i)<F φ (mirror (arrOf st'') lo (lo+n) ((lo+n - lo) / 2)) (lo+i - 1):=by simpa using c
         have ne:=U.ne B2.pm (i:=lo+i - 1) (j:=lo+i) (by omega) (by rw[B2.pm.size_eq];omega)
         have ne:F φ (mirror (arrOf st'') lo (lo+n) ((lo+n - lo) / 2)) (lo+i - 1)≠F φ (mirror (arrOf st'') lo (lo+n) ((lo+n - lo) / 2)) (lo+i):=ne
         exact wpS_pure ⟨rfl,rfl,up.next (by omega) (by omega)⟩
       · rintro t st3 ⟨rfl,rfl,up⟩
         exact⟨rfl,_,rfl,by omega,by omega,up⟩
       · rintro t st3 ⟨rfl,n',rfl,k1,k2,up⟩
         exact wpS_pure (q n' _ k1 k2 B2 up)
end
section
variable{M:Model}{A:Around}{E:Value->Shared->Prop}{s:Shared}{κ:SortKind}{φ:Keyed->Int}{El:Keyed->Prop}{a0:Array Keyed}
theorem Mi(C:jr M A E s κ φ El)(U:Un φ El a0){pn:Array (Nat×Nat×Nat)}{lo n ok:Nat}{b:Array Keyed}{st:SortSt}{Q:Bool->SortSt->Prop}(hn:lo+n<=a0.size)(ho:1<=ok)(ho2:ok<=n)(B:Bs κ a0 pn lo b st)(up:Up φ (arrOf st) lo ok)(q:∀ st',Bs κ a0 pn lo b st'->Up φ (arrOf st') lo n->Q true st'):wpS M A E s (binarySort' lo n ok) Q st:=by
 unfold binarySort'
 refine wpS_bind (wpS_mono (wpS_forRange (I:=fun i t st'=>t=(none,())/\Bs κ a0 pn lo b st'/\Up φ (arrOf st') lo i) (Q:=fun t st'=>t=(none,())/\Bs κ a0 pn lo b st'/\Up φ (arrOf st') lo n) ?_ ?_ ⟨rfl,B,by rw[show max ok 1=ok by omega];exact up⟩) ?_)
 · rintro k t st' h1 h2 ⟨rfl,B,up⟩
   dsimp only
   have sz:=B.pm.size_eq
   have k1:1<=k:=by omega
   refine wpS_bind (wpS_mono (wpS_forRange (I:=fun i t st''=>st''=st'/\∃ l r,t=(none,l,r)/\l<=r/\r<=k/\r - l<=k - i/\(∀ j,j<l->F φ (arrOf st') (lo+j)<F φ (arrOf st') (lo+k))/\(∀ j,r<=j->j<k->F φ (arrOf st') (lo+k)<F φ (arrOf st') (lo+j)))
    (Q:=fun t st''=>st''=st'/\∃ l r,t=(none,l,r)/\l<=k/\(∀ j,j<l->F φ (arrOf st') (lo+j)<F φ (arrOf st') (lo+k))/\(∀ j,l<=j->j<k->F φ (arrOf st') (lo+k)<F φ (arrOf st') (lo+j))) ?_ ?_ ⟨rfl,0,k,rfl,by omega,by omega,by omega,fun j hj=>by omega,fun j hj hj'=>by omega⟩) ?_)
   · rintro i t st'' _ hi ⟨rfl,l,r,rfl,l1,l2,l3,l4,l5⟩
     dsimp only
     refine bA (fun c=>wpS_pure ⟨rfl,l,r,rfl,by omega,l4,fun j hj hj'=>l5 j (by omega) hj'⟩) fun c=>?_
     refine wpS_bind (qh C U B.k B.pm (by omega) (by omega) ?_)
     dsimp only
     refine bA (fun c2=>?_) fun c2=>?_
     · have c2:=of_decide_eq_true c2
       refine wpS_pure ⟨rfl,l,_,rfl,by omega,by omega,by omega,l4,fun j hj hj'=>?_⟩
       by_cases e:j=(l+r) / 2
       · rw[e];exact c2
       · exact Int.lt_trans c2 (up _ _ (by omega) (by omega) (by omega))
     · have c2 : ¬ F φ (arrOf st'') (lo+k)<F φ (arrOf st'') (lo+(l+r) / 2):=by simpa using c2
       have ne:=U.ne B.pm (i:=lo+(l+r) / 2) (j:=lo+k) (by omega) (by omega)
       have lt:F φ (arrOf st'') (lo+(l+r) / 2)<F φ (arrOf st'') (lo+k):=by omega
       refine wpS_pure ⟨rfl,_,r,rfl,by omega,l2,by omega,fun j hj=>?_,l5⟩
       by_cases e:j=(l+r) / 2
       · rw[e];exact lt
       · exact Int.lt_trans (up _ _ (by omega) (by omega) (by omega)) lt
   · rintro t st'' ⟨rfl,l,r,rfl,l1,l2,l3,l4,l5⟩
     exact⟨rfl,l,r,rfl,by omega,l4,fun j hj hj'=>l5 j (by omega) hj'⟩
   · rintro t st'' ⟨rfl,l,r,rfl,l1,l4,l5⟩
     dsimp only
     refine wpS_bind (wpS_modify (wpS_pure ?_))
     have gb:=fun j=>getElem?_bubble (xs:=arrOf st'') (src:=lo+k) (by omega) (lo+k - (lo+l)) (by omega) j
     have dd:lo+k - (lo+k - (lo+l))=lo+l:=by omega
     rw[dd] at gb
     refine⟨rfl,⟨B.k,B.f,B.p,(bubble_perm _ _ _).trans B.pm,fun i hi=>?_⟩,fun i j h3 h4 h5=>?_⟩
     · show(bubble (arrOf st'') (lo+k) (lo+k - (lo+l)))[i]? = _
       rw[gb,if_neg (by omega),if_neg (by omega)]
       exact B.out i hi
     · show F φ (bubble (arrOf st'') (lo+k) (lo+k - (lo+l))) i<F φ (bubble (arrOf st'') (lo+k) (lo+k - (lo+l))) j
       have ei:=gb i
       have ej:=gb j
       by_cases c1:i=lo+l
       · rw[if_pos c1] at ei
         rw[if_neg (by omega),if_pos ⟨by omega,by omega⟩] at ej
         rw[jN ei,jN ej]
         have:=l5 (j - 1 - lo) (by omega) (by omega)
         rw[show lo+(j - 1 - lo)=j - 1 by omega] at this
         exact this
       · rw[if_neg c1] at ei
         by_cases c2:j=lo+l
         · rw[if_neg (by omega)] at ei
           rw[if_pos c2] at ej
           rw[jN ei,jN ej]
           have:=l4 (i - lo) (by omega)
           rw[show lo+(i - lo)=i by omega] at this
           exact this
         · rw[if_neg c2] at ej
           by_cases c3:lo+l<i
           · rw[if_pos ⟨c3,by omega⟩] at ei
             rw[if_pos ⟨by omega,by omega⟩] at ej
             rw[jN ei,jN ej]
             exact up _ _ (by omega) (by omega) (by omega)
           · rw[if_neg (by omega)] at ei
             by_cases c4:lo+l<j
             · rw[if_pos ⟨c4,by omega⟩] at ej
               rw[jN ei,jN ej]
               exact up _ _ (by omega) (by omega) (by omega)
             · rw[if_neg (by omega)] at ej
               rw[jN ei,jN ej]
               exact up _ _ (by omega) (by omega) (by omega)
 · rintro t st' ⟨rfl,B,up⟩
   rw[show max (max ok 1) n=n by omega] at up
   exact⟨rfl,B,up⟩
 · rintro t st' ⟨rfl,B,up⟩
   exact wpS_pure (q st' B up)
end
section
variable{M:Model}{A:Around}{E:Value->Shared->Prop}{s:Shared}{κ:SortKind}{φ:Keyed->Int}{El:Keyed->Prop}{a0:Array Keyed}
abbrev Rs:=List (List Keyed×Nat)
def flat:Rs->List Keyed
 | []=>[]
 |r::t=>r.1++flat t
def fk:Nat->Rs->List (Nat×Nat×Nat)
 | _,[]=>[]
 |o,r::t=>(o,r.1.length,r.2)::fk (o+r.1.length) t
theorem kn:∀ a b:Rs,flat (a++b)=flat a++flat b
 | [],b=>rfl
 |r::t,b=>by rw[List.cons_append,flat,flat,kn t b,List.append_assoc]
theorem qi:∀ (o:Nat) (a b:Rs),fk o (a++b)=fk o a++fk (o+(flat a).length) b
 |o,[],b=>rfl
 |o,r::t,b=>by rw[List.cons_append,fk,fk,qi,flat,List.length_append,List.cons_append,Nat.add_assoc]
theorem sv:∀ (o:Nat) (a:Rs),(fk o a).length=a.length
 | _,[]=>rfl
 |o,r::t=>by rw[fk,List.length_cons,List.length_cons,sv]
structure Ri(κ:SortKind)(φ:Keyed->Int)(a0:Array Keyed)(rs:Rs)(rest:List Keyed)(st:SortSt):Prop where
 k:kindOf st=κ
 f:failedOf st=none
 p:pendingOf st=(fk 0 rs).toArray
 pm:(arrOf st).Perm a0
 ar:(arrOf st).toList=flat rs++rest
 so:∀ r∈rs,r.1≠[]/\r.1.Pairwise fun x y=>φ x<φ y
theorem Mj{rs:Rs}{i:Nat}(h:i+1<rs.length):∃ A X Y B,rs=A++X::Y::B/\A.length=i:=by
 refine⟨rs.take i,rs[i],rs[i+1],rs.drop (i+2),?_,by rw[List.length_take];omega⟩
 rw[<- List.drop_eq_getElem_cons, <- List.drop_eq_getElem_cons,List.take_append_drop]
theorem Ri.merge(C:jr M A E s κ φ El)(U:Un φ El a0){rs:Rs}{rest:List Keyed}{st:SortSt}(R:Ri κ φ a0 rs rest st){i:Nat}(hi:i+1<rs.length){Q:Bool->SortSt->Prop}(q:∀ rs' st',Ri κ φ a0 rs' rest st'->rs'.length+1=rs.length->(flat rs').length=(flat rs).length->Q true st'):wpS M A E s (mergeAt' i) Q st:=by
 obtain⟨As,⟨X,p1⟩,⟨Y,p2⟩,Bs,rfl,rfl⟩:=Mj hi
 have ar:=R.ar
 have e0:flat (As++(X,p1)::(Y,p2)::Bs)=flat As++X++Y++flat Bs:=by rw[kn,flat,flat];simp
 rw[e0] at ar
 have e1:fk 0 (As++(X,p1)::(Y,p2)::Bs)=fk 0 As++((flat As).length,X.length,p1)::((flat As).length+X.length,Y.length,p2)::fk ((flat As).length+X.length+Y.length) Bs:=by
  rw[qi,fk,fk,Nat.zero_add]
 have pp:=R.p
 rw[e1] at pp
 have lA:(fk 0 As).length=As.length:=sv 0 As
 have sX:=R.so (X,p1) (by simp)
 have sY:=R.so (Y,p2) (by simp)
 have pl:=Array.perm_iff_toList_perm.mp R.pm
 have mX:∀ x∈X,x∈(arrOf st).toList:=fun x hx=>by rw[ar];simp[hx]
 have mY:∀ x∈Y,x∈(arrOf st).toList:=fun x hx=>by rw[ar];simp[hx]
 have nd:((arrOf st).toList.map φ).Nodup:=(pl.map φ).nodup_iff.mpr U.nd
 have ne:∀ x∈X,∀ y∈Y,φ x≠φ y:=fun x hx y hy e=>by
  rw[ar] at nd
  simp only[List.map_append,List.append_assoc] at nd
  have nd:=(List.nodup_append.mp nd).2.1
  have dj:=(List.nodup_append.mp nd).2.2
  exact dj (φ x) (List.mem_map_of_mem hx) (φ y) (List.mem_append_left _ (List.mem_map_of_mem hy)) e
 refine Mb C (pre:=flat As) (X:=X) (Y:=Y) (post:=flat Bs++rest) (p1:=p1) (p2:=p2) R.k R.f (by rw[ar];simp) ?_ ?_ (fun x hx=>U.el x (pl.mem_iff.mp (mX x hx))) (fun x hx=>U.el x (pl.mem_iff.mp (mY x hx))) sX.2 sY.2 ne sX.1 sY.1 fun st' Z z1 z2 z3 z4 z5 z6=>?_
 · rw[pp,List.getElem?_toArray,List.getElem?_append_right (by omega),lA,Nat.sub_self];rfl
 · rw[pp,List.getElem?_toArray,List.getElem?_append_right (by omega),lA,show As.length+1 - As.length=1 by omega];rfl
 · have lZ:Z.length=X.length+Y.length:=by rw[z6.length_eq,List.length_append]
   refine q (As++(Z,p1)::Bs) st' ⟨z1,z2,?_,?_,?_,?_⟩ (by simp;omega) ?_
   · rw[z3,pp]
     apply Array.toList_inj.mp
     rw[Array.toList_eraseIdxIfInBounds,Array.toList_setIfInBounds]
     show((fk 0 As++((flat As).length,X.length,p1)::((flat As).length+X.length,Y.length,p2)::fk ((flat As).length+X.length+Y.length) Bs).set As.length _).eraseIdx (As.length+1)=fk 0 (As++(Z,p1)::Bs)
     rw[List.set_append_right _ _ (by omega),lA,Nat.sub_self,List.set_cons_zero,List.eraseIdx_append_of_length_le (by omega),lA,show As.length+1 - As.length=1 by omega,qi,fk,lZ,Nat.zero_add, <- Nat.add_assoc]
     rfl
   · refine(Array.perm_iff_toList_perm.mpr ?_).trans R.pm
     rw[z4,ar]
     have:(flat As++Z++(flat Bs++rest)).Perm (flat As++(X++Y)++(flat Bs++rest)):=(z6.append_left _).append_right _
     refine this.trans (List.Perm.of_eq (by simp))
   · rw[z4,kn,flat];simp
   · intro r hr
     rcases List.mem_append.mp hr with h | h
     · exact R.so r (by simp[h])
     · rcases List.mem_cons.1 h with rfl | h
       · refine⟨fun e=>?_,z5⟩
         have e:Z=[]:=e
         have lx:0<X.length:=List.length_pos_iff.mpr sX.1
         rw[e,List.length_nil] at lZ
         omega
       · exact R.so r (by simp[h])
   · rw[e0,kn,flat]
     simp only[List.length_append]
     omega
theorem Ml{rs:Rs}{rest:List Keyed}{st st':SortSt}{n:Nat}(R:Ri κ φ a0 rs rest st)(B:Bs κ a0 (pendingOf st) (flat rs).length (arrOf st) st')(n1:1<=n)(hn:(flat rs).length+n<=a0.size)(up:Up φ (arrOf st') (flat rs).length n) :
 ∃ run rest',run.length=n/\run≠[]/\(run.Pairwise fun x y=>φ x<φ y)/\Ri κ φ a0 rs (run++rest') st':=by
 have sz:=B.pm.size_eq
 have tk:(arrOf st').toList.take (flat rs).length=flat rs:=by
  have e:(arrOf st').toList.take (flat rs).length=(arrOf st).toList.take (flat rs).length:=by
   refine List.ext_getElem? fun i=>?_
   rw[List.getElem?_take,List.getElem?_take]
   split
   · rename_i z
     have:=B.out i z
     rw[<- Array.getElem?_toList, <- Array.getElem?_toList] at this
     exact this
   · rfl
  rw[e,R.ar,List.take_left]
 refine⟨((arrOf st').toList.drop (flat rs).length).take n,((arrOf st').toList.drop (flat rs).length).drop n,?_,?_,?_,B.k,B.f,B.p.trans R.p,B.pm,?_,R.so⟩
 · rw[List.length_take,List.length_drop,Array.length_toList];omega
 · intro z
   have:=congrArg List.length z
   rw[List.length_take,List.length_drop,Array.length_toList] at this
   simp at this
   omega
 · rw[List.pairwise_iff_getElem]
   intro i j hi hj lt
   rw[List.length_take] at hi hj
   rw[List.getElem_take,List.getElem_take,List.getElem_drop,List.getElem_drop]
   have:=up ((flat rs).length+i) ((flat rs).length+j) (by omega) (by omega) (by omega)
   rw[qg (Array.getElem?_eq_getElem (by omega)),qg (Array.getElem?_eq_getElem (by omega))] at this
   simpa using this
 · rw[List.take_append_drop]
   conv=>rhs;lhs;rw[<- tk]
   rw[List.take_append_drop]
end
section
variable{M:Model}{A:Around}{E:Value->Shared->Prop}{s:Shared}{κ:SortKind}{φ:Keyed->Int}{El:Keyed->Prop}{a0:Array Keyed}
theorem E1:∀ {rs:Rs},(∀ r∈rs,r.1≠[])->rs.length<=(flat rs).length
 | [],_=>Nat.le_refl _
 |r::t,h=>by
   have:=E1 (rs:=t) fun x hx=>h x (List.mem_cons_of_mem _ hx)
   have h0:=List.length_pos_iff.mpr (h r (List.mem_cons_self ..))
   rw[flat,List.length_cons,List.length_append]
   omega
theorem Ri.len{rs:Rs}{rest:List Keyed}{st:SortSt}(R:Ri κ φ a0 rs rest st):(flat rs).length+rest.length=a0.size:=by
 have:=R.pm.size_eq
 rw[<- Array.length_toList,R.ar,List.length_append] at this
 exact this
theorem Mm{c:Prop}[Decidable c]{a b n:Nat}(h:a+1<n)(h':b+1<n):(if c then a else b)+1<n:=by
 split
 · exact h
 · exact h'
theorem Ri.push{rs:Rs}{run rest:List Keyed}{st:SortSt}(R:Ri κ φ a0 rs (run++rest) st)(nr:run≠[])(sr:run.Pairwise fun x y=>φ x<φ y){o:Nat}(ho:o=(flat rs).length):Ri κ φ a0 (rs++[(run,0)]) rest (setPending st ((pendingOf st).push (o,run.length,0))):=by
 refine⟨R.k,R.f,?_,R.pm,?_,fun r hr=>?_⟩
 · show(pendingOf st).push (o,run.length,0)=_
   rw[R.p,qi,ho,Nat.zero_add]
   simp[fk]
 · show(arrOf st).toList=_
   rw[R.ar,kn]
   simp[flat]
 · rcases List.mem_append.mp hr with h | h
   · exact R.so r h
   · rw[List.mem_singleton.mp h];exact⟨nr,sr⟩
theorem Ri.sx{rs:Rs}{rest:List Keyed}{st:SortSt}(R:Ri κ φ a0 rs rest st)(ne:rs≠[])(pw:Nat):∃ rs',rs'≠[]/\flat rs'=flat rs/\Ri κ φ a0 rs' rest (setPending st ((pendingOf st).modify ((pendingOf st).size - 1) fun x=>(x.1,x.2.1,pw))):=by
 obtain⟨B,r,rfl⟩:∃ B r,rs=B++[r]:=⟨rs.dropLast,rs.getLast ne,(List.dropLast_concat_getLast ne).symm⟩
 have fe:flat (B++[(r.1,pw)])=flat (B++[r]):=by rw[kn,kn];rfl
 refine⟨B++[(r.1,pw)],by simp,fe,R.k,R.f,?_,R.pm,by rw[fe];exact R.ar,fun z hz=>?_⟩
 · show(pendingOf st).modify ((pendingOf st).size - 1) (fun x=>(x.1,x.2.1,pw))=_
   rw[R.p,qi,qi]
   have lB:=sv 0 B
   apply Array.ext_getElem?
   intro i
   rw[Array.getElem?_modify]
   simp only[List.size_toArray,List.length_append,lB,fk,List.length_singleton,Nat.add_sub_cancel,List.getElem?_toArray]
   by_cases e:B.length=i
   · rw[if_pos e, <- e,List.getElem?_append_right (by omega),List.getElem?_append_right (by omega),lB,Nat.sub_self]
     rfl
   · rw[if_neg e]
     by_cases e2:i<B.length
     · rw[List.getElem?_append_left (by omega),List.getElem?_append_left (by omega)]
     · rw[List.getElem?_append_right (by omega),List.getElem?_append_right (by omega),List.getElem?_eq_none (by simp;omega),List.getElem?_eq_none (by simp;omega)]
 · rcases List.mem_append.mp hz with h | h
   · exact R.so z (List.mem_append_left _ h)
   · rw[List.mem_singleton.mp h];exact R.so r (by simp)
theorem mH(C:jr M A E s κ φ El)(U:Un φ El a0){st:SortSt}{Q:Unit->SortSt->Prop}(h2:2<=a0.size)(R0:Ri κ φ a0 [] a0.toList st)(q:∀ st',failedOf st'=none->(arrOf st').Perm a0->((arrOf st').toList.Pairwise fun x y=>φ x<φ y)->Q () st'):wpS M A E s sortRuns' Q st:=by
 rw[sortRuns'_eq]
 refine wpS_bind (wpS_get ?_)
 dsimp only
 rw[R0.pm.size_eq]
 refine wpS_bind (wpS_mono (wpS_forRange (I:=fun n t st'=>∃ rs rest,t=(none,(flat rs).length)/\Ri κ φ a0 rs rest st'/\(n<=(flat rs).length\/a0.size<=(flat rs).length)) (Q:=fun t st'=>∃ rs,t=(none,(flat rs).length)/\Ri κ φ a0 rs [] st') ?step ?fin ⟨[],a0.toList,rfl,R0,.inl (Nat.le_refl _)⟩) ?post)
 case fin =>
  rintro t st' ⟨rs,rest,rfl,R,h⟩
  have:=R.len
  have e:rest=[]:=List.length_eq_zero_iff.mp (by omega)
  subst e
  exact⟨rs,rfl,R⟩
 case step =>
  rintro n t st' _ hn ⟨rs,rest,rfl,R,h⟩
  dsimp only
  have ln:=R.len
  refine bA (fun c=>?_) fun c=>?_
  · have e:rest=[]:=List.length_eq_zero_iff.mp (by omega)
    subst e
    exact wpS_pure ⟨rs,rfl,R⟩
  have B0:Bs κ a0 (pendingOf st') (flat rs).length (arrOf st') st':=⟨R.k,R.f,rfl,R.pm,fun _ _=>rfl⟩
  refine wpS_bind (Me C U (by omega) B0 fun m st2 m1 m2 B up=>?_)
  dsimp only
  refine bA (fun c3=>?_) fun c3=>?_
  case' refine_1 =>
   refine wpS_bind (wpS_lift (wpAny_rule ⟨rfl,?_⟩))
   refine wpS_bind (Mi C U (n:=min (a0.size - (flat rs).length) (minRun' a0.size a0.size 0)) (by omega) m1 (by omega) B up fun st3 B3 zK=>?_)
   refine bA (fun z=>by simp at z) fun _=>?_
   obtain⟨K,hK⟩:∃ K,K=min (a0.size - (flat rs).length) (minRun' a0.size a0.size 0):=⟨_,rfl⟩
   rw[<- hK] at zK ⊢
   have k1:1<=K:=by omega
   have k2:(flat rs).length+K<=a0.size:=by omega
  case' refine_2 =>
   obtain⟨K,hK⟩:∃ K,K=m:=⟨_,rfl⟩
   subst hK
   have k1:=m1
   have k2:=m2
   have zK:=up
   have B3:=B
  all_goals
   obtain⟨run,rest',lr,nr,sr,R3⟩:=Ml R B3 k1 k2 zK
   subst lr
   refine wpS_bind (wpS_get ?_)
   cases hb:(pendingOf _).back? with
   |none=>exact wpS_bind (wpS_modify (wpS_pure ⟨rs++[(run,0)],rest',by rw[kn,List.length_append];simp[flat],R3.push nr sr rfl,by rw[kn,List.length_append];simp[flat];omega⟩))
   |some v =>
     obtain⟨s1,n1,v⟩:=v
     have Mn:rs≠[]:=fun z=>by
      rw[R3.p,z] at hb
      cases hb
     dsimp only
     refine wpS_bind (wpS_mono (wpS_forRange (I:=fun n t st'=>t=(none,())/\∃ rs',Ri κ φ a0 rs' (run++rest') st'/\rs'≠[]/\(flat rs').length=(flat rs).length) (Q:=fun t st'=>t=(none,())/\∃ rs',Ri κ φ a0 rs' (run++rest') st'/\rs'≠[]/\(flat rs').length=(flat rs).length) ?_ (fun _ _ h=>h) ⟨rfl,rs,R3,Mn,rfl⟩) ?_)
     · rintro j t eO _ _ ⟨rfl,ko,R5,ne5,l5⟩
       refine wpS_bind (wpS_get ?_)
       have ps:(pendingOf eO).size=ko.length:=by rw[R5.p];simp[sv]
       by_cases c5:(pendingOf eO).size > 1
       · rw[if_pos c5]
         obtain⟨⟨a,b,w⟩,hw⟩:∃ w,(pendingOf eO)[(pendingOf eO).size - 2]? = some w:=⟨_,Array.getElem?_eq_getElem (by omega)⟩
         rw[hw]
         dsimp only
         refine bA (fun _=>wpS_pure ⟨rfl,ko,R5,ne5,l5⟩) fun _=>?_
         refine wpS_bind (R5.merge C U (by omega) fun sA Mp R6 l6 f6=>?_)
         refine bA (fun z=>by simp at z) fun _=>wpS_pure ⟨rfl,sA,R6,fun z=>?_,f6.trans l5⟩
         rw[z,List.length_nil] at l6
         omega
       · rw[if_neg c5]
         exact wpS_pure ⟨rfl,ko,R5,ne5,l5⟩
     · rintro t eO ⟨rfl,ko,R5,ne5,l5⟩
       dsimp only
       refine wpS_bind (wpS_modify ?_)
       obtain⟨sA,PX,f6,R6⟩:=R5.sx ne5 _
       refine wpS_bind (wpS_modify (wpS_pure ⟨sA++[(run,0)],rest',?_,R6.push nr sr (by rw[f6,l5]),?_⟩))
       · rw[kn,List.length_append,f6,l5];simp[flat]
       · rw[kn,List.length_append,f6,l5]
         have:=List.length_pos_iff.mpr nr
         simp[flat]
         omega
 case post =>
  rintro t st' ⟨rs,rfl,R⟩
  dsimp only
  have ln:=R.len
  rw[List.length_nil] at ln
  have fg:=E1 fun r hr=>(R.so r hr).1
  refine wpS_bind (wpS_mono (wpS_forRange (I:=fun n t st'=>t=(none,())/\∃ rs',Ri κ φ a0 rs' [] st'/\rs'.length+n<=a0.size) (Q:=fun t st'=>t=(none,())/\∃ rs',Ri κ φ a0 rs' [] st'/\rs'.length<=1) ?_ ?_ ⟨rfl,rs,R,by omega⟩) ?_)
  · rintro j t eO _ _ ⟨rfl,ko,R5,l5⟩
    refine wpS_bind (wpS_get ?_)
    have ps:(pendingOf eO).size=ko.length:=by rw[R5.p];simp[sv]
    refine bA (fun c=>wpS_pure ⟨rfl,ko,R5,by omega⟩) fun c=>?_
    refine wpS_bind (R5.merge C U (Mm (by omega) (by omega)) fun sA Mp R6 l6 f6=>?_)
    exact bA (fun z=>by simp at z) fun _=>wpS_pure ⟨rfl,sA,R6,by omega⟩
  · rintro t eO ⟨rfl,ko,R5,l5⟩
    exact⟨rfl,ko,R5,by omega⟩
  · rintro t eO ⟨rfl,ko,R5,l5⟩
    refine wpS_pure (q eO R5.f R5.pm ?_)
    rw[R5.ar,List.append_nil]
    match ko,l5,R5 with
    | [],_,_=>exact .nil
    | [r],_,R5=>rw[flat,flat,List.append_nil];exact(R5.so r (by simp)).2
    | _::_::_,h,_=>simp at h
end
end Ti
namespace So
open PySem PySem.W PyProof.Rows St
theorem zL{α β:Type}(f:α->β):∀ {zs:List α} {vs:List β},vs.Perm (zs.map f)->∃ zs':List α,vs=zs'.map f/\zs'.Perm zs
 | [],vs,h=>⟨[],by simpa using h,.nil⟩
 |z::r,vs,h=>by
   have hm:f z∈vs:=h.mem_iff.mpr (by simp)
   obtain⟨a,b,rfl⟩:=List.append_of_mem hm
   have h':(a++b).Perm (r.map f):=by
    have:=List.perm_middle.symm.trans h
    exact(List.perm_cons (f z)).mp this
   obtain⟨zs',e,pm⟩:=zL f h'
   refine⟨zs'.take a.length++z::zs'.drop a.length,?_,?_⟩
   · rw[List.map_append,List.map_cons,List.map_take,List.map_drop, <- e]
     simp
   · refine List.perm_middle.trans ?_
     rw[List.take_append_drop]
     exact List.Perm.cons z pm
section
variable{prog:Program}{w:World}{A:Around}{E:Value->Shared->Prop}{s:Shared}{a p q:Addr}
def enc(z:Int×Int):Int:=31 * z.1+z.2
theorem Mq{y z:Int×Int}(hy:cq y)(hz:cq z):enc y<enc z ↔ y.1<z.1\/y.1=z.1/\y.2<z.2:=by
 obtain⟨⟨a1,a2⟩,a3,a4⟩:=hy
 obtain⟨⟨b1,b2⟩,b3,b4⟩:=hz
 unfold enc
 omega
theorem E2{y z:Int×Int}(hy:cq y)(hz:cq z)(e:enc y=enc z):y=z:=by
 obtain⟨⟨a1,a2⟩,a3,a4⟩:=hy
 obtain⟨⟨b1,b2⟩,b3,b4⟩:=hz
 unfold enc at e
 exact Prod.ext (by omega) (by omega)
theorem Mr{y z:Int×Int}{Q:Bool->Shared->Prop}(hy:bO s.heap y p)(hz:bO s.heap z q)(sy:cq y)(sz:cq z)(h:Q (decide (enc y<enc z)) s):wpAny (model prog w) A (keyLt' (tuples' true) (.ref p) (.ref q)) Q E s:=by
 obtain⟨o1,i1,n1,t1,u1,g1,c1,d1,e1⟩:=hy
 obtain⟨o2,i2,n2,t2,u2,g2,c2,d2,e2⟩:=hz
 refine kat_lt g1 d1 g2 d2 ?_
 rw[e1,e2]
 have el:=Mq sy sz
 refine kat_cons (wpAny_eqBool_int ?_)
 refine kat_go (fun c=>?_) fun c=>?_
 · have c:=of_decide_eq_true c
   refine kat_yes (kat_cons (wpAny_eqBool_int ?_))
   refine kat_go (fun c'=>?_) fun c'=>?_
   · have c':=of_decide_eq_true c'
     refine kat_yes (kat_nil ?_)
     have z1:i1.size=2:=by have:=congrArg List.length e1;simpa using this
     have z2:i2.size=2:=by have:=congrArg List.length e2;simpa using this
     rw[z1,z2]
     have : ¬ enc y<enc z:=fun z=>by rcases el.mp z with z | z<;>omega
     rw[decide_eq_false this] at h
     exact h
   · have c':=of_decide_eq_false c'
     refine kat_no (kat_one _ _ (PyProof.Rows.lt_int ?_))
     have:decide (y.2<z.2)=decide (enc y<enc z):=decide_eq_decide.mpr ⟨fun z=>el.mpr (.inr ⟨c,z⟩),fun z=>by rcases el.mp z with z | z;exact absurd c (Int.ne_of_lt z);exact z.2⟩
     show Q (decide (y.2<z.2)) s
     rw[this]
     exact h
 · have c:=of_decide_eq_false c
   refine kat_no ?_
   show wpAny _ _ (keyLt' oneType' _ _) _ _ _
   refine kat_lt_int ?_
   have:decide (y.1<z.1)=decide (enc y<enc z):=decide_eq_decide.mpr ⟨fun z=>el.mpr (.inl z),fun z=>by rcases el.mp z with z | z;exact z;exact absurd z.1 c⟩
   rw[this]
   exact h
theorem bO.ref{z:Int×Int}{h:Heap}(x:bO h z p):∃ o xs n t,h.get? p=some o/\o.cls = .type "tuple" /\ o.data = .seq xs n/\xs[0]? = some (.int z.1 t):=by
 obtain⟨o,i,n,t,u,g,c,d,e⟩:=x
 exact⟨o,i,n,t,g,c,d,by rw[<- Array.getElem?_toList,e];rfl⟩
def refs(zs:List Z):List Value:=zs.map fun z=>.ref z.2
theorem E3{h:Heap}:∀ (zs:List Z),(∀ z∈zs,bO h z.1 z.2)->∃ fs,KatTups h (refs zs) fs/\fs.length=zs.length/\∀ v∈fs,∃ k t,v = .int k t
 | [],_=>⟨[],trivial,rfl,fun v hv=>(nomatch hv)⟩
 |z::r,h0=>by
   obtain⟨fs,a,b,c⟩:=E3 r fun y hy=>h0 y (.tail _ hy)
   obtain⟨o,xs,n,t,g,cl,d,e⟩:=bO.ref (h0 z (.head _))
   exact⟨.int z.1.1 t::fs,KatTups.cons g cl d e a,by simp[b],fun v hv=>by
    rcases List.mem_cons.mp hv with q | q
    · exact⟨_,_,q⟩
    · exact c v q⟩
theorem Ms{M:Model}{h:Heap}(k:Int)(t:Tok):Looks M h (typeOf (.int k t)) (.type "int"):=fun A Q E s _ q=>wpAny_typeOf (typeIs_int s k t) q
def kd(z:Z):Value×Value:=(.ref z.2,.ref z.2)
open Classical in
def kf(zs:List Z)(x:Value×Value):Int:=if h:∃ z∈zs,x=kd z then enc h.choose.1 else 0
theorem bO.inj{h:Heap}{y z:Int×Int}(hy:bO h y p)(hz:bO h z p):y=z:=by
 obtain⟨o1,i1,n1,t1,u1,g1,c1,d1,e1⟩:=hy
 obtain⟨o2,i2,n2,t2,u2,g2,c2,d2,e2⟩:=hz
 rw[g1] at g2
 cases g2
 rw[d1] at d2
 cases d2
 rw[e1] at e2
 simp only[List.cons.injEq,Value.int.injEq,and_true] at e2
 exact Prod.ext e2.1.1 e2.2.1
theorem kf_at{h:Heap}{zs:List Z}(hz:∀ z∈zs,bO h z.1 z.2):∀ z∈zs,kf zs (kd z)=enc z.1:=fun z hm=>by
 have ex:∃ y∈zs,kd z=kd y:=⟨z,hm,rfl⟩
 unfold kf
 rw[dif_pos ex]
 have c:=ex.choose_spec
 have e:z.2=ex.choose.2:=by have:=congrArg Prod.fst c.2;exact Value.ref.inj this
 have:=hz _ c.1
 rw[<- e] at this
 rw[bO.inj this (hz z hm)]
theorem E4:∀ {l:List (Int×Int)},(∀ x∈l,cq x)->l.Nodup->(l.map enc).Nodup
 | [],_,_=>.nil
 |x::r,sm,nd=>by
   rw[List.nodup_cons] at nd
   rw[List.map_cons,List.nodup_cons]
   refine⟨fun h=>?_,E4 (fun y hy=>sm y (.tail _ hy)) nd.2⟩
   obtain⟨y,hy,e⟩:=List.mem_map.mp h
   exact nd.1 (by rw[<- E2 (sm y (.tail _ hy)) (sm x (.head _)) e];exact hy)
theorem Mt{n:Nat}{zs:List Z}{P:PySem.Fin->Shared->Prop}(ho:s.heap.get? a=some (seqObj "list" (refs zs).toArray n))(hz:∀ z∈zs,bO s.heap z.1 z.2)(sm:∀ z∈zs,cq z.1)(nd:(zs.map (·.1)).Nodup)(hl:zs.length<512)
 (h:∀ zs',zs'.Perm zs->zs'.Pairwise (fun y z=>enc y.1<=enc z.1)->P (.done (.ret .none)) { s with heap:=sortedHeap s.heap a (refs zs) (refs zs').toArray }):wpAny (model prog w) A (Builtin.«list.sort» ⟨[.ref a],[]⟩) P E s:=by
 have ha:a<s.heap.objs.size:=Heap.lt_size ho
 have rl:(refs zs).length=zs.length:=by simp[refs]
 have big:(512:Nat)<=sizeLine:=by decide
 rw[list_sort_plain]
 refine  wpAny_bind (listItems_at ho rfl ?_)
 refine wpAny_bind (listUpdate_at ho rfl ?_ (by rw[List.size_toArray,rl];omega) (Nat.zero_le _))
 obtain⟨e1,ho1⟩:∃ e1,(s.heap.update a (Obj.mapSeq fun _=>(#[]:Array Value))).get? a=some (seqObj "list" #[] e1):=⟨_,get?_update_seq ho fun _ => #[]⟩
 refine  wpAny_bind (seqEpoch_at ho1 rfl ?_)
 refine wpAny_bind (wpAny_newTuple ?_ (by show(refs zs).length<=_;rw[rl];omega))
 refine  wpAny_bind (wpAny_newList ?_ (Nat.zero_le _))
 refine wpAny_holding ?_
 generalize hH:((s.heap.update a (Obj.mapSeq fun _=>(#[]:Array Value))).push (seqObj "tuple" (refs zs).toArray 0)).push (seqObj "list" #[] 0)=H
 show wpAny (model prog w) A _ P E { s with heap:=H }
 have ho6:H.get? a=some (seqObj "list" #[] e1):=by
  rw[<- hH,Heap.get?_push_ne _ _ _ (by rw[size_push',Heap.size_update];exact Nat.ne_of_lt (Nat.lt_succ_of_lt ha)),Heap.get?_push_ne _ _ _ (by rw[Heap.size_update];exact Nat.ne_of_lt ha)]
  exact ho1
 have vC:∀ z∈zs,bO H z.1 z.2:=fun z E5=>(hz z E5).at fun o e=>by
  have ne:z.2≠a:=fun q=>by
   obtain⟨o',xs,n',t,g,cl,_⟩:=bO.ref (hz z E5)
   rw[q,ho] at g
   have g:=Option.some.inj g
   rw[<- g] at cl
   exact absurd cl (show(Value.type "list") ≠ .type "tuple" by decide)
  rw[<- hH]
  exact Heap.get?_push_of_some _ (Heap.get?_push_of_some _ ((Heap.get?_update_other _ _ (Ne.symm ne)).trans e))
 have fin:∀ (zs':List Z) (st:SortSt),zs'.Perm zs->zs'.Pairwise (fun y z=>enc y.1<=enc z.1)->(arrOf st).map (·.2)=(refs zs').toArray->failedOf st=none->wpAny (model prog w) A (do
  let touched:=(<- seqEpoch a) != e1
  Builtin.List.listUpdate (.ref a) fun _=>(arrOf st).map (·.2)
  if let some e:=failedOf st then rule "list.sort.comparison-raised";throw e
  if touched then rule "list.sort.modified";raiseError "ValueError" "list modified during sort"
  ret .none) P E { s with heap:=H }:=fun zs' st pm pw har hf=>by
  refine wpAny_bind (seqEpoch_at (s:={ s with heap:=H }) ho6 rfl ?_)
  rw[har]
  refine wpAny_bind (listUpdate_at (s:={ s with heap:=H }) ho6 rfl ?_ (Nat.zero_le _) (by show(refs zs').toArray.size<=_;have:=pm.length_eq;simp[refs];omega))
  rw[hf]
  simp only[bne_self_eq_false,Bool.false_eq_true,if_false]
  refine wpAny_pure ?_
  have:=h zs' pm pw
  unfold sortedHeap at this
  rw[hH] at this
  exact this
 dsimp only
 have sz:(refs zs).toArray.size=zs.length:=by rw[List.size_toArray,rl]
 have snd:((refs zs).toArray.zip (refs zs).toArray).map (·.2)=(refs zs).toArray:=by
  apply Array.toList_inj.mp
  simp[Array.toList_zip,List.map_snd_zip]
 by_cases h2:(refs zs).toArray.size<2
 · rw[if_pos h2,if_pos h2]
   refine wpAny_bind (wpAny_pure ?_)
   rw[StateT.run_pure]
   refine wpAny_bind (wpAny_pure ?_)
   dsimp only
   refine fin zs (SortSt.mk' general' ((refs zs).toArray.zip (refs zs).toArray) #[] 7 none) (.refl _) ?_ snd rfl
   rw[sz] at h2
   match zs,h2 with
   | [],_=>exact .nil
   | [z],_=>simp
   | _::_::_,h2=>exact absurd h2 (by simp only[List.length_cons];omega)
 · rw[if_neg h2,if_neg h2]
   rw[sz] at h2
   have h2':2<=zs.length:=by omega
   obtain⟨fs,kt,fl,fi⟩:=E3 zs vC
   refine wpAny_bind (kat_kind (s:={ s with heap:=H }) (T:=.type "int") kt (by omega) (fun v hv=>by obtain⟨k,t,rfl⟩:=fi v hv;exact Ms k t) (by decide) ?_)
   have tt:(Value.type "int" != Value.type "tuple")=true:=by decide
   rw[tt]
   have zl:((refs zs).toArray.zip (refs zs).toArray).toList=zs.map kd:=by
    rw[Array.toList_zip]
    unfold refs
    simp only[List.zip_map']
    rfl
   have fE:=kf_at vC
   have fin':∀ x,(∃ z∈zs,x=kd z)->∃ z∈zs,x=kd z:=fun x h=>h
   refine wpAny_bind (wpAny_mono (Ti.mH (M:=model prog w) (A:=A) (E:=E) (s:={ s with heap:=H }) (κ:=tuples' true) (φ:=kf zs) (El:=fun x=>∃ z∈zs,x=kd z) (a0:=(refs zs).toArray.zip (refs zs).toArray) (st:=SortSt.mk' (tuples' true) ((refs zs).toArray.zip (refs zs).toArray) #[] 7 none)
    (Q:=fun _ st'=>∃ zs',(arrOf st').map (·.2)=(refs zs').toArray/\zs'.Perm zs/\zs'.Pairwise (fun y z=>enc y.1<=enc z.1)/\failedOf st'=none) ?_ ⟨?_,?_⟩ ?_ ⟨rfl,rfl,rfl,.refl _,rfl,fun r hr=>by cases hr⟩ ?_) ?_ fun _ _ x=>x)
   · rintro x y st Q ⟨z,hz,rfl⟩ ⟨z',hz',rfl⟩ hk q
     rw[fE z hz,fE z' hz'] at q
     rw[lt'_eq]
     refine wpS_bind (wpS_get ?_)
     rw[hk]
     refine wpS_bind (wpS_lift (wpAny_attempt (Mr (s:={ s with heap:=H }) (vC z hz) (vC z' hz') (sm z hz) (sm z' hz') ⟨rfl,?_⟩)))
     exact wpS_pure q
   · rw[zl]
     intro x hx
     obtain⟨z,hz,rfl⟩:=List.mem_map.mp hx
     exact⟨z,hz,rfl⟩
   · rw[zl,List.map_map,show zs.map (kf zs ∘ kd)=(zs.map (·.1)).map enc by rw[List.map_map];exact List.map_congr_left fun z hz=>fE z hz]
     exact E4 (fun x hx=>by obtain⟨z,hz,rfl⟩:=List.mem_map.mp hx;exact sm z hz) nd
   · rw[Array.size_zip];simp[refs];omega
   · intro st' hf pm so
     have pl:=Array.perm_iff_toList_perm.mp pm
     rw[zl] at pl
     obtain⟨zs',e,pz⟩:=zL kd pl
     refine⟨zs',?_,pz,?_,hf⟩
     · apply Array.toList_inj.mp
       rw[Array.toList_map,e,List.map_map]
       rfl
     · rw[e,List.pairwise_map] at so
       refine(List.pairwise_iff_forall_sublist.mpr fun {a b} h=>?_)
       have:=List.pairwise_iff_forall_sublist.mp so h
       have ma:a∈zs:=pz.mem_iff.mp (h.subset (by simp))
       have mb:b∈zs:=pz.mem_iff.mp (h.subset (by simp))
       rw[fE a ma,fE b mb] at this
       exact Int.le_of_lt this
   · rintro⟨⟨⟩,st'⟩ s' ⟨rfl,zs',har,pz,pw,hfl⟩
     exact fin zs' st' pz pw har hfl
end
section
variable{prog:Program}{w:World}{A:Around}{E:Value->Shared->Prop}{s:Shared}{a:Addr}
theorem Mu{zs:List Z}{Q:Value->Shared->Prop}(hh:A.handled=none)(hS:bP (w.params.followText "set-order") s.heap a zs)(hz:∀ z∈zs,bO s.heap z.1 z.2)(h64:zs.length<512)
 (h:∀ (h':Heap) (d:Drawn) (tk:Nat) (p:Addr) (e:Nat) (zs':List Z),s.heap.objs.size<=p->(∀ b o,s.heap.get? b=some o->h'.get? b=some o)->h'.get? p=some { cls:=.type "list",dict:=none,data:=.seq (refs zs').toArray e,slots := #[] }->zs'.Perm zs->zs'.Pairwise (fun y z=>enc y.1<=enc z.1)->Q (.ref p) { s with heap:=h',drawn:=d,toks:=tk }) :
 wpAny (model prog w) A (call (.builtin "sorted") [.ref a]) Q E s:=by
 obtain⟨es,ep,t,ha,T,nf⟩:=hS
 have big:(512:Nat)<=sizeLine:=by decide
 have len:=T.len
 refine Calls.call_function_entry kind_sorted plain_sorted entry_sorted (args_sorted1 _) (show wpAny _ _ (checkCount "sorted" 1 1 1 >>= _) _ _ _ from wpAny_bind (wpAny_pure ?_))
 refine wpAny_bind (GS hh ha T.hon T.fits (by omega) fun vs h1 d tk le k1 pv=>?_)
 have em:es.toList.map (·.2)=refs zs:=by
  rw[T.el,List.map_map]
  unfold refs
  exact List.map_congr_left fun z _=>by rw[Function.comp_apply,qB]
 rw[em] at pv
 obtain⟨qj,rfl,cQ⟩:=zL (fun z:Z=>Value.ref z.2) pv
 have l1:=cQ.length_eq
 have vl:(qj.map fun z:Z=>Value.ref z.2).length=qj.length:=by simp
 refine wpAny_bind (wpAny_newList ?_ (by rw[vl];omega))
 show wpAny _ _ _ _ _ { s with heap:=h1.push (seqObj "list" (refs qj).toArray 0),drawn:=d,toks:=tk }
 have hoL:(h1.push (seqObj "list" (refs qj).toArray 0)).get? h1.objs.size=some (seqObj "list" (refs qj).toArray 0):=Heap.get?_push_size _ rfl
 refine wpAny_bind (wpAny_holding (wpAny_call_entry slot_list_sort ⟨_,hoL,rfl⟩ entry_list_sort (Mt (s:={ s with heap:=h1.push (seqObj "list" (refs qj).toArray 0),drawn:=d,toks:=tk }) hoL (fun z hz1=>(hz z (cQ.mem_iff.mp hz1)).at fun o e=>Heap.get?_push_of_some _ (k1 _ _ e)) (fun z hz1=>T.sm z (cQ.mem_iff.mp hz1)) ((cQ.map _).nodup_iff.mpr T.nd) (by omega) fun zs' pm pw=>⟨_,rfl,?_⟩) (args_list_sort _)))
 obtain⟨e,ge⟩:=GU hoL (refs zs').toArray
 exact wpAny_pure ⟨_,rfl,h _ d tk h1.objs.size e zs' le (fun b o z=>GV (Nat.ne_of_lt (Heap.lt_size (k1 b o z))) (Heap.get?_push_of_some _ (k1 b o z))) ge (pm.trans cQ) pw⟩
end
end So
namespace L2
open PySem PySem.Spec PyProof.Rows Ex St So
section
variable{X:Cx}
def E6(X:Cx)(xs:List V)(H:Hp)(Q:VK):Prop:=∃ (p:Addr) (zs:List Z),xs=[.ref p]/\H p=some (sf X p zs)/\(∀ z∈zs,H z.2=some (.tup [.int z.1.1,.int z.1.2]))/\zs.length<512 /\
 ∀ (q:Addr) (zs':List Z),H q=none->zs'.Perm zs->zs'.Pairwise (fun y z=>enc y.1<=enc z.1)->Q (.ref q) (upd H q (.lst (zs'.map fun z=>V.ref z.2)))
theorem E7:∀ zs:List Z,Vals (zs.map fun z=>V.ref z.2) (refs zs)
 | []=>.nil
 |z::r=>.cons rfl (E7 r)
theorem E8(calm:X.calm=true):aS X (.builtin "sorted") (E6 X):=by
 intro pins s σ H xs us Q I r h
 obtain⟨p,zs,rfl,hp,ht,hn,q⟩:=h
 obtain⟨u,rfl,ru⟩:=r.one
 cases ru
 obtain⟨S,_⟩:=I.hok p _ hp
 refine Mu (I.ok.hd calm) S (fun z hz=>vt I.hok (ht z hz)) hn fun h' d tk p' e zs' le k g pm pw=>?_
 refine⟨.ref p',upd H p' (.lst (zs'.map fun z=>V.ref z.2)),(I.laid (t':=tk) (o:=.lst (zs'.map fun z=>V.ref z.2)) k le ⟨?_,refs zs',e,E7 zs',g⟩).drawn d,rfl,q _ zs' (I.hok.fresh le) pm pw⟩
 rw[List.length_map,pm.length_eq]
 have z:(512:Nat)<=sizeLine:=by decide
 omega
end
end L2
namespace Dv
open PySem L2 Ex St So
variable[KC]
def pD(c:Int×Int):D:=.tup [.int c.1,.int c.2]
def asP:List D->Option (List (Int×Int))
 | []=>some []
 | .tup [.int i,.int j]::r=>if decide (0<=i) && decide (i<=30) && decide (0<=j) && decide (j<=30) then (asP r).map ((i,j) :: ·) else none
 | _=>none
omit [KC] in
theorem sC{d:D}{r:List D}{cs:List (Int×Int)}(h:asP (d::r)=some cs):∃ c cs',d=pD c/\cq c/\asP r=some cs'/\cs=c::cs':=by
 unfold asP at h
 split at h
 · cases ‹d::r=[]›
 · rename_i i j r' e
   cases e
   split at h
   · rename_i c
     simp only[Bool.and_eq_true,decide_eq_true_eq] at c
     cases q:asP r with
     |none=>rw[q] at h;cases h
     |some cs'=>rw[q] at h;cases h;exact⟨(i,j),cs',rfl,⟨⟨c.1.1.1,c.1.1.2⟩,c.1.2,c.2⟩,rfl,rfl⟩
   · cases h
 · cases h
omit [KC] in
theorem zM:∀ {a b:List D} {cs:List (Int×Int)},asP (a++b)=some cs->∃ c1 c2,asP a=some c1/\asP b=some c2/\cs=c1++c2
 | [],b,cs,h=>⟨[],cs,rfl,h,rfl⟩
 |d::a,b,cs,h=>by
   obtain⟨c,cs',rfl,sm,h',rfl⟩:=sC (r:=a++b) h
   obtain⟨c1,c2,e1,e2,rfl⟩:=zM h'
   refine⟨c::c1,c2,?_,e2,rfl⟩
   show(if decide (0<=c.1) && decide (c.1<=30) && decide (0<=c.2) && decide (c.2<=30) then (asP a).map (c :: ·) else none)=_
   rw[if_pos (by simp only[Bool.and_eq_true,decide_eq_true_eq];exact⟨⟨⟨sm.1.1,sm.1.2⟩,sm.2.1⟩,sm.2.2⟩),e1]
   rfl
omit [KC] in
theorem Mv{K:Type}[BEq K][LawfulBEq K](σ:List K)(v x:K):x∈PyProof.Rows.step_dedup σ v ↔ x∈σ\/x=v:=by
 unfold PyProof.Rows.step_dedup
 split
 · rename_i h
   rw[List.any_eq_true] at h
   obtain⟨y,hy,e⟩:=h
   have e:y=v:=by simpa using e
   subst e
   exact⟨.inl,fun z=>z.elim id fun e=>by rw[e];exact hy⟩
 · simp
omit [KC] in
theorem Mw{K:Type}[BEq K][LawfulBEq K]{σ:List K}(h:σ.Nodup)(v:K):(PyProof.Rows.step_dedup σ v).Nodup:=by
 unfold PyProof.Rows.step_dedup
 split
 · exact h
 · rename_i q
   rw[List.nodup_append]
   refine⟨h,by simp,fun a ha b hb e=>?_⟩
   rw[List.mem_singleton] at hb
   subst hb
   subst e
   exact q (List.any_eq_true.mpr ⟨a,ha,by simp⟩)
omit [KC] in
theorem zN{K:Type}[BEq K][LawfulBEq K]:∀ (ns σ:List K),σ.Nodup->(ns.foldl PyProof.Rows.step_dedup σ).Nodup/\∀ x,x∈ns.foldl PyProof.Rows.step_dedup σ ↔ x∈σ\/x∈ns
 | [],σ,h=>⟨h,fun x=>by simp⟩
 |v::r,σ,h=>by
   obtain⟨a,b⟩:=zN r _ (Mw h v)
   refine⟨a,fun x=>?_⟩
   rw[List.foldl_cons,b x,Mv,List.mem_cons,or_assoc]
def sD(cs:List (Int×Int)):List (Int×Int):=cs.foldl PyProof.Rows.step_dedup []
def aH(cs:List (Int×Int)):List (Int×Int):=(sD cs).mergeSort fun a b=>decide (enc a<=enc b)
omit [KC] in
theorem zP(cs:List (Int×Int)):(aH cs).Perm (sD cs):=List.mergeSort_perm ..
omit [KC] in
theorem eC{cs:List (Int×Int)}{c:Int×Int}:c∈aH cs ↔ c∈cs:=by
 rw[(zP cs).mem_iff]
 have:=(zN cs [] List.nodup_nil).2 c
 simpa [sD] using this
omit [KC] in
theorem Mx(cs:List (Int×Int)):(aH cs).Nodup:=(zP cs).nodup_iff.mpr (zN cs [] List.nodup_nil).1
omit [KC] in
theorem My(cs:List (Int×Int)):(aH cs).Pairwise fun a b=>enc a<=enc b:=by
 have h:=List.pairwise_mergeSort (le:=fun a b:Int×Int=>decide (enc a<=enc b)) (fun a b c h1 h2=>decide_eq_true (Int.le_trans (of_decide_eq_true h1) (of_decide_eq_true h2))) (fun a b=>by
  rcases Int.le_total (enc a) (enc b) with h | h
  · rw[decide_eq_true h];rfl
  · rw[decide_eq_true h,Bool.or_true]) (sD cs)
 exact h.imp fun h=>of_decide_eq_true h
omit [KC] in
theorem zQ{cs l:List (Int×Int)}(sm:∀ c∈cs,cq c)(nd:l.Nodup)(pw:l.Pairwise fun a b=>enc a<=enc b)(hm:∀ c,c∈l ↔ c∈cs):l=aH cs:=by
 have pm:l.Perm (aH cs):=(List.perm_ext_iff_of_nodup nd (Mx cs)).mpr fun c=>by rw[hm c,eC]
 refine List.Perm.eq_of_pairwise (le:=fun a b=>enc a<=enc b) (fun a b ha hb h1 h2=>?_) pw (My cs) pm
 exact E2 (sm a ((hm a).mp ha)) (sm b (eC.mp hb)) (Int.le_antisymm h1 h2)
omit [KC] in
theorem zR:∀ {ds:List D} {cs:List (Int×Int)},asP ds=some cs->∀ c∈cs,cq c
 | [],cs,h=>by cases h;intro c hc;cases hc
 |d::r,cs,h=>by
   obtain⟨c,cs',rfl,sm,h',rfl⟩:=sC h
   intro x hx
   rcases List.mem_cons.mp hx with e | e
   · rw[e];exact sm
   · exact zR h' x e
def vD(out:List D->Option RV)(items:M (List D))(fr:List Nat)(own:Nat)(m:D->M Unit)(p:M Bool)(f:M RV):M RV:=M.bind items fun ds=>if ds.length<256 then M.bind (dk fr own m p f ds) fun ys=>M.cF (out ys) else M.st
def qk(ys:List D):Option RV:=(asP ys).map fun cs=>.new (.lst ((aH cs).map pD))
abbrev E9:=vD qk
section
variable{X:Cx}{EE:a9}{ios:List Addr}{p:M Bool}{f:M RV}
omit [KC] in
theorem E_[KC]{R:Hp}{x:V}{c:Int×Int}(h:Rp R x (pD c)):∃ a,x = .ref a/\R a=some (.tup [.int c.1,.int c.2]):=by
 unfold pD at h
 cases h with
 |tup e hs =>
   cases hs with
   |cons h1 hs =>
     cases hs with
     |cons h2 hs =>
       cases hs
       cases h1
       cases h2
       exact⟨_,rfl,e⟩
theorem zS{R:Hp}:∀ (zs:List Z),(∀ z∈zs,R z.2=some (.tup [.int z.1.1,.int z.1.2]))->aB R (zs.map fun z=>V.ref z.2) ((zs.map (·.1)).map pD)
 | [],_=>.nil
 |z::r,h=>.cons (.tup (h z (.head _)) (.cons (.int _) (.cons (.int _) .nil))) (zS r fun y hy=>h y (.tail _ hy))
theorem Mz{fr:List Nat}{own:Nat}{m:D->M Unit}{p:M Bool}{f:M RV}:∀ (ds:List D) (Γ:En) (x:Xc) (Γ':En) (_ _ _:Unit),dk fr own m p f ds Γ ≠ .ex x Γ'
 | [],_,_,_,_,_,_=>fun h=>by cases h
 |d::r,Γ,x,Γ',_,_,_=>fun h=>by
   unfold dk at h
   split at h
   · split at h<;>cases h
   · cases h
theorem MA{β:Type}(S:SK X β){rS:List V->Hp->VK->Prop}{out:List D->Option RV}(inv:β->List D->Hp->Prop)(hmono:∀ b ys R R',inv b ys R->ae R R'->inv b ys R')(h0:∀ R,inv S.e0 [] R)
 (hstep:∀ b ys dy zr rv y R H P,inv b ys R->ys.length<256->out (ys++dy::zr)=some rv->Rp R y dy->ae R H->(∀ b',inv b' (ys++[dy]) R->P b')->S.AD b y H P)
 (hfin:∀ b ys R H A (Q:VK) rv,inv b ys R->ae R H->H A=some (S.O A b)->ys.length<256->out ys=some rv->(∀ z H' R',Al R H R' H'->iX R' H H' z rv->Q z H')->rS [.ref A] H Q)
 {wi:TI} {gt:TG} {tc:TT} {te:TE} {items:M (List D)} {m:D->M Unit} {fr:List Nat} {own:Nat} (hn:fr.Nodup) (hi:rL EE ios wi items) (hg:jm ios own gt m) (hk:nG own m) (hc:lg EN ios tc p) (he:fU EN ios te f) :
 fU EE ios (fun σ H Q=>zF S fr own wi gt tc te σ H (fun x H1=>rS [x] H1 Q)) (vD out items fr own m p f):=by
 intro σ H R Γ Q er w
 unfold vD at w
 rw[ZY] at w
 refine hi σ H R Γ _ er (aT w (fun ds ah w J H1 R1 p1 hJ=>?_) fun _ _ z=>z)
 split at w
 · rename_i hsz
   rw[ZY] at w
   cases hall:dk fr own m p f ds ah with
   |ex _ _=>exact absurd hall (Mz _ _ _ _ () () ())
   |st=>rw[hall] at w;exact False.elim w
   |ok Fb zT =>
   rw[hall] at w
   obtain⟨rv,hout,zU⟩:=iy (nF w)
   clear w
   intro A hA
   have yq:R1 A=none:=p1.er.sub.free hA
   have yr:Al R1 H1 R1 (upd H1 A (S.O A S.e0)):=⟨p1.er.sub.trans (ix hA),ae.refl _,ix hA,fun _ _ _ z=>z⟩
   refine⟨fun i n zs H2=>n=ds.length - i/\i<=ds.length/\∃ R2 au gz zr,aM ios R H σ Γ R2 H2 au/\ae R1 R2/\R2 A=none/\dk fr own m p f (ds.drop i) au = .ok zr zT/\gz++zr=Fb/\inv zs gz R2/\gz.length<=i,
    ⟨ds.length,rfl,Nat.zero_le _,R1,ah,[],Fb,p1.al yr,ae.refl _,yq,hall,rfl,h0 _,Nat.le_refl _⟩,?_⟩
   rintro i n zs H2 oG ⟨rfl,hi',R2,au,gz,zr,p2,s2,mn,hL,hys,hinv,hyl⟩
   obtain⟨go,stop⟩:=hJ i H2 R2 s2 p2.er.sub
   have rT : ¬ Ow σ Γ A:=fun z=>by
    obtain⟨_,xs,q⟩:=er.ow z
    rw[p1.back er A hA] at q;cases q
   by_cases hlt:i<ds.length
   · have hd:ds[i]? = some ds[i]:=List.getElem?_eq_getElem hlt
     obtain⟨g1,g2⟩:=go _ hd
     rw[List.drop_eq_getElem_cons hlt] at hL
     refine .inr ⟨g1,fun x H3 hx=>?_⟩
     obtain⟨R3,al,rx⟩:=g2 x H3 hx
     unfold dk at hL
     have p3:aM ios R H σ Γ R3 H3 au:=p2.al al
     have mq:H3 A=some (S.O A zs):=al.hh _ _ oG
     have j_:R3 A=none:=al.no _ _ oG mn
     have yt:ER ios R3 H3 (aj fr own σ) (bR fr own au):=p3.er.blk hn
     have fW : ¬ Ow (aj fr own σ) (bR fr own au) A:=fun z=>rT (p3.sh A z.blk)
     have run:bx (j9 m p f ds[i] (bR fr own au)) (fun y bS=>∃ kq,dk fr own m p f (ds.drop (i+1)) (Dv.aF fr own au bS) = .ok kq zT/\y.toList++kq=zr) rH:=by
      cases q:j9 m p f ds[i] (bR fr own au) with
      |ok y bS =>
        rw[q] at hL
        dsimp only at hL
        cases q':dk fr own m p f (ds.drop (i+1)) (Dv.aF fr own au bS) with
        |ok kq Γ' =>
          rw[q'] at hL
          cases hL
          exact⟨kq,q',rfl⟩
        |ex _ _=>rw[q'] at hL;cases hL
        |st=>rw[q'] at hL;cases hL
      |ex _ _=>rw[q] at hL;cases hL
      |st=>rw[q] at hL;cases hL
     unfold j9 at run
     rw[ZY] at run
     cases hm:m ds[i] (bR fr own au) with
     |ex _ _=>have:=nE run;rw[hm] at this;exact this.elim
     |st=>have:=nE run;rw[hm] at this;exact this.elim
     |ok u nv =>
       obtain⟨k1,k2⟩:=hk _ _ _ hm
       have wm:=nE run
       rw[hm] at wm
       refine hg (aj fr own σ) H3 R3 (bR fr own au) x _ _ yt rx ?_
       rw[hm]
       refine mj fun c9 H4 R4 p4 keep s4=>?_
       have w1:=nF wm
       rw[ZY] at w1
       have ke:∀ b,Ow c9 nv b->Ow (aj fr own σ) (bR fr own au) b:=by
        rintro b ⟨j,k,d,h1,h2,h3⟩
        by_cases hj:own<=j
        · rw[k1 j hj] at h1
          rw[keep j hj] at h3
          exact⟨j,k,d,h1,h2,h3⟩
        · rcases k2 j (k,d) (by omega) h1 with z | z
          · unfold bR at z;rw[yn (by omega)] at z;cases z
          · cases z;cases h2
       refine hc c9 H4 R4 nv _ p4.er (aT w1 (fun b mv w1 H6 R6 p6=>?_) fun _ _ z=>z.elim)
       have p46:bu ios R3 H3 (aj fr own σ) (bR fr own au) R6 H6 c9 mv:=p4.trans p6.eS
       have rV:∀ b,Ow c9 mv b->Ow (aj fr own σ) (bR fr own au) b:=fun b z=>ke b (p6.sh b z)
       have yu:H6 A=some (S.O A zs):=p46.go.hh _ _ mq fW
       have oH:R6 A=none:=p46.go.no _ _ mq fW j_
       cases b with
       |false =>
         simp only[Bool.false_eq_true,if_false] at w1 ⊢
         have pu:aM ios R3 H3 σ au R6 H6 (Dv.aF fr own au mv):=aM.aF p3.er hn p46 keep rV
         obtain⟨kq,e1,e2⟩:=nF w1
         refine⟨yu,_,Nat.sub_lt_sub_left hlt (Nat.lt_succ_self i),rfl,hlt,R6,_,gz,kq,p3.trans pu,(s2.trans al.rr).trans p46.go.rr,oH,e1,by rw[<- hys, <- e2];rfl,hmono _ _ _ _ hinv (al.rr.trans p46.go.rr),by omega⟩
       |true =>
         simp only[if_true] at w1 ⊢
         rw[ZY] at w1
         refine he c9 H6 R6 mv _ p6.er (aT w1 (fun PY La w1 y H7 R7 p7 hy=>?_) fun _ _ z=>z.elim)
         rw[ZY] at w1
         obtain⟨dy,kg,R8,p8,s8,ry,w1⟩:=jh p6.er p7 hy w1
         have mw:bu ios R3 H3 (aj fr own σ) (bR fr own au) R8 H7 c9 kg:=p46.trans p8.eS
         have yv:∀ b,Ow c9 kg b->Ow (aj fr own σ) (bR fr own au) b:=fun b z=>rV b (p8.sh b z)
         have pu:aM ios R3 H3 σ au R8 H7 (Dv.aF fr own au kg):=aM.aF p3.er hn mw keep yv
         have yw:H7 A=some (S.O A zs):=mw.go.hh _ _ mq fW
         have kh:R8 A=none:=mw.go.no _ _ mq fW j_
         have dZ:=p3.trans pu
         have yx : ¬ Ow σ (Dv.aF fr own au kg) A:=fun z=>rT (dZ.sh A z)
         obtain⟨kq,e1,e2⟩:=nF w1
         have e2:dy::kq=zr:=e2
         have hsplit:out (gz++dy::kq)=some rv:=by rw[e2,hys];exact hout
         have rr:=al.rr.trans mw.go.rr
         refine⟨yw,hstep zs gz dy kq rv y R8 H7 _ (hmono _ _ _ _ hinv rr) (by omega) hsplit ry dZ.er.sub fun zs' hinv'=>?_⟩
         have pA:aM ios R H σ Γ R8 (upd H7 A (S.O A zs')) (Dv.aF fr own au kg):=by
          have up:∀ b,b≠A->upd H7 A (S.O A zs') b=H7 b:=fun b hb=>aV hb
          refine⟨⟨fun b o q=>?_,dZ.er.len,fun j t hj=>?_,dZ.er.dj⟩,⟨dZ.go.rr,fun b o q n=>?_,dZ.go.no,dZ.go.oo,fun b o q=>?_⟩,dZ.sh⟩
          · rw[up b (fun z=>by rw[z,kh] at q;cases q)];exact dZ.er.sub b o q
          · obtain⟨v,hv,q⟩:=dZ.er.sl j t hj
            refine⟨v,hv,q.mono (ae.refl _) fun ho b zs eb hb rb=>⟨?_,rb⟩⟩
            rw[up b]
            · exact hb
            · rintro rfl;subst eb;exact yx ⟨j,t.1,t.2,hj,ho,hv⟩
          · rw[up b (fun z=>by rw[z,p1.back er A hA] at q;cases q)];exact dZ.go.hh b o q n
          · by_cases hb:b=A
            · subst hb;exact⟨_,cN⟩
            · rw[up b hb];exact dZ.go.th b o q
         refine⟨_,Nat.sub_lt_sub_left hlt (Nat.lt_succ_self i),rfl,hlt,R8,_,gz++[dy],kq,pA,(s2.trans al.rr).trans mw.go.rr,kh,e1,by rw[<- hys, <- e2];simp,hinv',by rw[List.length_append];simp;omega⟩
   · have e:ds.drop i=[]:=List.drop_eq_nil_of_le (by omega)
     rw[e] at hL
     have hL:Res.ok [] au=Res.ok zr zT:=hL
     cases hL
     rw[List.append_nil] at hys
     subst hys
     refine .inl ⟨stop (by omega),hfin zs gz R2 H2 A Q rv hinv p2.er.sub oG (by omega) hout fun z H' R' al ra=>?_⟩
     exact zU z H' R' (p2.al al) (ra.rv (p2.back er))
 · exact False.elim w
def vE(zs:List Z)(ys:List D)(R:Hp):Prop:=(∀ c1,asP ys=some c1->∀ c,c∈zs.map (·.1) ↔ c∈c1)/\(zs.map (·.1)).Nodup/\(∀ z∈zs,R z.2=some (.tup [.int z.1.1,.int z.1.2]))/\zs.length<=ys.length
omit [KC] in
theorem Fc{ys:List D}{rv:RV}(h:qk ys=some rv):∃ cs,asP ys=some cs/\rv = .new (.lst ((aH cs).map pD)):=by
 unfold qk at h
 obtain⟨cs,h1,h2⟩:=Option.map_eq_some_iff.mp h
 exact⟨cs,h1,h2.symm⟩
theorem MB{hu:X.A.units+1<cLine}(b:List Z)(ys:List D)(dy:D)(zr:List D)(rv:RV)(y:V)(R H:Hp)(P:List Z->Prop)(hinv:vE b ys R)(hl:ys.length<256)(hout:qk (ys++dy::zr)=some rv)(ry:Rp R y dy)(sub:ae R H)(k:∀ b',vE b' (ys++[dy]) R->P b'):(vv (X:=X) hu).AD b y H P:=by
 obtain⟨cs,hcs,_⟩:=Fc hout
 obtain⟨hkeys,hnd,hzs,MC⟩:=hinv
 obtain⟨c1,c2,q1,q2,_⟩:=zM hcs
 obtain⟨c,c3,rfl,sm,q3,_⟩:=sC q2
 obtain⟨pa,rfl,hpa⟩:=E_ ry
 have kz:=hkeys c1 q1
 refine⟨by omega,pa,c,rfl,sub _ _ hpa,sm,fun z hz=>sub _ _ (hzs z hz),fun zs' zV=>k zs' ?_⟩
 have ap:∀ c1',asP (ys++[pD c])=some c1'->∀ x,x∈c1' ↔ x∈c1\/x=c:=fun c1' h x=>by
  obtain⟨d1,d2,r1,r2,rfl⟩:=zM h
  rw[q1] at r1
  cases r1
  obtain⟨c',c4,e,_,e4,rfl⟩:=sC r2
  cases e4
  have:c=c':=by
   unfold pD at e
   injection e with e
   injection e with e5 e6
   injection e5 with e5
   injection e6 with e6
   injection e6 with e6
   exact Prod.ext e5 e6
  subst this
  simp
 rcases zV with ⟨rfl,hin⟩ | ⟨pm,oV⟩
 · exact⟨fun c1' h x=>Iff.trans ⟨fun h=>.inl ((kz x).mp h),fun h=>h.elim (kz x).mpr fun e=>by rw[e];exact hin⟩ (ap c1' h x).symm,hnd,hzs,by rw[List.length_append];simp;omega⟩
 · have cQ:=pm.map (·.1)
   refine⟨fun c1' h x=>Iff.trans ?_ (ap c1' h x).symm,cQ.nodup_iff.mpr (List.nodup_cons.mpr ⟨oV,hnd⟩),fun z hz=>?_,by rw[pm.length_eq,List.length_cons,List.length_append];simp;omega⟩
   · rw[cQ.mem_iff,List.map_cons,List.mem_cons,kz x]
     exact Or.comm
   · rcases List.mem_cons.mp (pm.mem_iff.mp hz) with e | e
     · rw[e];exact hpa
     · exact hzs z e
theorem MD{hu:X.A.units+1<cLine}(b:List Z)(ys:List D)(R H:Hp)(A:Addr)(Q:VK)(rv:RV)(hinv:vE b ys R)(sub:ae R H)(hA:H A=some ((vv (X:=X) hu).O A b))(hl:ys.length<256)(hout:qk ys=some rv)(w:∀ z H' R',Al R H R' H'->iX R' H H' z rv->Q z H'):E6 X [.ref A] H Q:=by
 obtain⟨cs,hcs,rfl⟩:=Fc hout
 obtain⟨hkeys,hnd,hzs,MC⟩:=hinv
 refine⟨A,b,rfl,hA,fun z hz=>sub _ _ (hzs z hz),by omega,fun q zs' hq pm pw=>?_⟩
 have zW:(zs'.map (·.1)).Nodup:=(pm.map _).nodup_iff.mpr hnd
 have ez:zs'.map (·.1)=aH cs:=zQ (zR hcs) zW (List.pairwise_map.mpr pw) fun c=>by rw[(pm.map _).mem_iff];exact hkeys cs hcs c
 obtain⟨al,rv⟩:=lV sub hq (zS zs' fun z hz=>hzs z (pm.mem_iff.mp hz))
 rw[ez] at rv
 exact w _ _ _ al rv
theorem ME{elt tg iter:Expr}{ifs:List Expr}{pos pos' p0:Pos}{k:Nat}{scope:Scope}{Nc:List Str}{own:Nat}{fr:List Nat}{gt:TG}{items:M (List D)}{m:D->M Unit}(hl:X.mg "sorted" = none)(MF:Gl X "sorted")(hr0:ax k X.A)(hc:X.calm=true)(B:e_ X scope Nc own fr)(hn:fr.Nodup)(hi:VI X EE ios tg iter items)(hog:k9 own gt)
 (hg:∀ cl C s3 H3 fp pn',PG (mz X Nc scope cl C s3 H3 fp pn') tg gt) (hr:jm ios own gt m) (hk:nG own m) (ht:∀ cl C s3 H3 fp pn',uV (mz X Nc scope cl C s3 H3 fp pn') EN ios ifs p) (he:∀ cl C s3 H3 fp pn',VE (mz X Nc scope cl C s3 H3 fp pn') EN ios elt f)
 (hs:∀ x,foldedSetIterable iter X.env x=pure x:=by intro _;rfl) (hst:starEach [.SetComp elt [⟨tg,iter,ifs,0⟩] scope pos] X.env=[(false,eval (.SetComp elt [⟨tg,iter,ifs,0⟩] scope pos) X.env)]:=by rfl):VE X EE ios (.Call (.Name "sorted" p0) [.SetComp elt [⟨tg,iter,ifs,0⟩] scope pos] [] pos') (E9 items fr own m p f) :=
 let ⟨_,h1,h2⟩:=hi
 ⟨_,cB (E8 hc) MF hl (by decide +kernel) (bp (L4 (vv (by have:=hr0.un;omega)) hc B h1 hog hg ht (fun cl C s3 H3 fp pn'=>(he cl C s3 H3 fp pn').pe) hs) dD (hs:=hst)) (he:=hst) (hpl:=rfl),MA (vv _) vE (fun b ys R R' h q=>⟨h.1,h.2.1,fun z hz=>q _ _ (h.2.2.1 z hz),h.2.2.2⟩) (fun R=>⟨fun c1 h c=>by cases h;exact Iff.rfl,List.nodup_nil,(fun z hz=>nomatch hz),Nat.le_refl _⟩) MB MD hn h2 hr hk (fun σ H R Γ Q er w=>⟨R,Γ,er,w⟩) (fun σ H R Γ Q er w=>⟨R,Γ,er,w⟩)⟩
end
end Dv
namespace L2
open PySem PySem.Spec PyProof.Rows Ex
section
variable{X:Cx}{EE:a9}{k:Nat}{f C:Addr}{fd:FuncData}{ps:List Str}{sp:Sp}{dvs:List V}{ds:List Value}{x:Str}{p pos:Pos}{e:Expr}{es:List Expr}{t:TA}
theorem Fd{pins:List (Addr×Obj)}{σ:St}{H:Hp}{s:Shared}{Q:VK}{us:List Value}{vs:List V}(M:Mk X.K C f)(F:a8 X.prog X.w X.K X.mg X.base (fQ X.prog X.w) k f fd ps sp)(hr:ax (k+1) X.A)(hb:Binds X.K fd ps ds)(hd:Vals dvs ds)(hX:XOk X EE)(I:Inv X pins σ H s)(r:Vals vs us)
 (h:∀ x dx,H x=none->H dx=none->dx≠x->sp (.ref x::(vs++dvs)) (upd (upd H dx (.own x)) x (.ins C dx [])) (fun v H2=>v = .ao/\Q (.ref x) H2) (EE σ)):wpAny (model X.prog X.w) X.A (call (.ref C) us) (EP X pins σ Q) X.xe s:=by
 have hq:=h (s.heap.objs.size+1) s.heap.objs.size (I.hok.fresh (Nat.le_succ _)) (I.hok.fresh (Nat.le_refl _)) (Nat.ne_of_lt (Nat.lt_succ_self _))
 have I2:=Inv.made (C:=C) I
 have r2:Vals (V.ref (s.heap.objs.size+1)::(vs++dvs)) (Value.ref (s.heap.objs.size+1)::(us++ds)):=.cons rfl (r.append hd)
 have hl:(Value.ref (s.heap.objs.size+1)::us++ds).length=ps.length:=by
  have e:=r2.length
  rw[F.len _ _ _ _ hq] at e
  exact e.symm
 refine wpAny_call (Cd (f:=f) I.bf M.makes M.init (beq_iff_eq.mp M.fn) (codeAny_mono (F.run _ X.stack _ _ ⟨Value.ref (s.heap.objs.size+1)::us,[]⟩ (Value.ref (s.heap.objs.size+1)::(us++ds)) _ _ (EE σ) (hr.make C us [])
  (I2.env0.make C us []) (hb _ (Value.ref (s.heap.objs.size+1)::us) I2.bf hl) r2 hq) fun r s' hq'=>?_))
 cases r with
 |error e=>exact xy hX I2 hq'
 |ok fl =>
   cases fl with
   |ret u =>
     obtain⟨v,H',I3,rv,ev,q3⟩:=I2.after hq'
     subst ev
     exact⟨rv,⟨V.ref (s.heap.objs.size+1),H',I3,rfl,q3⟩⟩
   |next=>exact False.elim hq'
   |brk=>exact False.elim hq'
   |cont=>exact False.elim hq'
def Made(C:Addr)(sp si:Sp):Prop:=∀ vs H Q E,sp vs H Q E->∀ x dx,H x=none->H dx=none->dx≠x->si (.ref x::vs) (upd (upd H dx (.own x)) x (.ins C dx [])) (fun v H2=>v = .ao/\Q (.ref x) H2) E
theorem MG{si:Sp}(M:Mk X.K C f)(F:a8 X.prog X.w X.K X.mg X.base (fQ X.prog X.w) k f fd ps si)(hr:ax (k+1) X.A)(hg:Gl X x)(hm:X.mg x=some (.ref C))(hb:Binds X.K fd ps ds)(hd:Vals dvs ds)(hX:XOk X EE)(hsp:Made C sp si)
 (ha:PA X (e::es) t) (hdb:(x == ("__debug__" : Str))=false:=by decide) (he:starEach (e::es) X.env=(false,eval e X.env)::starEach es X.env:=by rfl) (hpl:(backTo pos (starEach es X.env)).any (·.1)=false:=by rfl) :
 PE X (.Call (.Name x p) (e::es) [] pos) (oJ sp dvs EE t):=by
 intro pins s σ H Q I h
 refine wpAny_Call_Name_kw (nQ I hg hm ?_ hdb)
 refine W.callWith_K (h₀:=X.base) I.ok.mod.m9 M.kp (aL (ha pos pins s σ H _ I h) fun us s1 ⟨vs,H1,I1,r,q⟩=>⟨I1.bf,?_⟩) he hpl
 exact Fd M F hr hb hd hX I1 r (hsp _ _ _ _ q)
theorem MI{si:Sp}(M:Mk X.K C f)(F:a8 X.prog X.w X.K X.mg X.base (fQ X.prog X.w) k f fd ps si)(hr:ax (k+1) X.A)(hg:Gl X x)(hm:X.mg x=some (.ref C))(hb:Binds X.K fd ps ds)(hd:Vals dvs ds)(hX:XOk X EE)(hsp:Made C sp si)
 (hdb:(x == ("__debug__" : Str))=false:=by decide):PE X (.Call (.Name x p) [] [] pos) (oJ sp dvs EE lN):=by
 intro pins s σ H Q I h
 refine wpAny_Call_Name_kw (nQ I hg hm ?_ hdb)
 exact W.callWith_K0 I.bf M.kp (Fd (us:=[]) M F hr hb hd hX I .nil (hsp _ _ _ _ h))
end
end L2
namespace Dv
open PySem L2 Ex
variable[KC]
section
variable{X:Cx}{EE:a9}{ios:List Addr}
structure vF(x:Addr)(R H R' H':Hp):Prop where
 sub:ae R' H'
 rr:ae R R'
 hh:∀ b o,b≠x->H b=some o->H' b=some o
 no:∀ b o,b≠x->H b=some o->R b=none->R' b=none
def zX(j:Nat)(ios:List Addr)(R H:Hp)(σ:St)(Γ:En)(D:Ends):Fl->En->Prop:=fun fl Γ'=>∀ ay H' R',bu ios R H σ Γ R' H' ay Γ'->ay[j]? = σ[j]? -> match fl with
 | .nx=>D.nx ay H'
 | .brk=>D.bk ay H'
 | .cont=>D.ct ay H'
 | .ret rv=>∀ x,dX R' H H' ay x rv->D.rt x H'
def Fe(j:Nat)(EE:a9)(ios:List Addr)(t:TS)(f:M Fl):Prop:=∀ σ H R Γ D,ER ios R H σ Γ->bx (f Γ) (zX j ios R H σ Γ D) (gy EE ios R H σ Γ)->t D σ H
def VJ(j:Nat)(X:Cx)(EE:a9)(ios:List Addr)(st:Stmt)(f:M Fl):Prop:=∃ t,PS X st t/\Fe j EE ios t f
def vG(j:Nat)(X:Cx)(EE:a9)(ios:List Addr)(st:List Stmt)(f:M Fl):Prop:=∃ t,PSs X st t/\Fe j EE ios t f
section
variable{X:Cx}{EE:a9}{ios:List Addr}{e c:Expr}{f:M RV}{p:M Bool}{s s':M Fl}{st:Stmt}{sts fh:List Stmt}{pos:Pos}{j:Nat}
theorem MJ:vG j X EE ios [] (M.pure .nx):=⟨_,BK,fun σ H R Γ D er w=>w σ H R (bu.refl er) rfl⟩
theorem MK(h:VJ j X EE ios st s):vG j X EE ios [st] s:=let ⟨_,h1,h2⟩:=h; ⟨_,ub h1,h2⟩
theorem MM(h:VE X EE ios e f)(hs:swapsWith e none pos.line X.env=pure false:=by rfl):VJ j X EE ios (.Expr e pos) (lu f):=by
 obtain⟨t,h1,h2⟩:=h
 refine⟨_,wN h1 hs,fun σ H R Γ D er w=>?_⟩
 unfold lu at w
 rw[ZY] at w
 exact h2 σ H R Γ _ er (aT w (fun rv ah w x H1 R1 p1 hx=>w σ H1 R1 p1.eS rfl) fun _ _ z=>z.exp)
theorem MN(hc:VT X EE ios c p)(h:vG j X EE ios sts s)(h':vG j X EE ios fh s'):VJ j X EE ios (.If c sts fh pos) (dF p s s'):=by
 obtain⟨_,h0,h0'⟩:=hc
 obtain⟨t,h1,h2⟩:=h
 obtain⟨u,h3,h4⟩:=h'
 refine⟨_,BL h0 h1 h3,fun σ H R Γ D er w=>?_⟩
 unfold dF at w
 rw[ZY] at w
 refine h0' σ H R Γ _ er (aT w (fun b ah w H1 R1 p1=>?_) fun _ _ z=>z.exp)
 have go:∀ fl au,zX j ios R H σ Γ D fl au->zX j ios R1 H1 σ ah D fl au:=fun fl au w eM H2 R2 p2 q2=>by
  have:=w eM H2 R2 (p1.eS.trans p2) q2
  cases fl with
  |nx=>exact this
  |brk=>exact this
  |cont=>exact this
  |ret rv=>exact fun x hx=>this x (uM p1.eS.back hx)
 cases b with
 |true=>exact qT (h2 σ H1 R1 ah D p1.er (aT w go fun _ _ z=>gy.trans p1.eS z))
 |false=>exact qS (h4 σ H1 R1 ah D p1.er (aT w go fun _ _ z=>gy.trans p1.eS z))
theorem MO{i:Nat}{x:Str}{pos':Pos}(hij:i≠j)(hN:X.N.Nodup)(hi:X.N[i]? = some x)(hx:Loc X.env.scope x)(he:VE X EE ios e f)(hs:swapsWith e (some (.Name x pos')) pos.line X.env=pure false:=by rfl)(hf:X.fn x=true\/X.env.scope.names.lookup x=some .local:=by first | exact .inl rfl | exact .inr rfl | assumption) :
 VJ j X EE ios (.Assign [.Name x pos'] e pos) (bw i f):=by
 obtain⟨t,h1,h2⟩:=he
 refine⟨_,BQ hN hi hx h1 hs hf,fun σ H R Γ D er w=>?_⟩
 unfold bw at w
 rw[ZY] at w
 refine h2 σ H R Γ _ er (aT w (fun rv ah w x H1 R1 p1 hx=>?_) fun _ _ z=>z.exp)
 show D.nx (σ.set i (some x)) H1
 have k:∀ v,(σ.set i (some v))[j]? = σ[j]? := fun v=>List.getElem?_set_ne hij
 rw[ZY] at w
 cases rv with
 |val d=>exact w _ H1 R1 (bu.set er p1 (s:=(.ak,d)) hx fun z=>by cases z) (k _)
 |new d =>
   obtain⟨h1,a,h2,h3⟩:=hx
   exact w _ H1 R1 (bu.set er p1 (s:=(.own,d)) h1 fun _ b eb=>by rw[h2] at eb;cases eb;exact h3) (k _)
 |var j =>
   rw[ZY] at w
   obtain⟨d,au,R2,p2,_,r2,w⟩:=jh er p1 hx w
   exact w _ H1 R2 (bu.set er p2 (s:=(.ak,d)) r2 fun z=>by cases z) (k _)
end
section
variable{X:Cx}{EE:a9}{ios:List Addr}{k:Nat}{f:Addr}{fd:FuncData}{ps:List Str}{C:Cn}{fl x:Str}{p pos apos:Pos}{e o:Expr}{es:List Expr}{fs:M (List RV)}{fo:M RV}{G:List D->Option Rx}{Gp:List D->Option Rt}
def sE(C:Cn)(y:Str)(f:M RV):M RV:=M.bind f fun rv=>M.bind (mat rv) fun d=>match d with
 | .obj C' ns vs=>if cd (C'=C) then M.cF (((ns.zip vs).lookup y).map .val) else M.st
 | _=>M.st
theorem MP{y:Str}(hcl:g_ X.K (KC.cls C))(hna:aU X.K (KC.cls C) y)(ha:VE X EE ios e fo)(hb:attributeBase e y X.env (eval e X.env)=eval e X.env):VE X EE ios (.Attribute e y pos) (sE C y fo):=by
 obtain⟨t,h1,h2⟩:=ha
 refine⟨_,IJ h1 hb,fun σ H R Γ Q er w=>?_⟩
 unfold sE at w
 rw[ZY] at w
 refine h2 σ H R Γ _ er (aT w (fun rx ah w1 x H1 R1 p1 hx=>?_) fun _ _ z=>z)
 clear w
 rw[ZY] at w1
 obtain⟨d,au,R2,p2,s2,r2,w2⟩:=jh er p1 hx w1
 clear w1
 cases d with
 |obj C' ns vs =>
   dsimp only at w2
   split at w2
   · rename_i hc
     have hc:=lj hc
     subst hc
     obtain⟨rv,hg,w'⟩:=iy w2
     obtain⟨d,hd,rfl⟩:=Option.map_eq_some_iff.mp hg
     clear w2
     cases r2 with
     |obj q hv =>
       obtain⟨v,l1,l2⟩:=zA hv hd
       exact⟨_,_,_,_,v,rfl,p2.er.sub _ _ q,hcl,hna,l1,w' v H1 R2 p2 l2⟩
   · exact False.elim w2
 | _=>exact False.elim w2
def gF(C:Cn)(m:Str)(G:List D->Option Rt)(f:M RV):M RV:=M.bind f fun rv=>M.bind (mat rv) fun d=>match d with
 | .obj C' ns vs=>if cd (C'=C/\m ∉ ns) then M.cF ((G [.obj C' ns vs]).map Rt.rv) else M.st
 | _=>M.st
theorem MQ{m:Str}{pl:Sem Bool}(hcl:g_ X.K (KC.cls C))(hm:Meth X.K (KC.cls C) m f)(F:a8 X.prog X.w X.K X.mg X.base eP k f fd ps (cT Gp))(hr:ax k X.A)(hb:Binds X.K fd ps [])(ha:VE X EE ios o fo)
 (ht:eval (.Call (.Attribute o m apos) [] [] pos) X.env=(do
  let ov <- eval o X.env
  standAt apos.atName
  let (f,first) <- holding [ov] (getMethod ov m pl)
  callWith pos f first (backTo pos (starEach [] X.env)) (backToKw pos (keywordEach [] X.env))):=by rfl):VE X EE ios (.Call (.Attribute o m apos) [] [] pos) (gF C m Gp fo):=by
 obtain⟨t,h1,h2⟩:=ha
 refine⟨_,IV h1 hcl hm F hr hb .nil xq ht,fun σ H R Γ Q er w=>?_⟩
 unfold gF at w
 rw[ZY] at w
 refine h2 σ H R Γ _ er (aT w (fun rx ah w1 x H1 R1 p1 hx=>?_) fun _ _ z=>z)
 clear w
 rw[ZY] at w1
 obtain⟨d,au,R2,p2,s2,r2,w2⟩:=jh er p1 hx w1
 clear w1
 cases d with
 |obj C' ns vs =>
   dsimp only at w2
   split at w2
   · rename_i hc
     obtain⟨hc,hn⟩:=lj hc
     subst hc
     obtain⟨rv,hg,w'⟩:=iy w2
     obtain⟨r,hG,rfl⟩:=Option.map_eq_some_iff.mp hg
     clear w2
     have r3:=r2
     cases r2 with
     |obj q hv =>
       refine⟨_,_,_,rfl,p2.er.sub _ _ q,?_,R2,[_],p2.er.sub,.cons r3 .nil,?_⟩
       · rw[List.lookup_eq_none_iff]
         intro z hz
         rw[bne_iff_ne]
         intro e
         exact hn (List.mem_map.mpr ⟨z,hz,e.symm⟩)
       · rw[hG]
         exact fun z H' R' al ra=>w' z H' R' (p2.al al) (ra.rv (p2.back er))
   · exact False.elim w2
 | _=>exact False.elim w2
end
end
end Dv
namespace L2
open PySem PySem.Spec PyProof.Rows Ex
section
variable{X:Cx}{pins:List (Addr×Obj)}{σ:St}{H:Hp}{s:Shared}{A:Around}{E:Value->Shared->Prop}{Q:Value->Shared->Prop}{b:Bool}
theorem MR{x:V}{u t:Value}{tp:Addr}{its:List Value}(I:Inv X pins σ H s)(rx:RelV x u)(ty:cA X.K H x t)(ht:IsTup s.heap tp its.toArray)(e:W.kitAny X.K t its=some b)(h:∀ tk,Q (.bool b) { s with toks:=tk }) :
 wpAny (model X.prog X.w) A (call (.builtin "isinstance") [u,.ref tp]) Q E s:=by
 obtain⟨ob,g1,g2,n,g3⟩:=ht
 obtain⟨oc,od,oda,osl⟩:=ob
 dsimp only at g2 g3
 subst g2 g3
 cases ty with
 |ao=>cases (show u=Value.none from rx);exact W.kia_tup W.kitx_none I.bf True.intro g1 e (fun z=>nomatch z) h
 |bl y=>cases (show u=Value.bool y from rx);exact W.kia_tup W.kitx_bool I.bf True.intro g1 e (fun z=>nomatch z) h
 |int i=>obtain⟨t,q⟩:=(show ∃ t,u=Value.int i t from rx);cases q;exact W.kia_tup W.kitx_int I.bf True.intro g1 e (fun z=>nomatch z) h
 |str y=>obtain⟨t,q⟩:=(show ∃ t,u=Value.str y t from rx);cases q;exact W.kia_tup W.kitx_str I.bf True.intro g1 e (fun z=>nomatch z) h
 |flt y=>obtain⟨t,q⟩:=(show ∃ t,u=Value.float y t from rx);cases q;exact W.kia_tup W.kitx_float I.bf True.intro g1 e (fun z=>nomatch z) h
 | @lst a xs ea =>
   cases (show u=Value.ref a from rx)
   obtain⟨_,_,n,_,h1⟩:=(show aD X.prog X.w H s.heap a (.lst xs) from I.hok a _ ea)
   exact W.kia_tup W.kitx_list I.bf ⟨_,h1,rfl⟩ g1 e (fun z=>nomatch z) h
 | @ak a ob xs ea =>
   cases (show u=Value.ref a from rx)
   obtain⟨_,_,_,n,_,h1⟩:=(show aD X.prog X.w H s.heap a (.ak ob (.lst xs)) from I.hok a _ ea)
   exact W.kia_tup W.kitx_list I.bf ⟨_,h1,rfl⟩ g1 e (fun z=>nomatch z) h
 | @tup a xs ea =>
   cases (show u=Value.ref a from rx)
   obtain⟨_,_,_,p⟩:=(show aD X.prog X.w H s.heap a (.tup xs) from I.hok a _ ea)
   obtain⟨o,h1,h2,_⟩:=p
   exact W.kia_tup W.kitx_tuple I.bf ⟨o,h1,h2⟩ g1 e (fun z=>nomatch z) h
 | @dK a kvs ea =>
   cases (show u=Value.ref a from rx)
   obtain⟨_,_,vs,_,p⟩:=(show aD X.prog X.w H s.heap a (.dK kvs) from I.hok a _ ea)
   obtain⟨o,es,ep,h1,h2,_⟩:=p
   exact W.kia_tup W.kitx_dict I.bf ⟨o,h1,h2.1⟩ g1 e (fun z=>nomatch z) h
 | @dT a kvs ea =>
   cases (show u=Value.ref a from rx)
   obtain⟨_,_,xs,_,o,es,ep,h1,h2,_⟩:=(show aD X.prog X.w H s.heap a (.dT kvs) from I.hok a _ ea)
   exact W.kia_tup W.kitx_dict I.bf ⟨o,h1,h2.1⟩ g1 e (fun z=>nomatch z) h
 | @ins a C dx fs ea cl ha hn htk hm =>
   cases (show u=Value.ref a from rx)
   obtain⟨mA,O,_⟩:=qN I.hok ea
   obtain⟨od,J,_⟩:=O.look
   exact W.kia_tup (W.kitx_own (cl.get _) cl.hd ha hn htk hm) I.bf J g1 e (fun z=>nomatch z) h
def Ff(K:W.Frag):List V->Hp->VK->Prop:=fun xs H Q=>∃ x p T U t b,xs=[x,.ref p]/\H p=some (.tup [.ty T,.ty U])/\cA K H x t/\W.kitAny K t [.type T,.type U]=some b/\Q (.bl b) H
theorem MS:aS X (.builtin "isinstance") (Ff X.K):=by
 intro pins s σ H xs us Q I r h
 obtain⟨x,p,T,U,t,b,rfl,hp,ty,e,q⟩:=h
 obtain⟨u,u2,rfl,rx,rc⟩:=Vals.two r
 obtain rfl:u2=Value.ref p:=rc
 obtain⟨_,its,rv,ht⟩:=(show aD X.prog X.w H s.heap p (.tup [.ty T,.ty U]) from I.hok p _ hp)
 obtain⟨v1,v2,rfl,r1,r2⟩:=Vals.two rv
 obtain rfl:v1=Value.type T:=r1
 obtain rfl:v2=Value.type U:=r2
 exact MR I rx ty ht e fun tk=>⟨.bl b,H,I.tok _,rfl,q⟩
end
end L2
namespace Dv
open PySem L2 Ex
variable[KC]
section
variable{X:Cx}{EE:a9}{ios:List Addr}{a o c:Expr}{f fo:M RV}{p:M Bool}{es:List Expr}{fs:M (List RV)}
omit [KC] in
theorem MT[KC](K:W.Frag)(d:D)(hd:plain d=true):W.kitAny K (.type (rA d)) [.type "list",.type "tuple"]=some (et .list d || et .tuple d):=by
 cases d<;>first | kernel_rfl | cases hd
def ql:D->Option RV
 | .bM _=>none
 | .ins _ _ _=>none
 | .obj _ _ _=>none
 |d=>some (.val (.bl (et .list d || et .tuple d)))
def sF(f:M RV):M RV:=M.bind (jJ f) fun x=>M.bind (peek x) fun d=>M.cF (ql d)
theorem MU{e0:Expr}(hp:∀ t,PE X a t->PE X e0 (pF (Ff X.K) (jD t (jD (Ci (jD (tC (.ty "list")) (jD (tC (.ty "tuple")) lN))) lN))))(ha:VE X EE ios a f):VE X EE ios e0 (sF f):=by
 obtain⟨t,h1,h2⟩:=ha
 refine⟨_,hp t h1,fun σ H R Γ Q er w=>?_⟩
 unfold sF at w
 rw[ZY] at w
 refine uI h2 er (aT w (fun rx ah w x H1 R1 p1 hx=>?_) fun _ _ z=>z)
 rw[ZY] at w
 obtain⟨d,pd,w⟩:=jg (H:=H) p1.er hx.rv w
 obtain⟨rv,hg,w⟩:=iy w
 have ns:plain d=true:=by cases d<;>first | rfl | cases hg
 have hg:rv = .val (.bl (et .list d || et .tuple d)):=by cases d<;>first | (cases hg;done) | exact(Option.some.inj hg).symm
 subst hg
 refine⟨by show 2<=sizeLine;decide +kernel,fun q hq=>?_⟩
 have al:Al R1 H1 R1 (upd H1 q (.tup [.ty "list",.ty "tuple"])):=⟨fun b o z=>by rw[aV (fun e=>by rw[e,p1.er.sub.free hq] at z;cases z)];exact p1.er.sub b o z,ae.refl _,ix hq,fun _ _ _ h=>h⟩
 have hv:=(pd.hv p1.er.sub).sm (H':=upd H1 q (.tup [.ty "list",.ty "tuple"])) (ix hq)
 have ty:=hv.ty (K:=X.K) ns
 exact⟨x,q,_,_,_,_,rfl,cN,ty,MT X.K d ns,w _ _ R1 (p1.al al) (.bl _)⟩
def hid(Γ:En):En:=Γ.map fun s=>s.map fun t=>(.ak,t.2)
theorem zY{j:Nat}{Γ:En}{t:Kd×D}(h:(hid Γ)[j]? = some (some t)):∃ k e,t=(.ak,e)/\Γ[j]? = some (some (k,e)):=by
 unfold hid at h
 rw[List.getElem?_map] at h
 cases q:Γ[j]? with
 |none=>rw[q] at h;cases h
 |some s =>
   rw[q] at h
   cases s with
   |none=>cases h
   |some s=>cases h;exact⟨s.1,s.2,rfl,rfl⟩
theorem Fg{σ:St}{Γ:En}{b:Addr} : ¬ Ow σ (hid Γ) b:=by
 rintro⟨j,k,e,h1,h2,_⟩
 obtain⟨_,_,z,_⟩:=zY h1
 cases z
 cases h2
theorem MV{σ:St}{H R:Hp}{Γ:En}(er:ER ios R H σ Γ):ER ios (lent (Ow σ Γ) R H) H σ (hid Γ):=by
 have ss:ae R (lent (Ow σ Γ) R H):=yB fun b z=>(er.ow z).1
 refine⟨uZ er.sub,by rw[er.len];unfold hid;rw[List.length_map],fun j t hj=>?_,fun j j' k l e e' b h1 h2 _ _ _ _=>?_⟩
 · obtain⟨k,e,rfl,he⟩:=zY hj
   obtain⟨v,hv,sl⟩:=er.sl j _ he
   refine⟨v,hv,?_⟩
   have own:OwR R H v e->owned k=true->Rp (lent (Ow σ Γ) R H) v e:=fun q ho=>by
    obtain⟨a,xs,ds,rfl,h1,h2,rfl,h3⟩:=q
    refine .lst ?_ (h3.sm ss)
    unfold lent
    rw[if_pos ⟨j,k,_,he,ho,hv⟩]
    exact h2
   cases k with
   |ak=>exact Rp.sm ss sl
   |own=>exact own sl rfl
   |io n=>exact own sl.1 rfl
 · obtain⟨_,_,z,_⟩:=zY h1
   cases z
   cases h2
theorem MW{σ:St}{H R H' R':Hp}{Γ Γ':En}(er:ER ios R H σ Γ)(p:aM ios (lent (Ow σ Γ) R H) H σ (hid Γ) R' H' Γ'):aM ios R H σ Γ (cw (Ow σ Γ) R') H' Γ/\∀ b o,H b=some o->H' b=some o:=by
 have un:∀ b, ¬ Ow σ Γ b->cw (Ow σ Γ) R' b=R' b:=fun b z=>by unfold cw;rw[if_neg z]
 have un':∀ b,Ow σ Γ b->cw (Ow σ Γ) R' b=none:=fun b z=>by unfold cw;rw[if_pos z]
 have s1:ae R (lent (Ow σ Γ) R H):=yB fun b z=>(er.ow z).1
 have no:∀ b,R b=none -> ¬ Ow σ Γ b->lent (Ow σ Γ) R H b=none:=fun b hb nb=>by unfold lent;rw[if_neg nb];exact hb
 have hh:∀ b o,H b=some o->H' b=some o:=fun b o h=>p.go.hh b o h Fg
 have rr:ae R (cw (Ow σ Γ) R'):=fun b o z=>by
  rw[un b fun q=>by rw[(er.ow q).1] at z;cases z]
  exact p.go.rr b o (s1 b o z)
 refine⟨⟨⟨fun b o z=>?_,er.len,fun j t hj=>?_,er.dj⟩,⟨rr,fun b o h _=>hh b o h,fun b o h nb rb=>?_,fun b z=>.inl z,fun b o h=>⟨o,hh b o h⟩⟩,fun b z=>z⟩,hh⟩
 · by_cases nb:Ow σ Γ b
   · rw[un' b nb] at z;cases z
   · rw[un b nb] at z;exact p.er.sub b o z
 · obtain⟨v,hv,q⟩:=er.sl j t hj
   refine⟨v,hv,q.mono rr fun ho a xs e h1 h2=>⟨hh a _ h1,un' a ?_⟩⟩
   subst e
   exact⟨j,t.1,t.2,hj,ho,hv⟩
 · rw[un b nb]
   exact p.go.no b o h Fg (no b rb nb)
end
def js(H R':Hp)(x:V)(r:Rt):Prop:=∃ C fl a dx b xs ds,x = .ref a/\r = .val (.obj C [fl] [.lst ds])/\R' a=some (.ins (KC.cls C) dx [(fl,.ref b)])/\R' b=some (.lst xs)/\H a=none/\H b=none/\aB R' xs ds/\gA ds=true
theorem js.rp{H R' H' H0:Hp}{σ:St}{x:V}{r:Rt}(h:js H R' x r):dX R' H0 H' σ x r.rv:=by
 obtain⟨C,fl,a,dx,b,xs,ds,rfl,rfl,h1,h2,_,_,h3,_⟩:=h
 exact Rp.obj (fs:=[(fl,.ref b)]) h1 (.cons (.lst h2 h3) .nil)
def sG(G:List D->Option Rx):Sp:=fun vs H Q E=>∃ R ds,ae R H/\aB R vs ds/\match G ds with
 |some (.ok r)=>∀ x H' R',Al R H R' H'->js H R' x r->Q x H'
 |some (.ex x)=>∀ e H' R',Al R H R' H'->lb R' H H' e x->E (.ref (KC.cls x.C)) (some e) H'
 |none=>False
def zZ(C:Cn)(fl:Str)(G:List D->Option Rx):Sp:=fun vs H Q E=>∃ x dx vs' R ds,vs = .ref x::vs'/\H x=some (.ins (KC.cls C) dx [])/\R x=none/\ae R H/\aB R vs' ds/\(match G ds with
 |some (.ok r)=>∃ es,r = .val (.obj C [fl] [.lst es])/\gA es=true/\∀ H' R' b xs,vF x R H R' H'->R' x=some (.ins (KC.cls C) dx [(fl,.ref b)])->R' b=some (.lst xs)->H b=none->aB R' xs es->Q .ao H'
 |some (.ex xc)=>∀ e H' R',vF x R H R' H'->lb R' H H' e xc->E (.ref (KC.cls xc.C)) (some e) H'
 |none=>False)
theorem z_{C:Cn}{fl:Str}{G:List D->Option Rx}(hG:∀ ds r,G ds=some (.ok r)->∃ es,r = .val (.obj C [fl] [.lst es])/\gA es=true):Made (KC.cls C) (sG G) (zZ C fl G):=by
 intro vs H Q E h x dx hx hdx ne
 obtain⟨R,ds,s,rp,k⟩:=h
 have ex:upd (upd H dx (.own x)) x (.ins (KC.cls C) dx []) x=some (.ins (KC.cls C) dx []):=cN
 have old:∀ b o,H b=some o->upd (upd H dx (.own x)) x (.ins (KC.cls C) dx []) b=some o:=fun b o h=>by
  rw[aV (fun z=>by rw[z,hx] at h;cases h),aV (fun z=>by rw[z,hdx] at h;cases h)]
  exact h
 have back:∀ a,upd (upd H dx (.own x)) x (.ins (KC.cls C) dx []) a=none->H a=none:=fun a ha=>by
  cases q:H a with
  |none=>rfl
  |some o=>rw[old a o q] at ha;cases ha
 have rx:R x=none:=s.free hx
 have sH:∀ {R' H'},vF x R (upd (upd H dx (.own x)) x (.ins (KC.cls C) dx [])) R' H'->Al R H R' H':=fun al=>⟨al.sub,al.rr,fun b o h=>al.hh b o (fun z=>by rw[z,hx] at h;cases h) (old b o h),fun b o h r=>al.no b o (fun z=>by rw[z,hx] at h;cases h) (old b o h) r⟩
 refine⟨x,dx,vs,R,ds,rfl,ex,rx,fun b o h=>old b o (s b o h),rp,?_⟩
 cases q:G ds with
 |none=>rw[q] at k;exact k
 |some r =>
   rw[q] at k
   cases r with
   |ok r =>
     obtain⟨es,rfl,fX⟩:=hG ds r q
     exact⟨es,rfl,fX,fun H' R' b xs al h1 h2 h3 h4=>⟨rfl,k _ H' R' (sH al) ⟨C,fl,x,dx,b,xs,es,rfl,rfl,h1,h2,hx,back b h3,h4,fX⟩⟩⟩
   |ex xc =>
     intro e H' R' al xr
     exact k e H' R' (sH al) (lb.back back xr)
def lH(s1 s2:M Fl)(fe:M RV):M (List D):=M.bind s1 fun l1=>match l1 with
 | .nx=>M.bind s2 fun l2=>match l2 with
   | .nx=>M.bind fe fun rv=>match rv with
     | .new (.lst es)=>if gA es=true then M.pure es else M.st
     | _=>M.st
   | _=>M.st
 | _=>M.st
def oW(C:Cn)(fl:Str):Res (List D)->Option Rx
 | .ok es _=>some (.ok (.val (.obj C [fl] [.lst es])))
 | .ex x _=>some (.ex x)
 | .st=>none
theorem MX{P:Program}{w:World}{K:W.Frag}{mg:Str->Option Value}{base:Heap}{name qual:Str}{fa:Addr}{params:Arguments}{body:List Stmt}{scope:Scope}{dV kV doc pm cdv ct oc:Value}{an od:Option Addr}{osl:Array (Option Value)}{N ps:List Str}{k:Nat}{C:Cn}{fl:Str}{G:List D->Option Rx}{s1 s2:M Fl}{fe:M RV}{st1 st2:Stmt}{self:Str}{p0 p1 p2:Pos}{e:Expr}
 (lk:K.lookup fa=some ⟨oc,od,.func (W.fnOf name qual params body scope dV kV doc pm an cdv ct),osl⟩) (hcd:W.codeIn K cdv qual=true) (S:aq N ps scope) (hbody:body=[st1,st2,.Assign [.Attribute (.Name self p0) fl p1] e p2]) (hcl:g_ K (KC.cls C)) (hna:aU K (KC.cls C) fl)
 (hb:∀ (A:Around) (outer:List Env) (s:Shared) (H:Hp) (E:XK),ax k (A.deeper (PyProof.Rows.envOfC qual scope s.heap.objs.size fa cdv))->let X:=gn (fQ P w) P w K mg base N qual scope fa cdv A outer s H E
  VJ 0 X (fun _=>E) [] st1 s1/\VJ 0 X (fun _=>E) [] st2 s2/\VE X (fun _=>E) [] e fe/\PE X (.Name self p0) (nc 0)/\swapsWith e (some (.Attribute (.Name self p0) fl p1)) p2.line X.env=pure false)
 (h:∀ ds r,G ds=some r->ds.length+1=ps.length/\ds.length<N.length/\oW C fl (lH s1 s2 fe (none::(gam N.tail ds)))=some r):a8 P w K mg base (fQ P w) (k+1) fa (W.fnOf name qual params body scope dV kV doc pm an cdv ct) ps (zZ C fl G):=by
 refine xh lk hcd S (fun vs H Q E q=>?_) fun A outer s H vs Q E hr q=>?_
 · obtain⟨x,dx,vs',R,ds,rfl,_,_,_,h2,h3⟩:=q
   cases e:G ds with
   |none=>rw[e] at h3;exact h3.elim
   |some r=>rw[List.length_cons,h2.len];exact(h ds r e).1
 · obtain⟨x,dx,vs',R,ds,rfl,hx,MY,h1,h2,h3⟩:=q
   cases eG:G ds with
   |none=>rw[eG] at h3;exact h3.elim
   |some r =>
     rw[eG] at h3
     obtain⟨⟨t1,a1,a2⟩,⟨t2,b1,b2⟩,⟨t3,c1,c2⟩,hv,hsw⟩:=hb A outer s H E hr
     obtain⟨hl1,hl2,fin⟩:=h ds r eG
     have hn0:N≠[]:=fun z=>by rw[z] at hl2;simp at hl2
     obtain⟨n0,N',rfl⟩:=List.exists_cons_of_ne_nil hn0
     have MZ:ER [] R H (L2.start (n0::N') (.ref x::vs')) (none::gam N' ds):=by
      have er:=yz (N:=N') h1 h2
      have es:L2.start (n0::N') (.ref x::vs')=some (.ref x)::L2.start N' vs':=by
       unfold L2.start
       simp
      rw[es]
      refine⟨er.sub,by simp[er.len],fun i sl q=>?_,fun i j k l d e b q1 q2 q3 q4 q5 q6=>?_⟩
      · cases i with
        |zero=>simp at q
        |succ i=>simpa using er.sl i sl (by simpa using q)
      · cases i with
        |zero=>simp at q1
        |succ i =>
          cases j with
          |zero=>simp at q3
          |succ j=>rw[er.dj i j k l d e b (by simpa using q1) q2 (by simpa using q3) q4 (by simpa using q5) (by simpa using q6)]
     have mI:∀ b, ¬ Ow (L2.start (n0::N') (.ref x::vs')) (none::gam N' ds) b:=fun b=>by
      rintro⟨i,k,d,q1,q2,_⟩
      cases i with
      |zero=>simp at q1
      |succ i =>
        obtain⟨_,_,z⟩:=uX (N:=N') (by simpa using q1)
        cases z
        cases q2
     have mJ:∀ {R' H':Hp} {ay:St} {Γ':En},bu [] R H (L2.start (n0::N') (.ref x::vs')) (none::gam N' ds) R' H' ay Γ'->vF x R H R' H'/\H' x=some (.ins (KC.cls C) dx [])/\R' x=none:=fun p =>
      ⟨⟨p.er.sub,p.go.rr,fun b o _ h=>p.go.hh b o h (mI b),fun b o _ h r=>p.go.no b o h (mI b) r⟩,p.go.hh x _ hx (mI x),p.go.no x _ hx (mI x) MY⟩
     rw[hbody]
     refine⟨_,ua a1 (ua b1 (ub (IK hv c1 hsw))),?_⟩
     have s0:(L2.start (n0::N') (.ref x::vs'))[0]? = some (some (.ref x)):=yy rfl
     have fin:oW C fl (lH s1 s2 fe (none::gam N' ds))=some r:=fin
     unfold lH M.bind at fin
     show t1 _ _ _
     refine a2 _ H R _ _ MZ ?_
     cases q1:s1 (none::gam N' ds) with
     |st=>rw[q1] at fin;cases fin
     |ex xc Γ' =>
       rw[q1] at fin
       cases fin
       exact fun e ay H' R' p qx=>h3 e H' R' (mJ p).1 qx
     |ok f1 ah =>
       rw[q1] at fin
       refine mj fun dC H1 R1 p1 k1=>?_
       cases f1 with
       |brk=>cases fin
       |cont=>cases fin
       |ret rv=>cases fin
       |nx =>
         dsimp only at fin ⊢
         show t2 _ _ _
         refine b2 _ H1 R1 _ _ p1.er ?_
         cases q2:s2 ah with
         |st=>rw[q2] at fin;cases fin
         |ex xc Γ' =>
           rw[q2] at fin
           cases fin
           exact fun e ay H' R' p qx=>h3 e H' R' (mJ (p1.trans p)).1 (qx.back p1.back)
         |ok f2 au =>
           rw[q2] at fin
           refine mj fun eM H2 R2 p2 k2=>?_
           cases f2 with
           |brk=>cases fin
           |cont=>cases fin
           |ret rv=>cases fin
           |nx =>
             dsimp only at fin ⊢
             have lh:=p1.trans p2
             have k12:eM[0]? = some (some (.ref x)):=by rw[k2,k1];exact s0
             refine c2 eM H2 R2 au _ p2.er ?_
             cases q3:fe au with
             |st=>rw[q3] at fin;cases fin
             |ex xc Γ' =>
               rw[q3] at fin
               cases fin
               exact fun e H' R' p qx=>h3 e H' R' (mJ (lh.trans p.eS)).1 (qx.back lh.back)
             |ok rv me =>
               rw[q3] at fin
               dsimp only at fin
               refine mj fun y H3 R3 p3 hy=>?_
               cases rv with
               |val d=>cases fin
               |var i=>cases fin
               |new d =>
                 cases d with
                 |lst es =>
                   dsimp only at fin
                   by_cases fX:gA es=true
                   · rw[if_pos fX] at fin
                     cases fin
                     obtain⟨⟨b,ys,fj,rfl,r1,r2,r3,r4⟩,b',eb,hf⟩:=hy
                     cases eb
                     cases r3
                     obtain⟨vH,M0,M1⟩:=mJ (lh.trans p3.eS)
                     have vJ:H b=none:=lh.back b hf
                     have hbx:b≠x:=fun z=>by rw[z,hx] at vJ;cases vJ
                     refine⟨.ref x,k12,x,KC.cls C,dx,[],rfl,M0,hcl,hna,by simp,?_⟩
                     obtain⟨es',ee,_,h3⟩:=h3
                     cases ee
                     have re:ae R3 (ext R3 H3 b):=pJ r1
                     have M3:ext R3 H3 b x=none:=by rw[k_ (Ne.symm hbx)];exact M1
                     have r':ae (ext R3 H3 b) (upd (ext R3 H3 b) x (.ins (KC.cls C) dx [(fl,.ref b)])):=ix M3
                     refine h3 _ (upd (ext R3 H3 b) x (.ins (KC.cls C) dx [(fl,.ref b)])) b ys ⟨fun c o hc=>?_,(vH.rr.trans re).trans r',fun c o hc ho=>by rw[aV hc];exact vH.hh c o hc ho,fun c o hc ho hr=>?_⟩ cN ?_ vJ (r4.sm (re.trans r'))
                     · by_cases z:c=x
                       · subst z
                         rw[cN] at hc ⊢
                         exact hc
                       · rw[aV z] at hc ⊢
                         exact uA vH.sub c o hc
                     · rw[aV hc,k_]
                       · exact vH.no c o hc ho hr
                       · rintro rfl
                         rw[vJ] at ho
                         cases ho
                     · rw[aV hbx,lT]
                       exact r2
                   · rw[if_neg fX] at fin
                     cases fin
                 | _=>cases fin
def h8(G:List D->Option Rx)(fs:M (List RV)):M RV:=M.bind fs fun rvs=>M.bind (cS rvs) fun ds=>match G ds with
 |some (.ok r)=>M.pure r.rv
 |some (.ex x)=>M.bind (b7 rvs) fun ds'=>match G ds' with
  |some (.ex x)=>M.thr x
  | _=>M.st
 |none=>M.st
section
variable{X:Cx}{EE:a9}{ios:List Addr}{e:Expr}{es:List Expr}{fs:M (List RV)}{G:List D->Option Rx}{t:TA}
theorem Aa(h2:pK EE ios t fs){σ:St}{H R:Hp}{Γ:En}{Q:VK}(er:ER ios R H σ Γ)
 (w:bx (h8 G fs Γ) (fun rv Γ'=>∀ x H' R' r,rv=Rt.rv r->aM ios R H σ Γ R' H' Γ'->js H R' x r->Q x H') (eh EE ios R H σ Γ)):oJ (sG G) [] EE t σ H Q:=by
 unfold h8 at w
 rw[ZY] at w
 refine h2 σ H R Γ _ er (aT w (fun rvs ah w xs H1 R1 p1 hx=>?_) fun _ _ z=>z)
 show sG G (xs++[]) H1 Q (EE σ)
 rw[List.append_nil]
 rw[ZY] at w
 obtain⟨ds,q,w⟩:=yC w
 obtain⟨ds',pk,e⟩:=pR (K:=fun ds' _=>ds'=ds) (E:=fun _ _=>False) p1.er hx (by rw[q];exact rfl)
 subst e
 cases hG:G ds' with
 |none=>rw[hG] at w;exact False.elim w
 |some rx =>
   rw[hG] at w
   cases rx with
   |ex x =>
     have w:bx (M.bind (b7 rvs) (fun ds'=>match G ds' with
      |some (.ex x)=>M.thr x
      | _=>M.st) ah) _ _:=w
     rw[ZY] at w
     obtain⟨fj,au,R2,p2,s2,r2,w⟩:=ji er p1 hx w
     refine⟨R2,fj,p2.er.sub,r2,?_⟩
     cases ki:G fj with
     |none=>rw[ki] at w;exact False.elim w
     |some ry =>
       rw[ki] at w
       cases ry with
       |ok r=>exact False.elim w
       |ex y=>exact fun e H' R' al xr=>w e H' R' (p2.al al) (xr.back p2.since)
   |ok r =>
     have w:∀ x H' R' r',r.rv=Rt.rv r'->aM ios R H σ Γ R' H' ah->js H R' x r'->Q x H':=w
     refine⟨lent (Ow σ ah) R1 H1,ds',uZ p1.er.sub,Pks.lent p1.er hx pk q,?_⟩
     rw[hG]
     intro x H' R' al ra
     have ow:∀ b,Ow σ ah b->R1 b=none/\∃ xs,H1 b=some (.lst xs):=fun b z=>p1.er.ow z
     have un:∀ b, ¬ Ow σ ah b->cw (Ow σ ah) R' b=R' b:=fun b z=>by unfold cw;rw[if_neg z]
     have un':∀ b,Ow σ ah b->cw (Ow σ ah) R' b=none:=fun b z=>by unfold cw;rw[if_pos z]
     have tup:∀ b ys,R' b=some (.tup ys)->cw (Ow σ ah) R' b=some (.tup ys):=fun b ys z=>by
      rw[un b]
      · exact z
      · intro o
        obtain⟨_,zs,hz⟩:=ow b o
        have:=al.sub _ _ z
        rw[al.hh _ _ hz] at this
        cases this
     have rr:ae R1 (cw (Ow σ ah) R'):=fun b o z=>by
      have nb : ¬ Ow σ ah b:=fun q=>by rw[(ow b q).1] at z;cases z
      rw[un b nb]
      apply al.rr
      unfold lent
      rw[if_neg nb]
      exact z
     have no:∀ b o,H1 b=some o->R1 b=none->cw (Ow σ ah) R' b=none:=fun b o hb rb=>by
      by_cases nb:Ow σ ah b
      · exact un' b nb
      · rw[un b nb]
        apply al.no b o hb
        unfold lent
        rw[if_neg nb]
        exact rb
     have al':Al R1 H1 (cw (Ow σ ah) R') H':=⟨fun b o z=>by
      by_cases nb:Ow σ ah b
      · rw[un' b nb] at z;cases z
      · rw[un b nb] at z;exact al.sub b o z,rr,al.hh,no⟩
     refine w x H' _ r rfl (p1.al al') ?_
     obtain⟨C,fl,a,dx,b,xs',fj,rfl,rfl,h1,h3,h4,h5,h6,h7⟩:=ra
     have nw:∀ c,H1 c=none -> ¬ Ow σ ah c:=fun c hc z=>by obtain⟨_,zs,hz⟩:=ow c z;rw[hc] at hz;cases hz
     exact⟨C,fl,a,dx,b,xs',fj,rfl,rfl,by rw[un a (nw a h4)];exact h1,by rw[un b (nw b h5)];exact h3,p1.back er a h4,p1.back er b h5,h6.less tup h7,h7⟩
def VY(X:Cx)(EE:a9)(ios:List Addr)(e:Expr)(G:List D->Option Rx)(fs:M (List RV)):Prop:=∃ t,PE X e (oJ (sG G) [] EE t)/\pK EE ios t fs
theorem VY.ve(h:VY X EE ios e G fs):VE X EE ios e (h8 G fs):=by
 obtain⟨t,h1,h2⟩:=h
 exact⟨_,h1,fun σ H R Γ Q er w=>Aa h2 er (aT w (fun rv Γ' w x H' R' r e p so=>by subst e;exact w x H' R' p so.rp) fun _ _ z=>z)⟩
def KBd(K:W.Frag)(fd:FuncData)(ps:List Str):Prop:=∀ (s:Shared) (a:Value) (us:List Value),K.In s.heap->us.length=ps.length->BindsTo s fd ⟨[a],ps.zip us⟩ ((("self" : Str)::ps).zip (a::us))
def qm(P:Program)(w:World)(mg:Str->Option Value)(base:Heap)(x:Str)(k:Nat)(ps:List Str)(dvs:List V)(C:Cn)(fl:Str)(G:List D->Option Rx):Prop:=mg x=some (.ref (KC.cls C))/\(∀ ds r,G ds=some (.ok r)->∃ es,r = .val (.obj C [fl] [.lst es])/\gA es=true)/\∃ f fd,Mk KC.K (KC.cls C) f/\a8 P w KC.K mg base (fQ P w) k f fd ("self" :: ps) (zZ C fl G)/\Binds KC.K fd ("self" :: ps) []/\(∃ dd,Binds KC.K fd ("self" :: ps) dd/\Vals dvs dd)/\KBd KC.K fd ps
theorem Ab{x fl:Str}{k:Nat}{ps:List Str}{p0 pos:Pos}{dvs:List V}{C:Cn}(hX:XOk X EE)(Mc:qm X.prog X.w X.mg X.base x k ps dvs C fl G)(hr:ax (k+1) X.A)(hg:Gl X x)(ha:VA X EE ios (e::es) fs)(hK:X.K=KC.K:=by rfl)(hdb:(x == ("__debug__" : Str))=false:=by decide)
 (he:starEach (e::es) X.env=(false,eval e X.env)::starEach es X.env:=by rfl) (hpl:(backTo pos (starEach es X.env)).any (·.1)=false:=by rfl):VY X EE ios (.Call (.Name x p0) (e::es) [] pos) G fs:=by
 obtain⟨hm,hG,f,fd,Mo,F,hb,_⟩:=Mc
 rw[<- hK] at F hb Mo
 obtain⟨t,h1,h2⟩:=ha
 exact⟨t,MG Mo F hr hg hm hb .nil hX (z_ hG) h1 hdb he hpl,h2⟩
theorem M4{x fl:Str}{k:Nat}{ps:List Str}{p0 pos:Pos}{C:Cn}(hX:XOk X EE)(Mc:qm X.prog X.w X.mg X.base x k ps [.ao] C fl G)(hr:ax (k+1) X.A)(hg:Gl X x)(hK:X.K=KC.K:=by rfl)(hdb:(x == ("__debug__" : Str))=false:=by decide):VE X EE ios (.Call (.Name x p0) [] [] pos) (h8 G (M.pure [.val .ao])):=by
 obtain⟨hm,hG,f,fd,Mo,F,_,⟨dd,hb,hd⟩,_⟩:=Mc
 rw[<- hK] at F hb Mo
 refine⟨_,MI (dvs:=[.ao]) Mo F hr hg hm hb hd hX (z_ hG) hdb,fun σ H R Γ Q er w=>?_⟩
 show sG G [.ao] H Q (EE σ)
 exact Aa (t:=fun _ H Q=>Q [.ao] H) (EE:=EE) (fs:=M.pure [.val .ao]) (fun σ H R Γ Q er w=>w [.ao] H R (aM.refl er) (.cons .ao .nil)) er (aT w (fun rv Γ' w x H' R' r e p so=>by subst e;exact w x H' R' p so.rp) fun _ _ z=>z)
end
def Fh(C:Cn)(m qual:Str)(st:Stmt):Prop:=∃ f fd,jf KC.K m qual st f fd/\Meth KC.K (KC.cls C) m f
def vK(P:Program)(w:World)(mg:Str->Option Value)(base:Heap)(C:Cn)(m:Str)(k:Nat)(ps:List Str)(sp:Sp):Prop:=∃ f fd,Meth KC.K (KC.cls C) m f/\a8 P w KC.K mg base eP k f fd ps sp/\Binds KC.K fd ps []
section
variable{P:Program}{w:World}{mg:Str->Option Value}{base:Heap}{k:Nat}{N ps:List Str}{C:Cn}{m qual fl:Str}{st:Stmt}
theorem M5{G:List D->Option Rt}{bm:M Fl}(A0:Fh C m qual st)(S:aq N ps (aa st))
 (bd:∀ (kV doc pm:Value) (an:Option Addr) (cdv ct:Value) (us:List Value),us.length=ps.length->bindArgs (W.fnOf m qual (aW st) (ag st) (aa st) .none kV doc pm an cdv ct) ⟨us,[]⟩=pure (ps.zip us))
 (hb:∀ (fa:Addr) (cdv:Value) (A:Around) (outer:List Env) (s:Shared) (H:Hp) (E:XK),ax k (A.deeper (PyProof.Rows.envOfC qual (aa st) s.heap.objs.size fa cdv))->cG (gn eP P w KC.K mg base N qual (aa st) fa cdv A outer s H E).jU EN [] (ag st) bm)
 (h:∀ ds r,G ds=some r->ds.length=ps.length/\bG (bm (gam N ds))=some r):vK P w mg base C m (k+1) ps (cT G) :=
 let ⟨f,fd,F,hm⟩:=A0
 ⟨f,fd,hm,yA F S (hb f) h,F.binds bd⟩
def Fi(C:Cn)(qual:Str)(st:Stmt)(ps:List Str):Prop:=∃ (fa:Addr) (dV kV doc pm cdv ct oc:Value) (an od:Option Addr) (osl:Array (Option Value)),KC.K.lookup fa=some ⟨oc,od,.func (W.fnOf "__init__" qual (aW st) (ag st) (aa st) dV kV doc pm an cdv ct),osl⟩/\W.codeIn KC.K cdv qual=true/\Mk KC.K (KC.cls C) fa /\
 Binds KC.K (W.fnOf "__init__" qual (aW st) (ag st) (aa st) dV kV doc pm an cdv ct) ("self" :: ps) []/\Binds KC.K (W.fnOf "__init__" qual (aW st) (ag st) (aa st) dV kV doc pm an cdv ct) ("self" :: ps) [.none]/\KBd KC.K (W.fnOf "__init__" qual (aW st) (ag st) (aa st) dV kV doc pm an cdv ct) ps
def runN(C:Cn)(fl:Str)(n:Nat)(N:List Str)(s1 s2:M Fl)(fe:M RV):List D->Option Rx:=fun ds=>if ds.length=n then oW C fl (lH s1 s2 fe (none::gam N ds)) else none
theorem Fj{n:Nat}{s1 s2:M Fl}{fe:M RV}{ds:List D}{r:Rx}(h:runN C fl n N s1 s2 fe ds=some r):ds.length=n/\oW C fl (lH s1 s2 fe (none::gam N ds))=some r:=by
 unfold runN at h
 split at h
 · rename_i c;exact⟨c,h⟩
 · cases h
omit [KC] in
theorem Ac{α β:Type}{f:M α}{g:α->M β}{Γ Γ':En}{b:β}(h:M.bind f g Γ = .ok b Γ'):∃ a ah,f Γ = .ok a ah/\g a ah = .ok b Γ':=by
 unfold M.bind at h
 cases q:f Γ with
 |ok a ah=>rw[q] at h;exact⟨a,ah,rfl,h⟩
 |ex x ah=>rw[q] at h;cases h
 |st=>rw[q] at h;cases h
theorem M6{n:Nat}{s1 s2:M Fl}{fe:M RV}(ds:List D)(r:Rt)(h:runN C fl n N s1 s2 fe ds=some (.ok r)):∃ es,r = .val (.obj C [fl] [.lst es])/\gA es=true:=by
 have h:=(Fj h).2
 cases q:lH s1 s2 fe (none::gam N ds) with
 |st=>rw[q] at h;cases h
 |ex x Γ=>rw[q] at h;cases h
 |ok es Γ =>
   rw[q] at h
   cases h
   refine⟨es,rfl,?_⟩
   unfold lH at q
   obtain⟨l1,ah,_,q⟩:=Ac q
   cases l1 with
   |nx =>
     obtain⟨l2,au,_,q⟩:=Ac q
     cases l2 with
     |nx =>
       obtain⟨rv,me,_,q⟩:=Ac q
       cases rv with
       |new d =>
         cases d with
         |lst zs =>
           dsimp only at q
           split at q
           · rename_i hm
             cases q
             exact hm
           · cases q
         | _=>cases q
       | _=>cases q
     | _=>cases q
   | _=>cases q
theorem M7{x:Str}{n:Nat}{s1 s2:M Fl}{fe:M RV}{st1 st2:Stmt}{self:Str}{p0 p1 p2:Pos}{e:Expr}(A0:Fi C qual st ps)(hm:mg x=some (.ref (KC.cls C)))(S:aq ("self" :: N) ("self" :: ps) (aa st))(hbd:ag st=[st1,st2,.Assign [.Attribute (.Name self p0) fl p1] e p2])(hcl:g_ KC.K (KC.cls C))(hna:aU KC.K (KC.cls C) fl)(hn:ps.length=n)(hN:n<N.length+1)
 (hb:∀ (fa:Addr) (cdv:Value) (A:Around) (outer:List Env) (s:Shared) (H:Hp) (E:XK),ax k (A.deeper (PyProof.Rows.envOfC qual (aa st) s.heap.objs.size fa cdv))->let X:=gn (fQ P w) P w KC.K mg base ("self" :: N) qual (aa st) fa cdv A outer s H E
  VJ 0 X (fun _=>E) [] st1 s1/\VJ 0 X (fun _=>E) [] st2 s2/\VE X (fun _=>E) [] e fe/\PE X (.Name self p0) (nc 0)/\swapsWith e (some (.Attribute (.Name self p0) fl p1)) p2.line X.env=pure false):qm P w mg base x (k+1) ps [.ao] C fl (runN C fl n N s1 s2 fe):=by
 obtain⟨fa,dV,kV,doc,pm,cdv,ct,oc,an,od,osl,lk,hcd,Mo,b0,b1,b2⟩:=A0
 refine⟨hm,M6,fa,_,Mo,MX lk hcd S hbd hcl hna (hb fa cdv) (fun ds r q=>?_),b0,⟨[.none],b1,.cons rfl .nil⟩,b2⟩
 obtain⟨h1,h2⟩:=Fj q
 exact⟨by rw[List.length_cons,hn,h1],by rw[h1];exact hN,h2⟩
end
section
variable{X:Cx}{EE:a9}{ios:List Addr}{k:Nat}{ps:List Str}{C:Cn}{m:Str}{pos apos:Pos}{e o:Expr}{es:List Expr}{fs:M (List RV)}{fo:M RV}{Gp:List D->Option Rt}
theorem oX{pl:Sem Bool}(hcl:g_ KC.K (KC.cls C))(Mc:vK X.prog X.w X.mg X.base C m k ps (cT Gp))(hr:ax k X.A)(ha:VE X EE ios o fo)(hK:X.K=KC.K:=by rfl)
 (ht:eval (.Call (.Attribute o m apos) [] [] pos) X.env=(do
  let ov <- eval o X.env
  standAt apos.atName
  let (f,first) <- holding [ov] (getMethod ov m pl)
  callWith pos f first (backTo pos (starEach [] X.env)) (backToKw pos (keywordEach [] X.env))):=by rfl):VE X EE ios (.Call (.Attribute o m apos) [] [] pos) (gF C m Gp fo):=by
 obtain⟨f,fd,hm,F,hb⟩:=Mc
 rw[<- hK] at hcl hm F hb
 exact MQ hcl hm F hr hb ha ht
theorem M8{y:Str}(hcl:g_ KC.K (KC.cls C))(hna:aU KC.K (KC.cls C) y)(ha:VE X EE ios e fo)(hb:attributeBase e y X.env (eval e X.env)=eval e X.env:=by rfl)(hK:X.K=KC.K:=by rfl):VE X EE ios (.Attribute e y pos) (sE C y fo):=by
 rw[<- hK] at hcl hna
 exact MP hcl hna ha hb
end
end Dv
namespace Dv
open PySem L2 Ex
section
variable{Γ:En}{f fo:M RV}{fs:M (List RV)}{G:List D->Option Rt}{GX:List D->Option Rx}{C:Cn}{m y:Str}
@[simp] theorem Ad:gF C m G f Γ=M.bind f (fun rv=>M.bind (mat rv) fun d=>match d with
 | .obj C' ns vs=>if cd (C'=C/\m ∉ ns) then M.cF ((G [.obj C' ns vs]).map Rt.rv) else M.st
 | _=>M.st) Γ:=(rfl)
@[simp] theorem Ae:sE C y f Γ=M.bind f (fun rv=>M.bind (mat rv) fun d=>match d with
 | .obj C' ns vs=>if cd (C'=C) then M.cF (((ns.zip vs).lookup y).map .val) else M.st
 | _=>M.st) Γ:=(rfl)
@[simp] theorem vL:h8 GX fs Γ=M.bind fs (fun rvs=>M.bind (cS rvs) fun ds=>match GX ds with
 |some (.ok r)=>M.pure r.rv
 |some (.ex x)=>M.bind (b7 rvs) fun ds'=>match GX ds' with
  |some (.ex x)=>M.thr x
  | _=>M.st
 |none=>M.st) Γ:=(rfl)
@[simp] theorem vM:sF f Γ=M.bind (jJ f) (fun x=>M.bind (peek x) fun d=>M.cF (ql d)) Γ:=(rfl)
@[simp] theorem vN{xs:List D}:ql (.lst xs)=some (.val (.bl true)):=(rfl)
@[simp] theorem Fm{out:List D->Option RV}{items:M (List D)}{fr:List Nat}{own:Nat}{t:D->M Unit}{p:M Bool}:vD out items fr own t p f Γ=M.bind items (fun ds=>if ds.length<256 then M.bind (dk fr own t p f ds) fun ys=>M.cF (out ys) else M.st) Γ:=(rfl)
@[simp] theorem Af{ys:List D}:qk ys=(asP ys).map fun cs=>.new (.lst ((aH cs).map pD)):=(rfl)
@[simp] theorem Fn:cd (¬ ("points" : Str) = "held")=true:=jH (by decide +kernel)
@[simp] theorem Fo:cd True=true:=jH trivial
end
def Fp(sc:Scope)(y:Str):Bool:=match sc.names.lookup y with
 |some .local=>true
 |some .cell=>true
 | _=>false
theorem bH{sc:Scope}{y:Str}(h:Fp sc y=true):Loc sc y:=by
 unfold Fp at h
 split at h
 · rename_i e;exact .inl e
 · rename_i e;exact .inr e
 · cases h
end Dv
namespace L2
open PySem PySem.Spec PyProof.Rows Ex
mutual
inductive cU(H:Hp):V->PyData->Prop
 |ao:cU H .ao .none
 |bl (b:Bool):cU H (.bl b) (.bool b)
 |int (i:Int):cU H (.int i) (.int i)
 |str (x:Str):cU H (.str x) (.str x)
 |lst {a:Addr} {xs:List V} {ds:List PyData}:H a=some (.lst xs)->cp H xs ds->cU H (.ref a) (.list ds)
 |tup {a:Addr} {xs:List V} {ds:List PyData}:H a=some (.tup xs)->cp H xs ds->cU H (.ref a) (.tuple ds)
 |gp {a:Addr}:H a=some (.dK [])->cU H (.ref a) (.dict [])
inductive cp(H:Hp):List V->List PyData->Prop
 |nil:cp H [] []
 |cons {x:V} {d:PyData} {xs:List V} {ds:List PyData}:cU H x d->cp H xs ds->cp H (x::xs) (d::ds)
end
def Ag(K:W.Frag):Prop:=∃ o,K.lookup sysModules=some o/\o.cls = .type "dict"
mutual
theorem cU.reads{P:Program}{w:World}{H:Hp}{h:Heap}(ok:b6 P w H h)(hs:∀ o,h.get? sysModules=some o->o.cls = .type "dict"):∀ {x:V} {d:PyData} {u:Value},cU H x d->RelV x u->∃ as,Reads h u d as/\sysModules ∉ as
 | _,_,_,.ao,r=>by cases r;exact⟨_,.none,by simp⟩
 | _,_,_,.bl b,r=>by cases r;exact⟨_,.bool b,by simp⟩
 | _,_,_,.int i,r=>by obtain⟨t,rfl⟩:=r;exact⟨_,.int i t,by simp⟩
 | _,_,_,.str x,r=>by obtain⟨t,rfl⟩:=r;exact⟨_,.str x t,by simp⟩
 | _,_,_,.lst e D,r=>by
   cases r
   obtain⟨_,its,n,rv,q⟩:=ok _ _ e
   obtain⟨as,R,ns⟩:=cp.reads ok hs D rv
   refine⟨_,.list q rfl rfl R,fun z=>?_⟩
   rcases List.mem_cons.mp z with z | z
   · exact absurd (show Value.type "list" = Value.type "dict" from hs _ (z ▸ q)) (by decide)
   · exact ns z
 | _,_,_,.tup e D,r=>by
   cases r
   obtain⟨_,its,rv,o,q,c,n,d⟩:=ok _ _ e
   obtain⟨as,R,ns⟩:=cp.reads ok hs D rv
   exact⟨_,.tuple q c d R,ns⟩
 | _,_,_,.gp e,r=>by
   cases r
   obtain⟨R,nb⟩:=Lz ok e
   exact⟨_,R,fun z=>nb (List.mem_singleton.mp z).symm⟩
theorem cp.reads{P:Program}{w:World}{H:Hp}{h:Heap}(ok:b6 P w H h)(hs:∀ o,h.get? sysModules=some o->o.cls = .type "dict"):∀ {xs:List V} {ds:List PyData} {us:List Value},cp H xs ds->Vals xs us->∃ as,ReadsAll h us ds as/\sysModules ∉ as
 | _,_,_,.nil,r=>by cases r;exact⟨_,.nil,by simp⟩
 | _,_,_,.cons a b,r=>by
   cases r with
   |cons r1 r2 =>
     obtain⟨_,R1,n1⟩:=cU.reads ok hs a r1
     obtain⟨_,R2,n2⟩:=cp.reads ok hs b r2
     exact⟨_,.cons R1 R2,fun z=>(List.mem_append.1 z).elim n1 n2⟩
end
section
variable{X:Cx}
theorem M9{k:Nat}(hr:ax k X.A)(sm:Ag X.K):aS X (.builtin "repr") (fun xs H Q=>∃ (a:Addr) (d:PyData),xs=[.ref a]/\cU H (.ref a) d/\d.showable=true/\d.depth<=50/\d.shown.length<=sizeLine/\Q (.str d.shown) H):=by
 intro pins s σ H xs us Q I r h
 obtain⟨a,d,rfl,D,sh,dp,sz,q⟩:=h
 obtain⟨u,rfl,ru⟩:=r.one
 cases ru
 obtain⟨o,so,sc⟩:=sm
 obtain⟨as,R,ns⟩:=D.reads I.hok (fun o' e=>by rw[I.bf _ _ so] at e;cases e;exact sc) (u:=.ref a) rfl
 have un:=hr.units
 exact repr_of_reads' R sh (fun _=>ns) hr.gd (by omega) (fun _ _ z=>z) (fun h' u tk kp=>⟨.str d.shown,H,I.kept kp,⟨u,rfl⟩,q⟩) sz
theorem M_:aS X (.builtin "repr") (fun xs H Q=>xs=[.ao]/\Q (.str "None") H):=by
 intro pins s σ H xs us Q I r h
 obtain⟨rfl,q⟩:=h
 obtain⟨u,rfl,ru⟩:=r.one
 cases ru
 exact PySem.P.repr_of_none ⟨.str _,H,I.kept (fun _ _ e=>e),⟨_,rfl⟩,q⟩
end
end L2
namespace Dv
open PySem L2 Ex
variable[KC]
mutual
def h9:D->Bool
 | .ao=>true
 | .bl _=>true
 | .int _=>true
 | .str _=>true
 | .lst xs=>mK xs
 | .tup xs=>mK xs
 | .gp [] []=>true
 | _=>false
def mK:List D->Bool
 | []=>true
 |x::r=>h9 x && mK r
end
mutual
theorem Rp.jt{H:Hp}:∀ {x:V} {d:D},Rp H x d->h9 d=true->cU H x d.py
 | _,_,.ao,_=>.ao
 | _,_,.bl b,_=>.bl b
 | _,_,.int i,_=>.int i
 | _,_,.str x,_=>.str x
 | _,_,.lst e h,p=>.lst e (aB.jt h (by simpa [h9] using p))
 | _,_,.tup e h,p=>.tup e (aB.jt h (by simpa [h9] using p))
 | _,_,.gv e,p=>.gp e
 | _,_,.bM e,p=>by simp[h9] at p
 | _,_,.fT e,p=>by simp[h9] at p
 | _,_,.exc e e' h,p=>by simp[h9] at p
 | _,_,.obj e h,p=>by simp[h9] at p
theorem aB.jt{H:Hp}:∀ {xs:List V} {ds:List D},aB H xs ds->mK ds=true->cp H xs (D.eQ ds)
 | _,_,.nil,_=>.nil
 | _,_,.cons a b,p=>by
   have p:=Bool.and_eq_true_iff.mp (show(h9 _ && mK _)=true from by simpa only [mK] using p)
   exact .cons (Rp.jt a p.1) (aB.jt b p.2)
end
def Na:D->Bool
 | .lst _=>true
 | .tup _=>true
 | .gp _ _=>true
 | _=>false
def sI(d:D):Bool:=h9 d && d.py.showable && decide (d.py.depth<=50) && decide (d.py.shown.length<=sizeLine)
def iD:List D->Option RV
 | [.str x]=>if cd ((reprText x).length<=sizeLine) then some (.val (.str (reprText x))) else none
 | [.int i]=>if cd (i.natAbs.log2<1920) then some (.val (.str (toString i))) else none
 | [.bl b]=>some (.val (.str (if b then "True" else "False")))
 | [.ao]=>some (.val (.str "None"))
 | [d]=>if Na d && sI d then some (.val (.str d.py.shown)) else none
 | _=>none
def Fq(xs:List V)(H:Hp)(Q:VK):Prop:=(∃ (a:Addr) (d:PyData),xs=[.ref a]/\cU H (.ref a) d/\d.showable=true/\d.depth<=50/\d.shown.length<=sizeLine/\Q (.str d.shown) H) \/
 (∃ i:Int,xs=[.int i]/\i.natAbs.log2<1920/\Q (.str (toString i)) H) \/
 (∃ x:Str,xs=[.str x]/\(reprText x).length<=sizeLine/\Q (.str (reprText x)) H) \/
 (∃ b:Bool,xs=[.bl b]/\Q (.str (if b then "True" else "False")) H)\/(xs=[.ao]/\Q (.str "None") H)
omit [KC] in
theorem vO{X:Cx}{k:Nat}(hr:ax k X.A)(sm:Ag X.K):aS X (.builtin "repr") Fq:=(M9 hr sm).or (gB.or (gC.or (gD.or M_)))
theorem vP:nB Fq iD:=by
 intro R H xs ds rv Q s px hg q
 unfold iD at hg
 split at hg
 · rename_i x
   split at hg
   · rename_i c
     cases hg
     obtain⟨x,rfl,p⟩:=px.one
     have e:=p.str
     subst e
     exact .inr (.inr (.inl ⟨_,rfl,lj c,q _ H R (Al.refl s) (.str _)⟩))
   · cases hg
 · rename_i i
   split at hg
   · rename_i c
     cases hg
     obtain⟨x,rfl,p⟩:=px.one
     have e:=p.int
     subst e
     exact .inr (.inl ⟨_,rfl,lj c,q _ H R (Al.refl s) (.str _)⟩)
   · cases hg
 · rename_i b
   cases hg
   obtain⟨x,rfl,p⟩:=px.one
   have e:=p.bl
   subst e
   exact .inr (.inr (.inr (.inl ⟨_,rfl,q _ H R (Al.refl s) (.str _)⟩)))
 · cases hg
   obtain⟨x,rfl,p⟩:=px.one
   have hv:=p.hv s
   cases hv
   exact .inr (.inr (.inr (.inr ⟨rfl,q _ H R (Al.refl s) (.str _)⟩)))
 · rename_i d _ _ _ _
   obtain⟨x,rfl,p⟩:=px.one
   split at hg
   · rename_i c
     cases hg
     rw[Bool.and_eq_true] at c
     obtain⟨c1,c0⟩:=c
     unfold sI at c0
     simp only[Bool.and_eq_true,decide_eq_true_eq] at c0
     obtain⟨⟨⟨c2,c3⟩,c5⟩,c6⟩:=c0
     have hv:=p.hv s
     have D:=hv.jt c2
     have:∃ a,x = .ref a:=by cases hv<;>first | exact⟨_,rfl⟩ | cases c1
     obtain⟨a,rfl⟩:=this
     exact .inl ⟨a,d.py,rfl,D,c3,c5,c6,q _ H R (Al.refl s) (.str _)⟩
   · cases hg
 · cases hg
end Dv
namespace St
open PySem PyProof.Rows PySem.Spec
section
variable{prog:Program}{w:World}{A:Around}{E:Value->Shared->Prop}{s:Shared}
def vQ(cs:List Z)(i:Nat)(zs:List Z):Prop:=(∀ c,c∈zs.map (·.1) ↔ c∈(cs.take i).map (·.1))/\(∀ z∈zs,z∈cs)/\zs.length<=i/\(zs.map (·.1)).Nodup
theorem Nb{R:Result->Shared->Prop}{I S:Addr}{fp wr:List Addr}{n:Nat}{P:Nat->Value->Prop}{Wt:Nat->Heap->Prop}(W:Walks prog w A.in1 I fp wr n P Wt)(hSf:S ∉ fp)(hu:A.units+1<cLine){B:Bool}(cs:List Z)(hl:cs.length=n)
 (hv:∀ i v,P i v->∃ z,cs[i]? = some z/\v = .ref z.2) (hn:n<300) (sm:∀ z∈cs,cq z.1) (Fs:∀ z∈cs,z.2 ∉ S::wr):∀ (k i:Nat) (s:Shared) (zs:List Z),n - i=k->i<=n->Wt i s.heap->(∀ z∈cs,bO s.heap z.1 z.2)->bP B s.heap S zs->vQ cs i zs ->
  (∀ h' tk zs',(∀ b o,b ∉ S::wr->s.heap.get? b=some o->h'.get? b=some o)->bP B h' S zs'->vQ cs n zs'->R (.ok (.ret .none)) { s with heap:=h',toks:=tk }) ->
  codeAny (model prog w) A (.builtin "set.update.loop" ⟨[.ref S,.ref I],[]⟩) R s:=by
 have hSw:S ∉ wr:=fun z=>hSf (W.sub _ z)
 intro k
 induction k with
 |zero =>
   intro i s zs hk hi st hP hS hT hR
   obtain rfl:i=n:=by omega
   refine codeAny_builtin PyProof.Rows.F.entry_set_update_loop ?_
   rw[Around.under_plainId PyProof.Rows.F.plain_set_update_loop _]
   show wpAny _ _ (pyNext (.ref I) >>= _) _ _ _
   refine wpAny_bind (W.done s _ _ st fun h' tk hk=>?_)
   show  wpAny _ _ (ret Value.none) _ _ _
   exact wpAny_pure (hR h' tk zs (fun b o hb e=>hk b o (fun z=>hb (.tail _ z)) e) (hS.at fun o e=>hk _ _ hSw e) hT)
 |succ k ih =>
   intro i s zs hk hi st hP hS hT hR
   have lt:i<n:=by omega
   refine codeAny_builtin PyProof.Rows.F.entry_set_update_loop ?_
   rw[Around.under_plainId PyProof.Rows.F.plain_set_update_loop _]
   show wpAny _ _ (pyNext (.ref I) >>= _) _ _ _
   refine wpAny_bind (W.item i s _ _ lt st fun v h1 Nd hv1 st1 hk1=>?_)
   obtain⟨z,hz,rfl⟩:=hv i v hv1
   have Ah:z∈cs:=List.mem_of_getElem? hz
   have hS1:bP B h1 S zs:=hS.at fun o e=>hk1 _ _ hSw e
   have vR:∀ z∈cs,bO h1 z.1 z.2:=fun y hy=>(hP y hy).at fun o e=>hk1 _ _ (fun q=>Fs y hy (.tail _ q)) e
   have e1:cs.take (i+1)=cs.take i++[z]:=by
    obtain⟨h1,h2⟩:=List.getElem?_eq_some_iff.mp hz
    rw[List.take_succ_eq_append_getElem h1,h2]
   show wpAny _ _ (holding [Value.ref z.2] (setAdd S (.ref z.2)) >>= _) _ _ _
   refine  wpAny_bind (wpAny_holding ?_)
   refine Bz (s:={ s with heap:=h1,toks:=Nd }) hu hS1 (fun y hy=>vR y (hT.2.1 y hy)) (vR z Ah) (sm z Ah) (by have:=hT.2.2.1;omega) (fun hin tk=>?_) fun oV h2 tk zs' sb S2 pm=>?_
   · refine wpAny_pure ⟨plainId_quiet PyProof.Rows.F.plain_set_update_loop _,ih (i+1) _ zs (by omega) lt st1 vR hS1 ⟨fun c=>?_,hT.2.1,by have:=hT.2.2.1;omega,hT.2.2.2⟩ fun h3 tk3 Ai hk3 S3 T3=>?_⟩
     · rw[e1,List.map_append,List.mem_append,hT.1 c]
       constructor
       · exact .inl
       · rintro(q | q)
         · exact q
         · simp at q;rw[q];exact(hT.1 _).mp hin
     · exact hR h3 tk3 Ai (fun b o hb e=>hk3 b o hb (hk1 b o (fun z=>hb (.tail _ z)) e)) S3 T3
   · have cQ:=pm.map (·.1)
     refine wpAny_pure ⟨plainId_quiet PyProof.Rows.F.plain_set_update_loop _,ih (i+1) _ zs' (by omega) lt (W.frame _ _ _ st1 fun b hb o e=>?_) (fun y hy=>(vR y hy).at fun o e=>?_) S2 ⟨fun c=>?_,fun y hy=>?_,?_,?_⟩ fun h3 tk3 Ai hk3 S3 T3=>?_⟩
     · rw[sb.2 b fun z=>hSf (by rw[<- z];exact hb)];exact e
     · rw[sb.2 y.2 fun q=>Fs y hy (by rw[q];exact List.mem_cons_self)];exact e
     · rw[cQ.mem_iff,e1,List.map_append,List.mem_append,List.map_cons,List.mem_cons,hT.1 c]
       simp[or_comm]
     · rcases List.mem_cons.mp (pm.mem_iff.mp hy) with e | e
       · rw[e];exact Ah
       · exact hT.2.1 y e
     · rw[pm.length_eq,List.length_cons];have:=hT.2.2.1;omega
     · exact cQ.nodup_iff.mpr (List.nodup_cons.mpr ⟨oV,hT.2.2.2⟩)
     · refine hR h3 tk3 Ai (fun b o hb e=>hk3 b o hb ?_) S3 T3
       rw[sb.2 b fun z=>hb (by rw[z];exact List.mem_cons_self)]
       exact hk1 b o (fun z=>hb (.tail _ z)) e
theorem ju{l:Addr}{items:Array Value}{cs:List Z}{Q:Value->Shared->Prop}(hh:A.handled=none)(hu:A.units+10<cLine)(hl:s.heap.IsList l items)(hi:items.toList=cs.map fun z=>Value.ref z.2)(hP:∀ z∈cs,bO s.heap z.1 z.2)(sm:∀ z∈cs,cq z.1)(hn:cs.length<300)
 (h:∀ (h':Heap) (tk:Nat) (zs:List Z),bP (w.params.followText "set-order") h' s.heap.objs.size zs->vQ cs cs.length zs->(∀ b o,s.heap.get? b=some o->h'.get? b=some o)->Q (.ref s.heap.objs.size) { s with heap:=h',toks:=tk }) :
 wpAny (model prog w) A (call (.type "set") [.ref l]) Q E s:=by
 have len:cs.length=items.size:=by have:=congrArg List.length hi;simpa using this.symm
 refine Gy rfl ?_
 generalize w.params.followText "set-order" = B at h ⊢
 obtain⟨⟨cl,di,da,sl⟩,g,rfl,n,rfl⟩:=hl
 have new:(s.heap.push (bh #[] 0 (.fresh 0 0 (!B)))).get? s.heap.objs.size=some (bh #[] 0 (.fresh 0 0 (!B))):=Heap.get?_push_size _ rfl
 generalize hH:s.heap.push (bh #[] 0 (.fresh 0 0 (!B)))=H at new ⊢
 have up:∀ b o,s.heap.get? b=some o->H.get? b=some o:=fun b o e=>by rw[<- hH];exact Heap.get?_push_of_some _ e
 have sz:H.objs.size=s.heap.objs.size+1:=by rw[<- hH];exact Heap.size_push ..
 have gl:=up _ _ g
 have lt:l<s.heap.objs.size:=Heap.lt_size g
 have il:H.IsList l items:=⟨_,gl,rfl,n,rfl⟩
 have no:=F.sub_list_set
 have PZ:=F.sub_list_frozenset
 have P0:(Value.type "list" == Value.type "dict")=false:=by decide
 have new':=new
 unfold bh at new
 unfold Builtin.«set.__init__» noKeywords
 unfold Builtin.Frozenset.updateFrom
 generalize Nf:pyIter=PI
 wp_walk
 rw[<- Nf]
 refine PySem.wpAny_pyIter_list (s:={ s with heap:=H }) il ?_
 refine wpAny_bind ?_
 have Ng:∀ z∈cs,z.2<s.heap.objs.size:=fun z hz=>by obtain⟨o,_,_,_,_,e,_⟩:=hP z hz;exact Heap.lt_size e
 refine wpAny_runValue (Nb (Walks.list (by simp[hh]) H.objs.size l (Nat.ne_of_lt (by rw[sz];exact Nat.lt_succ_of_lt lt)) items) (S:=s.heap.objs.size) (B:=B) (fun z=>?_) (by simp[Around.in1];omega) cs len (fun i v hv=>?_) (by omega) sm (fun z hz q=>?_) (items.size - 0) 0 _ [] rfl (Nat.zero_le _)
  ⟨⟨_,Heap.get?_push_size _ rfl,rfl,rfl⟩,il.push _⟩ (fun z hz=>(hP z hz).at fun o e=>Heap.get?_push_of_some _ (up _ _ e)) (bP.fresh B (Heap.get?_push_of_some _ new')) ⟨fun c=>by simp,(fun z hz=>nomatch hz),Nat.le_refl _,List.nodup_nil⟩ fun h' tk zs hk S' T'=>?_)
 · rcases List.mem_cons.mp z with z | z
   · rw[sz] at z
     exact absurd z (Nat.ne_of_lt (Nat.lt_succ_self _))
   · exact absurd (List.mem_singleton.mp z) (Nat.ne_of_gt lt)
 · have hv:items.toList[i]? = some v:=by rw[Array.getElem?_toList];exact hv
   rw[hi,List.getElem?_map] at hv
   cases q:cs[i]? with
   |none=>rw[q] at hv;cases hv
   |some z=>rw[q] at hv;cases hv;exact⟨z,rfl,rfl⟩
 · have:=Ng z hz
   rcases List.mem_cons.mp q with q | q
   · exact absurd q (Nat.ne_of_lt this)
   · rw[List.mem_singleton,sz] at q
     exact absurd q (Nat.ne_of_lt (Nat.lt_succ_of_lt this))
 · show wpAny _ _ _ _ _ _
   refine wpAny_pure (show wpAny _ _ (ret Value.none) _ _ _ from wpAny_pure ⟨rfl,h h' tk zs S' (by rw[len];exact T') fun b o e=>hk b o (fun z=>?_) (Heap.get?_push_of_some _ (up b o e))⟩)
   have bl:=Heap.lt_size e
   rcases List.mem_cons.mp z with z | z
   · exact absurd z (Nat.ne_of_lt bl)
   · rw[List.mem_singleton,sz] at z
     exact absurd z (Nat.ne_of_lt (Nat.lt_succ_of_lt bl))
end
end St
namespace L2
open PySem PySem.Spec PyProof.Rows Ex St So
section
variable{X:Cx}
theorem Nh{k:Nat}(hr:ax k X.A)(calm:X.calm=true):aS X (.type "set") (fun xs H Q=>∃ (p:Addr) (cs:List Z),xs=[.ref p]/\bQ X.K H p (cs.map fun z=>V.ref z.2)/\(∀ z∈cs,H z.2=some (.tup [.int z.1.1,.int z.1.2]))/\(∀ z∈cs,cq z.1)/\cs.length<300 /\
 ∀ l zs,H l=none->vQ cs cs.length zs->Q (.ref l) (upd H l (sf X l zs))):=by
 intro pins s σ H xs us Q I r h
 obtain⟨p,cs,rfl,hS,ht,sm,hn,q⟩:=h
 obtain⟨u,rfl,ru⟩:=r.one
 cases ru
 obtain⟨its,rv,pl,hz⟩:=I.list hS
 have e:its=cs.map fun z=>Value.ref z.2:=by
  clear hS hz pl q hn
  induction cs generalizing its with
  |nil=>cases rv;rfl
  |cons z r ih =>
    cases rv with
    |cons a b =>
      cases a
      rw[List.map_cons,ih (fun y hy=>ht y (.tail _ hy)) (fun y hy=>sm y (.tail _ hy)) _ b]
 have hu:=hr.un
 refine St.ju (I.ok.hd calm) (by omega) pl.isList (by simpa using e) (fun z hz=>vt I.hok (ht z hz)) sm hn fun h' tk zs S T k=>?_
 exact⟨.ref s.heap.objs.size,_,I.laid (t':=tk) (o:=sf X s.heap.objs.size zs) k (Nat.le_refl _) (L1 S),rfl,q _ zs (I.hok.fresh (Nat.le_refl _)) T⟩
end
end L2
namespace Dv
open PySem L2 Ex St So
variable[KC]
def vT:List D->Option RV
 | [.lst ds]=>(asP ds).bind fun cs=>if cs.length<256 then some (.new (.lst ((aH cs).map pD))) else none
 | _=>none
theorem Ft{R:Hp}:∀ {ys:List V} {ds:List D} {cs:List (Int×Int)},aB R ys ds->asP ds=some cs->∃ zs:List Z,ys=(zs.map fun z=>V.ref z.2)/\zs.map (·.1)=cs/\(∀ z∈zs,R z.2=some (.tup [.int z.1.1,.int z.1.2]))/\∀ z∈zs,cq z.1
 | _,_,cs,.nil,h=>by cases h;exact⟨[],rfl,rfl,(fun z hz=>nomatch hz),fun z hz=>nomatch hz⟩
 | _,_,cs,.cons a b,h=>by
   obtain⟨c,cs',rfl,sm,h',rfl⟩:=sC h
   obtain⟨zs,e1,e2,e3,e4⟩:=Ft b h'
   obtain⟨p,rfl,hp⟩:=E_ a
   refine⟨(c,p)::zs,by rw[List.map_cons,e1],by rw[List.map_cons,e2],fun z hz=>?_,fun z hz=>?_⟩
   · rcases List.mem_cons.mp hz with rfl | hz
     · exact hp
     · exact e3 z hz
   · rcases List.mem_cons.mp hz with rfl | hz
     · exact sm
     · exact e4 z hz
section
variable{X:Cx}{EE:a9}{ios:List Addr}{e:Expr}{fs:M (List RV)}{pos p0 p1 p2:Pos}
theorem Ni{k:Nat}(hr0:ax k X.A)(hl:X.mg "sorted" = none)(hg:Gl X "sorted")(hr:X.mg "set" = none)(hg':Gl X "set")(hc:X.calm=true)(ha:VA X EE ios [e] fs)(hs:starEach [.Call (.Name "set" p1) [e] [] p2] X.env=[(false,eval (.Call (.Name "set" p1) [e] [] p2) X.env)]:=by rfl)
 (he:starEach [e] X.env=[(false,eval e X.env)]:=by rfl):VE X EE ios (.Call (.Name "sorted" p0) [.Call (.Name "set" p1) [e] [] p2] [] pos) (cm vT fs):=by
 obtain⟨t,h1,h2⟩:=ha
 refine⟨_,cB (E8 hc) hg hl (by decide +kernel) (bp (nV (Nh hr0 hc) hg' hr (by decide +kernel) h1 (he:=he) (hpl:=rfl)) dD (hs:=hs)) (he:=hs) (hpl:=rfl),fun σ H R Γ Q er w=>?_⟩
 unfold cm at w
 rw[ZY] at w
 refine h2 σ H R Γ _ er (aT w (fun rvs ah w xs H1 R1 p1 hx=>?_) fun _ _ z=>z)
 rw[ZY] at w
 obtain⟨ds,pd,w⟩:=pR p1.er hx w
 obtain⟨rv,hg,w⟩:=iy w
 unfold vT at hg
 split at hg
 · rename_i l
   cases h:asP l with
   |none=>rw[h] at hg;cases hg
   |some cs =>
     rw[h] at hg
     have hg:(if cs.length<256 then some (RV.new (.lst ((aH cs).map pD))) else none)=some rv:=hg
     split at hg
     · rename_i c
       cases hg
       obtain⟨x,rfl,p⟩:=pd.one
       obtain⟨a,ys,rfl,g1,g2⟩:=p.lst p1.er.sub
       obtain⟨zs,rfl,e2,e3,e4⟩:=Ft g2 h
       have zl:zs.length=cs.length:=by rw[<- e2,List.length_map]
       refine⟨a,zs,rfl,bQ.of g1,fun z hz=>p1.er.sub _ _ (e3 z hz),e4,by omega,fun l ws hl T=>?_⟩
       have mJ:Al R1 H1 R1 (upd H1 l (sf X l ws)):=LK p1.er.sub hl
       refine⟨l,ws,rfl,cN,fun z hz=>mJ.sub _ _ (e3 z (T.2.1 z hz)),by have:=T.2.2.1;omega,fun q ws' hq pm pw=>?_⟩
       have zW:(ws'.map (·.1)).Nodup:=(pm.map _).nodup_iff.mpr T.2.2.2
       have ez:ws'.map (·.1)=aH cs:=zQ (zR h) zW (List.pairwise_map.mpr pw) fun c=>by rw[(pm.map _).mem_iff,T.1 c,List.take_length,e2]
       obtain⟨al,rv⟩:=lV mJ.sub hq (zS ws' fun z hz=>e3 z (T.2.1 z (pm.mem_iff.mp hz)))
       rw[ez] at rv
       exact w _ _ _ ((p1.al mJ).al al) (rv.rv ((p1.al mJ).back er))
     · cases hg
 · cases hg
end
end Dv
namespace Dv
open PySem L2 Ex
variable[KC]
section
variable{X:Cx}{EE:a9}{ios:List Addr}{R H R0 H0 R1 H1:Hp}{σ P1:St}{Γ fV ah:En}
section
variable{a b:Expr}{f g:M RV}{j:Nat}{as bs:List D}{sts:List Stmt}{st:Stmt}{s s':M Fl}{pos:Pos}
def sJ(_ es:List D):Option (List D×D):=match es with
 | []=>some ([],.ao)
 | _=>none
theorem Nj:rC CL sJ:=by
 intro R H p xs ds ys es ds' res Q s hr hp hx hy hg q
 unfold sJ at hg
 split at hg
 · cases hg
   cases hy
   exact⟨p,xs,rfl,rfl,hp,q _ _ .nil .ao⟩
 · cases hg
end
end
end Dv
namespace L2
open PySem PySem.Spec PyProof.Rows PySem.Calls Builtin.SmallTypes
section
variable{prog:Program}{w:World}{A:Around}{E:Value->Shared->Prop}{s:Shared}
theorem Fu{it t:Addr}{k:Nat}{xs:Array Value}{Q:Value->Shared->Prop}(hh:A.handled=none)(st1:s.heap.IsTupleIter it t k)(st2:s.heap.IsTuple t xs)(hx:xs[k]? = none)
 (q:∀ h' e,Heap.ExtBut it s.heap h'->(∃ o,h'.get? e=some o/\o.cls = .type "StopIteration")->E (.ref e) { s with heap:=h' }):wpAny (model prog w) A (nextOf (.ref it)) Q E s:=by
 obtain⟨o,ho,hc,hd⟩:=id st1
 obtain⟨ol,hol,_,nl,hdl⟩:=id st2
 delta nextOf
 apply wpAny_bind
 apply wpAny_callSpecial?_slot (name:=Str.ofString "__next__") st1.typeIs F.slot_tuple_iterator_next
 apply wpAny_call_entry F.slot_tuple_iterator_next st1.typeIs F.entry_tuple_iterator_next _ (F.args_tuple_iterator_next_1 _)
 change wpAny _ _ (field (.ref it) 0 >>= _) _ _ _
 apply wpAny_bind;apply wpAny_field ho hd (x:=.ref t) rfl
 change wpAny _ _ (if (Value.ref t == Value.none)=true then _ else _) _ _ _
 rw[if_neg (by intro z;cases beq_iff_eq.mp z)]
 change wpAny _ _ (field (.ref it) 1 >>= _) _ _ _
 apply wpAny_bind;apply wpAny_field ho hd (x:=.int k 0) rfl
 change wpAny _ _ (seqItems? (.ref t) >>= _) _ _ _
 apply wpAny_bind;apply wpAny_seqItems hol hdl
 rw[Int.toNat_natCast]
 dsimp only
 rw[hx]
 dsimp only
 apply wpAny_bind;apply wpAny_rule;apply wpAny_bind;apply wpAny_setField ho hd (by simp)
 change wpAny _ _ (newExc (.type "StopIteration") [] >>= _) _ _ _
 apply wpAny_bind
 simp only[newExc,newTuple]
 apply wpAny_bind;apply wpAny_newObj_type _ (by size_fits)
 refine wpAny_bind (m:=firstArgMember _ _) (wpAny_of_eq (a:=Value.none) rfl ?_)
 apply wpAny_newObj_type _ (by size_fits)
 simp only[raiseNew]
 apply wpAny_bind;apply wpAny_handled
 rw[show A.in1.handled=none from hh]
 apply wpAny_throw
 exact q _ _ (((Heap.SameBut.update ..).extBut.push _).push _) ⟨_,Heap.get?_push_size _ rfl,rfl⟩
theorem Nk{it t:Addr}{xs:Array Value}(hh:A.handled=none)(ne:t≠it):Draws prog w A it [it,t] xs.size (fun i x=>xs[i]? = some x) (fun k h=>h.IsTupleIter it t k/\h.IsTuple t xs) where
 live:=fun i h st=>let ⟨o,e,_⟩:=st.1; ⟨o,e⟩
 frame:=fun i h h' st kp=>(Ex.fz (prog:=prog) (w:=w) ne).keep i h h' st fun b hb=>kp b hb
 item:=fun i s Q E hi st q=>by
  obtain⟨x,hx⟩:∃ x,xs[i]? = some x:=⟨xs[i],Array.getElem?_eq_getElem hi⟩
  exact(Ex.fz ne).item A E s i x Q st hx fun h' a sb=>q x h' s.toks hx a sb
 done:=fun s Q E st q=>Fu hh st.1 st.2 (by simp) q
theorem Nl(l:Addr)(items:Array Value)(n:Nat)(dct:Option Addr)(sl:Array (Option Value)) :
 Meets (Builtin.«enumerate.__new__» ⟨[.type "enumerate",.ref l],[]⟩) (fun _ R s=>s.heap.get? l=some { cls:=.type "tuple",dict:=dct,data:=.seq items n,slots:=sl } /\
  R (.ok (.ret (.ref (s.heap.push { cls:=.type "tuple_iterator",data:=.fields #[.ref l,.int 0 0] }).objs.size)))
   { s with heap:=(s.heap.push { cls:=.type "tuple_iterator",data:=.fields #[.ref l,.int 0 0] }).push { cls:=.type "enumerate",data:=.fields #[.none,.bool false,.ref s.heap.objs.size,rawInt 0,.none,.none] } }) :=
 .of_wp fun prog w A R s h=>by
  obtain⟨hp,g,d,tk,os⟩:=s
  obtain⟨hl,h⟩:=h
  have hsub:=sub_enumerate
  have hL:Heap.IsTuple (Shared.heap ⟨hp,g,d,tk,os⟩) l items:=⟨_,hl,rfl,n,rfl⟩
  wp_walk using AutoSeq1.wpAny_loadPart' hl
  refine wpAny_stack_any fun st=>wpAny_pure ?_
  split
  · rename_i c _ _ _ _ _
    cases (c == Value.type "enumerate")<;>(wp_walk using AutoSeq1.wpAny_loadPart' hl,wpAny_pyIter_tuple hL;exact⟨_,rfl,h⟩)
  · wp_walk using AutoSeq1.wpAny_loadPart' hl,wpAny_pyIter_tuple hL
    exact⟨_,rfl,h⟩
theorem Nn{l:Addr}{items:Array Value}{Q:Value->Shared->Prop}(hL:s.heap.IsTuple l items)
 (q:∀ h',IsEnum h' (s.heap.objs.size+1) s.heap.objs.size 0 .none->h'.IsTupleIter s.heap.objs.size l 0->h'.objs.size=s.heap.objs.size+2->(∀ b o,s.heap.get? b=some o->h'.get? b=some o)->Q (.ref (s.heap.objs.size+1)) { s with heap:=h' }) :
 wpAny (model prog w) A (call (.type "enumerate") [.ref l]) Q E s:=by
 obtain⟨⟨c,dct,dt,sl⟩,hl,hc,n,hd⟩:=hL
 have hc:c = .type "tuple" := hc
 have hd:dt = .seq items n:=hd
 subst hc hd
 apply callType_new F.called_enumerate (by decide) (F.typeCall_enumerate_1 _) (F.newCall_enumerate_1 _) (fun obj=>F.args_object_init_2 obj _) F.entry_enumerate_new (Nl l items n dct sl)
 refine⟨hl,?_⟩
 have hz:(s.heap.push { cls:=.type "tuple_iterator",data:=.fields #[.ref l,.int 0 0] }).objs.size=s.heap.objs.size+1:=Heap.size_push ..
 have he:=Heap.get?_push_size (s.heap.push { cls:=.type "tuple_iterator",data:=.fields #[.ref l,.int 0 0] }) (o:={ cls:=.type "enumerate",data:=.fields #[.none,.bool false,.ref s.heap.objs.size,rawInt 0,.none,.none] }) rfl
 rw[hz] at he
 change _/\_
 rw[hz]
 exact⟨⟨_,he,rfl⟩,q _ he ⟨_,Heap.get?_push_of_some _ (Heap.get?_push_size _ rfl),rfl,rfl⟩ (by rw[Heap.size_push,hz]) fun b o x=>Heap.get?_push_of_some _ (Heap.get?_push_of_some _ x)⟩
end
def Aj(l:Addr):It where
 go:=fun i H=>∃ xs x,H l=some (.tup xs)/\xs[i]? = some x
 nh:=fun i H v H'=>∃ p xs x,v = .ref p/\H p=none/\H'=upd H p (.tup [.int i,x])/\H l=some (.tup xs)/\xs[i]? = some x
 stop:=fun i H=>∃ xs,H l=some (.tup xs)/\xs.length<=i
def Np(n l:Addr)(i:Nat)(h:Heap):Prop:=∃ old,IsEnum h (n+1) n i old/\h.IsTupleIter n l i
theorem Nq{prog:Program}{w:World}{A:Around}{E:Value->Shared->Prop}{s:Shared}{e it t:Addr}{i:Int}{k:Nat}{xs:Array Value}{old:Value}{Q:Option Value->Shared->Prop}(hh:A.handled=none)(he:IsEnum s.heap e it i old)(st1:s.heap.IsTupleIter it t k)(st2:s.heap.IsTuple t xs)(hx:xs[k]? = none)(q:∀ h',Heap.ExtBut it s.heap h'->Q none { s with heap:=h' }):wpAny (model prog w) A (pyNext (.ref e)) Q E s:=by
 have ty:s.TypeIs (.ref e) "enumerate" := ⟨_,he,rfl⟩
 unfold pyNext
 apply wpAny_bind;apply wpAny_attempt
 apply wpAny_callSpecial?_slot (name:=Str.ofString "__next__") ty F.slot_enumerate_next
 apply wpAny_call_entry F.slot_enumerate_next ty F.entry_enumerate_next _ (F.args_enumerate_next_1 _)
 change wpAny _ _ (field (.ref e) 2 >>= _) _ _ _
 apply wpAny_bind;apply wpAny_field he rfl (x:=.ref it) rfl
 apply wpAny_bind
 refine Fu (A:=A.in1) hh st1 st2 hx fun h' x he' hx'=>?_
 obtain⟨o,ho,hc⟩:=hx'
 refine wpAny_bind (wpAny_isInstance (T := "StopIteration") (b:=true) ⟨o,ho,hc⟩ isSubtype_stop ?_)
 exact wpAny_pure (q _ he')
theorem Nr{P:Program}{w:World}{K:PySem.W.Frag}{es:List Expr}{x1}{pos:Pos}(l n:Addr)(ln:l≠n)(Nt:l≠n+1):Turn P w K (.Tuple es x1 pos) (Aj l) (jF n) (n+1) (Np n l) where
 mem:=by simp[jF]
 obj:=fun i h st b hb=>by
  obtain⟨old,he,⟨o,e,c,d⟩⟩:=st
  rcases aK.mp hb with z | z<;>subst z
  · exact⟨_,he,fun v z=>nomatch z⟩
  · exact⟨_,e,fun v z=>by rw[d] at z;cases z⟩
 keep:=fun i h h' st k=>by
  obtain⟨old,he,⟨o,e,r⟩⟩:=st
  exact⟨old,k _ (aK.mpr (.inl rfl)) _ he,⟨o,k _ (aK.mpr (.inr rfl)) _ e,r⟩⟩
 item:=by
  intro X hP hw hK hc i pins s σ H E I hf st hg
  subst hP hw hK
  obtain⟨xs,x,q1,hx⟩:=hg
  obtain⟨old,he,st1⟩:=st
  have ne:n+1≠n:=Nat.succ_ne_self n
  obtain⟨us,r1,p1,z1⟩:=I.tuple (c8.of q1)
  obtain⟨u,hu,ru⟩:=r1.get hx
  have new:∀ b∈jF n,b<s.heap.objs.size:=fun b hb=>by
   rcases aK.mp hb with e | e<;>subst e
   · exact Heap.lt_size he
   · obtain⟨_,e,_⟩:=st1;exact Heap.lt_size e
  have hi:i<us.toArray.size:=by simpa using (List.getElem?_eq_some_iff.mp hu).1
  apply wpAny_pyNext_enum_itemD (Nk (A:=X.A.in1) (prog:=X.prog) (w:=X.w) (xs:=us.toArray) (I.ok.hd hc) ln) he ⟨st1,p1⟩ hi ne (by simp[Ne.symm Nt])
  intro y h1 tk hy ho1 s1 np sz kept
  have ey:y=u:=by
   have hu':us.toArray[i]? = some u:=by simpa using hu
   rw[hu'] at hy
   exact(Option.some.inj hy).symm
  subst ey
  refine⟨_,rfl,wpAny_letOwnedTupleGo_enum ho1 fun h2 he2 sb=>?_⟩
  have k2:∀ b o,b ∉ jF n->s.heap.get? b=some o->h2.get? b=some o:=fun b o hb e=>by
   rw[aK] at hb
   exact sb.extBut _ _ (fun z=>hb (.inl z)) (kept b o (fun z=>hb (.inl z)) (fun z=>hb (.inr z)) e)
  have fr:H s.heap.objs.size=none:=I.hok.fresh (Nat.le_refl _)
  have nz:s.heap.objs.size≠n+1:=fun e=>absurd (new (n+1) (aK.mpr (.inl rfl))) (by rw[e];exact Nat.lt_irrefl _)
  refine⟨.ref s.heap.objs.size,upd H s.heap.objs.size (.tup [.int i,x]),I.fB (t':=tk+1) k2 hf (Nat.le_refl _) ?_,rfl,⟨_,xs,x,rfl,fr,rfl,q1,hx⟩,⟨y,?_,?_⟩,fun b hb=>?_⟩
  · exact⟨by show(2:Nat)<=sizeLine;decide,[.int i tk,y],.cons ⟨_,rfl⟩ (.cons ru .nil),⟨_,sb.extBut _ _ nz np,rfl,_,rfl⟩⟩
  · exact he2
  · obtain⟨⟨o,e,r⟩,_⟩:=s1
    exact⟨o,sb.extBut _ _ (Ne.symm ne) e,r⟩
  · rw[aV (Nat.ne_of_lt (new b hb))];exact(hf b hb).1
 done:=by
  intro X hP hw hK hc i pins s σ H E I hf st hg
  subst hP hw hK
  obtain⟨xs,q1,hx⟩:=hg
  obtain⟨old,he,st1⟩:=st
  obtain⟨us,r1,p1,z1⟩:=I.tuple (c8.of q1)
  have hl:=r1.length
  apply Nq (I.ok.hd hc) he st1 p1 (by simp;omega)
  intro h1 kept
  exact⟨rfl,I.fA (t':=s.toks) (fun b o hb e=>kept b o (fun z=>hb (aK.mpr (.inr z))) e) hf⟩
 self:=fun A i s Q E st h=>by
  obtain⟨old,he,_⟩:=st
  exact wpAny_pyIter_enum he h
def vU(ta:TA):TI:=fun σ H R=>ta σ H fun vs H1=>∃ l xs,vs=[.ref l]/\H1 l=some (.tup xs)/\R (Aj l) H1
section
variable{X:Cx}
theorem Nu{a:Expr}{es:List Expr}{x1}{tp:Pos}{ta:TA}{p pos:Pos}(hg:Gl X "enumerate")(hm:X.mg "enumerate" = none)(ha:PA X [a] ta)(hs:starEach [a] X.env=[(false,eval a X.env)]:=by rfl):PI X (.Tuple es x1 tp) (.Call (.Name "enumerate" p) [a] [] pos) (vU ta):=by
 intro pins s σ H R I h
 refine Call_ (ph I hg hm Dl (PyProof.Rows.callWith_type1 (aL (ha pos pins s σ H _ I h) fun us s1 ⟨vs,H1,I1,r1,q1⟩=>?_) hs rfl))
 obtain⟨l,xs,e,q1,q⟩:=q1
 subst e
 obtain⟨u,rfl,e1⟩:=vals1 r1
 cases e1
 obtain⟨us,r1,p1,z1⟩:=I1.tuple (c8.of q1)
 apply Nn p1
 intro h' he st sz kept
 have ll:l<s1.heap.objs.size:=by obtain⟨o,e,_⟩:=p1;exact Heap.lt_size e
 have T:=Nr (P:=X.prog) (w:=X.w) (K:=X.K) (es:=es) (x1:=x1) (pos:=tp) l s1.heap.objs.size (Nat.ne_of_lt ll) (Nat.ne_of_lt (Nat.lt_succ_of_lt ll))
 apply T.self X.A 0 _ _ _ ⟨.none,he,st⟩
 refine⟨_,jF s1.heap.objs.size,_,_,H1,rfl,I1.kept (t':=s1.toks) kept,T,⟨.none,he,st⟩,fun b hb=>?_,q⟩
 have le:s1.heap.objs.size<=b:=by
  rw[aK] at hb
  rcases hb with e | e<;>rw[e]<;>first | exact Nat.le_refl _ | exact Nat.le_add_right _ _
 exact I1.ij le (I1.hok.fresh le)
end
end L2
namespace L2
open PySem PySem.W PyProof.Rows Ex
section
variable{X:Cx}{EE:a9}{k:Nat}{f C:Addr}{fd:FuncData}{ps:List Str}{sp:Sp}{x nm:Str}{p pos kp:Pos}{e:Expr}{te:TE}
theorem Nv{si:Sp}(M:Mk X.K C f)(F:a8 X.prog X.w X.K X.mg X.base (fQ X.prog X.w) k f fd ["self",nm] si)(hr:ax (k+1) X.A)(hg:Gl X x)(hm:X.mg x=some (.ref C))(hb:∀ (s:Shared) (a u:Value),X.K.In s.heap->BindsTo s fd ⟨[a],[(nm,u)]⟩ [("self",a),(nm,u)])(hX:XOk X EE)(hsp:Made C sp si)
 (ha:PE X e te) (hdb:(x == ("__debug__" : Str))=false:=by decide) (hall:(backToKw pos (keywordEach [⟨some nm,e,kp⟩] X.env)).all (·.1.isSome)=true:=by rfl) (hks:(backToKw pos (keywordEach [⟨some nm,e,kp⟩] X.env)).filterMap (·.1)=[nm]:=by rfl)
 (hpl:((backTo pos (starEach [] X.env)).any (·.1) || (backToKw pos (keywordEach [⟨some nm,e,kp⟩] X.env)).any (·.1.isNone))=false:=by rfl):PE X (.Call (.Name x p) [] [⟨some nm,e,kp⟩] pos) (oJ sp [] EE (jD te lN)):=by
 intro pins s σ H Q I h
 refine wpAny_Call_Name_kw (nQ I hg hm ?_ hdb)
 refine PySem.W.callWith_KW0 (h₀:=X.base) I.ok.mod.m9 M.kp hall (aL ((IX ha IW) pos pins s σ H _ I h) fun us s1 ⟨vs,H1,I,r,q⟩=>⟨I.bf,?_⟩) hpl
 rw[hks]
 have q:=hsp _ _ _ _ q
 rw[List.append_nil] at q
 have hq:=q (s1.heap.objs.size+1) s1.heap.objs.size (I.hok.fresh (Nat.le_succ _)) (I.hok.fresh (Nat.le_refl _)) (Nat.ne_of_lt (Nat.lt_succ_self _))
 have I2:=Inv.made (C:=C) I
 have r2:Vals (V.ref (s1.heap.objs.size+1)::vs) (Value.ref (s1.heap.objs.size+1)::us):=.cons rfl r
 have hl:vs.length=1:=by have:=F.len _ _ _ _ hq;simpa using this
 obtain⟨u,rfl⟩:∃ u,us=[u]:=by
  have:=r.length
  match us,this with
  | [u],_=>exact⟨u,rfl⟩
  | [],h=>rw[hl] at h;cases h
  | _::_::_,h=>rw[hl] at h;simp at h
 refine wpAny_call (Cd (f:=f) I.bf M.makes M.init (beq_iff_eq.mp M.fn) (codeAny_mono (F.run _ X.stack _ _ ⟨[Value.ref (s1.heap.objs.size+1)],[(nm,u)]⟩ [Value.ref (s1.heap.objs.size+1),u] _ _ (EE σ) (hr.make C [] [(nm,u)])
  (I2.env0.make C [] [(nm,u)]) (hb _ _ u I2.bf) r2 hq) fun r s' hq'=>?_))
 cases r with
 |error e=>exact xy hX I2 hq'
 |ok fl =>
   cases fl with
   |ret u =>
     obtain⟨v,H',I3,rv,ev,q3⟩:=I2.after hq'
     subst ev
     exact⟨rv,⟨V.ref (s1.heap.objs.size+1),H',I3,rfl,q3⟩⟩
   |next=>exact False.elim hq'
   |brk=>exact False.elim hq'
   |cont=>exact False.elim hq'
end
end L2
namespace Dv
open PySem L2 Ex
variable[KC]
section
variable{X:Cx}{EE:a9}{ios:List Addr}{e a tg:Expr}{es:List Expr}{f:M RV}{fs:M (List RV)}{G:List D->Option Rx}
theorem Nw{x fl nm:Str}{k:Nat}{p0 pos kp:Pos}{dvs:List V}{C:Cn}(hX:XOk X EE)(Mc:qm X.prog X.w X.mg X.base x k [nm] dvs C fl G)(hr:ax (k+1) X.A)(hg:Gl X x)(ha:VE X EE ios e f)(hK:X.K=KC.K:=by rfl)(hdb:(x == ("__debug__" : Str))=false:=by decide)
 (hall:(backToKw pos (keywordEach [⟨some nm,e,kp⟩] X.env)).all (·.1.isSome)=true:=by rfl) (hks:(backToKw pos (keywordEach [⟨some nm,e,kp⟩] X.env)).filterMap (·.1)=[nm]:=by rfl)
 (hpl:((backTo pos (starEach [] X.env)).any (·.1) || (backToKw pos (keywordEach [⟨some nm,e,kp⟩] X.env)).any (·.1.isNone))=false:=by rfl)
 (hs:starEach [e] X.env=(false,eval e X.env)::starEach [] X.env:=by rfl):VY X EE ios (.Call (.Name x p0) [] [⟨some nm,e,kp⟩] pos) G (ZS f (M.pure [])):=by
 obtain⟨hm,hG,fa,fd,Mo,F,_,_,kb⟩:=Mc
 rw[<- hK] at F Mo kb
 obtain⟨te,h1,h2⟩:=ha
 exact⟨_,Nv Mo F hr hg hm (fun s a u hi=>kb s a [u] hi rfl) hX (z_ hG) h1 hdb hall hks hpl,(DA h2 fun σ H R Γ Q er w=>w [] H R (aM.refl er) .nil)⟩
def vV(f:M RV):M (List D):=fun Γ=>match M.bind f mat Γ with
 | .ok (.tup _) _=>tupI f Γ
 | _=>lD f Γ
theorem Nx(h:VE X EE ios e f)(hK:X.K=KC.K:=by rfl):VI X EE ios tg e (vV f):=by
 obtain⟨w1,p1,r1⟩:=rM (tg:=tg) h hK
 obtain⟨w2,p2,r2⟩:=DL (tg:=tg) h
 refine⟨fun σ H R=>w1 σ H R\/w2 σ H R,fun pins s σ H R I q=>q.elim (p1 pins s σ H R I) (p2 pins s σ H R I),fun σ H R Γ Rk er w=>?_⟩
 unfold vV at w
 split at w
 · exact .inr (r2 σ H R Γ Rk er w)
 · exact .inl (r1 σ H R Γ Rk er w)
def sL(fs:M (List RV)):M (List D):=M.bind fs fun rvs=>M.bind (b7 rvs) fun ds=>match ds with
 | [.tup ds]=>M.pure (mi ds)
 | _=>M.st
theorem Ny{R0:Hp}{l:Addr}{xs:List V}{ds:List D}(h:R0 l=some (.tup xs))(r:aB R0 xs ds):pU (Aj l) R0 (mi ds):=by
 intro i H R s1 s2
 have hl:H l=some (.tup xs):=s2 _ _ (s1 _ _ h)
 refine⟨fun d hd=>?_,fun hl'=>⟨xs,hl,by rw[r.len];simpa [mi] using hl'⟩⟩
 have hd:((ds.zipIdx)[i]?).map (fun p=>D.tup [.int p.2,p.1])=some d:=by rw[<- List.getElem?_map];exact hd
 rw[List.getElem?_zipIdx] at hd
 cases q:ds[i]? with
 |none=>rw[q] at hd;cases hd
 |some d0 =>
   rw[q] at hd
   cases hd
   obtain⟨x,hx,rx⟩:=r.ta q
   refine⟨⟨xs,x,hl,hx⟩,fun v H' hv=>?_⟩
   obtain⟨p,ys,y,rfl,hp,rfl,hy,rN⟩:=hv
   rw[hl] at hy
   cases hy
   rw[hx] at rN
   cases rN
   obtain⟨al,rv⟩:=uH (xs:=[.int i,x]) (ds:=[.int i,d0]) s2 hp (.cons (.int _) (.cons (rx.sm s1) .nil))
   refine⟨_,al,?_⟩
   have rv:Rp _ _ _:=rv
   simpa using rv
theorem Nz{t:TA}(h2:pK EE ios t fs):rL EE ios (vU t) (sL fs):=by
 intro σ H R Γ Rk er w
 unfold sL at w
 rw[ZY] at w
 refine h2 σ H R Γ _ er (aT w (fun rvs ah w xs H1 R1 p1 hx=>?_) fun _ _ z=>z)
 rw[ZY] at w
 obtain⟨ds,au,R2,p2,_,r2,w⟩:=ji er p1 hx w
 split at w
 · cases r2 with
   |cons a b =>
     cases b
     cases a with
     |tup e q=>exact⟨_,_,rfl,p2.er.sub _ _ e,w _ H1 R2 p2 (Ny e q)⟩
 · exact False.elim w
def sM(fs:M (List RV)):M (List D):=fun Γ=>match M.bind fs b7 Γ with
 | .ok [.tup _] _=>sL fs Γ
 | _=>rO fs Γ
theorem NA{e0:Expr}(hp:∀ t,PA X es t->PI X tg e0 (xT t))(hp':∀ t,PA X es t->PI X tg e0 (vU t))(ha:VA X EE ios es fs):VI X EE ios tg e0 (sM fs):=by
 obtain⟨w1,p1,r1⟩:=K7 (X:=X) (EE:=EE) hp ha
 obtain⟨t,h1,h2⟩:=ha
 refine⟨fun σ H R=>w1 σ H R\/vU t σ H R,fun pins s σ H R I q=>q.elim (p1 pins s σ H R I) (hp' t h1 pins s σ H R I),fun σ H R Γ Rk er w=>?_⟩
 unfold sM at w
 split at w
 · exact .inr (Nz h2 σ H R Γ Rk er w)
 · exact .inl (r1 σ H R Γ Rk er w)
def sN(f:M RV):M RV:=fun Γ=>match f (hid Γ) with
 | .ok (.val d) _=>.ok (.val d) Γ
 | _=>.st
theorem NB(h:VY X EE ios e G fs):VE X EE ios e (sN (h8 G fs)):=by
 obtain⟨t,h1,h2⟩:=h
 refine⟨_,h1,fun σ H R Γ Q er w=>Aa h2 (MV er) ?_⟩
 unfold sN at w
 cases q:h8 G fs (hid Γ) with
 |st=>rw[q] at w;exact False.elim w
 |ex xc Γ'=>rw[q] at w;exact False.elim w
 |ok rv Γ' =>
   rw[q] at w
   refine mj fun x H' R' r e p so=>?_
   subst e
   obtain⟨C,fl,a,dx,b,xs',fj,rfl,rfl,h1,h3,h4,h5,h6,h7⟩:=so
   have w:=nF w
   have ow:∀ b,Ow σ Γ b->R b=none/\∃ xs,H b=some (.lst xs):=fun b z=>er.ow z
   have nw:∀ c,H c=none -> ¬ Ow σ Γ c:=fun c hc z=>by obtain⟨_,zs,hz⟩:=ow c z;rw[hc] at hz;cases hz
   have un:∀ b, ¬ Ow σ Γ b->cw (Ow σ Γ) R' b=R' b:=fun b z=>by unfold cw;rw[if_neg z]
   obtain⟨p2,hh⟩:=MW er p
   have tup:∀ b ys,R' b=some (.tup ys)->cw (Ow σ Γ) R' b=some (.tup ys):=fun b ys z=>by
    rw[un b]
    · exact z
    · intro o
      obtain⟨_,zs,hz⟩:=ow b o
      have:=p.er.sub _ _ z
      rw[hh _ _ hz] at this
      cases this
   have NC:js H (cw (Ow σ Γ) R') (.ref a) (.val (.obj C [fl] [.lst fj])):=⟨C,fl,a,dx,b,xs',fj,rfl,rfl,by rw[un a (nw a h4)];exact h1,by rw[un b (nw b h5)];exact h3,h4,h5,h6.less tup h7,h7⟩
   exact w _ H' _ p2 NC.rp
end
end Dv
namespace Dv
open PySem L2 Ex
section
variable{Γ:En}{f:M RV}{fs:M (List RV)}
@[simp] theorem Ak:vV f Γ=match M.bind f mat Γ with
 | .ok (.tup _) _=>tupI f Γ
 | _=>lD f Γ:=(rfl)
@[simp] theorem Am:sL fs Γ=M.bind fs (fun rvs=>M.bind (b7 rvs) fun ds=>match ds with
 | [.tup ds]=>M.pure (mi ds)
 | _=>M.st) Γ:=(rfl)
@[simp] theorem An:sM fs Γ=match M.bind fs b7 Γ with
 | .ok [.tup _] _=>sL fs Γ
 | _=>rO fs Γ:=(rfl)
@[simp] theorem Ao:sN f Γ=match f (hid Γ) with
 | .ok (.val d) _=>.ok (.val d) Γ
 | _=>.st:=(rfl)
end
end Dv
namespace L2
open PySem PySem.W PyProof.Rows Ex
open PySem.SeqAt MeetsSeq
section
variable(l b:Addr)(its:Array Value)(n:Nat)(dd de:Option Addr)(da:Data)(sl sm:Array (Option Value))
theorem Fv:isSubtype (.type "tuple") (.type "dict")=pure false:=by rw[isSubtype_type];kernel_rfl
theorem ND:isSubtype (.type "dict") (.type "tuple")=pure false:=by rw[isSubtype_type];kernel_rfl
abbrev Fw:Obj:={ cls:=.type "dict",dict:=de,data:=da,slots:=sm }
abbrev Fx:Obj:={ cls:=.type "tuple",dict:=dd,data:=.seq its n,slots:=sl }
theorem NF:Meets (Builtin.«dict.__eq__» ⟨[.ref l,.ref b],[]⟩) (fun _ R s=>s.heap.get? l=some (Fw de da sm)/\s.heap.get? b=some (Fx its n dd sl)/\R (.ok (.ret .notImplemented)) s) :=
 .of_wp fun prog w A R s h=>by obtain⟨hp,g,d,tk,os⟩:=s;obtain⟨hl,hb,h⟩:=h;have f1:=Fv;wp_walk using wpAny_loadPart' hl,wpAny_loadPart' hb;exact⟨_,rfl,h⟩
theorem NG:Meets (Builtin.«tuple.__eq__» ⟨[.ref l,.ref b],[]⟩) (fun _ R s=>s.heap.get? l=some (Fx its n dd sl)/\s.heap.get? b=some (Fw de da sm)/\R (.ok (.ret .notImplemented)) s) :=
 .of_wp fun prog w A R s h=>by obtain⟨hp,g,d,tk,os⟩:=s;obtain⟨hl,hb,h⟩:=h;have f1:=ND;wp_walk using wpAny_loadPart' hl,wpAny_loadPart' hb;exact⟨_,rfl,h⟩
end
variable{X:Cx}
def Fy:R2:=fun x y H Q=>∃ a b xs,x = .ref a/\y = .ref b/\H a=some (.dK [])/\H b=some (.tup xs)/\Q (.bl false) H
theorem NH{k:Nat}(hr:ax k X.A):bX X (compareOp .Eq) Fy:=by
 intro pins s σ H x y v u Q I rx ry h
 obtain⟨a,b,xs,rfl,rfl,ha,hb,q⟩:=h
 cases rx
 cases ry
 obtain⟨_,_,vs,_,⟨cls,de,da,sm⟩,es,ep,ho,ex,_⟩:=I.hok _ _ ha
 obtain⟨_,its,_,tu⟩:=I.hok _ _ hb
 obtain⟨⟨cls2,dd,data2,sl⟩,ho2,hc2,n,hd2⟩:=tu
 have hc:=ex.1
 simp only at hc hc2 hd2
 subst hc hc2 hd2
 have hne:a≠b:=fun e=>by subst e;rw[ha] at hb;cases hb
 have hu:=hr.units
 exact(rc_eq_decline_or (k:=false) ⟨_,ho,rfl⟩ ⟨_,ho2,rfl⟩ (by decide) Fv F.slot_dict_eq F.slot_tuple_eq_refl
  (fun _ hq=>call_meets F.slot_dict_eq ⟨_,ho,rfl⟩ F.entry_dict_eq (F.args_dict_eq_2 _ _) (NF a b its.toArray n dd de da sl sm) ⟨ho,ho2,hq⟩)
  (fun _ hq=>call_meets F.slot_tuple_eq_refl ⟨_,ho2,rfl⟩ F.entry_tuple_eq (F.args_tuple_eq_2 _ _) (NG b a its.toArray n dd de da sl sm) ⟨ho2,ho,hq⟩)
  (fun _ hq=>wpAny_isSame_ref_other hne ho ho2 (by simp) hq) (.inr (by omega)) ⟨.bl _,H,I,rfl,q⟩)
end L2
namespace Dv
open PySem L2 Ex
variable[KC]
def qp:D->D->Option RV
 | .gp [] [],.tup _=>some (.val (.bl false))
 |d,e=>fc d e
def Fz:R2:=fun x y H Q=>Fy x y H Q\/x_ x y H Q
omit [KC] in
theorem NI{X:Cx}{k:Nat}(hr:ax k X.A):bX X (compareOp .Eq) Fz:=(NH hr).or (pN hr)
theorem NJ:dE Fz qp:=by
 intro R H x y d e rv Q s px py hg q
 unfold qp at hg
 split at hg
 · cases hg
   obtain⟨b,xs,rfl,hb,_⟩:=py.tup
   have ha:=px.hv s
   cases ha with
   |gv e=>exact .inl ⟨_,_,_,rfl,rfl,e,s _ _ hb,q _ H R (Al.refl s) (.bl _)⟩
 · exact .inr (pP R H x y _ _ rv Q s px py hg q)
end Dv
namespace cx
open PySem L2 Ex Dv
def Ap:Nat:=100000
def bT:List Cn:=[.NoPoints,.NoBox,.NoAsks,.NoRun,.NoText,.NoTurn,.NoTree,.NoTop,.NotServed,.NoRow,.NoPoint,.NoName,.NoKey,.NoBack,.TooMany]
def Aq:Cn->Bool:=fun C=>([.NoPoints,.NoBox,.NoAsks,.NoRun,.NoText,.NoTurn,.NoTree,.NoTop,.NotServed,.NoRow,.NoPoint,.TooMany]:List Cn).contains C
def Ar  : M Fl :=
 (cH (jK (lD (E9 (vV (ai 0)) [] 2 (gT 2 (dc (gN 0) (dc (gN 1) iB))) (M.pure true) (cu (ZS (ai 1) (ZS (ai 0) (M.pure [])))))) [] 2 (gT 2 (dc (gN 0) (dc (gN 1) iB))) (M.pure true) (cu (ZS (ai 1) (ZS (ai 0) (M.pure []))))))
def qq  : M Fl :=
 (cH (jG (oF .int (ai 0)) (jG (uC (jZ (M.bind (oF .bool (ai 0)) bz))) (q_ yc yc (M.pure (.val (.int 0))) (ai 0) (M.pure (.val (.int 30)))))))
def sO(dv:List D->Option Rt):M Fl :=
 (cH (jG (oF .tuple (ai 0)) (jG (op2 fc (cm j7 (ZS (ai 0) (M.pure []))) (M.pure (.val (.int 2)))) (jG (dq dv (ZS (op2 dh (ai 0) (M.pure (.val (.int 0)))) (M.pure []))) (dq dv (ZS (op2 dh (ai 0) (M.pure (.val (.int 1)))) (M.pure [])))))))
def Au(d8:List D->Option Rt):M Fl :=
 (aI (dF (orM (jZ (M.bind (sF (ai 0)) bz)) (M.bind (op2 uF (cm j7 (ZS (ai 0) (M.pure []))) (M.pure (.val (.int 200)))) bz))
 (oN .NoPoints ["number"] (ZS (M.pure (.val .ao)) (M.pure [])))
 (M.pure .nx))
 (forM (sM (ZS (ai 0) (M.pure []))) (gT 2 (dc (gN 1) (dc (gN 2) iB)))
 (dF (jZ (M.bind (dq d8 (ZS (ai 2) (M.pure []))) bz))
 (oN .NoPoints ["number"] (ZS (ai 1) (M.pure [])))
 (M.pure .nx))))
def sP(gG:List D->Option Rt)(dG:List D->Option Rx):M Fl :=
 (dF (M.bind (op2 rk (ai 1) (M.pure (.val .ao))) bz) (bw 1 (av (M.pure []))) (M.pure .nx))
def sQ(gG:List D->Option Rt)(dG:List D->Option Rx):M Fl :=
 (lu (rW dG (ZS (ai 1) (M.pure []))))
def sR(gG:List D->Option Rt)(dG:List D->Option Rx):M RV :=
 (dq gG (ZS (ai 1) (M.pure [])))
def Av  : M Fl :=
 (cH (cm pS (ZS (sE .Points "held" (ai 0)) (M.pure []))))
def vW  : M Fl :=
 (aI (dF (M.bind (op2 uF (op2 dh (ai 0) (M.pure (.val (.int 0)))) (M.pure (.val (.int 0)))) bz)
 (aI (bw 2 (op2 jI (op2 dh (ai 0) (M.pure (.val (.int 0)))) (ai 1)))
 (aI (pT (gS 0 (M.pure (.val (.int 0)))) (op2 uG (op2 dh (ai 0) (M.pure (.val (.int 0)))) (ai 1)))
 (cH (ai 2))))
 (M.pure .nx))
 (aI (pT (gS 0 (M.pure (.val (.int 1)))) (op2 jI (op2 dY (op2 lq (op2 dh (ai 0) (M.pure (.val (.int 1)))) (M.pure (.val (.int 48271)))) (M.pure (.val (.int 11)))) (M.pure (.val (.int 2147483647)))))
 (cH (op2 jI (op2 uG (op2 jI (op2 lq (op2 dh (ai 0) (M.pure (.val (.int 1)))) (op2 dh (ai 0) (M.pure (.val (.int 1))))) (M.pure (.val (.int 2147483629)))) (M.pure (.val (.int 64)))) (ai 1)))))
def Aw(cV:GI):M Fl :=
 (aI (bw 1 (av (ZS (M.pure (.val .ao)) (ZS (cu (ZS (M.pure (.val (.int 1))) (M.pure []))) (ZS (cu (ZS (M.pure (.val (.int 1))) (ZS (M.pure (.val (.int 2))) (ZS (M.pure (.val (.int 3))) (M.pure []))))) (ZS (av (ZS (M.pure (.val (.int 1))) (ZS (M.pure (.val (.int 2))) (M.pure [])))) (ZS (cu (ZS (M.pure (.val (.int 31))) (ZS (M.pure (.val (.int 0))) (M.pure [])))) (ZS (cu (ZS (M.pure (.val (.int 0))) (ZS (M.pure (.val (.int 31))) (M.pure [])))) (ZS (cu (ZS (op1 oE (M.pure (.val (.int 1)))) (ZS (M.pure (.val (.int 0))) (M.pure [])))) (ZS (cu (ZS (M.pure (.val (.int 0))) (ZS (op1 oE (M.pure (.val (.int 1)))) (M.pure [])))) (ZS (cu (ZS (M.pure (.val (.bl true))) (ZS (M.pure (.val (.int 0))) (M.pure [])))) (ZS (cu (ZS (M.pure (.val (.int 0))) (ZS (M.pure (.val (.bl false))) (M.pure [])))) (ZS (cu (ZS (M.pure (.val (.str "1"))) (ZS (M.pure (.val (.int 0))) (M.pure [])))) (ZS (M.pure (.val (.int 3))) (ZS (cu (M.pure [])) (ZS (cu (ZS (op2 ny (M.pure (.val (.int 10))) (M.pure (.val (.int 30)))) (ZS (M.pure (.val (.int 1))) (M.pure [])))) (M.pure [])))))))))))))))))
 (cH (op2 dh (ai 1) (fC cV (ZS (ai 0) (ZS (M.pure (.val (.int 14))) (M.pure [])))))))
def Ax(cV:GI):M Fl :=
 (cH (cu (ZS (fC cV (ZS (ai 0) (ZS (ai 1) (M.pure [])))) (ZS (fC cV (ZS (ai 0) (ZS (ai 2) (M.pure [])))) (M.pure [])))))
def vX  : M Fl :=
 (aI (dF (M.bind (op2 uE (ai 1) (cm j7 (ZS (ai 0) (M.pure [])))) bz)
 (cH (op2 dh (ai 0) (ai 1)))
 (M.pure .nx))
 (cH (M.pure (.val (.int 0)))))
def vY(jO:List D->Option Rt):M Fl :=
 (aI (bw 2 (dq jO (ZS (ai 0) (ZS (ai 1) (M.pure [])))))
 (aI (bw 3 (op2 jI (op2 lq (op2 dY (op2 dY (op2 dY (op2 jI (ai 2) (M.pure (.val (.int 2147483629)))) (op2 lq (op2 lq (M.pure (.val (.int 7919))) (ai 1)) (ai 1))) (op2 lq (M.pure (.val (.int 104729))) (ai 1))) (M.pure (.val (.int 1)))) (M.pure (.val (.int 48271)))) (M.pure (.val (.int 2147483647)))))
 (aI (dF (M.bind (op2 uE (ai 2) (op2 ny (M.pure (.val (.int 10))) (M.pure (.val (.int 18))))) bz)
 (bw 2 (M.pure (.val (.int 0))))
 (M.pure .nx))
 (cH (av (ZS (ai 2) (ZS (op2 jI (op2 lq (ai 3) (ai 3)) (M.pure (.val (.int 2147483629)))) (M.pure []))))))))
def Ay  : M Fl :=
 (cH (jK (lD (cm vT (ZS (jK (lD (ai 0)) [] 2 (gT 2 (dc (gN 0) (dc (gN 1) iB))) (M.pure true) (cu (ZS (ai 1) (ZS (ai 0) (M.pure []))))) (M.pure [])))) [] 2 (gT 2 (dc (gN 0) (dc (gN 1) iB))) (M.pure true) (cu (ZS (ai 1) (ZS (ai 0) (M.pure []))))))
def Az  : M Fl :=
 (aI (bw 1 (av (ZS (fZ bT .NoPoints (ai 0)) (ZS (fZ bT .NoBox (ai 0)) (ZS (fZ bT .NoAsks (ai 0)) (ZS (fZ bT .NoRun (ai 0)) (M.pure [])))))))
 (aI (bw 1 (op2 dY (ai 1) (av (ZS (fZ bT .NoText (ai 0)) (ZS (fZ bT .NoTurn (ai 0)) (ZS (fZ bT .NoTree (ai 0)) (M.pure [])))))))
 (aI (bw 1 (op2 dY (ai 1) (av (ZS (fZ bT .NoTop (ai 0)) (ZS (fZ bT .NotServed (ai 0)) (ZS (fZ bT .NoRow (ai 0)) (M.pure [])))))))
 (aI (bw 1 (op2 dY (ai 1) (av (ZS (fZ bT .NoPoint (ai 0)) (ZS (fZ bT .NoName (ai 0)) (ZS (fZ bT .NoKey (ai 0)) (M.pure [])))))))
 (aI (bw 1 (op2 dY (ai 1) (av (ZS (fZ bT .NoBack (ai 0)) (ZS (fZ bT .TooMany (ai 0)) (M.pure []))))))
 (aI (dF (orM (M.bind (op2 cR (p_ 1 vn (ZS (M.pure (.val (.bl true))) (M.pure []))) (M.pure (.val (.int 1)))) bz) (M.bind (op2 cR (fZ bT .PointError (ai 0)) (op2 uE (p_ 1 rZ (ZS (M.pure (.val (.bl true))) (M.pure []))) (M.pure (.val (.int 10))))) bz))
 (cH (M.pure (.val (.str "odd"))))
 (M.pure .nx))
 (aI (bw 2 (av (ZS (M.pure (.val (.str "points"))) (ZS (M.pure (.val (.str "box"))) (ZS (M.pure (.val (.str "asks"))) (ZS (M.pure (.val (.str "run"))) (ZS (M.pure (.val (.str "text"))) (ZS (M.pure (.val (.str "turn"))) (ZS (M.pure (.val (.str "tree"))) (ZS (M.pure (.val (.str "top"))) (ZS (M.pure (.val (.str "served"))) (ZS (M.pure (.val (.str "row"))) (ZS (M.pure (.val (.str "point"))) (ZS (M.pure (.val (.str "name"))) (ZS (M.pure (.val (.str "key"))) (M.pure []))))))))))))))))
 (cH (op2 dh (op2 dY (ai 2) (av (ZS (M.pure (.val (.str "back"))) (ZS (M.pure (.val (.str "many"))) (M.pure []))))) (p_ 1 rZ (ZS (M.pure (.val (.bl true))) (M.pure []))))))))))))
def vZ(cW:List D->Option Rx)(df:List D->Option Rt)(kr:List D->Option Rt):M Fl :=
 (aI (bw 1 (M.pure (.val .ao)))
 (aI (bw 2 (M.pure (.val .ao)))
 (aI (rX Aq 3
 (bw 2 (h8 cW (ZS (ai 0) (M.pure []))))
 (bw 1 (ai 3)))
 (aI (dF (M.bind (op2 rk (ai 1) (M.pure (.val .ao))) bz)
 (cH (av (ZS (M.pure (.val (.str "points"))) (ZS (gF .Points "points" df (ai 2)) (M.pure [])))))
 (M.pure .nx))
 (aI (dF (orM (M.bind (op2 cR (dq kr (ZS (ai 1) (M.pure []))) (M.pure (.val (.str "points")))) bz) (M.bind (oF .bool (r6 bT "number" (ai 1))) bz))
 (cH (av (ZS (M.pure (.val (.str "odd"))) (M.pure []))))
 (M.pure .nx))
 (cH (av (ZS (M.pure (.val (.str "refused"))) (ZS (r6 bT "number" (ai 1)) (M.pure []))))))))))
def AA(cW:List D->Option Rx)(df:List D->Option Rt)(jv:GI)(h_:GI)(i5:List D->Option Rt)(jw:List D->Option Rt)(cV:GI)(dH:List D->Option Rt)(dv:List D->Option Rt):M Fl :=
 (aI (forM (mh (ZS (cm rn (ZS (M.pure (.val (.int 1))) (ZS (cm rq (ZS (M.pure (.val (.int 8))) (ZS (cm j7 (ZS (ai 0) (M.pure []))) (M.pure [])))) (M.pure [])))) (M.pure []))) (gN 1)
 (aI (bw 2 (dq i5 (ZS (ai 0) (ZS (ai 1) (M.pure [])))))
 (aI (bw 3 (op2 dh (av (ZS (M.pure (.val (.int 0))) (ZS (M.pure (.val (.int 1))) (ZS (M.pure (.val (.int 2))) (ZS (M.pure (.val (.int 5))) (ZS (M.pure (.val (.int 12))) (ZS (M.pure (.val (.int 40))) (ZS (M.pure (.val (.int 200))) (ZS (M.pure (.val (.int 199))) (M.pure [])))))))))) (fC cV (ZS (ai 2) (ZS (M.pure (.val (.int 8))) (M.pure []))))))
 (aI (bw 4 (op2 dh (av (ZS (M.pure (.val (.int 3))) (ZS (M.pure (.val (.int 31))) (M.pure [])))) (fC cV (ZS (ai 2) (ZS (M.pure (.val (.int 2))) (M.pure []))))))
 (aI (bw 5 (jK (mh (ZS (ai 3) (M.pure []))) [2,4] 1 (gN 0) (M.pure true) (fC h_ (ZS (ai 1) (ZS (ai 2) (ZS (ai 2) (M.pure [])))))))
 (aI (bw 6 (dq jw (ZS (ai 5) (M.pure []))))
 (aI (bw 7 (cm pS (ZS (ai 5) (M.pure []))))
 (aI (bw 8 (sN (h8 cW (ZS (op2 dh (av (ZS (ai 7) (ZS (cm lW (ZS (ai 7) (M.pure []))) (M.pure [])))) (op2 jI (ai 1) (M.pure (.val (.int 2))))) (M.pure [])))))
 (aI (lu (rE 7 sJ (M.pure [])))
 (aI (lu (r_ (gF .Points "points" df (ai 8)) rF (ZS (M.pure (.val .ao)) (M.pure []))))
 (aI (dF (orM (M.bind (op2 cR (gF .Points "points" df (ai 8)) (ai 6)) bz) (M.bind (op2 cR (cm iD (ZS (gF .Points "points" df (ai 8)) (M.pure []))) (cm iD (ZS (ai 6) (M.pure [])))) bz))
 (cH (M.pure (.val (.bl false))))
 (M.pure .nx))
 (aI (dF (M.bind (op2 cR (dq dH (ZS (op2 dY (ai 5) (op2 mE (av (ZS (cu (ZS (M.pure (.val (.int 0))) (ZS (M.pure (.val (.int 0))) (M.pure [])))) (M.pure []))) (M.pure (.val (.int 201))))) (M.pure []))) (av (ZS (M.pure (.val (.str "refused"))) (ZS (M.pure (.val .ao)) (M.pure []))))) bz)
 (cH (M.pure (.val (.bl false))))
 (M.pure .nx))
 (aI (forM (mh (ZS (M.pure (.val (.int 6))) (M.pure []))) (gN 9)
 (aI (bw 10 (fC cV (ZS (ai 2) (ZS (op2 dY (ai 3) (M.pure (.val (.int 1)))) (M.pure [])))))
 (aI (bw 11 (l_ l7 (op2 dY (op2 dY (l_ l7 (ai 5) (M.pure none) (M.bind (ai 10) l9)) (av (ZS (fC jv (ZS (ai 2) (M.pure []))) (M.pure [])))) (l_ l7 (ai 5) (M.bind (ai 10) l9) (M.pure none))) (M.pure none) (M.bind (M.pure (.val (.int 200))) l9)))
 (aI (bw 12 (cm iD (ZS (ai 11) (M.pure []))))
 (aI (bw 13 (op2 dh (av (ZS (av (ZS (M.pure (.val (.str "refused"))) (ZS (ai 10) (M.pure [])))) (ZS (av (ZS (M.pure (.val (.str "points"))) (ZS (ai 6) (M.pure [])))) (M.pure [])))) (cm oB (ZS (op2 fc (ai 10) (M.pure (.val (.int 200)))) (M.pure [])))))
 (dF (orM (M.bind (op2 cR (dq dH (ZS (ai 11) (M.pure []))) (ai 13)) bz) (orM (M.bind (op2 cR (dq dH (ZS (cm lW (ZS (ai 11) (M.pure []))) (M.pure []))) (ai 13)) bz) (M.bind (op2 cR (cm iD (ZS (ai 11) (M.pure []))) (ai 12)) bz)))
 (cH (M.pure (.val (.bl false))))
 (M.pure .nx)))))))
 (forM (lD (av (ZS (M.pure (.val (.str ""))) (ZS (M.pure (.val (.int 3))) (ZS (M.pure (.val (.bl true))) (ZS (M.pure (.val (.gp [] []))) (ZS (cu (ZS (M.pure (.val (.int 0))) (ZS (M.pure (.val (.int 0))) (M.pure [])))) (M.pure [])))))))) (gN 14)
 (dF (M.bind (op2 cR (dq dH (ZS (ai 14) (M.pure []))) (op2 dh (av (ZS (av (ZS (M.pure (.val (.str "refused"))) (ZS (M.pure (.val .ao)) (M.pure [])))) (ZS (av (ZS (M.pure (.val (.str "refused"))) (ZS (M.pure (.val (.int 0))) (M.pure [])))) (M.pure [])))) (cm oB (ZS (op2 qp (ai 14) (cu (ZS (M.pure (.val (.int 0))) (ZS (M.pure (.val (.int 0))) (M.pure []))))) (M.pure []))))) bz)
 (cH (M.pure (.val (.bl false))))
 (M.pure .nx))))))))))))))))
 (aI (dF (M.bind (op2 cR (jK (tupI (cu (ZS (M.pure (.val (.int 0))) (ZS (M.pure (.val (.int 30))) (ZS (M.pure (.val (.int 31))) (ZS (op1 oE (M.pure (.val (.int 1)))) (ZS (M.pure (.val (.bl true))) (ZS (M.pure (.val .ao)) (ZS (M.pure (.val (.str "1"))) (ZS (op2 ny (M.pure (.val (.int 10))) (M.pure (.val (.int 40)))) (M.pure []))))))))))) [] 1 (gN 0) (M.pure true) (dq dv (ZS (ai 0) (M.pure [])))) (op2 dY (av (ZS (M.pure (.val (.bl true))) (ZS (M.pure (.val (.bl true))) (M.pure [])))) (op2 mE (av (ZS (M.pure (.val (.bl false))) (M.pure []))) (M.pure (.val (.int 6)))))) bz)
 (cH (M.pure (.val (.bl false))))
 (M.pure .nx))
 (cH (jG (op2 fc (gF .Points "points" df (h8 cW (M.pure [.val .ao]))) (av (M.pure []))) (jG (op2 fc (gF .Points "points" df (h8 cW (ZS (M.pure (.val .ao)) (M.pure [])))) (av (M.pure []))) (op2 fc (gF .Points "points" df (h8 cW (ZS (av (ZS (cu (ZS (M.pure (.val (.int 1))) (ZS (M.pure (.val (.int 2))) (M.pure [])))) (M.pure []))) (M.pure [])))) (av (ZS (cu (ZS (M.pure (.val (.int 1))) (ZS (M.pure (.val (.int 2))) (M.pure [])))) (M.pure [])))))))))
def gG:List D->Option Rt:=cP 1 ["points"] (Ar )
def dv:List D->Option Rt:=cP 1 ["thing"] (qq )
def d8:List D->Option Rt:=cP 1 ["thing"] (sO dv)
def dG:List D->Option Rx:=oM 1 ["thing","number","point"] (Au d8)
def cW:List D->Option Rx:=runN .Points "held" 1 ["points"] (sP gG dG) (sQ gG dG) (sR gG dG)
def df:List D->Option Rt:=cP 1 ["self"] (Av )
def cV:GI:=mD 2 ["_law_pool_here","_law_many","_law_found"] (vW )
def jv:GI:=mD 1 ["_law_pool_here","_law_some"] (Aw cV)
def h_:GI:=mD 3 ["_law_pool_here","_law_keys","_law_moments"] (Ax cV)
def jO:List D->Option Rt:=cP 2 ["_law_script","_law_k"] (vX )
def i5:List D->Option Rt:=cP 2 ["_law_script","_law_k","_law_cell","_law_seed"] (vY jO)
def jw:List D->Option Rt:=cP 1 ["_law_spots"] (Ay )
def kr:List D->Option Rt:=cP 1 ["_law_error","_law_kinds","_law_words"] (Az )
def dH:List D->Option Rt:=cP 1 ["_law_thing","_law_caught","_law_found","e"] (vZ cW df kr)
def sS:List D->Option Rt:=cP 1 ["_law_script","_law_k","_law_pool_here","_law_size","_law_wide","_law_spots","_law_due","_law_handed","_law_made","_law_turn","_law_at","_law_bent","_law_word","_law_wanted","_law_thing"] (AA cW df jv h_ i5 jw cV dH dv)
end cx
namespace Tr
open PySem L2 Ex Dv
theorem line:20000<=sizeLine:=by decide
theorem NK{ds:List PyData}(h:∀ d∈ds,d.canLay0=true):PyData.canLayAll0 ds=true:=by
 induction ds with
 |nil=>rfl
 |cons d r ih=>simp[PyData.canLayAll0,h d (by simp),ih fun x hx=>h x (by simp[hx])]
theorem NL{ds:List PyData}{n:Nat}(h:∀ d∈ds,d.depth<=n):PyData.depthAll ds<=n:=by
 induction ds with
 |nil=>simp[PyData.depthAll]
 |cons d r ih=>have:=h d (by simp);have:=ih fun x hx=>h x (by simp[hx]);simp[PyData.depthAll];omega
theorem FA{d:D}(h:fb d=true):eqB d d=true:=SeqAt.eqv_refl _ (SeqAt.canLay_of_shaped h)
theorem NM{d e:D}(h:∀ x,d ≠ .str x):fc d e=pM d e:=by
 unfold fc
 split
 · exact absurd rfl (h _)
 · rfl
theorem AB{d e:D}(h:∀ x,d ≠ .str x):cR d e=rh d e:=by
 unfold cR
 split
 · exact absurd rfl (h _)
 · rfl
theorem AE{d:D}(h:fb d=true):fc d d=some (.val (.bl true)):=by
 unfold fc
 split
 · simp
 · unfold pM;rw[h,FA h];rfl
theorem lI{d:D}(h:fb d=true):cR d d=some (.val (.bl false)):=by
 unfold cR
 split
 · simp
 · unfold rh;rw[h,FA h];rfl
theorem NN(ns:List Int):gA (ns.map D.int)=true:=by
 induction ns with
 |nil=>rfl
 |cons t r ih=>simp[gA,jL,ih]
@[simp] theorem v3{ns:List Int}:gq (.new (.lst (ns.map D.int)))=true:=NN ns
@[simp] theorem sT{n:Int}:gq (.val (.int n))=true:=rfl
@[simp] theorem v5{n:Bool}:gq (.val (.bl n))=true:=rfl
@[simp] theorem sU:gq (.val .ao)=true:=rfl
end Tr
namespace cx
open PySem L2 Ex Dv Tr St So
theorem v7(i:Int):dv [.int i]=some (.val (.bl (decide (0<=i) && decide (i<=30)))):=by
 by_cases h:0<=i<;>by_cases h':i<=30<;>simp[dv,qq,cP,bG,gam,et,h,h']
theorem sV(i j:Int):fc (.int i) (.int j)=some (.val (.bl (decide (i=j)))):=by
 have:eqB (.int i) (.int j)=decide (i=j):=by show(i == j)=_;by_cases h:i=j<;>simp[h]
 rw[NM (by intro x z;cases z)]
 unfold pM;rw[this];rfl
theorem FC{α:Type}(xs:List α)(n:Nat):i4 xs none (some (n:Int))=xs.take n:=by
 unfold i4
 rw[HT.iT]
 simp[HT.eZ]
theorem NO{α:Type}(xs:List α)(n:Nat):i4 xs (some (n:Int)) none=xs.drop n:=by
 unfold i4
 rw[HT.iT]
 simp[HT.eZ]
 by_cases h:n<=xs.length
 · rw[Nat.min_eq_left h,List.take_of_length_le (by rw[List.length_drop];omega)]
 · rw[Nat.min_eq_right (by omega),List.drop_eq_nil_of_le (by omega:xs.length<=n)];simp
abbrev pl(c s:Int):List D:=[.int c,.int s]
def Sd(s:Int):Prop:=0<=s/\s<2147483648
theorem oY(a b:D):L2.cC [a,b] 0=some a:=rfl
theorem oZ(a b:D):L2.cC [a,b] 1=some b:=rfl
theorem FD:L2.jd 2 0=some 0:=rfl
theorem FE:L2.jd 2 1=some 1:=rfl
theorem qr{c s m:Int}(h:Sd s)(hm:0<m)(hm2:m<1073741824):∃ x c' s',cV (pl c s) [.int m]=some (.val (.int x),pl c' s')/\(0<=x/\x<m)/\Sd s':=by
 obtain⟨h1,h2⟩:=h
 have m1:=oI (i:=s) (j:=48271) (by omega)
 by_cases hc:0<c
 · refine⟨c % m,c / m,s,?_,⟨Int.emod_nonneg _ (by omega),Int.emod_lt_of_pos _ hm⟩,h1,h2⟩
   simp[cV,vW,mD,mB,bG,jo,oY,oZ,FD,FE,hc,hm,hm2]
 · have q1:0<=(s * 48271+11) % 2147483647:=Int.emod_nonneg _ (by decide)
   have q2:(s * 48271+11) % 2147483647<2147483647:=Int.emod_lt_of_pos _ (by decide)
   have m2:=oI (i:=(s * 48271+11) % 2147483647) (j:=(s * 48271+11) % 2147483647) (by omega)
   refine⟨(s * 48271+11) % 2147483647 * ((s * 48271+11) % 2147483647) % 2147483629 / 64 % m,c,(s * 48271+11) % 2147483647,?_,⟨Int.emod_nonneg _ (by omega),Int.emod_lt_of_pos _ hm⟩,q1,by omega⟩
   simp[cV,vW,mD,mB,bG,jo,oY,oZ,FD,FE,hc,hm,hm2,m1,m2]
theorem NP(ns:List Int)(k:Nat)(hk:k<100):∃ c,jO [.bM ns,.int k]=some (.val (.int c)):=by
 by_cases h:k<ns.length
 · refine⟨ns[k],?_⟩
   have a:L2.cC ns (k:Int)=some ns[k]:=iU (List.getElem?_eq_getElem h)
   simp[jO,vX,cP,bG,gam,a,h]
 · refine⟨0,?_⟩
   simp[jO,vX,cP,bG,gam,h]
theorem NQ(ns:List Int)(k:Nat)(hk:k<100):∃ c s,i5 [.bM ns,.int k]=some (.new (.lst (pl c s)))/\Sd s:=by
 obtain⟨c,hc⟩:=NP ns k hk
 have q1:0<=c % 2147483629:=Int.emod_nonneg _ (by decide)
 have q2:c % 2147483629<2147483629:=Int.emod_lt_of_pos _ (by decide)
 have k1:=oI (i:=7919) (j:=k) (by omega)
 have k2:ou (7919 * (k:Int)) k=true:=oI (by omega)
 have k3:=oI (i:=104729) (j:=k) (by omega)
 have hkk:(k:Int) * k<=10000:=by
  have:k * k<=100 * 100:=Nat.mul_le_mul (by omega) (by omega)
  exact_mod_cast this
 have hk0:0<=(k:Int) * k:=by exact_mod_cast Nat.zero_le (k * k)
 have e1:7919 * (k:Int) * k=7919 * ((k:Int) * k):=by rw[Int.mul_assoc]
 have k4:ou (c % 2147483629+7919 * (k:Int) * k+104729 * k+1) 48271=true:=oI (by omega)
 generalize hs:(c % 2147483629+7919 * (k:Int) * k+104729 * k+1) * 48271 % 2147483647=s
 have s1:0<=s:=by rw[<- hs];exact Int.emod_nonneg _ (by decide)
 have s2:s<2147483647:=by rw[<- hs];exact Int.emod_lt_of_pos _ (by decide)
 have k5:ou s s=true:=oI (by omega)
 have ln:=line
 have l2:2<=sizeLine:=by omega
 by_cases hd:c<vf
 · refine⟨0,s * s % 2147483629,?_,Int.emod_nonneg _ (by decide),Int.lt_trans (Int.emod_lt_of_pos _ (by decide)) (by decide)⟩
   simp[i5,vY,cP,bG,gam,hc,Ei,k1,k2,k3,k4,hs,k5,hd,l2]
 · refine⟨c,s * s % 2147483629,?_,Int.emod_nonneg _ (by decide),Int.lt_trans (Int.emod_lt_of_pos _ (by decide)) (by decide)⟩
   simp[i5,vY,cP,bG,gam,hc,Ei,k1,k2,k3,k4,hs,k5,hd,l2]
theorem FG(lo:Int)(n:Nat):(hW lo n).length=n:=by simp[hW]
theorem FH{lo:Int}{n i:Nat}{d:D}(h:(hW lo n)[i]? = some d):d = .int (lo+i)/\i<n:=by
 unfold hW at h
 rw[List.getElem?_map] at h
 cases q:(List.range n)[i]? with
 |none=>rw[q] at h;cases h
 |some j =>
   rw[q] at h
   cases h
   obtain⟨h1,h2⟩:=List.getElem?_eq_some_iff.mp q
   rw[List.getElem_range] at h2
   subst h2
   exact⟨rfl,by simpa using h1⟩
theorem fG{s s':M Fl}{Γ ah:En}{r:Res Fl}(h:s Γ = .ok .nx ah)(h':s' ah=r):aI s s' Γ=r:=by rw[D9,h];exact h'
def o3(i:Nat)(ds:List D):List D:=(ds.zipIdx i).map fun p=>D.tup [.int p.2,p.1]
theorem FI(i:Nat)(d:D)(r:List D):o3 i (d::r) = .tup [.int i,d]::o3 (i+1) r:=rfl
theorem FJ(ds:List D):mi ds=o3 0 ds:=rfl
def sW:D->D
 | .tup [a,b]=>.tup [b,a]
 |d=>d
theorem FK{ds:List D}{Γ:En}(h:∀ d∈ds,∃ a b,d = .tup [a,b]):dk [] 2 (gT 2 (dc (gN 0) (dc (gN 1) iB))) (M.pure true) (cu (ZS (ai 1) (ZS (ai 0) (M.pure [])))) ds Γ = .ok (ds.map sW) Γ:=by
 have ln:=line
 have l2:2<=sizeLine:=by omega
 refine EA sW fun d hd=>?_
 obtain⟨a,b,rfl⟩:=h d hd
 refine⟨[some (.ak,a),some (.ak,b)],?_,rfl⟩
 simp[bR,sW,l2]
theorem AF:∀ {cs:List (Int×Int)},(∀ c∈cs,cq c)->asP (cs.map pD)=some cs
 | [],_=>rfl
 |c::r,h=>by
   obtain⟨⟨h1,h2⟩,h3,h4⟩:=h c (List.mem_cons_self ..)
   rw[List.map_cons]
   show(if decide (0<=c.1) && decide (c.1<=30) && decide (0<=c.2) && decide (c.2<=30) then (asP (r.map pD)).map (c :: ·) else none)=_
   rw[if_pos (by simp only[Bool.and_eq_true,decide_eq_true_eq];exact⟨⟨⟨h1,h2⟩,h3⟩,h4⟩),AF fun x hx=>h x (List.mem_cons_of_mem _ hx)]
   rfl
abbrev sw(cs:List (Int×Int)):List D:=(cs.map pD).map sW
theorem jP(cs:List (Int×Int)):(sw cs).length=cs.length:=by simp
theorem NR(c:Int×Int)(r:List (Int×Int)):sw (c::r) = .tup [.int c.2,.int c.1]::sw r:=rfl
theorem FL:∀ cs:List (Int×Int),(sw cs).map sW=cs.map pD
 | []=>rfl
 |c::r=>by rw[NR,List.map_cons,List.map_cons,FL r];rfl
theorem NS(cs:List (Int×Int)):∀ d∈cs.map pD,∃ a b,d=D.tup [a,b]:=fun d hd=>by
 obtain⟨c,_,rfl⟩:=List.mem_map.mp hd
 exact⟨_,_,rfl⟩
theorem sZ{cs:List (Int×Int)}{d:D}(h:d∈sw cs):∃ c∈cs,d = .tup [.int c.2,.int c.1]:=by
 obtain⟨e,he,rfl⟩:=List.mem_map.mp h
 obtain⟨c,hc,rfl⟩:=List.mem_map.mp he
 exact⟨c,hc,rfl⟩
theorem NT(cs:List (Int×Int)):∀ d∈sw cs,∃ a b,d=D.tup [a,b]:=fun d hd=>by
 obtain⟨c,_,rfl⟩:=sZ hd
 exact⟨_,_,rfl⟩
theorem s_(cs:List (Int×Int)):(aH cs).length<=cs.length:=by
 rw[(zP cs).length_eq]
 have go:∀ (l σ:List (Int×Int)),(l.foldl PyProof.Rows.step_dedup σ).length<=σ.length+l.length:=by
  intro l
  induction l with
  |nil=>intro σ;simp
  |cons c r ih =>
    intro σ
    rw[List.foldl_cons]
    refine Nat.le_trans (ih _) ?_
    unfold PyProof.Rows.step_dedup
    split<;>simp<;>omega
 have:=go cs []
 simpa [sD] using this
theorem FN{cs:List (Int×Int)}{Γ:En}:dk [] 2 (gT 2 (dc (gN 0) (dc (gN 1) iB))) (M.pure true) (cu (ZS (ai 1) (ZS (ai 0) (M.pure [])))) (sw cs) Γ = .ok (cs.map pD) Γ:=by
 have z:=FK (Γ:=Γ) (NT cs)
 rw[FL] at z
 exact z
theorem FO{cs:List (Int×Int)}{Γ:En}:dk [] 2 (gT 2 (dc (gN 0) (dc (gN 1) iB))) (M.pure true) (cu (ZS (ai 1) (ZS (ai 0) (M.pure [])))) (cs.map pD) Γ = .ok (sw cs) Γ:=FK (NS cs)
def Sq(x:D)(ds:List D):Prop:=x = .lst ds\/x = .tup ds
theorem order_eq{x:D}{cs:List (Int×Int)}(hx:Sq x (sw cs))(sm:∀ c∈cs,cq c)(hl:cs.length<=200):gG [x]=some (.new (.lst (sw (aH cs)))):=by
 have ln:=line
 have l1:(sw cs).length<256:=by rw[jP];omega
 have l2:((aH cs).map pD).length<sizeLine:=by rw[List.length_map];have:=s_ cs;omega
 have e1:=fun Γ=>FN (cs:=cs) (Γ:=Γ)
 have e2:=fun Γ=>FO (cs:=aH cs) (Γ:=Γ)
 have e3:=AF sm
 generalize hS:sw cs=S at *
 generalize hT:sw (aH cs)=T at *
 generalize hP:cs.map pD=P at *
 generalize hQ:(aH cs).map pD=Q at *
 rcases hx with rfl | rfl<;>simp[gG,Ar,cP,bG,gam,l1,e1,e3,hQ,l2,e2]
theorem NU{cs:List (Int×Int)}(sm:∀ c∈cs,cq c)(hl:cs.length<=200):jw [.lst (sw cs)]=some (.new (.lst (sw (aH cs)))):=by
 have ln:=line
 have l1:(sw cs).length<sizeLine:=by rw[jP];omega
 have l2:((aH cs).map pD).length<sizeLine:=by rw[List.length_map];have:=s_ cs;omega
 have e1:=fun Γ=>FN (cs:=cs) (Γ:=Γ)
 have e2:=fun Γ=>FO (cs:=aH cs) (Γ:=Γ)
 have e3:vT [.lst (cs.map pD)]=some (.new (.lst ((aH cs).map pD))):=by
  show(asP (cs.map pD)).bind _=_
  rw[AF sm]
  show(if cs.length<256 then _ else _)=_
  rw[if_pos (by omega)]
 generalize hS:sw cs=S at *
 generalize hT:sw (aH cs)=T at *
 generalize hP:cs.map pD=P at *
 generalize hQ:(aH cs).map pD=Q at *
 simp[jw,Ay,cP,bG,gam,l1,e1,e3,l2,e2]
theorem FP(k i:Int):d8 [.tup [.int k,.int i]]=some (.val (.bl ((decide (0<=k) && decide (k<=30)) && (decide (0<=i) && decide (i<=30))))):=by
 have q:fc (.int 2) (.int 2)=some (.val (.bl true)):=AE (by decide)
 have k1:=v7 k
 have k2:=v7 i
 generalize (decide (0<=k) && decide (k<=30))=b1 at *
 generalize (decide (0<=i) && decide (i<=30))=b2 at *
 cases b1<;>cases b2<;>simp[d8,sO,cP,bG,gam,et,q,oY,oZ,k1,k2]
theorem NV{c:Int×Int}(h:cq c):d8 [.tup [.int c.2,.int c.1]]=some (.val (.bl true)):=by
 obtain⟨⟨h1,h2⟩,h3,h4⟩:=h
 rw[FP]
 simp[h1,h2,h3,h4]
def qs:M Fl:=(dF (jZ (M.bind (dq d8 (ZS (ai 2) (M.pure []))) bz))
 (oN .NoPoints ["number"] (ZS (ai 1) (M.pure [])))
 (M.pure .nx))
theorem v8:Au d8=aI (dF (orM (jZ (M.bind (sF (ai 0)) bz)) (M.bind (op2 uF (cm j7 (ZS (ai 0) (M.pure []))) (M.pure (.val (.int 200)))) bz))
 (oN .NoPoints ["number"] (ZS (M.pure (.val .ao)) (M.pure []))) (M.pure .nx)) (forM (sM (ZS (ai 0) (M.pure []))) (gT 2 (dc (gN 1) (dc (gN 2) iB))) qs):=rfl
theorem AG{x0:Sl}:∀ (ds:List D) (i:Nat) (x1 x2:Sl) (r:List D),(∀ d∈ds,d8 [d]=some (.val (.bl true))) ->
 ∃ y1 y2,iC (gT 2 (dc (gN 1) (dc (gN 2) iB))) qs (o3 i (ds++r)) [x0,x1,x2]=iC (gT 2 (dc (gN 1) (dc (gN 2) iB))) qs (o3 (i+ds.length) r) [x0,y1,y2]
 | [],i,x1,x2,r,_=>⟨x1,x2,rfl⟩
 |d::ds,i,x1,x2,r,h=>by
   obtain⟨y1,y2,ih⟩:=AG (x0:=x0) ds (i+1) (some (.ak,.int i)) (some (.ak,d)) r fun b hb=>h b (List.mem_cons_of_mem _ hb)
   refine⟨y1,y2,?_⟩
   rw[List.cons_append,FI,vb]
   rw[show i+(d::ds).length=i+1+ds.length by simp;omega, <- ih]
   simp[qs,h d (List.mem_cons_self ..)]
theorem FQ(ds:List D):ql (.tup ds)=some (.val (.bl true)):=rfl
theorem FR(ds:List D):ql (.lst ds)=some (.val (.bl true)):=rfl
theorem NW{d:D}(h:d = .str "" \/ d = .int 3\/d = .bl true\/d = .gp [] []):ql d=some (.val (.bl false)):=by rcases h with rfl | rfl | rfl | rfl<;>rfl
abbrev xP(d:D):Xc:=⟨.NoPoints,[("number",d)]⟩
theorem FT{x:D}{ds:List D}(hx:Sq x ds)(hl:ds.length<=200)(h:∀ d∈ds,d8 [d]=some (.val (.bl true))):dG [x]=some (.ok (.val .ao)):=by
 obtain⟨y1,y2,hy⟩:=AG (x0:=some (.ak,x)) ds 0 none none [] h
 rw[List.append_nil] at hy
 rw[show o3 (0+ds.length) []=[] from rfl,Lr] at hy
 have h1 : ¬ (200<(ds.length:Int)):=by omega
 unfold dG
 rw[v8]
 rcases hx with rfl | rfl<;>simp[oM,bG,gam,h1,FJ,hy,FQ,FR]
theorem NX{ds:List D}(hl:200<ds.length):dG [.lst ds]=some (.ex (xP .ao)):=by
 have h1:200<(ds.length:Int):=by omega
 unfold dG
 rw[v8]
 simp[oM,bG,gam,h1]
theorem NY{d:D}(h:d = .str "" \/ d = .int 3\/d = .bl true\/d = .gp [] []):dG [d]=some (.ex (xP .ao)):=by
 have i:=NW h
 unfold dG
 rw[v8]
 simp[oM,bG,gam,i]
theorem AH{x:D}{ds:List D}{d:D}{r:List D}(hx:Sq x (ds++d::r))(hl:ds.length+r.length<200)(h:∀ d∈ds,d8 [d]=some (.val (.bl true)))(hd:d8 [d]=some (.val (.bl false))):dG [x]=some (.ex (xP (.int ds.length))):=by
 obtain⟨y1,y2,hq⟩:=AG (x0:=some (.ak,x)) ds 0 none none (d::r) h
 have hb:∃ Γ',iC (gT 2 (dc (gN 1) (dc (gN 2) iB))) qs (o3 (0+ds.length) (d::r)) [some (.ak,x),y1,y2] = .ex (xP (.int ds.length)) Γ':=by
  rw[FI,vb]
  exact⟨_,by simp[qs,hd];rfl⟩
 obtain⟨Γ',hb⟩:=hb
 rw[hb] at hq
 have h1 : ¬ (200<((ds++d::r).length:Int)):=by simp;omega
 generalize ds++d::r=L at *
 unfold dG
 rw[v8]
 rcases hx with rfl | rfl<;>simp[oM,bG,gam,h1,FJ,hq,FQ,FR]
abbrev pO(ds:List D):D:=.obj .Points ["held"] [.lst ds]
theorem AI:∀ cs:List (Int×Int),gA (sw cs)=true
 | []=>rfl
 |c::r=>AI r
theorem FU{cs:List (Int×Int)}(sm:∀ c∈cs,cq c):∀ d∈sw cs,d8 [d]=some (.val (.bl true)):=fun d hd=>by
 obtain⟨c,hc,rfl⟩:=sZ hd
 exact NV (sm c hc)
theorem v9{x:D}{cs:List (Int×Int)}(hx:Sq x (sw cs))(sm:∀ c∈cs,cq c)(hl:cs.length<=200):cW [x]=some (.ok (.val (pO (sw (aH cs))))):=by
 have e1:=order_eq hx sm hl
 have e2:=FT hx (by rw[jP];omega) (FU sm)
 have e3:=AI (aH cs)
 generalize sw cs=S at *
 generalize sw (aH cs)=T at *
 rcases hx with rfl | rfl<;>simp[cW,Dv.runN,lH,sP,sQ,sR,gam,e1,e2,e3,oW,isNone]
theorem NZ:cW [.ao]=some (.ok (.val (pO []))):=by
 have l0:0<=sizeLine:=Nat.zero_le _
 have z:aH []=[]:=List.eq_nil_of_length_eq_zero (Nat.le_zero.mp (s_ []))
 have e1:=order_eq (x:=.lst []) (cs:=[]) (.inl rfl) (fun c hc=>by cases hc) (by decide)
 rw[z,show sw []=[] from rfl] at e1
 have im:gq (.new (.lst []))=true:=rfl
 have e2:dG [.lst []]=some (.ok (.val .ao)):=FT (.inl rfl) (by decide) (fun c hc=>by cases hc)
 have e3:gA []=true:=rfl
 simp[cW,Dv.runN,lH,sP,sQ,sR,gam,e1,e2,e3,oW,isNone,l0,im]
theorem N0{x n:D}(h:dG [x]=some (.ex (xP n)))(hx:isNone x=false):cW [x]=some (.ex (xP n)):=by
 simp[cW,Dv.runN,lH,sP,sQ,sR,gam,h,oW,hx]
theorem N1:cd True=true:=jH trivial
theorem v_:cd (¬ ("points" : Str) = "held")=true:=jH (by decide +kernel)
theorem td(ds:List D):df [pO ds]=some (.new (.lst ds)):=by
 simp[df,Av,cP,bG,gam,N1]
theorem N2(d:D):kr [.ins .NoPoints ["number"] [d]]=some (.val (.str "points")):=by
 have ln:=line
 have s1:1<=sizeLine:=by omega
 have s2:2<=sizeLine:=by omega
 have s3:3<=sizeLine:=by omega
 have s4:4<=sizeLine:=by omega
 have s7:7<=sizeLine:=by omega
 have qt:10<=sizeLine:=by omega
 have kW:13<=sizeLine:=by omega
 have s15:15<=sizeLine:=by omega
 have i:∀ T,vj bT T (.ins .NoPoints ["number"] [d])=some (.val (.bl (sub .NoPoints T))):=fun T=>rfl
 have f:∀ b:Bool,oz (.bl b)=true:=fun b=>rfl
 have n1:cR (.int 1) (.int 1)=some (.val (.bl false)):=lI (by decide)
 have n2:cR (.bl true) (.bl true)=some (.val (.bl false)):=lI (by decide)
 have b1:∀ b:Bool,oA (.bl b) (.bl true)=b:=fun b=>by cases b<;>rfl
 simp[kr,Az,cP,bG,gam,i,sub,s1,s2,s3,s4,s7,qt,kW,s15,vn,rZ,f,n1,n2,b1,List.findIdx?_cons]
 rfl
theorem FV{x:D}{cs:List (Int×Int)}(hx:Sq x (sw cs))(sm:∀ c∈cs,cq c)(hl:cs.length<=200):dH [x]=some (.new (.lst [.str "points",.lst (sw (aH cs))])):=by
 have ln:=line
 have s2:2<=sizeLine:=by omega
 have e1:=v9 hx sm hl
 have e2:=td (sw (aH cs))
 generalize sw (aH cs)=T at *
 generalize sw cs=S at *
 simp[dH,vZ,cP,bG,gam,e1,e2,s2,isNone,v_]
theorem tj{x n:D}(h:dG [x]=some (.ex (xP n)))(hx:isNone x=false)(hn:n = .ao\/∃ i,n = .int i):dH [x]=some (.new (.lst [.str "refused",n])):=by
 have ln:=line
 have s2:2<=sizeLine:=by omega
 have e1:=N0 h hx
 have k:=N2 n
 have m:Aq .NoPoints=true:=by decide
 have q2:cR (.str "points") (.str "points")=some (.val (.bl false)):=lI (by decide +kernel)
 have c:Cn.NoPoints∈bT:=by decide
 rcases hn with rfl | ⟨i,rfl⟩<;>simp[dH,vZ,cP,bG,gam,e1,m,lG,k,isNone,s2,q2,c,et]
theorem wa{ds:List D}{n:Nat}(hn:n<=50)(h:∀ d∈ds,d.py.canLay0=true/\d.py.depth<=n):fb (.lst ds)=true/\(D.lst ds).py.canLay0=true/\(D.lst ds).py.depth<=n+1:=by
 have e0:(D.lst ds).py = .list (ds.map fun d=>d.py):=by show PyData.list (D.eQ ds)=_;congr 1;induction ds with | nil=>rfl | cons a r ih=>simp[D.eQ,ih fun d hd=>h d (List.mem_cons_of_mem _ hd)]
 have h1:PyData.canLayAll0 (ds.map fun d=>d.py)=true:=NK fun x hx=>by obtain⟨d,hd,rfl⟩:=List.mem_map.mp hx;exact(h d hd).1
 have h2:PyData.depthAll (ds.map fun d=>d.py)<=n:=NL fun x hx=>by obtain⟨d,hd,rfl⟩:=List.mem_map.mp hx;exact(h d hd).2
 refine⟨?_,?_,?_⟩
 · unfold fb SeqAt.shaped;rw[e0];simp[PyData.canLay0,PyData.depth,h1];omega
 · rw[e0];simp[PyData.canLay0,h1]
 · rw[e0];simp[PyData.depth];omega
theorem N3(cs:List (Int×Int)):fb (.lst (sw cs))=true:=(wa (n:=1) (by omega) fun d hd=>by
 obtain⟨c,hc,rfl⟩:=sZ hd
 constructor<;>simp[D.py,D.eQ,PyData.canLay0,PyData.canLayAll0,PyData.depth,PyData.depthAll]).1
structure Gs(k n:Nat)(d:D):Prop where
 sh:d.py.showable=true
 ls:d.py.leavesShort 40=true
 dp:d.py.depth<=k
 bk:d.py.bulk<=n
theorem Gs.mono{k k' n n':Nat}{d:D}(h:Gs k n d)(hk:k<=k')(hn:n<=n'):Gs k' n' d:=⟨h.sh,h.ls,Nat.le_trans h.dp hk,Nat.le_trans h.bk hn⟩
theorem N4:∀ r:Nat,r<200->((PyData.int ((r:Int) - 100)).showable && (PyData.int ((r:Int) - 100)).leavesShort 40)=true:=by decide +kernel
theorem Gs.int{i:Int}(h : -100<=i)(h':i<100):Gs 0 1 (.int i):=by
 have:=N4 (i+100).toNat (by omega)
 rw[show(((i+100).toNat:Int) - 100)=i by omega,Bool.and_eq_true] at this
 exact⟨this.1,this.2,by simp[D.py,PyData.depth],by simp[D.py,PyData.bulk]⟩
theorem AJ{k n:Nat}:∀ {ds:List D},(∀ d∈ds,Gs k n d)->PyData.showableAll (D.eQ ds)=true/\PyData.leavesShortAll 40 (D.eQ ds)=true/\PyData.depthAll (D.eQ ds)<=k/\PyData.bulkAll (D.eQ ds)<=ds.length * (n+1)
 | [],_=>⟨rfl,by decide +kernel,by simp[D.eQ,PyData.depthAll],by simp[D.eQ,PyData.bulkAll]⟩
 |d::r,h=>by
   obtain⟨a2,a3,a4,a5⟩:=AJ (ds:=r) fun x hx=>h x (List.mem_cons_of_mem _ hx)
   obtain⟨b2,b3,b4,b5⟩:=h d (List.mem_cons_self ..)
   refine⟨by simp[D.eQ,PyData.showableAll,a2,b2],by simp[D.eQ,PyData.leavesShortAll,a3,b3],by simp[D.eQ,PyData.depthAll];omega,?_⟩
   simp only[D.eQ,PyData.bulkAll,List.length_cons]
   rw[Nat.add_mul,Nat.one_mul]
   omega
theorem Gs.tup{k n:Nat}{ds:List D}(h:∀ d∈ds,Gs k n d):Gs (k+1) (ds.length * (n+1)) (.tup ds):=by
 obtain⟨a2,a3,a4,a5⟩:=AJ h
 exact⟨by simpa [D.py,PyData.showable] using a2,by simpa [D.py,PyData.leavesShort] using a3,by simp[D.py,PyData.depth];omega,by simpa [D.py,PyData.bulk] using a5⟩
theorem Gs.lst{k n:Nat}{ds:List D}(h:∀ d∈ds,Gs k n d):Gs (k+1) (ds.length * (n+1)) (.lst ds):=by
 obtain⟨a2,a3,a4,a5⟩:=AJ h
 exact⟨by simpa [D.py,PyData.showable] using a2,by simpa [D.py,PyData.leavesShort] using a3,by simp[D.py,PyData.depth];omega,by simpa [D.py,PyData.bulk] using a5⟩
theorem N5:1000000<=sizeLine:=by decide
theorem N6{k n:Nat}{ds:List D}(hp:mK ds=true)(g:Gs k n (.lst ds))(hk:k<=50)(hn:n<=20000):iD [.lst ds]=some (.val (.str (D.lst ds).py.shown)):=by
 have ln:=N5
 have sh:=PyData.shown_le_bulk 40 (by decide) (D.lst ds).py g.ls
 have b:=g.bk
 have dp:=g.dp
 have rt:sI (.lst ds)=true:=by
  unfold sI
  rw[show h9 (.lst ds)=true from hp,g.sh,decide_eq_true (by omega:(D.lst ds).py.depth<=50),decide_eq_true (by omega)]
  rfl
 show(if (true && sI (.lst ds))=true then some (RV.val (.str (D.lst ds).py.shown)) else none)=_
 rw[rt]
 rfl
theorem wc{cs:List (Int×Int)}(sm:∀ c∈cs,cq c):∀ d∈sw cs,h9 d=true/\Gs 2 10 d:=fun d hd=>by
 obtain⟨c,hc,rfl⟩:=sZ hd
 obtain⟨⟨h1,h2⟩,h3,h4⟩:=sm c hc
 refine⟨rfl,(Gs.tup (k:=0) (n:=1) fun d hd=>?_).mono (by decide) (by simp)⟩
 simp only[List.mem_cons,List.not_mem_nil,or_false] at hd
 rcases hd with rfl | rfl
 · exact Gs.int (by omega) (by omega)
 · exact Gs.int (by omega) (by omega)
theorem FW:∀ {ds:List D},(∀ d∈ds,h9 d=true)->mK ds=true
 | [],_=>rfl
 |d::r,h=>by
   show(h9 d && mK r)=true
   rw[h d (List.mem_cons_self ..),FW fun x hx=>h x (List.mem_cons_of_mem _ hx)]
   rfl
theorem AK{ds:List D}(hl:ds.length<=401)(h:∀ d∈ds,h9 d=true/\Gs 2 10 d):∃ z,iD [.lst ds]=some (.val (.str z)) :=
 ⟨_,N6 (k:=3) (n:=ds.length * 11) (FW fun d hd=>(h d hd).1) (Gs.lst (k:=2) (n:=10) fun d hd=>(h d hd).2) (by decide) (by omega)⟩
theorem N7:(D.str "points").py.canLay0=true:=by decide +kernel
theorem N8:(D.str "refused").py.canLay0=true:=by decide +kernel
theorem N9(cs:List (Int×Int)):fb (.lst [.str "points",.lst (sw cs)])=true:=by
 refine(wa (n:=2) (by decide) fun x hx=>?_).1
 simp only[List.mem_cons,List.not_mem_nil,or_false] at hx
 rcases hx with rfl | rfl
 · exact⟨N7,by simp[D.py,PyData.depth]⟩
 · refine(wa (n:=1) (by decide) fun x hx=>?_).2
   obtain⟨c,_,rfl⟩:=sZ hx
   exact⟨by simp[D.py,D.eQ,PyData.canLay0,PyData.canLayAll0],by simp[D.py,D.eQ,PyData.depth,PyData.depthAll]⟩
theorem wd{n:D}(hn:n = .ao\/∃ i,n = .int i):fb (.lst [.str "refused",n])=true:=by
 refine(wa (n:=0) (by decide) fun x hx=>?_).1
 simp only[List.mem_cons,List.not_mem_nil,or_false] at hx
 rcases hx with rfl | rfl
 · exact⟨N8,by simp[D.py,PyData.depth]⟩
 · rcases hn with rfl | ⟨i,rfl⟩<;>exact⟨rfl,by simp[D.py,PyData.depth]⟩
def dQ:List D:=[.ao,.tup [.int 1],.tup [.int 1,.int 2,.int 3],.lst [.int 1,.int 2],.tup [.int 31,.int 0],.tup [.int 0,.int 31],.tup [.int (-1),.int 0],.tup [.int 0,.int (-1)],.tup [.bl true,.int 0],.tup [.int 0,.bl false],.tup [.str "1",.int 0],.int 3,.tup [],.tup [.int 1000000000000000000000000000000,.int 1]]
theorem N_:∀ d∈dQ,h9 d=true/\Gs 2 10 d:=by
 intro d hd
 simp only[dQ,List.mem_cons,List.not_mem_nil,or_false] at hd
 rcases hd with rfl | rfl | rfl | rfl | rfl | rfl | rfl | rfl | rfl | rfl | rfl | rfl | rfl | rfl<;>exact⟨rfl,⟨by decide +kernel,by decide +kernel,by decide +kernel,by decide +kernel⟩⟩
theorem AL(b:Bool):dv [.bl b]=some (.val (.bl false)):=by simp[dv,qq,cP,bG,gam,et]
theorem FX(b:Str):dv [.str b]=some (.val (.bl false)):=by simp[dv,qq,cP,bG,gam,et]
theorem Oa:dv [.ao]=some (.val (.bl false)):=by simp[dv,qq,cP,bG,gam,et]
theorem Ob:∀ d∈dQ,d8 [d]=some (.val (.bl false)):=by
 intro d hd
 have k1:=AL true
 have k2:=v7 0
 have k3:=FX "1"
 have k4:=AL false
 have q1:=sV 1 2
 have q0:=sV 0 2
 have q2:=sV 2 2
 have q3:=sV 3 2
 simp only[dQ,List.mem_cons,List.not_mem_nil,or_false] at hd
 rcases hd with rfl | rfl | rfl | rfl | rfl | rfl | rfl | rfl | rfl | rfl | rfl | rfl | rfl | rfl<;>first | (simp[d8,sO,cP,bG,gam,et,q0,q1,q2,q3,oY,oZ,k1,k2,k3,k4];done) | (rw[FP];rfl)
theorem Oc:ny (.int 10) (.int 30)=some (.val (.int 1000000000000000000000000000000)):=by
 show(if cd ((0:Int)<=30/\(30:Int)<=1000000/\(10:Int).natAbs<2 ^ 64)=true then some (RV.val (.int (10 ^ (30:Int).toNat))) else none)=_
 rw[if_pos (jH (by decide))]
 have:(10:Int) ^ (30:Int).toNat=1000000000000000000000000000000:=by decide +kernel
 rw[this]
theorem Od:ny (.int 10) (.int 40)=some (.val (.int 10000000000000000000000000000000000000000)):=by
 show(if cd ((0:Int)<=40/\(40:Int)<=1000000/\(10:Int).natAbs<2 ^ 64)=true then some (RV.val (.int (10 ^ (40:Int).toNat))) else none)=_
 rw[if_pos (jH (by decide))]
 have:(10:Int) ^ (40:Int).toNat=10000000000000000000000000000000000000000:=by decide +kernel
 rw[this]
theorem Oe{c s:Int}(h:Sd s):∃ (d:D) (c' s':Int),jv (pl c s) []=some (.val d,pl c' s')/\d∈dQ/\Sd s':=by
 have ln:=line
 have l0:0<=sizeLine:=Nat.zero_le _
 have l1:1<=sizeLine:=by omega
 have l2:2<=sizeLine:=by omega
 have l3:3<=sizeLine:=by omega
 have Of:14<=sizeLine:=by omega
 obtain⟨x,c1,s1,h1,b1,d1⟩:=qr (c:=c) (m:=14) h (by omega) (by omega)
 obtain⟨j,rfl⟩:∃ j:Nat,x=j:=⟨x.toNat,by omega⟩
 have hj:j<dQ.length:=by show j<14;omega
 have e:L2.cC dQ (j:Int)=some dQ[j]:=L2.iU (List.getElem?_eq_getElem hj)
 refine⟨dQ[j],c1,s1,?_,List.getElem_mem hj,d1⟩
 generalize dQ[j]=q at *
 unfold dQ at e
 simp[jv,Aw,mD,mB,bG,jo,h1,l0,l1,l2,l3,Of,Oc,e]
def s1:M Fl:=(bw 2 (dq i5 (ZS (ai 0) (ZS (ai 1) (M.pure [])))))
def s2:M Fl:=(bw 3 (op2 dh (av (ZS (M.pure (.val (.int 0))) (ZS (M.pure (.val (.int 1))) (ZS (M.pure (.val (.int 2))) (ZS (M.pure (.val (.int 5))) (ZS (M.pure (.val (.int 12))) (ZS (M.pure (.val (.int 40))) (ZS (M.pure (.val (.int 200))) (ZS (M.pure (.val (.int 199))) (M.pure [])))))))))) (fC cV (ZS (ai 2) (ZS (M.pure (.val (.int 8))) (M.pure []))))))
def s3:M Fl:=(bw 4 (op2 dh (av (ZS (M.pure (.val (.int 3))) (ZS (M.pure (.val (.int 31))) (M.pure [])))) (fC cV (ZS (ai 2) (ZS (M.pure (.val (.int 2))) (M.pure []))))))
def s4:M Fl:=(bw 5 (jK (mh (ZS (ai 3) (M.pure []))) [2,4] 1 (gN 0) (M.pure true) (fC h_ (ZS (ai 1) (ZS (ai 2) (ZS (ai 2) (M.pure [])))))))
def s5:M Fl:=(bw 6 (dq jw (ZS (ai 5) (M.pure []))))
def s6:M Fl:=(bw 7 (cm pS (ZS (ai 5) (M.pure []))))
def s7:M Fl:=(bw 8 (sN (h8 cW (ZS (op2 dh (av (ZS (ai 7) (ZS (cm lW (ZS (ai 7) (M.pure []))) (M.pure [])))) (op2 jI (ai 1) (M.pure (.val (.int 2))))) (M.pure [])))))
def s8:M Fl:=(lu (rE 7 sJ (M.pure [])))
def s9:M Fl:=(lu (r_ (gF .Points "points" df (ai 8)) rF (ZS (M.pure (.val .ao)) (M.pure []))))
def qt:M Fl:=(dF (orM (M.bind (op2 cR (gF .Points "points" df (ai 8)) (ai 6)) bz) (M.bind (op2 cR (cm iD (ZS (gF .Points "points" df (ai 8)) (M.pure []))) (cm iD (ZS (ai 6) (M.pure [])))) bz)) (cH (M.pure (.val (.bl false)))) (M.pure .nx))
def we:M Fl:=(dF (M.bind (op2 cR (dq dH (ZS (op2 dY (ai 5) (op2 mE (av (ZS (cu (ZS (M.pure (.val (.int 0))) (ZS (M.pure (.val (.int 0))) (M.pure [])))) (M.pure []))) (M.pure (.val (.int 201))))) (M.pure []))) (av (ZS (M.pure (.val (.str "refused"))) (ZS (M.pure (.val .ao)) (M.pure []))))) bz) (cH (M.pure (.val (.bl false)))) (M.pure .nx))
def AM:M Fl:=(bw 10 (fC cV (ZS (ai 2) (ZS (op2 dY (ai 3) (M.pure (.val (.int 1)))) (M.pure [])))))
def AN:M Fl:=(bw 11 (l_ l7 (op2 dY (op2 dY (l_ l7 (ai 5) (M.pure none) (M.bind (ai 10) l9)) (av (ZS (fC jv (ZS (ai 2) (M.pure []))) (M.pure [])))) (l_ l7 (ai 5) (M.bind (ai 10) l9) (M.pure none))) (M.pure none) (M.bind (M.pure (.val (.int 200))) l9)))
def AO:M Fl:=(bw 12 (cm iD (ZS (ai 11) (M.pure []))))
def wg:M Fl:=(bw 13 (op2 dh (av (ZS (av (ZS (M.pure (.val (.str "refused"))) (ZS (ai 10) (M.pure [])))) (ZS (av (ZS (M.pure (.val (.str "points"))) (ZS (ai 6) (M.pure [])))) (M.pure [])))) (cm oB (ZS (op2 fc (ai 10) (M.pure (.val (.int 200)))) (M.pure [])))))
def tq:M Fl:=(dF (orM (M.bind (op2 cR (dq dH (ZS (ai 11) (M.pure []))) (ai 13)) bz) (orM (M.bind (op2 cR (dq dH (ZS (cm lW (ZS (ai 11) (M.pure []))) (M.pure []))) (ai 13)) bz) (M.bind (op2 cR (cm iD (ZS (ai 11) (M.pure []))) (ai 12)) bz))) (cH (M.pure (.val (.bl false)))) (M.pure .nx))
def AQ:M Fl:=(aI AM (aI AN (aI AO (aI wg tq))))
def s12:M Fl:=(forM (mh (ZS (M.pure (.val (.int 6))) (M.pure []))) (gN 9) AQ)
def AR:M Fl:=(dF (M.bind (op2 cR (dq dH (ZS (ai 14) (M.pure []))) (op2 dh (av (ZS (av (ZS (M.pure (.val (.str "refused"))) (ZS (M.pure (.val .ao)) (M.pure [])))) (ZS (av (ZS (M.pure (.val (.str "refused"))) (ZS (M.pure (.val (.int 0))) (M.pure [])))) (M.pure [])))) (cm oB (ZS (op2 qp (ai 14) (cu (ZS (M.pure (.val (.int 0))) (ZS (M.pure (.val (.int 0))) (M.pure []))))) (M.pure []))))) bz) (cH (M.pure (.val (.bl false)))) (M.pure .nx))
def tw:M Fl:=AR
def kW:M Fl:=(forM (lD (av (ZS (M.pure (.val (.str ""))) (ZS (M.pure (.val (.int 3))) (ZS (M.pure (.val (.bl true))) (ZS (M.pure (.val (.gp [] []))) (ZS (cu (ZS (M.pure (.val (.int 0))) (ZS (M.pure (.val (.int 0))) (M.pure [])))) (M.pure [])))))))) (gN 14) tw)
def wj:M Fl:=(aI s1 (aI s2 (aI s3 (aI s4 (aI s5 (aI s6 (aI s7 (aI s8 (aI s9 (aI qt (aI we (aI s12 kW))))))))))))
theorem Og:AA cW df jv h_ i5 jw cV dH dv=(aI (forM (mh (ZS (cm rn (ZS (M.pure (.val (.int 1))) (ZS (cm rq (ZS (M.pure (.val (.int 8))) (ZS (cm j7 (ZS (ai 0) (M.pure []))) (M.pure [])))) (M.pure [])))) (M.pure []))) (gN 1) wj) (aI (dF (M.bind (op2 cR (jK (tupI (cu (ZS (M.pure (.val (.int 0))) (ZS (M.pure (.val (.int 30))) (ZS (M.pure (.val (.int 31))) (ZS (op1 oE (M.pure (.val (.int 1)))) (ZS (M.pure (.val (.bl true))) (ZS (M.pure (.val .ao)) (ZS (M.pure (.val (.str "1"))) (ZS (op2 ny (M.pure (.val (.int 10))) (M.pure (.val (.int 40)))) (M.pure []))))))))))) [] 1 (gN 0) (M.pure true) (dq dv (ZS (ai 0) (M.pure [])))) (op2 dY (av (ZS (M.pure (.val (.bl true))) (ZS (M.pure (.val (.bl true))) (M.pure [])))) (op2 mE (av (ZS (M.pure (.val (.bl false))) (M.pure []))) (M.pure (.val (.int 6)))))) bz) (cH (M.pure (.val (.bl false)))) (M.pure .nx)) (cH (jG (op2 fc (gF .Points "points" df (h8 cW (M.pure [.val .ao]))) (av (M.pure []))) (jG (op2 fc (gF .Points "points" df (h8 cW (ZS (M.pure (.val .ao)) (M.pure [])))) (av (M.pure []))) (op2 fc (gF .Points "points" df (h8 cW (ZS (av (ZS (cu (ZS (M.pure (.val (.int 1))) (ZS (M.pure (.val (.int 2))) (M.pure [])))) (M.pure []))) (M.pure [])))) (av (ZS (cu (ZS (M.pure (.val (.int 1))) (ZS (M.pure (.val (.int 2))) (M.pure [])))) (M.pure []))))))))):=rfl
abbrev C:=Int×Int
abbrev pt(c:C):D:=.tup [.int c.2,.int c.1]
theorem Oh{c s w:Int}(h:Sd s)(hw:0<w)(hw2:w<=31):∃ (p:C) (c' s':Int),h_ (pl c s) [.int w,.int w]=some (.val (pt p),pl c' s')/\cq p/\Sd s':=by
 have ln:=line
 have l2:2<=sizeLine:=by omega
 obtain⟨k,c1,s1,h1,b1,d1⟩:=qr (c:=c) (m:=w) h hw (by omega)
 obtain⟨m,c2,s2,h2,b2,d2⟩:=qr (c:=c1) (m:=w) d1 hw (by omega)
 refine⟨(m,k),c2,s2,?_,⟨⟨by show 0<=m;omega,by show m<=30;omega⟩,by show 0<=k;omega,by show k<=30;omega⟩,d2⟩
 simp[h_,Ax,mD,mB,bG,jo,h1,h2,l2]
theorem FY{w:Int}(hw:0<w)(hw2:w<=31){x0 x1 x3:Sl}{xs:En}:∀ (ds:List D) (c s:Int),Sd s->∃ (cs:List C) (c' s':Int),
 dk [2,4] 1 (gN 0) (M.pure true) (fC h_ (ZS (ai 1) (ZS (ai 2) (ZS (ai 2) (M.pure []))))) ds (x0::x1::some (.own,.lst (pl c s))::x3::some (.ak,.int w)::xs) = .ok (sw cs) (x0::x1::some (.own,.lst (pl c' s'))::x3::some (.ak,.int w)::xs)/\Sd s'/\cs.length=ds.length/\∀ a∈cs,cq a
 | [],c,s,h=>⟨[],c,s,rfl,h,rfl,fun a ha=>by cases ha⟩
 |d::r,c,s,h=>by
   obtain⟨p,c1,s1,hx,hx1,hs1⟩:=Oh (c:=c) h hw hw2
   obtain⟨cs,c2,s2,hl,hs2,hn',hk⟩:=FY hw hw2 r c1 s1 hs1
   refine⟨p::cs,c2,s2,?_,hs2,by simp[hn'],fun a ha=>?_⟩
   · have e:j9 (gN 0) (M.pure true) (fC h_ (ZS (ai 1) (ZS (ai 2) (ZS (ai 2) (M.pure []))))) d (bR [2,4] 1 (x0::x1::some (.own,.lst (pl c s))::x3::some (.ak,.int w)::xs)) = .ok (some (pt p)) [some (.ak,d),some (.own,.lst (pl c1 s1)),some (.ak,.int w)]:=by
      simp[bR,hx]
     unfold dk
     rw[e]
     show(match dk [2,4] 1 (gN 0) (M.pure true) (fC h_ (ZS (ai 1) (ZS (ai 2) (ZS (ai 2) (M.pure []))))) r (x0::x1::some (.own,.lst (pl c1 s1))::x3::some (.ak,.int w)::xs) with
      | .ok ys Γ'=>Res.ok ([pt p]++ys) Γ'
      | _=>.st)=_
     rw[hl]
     rfl
   · rcases List.mem_cons.1 ha with rfl | ha
     · exact hx1
     · exact hk a ha
abbrev lE(ns:List Int)(k c s:Int)(xs:En):En :=
 some (.ak,.bM ns)::some (.ak,.int k)::some (.own,.lst (pl c s))::xs
theorem Oi{x:Int}(h:0<=x/\x<2):∃ w,L2.cC [D.int 3,.int 31] x=some (.int w)/\0<w/\w<=31:=by
 have:x=0\/x=1:=by omega
 rcases this with rfl | rfl
 · exact⟨3,rfl,by decide,by decide⟩
 · exact⟨31,rfl,by decide,by decide⟩
theorem Oj{x:Int}(h:0<=x/\x<8):∃ n:Nat,L2.cC [D.int 0,.int 1,.int 2,.int 5,.int 12,.int 40,.int 200,.int 199] x=some (.int n)/\n<=200:=by
 have:x=0\/x=1\/x=2\/x=3\/x=4\/x=5\/x=6\/x=7:=by omega
 rcases this with rfl | rfl | rfl | rfl | rfl | rfl | rfl | rfl
 · exact⟨0,rfl,by decide⟩
 · exact⟨1,rfl,by decide⟩
 · exact⟨2,rfl,by decide⟩
 · exact⟨5,rfl,by decide⟩
 · exact⟨12,rfl,by decide⟩
 · exact⟨40,rfl,by decide⟩
 · exact⟨200,rfl,by decide⟩
 · exact⟨199,rfl,by decide⟩
structure Gc(cs:List C):Prop where
 len:cs.length<=200
 sm:∀ c∈cs,cq c
theorem Ol{ns:List Int}{k:Nat}(hk:k<100){x2 x3 x4 x5 x6 x7 x8 x9 x10 x11 x12 x13 x14:Sl}:∃ (c s w:Int) (cs:List C),
 aI s1 (aI s2 (aI s3 (aI s4 (aI s5 s6)))) [some (.ak,.bM ns),some (.ak,.int k),x2,x3,x4,x5,x6,x7,x8,x9,x10,x11,x12,x13,x14] = .ok .nx (lE ns k c s [some (.ak,.int cs.length),some (.ak,.int w),some (.own,.lst (sw cs)),some (.own,.lst (sw (aH cs))),some (.own,.lst (sw cs)),x8,x9,x10,x11,x12,x13,x14])/\Sd s/\Gc cs:=by
 have ln:=line
 have l8:8<=sizeLine:=by omega
 have l2:2<=sizeLine:=by omega
 obtain⟨c,s,hp,hs⟩:=NQ ns k hk
 obtain⟨x,c1,s1',hx,hx1,hs1⟩:=qr (c:=c) (m:=8) hs (by omega) (by omega)
 obtain⟨n,hn,hn2⟩:=Oj hx1
 obtain⟨y,c2,s2',hy,hy1,hs2⟩:=qr (c:=c1) (m:=2) hs1 (by omega) (by omega)
 obtain⟨w,hw,w1,w2⟩:=Oi hy1
 obtain⟨cs,c5,qu,hl,Om,ml,mb⟩:=FY (w:=w) w1 w2 (x0:=some (.ak,.bM ns)) (x1:=some (.ak,.int k)) (x3:=some (.ak,.int n)) (xs:=[x5,x6,x7,x8,x9,x10,x11,x12,x13,x14]) (hW 0 n) c2 s2' hs2
 rw[FG] at ml
 subst ml
 have sm:small (cs.length:Int)=true:=zu (by omega)
 have e0:(hW 0 cs.length).length<sizeLine:=by rw[FG];omega
 have e1:=NU mb hn2
 have im:gq (.new (.lst (sw (aH cs))))=true:=AI _
 have f1:s1 [some (.ak,.bM ns),some (.ak,.int k),x2,x3,x4,x5,x6,x7,x8,x9,x10,x11,x12,x13,x14] = .ok .nx (lE ns k c s [x3,x4,x5,x6,x7,x8,x9,x10,x11,x12,x13,x14]):=by simp[s1,hp]
 have f2:s2 (lE ns k c s [x3,x4,x5,x6,x7,x8,x9,x10,x11,x12,x13,x14]) = .ok .nx (lE ns k c1 s1' [some (.ak,.int cs.length),x4,x5,x6,x7,x8,x9,x10,x11,x12,x13,x14]):=by simp[s2,hx,hn,l8]
 have f3:s3 (lE ns k c1 s1' [some (.ak,.int cs.length),x4,x5,x6,x7,x8,x9,x10,x11,x12,x13,x14]) = .ok .nx (lE ns k c2 s2' [some (.ak,.int cs.length),some (.ak,.int w),x5,x6,x7,x8,x9,x10,x11,x12,x13,x14]):=by simp[s3,hy,hw,l2]
 have f4:s4 (lE ns k c2 s2' [some (.ak,.int cs.length),some (.ak,.int w),x5,x6,x7,x8,x9,x10,x11,x12,x13,x14]) = .ok .nx (lE ns k c5 qu [some (.ak,.int cs.length),some (.ak,.int w),some (.own,.lst (sw cs)),x6,x7,x8,x9,x10,x11,x12,x13,x14]):=by
  generalize sw cs=T at *
  simp[s4,sm,e0,hl]
 have f5:s5 (lE ns k c5 qu [some (.ak,.int cs.length),some (.ak,.int w),some (.own,.lst (sw cs)),x6,x7,x8,x9,x10,x11,x12,x13,x14]) = .ok .nx (lE ns k c5 qu [some (.ak,.int cs.length),some (.ak,.int w),some (.own,.lst (sw cs)),some (.own,.lst (sw (aH cs))),x7,x8,x9,x10,x11,x12,x13,x14]):=by
  generalize sw (aH cs)=S at *
  generalize sw cs=T at *
  simp[s5,e1,im]
 have f6:s6 (lE ns k c5 qu [some (.ak,.int cs.length),some (.ak,.int w),some (.own,.lst (sw cs)),some (.own,.lst (sw (aH cs))),x7,x8,x9,x10,x11,x12,x13,x14]) = .ok .nx (lE ns k c5 qu [some (.ak,.int cs.length),some (.ak,.int w),some (.own,.lst (sw cs)),some (.own,.lst (sw (aH cs))),some (.own,.lst (sw cs)),x8,x9,x10,x11,x12,x13,x14]):=by
  generalize sw (aH cs)=S at *
  generalize sw cs=T at *
  simp[s6]
 exact⟨c5,qu,w,cs,fG f1 (fG f2 (fG f3 (fG f4 (fG f5 f6)))),Om,hn2,mb⟩
theorem AS(z:Str):cR (.str z) (.str z)=some (.val (.bl false)):=by
 show some (RV.val (.bl (!decide (z=z))))=_
 simp
theorem rep1{d:D}{n:Nat}(hn:n<=1000):mE (.lst [d]) (.int n)=some (.new (.lst (List.replicate n d))):=by
 have ln:=line
 have c:cd (-(2 ^ 63)<=(n:Int)/\(n:Int)<2 ^ 63/\[d].length * (n:Int).toNat<=sizeLine)=true:=jH ⟨by omega,by omega,by simp;omega⟩
 show(if cd (-(2 ^ 63)<=(n:Int)/\(n:Int)<2 ^ 63/\[d].length * (n:Int).toNat<=sizeLine)=true then some (RV.new (.lst (List.replicate (n:Int).toNat [d]).flatten)) else none)=_
 rw[if_pos c,Int.toNat_natCast,List.flatten_replicate_singleton]
section
variable{ns:List Int}{c s w:Int}{k:Nat}{cs:List C}{x8 x9 x10 x11 x12 x13 x14:Sl}
abbrev gE(ns:List Int)(k c s m w:Int)(T S hd:List D)(xs:En):En:=lE ns k c s (some (.ak,.int m)::some (.ak,.int w)::some (.own,.lst T)::some (.own,.lst S)::some (.own,.lst hd)::xs)
theorem Oo(G:Gc cs):s7 (gE ns k c s cs.length w (sw cs) (sw (aH cs)) (sw cs) [x8,x9,x10,x11,x12,x13,x14]) = .ok .nx (gE ns k c s cs.length w (sw cs) (sw (aH cs)) (sw cs) [some (.ak,pO (sw (aH cs))),x9,x10,x11,x12,x13,x14]):=by
 have ln:=line
 have l2:2<=sizeLine:=by omega
 have e1:=v9 (x:=.lst (sw cs)) (.inl rfl) G.sm G.len
 have e2:=v9 (x:=.tup (sw cs)) (.inr rfl) G.sm G.len
 have md:jI (.int (k:Int)) (.int 2)=some (.val (.int ((k:Int) % 2))):=Ls (by decide)
 have tp:lW [.lst (sw cs)]=some (.val (.tup (sw cs))):=rfl
 have kk:(k:Int) % 2=0\/(k:Int) % 2=1:=by omega
 generalize cs.length=m at *
 generalize sw (aH cs)=S at *
 generalize sw cs=T at *
 rcases kk with kk | kk
 · rw[kk] at md
   simp[s7,hid,l2,md,tp,oY,e1]
 · rw[kk] at md
   simp[s7,hid,l2,md,tp,oZ,e2]
theorem Oq{hd:List D}:s8 (gE ns k c s cs.length w (sw cs) (sw (aH cs)) hd [x8,x9,x10,x11,x12,x13,x14]) = .ok .nx (gE ns k c s cs.length w (sw cs) (sw (aH cs)) [] [x8,x9,x10,x11,x12,x13,x14]):=by
 have cl:sJ hd []=some ([],.ao):=rfl
 generalize cs.length=m at *
 generalize sw (aH cs)=S at *
 generalize sw cs=T at *
 simp[s8,cl]
theorem Ot(G:Gc cs):s9 (gE ns k c s cs.length w (sw cs) (sw (aH cs)) [] [some (.ak,pO (sw (aH cs))),x9,x10,x11,x12,x13,x14]) = .ok .nx (gE ns k c s cs.length w (sw cs) (sw (aH cs)) [] [some (.ak,pO (sw (aH cs))),x9,x10,x11,x12,x13,x14]):=by
 have ln:=line
 have e:=td (sw (aH cs))
 have ap:rF (sw (aH cs)) [.ao]=some (sw (aH cs)++[.ao],.ao):=if_pos (by rw[jP];have:=s_ cs;have:=G.len;omega)
 generalize cs.length=m at *
 generalize sw (aH cs)=S at *
 generalize sw cs=T at *
 simp[s9,r_,e,v_,ap]
theorem Ou(G:Gc cs):qt (gE ns k c s cs.length w (sw cs) (sw (aH cs)) [] [some (.ak,pO (sw (aH cs))),x9,x10,x11,x12,x13,x14]) = .ok .nx (gE ns k c s cs.length w (sw cs) (sw (aH cs)) [] [some (.ak,pO (sw (aH cs))),x9,x10,x11,x12,x13,x14]):=by
 have ln:=line
 have e:=td (sw (aH cs))
 have sl:=s_ cs
 have gl:=G.len
 obtain⟨z,hz⟩:=AK (ds:=sw (aH cs)) (by rw[jP];omega) (wc fun c hc=>G.sm c (eC.mp hc))
 have q:=lI (N3 (aH cs))
 have q2:=AS z
 generalize cs.length=m at *
 generalize sw (aH cs)=S at *
 generalize sw cs=T at *
 simp[qt,e,v_,q,hz,q2]
theorem Ov(G:Gc cs):we (gE ns k c s cs.length w (sw cs) (sw (aH cs)) [] [x8,x9,x10,x11,x12,x13,x14]) = .ok .nx (gE ns k c s cs.length w (sw cs) (sw (aH cs)) [] [x8,x9,x10,x11,x12,x13,x14]):=by
 have ln:=line
 have l2:2<=sizeLine:=by omega
 have l1:1<=sizeLine:=by omega
 have rp:mE (.lst [.tup [.int 0,.int 0]]) (.int 201)=_:=rep1 (d:=.tup [.int 0,.int 0]) (n:=201) (by decide)
 have gl:=G.len
 have ad:dY (.lst (sw cs)) (.lst (List.replicate 201 (.tup [.int 0,.int 0])))=some (.new (.lst (sw cs++List.replicate 201 (.tup [.int 0,.int 0])))):=za (by rw[jP,List.length_replicate];omega)
 have tl:=tj (x:=.lst (sw cs++List.replicate 201 (.tup [.int 0,.int 0]))) (NX (by rw[List.length_append,List.length_replicate];omega)) rfl (.inl rfl)
 have q:=lI (wd (n:=.ao) (.inl rfl))
 generalize sw cs++List.replicate 201 (.tup [.int 0,.int 0])=B at *
 generalize List.replicate 201 (D.tup [.int 0,.int 0])=A at *
 generalize cs.length=m at *
 generalize sw (aH cs)=S at *
 generalize sw cs=T at *
 simp[we,l1,l2,rp,ad,tl,q]
end
theorem Ox{T:List D}{j:Nat}(d:D)(hj:j<=T.length)(hl:T.length<=200):(T.take j++[d]++T.drop j).take 200=if j=200 then T else T.take j++d::(T.drop j).take (199 - j):=by
 have e:(T.take j).length=j:=by rw[List.length_take];omega
 split
 · rename_i h
   subst h
   rw[List.append_assoc,List.take_append_of_le_length (by omega),List.take_take,Nat.min_self,List.take_of_length_le hl]
 · rename_i h
   rw[List.append_assoc,List.take_append,e,List.take_of_length_le (by omega:(T.take j).length<=200),List.singleton_append,show 200 - j=(199 - j)+1 by omega,List.take_succ_cons]
section
variable{ns:List Int}{c s w:Int}{k:Int}{cs:List C}{kd:Kd}{x9 x10 x11 x12 x13 x14:Sl}
abbrev tE(ns:List Int)(k c s m w:Int)(T S:List D)(kd:Kd)(xs:En):En:=lE ns k c s (some (.ak,.int m)::some (.ak,.int w)::some (.own,.lst T)::some (kd,.lst S)::some (.own,.lst [])::some (.ak,pO S)::xs)
theorem Oy(G:Gc cs)(hs:Sd s):∃ (j:Nat) (c' s':Int),AM (tE ns k c s cs.length w (sw cs) (sw (aH cs)) kd [x9,x10,x11,x12,x13,x14]) = .ok .nx (tE ns k c' s' cs.length w (sw cs) (sw (aH cs)) kd [x9,some (.ak,.int j),x11,x12,x13,x14])/\Sd s'/\j<=cs.length:=by
 have gl:=G.len
 obtain⟨x,c1,s1',hx,hx1,hs1⟩:=qr (c:=c) (m:=cs.length+1) hs (by omega) (by omega)
 obtain⟨j,rfl⟩:∃ j:Nat,x=j:=⟨x.toNat,by omega⟩
 refine⟨j,c1,s1',?_,hs1,by omega⟩
 generalize (cs.length:Int)=m at *
 generalize sw (aH cs)=S at *
 generalize sw cs=T at *
 simp[AM,hx]
theorem Oz(G:Gc cs)(hs:Sd s){j:Nat}(hj:j<=cs.length):∃ (d:D) (c' s':Int),AN (tE ns k c s cs.length w (sw cs) (sw (aH cs)) kd [x9,some (.ak,.int j),x11,x12,x13,x14]) = .ok .nx (tE ns k c' s' cs.length w (sw cs) (sw (aH cs)) kd [x9,some (.ak,.int j),some (.own,.lst (if j=200 then sw cs else (sw cs).take j++d::((sw cs).drop j).take (199 - j))),x12,x13,x14])/\Sd s'/\d∈dQ:=by
 have ln:=line
 have gl:=G.len
 have l1:1<=sizeLine:=by omega
 obtain⟨d,c1,s1',hd,ho,hs1⟩:=Oe (c:=c) hs
 refine⟨d,c1,s1',?_,hs1,ho⟩
 have tl:((sw cs).take j).length=j:=by rw[List.length_take,jP];omega
 have dl:((sw cs).drop j).length<=200:=by rw[List.length_drop,jP];omega
 have a1:=za (xs:=(sw cs).take j) (ys:=[d]) (by simp only[tl,List.length_singleton];omega)
 have a2:=za (xs:=(sw cs).take j++[d]) (ys:=(sw cs).drop j) (by rw[List.length_append,tl,List.length_singleton];omega)
 have c1:=FC (sw cs) j
 have c2:=NO (sw cs) j
 have c3:=FC ((sw cs).take j++[d]++(sw cs).drop j) 200
 rw[Ox d (by rw[jP];omega) (by rw[jP];omega)] at c3
 generalize (if j=200 then sw cs else (sw cs).take j++d::((sw cs).drop j).take (199 - j))=B at *
 generalize (sw cs).take j++[d]++(sw cs).drop j=A2 at *
 generalize (sw cs).take j++[d]=A1 at *
 generalize (sw cs).take j=B1 at *
 generalize (sw cs).drop j=B2 at *
 generalize (cs.length:Int)=m at *
 generalize sw (aH cs)=S at *
 generalize sw cs=T at *
 have c3:i4 A2 none (some 200)=B:=c3
 simp[AN,hd,l1,c1,c2,c3,a1,a2]
theorem FZ{B:List D}{z:Str}(hz:iD [.lst B]=some (.val (.str z))):AO (tE ns k c s cs.length w (sw cs) (sw (aH cs)) kd [x9,x10,some (.own,.lst B),x12,x13,x14]) = .ok .nx (tE ns k c s cs.length w (sw cs) (sw (aH cs)) kd [x9,x10,some (.own,.lst B),some (.ak,.str z),x13,x14]):=by
 generalize (cs.length:Int)=m at *
 generalize sw (aH cs)=S at *
 generalize sw cs=T at *
 simp[AO,hz]
theorem OA(hk:kd = .own\/kd = .ak){j:Nat}:wg (tE ns k c s cs.length w (sw cs) (sw (aH cs)) kd [x9,some (.ak,.int j),x11,x12,x13,x14]) = .ok .nx (tE ns k c s cs.length w (sw cs) (sw (aH cs)) .ak [x9,some (.ak,.int j),x11,x12,some (.ak,if j=200 then .lst [.str "points",.lst (sw (aH cs))] else .lst [.str "refused",.int j]),x14]):=by
 have ln:=line
 have l2:2<=sizeLine:=by omega
 have e:=sV (j:Int) 200
 generalize (cs.length:Int)=m at *
 generalize sw (aH cs)=S at *
 generalize sw cs=T at *
 by_cases h:j=200
 · subst h
   rw[decide_eq_true (by rfl)] at e
   have e:fc (.int 200) (.int 200)=_:=e
   rw[if_pos rfl]
   rcases hk with rfl | rfl<;>simp[wg,l2,e,oZ]
 · rw[decide_eq_false (by omega)] at e
   rw[if_neg h]
   rcases hk with rfl | rfl<;>simp[wg,l2,e,oY]
theorem OB{B:List D}{j:Nat}{z:Str}(h1:dH [.lst B]=some (.new (.lst [.str "refused",.int j])))(h2:dH [.tup B]=some (.new (.lst [.str "refused",.int j])))(hz:iD [.lst B]=some (.val (.str z))):tq (tE ns k c s cs.length w (sw cs) (sw (aH cs)) kd [x9,x10,some (.own,.lst B),some (.ak,.str z),some (.ak,.lst [.str "refused",.int j]),x14]) = .ok .nx (tE ns k c s cs.length w (sw cs) (sw (aH cs)) kd [x9,x10,some (.own,.lst B),some (.ak,.str z),some (.ak,.lst [.str "refused",.int j]),x14]):=by
 have q:=lI (wd (n:=.int j) (.inr ⟨_,rfl⟩))
 have q2:=AS z
 have im:gq (.new (.lst [.str "refused",.int j]))=true:=rfl
 generalize (cs.length:Int)=m at *
 generalize sw (aH cs)=S at *
 generalize sw cs=T at *
 have tp:lW [.lst B]=some (.val (.tup B)):=rfl
 simp[tq,h1,h2,hz,q,q2,im,tp]
theorem OC{B S:List D}{z:Str}{m:Int}{T:List D}(ok:fb (.lst [.str "points",.lst S])=true)(h1:dH [.lst B]=some (.new (.lst [.str "points",.lst S])))(h2:dH [.tup B]=some (.new (.lst [.str "points",.lst S])))(hz:iD [.lst B]=some (.val (.str z))):tq (tE ns k c s m w T S kd [x9,x10,some (.own,.lst B),some (.ak,.str z),some (.ak,.lst [.str "points",.lst S]),x14]) = .ok .nx (tE ns k c s m w T S kd [x9,x10,some (.ak,.lst B),some (.ak,.str z),some (.ak,.lst [.str "points",.lst S]),x14]):=by
 have q:=lI ok
 have q2:=AS z
 have im:gq (.new (.lst [.str "points",.lst S]))=false:=rfl
 have tp:lW [.lst B]=some (.val (.tup B)):=rfl
 simp[tq,h1,h2,hz,q,q2,im,tp]
theorem OD(G:Gc cs)(hs:Sd s)(hk:kd = .own\/kd = .ak):∃ (c' s':Int) (y10 y11 y12 y13:Sl),AQ (tE ns k c s cs.length w (sw cs) (sw (aH cs)) kd [x9,x10,x11,x12,x13,x14]) = .ok .nx (tE ns k c' s' cs.length w (sw cs) (sw (aH cs)) .ak [x9,y10,y11,y12,y13,x14])/\Sd s':=by
 have gl:=G.len
 obtain⟨j,c1,s1',e1,hs1,hj⟩:=Oy (ns:=ns) (k:=k) (c:=c) (w:=w) (kd:=kd) (x9:=x9) (x10:=x10) (x11:=x11) (x12:=x12) (x13:=x13) (x14:=x14) G hs
 obtain⟨d,c2,s2',e2,hs2,hd⟩:=Oz (ns:=ns) (k:=k) (c:=c1) (w:=w) (kd:=kd) (x9:=x9) (x11:=x11) (x12:=x12) (x13:=x13) (x14:=x14) G hs1 hj
 have e4:=fun z=>OA (ns:=ns) (k:=k) (c:=c2) (s:=s2') (w:=w) (cs:=cs) (j:=j) (x9:=x9) (x11:=some (.own,.lst (if j=200 then sw cs else (sw cs).take j++d::((sw cs).drop j).take (199 - j)))) (x12:=some (.ak,.str z)) (x13:=x13) (x14:=x14) hk
 by_cases h:j=200
 · rw[if_pos h] at e2
   simp only[if_pos h] at e4
   obtain⟨z,hz⟩:=AK (ds:=sw cs) (by rw[jP];omega) (wc G.sm)
   exact⟨_,_,_,_,_,_,fG e1 (fG e2 (fG (FZ hz) (fG (e4 z) (OC (N9 _) (FV (.inl rfl) G.sm gl) (FV (.inr rfl) G.sm gl) hz)))),hs2⟩
 · rw[if_neg h] at e2
   simp only[if_neg h] at e4
   have tl:((sw cs).take j).length=j:=by rw[List.length_take,jP];omega
   have dl:(((sw cs).drop j).take (199 - j)).length<=199 - j:=List.length_take_le ..
   have hp:∀ d∈(sw cs).take j,d8 [d]=some (.val (.bl true)):=fun d hd=>FU G.sm d (List.mem_of_mem_take hd)
   have nd:=Ob d hd
   obtain⟨z,hz⟩:=AK (ds:=(sw cs).take j++d::((sw cs).drop j).take (199 - j)) (by rw[List.length_append,List.length_cons];omega) (fun x hx=>by
    rcases List.mem_append.1 hx with hx | hx
    · exact wc G.sm x (List.mem_of_mem_take hx)
    · rcases List.mem_cons.mp hx with rfl | hx
      · exact N_ _ hd
      · exact wc G.sm x (List.mem_of_mem_drop (List.mem_of_mem_take hx)))
   have t1:=tj (AH (x:=.lst ((sw cs).take j++d::((sw cs).drop j).take (199 - j))) (.inl rfl) (by omega) hp nd) rfl (.inr ⟨_,rfl⟩)
   have t2:=tj (AH (x:=.tup ((sw cs).take j++d::((sw cs).drop j).take (199 - j))) (.inr rfl) (by omega) hp nd) rfl (.inr ⟨_,rfl⟩)
   rw[tl] at t1 t2
   exact⟨_,_,_,_,_,_,fG e1 (fG e2 (fG (FZ hz) (fG (e4 z) (OB t1 t2 hz)))),hs2⟩
theorem OE(G:Gc cs)(hs:Sd s):∃ (c' s':Int) (kd:Kd) (y9 y10 y11 y12 y13:Sl),s12 (tE ns k c s cs.length w (sw cs) (sw (aH cs)) .own [x9,x10,x11,x12,x13,x14]) = .ok .nx (tE ns k c' s' cs.length w (sw cs) (sw (aH cs)) kd [y9,y10,y11,y12,y13,x14])/\Sd s':=by
 have sm:small 6=true:=zu (by decide)
 obtain⟨Γ',hl,c',s',kd,y9,y10,y11,y12,y13,hs',_,rfl⟩:=Eu (m:=gN 9) (s:=AQ)
  (fun _ Γ=>∃ (c' s':Int) (kd:Kd) (y9 y10 y11 y12 y13:Sl),Sd s'/\(kd = .own\/kd = .ak)/\Γ=tE ns k c' s' cs.length w (sw cs) (sw (aH cs)) kd [y9,y10,y11,y12,y13,x14])
  (ds:=hW 0 6) (Γ:=tE ns k c s cs.length w (sw cs) (sw (aH cs)) .own [x9,x10,x11,x12,x13,x14]) ⟨c,s,.own,x9,x10,x11,x12,x13,hs,.inl rfl,rfl⟩ (by
   rintro i d Γ hd ⟨c,s,kd,y9,y10,y11,y12,y13,hs,hk,rfl⟩
   obtain⟨rfl,_⟩:=FH hd
   rw[Int.zero_add]
   obtain⟨c',s',AU,AV,AW,AX,e,hs'⟩:=OD (ns:=ns) (k:=k) (c:=c) (w:=w) (x9:=some (.ak,.int i)) (x10:=y10) (x11:=y11) (x12:=y12) (x13:=y13) (x14:=x14) G hs hk
   exact⟨_,_,rfl,.inl e,c',s',.ak,some (.ak,.int i),AU,AV,AW,AX,hs',.inr rfl,rfl⟩)
 refine⟨c',s',kd,y9,y10,y11,y12,y13,?_,hs'⟩
 generalize (cs.length:Int)=m at *
 generalize sw (aH cs)=S at *
 generalize sw cs=T at *
 simp[s12,sm,hl]
theorem OF{d:D}(h:d = .str "" \/ d = .int 3\/d = .bl true\/d = .gp [] []){Γ:En}(tY:Γ[14]? = some (some (.ak,d))):tw Γ = .ok .nx Γ:=by
 have ln:=line
 have l2:2<=sizeLine:=by omega
 have t:=tj (NY h) (by rcases h with rfl | rfl | rfl | rfl<;>rfl) (.inl rfl)
 have q:=lI (wd (n:=.ao) (.inl rfl))
 have e:qp d (.tup [.int 0,.int 0])=some (.val (.bl false)):=by
  rcases h with rfl | rfl | rfl | rfl
  · show(if fb (.str "") && fb (.tup [.int 0,.int 0]) then some (RV.val (.bl (eqB (.str "") (.tup [.int 0,.int 0])))) else none)=_
    rw[show fb (.str "")=true by decide +kernel,show fb (.tup [.int 0,.int 0])=true by decide +kernel]
    rfl
  all_goals rfl
 simp[tw,AR,tY,t,l2,e,q,oY]
theorem OG{Γ:En}(tY:Γ[14]? = some (some (.ak,.tup [.int 0,.int 0]))):tw Γ = .ok .nx Γ:=by
 have ln:=line
 have l2:2<=sizeLine:=by omega
 have np:d8 [.int 0]=some (.val (.bl false)):=by simp[d8,sO,cP,bG,gam,et]
 have t:dH [.tup [.int 0,.int 0]]=some (.new (.lst [.str "refused",.int 0])):=tj (AH (ds:=[]) (r:=[.int 0]) (.inr rfl) (by decide) (fun d hd=>by cases hd) np) rfl (.inr ⟨_,rfl⟩)
 have q:=lI (wd (n:=.int 0) (.inr ⟨_,rfl⟩))
 have e:qp (.tup [.int 0,.int 0]) (.tup [.int 0,.int 0])=some (.val (.bl true)):=by
  show(if fb (.tup [.int 0,.int 0]) && fb (.tup [.int 0,.int 0]) then some (RV.val (.bl (eqB (.tup [.int 0,.int 0]) (.tup [.int 0,.int 0])))) else none)=_
  rw[show fb (.tup [.int 0,.int 0])=true by decide +kernel]
  rfl
 simp[tw,AR,tY,t,l2,e,q,oZ]
theorem OH{S T:List D}{m:Int}:kW (tE ns k c s m w T S kd [x9,x10,x11,x12,x13,x14]) = .ok .nx (tE ns k c s m w T S kd [x9,x10,x11,x12,x13,some (.ak,.tup [.int 0,.int 0])]):=by
 have ln:=line
 have l2:2<=sizeLine:=by omega
 have l5:5<=sizeLine:=by omega
 have g:=fun d h=>OF (d:=d) h (Γ:=tE ns k c s m w T S kd [x9,x10,x11,x12,x13,some (.ak,d)]) rfl
 have g1:=g (.str "") (.inl rfl)
 have g2:=g (.int 3) (.inr (.inl rfl))
 have g3:=g (.bl true) (.inr (.inr (.inl rfl)))
 have g4:=g (.gp [] []) (.inr (.inr (.inr rfl)))
 have g5:=OG (Γ:=tE ns k c s m w T S kd [x9,x10,x11,x12,x13,some (.ak,.tup [.int 0,.int 0])]) rfl
 simp[kW,l2,l5,vb,g1,g2,g3,g4,g5]
end
theorem sb(a b c:M Fl):aI a (aI b c)=aI (aI a b) c:=funext fun Γ=>by
 simp only[D9]
 cases a Γ with
 |ok fl Γ'=>cases fl<;>rfl
 |ex x Γ'=>rfl
 |st=>rfl
theorem OI{ns:List Int}{k:Nat}(hk:k<100){x2 x3 x4 x5 x6 x7 x8 x9 x10 x11 x12 x13 x14:Sl}:∃ y2 y3 y4 y5 y6 y7 y8 y9 y10 y11 y12 y13 y14,wj [some (.ak,.bM ns),some (.ak,.int k),x2,x3,x4,x5,x6,x7,x8,x9,x10,x11,x12,x13,x14] = .ok .nx [some (.ak,.bM ns),some (.ak,.int k),y2,y3,y4,y5,y6,y7,y8,y9,y10,y11,y12,y13,y14]:=by
 obtain⟨c,s,w,cs,e1,hs,G⟩:=Ol (ns:=ns) (k:=k) hk (x2:=x2) (x3:=x3) (x4:=x4) (x5:=x5) (x6:=x6) (x7:=x7) (x8:=x8) (x9:=x9) (x10:=x10) (x11:=x11) (x12:=x12) (x13:=x13) (x14:=x14)
 have e7:=Oo (ns:=ns) (k:=k) (c:=c) (s:=s) (w:=w) (x8:=x8) (x9:=x9) (x10:=x10) (x11:=x11) (x12:=x12) (x13:=x13) (x14:=x14) G
 have e8:=Oq (ns:=ns) (k:=k) (c:=c) (s:=s) (w:=w) (cs:=cs) (hd:=sw cs) (x8:=some (.ak,pO (sw (aH cs)))) (x9:=x9) (x10:=x10) (x11:=x11) (x12:=x12) (x13:=x13) (x14:=x14)
 have e9:=Ot (ns:=ns) (k:=k) (c:=c) (s:=s) (w:=w) (x9:=x9) (x10:=x10) (x11:=x11) (x12:=x12) (x13:=x13) (x14:=x14) G
 have e10:=Ou (ns:=ns) (k:=k) (c:=c) (s:=s) (w:=w) (x9:=x9) (x10:=x10) (x11:=x11) (x12:=x12) (x13:=x13) (x14:=x14) G
 have OJ:=Ov (ns:=ns) (k:=k) (c:=c) (s:=s) (w:=w) (x8:=some (.ak,pO (sw (aH cs)))) (x9:=x9) (x10:=x10) (x11:=x11) (x12:=x12) (x13:=x13) (x14:=x14) G
 obtain⟨c1,s1',kd,y9,y10,y11,y12,y13,OK,_⟩:=OE (ns:=ns) (k:=k) (c:=c) (w:=w) (x9:=x9) (x10:=x10) (x11:=x11) (x12:=x12) (x13:=x13) (x14:=x14) G hs
 have OL:=OH (ns:=ns) (k:=k) (c:=c1) (s:=s1') (w:=w) (kd:=kd) (S:=sw (aH cs)) (T:=sw cs) (m:=cs.length) (x9:=y9) (x10:=y10) (x11:=y11) (x12:=y12) (x13:=y13) (x14:=x14)
 have as:wj=aI (aI s1 (aI s2 (aI s3 (aI s4 (aI s5 s6))))) (aI s7 (aI s8 (aI s9 (aI qt (aI we (aI s12 kW)))))):=by
  show aI s1 (aI s2 (aI s3 (aI s4 (aI s5 (aI s6 _)))))=_
  rw[sb s5 s6,sb s4,sb s3,sb s2,sb s1]
 rw[as]
 exact⟨_,_,_,_,_,_,_,_,_,_,_,_,_,fG e1 (fG e7 (fG e8 (fG e9 (fG e10 (fG OJ (fG OK OL))))))⟩
end cx
namespace Hd
open PySem PySem.W PyProof.Rows
def tx(tb:String->Option Builtin)(p:Program)(w:World)(m:Nat)(an:Option Value):Nat->SharedT->Thread->Option SharedT
 | 0,_,_=>none
 |k+1,x,y=>match through y with
   |true=>some x
   |false=>match stepOk m an y with
     |false=>none
     |true=>match stepT (denote tb) p w x y with
       |some (x',y')=>tx tb p w m an k x' y'
       |none=>none
theorem F0{tb:String->Option Builtin}{p:Program}{w:World}{m:Nat}{an:Option Value}:∀ {k:Nat} {x r:SharedT} {y:Thread},tx tb p w m an k x y=some r->topRun tb p w m an k x.abs y=some r.abs
 | 0,_,_,_,h=>by cases h
 |k+1,x,r,y,h=>by
   unfold tx at h
   unfold topRun
   cases c1:through y with
   |true=>rw[c1] at h;cases h;rfl
   |false =>
     rw[c1] at h
     cases c2:stepOk m an y with
     |false=>rw[c2] at h;cases h
     |true =>
       rw[c2] at h
       cases c3:stepT (denote tb) p w x y with
       |none=>rw[c3] at h;cases h
       |some z=>obtain⟨x2,y2⟩:=z;rw[c3] at h;rw[stepT_spec c3];exact F0 h
def tD(tb:String->Option Builtin)(p:Program)(w:World)(m:Nat)(an:Option Value):Nat->SharedT->Thread->Option SharedT
 | 0,_,_=>none
 |k+1,x,y=>match through y with
   |true=>some x
   |false=>match Fast.tw6613529449190102663 m an y with
     |false=>none
     |true=>match Fast.tw10156331382660048174 (Fast.tw11892475500146522536 tb) p w x y with
       |some (x',y')=>tD tb p w m an k x' y'
       |none=>none
theorem F1{tb:String->Option Builtin}{p:Program}{w:World}{m:Nat}{an:Option Value}:∀ (k:Nat) (x:SharedT) (y:Thread),tx tb p w m an k x y=tD tb p w m an k x y
 | 0,_,_=>rfl
 |k+1,x,y=>by
   unfold tx tD
   rw[<- Fast.te6613529449190102663, <- Fast.te10156331382660048174, <- Fast.te11892475500146522536]
   split
   · rfl
   · split
     · rfl
     · split
       · exact F1 k _ _
       · rfl
def AY(P:Params)(os:OsState):SharedT :=
 ⟨(.node (boot_o_0 P) (.node (boot_o_1 P) (.node (boot_o_3 P) (.node (boot_o_7 P) .nil .nil) .nil) (.node (boot_o_5 P) (.node (boot_o_9 P) .nil .nil) .nil)) (.node (boot_o_2 P) (.node (boot_o_4 P) (.node (boot_o_8 P) .nil .nil) .nil) (.node (boot_o_6 P) (.node (boot_o_10 P) .nil .nil) .nil))),11,(boot_heap P).life,Array.mk [],boot_drawn,boot_toks,os⟩
theorem OM(P:Params)(os:OsState):(AY P os).abs=⟨boot_heap P,Array.mk [],boot_drawn,boot_toks,os⟩:=by kernel_rfl
theorem ON{p r:Program}{keep:List Nat}{R:WRecords}{K:Params->Frag}{as:List Addr}{N:Nat}(ep:p=r)(e0:opening p=plainProg p.main.scope.names)(hN:Nat.ble 600 N=true)(f:∀ s,fenceModules? p s=some s)
 (run:∀ (w:World) (os:OsState),(tD Fast.tw14364793385576792824 r w 11 (some (.ref 6)) N (AY w.params os) (topStub r)).map (fun s=>((staticsOk (importedModules r.main.body) (boot_heap w.params) s.abs.heap && namesBound r s.abs.heap && gensDone s.abs && laidKept (boot_heap w.params) s.abs.heap),
  Fast.tw4187177175401517315 (view r keep) [] (importedModules r.main.body) (fun s=>xlAt (view r keep) [] s && recOk R s) true s.abs,as.map s.abs.heap.get?))=some (true,openGood (view r keep) [],(K w.params).map fun x=>some x.2)) :
 LeftO p (view p keep) [] (fun s=>xlAt (view p keep) [] s && recOk R s) (fun s=>as.map s.heap.get?) (fun w=>(K w.params).map fun x=>some x.2) N:=by
 subst ep
 intro w
 obtain⟨⟨h,gs,d,k,os⟩,e,e'⟩:=Option.map_eq_some_iff.mp (boot_open e0 hN f w)
 obtain⟨rfl,rfl,rfl,rfl⟩:h=boot_heap w.params/\gs=Array.mk []/\d=boot_drawn/\k=boot_toks:=by simpa using e'
 obtain⟨s,h1,h2⟩:=Option.map_eq_some_iff.mp (run w os)
 rw[<- Fast.te14364793385576792824, <- F1] at h1
 have h1:=F0 h1
 rw[OM] at h1
 rw[<- Fast.te4187177175401517315] at h2
 obtain⟨l1,l2,l3⟩:_/\_/\_:=by simpa only [Prod.mk.injEq] using h2
 have z:((boot_heap w.params).isNs mainGlobals && (Array.mk []:Array GenState).size == 0,(boot_heap w.params).objs.size,(boot_heap w.params).nsMap mainGlobals "__annotations__")=(true,11,some (.ref 6)):=by kernel_rfl
 obtain⟨z1,z2,z3⟩:_/\_/\_:=by simpa only [Prod.mk.injEq] using z
 have t:topFrom treeTable p w N ⟨boot_heap w.params,Array.mk [],boot_drawn,boot_toks,os⟩=some s.abs:=by
  unfold topFrom
  dsimp only
  rw[z1,z2,z3,h1]
  show(match staticsOk (importedModules p.main.body) (boot_heap w.params) s.abs.heap && namesBound p s.abs.heap && gensDone s.abs && laidKept (boot_heap w.params) s.abs.heap with | true=>_ | false=>_)=_
  rw[l1]
 unfold openEnds
 rw[e]
 show((topFrom treeTable p w N _).map _)=_
 rw[t]
 exact congrArg some (Prod.ext l2 (by exact l3))
abbrev vS(s:Str)(t:Tok):Value:=.str s t
abbrev vI(i:Int)(t:Tok):Value:=.int i t
abbrev de(s:Str)(t:Tok)(v:Value):Str×Tok×Value:=(s,t,v)
abbrev dO(P:Params)(l:List (Str×Tok×Value))(n:Nat):Obj:={ cls:=.type "dict",data:=.dict (l.map fun x=>⟨PyData.keyHash P x.1,.str x.1 x.2.1,x.2.2⟩).toArray n }
abbrev dN(P:Params)(l:List (Str×Tok×Value))(n:Nat):Obj:={ cls:=.none,data:=.dict (l.map fun x=>⟨PyData.keyHash P x.1,.str x.1 x.2.1,x.2.2⟩).toArray n }
abbrev fO(x q:Str)(st:Stmt)(dV pm:Value)(cd:Addr):Obj:={ cls:=.type "function",data:=.func (fnOf x q (L2.aW st) (L2.ag st) (L2.aa st) dV .none .none pm none (.ref cd) .none) }
abbrev kO(x q:Str)(t:Tok)(a b:Int)(l:List Value):Obj:={ cls:=.type "code",data:=.fields (.str x t :: .str q (t+1) :: .str "/claim/cut.py" (t+2) :: .int a 0 :: .int b 0::l).toArray }
abbrev cO(x:Str)(bs mr:List Value)(ns:Addr)(sb:List Value)(sl:Array (Option Value)):Obj:={ cls:=.type "type",data:=.cls { name:=x,bases:=bs,mro:=mr,ns:=ns,qualname:=x,subclasses:=sb },slots:=sl }
end Hd
namespace cx
open PySem L2 Ex Dv
variable[KC]
def top(i:Nat):Stmt:=PySem.Challenge.pw_thirdpoint_k01_points_made.main.body.getD i (.Pass ⟨0,0,0,0⟩)
structure Nm(mg:Str->Option Value):Prop where
 ku:mg "bool" = none
 dI:mg "enumerate" = none
 kA:mg "int" = none
 af:mg "isinstance" = none
 i6:mg "len" = none
 iE:mg "list" = none
 tF:mg "max" = none
 tG:mg "min" = none
 f_:mg "range" = none
 gc:mg "repr" = none
 tH:mg "set" = none
 gH:mg "sorted" = none
 d9:mg "tuple" = none
 iF:∃ t,mg "LAST_KEY" = some (.int 30 t)
 fm:∃ t,mg "MOST_POINTS" = some (.int 200 t)
 kB:mg "NoAsks" = some (.ref (KC.cls .NoAsks))
 kC:mg "NoBack" = some (.ref (KC.cls .NoBack))
 mL:mg "NoBox" = some (.ref (KC.cls .NoBox))
 mM:mg "NoKey" = some (.ref (KC.cls .NoKey))
 kD:mg "NoName" = some (.ref (KC.cls .NoName))
 fH:mg "NoPoint" = some (.ref (KC.cls .NoPoint))
 cM:mg "NoPoints" = some (.ref (KC.cls .NoPoints))
 mN:mg "NoRow" = some (.ref (KC.cls .NoRow))
 mO:mg "NoRun" = some (.ref (KC.cls .NoRun))
 kE:mg "NoText" = some (.ref (KC.cls .NoText))
 mP:mg "NoTop" = some (.ref (KC.cls .NoTop))
 kF:mg "NoTree" = some (.ref (KC.cls .NoTree))
 kG:mg "NoTurn" = some (.ref (KC.cls .NoTurn))
 gI:mg "NotServed" = some (.ref (KC.cls .NotServed))
 cX:mg "PointError" = some (.ref (KC.cls .PointError))
 kH:mg "Points" = some (.ref (KC.cls .Points))
 fJ:mg "TooMany" = some (.ref (KC.cls .TooMany))
 eD:∀ (P:Program) (w:World) (base:Heap),EB P w mg base .NoPoints ["self","number"] (zw (KC.cls .NoPoints) "number")
 kI:KitX bT .NoAsks
 kJ:KitX bT .NoBack
 mQ:KitX bT .NoBox
 mR:KitX bT .NoKey
 kK:KitX bT .NoName
 jx:KitX bT .NoPoint
 iG:KitX bT .NoPoints
 mS:KitX bT .NoRow
 mT:KitX bT .NoRun
 kL:KitX bT .NoText
 mU:KitX bT .NoTop
 kM:KitX bT .NoTree
 kN:KitX bT .NoTurn
 gJ:KitX bT .NotServed
 gf:KitX bT .PointError
 jy:KitX bT .TooMany
 bo:∀ C,Aq C=true->aQ KC.K (KC.cls C) [.ref (KC.cls .PointError),.ref (KC.cls .NoPoint),.ref (KC.cls .TooMany)]=some true
 gK:∀ C,bT.contains C=true->XC KC.K (KC.cls C)/\aU KC.K (KC.cls C) "number"
 mV:Ag KC.K
 aX:g_ KC.K (KC.cls .Points)
 i7:aU KC.K (KC.cls .Points) "held"
abbrev o4:Stmt:=top 24
abbrev tI:Stmt:=top 21
abbrev tJ:Stmt:=top 22
abbrev tK:Stmt:=top 23
abbrev mW:Stmt:=(L2.inClass (top 25) 0)
abbrev qv:Stmt:=(L2.inClass (top 25) 1)
abbrev tL:Stmt:=top 29
abbrev tM:Stmt:=top 34
abbrev tN:Stmt:=top 30
abbrev tO:Stmt:=top 27
abbrev tP:Stmt:=top 28
abbrev o5:Stmt:=top 31
abbrev tQ:Stmt:=top 32
abbrev tR:Stmt:=top 33
abbrev mZ:Stmt:=top 35
def OO:Stmt->Expr
 | .Assign _ e _=>e
 | .Return (some e) _=>e
 | _=>.Constant .none 0 ⟨0,0,0,0⟩
abbrev F5:Stmt:=(ag mW).getD 0 (.Pass ⟨0,0,0,0⟩)
abbrev F6:Stmt:=(ag mW).getD 1 (.Pass ⟨0,0,0,0⟩)
abbrev F7:Expr:=OO ((ag mW).getD 2 (.Pass ⟨0,0,0,0⟩))
section
variable{P:Program}{w:World}{mg:Str->Option Value}{base:Heap}{fa:Addr}{cdv:Value}{A:Around}{outer:List Env}{s:Shared}{H:Hp}{E:XK}{k:Nat}{ios:List Addr}
abbrev iH(k:Nat)(A:Around)(s:Shared)(fa:Addr)(cdv:Value)(q:Str)(st:Stmt):Prop:=ax k (A.deeper (PyProof.Rows.envOfC q (aa st) s.heap.objs.size fa cdv))
abbrev jz(P:Program)(w:World)(mg:Str->Option Value)(base:Heap)(fa:Addr)(cdv:Value)(A:Around)(outer:List Env)(s:Shared)(H:Hp)(E:XK)(N:List Str)(q:Str)(st:Stmt):Cx:=(gn eP P w KC.K mg base N q (aa st) fa cdv A outer s H E).jU
abbrev wk(P:Program)(w:World)(mg:Str->Option Value)(base:Heap)(fa:Addr)(cdv:Value)(A:Around)(outer:List Env)(s:Shared)(H:Hp)(E:XK)(N:List Str)(q:Str)(st:Stmt):Cx:=gn (fQ P w) P w KC.K mg base N q (aa st) fa cdv A outer s H E
abbrev F8(P:Program)(w:World)(mg:Str->Option Value)(base:Heap)(bI:Nat)(cW:List D->Option Rx):Prop:=qm P w mg base "Points" bI ["points"] [.ao] .Points "held" cW
abbrev F9(P:Program)(w:World)(mg:Str->Option Value)(base:Heap)(aJ:Nat)(df:List D->Option Rt):Prop:=vK P w mg base .Points "points" aJ ["self"] (cT df)
abbrev OP(P:Program)(w:World)(mg:Str->Option Value)(base:Heap)(a_:Nat)(jO:List D->Option Rt):Prop:=dr P w mg base "_law_cell_at" a_ ["_law_script","_law_k"] (cT jO)
abbrev OQ(P:Program)(w:World)(mg:Str->Option Value)(base:Heap)(bB:Nat)(kr:List D->Option Rt):Prop:=dr P w mg base "_law_kind" bB ["_law_error"] (cT kr)
abbrev OR(P:Program)(w:World)(mg:Str->Option Value)(base:Heap)(bU:Nat)(jv:GI):Prop:=dr P w mg base "_law_odd" bU ["_law_pool_here"] (kj jv)
abbrev OS(P:Program)(w:World)(mg:Str->Option Value)(base:Heap)(br:Nat)(h_:GI):Prop:=dr P w mg base "_law_point" br ["_law_pool_here","_law_keys","_law_moments"] (kj h_)
abbrev OT(P:Program)(w:World)(mg:Str->Option Value)(base:Heap)(bC:Nat)(i5:List D->Option Rt):Prop:=dr P w mg base "_law_pool" bC ["_law_script","_law_k"] (cT i5)
abbrev OU(P:Program)(w:World)(mg:Str->Option Value)(base:Heap)(bg:Nat)(jw:List D->Option Rt):Prop:=dr P w mg base "_law_sorted" bg ["_law_spots"] (cT jw)
abbrev AZ(P:Program)(w:World)(mg:Str->Option Value)(base:Heap)(aN:Nat)(cV:GI):Prop:=dr P w mg base "_law_take" aN ["_law_pool_here","_law_many"] (kj cV)
abbrev OV(P:Program)(w:World)(mg:Str->Option Value)(base:Heap)(bD:Nat)(dH:List D->Option Rt):Prop:=dr P w mg base "_law_told" bD ["_law_thing"] (cT dH)
abbrev OW(P:Program)(w:World)(mg:Str->Option Value)(base:Heap)(bV:Nat)(gG:List D->Option Rt):Prop:=dr P w mg base "in_order" bV ["points"] (cT gG)
abbrev zhE(P:Program)(w:World)(mg:Str->Option Value)(base:Heap)(bJ:Nat)(dv:List D->Option Rt):Prop:=dr P w mg base "is_key" bJ ["thing"] (cT dv)
abbrev OX(P:Program)(w:World)(mg:Str->Option Value)(base:Heap)(bW:Nat)(d8:List D->Option Rt):Prop:=dr P w mg base "is_point" bW ["thing"] (cT d8)
abbrev OY(P:Program)(w:World)(mg:Str->Option Value)(base:Heap)(aY:Nat)(dG:List D->Option Rx):Prop:=vh P w mg base "look_at_points" aY ["thing"] (oK dG)
variable{cW:List D->Option Rx}{bI:Nat}{df:List D->Option Rt}{aJ:Nat}{jO:List D->Option Rt}{a_:Nat}{kr:List D->Option Rt}{bB:Nat}{jv:GI}{bU:Nat}{h_:GI}{br:Nat}{i5:List D->Option Rt}{bC:Nat}{jw:List D->Option Rt}{bg:Nat}{cV:GI}{aN:Nat}{dH:List D->Option Rt}{bD:Nat}{gG:List D->Option Rt}{bV:Nat}{dv:List D->Option Rt}{bJ:Nat}{d8:List D->Option Rt}{bW:Nat}{dG:List D->Option Rx}{aY:Nat}
theorem OZ:aq ["points"] ["points"] (aa o4):=⟨rfl,rfl,rfl,by decide +kernel,rfl,by decide +kernel,by decide +kernel⟩
theorem O0(M:Nm mg)  (hr:iH k A s fa cdv "in_order" o4) :
 cG (jz P w mg base fa cdv A outer s H E ["points"] "in_order" o4) EN ios (ag o4) (Ar ) :=
 (cE (eA (uW rfl (pY (Nc:=["moment","key"]) (own:=2) (fr:=[]) (sc:=aa o4) (N:=["points"]) rfl rfl (by decide +kernel)) (by decide) (rM (ME M.gH rfl hr rfl (pY (Nc:=["key","moment"]) (own:=2) (fr:=[]) (sc:=aa o4) (N:=["points"]) rfl rfl (by decide +kernel)) (by decide) (Nx (aw (pv 0))) (uy (nu (by decide) (nu (by decide) ux))) (fun _ _ _ _ _ _=>(qJ rfl (kY (ig (i:=0) (show(["key","moment"]:List Str).Nodup by decide +kernel) rfl (bH rfl)) (kY (ig (i:=1) (show(["key","moment"]:List Str).Nodup by decide +kernel) rfl (bH rfl)) qI)))) (rK (ly (iA (by decide)) (ly (iA (by decide)) rJ))) (uU (nH (lF (by decide)) (nH (lF (by decide)) uT))) (fun _ _ _ _ _ _=>pX) (fun _ _ _ _ _ _=>(eR (Zj (aw (pv 1)) (Zj (aw (pv 0)) aC)))))) (uy (nu (by decide) (nu (by decide) ux))) (fun _ _ _ _ _ _=>(qJ rfl (kY (ig (i:=0) (show(["moment","key"]:List Str).Nodup by decide +kernel) rfl (bH rfl)) (kY (ig (i:=1) (show(["moment","key"]:List Str).Nodup by decide +kernel) rfl (bH rfl)) qI)))) (rK (ly (iA (by decide)) (ly (iA (by decide)) rJ))) (uU (nH (lF (by decide)) (nH (lF (by decide)) uT))) (fun _ _ _ _ _ _=>pX) (fun _ _ _ _ _ _=>(eR (Zj (aw (pv 1)) (Zj (aw (pv 0)) aC)))))))
theorem O3:aq ["thing"] ["thing"] (aa tI):=⟨rfl,rfl,rfl,by decide +kernel,rfl,by decide +kernel,by decide +kernel⟩
theorem O4(M:Nm mg)  (hr:iH k A s fa cdv "is_key" tI) :
 cG (jz P w mg base fa cdv A outer s H E ["thing"] "is_key" tI) EN ios (ag tI) (qq ) :=
 (cE (eA (ot (uL (T:=.int) (fun _ ha=>cB fw rfl M.af (by decide +kernel) (bp ha (bp (pj (v:=.ty "int") (u:=.type "int") rfl M.kA (by decide +kernel) rfl) dD))) (aw (pv 0))) (ot (KJ (uL (T:=.bool) (fun _ ha=>cB fw rfl M.af (by decide +kernel) (bp ha (bp (pj (v:=.ty "bool") (u:=.type "bool") rfl M.ku (by decide +kernel) rfl) dD))) (aw (pv 0)))) (xZ (KD B8 B8 Dt Dt aG (aw (pv 0)) (DV M.iF rfl)))))))
theorem O5:aq ["thing"] ["thing"] (aa tJ):=⟨rfl,rfl,rfl,by decide +kernel,rfl,by decide +kernel,by decide +kernel⟩
theorem O6(M:Nm mg)(cY:zhE P w mg base bJ dv)(cZ:bJ<=k)(hr:iH k A s fa cdv "is_point" tJ) :
 cG (jz P w mg base fa cdv A outer s H E ["thing"] "is_point" tJ) EN ios (ag tJ) (sO dv) :=
 (cE (eA (ot (uL (T:=.tuple) (fun _ ha=>cB fw rfl M.af (by decide +kernel) (bp ha (bp (pj (v:=.ty "tuple") (u:=.type "tuple") rfl M.d9 (by decide +kernel) rfl) dD))) (aw (pv 0))) (ot (oq (pN hr) pP (hU (fun _ ha=>cB uJ rfl M.i6 PySem.boot_len ha) uK (Zj (aw (pv 0)) aC)) aG (dW _)) (ot (jq cY (hr.mono cZ) rfl (Zj (hV (aw (pv 0)) aG) aC)) (xZ (jq cY (hr.mono cZ) rfl (Zj (hV (aw (pv 0)) aG) aC))))))))
theorem ba:aq ["thing","number","point"] ["thing"] (aa tK):=⟨rfl,rfl,rfl,by decide +kernel,rfl,by decide +kernel,by decide +kernel⟩
theorem O7(M:Nm mg)(iI:OX P w mg base bW d8)(iJ:bW<=k)(hr:iH k A s fa cdv "look_at_points" tK)(hk2:2<=k) :
 cG (wk P w mg base fa cdv A outer s H E ["thing","number","point"] "look_at_points" tK) (fun _=>E) ios (ag tK) (Au d8) :=
 (bN (jk (rg (pL (Dq (xW (MU (fun _ ha=>cB MS rfl M.af (by decide +kernel) (bp ha (bp (Cj (bp (pj (v:=.ty "list") (u:=.type "list") rfl M.iE (by decide +kernel) rfl) (bp (pj (v:=.ty "tuple") (u:=.type "tuple") rfl M.d9 (by decide +kernel) rfl) dD))) dD))) (aw (pv 0))))) (rf (gw B9 Du (hU (fun _ ha=>cB uJ rfl M.i6 PySem.boot_len ha) uK (Zj (aw (pv 0)) aC)) (DV M.fm rfl) (dW _)))))
  (cE (EC xA (M.eD _ _ _) hr (by omega) M.cM (Zj jY aC)))
  jj)
  (cE (uP (n:=3) (NA (fun _ ha=>Kv rfl M.dI ha) (fun _ ha=>Nu rfl M.dI ha) (Zj (aw (pv 0)) aC)) (rK (ly (iA (by decide)) (ly (iA (by decide)) rJ)))
  (cE (jk (Dq (xW (jq iI (hr.mono iJ) rfl (Zj (aw (pv 2)) aC))))
  (cE (EC xA (M.eD _ _ _) hr (by omega) M.cM (Zj (aw (pv 1)) aC)))
  jj)) (fun _ _ h1 h2=>ud PassesOwn.leaving rfl h1 (qJ rfl (kY (ig (i:=1) ba.nd rfl (bH rfl)) (kY (ig (i:=2) ba.nd rfl (bH rfl)) qI))) h2))))
theorem fK:aq ["self","points"] ["self","points"] (aa mW):=⟨rfl,rfl,rfl,by decide +kernel,rfl,by decide +kernel,by decide +kernel⟩
theorem O8(M:Nm mg)(iK:OW P w mg base bV gG)(iL:bV<=k)(dw:OY P w mg base aY dG)(dz:aY<=k)(hr:iH k A s fa cdv "Points.__init__" mW)(hk2:2<=k) :
 VJ 0 (wk P w mg base fa cdv A outer s H E ["self","points"] "Points.__init__" mW) (fun _=>E) ios F5 (sP gG dG)/\VJ 0 (wk P w mg base fa cdv A outer s H E ["self","points"] "Points.__init__" mW) (fun _=>E) ios F6 (sQ gG dG)/\VE (wk P w mg base fa cdv A outer s H E ["self","points"] "Points.__init__" mW) (fun _=>E) ios F7 (sR gG dG) :=
 ⟨(MN (gw B_ Dy (aw (pv 1)) jY (dW _)) (MK (MO (i:=1) (by decide) fK.nd rfl (bH rfl) (cD aC))) MJ),
   (MM (LH xA dw (hr.mono dz) rfl (Zj (aw (pv 1)) aC))),
   (jq iK (hr.mono iL) rfl (Zj (aw (pv 1)) aC))⟩
theorem O9:aq ["self"] ["self"] (aa qv):=⟨rfl,rfl,rfl,by decide +kernel,rfl,by decide +kernel,by decide +kernel⟩
theorem O_(M:Nm mg)  (hr:iH k A s fa cdv "Points.points" qv) :
 cG (jz P w mg base fa cdv A outer s H E ["self"] "Points.points" qv) EN ios (ag qv) (Av ) :=
 (cE (eA (hU (fun _ ha=>nV CD rfl M.iE (by decide +kernel) ha) DD (Zj (M8 M.aX M.i7 (aw (pv 0))) aC))))
theorem c7:aq ["_law_pool_here","_law_many","_law_found"] ["_law_pool_here","_law_many"] (aa tL):=⟨rfl,rfl,rfl,by decide +kernel,rfl,by decide +kernel,by decide +kernel⟩
theorem Pa(M:Nm mg)  (hr:iH k A s fa cdv "_law_take" tL) :
 cG (jz P w mg base fa cdv A outer s H E ["_law_pool_here","_law_many","_law_found"] "_law_take" tL) EN ios (ag tL) (vW ) :=
 (bN (jk (gw B9 Du (hV (aw (pv 0)) aG) aG (dW _))
  (bN (dP (i:=2) c7.nd rfl (bH rfl) (b9 nj nA (hV (aw (pv 0)) aG) (aw (pv 1))))
  (bN (DI (n:=0) (b9 BW Dw (hV (aw (pv 0)) aG) (aw (pv 1))) (DJ (EE:=EN) DU) (fun _ h=>BP h (BO (pv 0) (VE.pe (EE:=EN) aG) set_list)))
  (cE (eA (aw (pv 2))))))
  jj)
  (bN (DI (n:=0) (b9 nj nA (b9 iY iZ (b9 nS oy (hV (aw (pv 0)) aG) aG) aG) aG) (DJ (EE:=EN) DU) (fun _ h=>BP h (BO (pv 0) (VE.pe (EE:=EN) aG) set_list)))
  (cE (eA (b9 nj nA (b9 BW Dw (b9 nj nA (b9 nS oy (hV (aw (pv 0)) aG) (hV (aw (pv 0)) aG)) aG) aG) (aw (pv 1)))))))
theorem dJ:aq ["_law_pool_here","_law_some"] ["_law_pool_here"] (aa tM):=⟨rfl,rfl,rfl,by decide +kernel,rfl,by decide +kernel,by decide +kernel⟩
theorem Pb(M:Nm mg)(aO:AZ P w mg base aN cV)(aP:aN<=k)(hr:iH k A s fa cdv "_law_odd" tM) :
 cG (jz P w mg base fa cdv A outer s H E ["_law_pool_here","_law_some"] "_law_odd" tM) EN ios (ag tM) (Aw cV) :=
 (bN (dP (i:=1) dJ.nd rfl (bH rfl) (cD (Zj jY (Zj (eR (Zj aG aC)) (Zj (eR (Zj aG (Zj aG (Zj aG aC)))) (Zj (cD (Zj aG (Zj aG aC))) (Zj (eR (Zj aG (Zj aG aC))) (Zj (eR (Zj aG (Zj aG aC))) (Zj (eR (Zj (yj aG) (Zj aG aC))) (Zj (eR (Zj aG (Zj (yj aG) aC))) (Zj (eR (Zj iz (Zj aG aC))) (Zj (eR (Zj aG (Zj iz aC))) (Zj (eR (Zj c_ (Zj aG aC))) (Zj aG (Zj (eR aC) (Zj (eR (Zj (b9 xa ye aG aG) (Zj aG aC))) aC))))))))))))))))
  (cE (eA (hV (aw (pv 1)) (nI aO (hr.mono aP) rfl (Zj (aw (pv 0)) (Zj aG aC)))))))
theorem Pc:aq ["_law_pool_here","_law_keys","_law_moments"] ["_law_pool_here","_law_keys","_law_moments"] (aa tN):=⟨rfl,rfl,rfl,by decide +kernel,rfl,by decide +kernel,by decide +kernel⟩
theorem Pd(M:Nm mg)(aO:AZ P w mg base aN cV)(aP:aN<=k)(hr:iH k A s fa cdv "_law_point" tN) :
 cG (jz P w mg base fa cdv A outer s H E ["_law_pool_here","_law_keys","_law_moments"] "_law_point" tN) EN ios (ag tN) (Ax cV) :=
 (cE (eA (eR (Zj (nI aO (hr.mono aP) rfl (Zj (aw (pv 0)) (Zj (aw (pv 1)) aC))) (Zj (nI aO (hr.mono aP) rfl (Zj (aw (pv 0)) (Zj (aw (pv 2)) aC))) aC)))))
theorem Pe:aq ["_law_script","_law_k"] ["_law_script","_law_k"] (aa tO):=⟨rfl,rfl,rfl,by decide +kernel,rfl,by decide +kernel,by decide +kernel⟩
theorem Pf(M:Nm mg)  (hr:iH k A s fa cdv "_law_cell_at" tO) :
 cG (jz P w mg base fa cdv A outer s H E ["_law_script","_law_k"] "_law_cell_at" tO) EN ios (ag tO) (vX ) :=
 (bN (jk (gw xb yd (aw (pv 1)) (hU (fun _ ha=>cB uJ rfl M.i6 PySem.boot_len ha) uK (Zj (aw (pv 0)) aC)) (dW _))
  (cE (eA (hV (aw (pv 0)) (aw (pv 1)))))
  jj)
  (cE (eA aG)))
theorem bt:aq ["_law_script","_law_k","_law_cell","_law_seed"] ["_law_script","_law_k"] (aa tP):=⟨rfl,rfl,rfl,by decide +kernel,rfl,by decide +kernel,by decide +kernel⟩
theorem Pg(M:Nm mg)(eE:OP P w mg base a_ jO)(eF:a_<=k)(hr:iH k A s fa cdv "_law_pool" tP) :
 cG (jz P w mg base fa cdv A outer s H E ["_law_script","_law_k","_law_cell","_law_seed"] "_law_pool" tP) EN ios (ag tP) (vY jO) :=
 (bN (dP (i:=2) bt.nd rfl (bH rfl) (jq eE (hr.mono eF) rfl (Zj (aw (pv 0)) (Zj (aw (pv 1)) aC))))
  (bN (dP (i:=3) bt.nd rfl (bH rfl) (b9 nj nA (b9 nS oy (b9 iY iZ (b9 iY iZ (b9 iY iZ (b9 nj nA (aw (pv 2)) aG) (b9 nS oy (b9 nS oy aG (aw (pv 1))) (aw (pv 1)))) (b9 nS oy aG (aw (pv 1)))) aG) aG) aG))
  (bN (jk (gw xb yd (aw (pv 2)) (b9 xa ye aG aG) (dW _))
  (cE (dP (i:=2) bt.nd rfl (bH rfl) aG))
  jj)
  (cE (eA (cD (Zj (aw (pv 2)) (Zj (b9 nj nA (b9 nS oy (aw (pv 3)) (aw (pv 3))) aG) aC))))))))
theorem Ph:aq ["_law_spots"] ["_law_spots"] (aa o5):=⟨rfl,rfl,rfl,by decide +kernel,rfl,by decide +kernel,by decide +kernel⟩
theorem Pj(M:Nm mg)  (hr:iH k A s fa cdv "_law_sorted" o5) :
 cG (jz P w mg base fa cdv A outer s H E ["_law_spots"] "_law_sorted" o5) EN ios (ag o5) (Ay ) :=
 (cE (eA (uW rfl (pY (Nc:=["_law_moment","_law_key"]) (own:=2) (fr:=[]) (sc:=aa o5) (N:=["_law_spots"]) rfl rfl (by decide +kernel)) (by decide) (rM (Ni hr M.gH rfl M.tH rfl rfl (Zj (uW rfl (pY (Nc:=["_law_key","_law_moment"]) (own:=2) (fr:=[]) (sc:=aa o5) (N:=["_law_spots"]) rfl rfl (by decide +kernel)) (by decide) (rM (aw (pv 0))) (uy (nu (by decide) (nu (by decide) ux))) (fun _ _ _ _ _ _=>(qJ rfl (kY (ig (i:=0) (show(["_law_key","_law_moment"]:List Str).Nodup by decide +kernel) rfl (bH rfl)) (kY (ig (i:=1) (show(["_law_key","_law_moment"]:List Str).Nodup by decide +kernel) rfl (bH rfl)) qI)))) (rK (ly (iA (by decide)) (ly (iA (by decide)) rJ))) (uU (nH (lF (by decide)) (nH (lF (by decide)) uT))) (fun _ _ _ _ _ _=>pX) (fun _ _ _ _ _ _=>(eR (Zj (aw (pv 1)) (Zj (aw (pv 0)) aC))))) aC))) (uy (nu (by decide) (nu (by decide) ux))) (fun _ _ _ _ _ _=>(qJ rfl (kY (ig (i:=0) (show(["_law_moment","_law_key"]:List Str).Nodup by decide +kernel) rfl (bH rfl)) (kY (ig (i:=1) (show(["_law_moment","_law_key"]:List Str).Nodup by decide +kernel) rfl (bH rfl)) qI)))) (rK (ly (iA (by decide)) (ly (iA (by decide)) rJ))) (uU (nH (lF (by decide)) (nH (lF (by decide)) uT))) (fun _ _ _ _ _ _=>pX) (fun _ _ _ _ _ _=>(eR (Zj (aw (pv 1)) (Zj (aw (pv 0)) aC)))))))
theorem aR:aq ["_law_error","_law_kinds","_law_words"] ["_law_error"] (aa tQ):=⟨rfl,rfl,rfl,by decide +kernel,rfl,by decide +kernel,by decide +kernel⟩
theorem Pl(M:Nm mg)  (hr:iH k A s fa cdv "_law_kind" tQ) :
 cG (jz P w mg base fa cdv A outer s H E ["_law_error","_law_kinds","_law_words"] "_law_kind" tQ) EN ios (ag tQ) (Az ) :=
 (bN (dP (i:=1) aR.nd rfl (bH rfl) (cD (Zj (hZ M.iG (fun _ ha=>cB fw rfl M.af (by decide +kernel) (bp ha (bp (gj (v:=.ref (KC.cls .NoPoints)) rfl M.cM rfl) dD))) (aw (pv 0))) (Zj (hZ M.mQ (fun _ ha=>cB fw rfl M.af (by decide +kernel) (bp ha (bp (gj (v:=.ref (KC.cls .NoBox)) rfl M.mL rfl) dD))) (aw (pv 0))) (Zj (hZ M.kI (fun _ ha=>cB fw rfl M.af (by decide +kernel) (bp ha (bp (gj (v:=.ref (KC.cls .NoAsks)) rfl M.kB rfl) dD))) (aw (pv 0))) (Zj (hZ M.mT (fun _ ha=>cB fw rfl M.af (by decide +kernel) (bp ha (bp (gj (v:=.ref (KC.cls .NoRun)) rfl M.mO rfl) dD))) (aw (pv 0))) aC))))))
  (bN (dP (i:=1) aR.nd rfl (bH rfl) (b9 iY iZ (aw (pv 1)) (cD (Zj (hZ M.kL (fun _ ha=>cB fw rfl M.af (by decide +kernel) (bp ha (bp (gj (v:=.ref (KC.cls .NoText)) rfl M.kE rfl) dD))) (aw (pv 0))) (Zj (hZ M.kN (fun _ ha=>cB fw rfl M.af (by decide +kernel) (bp ha (bp (gj (v:=.ref (KC.cls .NoTurn)) rfl M.kG rfl) dD))) (aw (pv 0))) (Zj (hZ M.kM (fun _ ha=>cB fw rfl M.af (by decide +kernel) (bp ha (bp (gj (v:=.ref (KC.cls .NoTree)) rfl M.kF rfl) dD))) (aw (pv 0))) aC))))))
  (bN (dP (i:=1) aR.nd rfl (bH rfl) (b9 iY iZ (aw (pv 1)) (cD (Zj (hZ M.mU (fun _ ha=>cB fw rfl M.af (by decide +kernel) (bp ha (bp (gj (v:=.ref (KC.cls .NoTop)) rfl M.mP rfl) dD))) (aw (pv 0))) (Zj (hZ M.gJ (fun _ ha=>cB fw rfl M.af (by decide +kernel) (bp ha (bp (gj (v:=.ref (KC.cls .NotServed)) rfl M.gI rfl) dD))) (aw (pv 0))) (Zj (hZ M.mS (fun _ ha=>cB fw rfl M.af (by decide +kernel) (bp ha (bp (gj (v:=.ref (KC.cls .NoRow)) rfl M.mN rfl) dD))) (aw (pv 0))) aC))))))
  (bN (dP (i:=1) aR.nd rfl (bH rfl) (b9 iY iZ (aw (pv 1)) (cD (Zj (hZ M.jx (fun _ ha=>cB fw rfl M.af (by decide +kernel) (bp ha (bp (gj (v:=.ref (KC.cls .NoPoint)) rfl M.fH rfl) dD))) (aw (pv 0))) (Zj (hZ M.kK (fun _ ha=>cB fw rfl M.af (by decide +kernel) (bp ha (bp (gj (v:=.ref (KC.cls .NoName)) rfl M.kD rfl) dD))) (aw (pv 0))) (Zj (hZ M.mR (fun _ ha=>cB fw rfl M.af (by decide +kernel) (bp ha (bp (gj (v:=.ref (KC.cls .NoKey)) rfl M.mM rfl) dD))) (aw (pv 0))) aC))))))
  (bN (dP (i:=1) aR.nd rfl (bH rfl) (b9 iY iZ (aw (pv 1)) (cD (Zj (hZ M.kJ (fun _ ha=>cB fw rfl M.af (by decide +kernel) (bp ha (bp (gj (v:=.ref (KC.cls .NoBack)) rfl M.kC rfl) dD))) (aw (pv 0))) (Zj (hZ M.jy (fun _ ha=>cB fw rfl M.af (by decide +kernel) (bp ha (bp (gj (v:=.ref (KC.cls .TooMany)) rfl M.fJ rfl) dD))) (aw (pv 0))) aC)))))
  (bN (jk (rg (pL (gw (j4 hr) j6 (zy (fun _ ha=>ui PySem.F.plainAttrs_list PySem.F.slot_list_count PySem.F.type_list_count Kp (pv 1) ha) LQ (Zj iz aC)) aG (dW _)) (rf (gw (j4 hr) j6 (hZ M.gf (fun _ ha=>cB fw rfl M.af (by decide +kernel) (bp ha (bp (gj (v:=.ref (KC.cls .PointError)) rfl M.cX rfl) dD))) (aw (pv 0))) (oq xb yd (zy (fun _ ha=>ui PySem.F.plainAttrs_list PySem.F.slot_list_index PySem.F.type_list_index Dk (pv 1) ha) EH (Zj iz aC)) aG (dW _)) (dW _)))))
  (cE (eA c_))
  jj)
  (bN (dP (i:=2) aR.nd rfl (bH rfl) (cD (Zj c_ (Zj c_ (Zj c_ (Zj c_ (Zj c_ (Zj c_ (Zj c_ (Zj c_ (Zj c_ (Zj c_ (Zj c_ (Zj c_ (Zj c_ aC)))))))))))))))
  (cE (eA (hV (b9 iY iZ (aw (pv 2)) (cD (Zj c_ (Zj c_ aC)))) (zy (fun _ ha=>ui PySem.F.plainAttrs_list PySem.F.slot_list_index PySem.F.type_list_index Dk (pv 1) ha) EH (Zj iz aC))))))))))))
theorem aZ:aq ["_law_thing","_law_caught","_law_found","e"] ["_law_thing"] (aa tR):=⟨rfl,rfl,rfl,by decide +kernel,rfl,by decide +kernel,by decide +kernel⟩
theorem Pm(M:Nm mg)(bK:F8 P w mg base bI cW)(bL:bI+1<=k)(az:F9 P w mg base aJ df)(aA:aJ<=k)(gL:OQ P w mg base bB kr)(gM:bB<=k)(hr:iH k A s fa cdv "_law_told" tR) :
 cG (jz P w mg base fa cdv A outer s H E ["_law_thing","_law_caught","_law_found","e"] "_law_told" tR) EN ios (ag tR) (vZ cW df kr) :=
 (bN (dP (i:=1) aZ.nd rfl (bH rfl) jY)
  (bN (dP (i:=2) aZ.nd rfl (bH rfl) jY)
  (bN (LO (i:=3) aZ.nd rfl rfl (xF rfl M.cX (xF rfl M.fH (xF rfl M.fJ Ke))) (by simp) M.bo (fun E0 pn0 P2 ok =>
  (cE (dP (i:=2) aZ.nd rfl (bH rfl) (VY.ve (Ab ok bK (hr.mono bL) rfl (Zj (aw (pv 0)) aC)))))) (fun a0 =>
  (cE (dP (i:=1) aZ.nd rfl (bH rfl) (aw (pv 3))))))
  (bN (jk (gw B_ Dy (aw (pv 1)) jY (dW _))
  (cE (eA (cD (Zj c_ (Zj (oX M.aX az (hr.mono aA) (aw (pv 2))) aC)))))
  jj)
  (bN (jk (rg (pL (gw (j4 hr) j6 (jq gL (hr.mono gM) rfl (Zj (aw (pv 1)) aC)) c_ (dW _)) (rf (xW (uL (T:=.bool) (fun _ ha=>cB fw rfl M.af (by decide +kernel) (bp ha (bp (pj (v:=.ty "bool") (u:=.type "bool") rfl M.ku (by decide +kernel) rfl) dD))) (EJ M.gK (aw (pv 1)) rfl))))))
  (cE (eA (cD (Zj c_ aC))))
  jj)
  (cE (eA (cD (Zj c_ (Zj (EJ M.gK (aw (pv 1)) rfl) aC))))))))))
theorem a6:aq ["_law_script","_law_k","_law_pool_here","_law_size","_law_wide","_law_spots","_law_due","_law_handed","_law_made","_law_turn","_law_at","_law_bent","_law_word","_law_wanted","_law_thing"] ["_law_script"] (aa mZ):=⟨rfl,rfl,rfl,by decide +kernel,rfl,by decide +kernel,by decide +kernel⟩
theorem F_(M:Nm mg)(bK:F8 P w mg base bI cW)(bL:bI+1<=k)(az:F9 P w mg base aJ df)(aA:aJ<=k)(iM:OR P w mg base bU jv)(iN:bU<=k)(gg:OS P w mg base br h_)(gh:br<=k)(gO:OT P w mg base bC i5)(gP:bC<=k)(fq:OU P w mg base bg jw)(ft:bg<=k)(aO:AZ P w mg base aN cV)(aP:aN<=k)(bE:OV P w mg base bD dH)(bF:bD<=k)(cY:zhE P w mg base bJ dv)(cZ:bJ<=k)(hr:iH k A s fa cdv "law" mZ) :
 cG (jz P w mg base fa cdv A outer s H E ["_law_script","_law_k","_law_pool_here","_law_size","_law_wide","_law_spots","_law_due","_law_handed","_law_made","_law_turn","_law_at","_law_bent","_law_word","_law_wanted","_law_thing"] "law" mZ) EN ios (ag mZ) (AA cW df jv h_ i5 jw cV dH dv) :=
 (bN (uP (n:=15) (yl (fun _ ha=>wY rfl M.f_ ha) (Zj (hU (fun _ ha=>cB (Iz rfl) rfl M.tF (by decide +kernel) ha) KP (Zj aG (Zj (hU (fun _ ha=>cB (IA rfl) rfl M.tG (by decide +kernel) ha) KQ (Zj aG (Zj (hU (fun _ ha=>cB uJ rfl M.i6 PySem.boot_len ha) uK (Zj (aw (pv 0)) aC)) aC))) aC))) aC)) (iA (by decide))
  (bN (dP (i:=2) a6.nd rfl (bH rfl) (jq gO (hr.mono gP) rfl (Zj (aw (pv 0)) (Zj (aw (pv 1)) aC))))
  (bN (dP (i:=3) a6.nd rfl (bH rfl) (hV (cD (Zj aG (Zj aG (Zj aG (Zj aG (Zj aG (Zj aG (Zj aG (Zj aG aC))))))))) (nI aO (hr.mono aP) rfl (Zj (aw (pv 2)) (Zj aG aC)))))
  (bN (dP (i:=4) a6.nd rfl (bH rfl) (hV (cD (Zj aG (Zj aG aC))) (nI aO (hr.mono aP) rfl (Zj (aw (pv 2)) (Zj aG aC)))))
  (bN (Lc (i:=5) a6.nd rfl (bH rfl) rfl (pY (Nc:=["_law_turn","_law_pool_here","_law_wide"]) (own:=1) (fr:=[2,4]) (sc:=aa mZ) (N:=["_law_script","_law_k","_law_pool_here","_law_size","_law_wide","_law_spots","_law_due","_law_handed","_law_made","_law_turn","_law_at","_law_bent","_law_word","_law_wanted","_law_thing"]) rfl rfl (by decide +kernel)) (by decide) (yl (fun _ ha=>wY rfl M.f_ ha) (Zj (aw (pv 3)) aC)) (Dc (by decide)) (fun _ _ _ _ _ _=>(ig (i:=0) (show(["_law_turn","_law_pool_here","_law_wide"]:List Str).Nodup by decide +kernel) rfl (bH rfl))) (iA (by decide)) (lF (by decide)) (fun _ _ _ _ _ _=>pX) (fun _ _ _ _ _ _=>(nI gg (hr.mono gh) rfl (Zj (aw (pv 1)) (Zj (aw (pv 2)) (Zj (aw (pv 2)) aC))))))
  (bN (dP (i:=6) a6.nd rfl (bH rfl) (jq fq (hr.mono ft) rfl (Zj (aw (pv 5)) aC)))
  (bN (dP (i:=7) a6.nd rfl (bH rfl) (hU (fun _ ha=>nV CD rfl M.iE (by decide +kernel) ha) DD (Zj (aw (pv 5)) aC)))
  (bN (dP (i:=8) a6.nd rfl (bH rfl) (NB (Ab vg bK (hr.mono bL) rfl (Zj (hV (cD (Zj (aw (pv 7)) (Zj (hU (fun _ ha=>nV CF rfl M.d9 (by decide +kernel) ha) DE (Zj (aw (pv 7)) aC)) aC))) (b9 nj nA (aw (pv 1)) aG)) aC))))
  (bN (DG (K0 (Jn PySem.F.plainAttrs_list PySem.F.slot_list_clear PySem.F.type_list_clear Jp (pv 7)) Nj))
  (bN (DG (LV (fun _ _ ho ha=>ui PySem.F.plainAttrs_list PySem.F.slot_list_append PySem.F.type_list_append CK ho ha) K1 (oX M.aX az (hr.mono aA) (aw (pv 8))) (Zj jY aC)))
  (bN (jk (rg (pL (gw (j4 hr) j6 (oX M.aX az (hr.mono aA) (aw (pv 8))) (aw (pv 6)) (dW _)) (rf (gw (j4 hr) j6 (hU (fun _ ha=>cB (vO hr M.mV) rfl M.gc (by decide +kernel) ha) vP (Zj (oX M.aX az (hr.mono aA) (aw (pv 8))) aC)) (hU (fun _ ha=>cB (vO hr M.mV) rfl M.gc (by decide +kernel) ha) vP (Zj (aw (pv 6)) aC)) (dW _)))))
  (cE (eA iz))
  jj)
  (bN (jk (gw (j4 hr) j6 (jq bE (hr.mono bF) rfl (Zj (b9 iY iZ (aw (pv 5)) (b9 CO Ew (cD (Zj (eR (Zj aG (Zj aG aC))) aC)) aG)) aC)) (cD (Zj c_ (Zj jY aC))) (dW _))
  (cE (eA iz))
  jj)
  (bN (uP (n:=15) (yl (fun _ ha=>wY rfl M.f_ ha) (Zj aG aC)) (iA (by decide))
  (bN (dP (i:=10) a6.nd rfl (bH rfl) (nI aO (hr.mono aP) rfl (Zj (aw (pv 2)) (Zj (b9 iY iZ (aw (pv 3)) aG) aC))))
  (bN (dP (i:=11) a6.nd rfl (bH rfl) (yi (b9 iY iZ (b9 iY iZ (yi (aw (pv 5)) yg (yh (aw (pv 10)))) (cD (Zj (nI iM (hr.mono iN) rfl (Zj (aw (pv 2)) aC)) aC))) (yi (aw (pv 5)) (yh (aw (pv 10))) yg)) yg (yh aG)))
  (bN (dP (i:=12) a6.nd rfl (bH rfl) (hU (fun _ ha=>cB (vO hr M.mV) rfl M.gc (by decide +kernel) ha) vP (Zj (aw (pv 11)) aC)))
  (bN (dP (i:=13) a6.nd rfl (bH rfl) (hV (cD (Zj (cD (Zj c_ (Zj (aw (pv 10)) aC))) (Zj (cD (Zj c_ (Zj (aw (pv 6)) aC))) aC))) (hU (fun _ ha=>nV Cc rfl M.kA (by decide +kernel) ha) DC (Zj (oq (pN hr) pP (aw (pv 10)) aG (dW _)) aC))))
  (cE (jk (rg (pL (gw (j4 hr) j6 (jq bE (hr.mono bF) rfl (Zj (aw (pv 11)) aC)) (aw (pv 13)) (dW _)) (pL (gw (j4 hr) j6 (jq bE (hr.mono bF) rfl (Zj (hU (fun _ ha=>nV CF rfl M.d9 (by decide +kernel) ha) DE (Zj (aw (pv 11)) aC)) aC)) (aw (pv 13)) (dW _)) (rf (gw (j4 hr) j6 (hU (fun _ ha=>cB (vO hr M.mV) rfl M.gc (by decide +kernel) ha) vP (Zj (aw (pv 11)) aC)) (aw (pv 12)) (dW _))))))
  (cE (eA iz))
  jj)))))) (fun _ _ h1 h2=>ud PassesOwn.never rfl h1 (ig (i:=9) a6.nd rfl (bH rfl)) h2))
  (cE (uP (n:=15) (rM (cD (Zj c_ (Zj aG (Zj iz (Zj Ly (Zj (eR (Zj aG (Zj aG aC))) aC))))))) (iA (by decide))
  (cE (jk (gw (j4 hr) j6 (jq bE (hr.mono bF) rfl (Zj (aw (pv 14)) aC)) (hV (cD (Zj (cD (Zj c_ (Zj jY aC))) (Zj (cD (Zj c_ (Zj aG aC))) aC))) (hU (fun _ ha=>nV Cc rfl M.kA (by decide +kernel) ha) DC (Zj (oq (NI hr) NJ (aw (pv 14)) (eR (Zj aG (Zj aG aC))) (dW _)) aC))) (dW _))
  (cE (eA iz))
  jj)) (fun _ _ h1 h2=>ud PassesOwn.never rfl h1 (ig (i:=14) a6.nd rfl (bH rfl)) h2))))))))))))))) (fun _ _ h1 h2=>ud PassesOwn.never rfl h1 (ig (i:=1) a6.nd rfl (bH rfl)) h2))
  (bN (jk (gw (j4 hr) j6 (uW rfl (pY (Nc:=["_law_thing"]) (own:=1) (fr:=[]) (sc:=aa mZ) (N:=["_law_script","_law_k","_law_pool_here","_law_size","_law_wide","_law_spots","_law_due","_law_handed","_law_made","_law_turn","_law_at","_law_bent","_law_word","_law_wanted","_law_thing"]) rfl rfl (by decide +kernel)) (by decide) (DL (eR (Zj aG (Zj aG (Zj aG (Zj (yj aG) (Zj iz (Zj jY (Zj c_ (Zj (b9 xa ye aG aG) aC)))))))))) (Dc (by decide)) (fun _ _ _ _ _ _=>(ig (i:=0) (show(["_law_thing"]:List Str).Nodup by decide +kernel) rfl (bH rfl))) (iA (by decide)) (lF (by decide)) (fun _ _ _ _ _ _=>pX) (fun _ _ _ _ _ _=>(jq cY (hr.mono cZ) rfl (Zj (aw (pv 0)) aC)))) (b9 iY iZ (cD (Zj iz (Zj iz aC))) (b9 CO Ew (cD (Zj iz aC)) aG)) (dW _))
  (cE (eA iz))
  jj)
  (cE (eA (ot (oq (pN hr) pP (oX M.aX az (hr.mono aA) (M4 vg bK (hr.mono bL) rfl)) (cD aC) (dW _)) (ot (oq (pN hr) pP (oX M.aX az (hr.mono aA) (VY.ve (Ab vg bK (hr.mono bL) rfl (Zj jY aC)))) (cD aC) (dW _)) (xZ (oq (pN hr) pP (oX M.aX az (hr.mono aA) (VY.ve (Nw vg bK (hr.mono bL) rfl (cD (Zj (eR (Zj aG (Zj aG aC))) aC))))) (cD (Zj (eR (Zj aG (Zj aG aC))) aC)) (dW _)))))))))
end
end cx
namespace cx
open PySem L2 Ex Dv
section
variable[KC]{P:Program}{w:World}{mg:Str->Option Value}{base:Heap}
structure gQ(mg:Str->Option Value):Prop where
 iO:At mg "in_order" o4
 kP:At mg "is_key" tI
 iP:At mg "is_point" tJ
 dA:At mg "look_at_points" tK
 kQ:Fi .Points "Points.__init__" mW ["points"]
 dR:Fh .Points "points" "Points.points" qv
 gR:At mg "_law_take" tL
 iQ:At mg "_law_odd" tM
 gi:At mg "_law_point" tN
 eI:At mg "_law_cell_at" tO
 gU:At mg "_law_pool" tP
 fu:At mg "_law_sorted" o5
 gW:At mg "_law_kind" tQ
 gZ:At mg "_law_told" tR
 tS:At mg "law" mZ
theorem Pn(T:gQ mg)(M:Nm mg):dr P w mg base "in_order" 1 ["points"] (cT gG) :=
 mC (k:=0) T.iO OZ (fun _ _ _ _ _ _ us hl=>match us,hl with | [_],_=>rfl) (fun _ _ _ _ _ _ _ hr=>O0 M  hr) (fun _ _ h=>km h)
theorem A3(T:gQ mg)(M:Nm mg):dr P w mg base "is_key" 1 ["thing"] (cT dv) :=
 mC (k:=0) T.kP O3 (fun _ _ _ _ _ _ us hl=>match us,hl with | [_],_=>rfl) (fun _ _ _ _ _ _ _ hr=>O4 M  hr) (fun _ _ h=>km h)
theorem Po(T:gQ mg)(M:Nm mg):dr P w mg base "is_point" 2 ["thing"] (cT d8) :=
 mC (k:=1) T.iP O5 (fun _ _ _ _ _ _ us hl=>match us,hl with | [_],_=>rfl) (fun _ _ _ _ _ _ _ hr=>O6 M (A3 T M) (by omega) hr) (fun _ _ h=>km h)
theorem Pp(T:gQ mg)(M:Nm mg):vh P w mg base "look_at_points" 3 ["thing"] (oK dG) :=
 LI (k:=2) T.dA ba (fun _ _ _ _ _ _ us hl=>match us,hl with | [_],_=>rfl) (fun _ _ _ _ _ _ _ hr=>O7 M (Po T M) (by omega) hr (by omega)) (fun _ _ h=>LJ h)
theorem A4(T:gQ mg)(M:Nm mg):qm P w mg base "Points" 4 ["points"] [.ao] .Points "held" cW :=
 M7 (k:=3) (st1:=F5) (st2:=F6) (e:=F7) T.kQ M.kH fK rfl M.aX M.i7 rfl (by decide) (fun _ _ _ _ _ _ _ hr=>let ⟨h1,h2,h3⟩:=O8 M (Pn T M) (by omega) (Pp T M) (by omega) hr (by omega); ⟨h1,h2,h3,pv 0,rfl⟩)
theorem A5(T:gQ mg)(M:Nm mg):vK P w mg base .Points "points" 1 ["self"] (cT df) :=
 M5 (k:=0) T.dR O9 (fun _ _ _ _ _ _ us hl=>match us,hl with | [_],_=>rfl) (fun _ _ _ _ _ _ _ hr=>O_ M  hr) (fun _ _ h=>km h)
theorem wo(T:gQ mg)(M:Nm mg):dr P w mg base "_law_take" 1 ["_law_pool_here","_law_many"] (kj cV) :=
 yE (k:=0) T.gR c7 (fun _ _ _ _ _ _ us hl=>match us,hl with | [_,_],_=>rfl) (fun _ _ _ _ _ _ _ _ hr=>Pa M  hr) (fun _ _ _ h=>yF h)
theorem Ga(T:gQ mg)(M:Nm mg):dr P w mg base "_law_odd" 2 ["_law_pool_here"] (kj jv) :=
 yE (k:=1) T.iQ dJ (fun _ _ _ _ _ _ us hl=>match us,hl with | [_],_=>rfl) (fun _ _ _ _ _ _ _ _ hr=>Pb M (wo T M) (by omega) hr) (fun _ _ _ h=>yF h)
theorem Gb(T:gQ mg)(M:Nm mg):dr P w mg base "_law_point" 2 ["_law_pool_here","_law_keys","_law_moments"] (kj h_) :=
 yE (k:=1) T.gi Pc (fun _ _ _ _ _ _ us hl=>match us,hl with | [_,_,_],_=>rfl) (fun _ _ _ _ _ _ _ _ hr=>Pd M (wo T M) (by omega) hr) (fun _ _ _ h=>yF h)
theorem Pq(T:gQ mg)(M:Nm mg):dr P w mg base "_law_cell_at" 1 ["_law_script","_law_k"] (cT jO) :=
 mC (k:=0) T.eI Pe (fun _ _ _ _ _ _ us hl=>match us,hl with | [_,_],_=>rfl) (fun _ _ _ _ _ _ _ hr=>Pf M  hr) (fun _ _ h=>km h)
theorem Gd(T:gQ mg)(M:Nm mg):dr P w mg base "_law_pool" 2 ["_law_script","_law_k"] (cT i5) :=
 mC (k:=1) T.gU bt (fun _ _ _ _ _ _ us hl=>match us,hl with | [_,_],_=>rfl) (fun _ _ _ _ _ _ _ hr=>Pg M (Pq T M) (by omega) hr) (fun _ _ h=>km h)
theorem Ge(T:gQ mg)(M:Nm mg):dr P w mg base "_law_sorted" 1 ["_law_spots"] (cT jw) :=
 mC (k:=0) T.fu Ph (fun _ _ _ _ _ _ us hl=>match us,hl with | [_],_=>rfl) (fun _ _ _ _ _ _ _ hr=>Pj M  hr) (fun _ _ h=>km h)
theorem Pr(T:gQ mg)(M:Nm mg):dr P w mg base "_law_kind" 1 ["_law_error"] (cT kr) :=
 mC (k:=0) T.gW aR (fun _ _ _ _ _ _ us hl=>match us,hl with | [_],_=>rfl) (fun _ _ _ _ _ _ _ hr=>Pl M  hr) (fun _ _ h=>km h)
theorem Gf(T:gQ mg)(M:Nm mg):dr P w mg base "_law_told" 6 ["_law_thing"] (cT dH) :=
 mC (k:=5) T.gZ aZ (fun _ _ _ _ _ _ us hl=>match us,hl with | [_],_=>rfl) (fun _ _ _ _ _ _ _ hr=>Pm M (A4 T M) (by omega) (A5 T M) (by omega) (Pr T M) (by omega) hr) (fun _ _ h=>km h)
theorem wq(T:gQ mg)(M:Nm mg):dr P w mg base "law" 7 ["_law_script"] (cT sS) :=
 mC (k:=6) T.tS a6 (fun _ _ _ _ _ _ us hl=>match us,hl with | [_],_=>rfl) (fun _ _ _ _ _ _ _ hr=>F_ M (A4 T M) (by omega) (A5 T M) (by omega) (Ga T M) (by omega) (Gb T M) (by omega) (Gd T M) (by omega) (Ge T M) (by omega) (wo T M) (by omega) (Gf T M) (by omega) (A3 T M) (by omega) hr) (fun _ _ h=>km h)
theorem Pt(T:gQ mg)(M:Nm mg){f:Addr}{fd:FuncData}(U:jf KC.K "law" "law" mZ f fd):a8 P w KC.K mg base eP 7 f fd ["_law_script"] (cT sS) :=
 yA (k:=6) U a6 (fun _ _ _ _ _ _ hr=>F_ M (A4 T M) (by omega) (A5 T M) (by omega) (Ga T M) (by omega) (Gb T M) (by omega) (Gd T M) (by omega) (Ge T M) (by omega) (wo T M) (by omega) (Gf T M) (by omega) (A3 T M) (by omega) hr) (fun _ _ h=>km h)
end
end cx
namespace cx
open PySem L2 Ex Dv Tr St So
theorem Pu{Γ:En}:dk [] 1 (gN 0) (M.pure true) (dq dv (ZS (ai 0) (M.pure []))) [.int 0,.int 30,.int 31,.int (-1),.bl true,.ao,.str "1",.int 10000000000000000000000000000000000000000] Γ = .ok [.bl true,.bl true,.bl false,.bl false,.bl false,.bl false,.bl false,.bl false] Γ:=by
 have h:=EA (fr:=[]) (own:=1) (m:=gN 0) (p:=M.pure true) (f:=dq dv (ZS (ai 0) (M.pure []))) (Γ:=Γ) (fun d:D=>match d with | .int i=>.bl (decide (0<=i) && decide (i<=30)) | _=>.bl false) (ds:=[.int 0,.int 30,.int 31,.int (-1),.bl true,.ao,.str "1",.int 10000000000000000000000000000000000000000]) fun d hd=>by
  simp only[List.mem_cons,List.not_mem_nil,or_false] at hd
  refine⟨[some (.ak,d)],?_,rfl⟩
  rcases hd with rfl | rfl | rfl | rfl | rfl | rfl | rfl | rfl<;>simp[bR,v7,AL,Oa,FX]
 exact h
theorem Pw(ns:List Int)(h:ns.length<=63):sS [.bM ns]=some (.val (.bl true)):=by
 have ln:=line
 have l0:0<=sizeLine:=Nat.zero_le _
 have l1:1<=sizeLine:=by omega
 have l2:2<=sizeLine:=by omega
 have l8:8<=sizeLine:=by omega
 have Px:8<sizeLine:=by omega
 generalize hn:(if (ns.length:Int)<8 then (ns.length:Int) else 8)=n1
 generalize hn2:(if n1 > 1 then n1 else 1)=n2
 have b1:0<=n1/\n1<=8:=by rw[<- hn];split<;>omega
 have b2:1<=n2/\n2<=8:=by rw[<- hn2];split<;>omega
 have sm:small n2=true:=zu (by omega)
 obtain⟨Γ',hl,y1,y2,y3,y4,y5,y6,y7,y8,y9,y10,y11,y12,y13,y14,rfl⟩:=Eu (m:=gN 1) (s:=wj)
  (fun _ Γ=>∃ (y1 y2 y3 y4 y5 y6 y7 y8 y9 y10 y11 y12 y13 y14:Sl),Γ=[some (.ak,.bM ns),y1,y2,y3,y4,y5,y6,y7,y8,y9,y10,y11,y12,y13,y14])
  (ds:=hW 0 n2.toNat) (Γ:=[some (.ak,.bM ns),none,none,none,none,none,none,none,none,none,none,none,none,none,none])
  ⟨none,none,none,none,none,none,none,none,none,none,none,none,none,none,rfl⟩ (by
   rintro i d Γ hd ⟨y1,y2,y3,y4,y5,y6,y7,y8,y9,y10,y11,y12,y13,y14,rfl⟩
   obtain⟨rfl,hi⟩:=FH hd
   obtain⟨z2,z3,z4,z5,z6,z7,z8,z9,AU,AV,AW,AX,Py,hz⟩:=OI (ns:=ns) (k:=i) (x2:=y2) (x3:=y3) (x4:=y4) (x5:=y5) (x6:=y6) (x7:=y7) (x8:=y8) (x9:=y9) (x10:=y10) (x11:=y11) (x12:=y12) (x13:=y13) (x14:=y14) (by omega)
   exact⟨_,_,rfl,.inl (by simpa using hz),some (.ak,.int i),z2,z3,z4,z5,z6,z7,z8,z9,AU,AV,AW,AX,Py,rfl⟩)
 have kl:=fun Γ=>Pu (Γ:=Γ)
 have rp:mE (.lst [.bl false]) (.int 6)=_:=rep1 (d:=.bl false) (n:=6) (by decide)
 have q:=lI (d:=.lst [.bl true,.bl true,.bl false,.bl false,.bl false,.bl false,.bl false,.bl false]) (by decide +kernel)
 have p0:=NZ
 have Pz:=td []
 have q0:fc (.lst []) (.lst [])=some (.val (.bl true)):=AE (by decide +kernel)
 have so:aH [(2,1)]=[(2,1)]:=zQ (cs:=[(2,1)]) (l:=[(2,1)]) (fun c hc=>by simp at hc;subst hc;exact⟨⟨by decide,by decide⟩,by decide,by decide⟩) (by simp) (by simp) (fun c=>Iff.rfl) |>.symm
 have p1:=v9 (x:=.lst [.tup [.int 1,.int 2]]) (cs:=[(2,1)]) (.inl rfl) (fun c hc=>by simp at hc;subst hc;exact⟨⟨by decide,by decide⟩,by decide,by decide⟩) (by decide)
 rw[so] at p1
 have p1:cW [.lst [.tup [.int 1,.int 2]]]=some (.ok (.val (pO [.tup [.int 1,.int 2]]))):=p1
 have PB:=td [.tup [.int 1,.int 2]]
 have q1:fc (.lst [.tup [.int 1,.int 2]]) (.lst [.tup [.int 1,.int 2]])=some (.val (.bl true)):=AE (by decide +kernel)
 unfold sS
 rw[Og]
 simp[cP,bG,gam,hn,hn2,sm,hl,l0,l1,l2,l8,Px,kl,rp,q,Od,p0,Pz,q0,p1,PB,q1,v_,List.replicate]
end cx
namespace cx
open PySem PySem.W PyProof.Rows Hd
abbrev pm0:Value:=vS "law_thirdpoint_k01_points_made" 713
abbrev cQ:Value:=vS "thirdpoint.errors" 194
abbrev ie:Value:=vS "thirdpoint.points" 564
def KK(P:Params):Frag:=[
 (nat_lit 1,dO P [de "builtins" 162 (.ref 4),de "__main__" 163 (.ref 5)] 2),
 (nat_lit 2,dN P [de "type.__subclasses__.KeyError.0" 455 (vI 213 0),de "type.__subclasses__.KeyError.n" 456 (vI 2 0),de "type.__subclasses__.KeyError.1" 484 (vI 233 0),de "type.__subclasses__.IndexError.0" 531 (vI 266 0),de "type.__subclasses__.IndexError.n" 532 (vI 1 0),de "type.__subclasses__.OverflowError.0" 560 (vI 286 0),de "type.__subclasses__.OverflowError.n" 561 (vI 1 0)] 7),
 (nat_lit 3,dO P [de "__name__" 165 pm0,de "__doc__" 166 .none,de "__package__" 167 .none,de "__loader__" 168 (.builtin "__main__.__loader__#opaque"),de "__spec__" 169 .none,de "__annotations__" 170 (.ref 6),de "__builtins__" 171 (.ref 4),de "__file__" 173 (vS "/claim/cut.py" 172),de "__cached__" 174 .none,de "_wall" 193 (.ref 21),de "PointError" 213 (.ref 31),de "NoPoints" 238 (.ref 51),de "NoBox" 265 (.ref 70),de "NoAsks" 290 (.ref 89),de "NoRun" 315 (.ref 108),de "NoText" 340 (.ref 127),de "NoTurn" 365 (.ref 146),de "NoTree" 381 (.ref 158),de "NoTop" 397 (.ref 170),de "NotServed" 413 (.ref 182),de "NoRow" 429 (.ref 194),de "NoPoint" 458 (.ref 213),de "NoName" 487 (.ref 233),de "NoKey" 514 (.ref 253),de "NoBack" 534 (.ref 266),de "TooMany" 563 (.ref 286),de "LAST_KEY" 567 (vI 30 566),de "MOST_POINTS" 569 (vI 200 568),de "is_key" 576 (.ref 296),de "is_point" 583 (.ref 303),de "look_at_points" 592 (.ref 310),de "in_order" 598 (.ref 315),de "Points" 712 (.ref 410),de "_law_cell_at" 722 (.ref 421),de "_law_pool" 732 (.ref 428),de "_law_take" 741 (.ref 435),de "_law_point" 750 (.ref 442),de "_law_sorted" 756 (.ref 447),de "_law_kind" 765 (.ref 454),de "_law_told" 775 (.ref 461),de "_law_odd" 783 (.ref 468),de "law" 789 (.ref 473)] 42),
 (nat_lit 30,dO P [de "__module__" 203 cQ,de "__firstlineno__" 207 (vI 5 206),de "__static_attributes__" 208 (.ref 29),de "__weakref__" 210 (.ref 32),de "__doc__" 211 .none] 3),
 (nat_lit 31,cO "PointError" [(.type "ValueError")] [(.ref 31),(.type "ValueError"),(.type "Exception"),(.type "BaseException"),(.type "object")] 30 [(.ref 51),(.ref 70),(.ref 89),(.ref 108),(.ref 127),(.ref 146),(.ref 158),(.ref 170),(.ref 182),(.ref 194)] #[some (.ref 22),none,some (vS "PointError" 196),some (vS "PointError" 204),some (.builtin "ValueError.__new__"),some (.bool true)]),
 (nat_lit 47,kO "__init__" "NoPoints.__init__" 226 9 2 [(vI 0 0),(vI 0 0),(vI 3 0),(.ref 42),(.bool true),(vI 181 0),(.ref 43),.none,(.ref 44),(.ref 45),(.ref 46),(vI 231 0),(vI 9 0),(vS "/claim/cut.py" 232)]),
 (nat_lit 48,fO "__init__" "NoPoints.__init__" (L2.inClass (top 3) 0) .none cQ 47),
 (nat_lit 50,dO P [de "__module__" 221 cQ,de "__firstlineno__" 225 (vI 7 224),de "__init__" 233 (.ref 48),de "__static_attributes__" 235 (.ref 49),de "__doc__" 236 .none] 2),
 (nat_lit 51,cO "NoPoints" [(.ref 31)] [(.ref 51),(.ref 31),(.type "ValueError"),(.type "Exception"),(.type "BaseException"),(.type "object")] 50 [] #[some (.ref 35),none,some (vS "NoPoints" 214),some (vS "NoPoints" 222),some (.builtin "ValueError.__new__"),some (.bool true)]),
 (nat_lit 69,dO P [de "__module__" 246 cQ,de "__firstlineno__" 250 (vI 12 249),de "__init__" 259 (.ref 67),de "__static_attributes__" 262 (.ref 68),de "__doc__" 263 .none] 2),
 (nat_lit 70,cO "NoBox" [(.ref 31)] [(.ref 70),(.ref 31),(.type "ValueError"),(.type "Exception"),(.type "BaseException"),(.type "object")] 69 [] #[some (.ref 54),none,some (vS "NoBox" 239),some (vS "NoBox" 247),some (.builtin "ValueError.__new__"),some (.bool true)]),
 (nat_lit 88,dO P [de "__module__" 273 cQ,de "__firstlineno__" 277 (vI 18 276),de "__init__" 285 (.ref 86),de "__static_attributes__" 287 (.ref 87),de "__doc__" 288 .none] 2),
 (nat_lit 89,cO "NoAsks" [(.ref 31)] [(.ref 89),(.ref 31),(.type "ValueError"),(.type "Exception"),(.type "BaseException"),(.type "object")] 88 [] #[some (.ref 73),none,some (vS "NoAsks" 266),some (vS "NoAsks" 274),some (.builtin "ValueError.__new__"),some (.bool true)]),
 (nat_lit 107,dO P [de "__module__" 298 cQ,de "__firstlineno__" 302 (vI 23 301),de "__init__" 310 (.ref 105),de "__static_attributes__" 312 (.ref 106),de "__doc__" 313 .none] 2),
 (nat_lit 108,cO "NoRun" [(.ref 31)] [(.ref 108),(.ref 31),(.type "ValueError"),(.type "Exception"),(.type "BaseException"),(.type "object")] 107 [] #[some (.ref 92),none,some (vS "NoRun" 291),some (vS "NoRun" 299),some (.builtin "ValueError.__new__"),some (.bool true)]),
 (nat_lit 126,dO P [de "__module__" 323 cQ,de "__firstlineno__" 327 (vI 28 326),de "__init__" 335 (.ref 124),de "__static_attributes__" 337 (.ref 125),de "__doc__" 338 .none] 2),
 (nat_lit 127,cO "NoText" [(.ref 31)] [(.ref 127),(.ref 31),(.type "ValueError"),(.type "Exception"),(.type "BaseException"),(.type "object")] 126 [] #[some (.ref 111),none,some (vS "NoText" 316),some (vS "NoText" 324),some (.builtin "ValueError.__new__"),some (.bool true)]),
 (nat_lit 145,dO P [de "__module__" 348 cQ,de "__firstlineno__" 352 (vI 33 351),de "__init__" 360 (.ref 143),de "__static_attributes__" 362 (.ref 144),de "__doc__" 363 .none] 2),
 (nat_lit 146,cO "NoTurn" [(.ref 31)] [(.ref 146),(.ref 31),(.type "ValueError"),(.type "Exception"),(.type "BaseException"),(.type "object")] 145 [] #[some (.ref 130),none,some (vS "NoTurn" 341),some (vS "NoTurn" 349),some (.builtin "ValueError.__new__"),some (.bool true)]),
 (nat_lit 157,dO P [de "__module__" 373 cQ,de "__firstlineno__" 377 (vI 38 376),de "__static_attributes__" 378 (.ref 156),de "__doc__" 379 .none] 2),
 (nat_lit 158,cO "NoTree" [(.ref 31)] [(.ref 158),(.ref 31),(.type "ValueError"),(.type "Exception"),(.type "BaseException"),(.type "object")] 157 [] #[some (.ref 149),none,some (vS "NoTree" 366),some (vS "NoTree" 374),some (.builtin "ValueError.__new__"),some (.bool true)]),
 (nat_lit 169,dO P [de "__module__" 389 cQ,de "__firstlineno__" 393 (vI 40 392),de "__static_attributes__" 394 (.ref 168),de "__doc__" 395 .none] 2),
 (nat_lit 170,cO "NoTop" [(.ref 31)] [(.ref 170),(.ref 31),(.type "ValueError"),(.type "Exception"),(.type "BaseException"),(.type "object")] 169 [] #[some (.ref 161),none,some (vS "NoTop" 382),some (vS "NoTop" 390),some (.builtin "ValueError.__new__"),some (.bool true)]),
 (nat_lit 181,dO P [de "__module__" 405 cQ,de "__firstlineno__" 409 (vI 42 408),de "__static_attributes__" 410 (.ref 180),de "__doc__" 411 .none] 2),
 (nat_lit 182,cO "NotServed" [(.ref 31)] [(.ref 182),(.ref 31),(.type "ValueError"),(.type "Exception"),(.type "BaseException"),(.type "object")] 181 [] #[some (.ref 173),none,some (vS "NotServed" 398),some (vS "NotServed" 406),some (.builtin "ValueError.__new__"),some (.bool true)]),
 (nat_lit 193,dO P [de "__module__" 421 cQ,de "__firstlineno__" 425 (vI 44 424),de "__static_attributes__" 426 (.ref 192),de "__doc__" 427 .none] 2),
 (nat_lit 194,cO "NoRow" [(.ref 31)] [(.ref 194),(.ref 31),(.type "ValueError"),(.type "Exception"),(.type "BaseException"),(.type "object")] 193 [] #[some (.ref 185),none,some (vS "NoRow" 414),some (vS "NoRow" 422),some (.builtin "ValueError.__new__"),some (.bool true)]),
 (nat_lit 212,dO P [de "__module__" 437 cQ,de "__firstlineno__" 441 (vI 46 440),de "__init__" 449 (.ref 210),de "__static_attributes__" 451 (.ref 211),de "__weakref__" 453 (.ref 214),de "__doc__" 454 .none] 3),
 (nat_lit 213,cO "NoPoint" [(.type "KeyError")] [(.ref 213),(.type "KeyError"),(.type "LookupError"),(.type "Exception"),(.type "BaseException"),(.type "object")] 212 [] #[some (.ref 197),none,some (vS "NoPoint" 430),some (vS "NoPoint" 438),some (.builtin "LookupError.__new__"),some (.bool true)]),
 (nat_lit 232,dO P [de "__module__" 466 cQ,de "__firstlineno__" 470 (vI 51 469),de "__init__" 478 (.ref 230),de "__static_attributes__" 480 (.ref 231),de "__weakref__" 482 (.ref 234),de "__doc__" 483 .none] 3),
 (nat_lit 233,cO "NoName" [(.type "KeyError")] [(.ref 233),(.type "KeyError"),(.type "LookupError"),(.type "Exception"),(.type "BaseException"),(.type "object")] 232 [] #[some (.ref 217),none,some (vS "NoName" 459),some (vS "NoName" 467),some (.builtin "LookupError.__new__"),some (.bool true)]),
 (nat_lit 252,dO P [de "__module__" 495 cQ,de "__firstlineno__" 499 (vI 56 498),de "__init__" 507 (.ref 250),de "__static_attributes__" 509 (.ref 251),de "__weakref__" 511 (.ref 254),de "__doc__" 512 .none] 3),
 (nat_lit 253,cO "NoKey" [(.type "LookupError")] [(.ref 253),(.type "LookupError"),(.type "Exception"),(.type "BaseException"),(.type "object")] 252 [] #[some (.ref 237),none,some (vS "NoKey" 488),some (vS "NoKey" 496),some (.builtin "LookupError.__new__"),some (.bool true)]),
 (nat_lit 265,dO P [de "__module__" 522 cQ,de "__firstlineno__" 526 (vI 61 525),de "__static_attributes__" 527 (.ref 264),de "__weakref__" 529 (.ref 267),de "__doc__" 530 .none] 3),
 (nat_lit 266,cO "NoBack" [(.type "IndexError")] [(.ref 266),(.type "IndexError"),(.type "LookupError"),(.type "Exception"),(.type "BaseException"),(.type "object")] 265 [] #[some (.ref 257),none,some (vS "NoBack" 515),some (vS "NoBack" 523),some (.builtin "IndexError.__new__"),some (.bool true)]),
 (nat_lit 285,dO P [de "__module__" 542 cQ,de "__firstlineno__" 546 (vI 63 545),de "__init__" 554 (.ref 283),de "__static_attributes__" 556 (.ref 284),de "__weakref__" 558 (.ref 287),de "__doc__" 559 .none] 3),
 (nat_lit 286,cO "TooMany" [(.type "OverflowError")] [(.ref 286),(.type "OverflowError"),(.type "ArithmeticError"),(.type "Exception"),(.type "BaseException"),(.type "object")] 285 [] #[some (.ref 270),none,some (vS "TooMany" 535),some (vS "TooMany" 543),some (.builtin "OverflowError.__new__"),some (.bool true)]),
 (nat_lit 295,kO "is_key" "is_key" 570 71 1 [(vI 0 0),(vI 0 0),(vI 3 0),(.ref 290),(.bool true),(vI 181 0),(.ref 291),.none,(.ref 292),(.ref 293),(.ref 294),(vI 574 0),(vI 71 0),(vS "/claim/cut.py" 575)]),
 (nat_lit 296,fO "is_key" "is_key" (top 21) .none ie 295),
 (nat_lit 302,kO "is_point" "is_point" 577 73 1 [(vI 0 0),(vI 0 0),(vI 3 0),(.ref 297),(.bool true),(vI 181 0),(.ref 298),.none,(.ref 299),(.ref 300),(.ref 301),(vI 581 0),(vI 73 0),(vS "/claim/cut.py" 582)]),
 (nat_lit 303,fO "is_point" "is_point" (top 22) .none ie 302),
 (nat_lit 309,kO "look_at_points" "look_at_points" 584 75 1 [(vI 0 0),(vI 0 0),(vI 3 0),(.ref 304),(.bool true),(vI 181 0),(.ref 305),.none,(.ref 306),(.ref 307),(.ref 308),(vI 590 0),(vI 75 0),(vS "/claim/cut.py" 591)]),
 (nat_lit 310,fO "look_at_points" "look_at_points" (top 23) .none ie 309),
 (nat_lit 314,kO "in_order" "in_order" 593 81 1 [(vI 0 0),(vI 0 0),(vI 3 0),(.ref 311),(.bool true),(vI 181 0),(.ref 312),.none,.none,.none,(.ref 313),(vI 596 0),(vI 81 0),(vS "/claim/cut.py" 597)]),
 (nat_lit 315,fO "in_order" "in_order" (top 24) .none ie 314),
 (nat_lit 323,{ cls:=.type "tuple",data:=.seq #[.none] }),
 (nat_lit 329,kO "__init__" "Points.__init__" 611 85 2 [(vI 0 0),(vI 0 0),(vI 3 0),(.ref 324),(.bool true),(vI 181 0),(.ref 325),.none,(.ref 326),(.ref 327),(.ref 328),(vI 616 0),(vI 85 0),(vS "/claim/cut.py" 617)]),
 (nat_lit 330,fO "__init__" "Points.__init__" (L2.inClass (top 25) 0) (.ref 323) ie 329),
 (nat_lit 336,kO "points" "Points.points" 619 91 1 [(vI 0 0),(vI 0 0),(vI 3 0),(.ref 331),(.bool true),(vI 181 0),(.ref 332),.none,(.ref 333),(.ref 334),(.ref 335),(vI 623 0),(vI 91 0),(vS "/claim/cut.py" 624)]),
 (nat_lit 337,fO "points" "Points.points" (L2.inClass (top 25) 1) .none ie 336),
 (nat_lit 409,dO P [de "__module__" 606 ie,de "__firstlineno__" 610 (vI 83 609),de "__init__" 618 (.ref 330),de "points" 625 (.ref 337),de "has" 633 (.ref 344),de "keys_at" 641 (.ref 351),de "moments_of" 649 (.ref 358),de "all_keys" 656 (.ref 365),de "all_moments" 663 (.ref 372),de "more" 672 (.ref 379),de "less" 680 (.ref 386),de "__eq__" 688 (.ref 393),de "__len__" 695 (.ref 400),de "__repr__" 702 (.ref 407),de "__static_attributes__" 704 (.ref 408),de "__dict__" 706 (.ref 411),de "__weakref__" 708 (.ref 412),de "__doc__" 709 .none,de "__hash__" 710 .none] 5),
 (nat_lit 410,cO "Points" [(.type "object")] [(.ref 410),(.type "object")] 409 [] #[none,none,some (vS "Points" 599),some (vS "Points" 607),some (.builtin "object.__new__"),some (.bool true)]),
 (nat_lit 420,kO "_law_cell_at" "_law_cell_at" 715 128 2 [(vI 0 0),(vI 0 0),(vI 3 0),(.ref 415),(.bool true),(vI 181 0),(.ref 416),.none,(.ref 417),(.ref 418),(.ref 419),(vI 720 0),(vI 128 0),(vS "/claim/cut.py" 721)]),
 (nat_lit 421,fO "_law_cell_at" "_law_cell_at" (top 27) .none pm0 420),
 (nat_lit 427,kO "_law_pool" "_law_pool" 723 132 2 [(vI 0 0),(vI 0 0),(vI 3 0),(.ref 422),(.bool true),(vI 181 0),(.ref 423),.none,(.ref 424),(.ref 425),(.ref 426),(vI 730 0),(vI 132 0),(vS "/claim/cut.py" 731)]),
 (nat_lit 428,fO "_law_pool" "_law_pool" (top 28) .none pm0 427),
 (nat_lit 434,kO "_law_take" "_law_take" 733 138 2 [(vI 0 0),(vI 0 0),(vI 3 0),(.ref 429),(.bool true),(vI 181 0),(.ref 430),.none,(.ref 431),(.ref 432),(.ref 433),(vI 739 0),(vI 138 0),(vS "/claim/cut.py" 740)]),
 (nat_lit 435,fO "_law_take" "_law_take" (top 29) .none pm0 434),
 (nat_lit 441,kO "_law_point" "_law_point" 742 145 3 [(vI 0 0),(vI 0 0),(vI 3 0),(.ref 436),(.bool true),(vI 181 0),(.ref 437),.none,(.ref 438),(.ref 439),(.ref 440),(vI 748 0),(vI 145 0),(vS "/claim/cut.py" 749)]),
 (nat_lit 442,fO "_law_point" "_law_point" (top 30) .none pm0 441),
 (nat_lit 446,kO "_law_sorted" "_law_sorted" 751 147 1 [(vI 0 0),(vI 0 0),(vI 3 0),(.ref 443),(.bool true),(vI 181 0),(.ref 444),.none,.none,.none,(.ref 445),(vI 754 0),(vI 147 0),(vS "/claim/cut.py" 755)]),
 (nat_lit 447,fO "_law_sorted" "_law_sorted" (top 31) .none pm0 446),
 (nat_lit 453,kO "_law_kind" "_law_kind" 757 149 1 [(vI 0 0),(vI 0 0),(vI 3 0),(.ref 448),(.bool true),(vI 181 0),(.ref 449),.none,(.ref 450),(.ref 451),(.ref 452),(vI 763 0),(vI 149 0),(vS "/claim/cut.py" 764)]),
 (nat_lit 454,fO "_law_kind" "_law_kind" (top 32) .none pm0 453),
 (nat_lit 460,kO "_law_told" "_law_told" 766 159 1 [(vI 0 0),(vI 0 0),(vI 3 0),(.ref 455),(.bool true),(vI 181 0),(.ref 456),.none,(.ref 457),(.ref 458),(.ref 459),(vI 773 0),(vI 159 0),(vS "/claim/cut.py" 774)]),
 (nat_lit 461,fO "_law_told" "_law_told" (top 33) .none pm0 460),
 (nat_lit 467,kO "_law_odd" "_law_odd" 776 171 1 [(vI 0 0),(vI 0 0),(vI 3 0),(.ref 462),(.bool true),(vI 181 0),(.ref 463),.none,(.ref 464),(.ref 465),(.ref 466),(vI 781 0),(vI 171 0),(vS "/claim/cut.py" 782)]),
 (nat_lit 468,fO "_law_odd" "_law_odd" (top 34) .none pm0 467),
 (nat_lit 472,kO "law" "law" 784 174 1 [(vI 0 0),(vI 0 0),(vI 3 0),(.ref 469),(.bool true),(vI 181 0),(.ref 470),.none,.none,.none,(.ref 471),(vI 787 0),(vI 174 0),(vS "/claim/cut.py" 788)]),
 (nat_lit 473,fO "law" "law" (top 35) .none pm0 472)]
def nL:List Addr:=[1,2,3,30,31,47,48,50,51,69,70,88,89,107,108,126,127,145,146,157,158,169,170,181,182,193,194,212,213,232,233,252,253,265,266,285,286,295,296,302,303,309,310,314,315,323,329,330,336,337,409,410,420,421,427,428,434,435,441,442,446,447,453,454,460,461,467,468,472,473]
theorem eJ(P:Params):nL=(KK P).map (·.1):=by kernel_rfl
def fL:List Nat:=[0,2,3,4,5,6,7,8,9,10,11,12,13,14,15,16,17,19,20,21,22,23,24,25,27,28,29,30,31,32,33,34,35]
theorem twin:Nat.ble 1 PySem.Challenge.pw_thirdpoint_k01_points_made.main.body.length=true:=by k_qdec
set_option maxHeartbeats 0 in
theorem run(w:World)(os:OsState):(tD Fast.tw14364793385576792824 Fast.tw6927157346788147330 w 11 (some (.ref 6)) 9412 (AY w.params os) (topStub Fast.tw6927157346788147330)).map (fun s=>((staticsOk (importedModules Fast.tw6927157346788147330.main.body) (boot_heap w.params) s.abs.heap && namesBound Fast.tw6927157346788147330 s.abs.heap && gensDone s.abs && laidKept (boot_heap w.params) s.abs.heap),
 Fast.tw4187177175401517315 (view Fast.tw6927157346788147330 fL) [] (importedModules Fast.tw6927157346788147330.main.body) (fun s=>xlAt (view Fast.tw6927157346788147330 fL) [] s && recOk [] s) true s.abs,nL.map s.abs.heap.get?))=some (true,openGood (view Fast.tw6927157346788147330 fL) [],(KK w.params).map fun x=>some x.2):=by kernel_rfl
theorem left:LeftO PySem.Challenge.pw_thirdpoint_k01_points_made (view PySem.Challenge.pw_thirdpoint_k01_points_made fL) [] (fun s=>xlAt (view PySem.Challenge.pw_thirdpoint_k01_points_made fL) [] s && recOk [] s) (fun s=>nL.map s.heap.get?) (fun w=>(KK w.params).map fun x=>some x.2) 9412 :=
 ON Fast.te6927157346788147330 (by kernel_rfl) rfl (fun _=>by kernel_rfl) run
end cx
namespace Xf
open PySem L2 Ex Dv
abbrev Gg:List Value:=[.type "ValueError",.type "Exception",.type "BaseException",.type "object"]
abbrev Gh:List Value:=[.type "KeyError",.type "LookupError",.type "Exception",.type "BaseException",.type "object"]
abbrev Gi:List Value:=[.type "LookupError",.type "Exception",.type "BaseException",.type "object"]
abbrev hW:List Value:=[.type "IndexError",.type "LookupError",.type "Exception",.type "BaseException",.type "object"]
abbrev Gj:List Value:=[.type "OverflowError",.type "ArithmeticError",.type "Exception",.type "BaseException",.type "object"]
theorem ic(self:Value):refuseLoop self "__setattr__" Gg=pure ():=F.store_ValueError.passes self
theorem Gk(self:Value):refuseLoop self "__setattr__" Gh=pure ():=by kernel_rfl
theorem PC(self:Value):refuseLoop self "__setattr__" Gi=pure ():=by kernel_rfl
theorem PD(self:Value):refuseLoop self "__setattr__" hW=pure ():=by kernel_rfl
theorem PF(self:Value):refuseLoop self "__setattr__" Gj=pure ():=by kernel_rfl
def m3:Cn->List Value
 | .NoPoint | .NoName=>Gh
 | .NoKey=>Gi
 | .NoBack=>hW
 | .TooMany=>Gj
 | _=>Gg
def o6:Cn->String
 | .NoPoint | .NoName | .NoKey => "LookupError.__new__"
 | .NoBack => "IndexError.__new__"
 | .TooMany => "OverflowError.__new__"
 | _ => "ValueError.__new__"
theorem PH:∀ (C:Cn) (self:Value),refuseLoop self "__setattr__" (m3 C)=pure ()
 | .PointError,s=>ic s
 | .NoPoints,s=>ic s
 | .NoBox,s=>ic s
 | .NoAsks,s=>ic s
 | .NoRun,s=>ic s
 | .NoText,s=>ic s
 | .NoTurn,s=>ic s
 | .NoTree,s=>ic s
 | .NoTop,s=>ic s
 | .NotServed,s=>ic s
 | .NoRow,s=>ic s
 | .NoPoint,s=>Gk s
 | .NoName,s=>Gk s
 | .NoKey,s=>PC s
 | .NoBack,s=>PD s
 | .TooMany,s=>PF s
 | .Points,s=>ic s
 | .oi,s=>ic s
 | .Search,s=>ic s
 | .oj,s=>ic s
 | .xU,s=>ic s
def m4(K:W.Frag)(C:Addr)(up:List Value)(nw:String):Bool:=n8 K C up nw && (W.findIn K (.ref C) "__getattribute__" == some (some (.builtin "BaseException.__getattribute__"))) && (W.findIn K (.ref C) "__getattr__" == some none) &&
 (W.findIn K (.ref C) "__setattr__" == some (some (.builtin "object.__setattr__"))) && (W.mroIn K C (.type "BaseException") == some true) && (W.mroIn K C (.type "object") == some true) && (W.findIn K (.ref C) "__class__" == some (some (.builtin "object.__class__"))) &&
 (W.specialIn K (.builtin "object.__class__") "__get__" == some (some (.builtin "getset_descriptor.__get__"))) && (W.takesIn K (.builtin "object.__class__") == some true) && (W.kitCls K (.ref C) (.ref C) == some true) && W.keepIn K (.ref C)
theorem PJ{K:W.Frag}{C:Addr}{up:List Value}{nw:String}(ok:∀ self,refuseLoop self "__setattr__" up=pure ())(h:m4 K C up nw=true):n8 K C up nw=true/\qW K C:=by
 unfold m4 at h
 simp only[Bool.and_eq_true,beq_iff_eq] at h
 obtain⟨⟨⟨⟨⟨⟨⟨⟨⟨⟨a,b⟩,c⟩,d⟩,e⟩,f⟩,g⟩,i⟩,j⟩,k⟩,l⟩:=h
 exact⟨a,JX ok a b c d e f g i j k l⟩
variable[KC]
theorem i8{L:List Cn}(h:L.all (fun C=>m4 KC.K (KC.cls C) (m3 C) (o6 C))=true){C:Cn}(hc:L.contains C=true):n8 KC.K (KC.cls C) (m3 C) (o6 C)=true/\qW KC.K (KC.cls C) :=
 PJ (PH C) (List.all_eq_true.mp h C (List.contains_iff_mem.mp hc))
def Gm(K:W.Frag)(cls:Cn->Addr)(L:List Cn)(T:Cn):Bool:=L.all (fun C=>W.kitOne K (.ref (cls C)) (.ref (cls T)) == some (sub C T)) && mF.all (fun t=>W.kitOne K (.type t) (.ref (cls T)) == some false)
theorem a7{L:List Cn}{T:Cn}(h:Gm KC.K KC.cls L T=true)(hx:∀ C,L.contains C=true->XC KC.K (KC.cls C)):KitX L T:=by
 unfold Gm at h
 rw[Bool.and_eq_true,List.all_eq_true,List.all_eq_true] at h
 exact⟨fun C hc=>⟨beq_iff_eq.mp (h.1 C (List.contains_iff_mem.mp hc)),hx C hc⟩,fun t ht=>beq_iff_eq.mp (h.2 t ht)⟩
theorem tT{L:List Cn}{cs:List Value}(h:L.all (fun C=>aQ KC.K (KC.cls C) cs == some true)=true):∀ C,L.contains C=true->aQ KC.K (KC.cls C) cs=some true:=fun C hc=>beq_iff_eq.mp (List.all_eq_true.mp h C (List.contains_iff_mem.mp hc))
theorem tU{L:List Cn}{y:Str}(h:L.all (fun C=>W.findIn KC.K (.ref (KC.cls C)) y == some none)=true)(hx:∀ C,L.contains C=true->XC KC.K (KC.cls C)):∀ C,L.contains C=true->XC KC.K (KC.cls C)/\aU KC.K (KC.cls C) y:=fun C hc=>⟨hx C hc,beq_iff_eq.mp (List.all_eq_true.mp h C (List.contains_iff_mem.mp hc))⟩
theorem o7{K:W.Frag}{D:Addr}(a:W.specialIn K (.ref D) "__getattribute__" = some (some (.builtin "type.__getattribute__")))(b:W.readsIn K D (.type "type")=true)(c:W.findCls K (.ref D) (.type "type") "__init__" = some (.val (.builtin "ValueError.__init__"))):xD K (.ref D) "ValueError" "ValueError.__init__" :=
 ⟨.inl ⟨D,rfl,a,b,c⟩,by decide +kernel,_,XB.of F.excBase_ValueError⟩
theorem i9{K:W.Frag}{x q:Str}{st:Stmt}{a cd:Addr}{pm:Value}(l:K.lookup a=some (Hd.fO x q st .none pm cd))(c:W.codeIn K (.ref cd) q=true)(k:W.keepIn K (.ref a)=true):∃ fd,jf K x q st a fd:=⟨_,L2.n6 l c k⟩
theorem dB{mg:Str->Option Value}{x:Str}{st:Stmt}{a cd:Addr}{pm:Value}{h:Heap}(X:KC.K.In h)(G:h.Ns mainGlobals mg)(l:KC.K.lookup a=some (Hd.fO x x st .none pm cd):=by kernel_rfl)(c:W.codeIn KC.K (.ref cd) x=true:=by kernel_rfl)(k:W.keepIn KC.K (.ref a)=true:=by kernel_rfl)(n:W.nsIn KC.K mainGlobals x=some (some (.ref a)):=by kernel_rfl):At mg x st :=
 let ⟨fd,U⟩:=i9 l c k; ⟨a,fd,U,W.mg_of X G n,k⟩
structure XT(K:W.Frag)(C:Addr)(B:String)(x:Str):Prop where
 xc:XC K C
 sub:W.mroIn K C (.type B)=some true
 no:aU K C x
end Xf
namespace cx
open PySem L2 Ex Dv
def Gn:Cn->Addr
 | .PointError=>31
 | .NoPoints=>51
 | .NoBox=>70
 | .NoAsks=>89
 | .NoRun=>108
 | .NoText=>127
 | .NoTurn=>146
 | .NoTree=>158
 | .NoTop=>170
 | .NotServed=>182
 | .NoRow=>194
 | .NoPoint=>213
 | .NoName=>233
 | .NoKey=>253
 | .NoBack=>266
 | .TooMany=>286
 | .Points=>410
 | _=>0
section
variable{P:Program}{w:World}{K:W.Frag}{mg:Str->Option Value}{base:Heap}
theorem PL:aq ["self","number"] ["self","number"] (aa (L2.inClass (top 3) 0)):=⟨rfl,rfl,rfl,by decide +kernel,rfl,by decide +kernel,by decide +kernel⟩
theorem PM{f C D:Addr}{fd:FuncData}{ini:String}(F:jf K "__init__" "NoPoints.__init__" (L2.inClass (top 3) 0) f fd)(T:Xf.XT K C "ValueError" "number")(Z:xD K (.ref D) "ValueError" ini)(hm:mg "PointError" = some (.ref D)):a8 P w K mg base eP 1 f fd ["self","number"] (zw C "number"):=by
 refine F.ok PL (fun vs H Q E h=>?_) (fun cdv A outer s H vs Q E hr h=>?_)
 · obtain⟨a,v,fr,rfl,_⟩:=h
   rfl
 · obtain⟨a,v,fr,rfl,ha,k⟩:=h
   refine⟨_,ua (wN (J0 (gj (v:=.ref D) rfl hm rfl) Z (bp (pv 0) (bp BG dD)))) (ub (JN (pv 0) (pv 1) rfl)),?_⟩
   refine⟨_,rfl,a,C,fr,_,rfl,ha,T.xc,T.sub,by decide,?_⟩
   exact⟨_,rfl,_,rfl,a,C,fr,rfl,T.xc,T.no,.inl ⟨ha,fun d hd ne=>k d hd ne⟩⟩
end
def wt(K:W.Frag):Sp:=fun vs H Q _=>∃ (a:Addr) (ns:List Int),vs=[.ref a]/\bQ K H a (ns.map V.int)/\ns.length<=63/\∀ H',Q (.bl true) H'
theorem PQ[KC](vs:List V)(H:Hp)(Q:VK)(E:XK)(h:wt KC.K vs H Q E):cT sS vs H Q E:=by
 obtain⟨a,ns,rfl,hS,hl,hQ⟩:=h
 refine⟨H,[.bM ns],fun _ _ z=>z,.cons (.bM hS) .nil,?_⟩
 rw[Pw ns hl]
 intro x H' R' _ hx
 cases hx
 exact hQ H'
theorem all_mk{l:W.OpenLaw}{w:World}{h:Heap}{mg:Str->Option Value}{fa:Addr}(X:(KK w.params).In h)(G:h.Ns mainGlobals mg)(hfa:mg "law" = some (.ref fa)) :
 ∃ fd:FuncData,(∀ (s:Shared) (v:Value),BindsTo s fd ⟨[v],[]⟩ [("_law_script",v)])/\∀ base:Heap,(KK w.params).In base->base.Ns mainGlobals mg->a8 l.prog w (KK w.params) mg base eP 7 fa fd ["_law_script"] (wt (KK w.params)):=by
 letI:KC:=⟨KK w.params,Gn⟩
 have jA:∀ {n:Str},W.nsIn (KK w.params) mainGlobals n=some none->mg n=none:=fun z=>W.mg_none_of X G z
 have fv:∀ {n:Str} {v:Value},W.nsIn (KK w.params) mainGlobals n=some (some v)->mg n=some v:=fun z=>W.mg_of X G z
 have cl:bT.all (fun C=>Xf.m4 KC.K (KC.cls C) (Xf.m3 C) (Xf.o6 C))=true:=by kernel_rfl
 have xc:∀ C,bT.contains C=true->XC KC.K (KC.cls C):=fun C hc=>(Xf.i8 cl hc).2.xc
 have xV:=Xf.o7 (K:=KK w.params) (D:=Gn .PointError) (by kernel_rfl) (by kernel_rfl) (by kernel_rfl)
 obtain⟨iR,eK⟩:=Xf.i8 cl (C:=.NoPoints) (by decide)
 obtain⟨g8,eL⟩:=Xf.i9 (K:=KK w.params) (x := "__init__") (q := "NoPoints.__init__") (st:=(L2.inClass (top 3) 0)) (a:=48) (cd:=47) (pm:=cQ) (by kernel_rfl) (by kernel_rfl) (by kernel_rfl)
 have M:Nm mg:=⟨jA (n := "bool") (by kernel_rfl),
  jA (n := "enumerate") (by kernel_rfl),
  jA (n := "int") (by kernel_rfl),
  jA (n := "isinstance") (by kernel_rfl),
  jA (n := "len") (by kernel_rfl),
  jA (n := "list") (by kernel_rfl),
  jA (n := "max") (by kernel_rfl),
  jA (n := "min") (by kernel_rfl),
  jA (n := "range") (by kernel_rfl),
  jA (n := "repr") (by kernel_rfl),
  jA (n := "set") (by kernel_rfl),
  jA (n := "sorted") (by kernel_rfl),
  jA (n := "tuple") (by kernel_rfl),
  ⟨566,fv (n := "LAST_KEY") (v:=.int 30 566) (by kernel_rfl)⟩,
  ⟨568,fv (n := "MOST_POINTS") (v:=.int 200 568) (by kernel_rfl)⟩,
  fv (n := "NoAsks") (v:=.ref 89) (by kernel_rfl),
  fv (n := "NoBack") (v:=.ref 266) (by kernel_rfl),
  fv (n := "NoBox") (v:=.ref 70) (by kernel_rfl),
  fv (n := "NoKey") (v:=.ref 253) (by kernel_rfl),
  fv (n := "NoName") (v:=.ref 233) (by kernel_rfl),
  fv (n := "NoPoint") (v:=.ref 213) (by kernel_rfl),
  fv (n := "NoPoints") (v:=.ref 51) (by kernel_rfl),
  fv (n := "NoRow") (v:=.ref 194) (by kernel_rfl),
  fv (n := "NoRun") (v:=.ref 108) (by kernel_rfl),
  fv (n := "NoText") (v:=.ref 127) (by kernel_rfl),
  fv (n := "NoTop") (v:=.ref 170) (by kernel_rfl),
  fv (n := "NoTree") (v:=.ref 158) (by kernel_rfl),
  fv (n := "NoTurn") (v:=.ref 146) (by kernel_rfl),
  fv (n := "NotServed") (v:=.ref 182) (by kernel_rfl),
  fv (n := "PointError") (v:=.ref 31) (by kernel_rfl),
  fv (n := "Points") (v:=.ref 410) (by kernel_rfl),
  fv (n := "TooMany") (v:=.ref 286) (by kernel_rfl),
  fun P w2 base=>⟨⟨48,g8,JW F.excBase_ValueError (by decide +kernel) (XB.of F.excBase_ValueError) iR (by kernel_rfl) (by kernel_rfl),PM eL ⟨eK.xc,by kernel_rfl,by show W.findIn _ _ _=_;kernel_rfl⟩ xV (fv (by kernel_rfl)),eL.binds (ps:=["self","number"]) fun _ _ _ _ _ _ us hl=>match us,hl with | [_,_],_=>rfl⟩,eK⟩,
  Xf.a7 (by kernel_rfl) xc,
  Xf.a7 (by kernel_rfl) xc,
  Xf.a7 (by kernel_rfl) xc,
  Xf.a7 (by kernel_rfl) xc,
  Xf.a7 (by kernel_rfl) xc,
  Xf.a7 (by kernel_rfl) xc,
  Xf.a7 (by kernel_rfl) xc,
  Xf.a7 (by kernel_rfl) xc,
  Xf.a7 (by kernel_rfl) xc,
  Xf.a7 (by kernel_rfl) xc,
  Xf.a7 (by kernel_rfl) xc,
  Xf.a7 (by kernel_rfl) xc,
  Xf.a7 (by kernel_rfl) xc,
  Xf.a7 (by kernel_rfl) xc,
  Xf.a7 (by kernel_rfl) xc,
  Xf.a7 (by kernel_rfl) xc,
  Xf.tT (by kernel_rfl),
  Xf.tU (by kernel_rfl) xc,
  ⟨_,(by kernel_rfl:KC.K.lookup 1=some (Hd.dO w.params [Hd.de "builtins" 162 (.ref 4),Hd.de "__main__" 163 (.ref 5)] 2)),rfl⟩,
  ⟨by kernel_rfl,by kernel_rfl,by kernel_rfl,by kernel_rfl⟩,
  (by show W.findIn _ _ _=_;kernel_rfl)⟩
 have T:gQ mg:=⟨Xf.dB (a:=315) (cd:=314) (pm:=ie) X G,
  Xf.dB (a:=296) (cd:=295) (pm:=ie) X G,
  Xf.dB (a:=303) (cd:=302) (pm:=ie) X G,
  Xf.dB (a:=310) (cd:=309) (pm:=ie) X G,
  ⟨330,(.ref 323),.none,.none,ie,.ref 329,.none,.type "function",none,none, #[],by kernel_rfl,by kernel_rfl,⟨by kernel_rfl,by kernel_rfl,by kernel_rfl,by kernel_rfl⟩,(fun s us X hl=>match us,hl with | [_,_],_=>W.kp_binds X fun S=>by kernel_rfl),(fun s us X hl=>match us,hl with | [_],_=>W.kp_binds X fun S=>by kernel_rfl | [],h=>by simp at h | _::_::_,h=>by simp at h),(fun s a us X hl=>match us,hl with | [_],_=>W.kp_binds X fun S=>by kernel_rfl | [],h=>by simp at h | _::_::_,h=>by simp at h)⟩,
  (let ⟨fd,U⟩:=Xf.i9 (K:=KK w.params) (x := "points") (q := "Points.points") (st:=qv) (a:=337) (cd:=336) (pm:=ie) (by kernel_rfl) (by kernel_rfl) (by kernel_rfl); ⟨337,fd,U,⟨by kernel_rfl,by kernel_rfl,by kernel_rfl⟩⟩),
  Xf.dB (a:=435) (cd:=434) (pm:=pm0) X G,
  Xf.dB (a:=468) (cd:=467) (pm:=pm0) X G,
  Xf.dB (a:=442) (cd:=441) (pm:=pm0) X G,
  Xf.dB (a:=421) (cd:=420) (pm:=pm0) X G,
  Xf.dB (a:=428) (cd:=427) (pm:=pm0) X G,
  Xf.dB (a:=447) (cd:=446) (pm:=pm0) X G,
  Xf.dB (a:=454) (cd:=453) (pm:=pm0) X G,
  Xf.dB (a:=461) (cd:=460) (pm:=pm0) X G,
  Xf.dB (a:=473) (cd:=472) (pm:=pm0) X G⟩
 obtain⟨d,U⟩:=Xf.i9 (K:=KK w.params) (x := "law") (q := "law") (st:=mZ) (a:=473) (cd:=472) (pm:=pm0) (by kernel_rfl) (by kernel_rfl) (by kernel_rfl)
 have e:mg "law" = some (.ref 473):=fv (by kernel_rfl)
 rw[hfa] at e
 cases e
 refine⟨d,fun s v=>?_,fun base _ _=>(Pt T M U).imp fun vs H Q E q=>PQ vs H Q E q⟩
 obtain⟨oc,od,kV,doc,pm,an,cdv,ct,osl,e,_,_⟩:=U.ex
 rw[e]
 exact .of_eq rfl
end cx
namespace cx
open PySem L2 Ex
theorem walk{l:W.OpenLaw}{q:Program}{loose:List Str}{XP:(Str->Option Value)->Heap->Prop}{YP:World->Heap->Prop}{d:DefRec}{K:Params->W.Frag}(hn:l.most=some 63)(hdf:d.params.defaults=[])
 (hY:∀ (w:World) (h:Heap),YP w h->(K w.params).In h)
 (F:∀ (w:World) (mg:Str->Option Value) (fa:Addr) (h:Heap),(K w.params).In h->h.Ns mainGlobals mg->mg d.name=some (.ref fa) ->
  ∃ fd:FuncData,(∀ (s:Shared) (u:Value),BindsTo s fd ⟨[u],[]⟩ [("_law_script",u)])/\∀ base:Heap,(K w.params).In base->base.Ns mainGlobals mg->a8 l.prog w (K w.params) mg base eP 7 fa fd ["_law_script"] (wt (K w.params))) :
 W.WalkO q loose XP YP l.row.toRowW d [] (fun f vs=>PySem.call f vs) :=
 L2.lQ (n:=63) (k:=7) (x := "_law_script") (CX:=fun _=>eP) (sp:=fun w=>wt (K w.params)) hn (by decide) hdf ⟨rfl,by decide,by decide,rfl⟩ hY F (fun _ _ a ns hl _ hS=>⟨a,ns,rfl,hS,hl,fun _=>rfl⟩) fun _ _ _ _ _ z=>z
end cx
open PySem PySem.W PyProof.Rows
set_option maxRecDepth 100000 in
set_option maxHeartbeats 0 in
theorem PySem.Challenge.cw_thirdpoint_k01_points_made_holds : PySem.Challenge.rw_thirdpoint_k01_points_made.Holds := by
 w_on;o_law
 refine PySem.W.holds_open (q:=view PySem.Challenge.pw_thirdpoint_k01_points_made cx.fL) (Yf:=Hook.obs (kHook cx.KK cx.nL cx.eJ)) (Ya:=Hook.val (kHook cx.KK cx.nL cx.eJ)) (YP:=Hook.says (kHook cx.KK cx.nL cx.eJ)) cx.left (Hook.of (kHook cx.KK cx.nL cx.eJ)) (Hook.keeps (kHook cx.KK cx.nL cx.eJ)) (fun s e=>xl_of s (Bool.and_eq_true_iff.mp e).1) XL.keeps (by rfl) (by rfl) (by rfl) (fun s e=>recFacts_of (Bool.and_eq_true_iff.mp e).2) (by rfl) (by first | assumption | decide +kernel) (by decide +kernel) ⟨rfl,rfl,rfl,rfl,rfl,by decide +kernel⟩ ?hw ?hc
 case hw=>w_witness2
 case hc=>exact cx.walk (l:=PySem.Challenge.rw_thirdpoint_k01_points_made) rfl rfl (fun w h Y=>PySem.W.kIn_of Y) fun w mg fa h KX G hmg=>cx.all_mk KX G hmg
