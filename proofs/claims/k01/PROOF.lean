import PyProof.Rows.All
import PyProof.ForAny
import PyProof.TupleKey
import Wide.All
import OpenK.AllK
import Wide.FinOn
import Lean
import PyProof.EqAt
import PyProof.EqKinds
import PyProof.TupleCall
import PyProof.ExcClass3
import PyProof.ExcArgsOwn
import PyProof.InstStoreFacts
import PyProof.NsDelKeeps
import PyProof.CompUse
import PyProof.ConsumeWalk
import PyProof.ReprRoads
import PyProof.ReprBulk
import PyProof.ZipIter
import PyProof.TupleIter
import PyProof.EqLayable
import PyProof.EnumMake
import PyProof.EnumFor
import PyProof.WalkInts
import PyProof.SeqI3
import PyProof.Rows.SeqJoint
import PyProof.Rows.SortWalk
import PyProof.Rows.Range3
import PyProof.Rows.SortRuns
import KE.KSortTup
import PyProof.P3Eq
import PySem.Challenge.RW_thirdpoint_k01_points_made
set_option bootstrap.genMatcherCode false
set_option genSizeOf false
set_option Elab.async false
set_option linter.all false
set_option maxRecDepth 100000
set_option maxHeartbeats 8000000
noncomputable section
namespace St
open PySem
noncomputable def kQ(xs:Array Nat):Prop:=xs.toList.Pairwise (· < ·)
theorem Gf(xs:Array Nat)(j:Nat)(hr:kQ xs):∀ (fuel lo hi:Nat),hi - lo<=fuel->lo<=hi->hi<=xs.size->(∀ i,i<lo->xs.getD i j<j)->(∀ i,hi<=i->i<xs.size->j<=xs.getD i j) ->
 let p:=SetTable.below.go xs j fuel lo hi
 p<=xs.size/\(∀ i,i<p->xs.getD i j<j)/\∀ i,p<=i->i<xs.size->j<=xs.getD i j:=by
 have mono:∀ a b,a<=b->b<xs.size->xs.getD a j<=xs.getD b j:=fun a b h hb=>by
  rcases Nat.lt_or_ge a b with h1 | h1
  · have:=(List.pairwise_iff_getElem.mp hr) a b (by simpa using Nat.lt_trans h1 hb) (by simpa using hb) h1
    simp only[Array.getElem_toList] at this
    rw[Array.getD_eq_getD_getElem?,Array.getD_eq_getD_getElem?,Array.getElem?_eq_getElem hb,Array.getElem?_eq_getElem (Nat.lt_trans h1 hb)]
    exact Nat.le_of_lt this
  · have:a=b:=by omega
    subst this;exact Nat.le_refl _
 intro fuel
 induction fuel with
 |zero =>
   intro lo hi h1 h2 h3 h4 h5
   have:lo=hi:=by omega
   subst this
   exact⟨h3,h4,h5⟩
 |succ f ih =>
   intro lo hi h1 h2 h3 h4 h5
   dsimp only
   unfold SetTable.below.go
   by_cases c:lo<hi
   · rw[if_pos c]
     dsimp only
     by_cases c2:xs.getD ((lo+hi) / 2) j<j
     · rw[if_pos c2]
       exact ih _ _ (by omega) (by omega) h3 (fun i hi'=>Nat.lt_of_le_of_lt (mono i _ (by omega) (by omega)) c2) h5
     · rw[if_neg c2]
       exact ih _ _ (by omega) (by omega) (by omega) h4 (fun i hi' hs=>Nat.le_trans (Nat.le_of_not_lt c2) (mono _ i hi' hs))
   · rw[if_neg c]
     have:lo=hi:=by omega
     subst this
     exact⟨h3,h4,h5⟩
theorem wc{xs:Array Nat}(hr:kQ xs)(j:Nat):SetTable.below xs j<=xs.size/\(∀ i,i<SetTable.below xs j->xs.getD i j<j)/\∀ i,SetTable.below xs j<=i->i<xs.size->j<=xs.getD i j :=
 Gf xs j hr xs.size 0 xs.size (by omega) (Nat.zero_le _) (Nat.le_refl _) (fun i h=>absurd h (Nat.not_lt_zero _)) (fun i h1 h2=>absurd h2 (Nat.not_lt_of_le h1))
theorem lH{xs:Array Nat}{i j:Nat}(h:i<xs.size):xs.getD i j=xs[i]:=by
 rw[Array.getD_eq_getD_getElem?,Array.getElem?_eq_getElem h];rfl
theorem Gg{xs:Array Nat}(hr:kQ xs){j:Nat}(hj:xs[SetTable.below xs j]? ≠ some j):kQ (SetTable.insertAt xs (SetTable.below xs j) j):=by
 obtain⟨h1,h2,h3⟩:=wc hr j
 have hr':=hr
 unfold kQ at hr ⊢
 rw[SetTable.toList_insertAt]
 have hs:(xs.toList.take (SetTable.below xs j)++xs.toList.drop (SetTable.below xs j)).Pairwise (· < ·):=by rw[List.take_append_drop];exact hr
 rw[List.pairwise_append] at hs ⊢
 have lo:∀ a∈xs.toList.take (SetTable.below xs j),a<j:=fun a ha=>by
  obtain⟨i,hi,rfl⟩:=List.mem_iff_getElem.mp ha
  have hi':i<SetTable.below xs j/\i<xs.size:=by simp at hi;omega
  have:=h2 i hi'.1
  rw[lH hi'.2] at this
  simpa using this
 have hi:∀ a∈xs.toList.drop (SetTable.below xs j),j<a:=fun a ha=>by
  obtain⟨i,hi,rfl⟩:=List.mem_iff_getElem.mp ha
  have hi':SetTable.below xs j+i<xs.size:=by simp at hi;omega
  have hb:SetTable.below xs j<xs.size:=by omega
  have l1:=h3 (SetTable.below xs j) (Nat.le_refl _) hb
  rw[lH hb] at l1
  have l2:xs[SetTable.below xs j]≠j:=fun e=>hj (by rw[Array.getElem?_eq_getElem hb,e])
  have l3:=h3 (SetTable.below xs j+i) (Nat.le_add_right _ _) hi'
  rw[lH hi'] at l3
  simp only[List.getElem_drop,Array.getElem_toList]
  rcases Nat.eq_zero_or_pos i with z | z
  · subst z
    exact Nat.lt_of_le_of_ne l1 (Ne.symm l2)
  · have:=(List.pairwise_iff_getElem.mp hr) (SetTable.below xs j) (SetTable.below xs j+i) (by simpa using hb) (by simpa using hi') (by omega)
    simp only[Array.getElem_toList] at this
    omega
 refine⟨hs.1,List.pairwise_cons.mpr ⟨hi,hs.2.1⟩,fun a ha b hb=>?_⟩
 rcases List.mem_cons.1 hb with rfl | hb
 · exact lo a ha
 · exact Nat.lt_trans (lo a ha) (hi b hb)
theorem AN(j:Nat):SetTable.has #[] j=false:=by
 unfold SetTable.has
 simp
theorem Gh{t:SetTable}(hd:t.dummies = #[]){j:Nat}(h:t.slot j = .empty):t.place[SetTable.below t.place j]? ≠ some j:=by
 unfold SetTable.slot at h
 dsimp only at h
 intro e
 rw[e] at h
 simp at h
theorem tP{t:SetTable}(hd:t.dummies = #[])(j:Nat):t.slot j ≠ .dummy:=by
 unfold SetTable.slot
 dsimp only
 rw[hd,AN]
 split
 · intro h;cases h
 · intro h;cases h
theorem Gi{t:SetTable}(hd:t.dummies = #[])(f:Nat->Int)(h:Int):∀ (n:Nat) (p:SetTable.Probe) (j:Nat) (d:Option Nat),p.dummy=none->SetTable.probe.go t f h n p=some (.empty j d)->d=none/\t.slot j = .empty:=by
 intro n
 induction n with
 |zero=>intro p j d _ e;cases e
 |succ n ih =>
   intro p j d hp e
   unfold SetTable.probe.go at e
   split at e
   · rename_i q
     cases e
     exact⟨hp,q⟩
   · rename_i q
     exact absurd q (tP hd _)
   · rename_i i q
     split at e
     · cases e
     · refine ih _ j d ?_ e
       unfold SetTable.advance
       split
       · exact hp
       · exact hp
structure o4(t:SetTable)(B:Bool):Prop where
 rise:kQ t.place
 m3:t.dummies = #[]
 led:t.led = !B
theorem Gj(owner:Array (Option Nat))(n:Nat):((((List.range n).filterMap fun j=>(owner.getD j none).map (j, ·)).map (·.1)).toArray).toList.Pairwise (· < ·):=by
 have e:(((List.range n).filterMap fun j=>(owner.getD j none).map (j, ·)).map (·.1))=(List.range n).filter fun j=>(owner.getD j none).isSome:=by
  induction List.range n with
  |nil=>rfl
  |cons a r ih =>
    rw[List.filterMap_cons,List.filter_cons]
    cases q:owner.getD a none with
    |none=>simpa [q] using ih
    |some b=>simpa [q] using ih
 rw[e]
 exact List.Pairwise.sublist List.filter_sublist List.pairwise_lt_range
theorem o4.fresh(B:Bool):o4 (.fresh 0 0 (!B)) B:=⟨List.Pairwise.nil,rfl,rfl⟩
end St
namespace St
open PySem PyProof.Rows
noncomputable def bh(es:Array (Int×Value))(ep:Nat)(t:SetTable):Obj:={ cls:=.type "set",dict:=none,data:=.set es ep t,slots := #[] }
section
variable{prog:Program}{w:World}{A:Around}{E:Value->Shared->Prop}{s:Shared}
theorem AO{h:Heap}{a:Addr}{es es':Array (Int×Value)}{ep:Nat}{t t':SetTable}(e:h.get? a=some (bh es ep t)):(h.update a (Obj.putSet es' t')).get? a=some (bh es' (ep+1) t') :=
 Heap.get?_update_self (Obj.putSet es' t') e rfl
end
end St
namespace St
open PySem PyProof.Rows PySem.Spec
section
variable{prog:Program}{w:World}{A:Around}{E:Value->Shared->Prop}{s:Shared}
theorem Gk(a:Value){Q₁:Value->Shared->Prop}(h:Q₁ (.ref s.heap.objs.size) { s with heap:=s.heap.push (bh #[] 0 (.fresh 0 0 (!(w.params.followText "set-order")))) }) :
 codeAny (model prog w) A (.call (.builtin "set.__new__") ⟨[.type "set",a],[]⟩) (wants Q₁ E) s:=by
 have self:=sub_set_self
 refine codeAny_call_builtin F.plain_set_new F.entry_set_new (by
  rw[F.newCall_set_1 a]
  refine wpAny_pure ?_
  unfold Builtin.«set.__new__»
  unfold Builtin.Frozenset.newClass
  cases s
  dsimp only
  wp_walk
  refine wpAny_askSetting ?_
  refine wpAny_pure ?_
  refine wpAny_bind ?_
  exact wpAny_alloc (wpAny_pure (wpAny_pure h)))
theorem AQ{Q₁:Value->Shared->Prop}{R:Result->Shared->Prop}(h:∀ v s,Q₁ v s->R (.ok (.ret v)) s)(he:∀ e s,E e s->R (.error e) s):∀ r s,wants Q₁ E r s->R r s:=by
 intro r s hr
 cases r with
 |error e=>exact he e s hr
 |ok f=>cases f<;>first | exact h _ _ hr | exact hr.elim
theorem Gm{l:Addr}{Q:Value->Shared->Prop}{O:Obj}(hO:bh #[] 0 (.fresh 0 0 (!(w.params.followText "set-order")))=O)
 (h:wpAny (model prog w) A.in1.in1 (Builtin.«set.__init__» ⟨[.ref s.heap.objs.size,.ref l],[]⟩) (fun fin s'=>match fin with
  | .done f=>wants (fun r s2=>r = .none/\Q (.ref s.heap.objs.size) s2) E (.ok f) s'
  | .again c'=>c'.quiet=true/\codeAny (model prog w) A.in1 c' (wants (fun r s2=>r = .none/\Q (.ref s.heap.objs.size) s2) E) s')
  (fun e s'=>wants (fun r s2=>r = .none/\Q (.ref s.heap.objs.size) s2) E (.error e) s') { s with heap:=s.heap.push O }):wpAny (model prog w) A (call (.type "set") [.ref l]) Q E s:=by
 obtain⟨f1,f2,⟨c,tl,f3⟩,f4,f5,f6,f7⟩:=F.called_set
 have f8:=F.typeCall_set_1 (.ref l)
 have f9:=f7.lookup
 have fa:=f7.bind (.ref s.heap.objs.size)
 have made:=Gk (prog:=prog) (w:=w) (A:=A.in1) (E:=E) (s:=s) (.ref l) (Q₁:=fun v s1=>v = .ref s.heap.objs.size/\s1={ s with heap:=s.heap.push O }) ⟨rfl,by rw[hO]⟩
 have hT:Shared.TypeIs { s with heap:=s.heap.push O } (.ref s.heap.objs.size) "set" := ⟨O,Heap.get?_push_size _ (by rw[<- hO];rfl),by rw[<- hO];rfl⟩
 have ini:=codeAny_call_builtin f7.plain F.entry_set_init (check_set_init_1 (M:=model prog w) hT h)
 refine wpAny_call (codeAny_of_tree (show wpAny _ _ (callAny (.type "set") _) _ _ _ from wpAny_pure ⟨Code.quiet_builtin _ (by decide +kernel),codeAny_builtin F.entry_type_call (by
  rw[Around.under_plain (weight_type_call_type "set" _ []) rfl]
  repeat (any_goals (first | wp_step | assumption))
  refine codeAny_mono made (AQ ?_ fun _ _ z=>z)
  rintro v s1 ⟨rfl,rfl⟩
  repeat (any_goals (first | wp_step | assumption))
  refine codeAny_mono ini (AQ ?_ fun _ _ z=>z)
  rintro v s2 ⟨rfl,q⟩
  repeat (any_goals (first | wp_step | assumption)))⟩))
end
theorem bb:Slot "set_iterator" "__next__" "set_iterator.__next__" :=
 .of (owner := "set_iterator") (n := "__next__") (by rw[typeLookup_type,builtinLookup_eq_fast];kernel_rfl) (by decide +kernel) (by decide +kernel) (by decide +kernel) (by first | exact .inl (by decide +kernel) | exact .inr (by decide +kernel)) (by rw[isSubtype_type];kernel_rfl)
theorem AR:Slot "set_iterator" "__iter__" "set_iterator.__iter__" :=
 .of (owner := "set_iterator") (n := "__iter__") (by rw[typeLookup_type,builtinLookup_eq_fast];kernel_rfl) (by decide +kernel) (by decide +kernel) (by decide +kernel) (by first | exact .inl (by decide +kernel) | exact .inr (by decide +kernel)) (by rw[isSubtype_type];kernel_rfl)
theorem tQ:entryFor table "set_iterator.__next__" = some Builtin.«set_iterator.__next__» := entryFor_of_tree (by kernel_rfl)
theorem Gn:entryFor table "set_iterator.__iter__" = some Builtin.«dict_keyiterator.__iter__» := entryFor_alias (id' := "dict_keyiterator.__iter__") (by kernel_rfl) rfl (by decide +kernel) (by kernel_rfl)
theorem Gq:entryFor table "set.__iter__" = some Builtin.«frozenset.__iter__» := entryFor_alias (id' := "frozenset.__iter__") (by kernel_rfl) rfl (by decide +kernel) (by kernel_rfl)
theorem tR(a:Value):argsOk "set_iterator.__next__" ⟨[a],[]⟩:=by unfold argsOk;kernel_rfl
theorem Gr(a:Value):argsOk "set_iterator.__iter__" ⟨[a],[]⟩:=by unfold argsOk;kernel_rfl
noncomputable def kR(f:Value)(i:Nat)(a:Addr)(n ep:Nat):Obj:={ cls:=.type "set_iterator",dict:=none,data:=.fields #[f,.int i 0,.ref a,.int n 0,.int ep 0],slots := #[] }
section
variable{prog:Program}{w:World}{A:Around}{E:Value->Shared->Prop}{s:Shared}{I a:Addr}{es:Array (Int×Value)}{ep i n:Nat}{t:SetTable}{f:Value}{Q:Option Value->Shared->Prop}
theorem stops{s:Shared}{I:Addr}{P:Fin->Shared->Prop}(hh:A.handled=none)(hQ:∀ h',(∀ b o,b≠I->s.heap.get? b=some o->h'.get? b=some o)->Q none { s with heap:=h' }) :
 wpAny (model prog w) A.in1 (do raiseNew (<- newExc (.type "StopIteration") []):Sem Fin) P (fun e s1=>wpAny (model prog w) A (do if <- isInstance e (.type "StopIteration") then pure none else throw e) Q E s1) s:=by
 refine wpAny_bind ?_
 unfold newExc newTuple
 refine wpAny_bind (wpAny_newObj_type (wpAny_bind (m:=firstArgMember _ _) (wpAny_of_eq (a:=Value.none) (by simp only[firstArgMember];rfl) (wpAny_newObj_type ?_ (by size_fits)))) (by size_fits))
 exact wpAny_raiseNew_none hh (wpAny_bind (wpAny_isInstance (T := "StopIteration") ⟨_,Heap.get?_push_size _ rfl,rfl⟩ isSubtype_stop (wpAny_pure (hQ _ fun b o _ e=>Heap.get?_push_of_some _ (Heap.get?_push_of_some _ e)))))
theorem Gu{slot nxt:Nat}{x:Value}(hI:s.heap.get? I=some (kR (.int slot 0) i a es.size ep))(ha:s.heap.get? a=some (bh es ep t))(hf:t.fits es.size=true)
 (hN:∀ {Q':Option (Value×Nat)->Shared->Prop} {E'},Q' (some (x,nxt)) s->wpAny (model prog w) A.in1 (setNext a slot i ep) Q' E' s)
 (hQ:∀ h',h'.get? I=some (kR (.int nxt 0) (i+1) a es.size ep)->(∀ b o,b≠I->s.heap.get? b=some o->h'.get? b=some o)->Q (some x) { s with heap:=h' }):wpAny (model prog w) A (pyNext (.ref I)) Q E s:=by
 have hTy:Shared.TypeIs _ (.ref I) "set_iterator" := ⟨_,hI,rfl⟩
 unfold pyNext
 refine wpAny_bind (wpAny_attempt (wpAny_callSpecial?_slot (name:=Str.ofString "__next__") hTy bb (wpAny_call_entry bb hTy tQ ?_ (tR _))))
 show wpAny _ _ (fieldsOf (.ref I) >>= _) _ _ _
 refine wpAny_bind (wpAny_fieldsOf hI rfl ?_)
 show wpAny _ _ (setEntries a >>= _) _ _ _
 refine wpAny_bind (wpAny_setEntries_of ha rfl hf ?_)
 rw[if_neg (by simp)]
 dsimp only
 refine wpAny_bind (hN ?_)
 dsimp only
 refine wpAny_bind (wpAny_setField_rec hI (by simp) fun h1 g1 kS=>?_)
 refine wpAny_bind (wpAny_setField_rec g1 (by simp) fun h2 g2 wd=>?_)
 exact wpAny_pure ⟨_,rfl,wpAny_pure (hQ h2 g2 fun b o hb e=>wd.extBut b o hb (kS.extBut b o hb e))⟩
theorem Gv{slot:Nat}(hh:A.handled=none)(hI:s.heap.get? I=some (kR (.int slot 0) i a es.size ep))(ha:s.heap.get? a=some (bh es ep t))(hf:t.fits es.size=true)
 (hN:∀ {Q':Option (Value×Nat)->Shared->Prop} {E'},Q' none s->wpAny (model prog w) A.in1 (setNext a slot i ep) Q' E' s)
 (hQ:∀ h',(∀ b o,b≠I->s.heap.get? b=some o->h'.get? b=some o)->Q none { s with heap:=h' }):wpAny (model prog w) A (pyNext (.ref I)) Q E s:=by
 have hTy:Shared.TypeIs _ (.ref I) "set_iterator" := ⟨_,hI,rfl⟩
 unfold pyNext
 refine wpAny_bind (wpAny_attempt (wpAny_callSpecial?_slot (name:=Str.ofString "__next__") hTy bb (wpAny_call_entry bb hTy tQ ?_ (tR _))))
 show wpAny _ _ (fieldsOf (.ref I) >>= _) _ _ _
 refine wpAny_bind (wpAny_fieldsOf hI rfl ?_)
 show wpAny _ _ (setEntries a >>= _) _ _ _
 refine wpAny_bind (wpAny_setEntries_of ha rfl hf ?_)
 rw[if_neg (by simp)]
 dsimp only
 refine wpAny_bind (hN ?_)
 dsimp only
 refine wpAny_bind (wpAny_setField_rec hI (by simp) fun h1 g1 kS=>?_)
 exact stops (I:=I) hh fun h' k=>hQ h' fun b o hb e=>k b o hb (kS.extBut b o hb e)
theorem Gw{T:Addr}{ps:Array Value}{c p:Nat}{x:Int×Value}(hI:s.heap.get? I=some (kR (.ref T) i a es.size ep))(ha:s.heap.get? a=some (bh es ep t))(hf:t.fits es.size=true)
 (hT:s.heap.get? T=some { cls:=.type "tuple",dict:=none,data:=.seq ps c,slots := #[] }) (hp:ps[i]? = some (.int p 0)) (hx:es[p]? = some x)
 (hQ:∀ h',h'.get? I=some (kR (.ref T) (i+1) a es.size ep)->(∀ b o,b≠I->s.heap.get? b=some o->h'.get? b=some o)->Q (some x.2) { s with heap:=h' }):wpAny (model prog w) A (pyNext (.ref I)) Q E s:=by
 have hTy:Shared.TypeIs _ (.ref I) "set_iterator" := ⟨_,hI,rfl⟩
 unfold pyNext
 refine wpAny_bind (wpAny_attempt (wpAny_callSpecial?_slot (name:=Str.ofString "__next__") hTy bb (wpAny_call_entry bb hTy tQ ?_ (tR _))))
 show wpAny _ _ (fieldsOf (.ref I) >>= _) _ _ _
 refine wpAny_bind (wpAny_fieldsOf hI rfl ?_)
 show wpAny _ _ (setEntries a >>= _) _ _ _
 refine wpAny_bind (wpAny_setEntries_of ha rfl hf ?_)
 rw[if_neg (by simp)]
 dsimp only
 refine wpAny_bind (wpAny_seqItems hT rfl ?_)
 simp only[Int.toNat_natCast,hp]
 refine wpAny_bind ?_
 unfold setNextDrawn
 refine wpAny_bind (wpAny_setState_of ha rfl hf ?_)
 dsimp only
 rw[if_neg (by simp)]
 simp only[Int.toNat_natCast,hx]
 refine wpAny_pure ?_
 refine wpAny_bind (wpAny_setField_rec hI (by simp) fun h1 g1 kS=>?_)
 exact wpAny_pure ⟨_,rfl,wpAny_pure (hQ h1 g1 fun b o hb e=>kS.extBut b o hb e)⟩
theorem Gx{T:Addr}{ps:Array Value}{c:Nat}(hh:A.handled=none)(hI:s.heap.get? I=some (kR (.ref T) i a es.size ep))(ha:s.heap.get? a=some (bh es ep t))(hf:t.fits es.size=true)
 (hT:s.heap.get? T=some { cls:=.type "tuple",dict:=none,data:=.seq ps c,slots := #[] }) (hp:ps[i]? = none)
 (hQ:∀ h',(∀ b o,b≠I->s.heap.get? b=some o->h'.get? b=some o)->Q none { s with heap:=h' }):wpAny (model prog w) A (pyNext (.ref I)) Q E s:=by
 have hTy:Shared.TypeIs _ (.ref I) "set_iterator" := ⟨_,hI,rfl⟩
 unfold pyNext
 refine wpAny_bind (wpAny_attempt (wpAny_callSpecial?_slot (name:=Str.ofString "__next__") hTy bb (wpAny_call_entry bb hTy tQ ?_ (tR _))))
 show wpAny _ _ (fieldsOf (.ref I) >>= _) _ _ _
 refine wpAny_bind (wpAny_fieldsOf hI rfl ?_)
 show wpAny _ _ (setEntries a >>= _) _ _ _
 refine wpAny_bind (wpAny_setEntries_of ha rfl hf ?_)
 rw[if_neg (by simp)]
 dsimp only
 refine wpAny_bind (wpAny_seqItems hT rfl ?_)
 simp only[Int.toNat_natCast,hp]
 refine wpAny_bind (wpAny_setField_rec hI (by simp) fun h1 g1 kS=>?_)
 refine wpAny_bind (wpAny_setField_rec g1 (by simp) fun h2 g2 wd=>?_)
 exact stops (I:=I) hh fun h' k=>hQ h' fun b o hb e=>k b o hb (wd.extBut b o hb (kS.extBut b o hb e))
theorem AS{Q:Value->Shared->Prop}(hI:s.heap.get? I=some (kR f i a n ep))(hQ:Q (.ref I) s):wpAny (model prog w) A (pyIter (.ref I)) Q E s:=by
 have hT:s.TypeIs (.ref I) "set_iterator" := ⟨_,hI,rfl⟩
 refine wpAny_pyIter_slot hT AR (wpAny_call_entry AR hT Gn ?_ (Gr _))
 exact wpAny_pure ⟨_,rfl,"set_iterator",_,hT,bb.lookup,hQ⟩
end
theorem AU{α:Type}{l:List α}{i:Nat}(h:i<l.length):(l[i]::l.eraseIdx i).Perm l:=by
 rw[List.eraseIdx_eq_take_drop_succ]
 refine List.perm_middle.symm.trans ?_
 rw[<- List.drop_eq_getElem_cons h,List.take_append_drop]
theorem Gy{α:Type}(next:Nat->Nat):∀ (fuel k:Nat) (left:List α) (out:Array α),fuel=left.length->((pickOrder.go next fuel k left out).toList).Perm (out.toList++left):=by
 intro fuel
 induction fuel with
 |zero =>
   intro k left out h
   have:left=[]:=List.length_eq_zero_iff.mp h.symm
   subst this
   unfold pickOrder.go
   simp
 |succ f ih =>
   intro k left out h
   unfold pickOrder.go
   have hlt:next k % left.length<left.length:=Nat.mod_lt _ (by omega)
   rw[List.getElem?_eq_getElem hlt]
   dsimp only
   refine(ih (k+1) _ _ (by rw[List.length_eraseIdx_of_lt hlt];omega)).trans ?_
   rw[Array.toList_push,List.append_assoc]
   exact List.Perm.append_left _ (AU hlt)
theorem Gz{α:Type}(next:Nat->Nat)(xs:Array α):(pickOrder next xs).toList.Perm xs.toList:=by
 have:=Gy next xs.size 0 xs.toList #[] (by simp)
 simpa [pickOrder] using this
section
variable{prog:Program}{w:World}{A:Around}{E:Value->Shared->Prop}{s:Shared}{I a:Addr}{es:Array (Int×Value)}{ep n:Nat}{t:SetTable}
theorem GA{src:Source}{n:Nat}(hn:n≠0){Q:Nat->Shared->Prop}(h:∀ i d,i<n->Q i { s with drawn:=d }):wpAny (model prog w) A (choose src n) Q E s:=by
 intro Γ p tS
 unfold choose
 rw[Sem.wp_choose]
 refine⟨hn,?_⟩
 exact h _ _ (Nat.mod_lt _ (Nat.pos_of_ne_zero hn))
theorem GB{α:Type}:∀ (n:Nat) (xs:List α) (s:Shared) (Q:List α->Shared->Prop),n=xs.length->(∀ l d,l.Perm xs->Q l { s with drawn:=d })->wpAny (model prog w) A (drawOrder n xs) Q E s:=by
 intro n
 induction n with
 |zero =>
   intro xs s Q h q
   have:xs=[]:=List.length_eq_zero_iff.mp h.symm
   subst this
   unfold drawOrder
   exact wpAny_pure (q [] s.drawn .nil)
 |succ n ih =>
   intro xs s Q h q
   cases xs with
   |nil=>cases h
   |cons x r =>
     unfold drawOrder
     refine wpAny_bind (GA (by simp) fun i d hi=>?_)
     rw[List.getElem?_eq_getElem hi]
     dsimp only
     refine wpAny_bind (ih _ _ _ (by rw[List.length_eraseIdx_of_lt hi];simp at h ⊢;omega) fun l d' pl=>?_)
     exact wpAny_pure (q _ d' ((List.Perm.cons _ pl).trans (AU hi)))
noncomputable def pos(xs:Array Nat):Nat->Nat
 | 0=>0
 |k+1=>xs.getD k 0+1
theorem AV{xs:Array Nat}(hr:kQ xs){i:Nat}(hi:i<=xs.size):SetTable.below xs (pos xs i)=i:=by
 obtain⟨h1,h2,h3⟩:=wc hr (pos xs i)
 generalize SetTable.below xs (pos xs i)=p at h1 h2 h3
 cases i with
 |zero =>
   rcases Nat.eq_zero_or_pos p with z | z
   · exact z
   · exact absurd (h2 0 z) (Nat.not_lt_zero _)
 |succ k =>
   have hk:k<xs.size:=hi
   have ek:pos xs (k+1)=xs[k]+1:=by show xs.getD k 0+1=_;rw[lH hk]
   rw[ek] at h2 h3
   have lt:∀ a b (ha:a<b) (hb:b<xs.size),xs[a]<xs[b]:=fun a b ha hb=>by
    have:=(List.pairwise_iff_getElem.mp hr) a b (by simpa using Nat.lt_trans ha hb) (by simpa using hb) ha
    simpa using this
   have a1:k<p:=Nat.lt_of_not_le fun z=>by
    have:=h3 k z hk
    rw[lH hk] at this
    omega
   have a2:p<=k+1:=Nat.le_of_not_lt fun z=>by
    have l1:=h2 (k+1) z
    have hk1:k+1<xs.size:=by omega
    rw[lH hk1] at l1
    have:=lt k (k+1) (Nat.lt_succ_self _) hk1
    omega
   omega
theorem AW(ha:s.heap.get? a=some (bh es ep t))(hf:t.fits es.size=true)(hB:w.params.followText "set-order" = true){slot i:Nat}{Q:Option (Value×Nat)->Shared->Prop}
 (h:Q (((pickOrder (w.params.setOrder a ep) es)[i]?).map fun e=>(e.2,slot)) s):wpAny (model prog w) A (setNext a slot i ep) Q E s:=by
 unfold setNext
 refine wpAny_bind (wpAny_setState_of ha rfl hf ?_)
 dsimp only
 refine wpAny_bind ?_
 unfold setsByText
 refine wpAny_bind (wpAny_askSetting (wpAny_pure ?_))
 dsimp only
 rw[show(model prog w).w.params.followText "set-order" = true from hB,if_pos rfl,if_neg (by simp)]
 refine wpAny_bind ?_
 unfold setWalk setsByText
 refine wpAny_bind (wpAny_setState_of ha rfl hf ?_)
 dsimp only
 refine  wpAny_bind (wpAny_bind (wpAny_askSetting (wpAny_pure ?_)))
 dsimp only
 rw[show(model prog w).w.params.followText "set-order" = true from hB,if_pos rfl]
 refine wpAny_bind (wpAny_askSetting (wpAny_pure (wpAny_pure h)))
theorem AX(ha:s.heap.get? a=some (bh es ep t))(hf:t.fits es.size=true)(hB:w.params.followText "set-order" = false)(hl:t.led=true)(hd:(!t.plain && decide (es.size > 1))=false){slot i:Nat}{Q:Option (Value×Nat)->Shared->Prop}
 (h:Q (match es[SetTable.below t.place slot]?,t.place[SetTable.below t.place slot]? with | some (_,x),some j=>some (x,j+1) | _,_=>none) s):wpAny (model prog w) A (setNext a slot i ep) Q E s:=by
 unfold setNext
 refine wpAny_bind (wpAny_setState_of ha rfl hf ?_)
 dsimp only
 refine wpAny_bind ?_
 unfold setsByText
 refine wpAny_bind (wpAny_askSetting (wpAny_pure ?_))
 dsimp only
 rw[show(model prog w).w.params.followText "set-order" = false from hB,if_neg (by simp)]
 split
 · rename_i z
   have z':(!t.plain && decide (es.size > 1))=true:=z
   rw[hd] at z'
   cases z'
 · refine wpAny_bind (wpAny_of_eq (a:=()) ?_ ?_)
   · show(if (!t.led && !es.isEmpty)=true then unsupported "set:maker-not-led" else pure ())=pure ()
     rw[hl]
     rfl
   · exact wpAny_pure h
theorem AY(hh:A.handled=none)(hf:t.fits es.size=true)(hne:a≠I){vs:List Value}{fst:Nat->Nat}
 (hi:∀ (i:Nat) (v:Value),vs[i]? = some v->∀ {s:Shared} {A':Around} {Q':Option (Value×Nat)->Shared->Prop} {E'},s.heap.get? a=some (bh es ep t)->Q' (some (v,fst (i+1))) s->wpAny (model prog w) A' (setNext a (fst i) i ep) Q' E' s)
 (hd:∀ {s:Shared} {A':Around} {Q':Option (Value×Nat)->Shared->Prop} {E'},s.heap.get? a=some (bh es ep t)->Q' none s->wpAny (model prog w) A' (setNext a (fst vs.length) vs.length ep) Q' E' s) :
 Walks prog w A I [I,a] [I] vs.length (fun i v=>vs[i]? = some v) (fun i h=>h.get? I=some (kR (.int (fst i) 0) i a es.size ep)/\h.get? a=some (bh es ep t)) where
 sub:=fun b hb=>by simp at hb;simp[hb]
 frame:=fun i h h' st k=>⟨k I (by simp) _ st.1,k a (by simp) _ st.2⟩
 item:=fun i s Q E hlt st hQ=>by
  refine Gu (x:=vs[i]) (nxt:=fst (i+1)) st.1 st.2 hf (fun q=>hi i _ (List.getElem?_eq_getElem hlt) st.2 q) fun h' g k=>?_
  exact hQ _ h' s.toks (List.getElem?_eq_getElem hlt) ⟨g,k a _ hne st.2⟩ fun b o hb e=>k b o (fun z=>hb (by simp[z])) e
 done:=fun s Q E st hQ=>Gv hh st.1 st.2 hf (fun q=>hd st.2 q) fun h' k=>hQ h' s.toks fun b o hb e=>k b o (fun z=>hb (by simp[z])) e
 self:=fun _ _ _ _ st hQ=>AS st.1 hQ
theorem GC(hh:A.handled=none)(hf:t.fits es.size=true)(hne:a≠I){T:Addr}(hT:T≠I){ps:List Nat}{c:Nat}{vs:List Value}(hl:ps.length=vs.length)
 (hv:∀ (i p:Nat),ps[i]? = some p->∃ x,es[p]? = some x/\vs[i]? = some x.2) :
 Walks prog w A I [I,a,T] [I] vs.length (fun i v=>vs[i]? = some v) (fun i h=>h.get? I=some (kR (.ref T) i a es.size ep)/\h.get? a=some (bh es ep t)/\h.get? T=some { cls:=.type "tuple",dict:=none,data:=.seq (ps.map fun (p:Nat)=>rawInt p).toArray c,slots := #[] }) where
 sub:=fun b hb=>by simp at hb;simp[hb]
 frame:=fun i h h' st k=>⟨k I (by simp) _ st.1,k a (by simp) _ st.2.1,k T (by simp) _ st.2.2⟩
 item:=fun i s Q E hlt st hQ=>by
  have hlt':i<ps.length:=by omega
  obtain⟨x,hx,GD⟩:=hv i ps[i] (List.getElem?_eq_getElem hlt')
  refine Gw (p:=ps[i]) (x:=x) st.1 st.2.1 hf st.2.2 (by simp[List.getElem?_eq_getElem hlt',rawInt]) hx fun h' g k=>?_
  exact hQ _ h' s.toks GD ⟨g,k a _ hne st.2.1,k T _ hT st.2.2⟩ fun b o hb e=>k b o (fun z=>hb (by simp[z])) e
 done:=fun s Q E st hQ=>Gx hh st.1 st.2.1 hf st.2.2 (by simp[hl]) fun h' k=>hQ h' s.toks fun b o hb e=>k b o (fun z=>hb (by simp[z])) e
 self:=fun _ _ _ _ st hQ=>AS st.1 hQ
end
section
variable{prog:Program}{w:World}{A:Around}{E:Value->Shared->Prop}{s:Shared}{a:Addr}{es:Array (Int×Value)}{ep:Nat}{t:SetTable}
theorem GF(hf:t.fits es.size=true):t.place.size=es.size:=by
 simp only[SetTable.fits,Bool.and_eq_true,beq_iff_eq,decide_eq_true_eq] at hf
 exact hf.1
theorem GG{Q:Value->Shared->Prop}(ha:s.heap.get? a=some (bh es ep t))(hon:o4 t (w.params.followText "set-order"))(hf:t.fits es.size=true)(hz:es.size<=sizeLine)
 (h:∀ (I:Addr) (h':Heap) (d:Drawn) (fp:List Addr) (vs:List Value) (Wt:Nat->Heap->Prop),s.heap.objs.size<=I->(∀ b o,s.heap.get? b=some o->h'.get? b=some o)->(∀ b∈fp,b=a\/s.heap.objs.size<=b) ->
  vs.Perm (es.toList.map (·.2))->(∀ A':Around,A'.handled=none->Walks prog w A' I fp [I] vs.length (fun i v=>vs[i]? = some v) Wt)->Wt 0 h'->Q (.ref I) { s with heap:=h',drawn:=d }):wpAny (model prog w) A (pyIter (.ref a)) Q E s:=by
 have hT:s.TypeIs (.ref a) "set" := ⟨_,ha,rfl⟩
 have alt:a<s.heap.objs.size:=Heap.lt_size ha
 refine wpAny_pyIter_slot hT F.slot_set_iter (wpAny_call_entry F.slot_set_iter hT Gq ?_ (F.args_set_iter_1 _))
 show wpAny _ _ (Builtin.Frozenset.sizeOf a >>= _) _ _ _
 refine wpAny_bind ?_
 unfold Builtin.Frozenset.sizeOf
 refine wpAny_bind (wpAny_setEntries_of ha rfl hf (wpAny_pure ?_))
 refine wpAny_bind ?_
 unfold setDrawn setsByText
 refine wpAny_bind (wpAny_setState_of ha rfl hf ?_)
 dsimp only
 refine  wpAny_bind (wpAny_bind (wpAny_askSetting (wpAny_pure ?_)))
 dsimp only
 refine wpAny_pure ?_
 have fin:∀ (f:Value) (h1:Heap) (d:Drawn),h1.get? a=some (bh es ep t)->s.heap.objs.size<=h1.objs.size->(h1.get? h1.objs.size=none->Q (.ref h1.objs.size) { s with heap:=h1.push (kR f 0 a es.size ep),drawn:=d }) ->
  wpAny (model prog w) A.in1 (do ret (<- newFields "set_iterator" [f,rawInt 0,.ref a,rawInt es.size,rawInt (<- setEpoch a)]):Sem Fin) (fun r s1=>∃ v,r = .done (.ret v)/\∃ T' r,s1.TypeIs v T'/\typeLookup (.type T') "__next__" = pure (some r)/\Q v s1) E { s with heap:=h1,drawn:=d }:=by
  intro f h1 d g le q
  refine wpAny_bind (wpAny_setEpoch_of (s:={ s with heap:=h1,drawn:=d }) g rfl hf ?_)
  refine wpAny_bind (wpAny_newObj_type (wpAny_pure ⟨_,rfl,"set_iterator",_,⟨_,Heap.get?_push_size _ rfl,rfl⟩,bb.lookup,q ?_⟩))
  cases z:h1.get? h1.objs.size with
  |none=>rfl
  |some o=>exact absurd (Heap.lt_size z) (Nat.lt_irrefl _)
 have ez:=GF hf
 cases hB:w.params.followText "set-order" with
 |true =>
   rw[show(model prog w).w.params.followText "set-order" = true from hB,Bool.not_true,Bool.false_and,if_neg (by simp)]
   refine wpAny_bind (wpAny_pure ?_)
   refine fin _ s.heap s.drawn ha (Nat.le_refl _) fun _=>?_
   have pm:=Gz (w.params.setOrder a ep) es
   have len:((pickOrder (w.params.setOrder a ep) es).toList.map (·.2)).length=es.size:=by rw[List.length_map,pm.length_eq,Array.length_toList]
   refine h s.heap.objs.size _ s.drawn [s.heap.objs.size,a] ((pickOrder (w.params.setOrder a ep) es).toList.map (·.2)) _ (Nat.le_refl _) (fun b o e=>Heap.get?_push_of_some _ e) (fun b hb=>?_) (pm.map _)
    (fun A' hh'=>AY (fst:=fun _=>0) hh' hf (Nat.ne_of_lt alt) (fun i v hv s A' Q' E' g q=>AW g hf hB ?_) fun {s A' Q' E'} g q=>AW g hf hB ?_) ⟨Heap.get?_push_size _ rfl,Heap.get?_push_of_some _ ha⟩
   · simp only[List.mem_cons,List.not_mem_nil,or_false] at hb
     exact hb.symm.imp id fun z=>Nat.le_of_eq z.symm
   · rw[List.getElem?_map,Array.getElem?_toList] at hv
     cases z:(pickOrder (w.params.setOrder a ep) es)[i]? with
     |none=>rw[z] at hv;cases hv
     |some e=>rw[z] at hv;cases hv;exact q
   · have:(pickOrder (w.params.setOrder a ep) es)[((pickOrder (w.params.setOrder a ep) es).toList.map (·.2)).length]? = none:=by simp
     rw[this];exact q
 |false =>
   rw[show(model prog w).w.params.followText "set-order" = false from hB,Bool.not_false,Bool.true_and]
   have qs:t.led=true:=by rw[hon.led,hB];rfl
   cases hd:(!t.plain && decide (es.size > 1)) with
   |false =>
     split
     · rename_i z
       have z':(!t.plain && decide (es.size > 1))=true:=z
       rw[hd] at z';cases z'
     · refine wpAny_bind ?_
       refine wpAny_pure ?_
       refine fin _ s.heap s.drawn ha (Nat.le_refl _) fun _=>?_
       have len:(es.toList.map (·.2)).length=es.size:=by simp
       refine h s.heap.objs.size _ s.drawn [s.heap.objs.size,a] (es.toList.map (·.2)) _ (Nat.le_refl _) (fun b o e=>Heap.get?_push_of_some _ e) (fun b hb=>?_) (.refl _)
        (fun A' hh'=>AY (fst:=pos t.place) hh' hf (Nat.ne_of_lt alt) (fun i v hv s A' Q' E' g q=>AX g hf hB qs hd ?_) fun {s A' Q' E'} g q=>AX g hf hB qs hd ?_) ⟨Heap.get?_push_size _ rfl,Heap.get?_push_of_some _ ha⟩
       · simp only[List.mem_cons,List.not_mem_nil,or_false] at hb
         exact hb.symm.imp id fun z=>Nat.le_of_eq z.symm
       · have hi:i<es.size:=by
          have:=(List.getElem?_eq_some_iff.mp hv).1
          rwa[len] at this
         rw[AV hon.rise (by omega),Array.getElem?_eq_getElem hi,Array.getElem?_eq_getElem (by omega:i<t.place.size)]
         rw[List.getElem?_map,Array.getElem?_toList,Array.getElem?_eq_getElem hi] at hv
         cases hv
         have e:pos t.place (i+1)=t.place[i]'(by omega)+1:=by show t.place.getD i 0+1=_;rw[lH (by omega)]
         rw[e] at q
         exact q
       · rw[len,AV hon.rise (by omega)]
         have:es[es.size]? = none:=by simp
         rw[this]
         exact q
   |true =>
     split
     · refine wpAny_bind (GB _ _ _ _ (by simp) fun l d pl=>?_)
       refine wpAny_bind (wpAny_newObj_type ?_ ?_)
       · have hl:l.length=es.size:=by rw[pl.length_eq];simp
         refine fin _ _ d (Heap.get?_push_of_some _ ha) (by rw[Heap.size_push];exact Nat.le_succ _) fun _=>?_
         have inr:∀ p∈l,p<es.size:=fun p hp=>by simpa using pl.mem_iff.mp hp
         have pv:(l.filterMap fun p=>(es[p]?).map (·.2)).Perm (es.toList.map (·.2)):=by
          refine(pl.filterMap _).trans ?_
          have e:(List.range es.size).filterMap (fun p=>(es[p]?).map (·.2))=((List.range es.size).filterMap fun p=>es[p]?).map (·.2):=by rw[List.map_filterMap]
          rw[e,filterMap_getElem?_range]
         have ev:∀ (l:List Nat),(∀ p∈l,p<es.size)->(l.filterMap fun p=>(es[p]?).map (·.2)).length=l.length/\∀ (i p:Nat),l[i]? = some p->∃ x,es[p]? = some x/\(l.filterMap fun p=>(es[p]?).map (·.2))[i]? = some x.2:=by
          intro l
          induction l with
          |nil=>intro _;exact⟨rfl,fun i p z=>by simp at z⟩
          |cons k r ih =>
            intro hk
            obtain⟨i1,i2⟩:=ih fun p hp=>hk p (.tail _ hp)
            have lt:=hk k (.head _)
            have e1:(es[k]?).map (·.2)=some es[k].2:=by rw[Array.getElem?_eq_getElem lt];rfl
            rw[List.filterMap_cons_some (f:=fun p:Nat=>(es[p]?).map fun (x:Int×Value)=>x.2) e1]
            refine⟨by simp[i1],fun i p z=>?_⟩
            cases i with
            |zero=>simp at z;subst z;exact⟨es[k],Array.getElem?_eq_getElem lt,rfl⟩
            |succ i=>simpa using i2 i p (by simpa using z)
         obtain⟨v1,v2⟩:=ev l inr
         have sz:(s.heap.push { cls:=.type "tuple",dict:=none,data:=.seq (l.map fun (i:Nat)=>rawInt i).toArray }).objs.size=s.heap.objs.size+1:=Heap.size_push ..
         refine h _ _ d [_,a,s.heap.objs.size] _ _ (by rw[sz];exact Nat.le_succ _) (fun b o e=>Heap.get?_push_of_some _ (Heap.get?_push_of_some _ e)) (fun b hb=>?_) pv
          (fun A' hh'=>GC hh' hf (by rw[sz];exact Nat.ne_of_lt (Nat.lt_succ_of_lt alt)) (T:=s.heap.objs.size) (by rw[sz];exact Nat.ne_of_lt (Nat.lt_succ_self _)) v1.symm v2) ⟨Heap.get?_push_size _ rfl,Heap.get?_push_of_some _ (Heap.get?_push_of_some _ ha),Heap.get?_push_of_some _ (Heap.get?_push_size _ rfl)⟩
         simp only[List.mem_cons,List.not_mem_nil,or_false] at hb
         rcases hb with z | z | z
         · exact .inr (by rw[z,sz];exact Nat.le_succ _)
         · exact .inl z
         · exact .inr (Nat.le_of_eq z.symm)
       · show(l.map fun (i:Nat)=>rawInt i).toArray.size<=sizeLine
         simp only[List.size_toArray,List.length_map,pl.length_eq,List.length_range]
         exact hz
     · rename_i z
       exact absurd hd z
theorem GH:typeLookup (.type "set") "__len__" = pure (some (.builtin "set.__len__")):=by rw[typeLookup_type,builtinLookup_eq_fast];kernel_rfl
theorem GJ{Q:List Value->Shared->Prop}(hh:A.handled=none)(ha:s.heap.get? a=some (bh es ep t))(hon:o4 t (w.params.followText "set-order"))(hf:t.fits es.size=true)(hz:es.size<=sizeLine)
 (h:∀ (vs:List Value) (h':Heap) (d:Drawn) (tk:Nat),s.heap.objs.size<=h'.objs.size->(∀ b o,s.heap.get? b=some o->h'.get? b=some o)->vs.Perm (es.toList.map (·.2))->Q vs { s with heap:=h',drawn:=d,toks:=tk }):wpAny (model prog w) A (collect (.ref a)) Q E s:=by
 have start:∀ {R:Result->Shared->Prop},wpAny (model prog w) A.in1 (Builtin.List.listExtendWith (.ref s.heap.objs.size) (.ref a) (.ref s.heap.objs.size)) (fun fin s'=>match fin with | .done f=>R (.ok f) s' | .again c'=>c'.quiet=true/\codeAny (model prog w) A c' R s') (fun e s'=>R (.error e) s') { s with heap:=s.heap.push { cls:=.type "list",dict:=none,data:=.seq ([]:List Value).toArray } } ->
  codeAny (model prog w) A (.builtin "proto.collect" ⟨[.ref a],[]⟩) R s:=fun {R} z=>codeAny_builtin F.entry_proto_collect (by
  rw[Around.under_plainId F.plain_proto_collect]
  exact show wpAny _ _ (newList [] >>= fun v=>again (.builtin "list.__iadd__" ⟨[v,.ref a],[]⟩)) _ _ _ from wpAny_bind (wpAny_newObj_type (wpAny_pure ⟨plainId_quiet F.plain_list_iadd _,codeAny_builtin F.entry_list_iadd (by rw[Around.under_plainId F.plain_list_iadd];exact z)⟩)))
 unfold collect
 refine wpAny_bind (wpAny_runValue (start ?_))
 have alt:a<s.heap.objs.size:=Heap.lt_size ha
 generalize hH:s.heap.push { cls:=.type "list",dict:=none,data:=.seq ([]:List Value).toArray }=H
 have g0:H.get? s.heap.objs.size=some { cls:=.type "list",dict:=none,data:=.seq #[] 0,slots := #[] }:=by rw[<- hH];exact Heap.get?_push_size _ rfl
 have up:∀ b o,s.heap.get? b=some o->H.get? b=some o:=fun b o e=>by rw[<- hH];exact Heap.get?_push_of_some _ e
 have sz:H.objs.size=s.heap.objs.size+1:=by rw[<- hH];exact Heap.size_push ..
 have hT:Shared.TypeIs { s with heap:=H } (.ref a) "set" := ⟨_,up _ _ ha,rfl⟩
 unfold  Builtin.List.listExtendWith
 refine  wpAny_bind (wpAny_typeOf hT ?_)
 have n1:Builtin.List.listSameRef (.ref s.heap.objs.size) (.ref a)=false:=by
  show(s.heap.objs.size == a)=false
  simpa using Nat.ne_of_gt alt
 have n2:(Value.type "set" == Value.type "list")=false:=by decide
 have n3:(Value.type "set" == Value.type "tuple")=false:=by decide
 rw[n1,n2,n3]
 simp only[Bool.or_false,Bool.false_eq_true,if_false]
 refine wpAny_bind (GG (up _ _ ha) hon hf hz fun I h1 d fp vs Wt hI k1 hfp pv W st=>?_)
 have hT1:Shared.TypeIs { s with heap:=h1,drawn:=d } (.ref a) "set" := ⟨_,k1 _ _ (up _ _ ha),rfl⟩
 refine  wpAny_bind (wpAny_holding ?_)
 unfold  Builtin.List.listLengthHint
 refine wpAny_bind (wpAny_specialOf hT1 GH ?_)
 wp_delta
 refine wpAny_bind (wpAny_isInstance (b:=true) hT1 (by rw[isSubtype_type];kernel_rfl) ?_)
 show wpAny _ _ (typeOf (Value.ref a) >>= _) _ _ _
 refine wpAny_bind (wpAny_typeOf hT1 ?_)
 refine wpAny_pure ?_
 rw[if_pos (by decide)]
 refine wpAny_bind (wpAny_rule ?_)
 unfold Builtin.List.listTouch
 have g1:=k1 _ _ g0
 refine  wpAny_bind (wpAny_bind ?_)
 refine PyProof.Rows.listUpdate_at g1 rfl ?_ (Nat.zero_le _) (by simp)
 have g2:=get?_update_seq g1 (fun xs=>xs.push Value.none)
 refine PyProof.Rows.listUpdate_at g2 rfl ?_ (by show 1<=sizeLine;decide) (by simp)
 have g3:=get?_update_seq g2 (fun xs=>xs.pop)
 have oth:∀ b o,b≠s.heap.objs.size->h1.get? b=some o->((h1.update s.heap.objs.size (Obj.mapSeq fun xs=>xs.push Value.none)).update s.heap.objs.size (Obj.mapSeq fun xs=>xs.pop)).get? b=some o:=fun b o hb e =>
  (Heap.get?_update_other _ _ (Ne.symm hb)).trans ((Heap.get?_update_other _ _ (Ne.symm hb)).trans e)
 have hSf:s.heap.objs.size ∉ fp:=fun z=>by
  rcases hfp _ z with e | e
  · exact absurd alt (by rw[e];exact Nat.lt_irrefl _)
  · exact absurd (show H.objs.size<=s.heap.objs.size from e) (by rw[sz];exact Nat.not_succ_le_self _)
 have W':=W A.in1 hh
 have hn:vs.length<=sizeLine:=by rw[pv.length_eq];simpa using hz
 refine wpAny_pure ⟨plainId_quiet F.plain_extend_loop _,codeAny_extend_loopS W'.toS hn _ hSf _ vs.length 0 _ _ _ rfl (Nat.zero_le _) (W'.frame _ _ _ st fun b hb o e=>oth b o (fun z=>hSf (by rw[<- z];exact hb)) e) g3 (ItemsOf.nil _) fun s' acc c hm g' hacc=>?_⟩
 show wpAny _ _ (load s.heap.objs.size >>= _) _ _ _
 refine wpAny_bind (wpAny_load g' (wpAny_pure ?_))
 have ev:acc.toList=vs:=by
  refine List.ext_getElem? fun i=>?_
  cases q:acc[i]? with
  |none =>
    have:acc.size<=i:=by simpa using q
    rw[hacc.1] at this
    rw[Array.getElem?_toList,q,List.getElem?_eq_none this]
  |some v=>rw[Array.getElem?_toList,q,hacc.2 i v q]
 rw[ev]
 obtain⟨h',g,d',tk,os⟩:=s'
 have e1:=(hm.gens:g=s.gens)
 have e2:d'=d:=hm.drawn
 have e3:os=s.os:=hm.os
 subst e1;subst e2;subst e3
 refine h vs h' d' tk (Nat.le_of_lt (Heap.lt_size g')) (fun b o e=>hm.heap b o (fun z=>?_) (oth b o (Nat.ne_of_lt (Heap.lt_size e)) (k1 b o (up b o e)))) pv
 have blt:=Heap.lt_size e
 rcases List.mem_cons.mp z with z | z
 · exact absurd blt (by rw[z];exact Nat.lt_irrefl _)
 · rw[List.mem_singleton] at z
   have:H.objs.size<=I:=hI
   rw[<- z,sz] at this
   exact absurd blt (Nat.not_lt.mpr (Nat.le_of_succ_le this))
theorem GK{h:Heap}{a:Addr}{vs:List Value}{n:Nat}(ho:h.get? a=some (seqObj "list" vs.toArray n))(out:Array Value):∃ e,(sortedHeap h a vs out).get? a=some (seqObj "list" out e):=by
 have lt:a<h.objs.size:=Heap.lt_size ho
 unfold sortedHeap
 have g1:=get?_update_seq ho fun _ => #[]
 have g2:(((h.update a (Obj.mapSeq fun _ => #[])).push (seqObj "tuple" vs.toArray 0)).push (seqObj "list" #[] 0)).get? a=some (seqObj "list" #[] (if ((#[]:Array Value).size == vs.toArray.size)=true then n else n+1)):=by
  rw[Heap.get?_push_ne _ _ _ (by rw[size_push',Heap.size_update];exact Nat.ne_of_lt (Nat.lt_succ_of_lt lt)),Heap.get?_push_ne _ _ _ (by rw[Heap.size_update];exact Nat.ne_of_lt lt)]
  exact g1
 exact⟨_,get?_update_seq g2 fun _=>out⟩
theorem GL{h:Heap}{a b:Addr}{vs:List Value}{out:Array Value}{o:Obj}(hb:b≠a)(e:h.get? b=some o):(sortedHeap h a vs out).get? b=some o:=by
 unfold sortedHeap
 rw[Heap.get?_update_other _ _ (Ne.symm hb)]
 exact Heap.get?_push_of_some _ (Heap.get?_push_of_some _ ((Heap.get?_update_other _ _ (Ne.symm hb)).trans e))
end
end St
namespace St
open PySem
noncomputable def lp(M:Nat)(s:Nat×Nat):Nat×Nat:=SetTable.leap M s.1 s.2
noncomputable def gq(M:Nat):Nat->Nat×Nat->Nat×Nat
 | 0,s=>s
 |n+1,s=>gq M n (lp M s)
theorem nL(M:Nat):∀ (n:Nat) (s:Nat×Nat),gq M (n+1) s=lp M (gq M n s)
 | 0,s=>rfl
 |n+1,s=>by rw[gq,nL M n,gq]
theorem GN(M a b:Nat)(s:Nat×Nat):gq M (a+b) s=gq M b (gq M a s):=by
 induction b with
 |zero=>rfl
 |succ b ih=>rw[<- Nat.add_assoc,nL,ih,nL]
theorem AZ(M:Nat):∀ (n:Nat) (s:Nat×Nat),(gq M n s).2=s.2 / 32 ^ n
 | 0,s=>by simp[gq]
 |n+1,s=>by rw[nL];show(gq M n s).2 / 32=_;rw[AZ M n,Nat.div_div_eq_div_mul,Nat.pow_succ]
theorem GO{M p:Nat}(hp:p<2 ^ 64)(i:Nat):(gq M 13 (i,p)).2=0:=by
 rw[AZ]
 exact Nat.div_eq_of_lt (Nat.lt_of_lt_of_le hp (by decide))
noncomputable def st(M x:Nat):Nat:=(x * 5+1) % (M+1)
noncomputable def sts(M:Nat):Nat->Nat->Nat
 | 0,x=>x
 |n+1,x=>st M (sts M n x)
theorem qt(M a:Nat)(x:Nat):∀ b,sts M (a+b) x=sts M b (sts M a x)
 | 0=>rfl
 |b+1=>by rw[<- Nat.add_assoc,sts,qt M a x b,sts]
theorem A3(M:Nat):∀ (n i:Nat),gq M n (i,0)=(sts M n i,0)
 | 0,i=>rfl
 |n+1,i=>by
   rw[nL,A3 M n i]
   show SetTable.leap M (sts M n i) 0=_
   simp[SetTable.leap,sts,st]
noncomputable def jB(M:Nat):Prop:=M=7\/M=31\/M=127\/M=511\/M=2047
noncomputable def om(M:Nat):Nat->Nat->Nat->Nat
 | 0,_,c=>c
 |n+1,x,c=>om M n (st M x) (c ||| 2 ^ x)
theorem A4{M j:Nat}:∀ (n x c:Nat),(om M n x c).testBit j=true->c.testBit j=true\/∃ k,k<n/\sts M k x=j
 | 0,_,_,h=>.inl h
 |n+1,x,c,h=>by
   rcases A4 n (st M x) (c ||| 2 ^ x) h with h | ⟨k,hk,e⟩
   · rw[Nat.testBit_or,Bool.or_eq_true] at h
     rcases h with h | h
     · exact .inl h
     · rw[Nat.testBit_two_pow] at h
       exact .inr ⟨0,by omega,of_decide_eq_true h⟩
   · refine .inr ⟨k+1,by omega,?_⟩
     have:=qt M 1 x k
     rw[Nat.add_comm] at this
     rw[this]
     exact e
theorem GP{M:Nat}(h:jB M):om M (M+1) 0 0=2 ^ (M+1) - 1/\sts M (M+1) 0=0:=by
 rcases h with rfl | rfl | rfl | rfl | rfl<;>decide +kernel
theorem A5{M:Nat}(h:sts M (M+1) 0=0):∀ q r,sts M ((M+1) * q+r) 0=sts M r 0
 | 0,r=>by simp
 |q+1,r=>by
   have e:(M+1) * (q+1)+r=(M+1)+((M+1) * q+r):=by rw[Nat.mul_succ];omega
   rw[e,qt,h,A5 h q r]
theorem GQ{M:Nat}(h:jB M){x y:Nat}(hx:x<=M)(hy:y<=M):∃ m,m<=M/\sts M m x=y:=by
 obtain⟨a,b⟩:=GP h
 have f:∀ z,z<=M->∃ k,k<=M/\sts M k 0=z:=fun z hz=>by
  rcases A4 (M:=M) (j:=z) (M+1) 0 0 (by rw[a,Nat.testBit_two_pow_sub_one];exact decide_eq_true (by omega)) with h | ⟨k,hk,e⟩
  · rw[Nat.zero_testBit] at h;cases h
  · exact⟨k,by omega,e⟩
 obtain⟨kx,hkx,ex⟩:=f x hx
 obtain⟨ky,PH,ey⟩:=f y hy
 rcases Nat.le_total kx ky with le | le
 · refine⟨ky - kx,by omega,?_⟩
   rw[<- ex, <- qt, <- ey]
   congr 1
   omega
 · refine⟨(M+1+ky - kx) % (M+1),Nat.lt_succ_iff.mp (Nat.mod_lt _ (Nat.succ_pos M)),?_⟩
   rw[<- ex, <- qt]
   have b':=A5 b 1 ky
   rcases Nat.lt_or_ge (M+1+ky - kx) (M+1) with z | z
   · rw[Nat.mod_eq_of_lt z, <- ey, <- b']
     congr 1
     omega
   · have e:kx=ky:=by omega
     subst e
     have:(M+1+kx - kx) % (M+1)=0:=by rw[Nat.add_sub_cancel];exact Nat.mod_self _
     rw[this]
     exact ey
theorem we(M i p:Nat):(SetTable.leap M i p).1<=M:=Nat.lt_succ_iff.mp (Nat.mod_lt _ (Nat.succ_pos M))
theorem qu(M i:Nat):i<=SetTable.runEnd M i/\SetTable.runEnd M i - i<=9:=by unfold SetTable.runEnd;split<;>omega
noncomputable def b9(t:SetTable):Nat->SetTable.Probe->SetTable.Probe
 | 0,p=>p
 |n+1,p=>b9 t n (t.advance p)
theorem GR{t:SetTable}(hd:t.dummies = #[])(f:Nat->Int)(h:Int):∀ (n:Nat) (p:SetTable.Probe),SetTable.probe.go t f h n p=none->∀ k,k<n->∃ i,t.slot (b9 t k p).j = .live i:=by
 intro n
 induction n with
 |zero=>intro p _ k hk;exact absurd hk (Nat.not_lt_zero _)
 |succ n ih =>
   intro p e k hk
   unfold SetTable.probe.go at e
   split at e
   · cases e
   · rename_i q
     exact absurd q (tP hd _)
   · rename_i i q
     split at e
     · cases e
     · cases k with
       |zero=>exact⟨i,q⟩
       |succ k=>exact ih _ e k (by omega)
theorem o5(t:SetTable):∀ (a b:Nat) (p:SetTable.Probe),b9 t (a+b) p=b9 t b (b9 t a p)
 | 0,b,p=>by rw[Nat.zero_add];rfl
 |a+1,b,p=>by rw[show a+1+b=(a+b)+1 by omega];exact o5 t a b _
noncomputable def kT(M:Nat)(p:SetTable.Probe)(s:Nat×Nat):Prop:=p.j=s.1/\p.i=s.1/\p.perturb=s.2/\p.more=SetTable.runEnd M s.1 - s.1
theorem wg(t:SetTable):∀ (m:Nat) (p:SetTable.Probe),p.more=m->(b9 t m p).more=0/\(b9 t m p).i=p.i/\(b9 t m p).perturb=p.perturb
 | 0,p,h=>⟨h,rfl,rfl⟩
 |m+1,p,h=>by
   have e:t.advance p={ p with j:=p.j+1,more:=p.more - 1 }:=by unfold SetTable.advance;rw[if_pos (by omega)]
   obtain⟨a,b,c⟩:=wg t m (t.advance p) (by rw[e];show p.more - 1=m;omega)
   refine⟨a,?_,?_⟩
   · show(b9 t m (t.advance p)).i=_;rw[b,e]
   · show(b9 t m (t.advance p)).perturb=_;rw[c,e]
theorem GS(t:SetTable){p:SetTable.Probe}{s:Nat×Nat}(h:kT t.mask p s):∃ m,m<=10/\kT t.mask (b9 t m p) (lp t.mask s):=by
 obtain⟨h1,h2,h3,h4⟩:=h
 obtain⟨a,b,c⟩:=wg t p.more p rfl
 refine⟨p.more+1,by have:=qu t.mask s.1;omega,?_⟩
 rw[o5]
 show kT t.mask (t.advance (b9 t p.more p)) _
 unfold SetTable.advance
 rw[if_neg (by omega),b,c,h2,h3]
 exact⟨rfl,rfl,rfl,rfl⟩
theorem A6(t:SetTable){p:SetTable.Probe}{s:Nat×Nat}(h:kT t.mask p s):∀ k,∃ m,m<=10 * k/\kT t.mask (b9 t m p) (gq t.mask k s)
 | 0=>⟨0,by omega,h⟩
 |k+1=>by
   obtain⟨m,hm,a⟩:=A6 t h k
   obtain⟨m',hm',a'⟩:=GS t a
   exact⟨m+m',by omega,by rw[o5,nL];exact a'⟩
theorem A7(h:Int):SetTable.bits h<2 ^ 64:=by
 unfold SetTable.bits
 have:=Int.emod_lt_of_pos h (show(0:Int)<2 ^ 64 by decide)
 have:=Int.emod_nonneg h (show(2 ^ 64:Int)≠0 by decide)
 omega
theorem A8{M:Nat}(h:jB M){i p:Nat}(hi:i<=M)(hp:p<2 ^ 64){P:Nat->Prop}(hP:∀ k,k<=M+14->P (gq M k (i,p)).1):∀ j,j<=M->P j:=by
 intro j hj
 have z:=GO (M:=M) hp i
 generalize hs:gq M 13 (i,p)=m4 at z
 have wj:m4.1<=M:=by
  rw[<- hs,nL]
  exact we M _ _
 obtain⟨m,hm,e⟩:=GQ h wj hj
 have:=hP (13+m) (by omega)
 rw[GN,hs,show m4=(m4.1,0) by rw[<- z],A3] at this
 simp only at this
 rw[e] at this
 exact this
theorem wk{t:SetTable}{j i:Nat}(h:t.slot j = .live i):t.place[i]? = some j:=by
 unfold SetTable.slot at h
 dsimp only at h
 split at h
 · rename_i e
   cases h
   exact eq_of_beq e
 · split at h<;>cases h
theorem GU{t:SetTable}(hd:t.dummies = #[])(hm:jB t.mask)(hr:t.place.size<=t.mask)(f:Nat->Int)(h:Int):∃ m,t.probe f h (t.probeStart h)=some m:=by
 cases q:t.probe f h (t.probeStart h) with
 |some m=>exact⟨m,rfl⟩
 |none =>
   exfalso
   have st:kT t.mask (t.probeStart h) (SetTable.bits h % (t.mask+1),SetTable.bits h):=⟨rfl,rfl,rfl,rfl⟩
   have all:=A8 hm (i:=SetTable.bits h % (t.mask+1)) (p:=SetTable.bits h) (Nat.lt_succ_iff.mp (Nat.mod_lt _ (Nat.succ_pos _))) (A7 h) (P:=fun j=>∃ i:Nat,t.place[i]? = some j) (fun k hk=>by
    obtain⟨m,hm',a⟩:=A6 t st k
    obtain⟨i,hi⟩:=GR hd f h _ _ q m (by unfold SetTable.turns;omega)
    rw[a.1] at hi
    exact⟨i,wk hi⟩)
   have sub:(List.range (t.mask+1)).length<=t.place.toList.length:=by
    refine List.Nodup.length_le_of_subset List.nodup_range fun j hj=>?_
    obtain⟨i,hi⟩:=all j (by simpa using Nat.lt_succ_iff.mp (List.mem_range.mp hj))
    rw[<- Array.getElem?_toList] at hi
    exact List.mem_of_getElem? hi
   simp at sub
   omega
theorem GV(M:Nat)(owner:Array (Option Nat))(hs:owner.size=M+1):∀ (n i p j:Nat),SetTable.layClean.free M owner n i p=some j->owner[j]? = some none:=by
 intro n
 induction n with
 |zero=>intro i p j h;cases h
 |succ n ih =>
   intro i p j h
   unfold SetTable.layClean.free at h
   split at h
   · rename_i k q
     cases h
     have:=List.find?_some q
     cases e:owner[i+k]? with
     |none=>rw[Array.getD_eq_getD_getElem?,e] at this;cases this
     |some o =>
       rw[Array.getD_eq_getD_getElem?,e] at this
       cases o with
       |none=>rfl
       |some x=>cases this
   · exact ih _ _ _ h
theorem GW(M:Nat)(owner:Array (Option Nat))(hs:owner.size=M+1):∀ (n i p:Nat),i<=M->SetTable.layClean.free M owner n i p=none->∀ k,k<n->∃ x,owner[(gq M k (i,p)).1]? = some (some x):=by
 intro n
 induction n with
 |zero=>intro i p hi h k hk;exact absurd hk (Nat.not_lt_zero _)
 |succ n ih =>
   intro i p hi h k hk
   unfold SetTable.layClean.free at h
   split at h
   · cases h
   · rename_i q
     cases k with
     |zero =>
       have:=List.find?_eq_none.mp q 0 (by simp;have:=qu M i;omega)
       show ∃ x,owner[i]? = some (some x)
       have lt:i<owner.size:=by omega
       rw[Nat.add_zero,Array.getD_eq_getD_getElem?,Array.getElem?_eq_getElem lt] at this
       rw[Array.getElem?_eq_getElem lt]
       cases e:owner[i] with
       |none=>rw[e] at this;simp at this
       |some x=>exact⟨x,rfl⟩
     |succ k=>exact ih _ _ (we M i p) h k (by omega)
theorem A9{k:Nat}:∀ (l:List (Option Nat)) (j:Nat),l[j]? = some none->((l.set j (some k)).filterMap id).Perm (k::l.filterMap id)
 | [],j,h=>by simp at h
 |o::r,0,h=>by
   simp at h
   subst h
   simp
 |o::r,j+1,h=>by
   have ih:=A9 (k:=k) r j (by simpa using h)
   cases o with
   |none=>simpa using ih
   |some x =>
     show(x::(r.set j (some k)).filterMap id).Perm (k::x::r.filterMap id)
     exact(List.Perm.cons x ih).trans (List.Perm.swap k x _)
theorem A_:∀ (l:List (Option Nat)),(∀ o∈l,∃ x,o=some x)->(l.filterMap id).length=l.length
 | [],_=>rfl
 |o::r,h=>by
   obtain⟨x,rfl⟩:=h o (.head _)
   simpa using A_ r fun o' ho=>h o' (.tail _ ho)
noncomputable def o6(M k:Nat)(owner:Array (Option Nat)):Prop:=owner.size=M+1/\(owner.toList.filterMap id).Perm (List.range k)
theorem GY{M k:Nat}{owner:Array (Option Nat)}(hm:jB M)(h:o6 M k owner)(hk:k<=M)(c:Int):∃ j,SetTable.layClean.free M owner (SetTable.turns M) (SetTable.bits c % (M+1)) (SetTable.bits c)=some j/\owner[j]? = some none:=by
 cases q:SetTable.layClean.free M owner (SetTable.turns M) (SetTable.bits c % (M+1)) (SetTable.bits c) with
 |some j=>exact⟨j,rfl,GV M owner h.1 _ _ _ _ q⟩
 |none =>
   exfalso
   have hi:SetTable.bits c % (M+1)<=M:=Nat.lt_succ_iff.mp (Nat.mod_lt _ (Nat.succ_pos _))
   have all:=A8 hm hi (A7 c) (P:=fun j=>∃ x,owner[j]? = some (some x)) fun n hn=>GW M owner h.1 _ _ _ hi q n (by unfold SetTable.turns;omega)
   have len:=A_ owner.toList fun o ho=>by
    obtain⟨j,hj⟩:=List.getElem?_of_mem ho
    have jl:j<owner.size:=by have:=(List.getElem?_eq_some_iff.mp hj).1;simpa using this
    obtain⟨x,hx⟩:=all j (by have:=h.1;omega)
    rw[Array.getElem?_toList,hx] at hj
    exact⟨x,by injection hj with e;exact e.symm⟩
   have:=h.2.length_eq
   rw[len] at this
   simp at this
   have:=h.1
   omega
theorem GZ(owner:Array (Option Nat)):((List.range owner.size).filterMap fun j=>(owner.getD j none).map (j, ·)).map (·.2)=owner.toList.filterMap id:=by
 have key:∀ (l:List (Option Nat)) (b:Nat) (f:Nat->Option Nat),(∀ i,i<l.length->f (b+i)=l.getD i none)->((List.range' b l.length).filterMap fun j=>(f j).map (j, ·)).map (·.2)=l.filterMap id:=by
  intro l
  induction l with
  |nil=>intro b f _;rfl
  |cons o r ih =>
    intro b f h
    have h0:=h 0 (by simp)
    have ih':=ih (b+1) f fun i hi=>by
     have:=h (i+1) (by simpa using hi)
     rw[show b+1+i=b+(i+1) by omega,this]
     rfl
    rw[List.length_cons,List.range'_succ,List.filterMap_cons]
    have h0:f b=o:=h0
    cases o with
    |none=>simpa [h0] using ih'
    |some x=>simpa [h0] using ih'
 have:=key owner.toList 0 (fun j=>owner.getD j none) fun i hi=>by
  rw[Nat.zero_add]
  simp[Array.getD_eq_getD_getElem?,List.getD_eq_getElem?_getD]
 rw[<- this,List.range_eq_range']
 simp
noncomputable def hP(z:Int×Int):Int:=reduceHash (Builtin.Tuple.tupleHashOf [hashInt z.1,hashInt z.2])
noncomputable def rP(n:Nat):Nat:=(hP ((n / 31:Nat),(n % 31:Nat)) % 8192).toNat
noncomputable def apart:List Nat->Nat->Bool
 | [],_=>true
 |n::r,acc => !acc.testBit (rP n) && apart r (acc ||| 1 <<< rP n)
theorem Ba:∀ (l:List Nat) (acc:Nat),apart l acc=true->(∀ n∈l,acc.testBit (rP n)=false)/\(l.map rP).Nodup
 | [],_,_=>⟨fun n hn=>(nomatch hn),List.nodup_nil⟩
 |n::r,acc,h=>by
   unfold apart at h
   rw[Bool.and_eq_true] at h
   obtain⟨h1,h2⟩:=h
   obtain⟨a,b⟩:=Ba r _ h2
   have a':∀ m∈r,acc.testBit (rP m)=false/\rP m≠rP n:=fun m hm=>by
    have:=a m hm
    rw[Nat.testBit_or,Bool.or_eq_false_iff] at this
    refine⟨this.1,fun e=>?_⟩
    have q:=this.2
    rw[e,Nat.one_shiftLeft,Nat.testBit_two_pow_self] at q
    cases q
   refine⟨fun m hm=>?_,List.nodup_cons.mpr ⟨fun z=>?_,b⟩⟩
   · rcases List.mem_cons.mp hm with e | e
     · rw[e];simpa using h1
     · exact(a' m e).1
   · obtain⟨m,hm,e⟩:=List.mem_map.mp z
     exact(a' m hm).2 e
theorem G0:apart (List.range 961) 0=true:=by decide +kernel
noncomputable def Sm(i:Int):Prop:=0<=i/\i<=30
noncomputable def cn(z:Int×Int):Prop:=Sm z.1/\Sm z.2
theorem G1{y z:Int×Int}(hy:cn y)(hz:cn z)(e:hP y=hP z):y=z:=by
 have nd:=(Ba _ _ G0).2
 obtain⟨⟨a1,a2⟩,a3,a4⟩:=hy
 obtain⟨⟨b1,b2⟩,b3,b4⟩:=hz
 obtain⟨i,hi⟩:∃ i:Nat,y.1=i:=⟨y.1.toNat,by omega⟩
 obtain⟨j,hj⟩:∃ j:Nat,y.2=j:=⟨y.2.toNat,by omega⟩
 obtain⟨k,hk⟩:∃ k:Nat,z.1=k:=⟨z.1.toNat,by omega⟩
 obtain⟨l,hl⟩:∃ l:Nat,z.2=l:=⟨z.2.toNat,by omega⟩
 have q:∀ (i j:Nat),j<31->rP (31 * i+j)=(hP ((i:Int),(j:Int)) % 8192).toNat:=fun i j h=>by
  unfold rP
  rw[show(31 * i+j) / 31=i by omega,show(31 * i+j) % 31=j by omega]
 have ey:y=((i:Int),(j:Int)):=Prod.ext hi hj
 have ez:z=((k:Int),(l:Int)):=Prod.ext hk hl
 have r1:=q i j (by omega)
 have r2:=q k l (by omega)
 rw[<- ey] at r1
 rw[<- ez] at r2
 rw[e, <- r2] at r1
 have m1:31 * i+j<961:=by omega
 have m2:31 * k+l<961:=by omega
 have:=List.pairwise_iff_getElem.mp nd
 have inj:31 * i+j=31 * k+l:=by
  rcases Nat.lt_trichotomy (31 * i+j) (31 * k+l) with z | z | z
  · exact absurd (by rw[List.getElem_map,List.getElem_map,List.getElem_range,List.getElem_range];exact r1) (this _ _ (by simpa using m1) (by simpa using m2) z)
  · exact z
  · exact absurd (by rw[List.getElem_map,List.getElem_map,List.getElem_range,List.getElem_range];exact r1.symm) (this _ _ (by simpa using m2) (by simpa using m1) z)
 have:i=k:=by omega
 have:j=l:=by omega
 rw[ey,ez]
 simp_all
noncomputable def tm(M:Nat):SetTable:={ SetTable.fresh 0 0 true with mask:=M }
noncomputable def W(M:Nat)(h:Int)(m:Nat):Nat:=(b9 (tm M) m ((tm M).probeStart h)).j
theorem G2(t:SetTable)(p:SetTable.Probe):t.advance p=(tm t.mask).advance p:=rfl
theorem Bb(t:SetTable):∀ (m:Nat) (p:SetTable.Probe),b9 t m p=b9 (tm t.mask) m p
 | 0,p=>rfl
 |m+1,p=>by show b9 t m (t.advance p)=b9 (tm t.mask) m ((tm t.mask).advance p);rw[Bb t m,G2]
theorem tT(t:SetTable)(h:Int)(m:Nat):(b9 t m (t.probeStart h)).j=W t.mask h m:=by rw[Bb];rfl
noncomputable def nM(M:Nat)(pl:List Nat)(h:Int)(j:Nat):Prop:=∃ m,m<10 * SetTable.turns M/\W M h m=j/\∀ m',m'<m->W M h m'∈pl
theorem nM.mono{M:Nat}{pl Bc:List Nat}{h:Int}{j:Nat}(r:nM M pl h j)(s:∀ x∈pl,x∈Bc):nM M Bc h j:=by
 obtain⟨m,a,b,c⟩:=r
 exact⟨m,a,b,fun m' hm=>s _ (c m' hm)⟩
theorem Bd{t:SetTable}(hr:kQ t.place){i j:Nat}(h:t.place[i]? = some j):t.slot j = .live i:=by
 obtain⟨lt,e⟩:=Array.getElem?_eq_some_iff.mp h
 obtain⟨h1,h2,h3⟩:=wc hr j
 have e0:SetTable.below t.place j=i:=by
  rcases Nat.lt_trichotomy (SetTable.below t.place j) i with z | z | z
  · have l:=h3 (SetTable.below t.place j) (Nat.le_refl _) (by omega)
    rw[lH (by omega:SetTable.below t.place j<t.place.size)] at l
    have:=(List.pairwise_iff_getElem.mp hr) (SetTable.below t.place j) i (by simp;omega) (by simpa using lt) z
    simp only[Array.getElem_toList] at this
    omega
  · exact z
  · have:=h2 i z
    rw[lH lt] at this
    omega
 unfold SetTable.slot
 dsimp only
 rw[e0,h]
 simp
theorem G3{t:SetTable}(hd:t.dummies = #[])(f:Nat->Int)(h:Int):∀ (n:Nat) (p:SetTable.Probe) (j:Nat) (d:Option Nat),SetTable.probe.go t f h n p=some (.empty j d)->∃ m,m<n/\(b9 t m p).j=j/\∀ m',m'<m->∃ i,t.slot (b9 t m' p).j = .live i:=by
 intro n
 induction n with
 |zero=>intro p j d e;cases e
 |succ n ih =>
   intro p j d e
   unfold SetTable.probe.go at e
   split at e
   · cases e
     exact⟨0,by omega,rfl,fun m' h=>absurd h (Nat.not_lt_zero _)⟩
   · rename_i q
     exact absurd q (tP hd _)
   · rename_i i q
     split at e
     · cases e
     · obtain⟨m,a,b,c⟩:=ih _ j d e
       refine⟨m+1,by omega,b,fun m' hm=>?_⟩
       cases m' with
       |zero=>exact⟨i,q⟩
       |succ m'=>exact c m' (by omega)
theorem G4{t:SetTable}(hd:t.dummies = #[])(f:Nat->Int)(h:Int):∀ (n:Nat) (p:SetTable.Probe) (m k:Nat),m<n->(∀ m',m'<m->∃ i,t.slot (b9 t m' p).j = .live i)->t.slot (b9 t m p).j = .live k->f k=h->∃ j i nx,SetTable.probe.go t f h n p=some (.candidate j i nx):=by
 intro n
 induction n with
 |zero=>intro p m k hm;exact absurd hm (Nat.not_lt_zero _)
 |succ n ih =>
   intro p m k hm hb hs hf
   unfold SetTable.probe.go
   have first:∃ i,t.slot p.j = .live i:=by
    cases m with
    |zero=>exact⟨k,hs⟩
    |succ m=>exact hb 0 (by omega)
   obtain⟨i,hi⟩:=first
   rw[hi]
   dsimp only
   split
   · exact⟨_,_,_,rfl⟩
   · rename_i c
     cases m with
     |zero =>
       have hs:t.slot p.j = .live k:=hs
       rw[hi] at hs
       cases hs
       exact absurd (by simpa using hf) c
     |succ m=>exact ih _ m k (by omega) (fun m' h'=>hb (m'+1) (by omega)) hs hf
theorem wo(M:Nat)(h:Int){m:Nat}{s:Nat×Nat}(a:kT M (b9 (tm M) m ((tm M).probeStart h)) s):∀ k,k<=SetTable.runEnd M s.1 - s.1->W M h (m+k)=s.1+k:=by
 have go:∀ (k:Nat) (p:SetTable.Probe),k<=p.more->(b9 (tm M) k p).j=p.j+k:=by
  intro k
  induction k with
  |zero=>intro p _;rfl
  |succ k ih =>
    intro p hk
    have e:(tm M).advance p={ p with j:=p.j+1,more:=p.more - 1 }:=by unfold SetTable.advance;rw[if_pos (by omega)]
    show(b9 (tm M) k ((tm M).advance p)).j=_
    rw[ih _ (by rw[e];show k<=p.more - 1;omega),e]
    show p.j+1+k=_
    omega
 intro k hk
 unfold W
 rw[o5,go k _ (by rw[a.2.2.2];exact hk),a.1]
theorem G5(M:Nat)(h:Int)(owner:Array (Option Nat)):∀ (n m g:Nat) (s:Nat×Nat) (j:Nat),kT M (b9 (tm M) m ((tm M).probeStart h)) s->m<=10 * g->(∀ m',m'<m->∃ x,owner.getD (W M h m') (some 0)=some x) ->
 SetTable.layClean.free M owner n s.1 s.2=some j->∃ m2,m2<10 * (g+n)/\W M h m2=j/\∀ m',m'<m2->∃ x,owner.getD (W M h m') (some 0)=some x:=by
 intro n
 induction n with
 |zero=>intro m g s j _ _ _ e;cases e
 |succ n ih =>
   intro m g s j a hm hb e
   unfold SetTable.layClean.free at e
   have re:=qu M s.1
   split at e
   · rename_i k q
     cases e
     have kl:k<SetTable.runEnd M s.1+1 - s.1:=List.mem_range.mp (List.mem_of_find?_eq_some q)
     refine⟨m+k,by omega,wo M h a k (by omega),fun m' hm'=>?_⟩
     rcases Nat.lt_or_ge m' m with z | z
     · exact hb m' z
     · have:=List.find?_range_eq_some.mp q
       have w:=wo M h a (m' - m) (by omega)
       rw[show m+(m' - m)=m' by omega] at w
       rw[w]
       have nn:=this.2.2 (m' - m) (by omega)
       cases e:owner.getD (s.1+(m' - m)) (some 0) with
       |none=>rw[e] at nn;simp at nn
       |some x=>exact⟨x,rfl⟩
   · rename_i q
     have more:(b9 (tm M) m ((tm M).probeStart h)).more=SetTable.runEnd M s.1 - s.1:=a.2.2.2
     obtain⟨a1,a2,a3⟩:=wg (tm M) _ _ more
     have a':kT M (b9 (tm M) (m+(SetTable.runEnd M s.1 - s.1)+1) ((tm M).probeStart h)) (lp M s):=by
      rw[o5,o5]
      show kT M ((tm M).advance (b9 (tm M) (SetTable.runEnd M s.1 - s.1) (b9 (tm M) m ((tm M).probeStart h)))) _
      unfold SetTable.advance
      rw[if_neg (by omega),a2,a3,a.2.1,a.2.2.1]
      exact⟨rfl,rfl,rfl,rfl⟩
     obtain⟨m2,b1,b2,b3⟩:=ih (m+(SetTable.runEnd M s.1 - s.1)+1) (g+1) (lp M s) j a' (by omega) (fun m' hm'=>by
      rcases Nat.lt_or_ge m' m with z | z
      · exact hb m' z
      · have w:=wo M h a (m' - m) (by omega)
        rw[show m+(m' - m)=m' by omega] at w
        rw[w]
        have nn:=List.find?_eq_none.mp q (m' - m) (by simp;omega)
        cases e:owner.getD (s.1+(m' - m)) (some 0) with
        |none=>rw[e] at nn;simp at nn
        |some x=>exact⟨x,rfl⟩) e
     exact⟨m2,by omega,b2,b3⟩
theorem Be{M i:Nat}(h:i<=M):SetTable.runEnd M i<=M:=by unfold SetTable.runEnd;split<;>omega
theorem Bf(M:Nat):∀ (m:Nat) (p:SetTable.Probe),p.j+p.more<=M->(b9 (tm M) m p).j+(b9 (tm M) m p).more<=M
 | 0,p,h=>h
 |m+1,p,h=>by
   show(b9 (tm M) m ((tm M).advance p)).j+(b9 (tm M) m ((tm M).advance p)).more<=M
   refine Bf M m _ ?_
   unfold SetTable.advance
   split
   · rename_i c
     show p.j+1+(p.more - 1)<=M
     omega
   · have a:=we M p.i p.perturb
     have b:=Be a
     have c:=qu M (SetTable.leap M p.i p.perturb).1
     show(SetTable.leap M p.i p.perturb).1+(SetTable.runEnd M (SetTable.leap M p.i p.perturb).1 - (SetTable.leap M p.i p.perturb).1)<=M
     omega
theorem G6(M:Nat)(h:Int)(m:Nat):W M h m<=M:=by
 have a:SetTable.bits h % (M+1)<=M:=Nat.lt_succ_iff.mp (Nat.mod_lt _ (Nat.succ_pos M))
 have:=Bf M m ((tm M).probeStart h) (by
  show SetTable.bits h % (M+1)+(SetTable.runEnd M (SetTable.bits h % (M+1)) - SetTable.bits h % (M+1))<=M
  have b:=Be a
  have c:=qu M (SetTable.bits h % (M+1))
  omega)
 exact Nat.le_trans (Nat.le_add_right _ _) this
noncomputable def qv(M:Nat)(hs:List Int)(owner:Array (Option Nat)):Prop:=∀ j k,owner[j]? = some (some k)->∃ c,hs[k]? = some c/\∃ m,m<10 * SetTable.turns M/\W M c m=j/\∀ m',m'<m->∃ x,owner[W M c m']? = some (some x)
theorem Bg{M:Nat}(hm:jB M)(all:List Int):∀ (hs:List Int) (owner:Array (Option Nat)) (k:Nat),o6 M k owner->qv M all owner->all.drop k=hs->k+hs.length<=M+1 ->
 ∃ owner',hs.foldl (fun acc h=>do
  let (owner,k) <- acc
  let j <- SetTable.layClean.free M owner (SetTable.turns M) (SetTable.bits h % (M+1)) (SetTable.bits h)
  pure (owner.setIfInBounds j (some k),k+1)) (some (owner,k))=some (owner',k+hs.length)/\o6 M (k+hs.length) owner'/\qv M all owner'
 | [],owner,k,h,r,_,_=>⟨owner,rfl,h,r⟩
 |c::rs,owner,k,h,r,hd,hl=>by
   simp only[List.length_cons] at hl
   obtain⟨j,hj,hn⟩:=GY hm h (by omega) c
   have ok:o6 M (k+1) (owner.setIfInBounds j (some k)):=by
    refine⟨by rw[Array.size_setIfInBounds];exact h.1,?_⟩
    rw[Array.toList_setIfInBounds,List.range_succ]
    refine(A9 owner.toList j (by rw[Array.getElem?_toList];exact hn)).trans ?_
    exact(List.Perm.cons k h.2).trans (List.perm_append_singleton k _).symm
   have ck:all[k]? = some c:=by
    have:=congrArg List.head? hd
    rw[List.head?_drop] at this
    exact this
   have up:∀ i x,owner[i]? = some (some x)->(owner.setIfInBounds j (some k))[i]? = some (some x):=fun i x e=>by
    have ne:j≠i:=fun z=>by rw[z] at hn;rw[hn] at e;cases e
    rw[Array.getElem?_setIfInBounds_ne ne];exact e
   obtain⟨m2,b1,b2,b3⟩:=G5 M c owner (SetTable.turns M) 0 0 (SetTable.bits c % (M+1),SetTable.bits c) j ⟨rfl,rfl,rfl,rfl⟩ (by omega) (fun m' z=>absurd z (Nat.not_lt_zero _)) hj
   have gd:∀ i,i<=M->∀ x,owner.getD i (some 0)=some x->owner[i]? = some (some x):=fun i hi x e=>by
    have lt:i<owner.size:=by rw[h.1];omega
    rw[Array.getD_eq_getD_getElem?,Array.getElem?_eq_getElem lt] at e
    rw[Array.getElem?_eq_getElem lt]
    exact congrArg some e
   have r':qv M all (owner.setIfInBounds j (some k)):=fun i x e=>by
    by_cases z:j=i
    · subst z
      have lt:j<owner.size:=(Array.getElem?_eq_some_iff.mp hn).1
      rw[Array.getElem?_setIfInBounds_self_of_lt lt] at e
      cases e
      refine⟨c,ck,m2,by omega,b2,fun m' hm'=>?_⟩
      obtain⟨x,hx⟩:=b3 m' hm'
      exact⟨x,up _ x (gd _ (G6 M c m') x hx)⟩
    · rw[Array.getElem?_setIfInBounds_ne z] at e
      obtain⟨c',hc,m,a1,a2,a3⟩:=r i x e
      exact⟨c',hc,m,a1,a2,fun m' hm'=>let ⟨y,hy⟩:=a3 m' hm'; ⟨y,up _ y hy⟩⟩
   have hd':all.drop (k+1)=rs:=by
    have:=congrArg List.tail hd
    rw[List.tail_drop] at this
    exact this
   obtain⟨o',e,ok',r2⟩:=Bg hm all rs _ (k+1) ok r' hd' (by omega)
   refine⟨o',?_,by rw[List.length_cons,show k+(rs.length+1)=k+1+rs.length by omega];exact ok',r2⟩
   rw[List.foldl_cons,List.length_cons,show k+(rs.length+1)=k+1+rs.length by omega, <- e]
   congr 1
   show(Option.bind (SetTable.layClean.free M owner (SetTable.turns M) (SetTable.bits c % (M+1)) (SetTable.bits c)) fun j=>some (owner.setIfInBounds j (some k),k+1))=_
   rw[hj]
   rfl
theorem G7{M:Nat}(hm:jB M)(hs:Array Int)(hl:hs.size<=M+1):∃ owner,SetTable.layClean M hs=some owner/\o6 M hs.size owner/\qv M hs.toList owner:=by
 have ok:o6 M 0 (Array.replicate (M+1) none):=⟨by simp,by
  rw[Array.toList_replicate]
  have:∀ n,(List.replicate n (none:Option Nat)).filterMap id=[]:=fun n=>by
   induction n with
   |zero=>rfl
   |succ n ih=>simpa [List.replicate_succ] using ih
  rw[this]
  exact .nil⟩
 have r0:qv M hs.toList (Array.replicate (M+1) none):=fun j k e=>by
  rw[Array.getElem?_replicate] at e
  split at e<;>cases e
 obtain⟨o',e,ok',r'⟩:=Bg hm hs.toList hs.toList _ 0 ok r0 (by simp) (by simpa using hl)
 refine⟨o',?_,by simpa using ok',r'⟩
 unfold SetTable.layClean
 rw[<- Array.foldl_toList]
 have e:=congrArg (Option.map (·.1)) e
 exact e
theorem G8{t:SetTable}{es:Array (Int×Value)}{n:Nat}(hm:jB (SetTable.sizeAbove n - 1))(hl:es.size<=SetTable.sizeAbove n - 1) :
 ∃ (t':SetTable) (live:List (Nat×Nat)),t.relaid (es.map (·.1)) n=some (t',(live.map (·.2)).toArray)/\(live.map (·.2)).Perm (List.range es.size)/\t'.mask=SetTable.sizeAbove n - 1/\kQ t'.place/\t'.dummies = #[]/\t'.led=t.led/\t'.plain=t.plain /\
  t'.place.toList=live.map (·.1)/\∀ q∈live,∃ c,(es.map (·.1)).toList[q.2]? = some c/\nM (SetTable.sizeAbove n - 1) (live.map (·.1)) c q.1:=by
 obtain⟨owner,e,ok,tU⟩:=G7 hm (es.map (·.1)) (by simp;omega)
 rw[Array.size_map] at ok
 have lm:∀ j k,owner[j]? = some (some k)->(j,k)∈((List.range (SetTable.sizeAbove n - 1+1)).filterMap fun j=>(owner.getD j none).map (j, ·)):=fun j k h=>by
  have lt:j<owner.size:=(Array.getElem?_eq_some_iff.mp h).1
  refine List.mem_filterMap.mpr ⟨j,by rw[List.mem_range, <- ok.1];exact lt,?_⟩
  rw[Array.getD_eq_getD_getElem?,h]
  rfl
 cases q:t.relaid (es.map (·.1)) n with
 |none =>
   unfold SetTable.relaid SetTable.laid at q
   rw[e] at q
   cases q
 |some r =>
   unfold SetTable.relaid SetTable.laid at q
   rw[e] at q
   cases q
   refine⟨_,(List.range (SetTable.sizeAbove n - 1+1)).filterMap fun j=>(owner.getD j none).map (j, ·),rfl,?_,rfl,Gj owner _,rfl,rfl,rfl,rfl,?_⟩
   · have:=GZ owner
     rw[ok.1] at this
     rw[this]
     exact ok.2
   · rintro⟨j,k⟩ hq
     obtain⟨j',hj,ej⟩:=List.mem_filterMap.mp hq
     have own:owner[j]? = some (some k):=by
      cases z:owner.getD j' none with
      |none=>rw[z] at ej;cases ej
      |some x =>
        rw[z] at ej
        cases ej
        rw[Array.getD_eq_getD_getElem?] at z
        cases y:owner[j]? with
        |none=>rw[y] at z;cases z
        |some o=>rw[y] at z;exact congrArg some z
     obtain⟨c,hc,m,a1,a2,a3⟩:=tU j k own
     refine⟨c,hc,m,a1,a2,fun m' hm'=>?_⟩
     obtain⟨x,hx⟩:=a3 m' hm'
     exact List.mem_map.mpr ⟨(W (SetTable.sizeAbove n - 1) c m',x),lm _ x hx,rfl⟩
noncomputable abbrev Z:=(Int×Int)×Addr
noncomputable def zO(z:Z):Int×Value:=(hP z.1,.ref z.2)
theorem qw(z:Z):zO z=(hP z.1,.ref z.2):=by unfold zO;rfl
section
variable{prog:Program}{w:World}{A:Around}{E:Value->Shared->Prop}{s:Shared}{a p:Addr}{es:Array (Int×Value)}{ep:Nat}{t:SetTable}
noncomputable def bN(h:Heap)(z:Int×Int)(p:Addr):Prop:=∃ o items n t u,h.get? p=some o/\o.cls = .type "tuple" /\ o.data = .seq items n/\items.toList=[.int z.1 t,.int z.2 u]
theorem bN.key{h:Heap}{z:Int×Int}(x:bN h z p)(prog:Program)(w:World):IsTupleKey (intKind prog w) h [z.1,z.2] p:=by
 obtain⟨o,items,n,t,u,e,c,d,i⟩:=x
 exact⟨o,items,n,e,c,d,by rw[i];exact .cons (intKind_is _ _ _ _) (.cons (intKind_is _ _ _ _) .nil)⟩
theorem bN.at{h h':Heap}{z:Int×Int}(x:bN h z p)(k:∀ o,h.get? p=some o->h'.get? p=some o):bN h' z p:=by
 obtain⟨o,items,n,t,u,e,r⟩:=x
 exact⟨o,items,n,t,u,k _ e,r⟩
theorem G9{z:Int×Int}{Q:Int->Shared->Prop}(hu:A.units<cLine)(hp:bN s.heap z p)(h:Q (hP z) { s with toks:=s.toks+3 }):wpAny (model prog w) A (pyHash (.ref p)) Q E s :=
 wpAny_pyHash_tuple (knd:=intKind prog w) hu (hp.key prog w) h
theorem G_{y z:Int×Int}{q:Addr}{Q:Bool->Shared->Prop}(hu:A.units<cLine)(hp:bN s.heap y p)(hq:bN s.heap z q)(h:Q (decide (y=z)) s):wpAny (model prog w) A (eqBool (.ref p) (.ref q)) Q E s:=by
 refine wpAny_eqBool_tuple (knd:=intKind prog w) hu (hp.key prog w) (hq.key prog w) ?_
 have e:decide ([y.1,y.2]=[z.1,z.2])=decide (y=z):=decide_eq_decide.mpr ⟨fun h=>by simp at h;exact Prod.ext h.1 h.2,fun h=>by rw[h]⟩
 rw[e]
 exact h
theorem Bh{z:Int×Int}{Q:Bool->Shared->Prop}(hp:bN s.heap z p)(h:Q false s):wpAny (model prog w) A (ofAClassStatement 8 (.ref p)) Q E s:=by
 obtain⟨o,items,n,t,u,e,c,d,i⟩:=hp
 have hT:s.TypeIs (.ref p) "tuple" := ⟨o,e,c⟩
 unfold ofAClassStatement
 refine  wpAny_bind (wpAny_typeOf hT ?_)
 dsimp only
 rw[if_pos (show(("tuple" : String) == "tuple")=true by decide)]
 refine wpAny_bind (wpAny_pure ?_)
 rw[if_neg (by decide)]
 refine wpAny_bind (wpAny_seqItems e d ?_)
 dsimp only
 refine wpAny_bind ?_
 rw[<- Array.forIn_toList,i]
 rw[List.forIn_cons]
 unfold ofAClassStatement
 simp only[pure_bind,List.forIn_cons,List.forIn_nil]
 exact  wpAny_pure (wpAny_pure h)
theorem Ha{z:Int×Int}{Q:Bool->Shared->Prop}(hp:bN s.heap z p)(h:Q true s):wpAny (model prog w) A (hashByValue 8 (.ref p)) Q E s:=by
 obtain⟨o,items,n,t,u,e,c,d,i⟩:=hp
 have hT:s.TypeIs (.ref p) "tuple" := ⟨o,e,c⟩
 unfold hashByValue
 refine  wpAny_bind (wpAny_specialOf hT F.slot_tuple_hash.lookup ?_)
 dsimp only
 refine wpAny_bind (wpAny_seqItems e d ?_)
 refine wpAny_bind ?_
 dsimp only[Option.getD]
 rw[<- Array.forIn_toList,i]
 rw[List.forIn_cons]
 unfold hashByValue
 simp only[pure_bind,List.forIn_cons,List.forIn_nil]
 exact  wpAny_pure (wpAny_pure h)
theorem Hb{z:Int×Int}{Q:Bool->Shared->Prop}(hp:bN s.heap z p)(h:Q false s):∀ (l:List Value),(∀ v∈l,∃ q y,v = .ref q/\bN s.heap y q)->wpAny (model prog w) A (searchCouldBeSeen (.ref p) l) Q E s:=by
 intro l hl
 unfold searchCouldBeSeen
 refine wpAny_bind ?_
 refine wpAny_forIn_list _ (fun rest r s'=>r.1=none/\s'=s/\∀ v∈rest,∃ q y,v = .ref q/\bN s.heap y q) _ ?_ ?_ _ _ ⟨rfl,rfl,hl⟩
 · rintro v rest r s' ⟨hr,rfl,hv⟩
   obtain⟨q,y,rfl,hq⟩:=hv v (.head _)
   have nx:∀ x∈rest,∃ q y,x=Value.ref q/\bN s'.heap y q:=fun x hx=>hv x (.tail _ hx)
   dsimp only
   split
   · exact wpAny_pure ⟨rfl,rfl,nx⟩
   · refine wpAny_bind (wpAny_eqIsQuiet_tuple (hp.key prog w) ?_)
     rw[if_neg (by decide)]
     refine wpAny_bind (wpAny_eqIsQuiet_tuple (hq.key prog w) ?_)
     rw[if_neg (by decide)]
     refine wpAny_bind (Bh hp ?_)
     rw[if_neg (by decide)]
     refine wpAny_bind (Bh hq ?_)
     rw[if_neg (by decide)]
     exact wpAny_pure ⟨rfl,rfl,nx⟩
 · rintro⟨r1,r2⟩ s' ⟨hr,rfl,_⟩
   simp only at hr
   subst hr
   exact wpAny_pure h
structure bY(es:Array (Int×Value))(t:SetTable)(B:Bool)(zs:List Z):Prop where
 el:es.toList=zs.map zO
 sm:∀ z∈zs,cn z.1
 nd:(zs.map (·.1)).Nodup
 hon:o4 t B
 qy:jB t.mask
 sz:t.place.size=es.size
 rm:t.place.size<=t.mask
 tU:∀ q∈zs.zip t.place.toList,nM t.mask t.place.toList (hP q.1.1) q.2
theorem bY.fits{B:Bool}{zs:List Z}(h:bY es t B zs):t.fits es.size=true:=by
 have:=h.sz
 have:=h.rm
 simp only[SetTable.fits,SetTable.fill,h.hon.m3,Bool.and_eq_true,beq_iff_eq,decide_eq_true_eq]
 exact⟨h.sz,by simp;omega⟩
theorem bY.get{B:Bool}{zs:List Z}(h:bY es t B zs)(i:Nat):es[i]? = (zs[i]?).map zO:=by
 rw[<- Array.getElem?_toList,h.el,List.getElem?_map]
theorem bY.len{B:Bool}{zs:List Z}(h:bY es t B zs):zs.length=es.size:=by
 have:=congrArg List.length h.el
 simpa using this.symm
theorem Hc{t:SetTable}(hd:t.dummies = #[])(f:Nat->Int)(h:Int):∀ (n:Nat) (p:SetTable.Probe) (j i:Nat) (nx:SetTable.Probe),SetTable.probe.go t f h n p=some (.candidate j i nx)->t.slot j = .live i/\f i=h:=by
 intro n
 induction n with
 |zero=>intro p j i nx e;cases e
 |succ n ih =>
   intro p j i nx e
   unfold SetTable.probe.go at e
   split at e
   · cases e
   · rename_i q
     exact absurd q (tP hd _)
   · rename_i k q
     split at e
     · rename_i c
       cases e
       exact⟨q,eq_of_beq c⟩
     · exact ih _ j i nx e
theorem He{t:SetTable}{j i:Nat}(h:t.slot j = .live i):i<t.place.size:=(Array.getElem?_eq_some_iff.mp (wk h)).1
theorem bY.found{B:Bool}{zs:List Z}(T:bY es t B zs){z:Int×Int}(hz:z∈zs.map (·.1)){f:Nat->Int}(hf:∀ i (h:i<zs.length),f i=hP zs[i].1):∃ j i nx,t.probe f (hP z) (t.probeStart (hP z))=some (.candidate j i nx):=by
 obtain⟨y,hy,rfl⟩:=List.mem_map.mp hz
 obtain⟨k,hk,rfl⟩:=List.mem_iff_getElem.mp hy
 have kp:k<t.place.size:=by rw[T.sz, <- T.len];exact hk
 have zm:(zs[k],t.place[k])∈zs.zip t.place.toList:=by
  refine List.mem_iff_getElem.mpr ⟨k,by simp;omega,?_⟩
  simp
 obtain⟨m,a1,a2,a3⟩:=T.tU _ zm
 refine G4 T.hon.m3 f _ (10 * SetTable.turns t.mask) _ m k a1 (fun m' hm'=>?_) ?_ (hf k hk)
 · rw[tT]
   obtain⟨i,hi⟩:=List.getElem?_of_mem (a3 m' hm')
   rw[Array.getElem?_toList] at hi
   exact⟨i,Bd T.hon.rise hi⟩
 · rw[tT,a2]
   exact Bd T.hon.rise (Array.getElem?_eq_getElem kp)
theorem bY.hash{B:Bool}{zs:List Z}(T:bY es t B zs){i:Nat}(h:i<zs.length):((es[i]?).map (·.1)).getD 0=hP zs[i].1:=by
 have e:=T.get i
 rw[List.getElem?_eq_getElem h] at e
 rw[e,Option.map_some,Option.map_some,Option.getD_some,qw]
end
section
variable{prog:Program}{w:World}{A:Around}{E:Value->Shared->Prop}{s:Shared}{a p:Addr}{es:Array (Int×Value)}{ep:Nat}{t:SetTable}
theorem Hf{z:Int×Int}{B:Bool}{zs:List Z}{Q:SetFound->Shared->Prop}(hu:A.units<cLine)(ha:s.heap.get? a=some (bh es ep t))(T:bY es t B zs)(hz:∀ y∈zs,bN s.heap y.1 y.2)(hp:bN s.heap z p)(sm:cn z)
 (there:z∈zs.map (·.1)->Q (.there none) s) (free:∀ j,z ∉ zs.map (·.1)->t.slot j = .empty->nM t.mask t.place.toList (hP z) j->Q (.free j false) s) (n:Nat):wpAny (model prog w) A (setSearchFrom a (.ref p) (hP z) true (n+1) none) Q E s:=by
 rw[setSearchFrom]
 refine wpAny_bind (wpAny_setState_of ha rfl T.fits ?_)
 dsimp only
 have odd:t.gaveWay=false:=by
  unfold SetTable.gaveWay
  rcases T.qy with e | e | e | e | e<;>rw[e]<;>decide
 rw[odd,if_neg (by decide)]
 have room:t.place.size<=t.mask:=T.rm
 obtain⟨m,hm⟩:=GU T.hon.m3 T.qy room (fun i:Nat=>((es[i]?).map (·.1)).getD 0) (hP z)
 generalize hq:SetTable.probe t _ (hP z) _=r
 have hr:r=some m:=by rw[<- hq];exact hm
 clear hq
 subst hr
 dsimp only
 · generalize hf:(fun i:Nat=>((es[i]?).map (·.1)).getD 0)=f at hm
   have hfi:∀ i (h:i<zs.length),f i=hP zs[i].1:=fun i h=>by rw[<- hf];exact T.hash h
   cases m with
   |empty j d =>
     dsimp only
     obtain⟨rfl,e⟩:=Gi T.hon.m3 f (hP z) _ _ j d rfl hm
     obtain⟨m,b1,b2,b3⟩:=G3 T.hon.m3 f (hP z) _ _ j none hm
     refine wpAny_pure (free j (fun wq=>?_) e ⟨m,b1,by rw[<- tT];exact b2,fun m' hm'=>?_⟩)
     · obtain⟨j',i',nx',q⟩:=T.found wq hfi
       rw[hm] at q
       cases q
     · obtain⟨i,hi⟩:=b3 m' hm'
       rw[tT] at hi
       have:=wk hi
       rw[<- Array.getElem?_toList] at this
       exact List.mem_of_getElem? this
   |candidate j i nx =>
     dsimp only
     obtain⟨e1,e2⟩:=Hc T.hon.m3 f (hP z) _ _ j i nx hm
     have lz:i<zs.length:=by rw[T.len, <- T.sz];exact He e1
     have key:zs[i].1=z:=G1 (T.sm _ (List.getElem_mem lz)) sm ((hfi i lz).symm.trans e2)
     have wq:z∈zs.map (·.1):=List.mem_map.mpr ⟨zs[i],List.getElem_mem lz,key⟩
     have ge:=T.get i
     rw[List.getElem?_eq_getElem lz] at ge
     rw[Option.map_some,qw] at ge
     have go:∀ {k:Bool->(Array (Int×Value)×Nat×SetTable)->Sem SetFound},(∀ x,k true x=pure (SetFound.there none))->wpAny (model prog w) A (do
      let equal <- holding [Value.ref zs[i].2] (eqBool (.ref zs[i].2) (.ref p))
      let x <- setState a
      k equal x) Q E s:=fun {k} hk=>by
      refine wpAny_bind (wpAny_holding (G_ hu (hz _ (List.getElem_mem lz)) hp ?_))
      rw[decide_eq_true key]
      refine wpAny_bind (wpAny_setState_of ha rfl T.fits ?_)
      rw[hk]
      exact wpAny_pure (there wq)
     split
     · refine wpAny_bind (Hb hp ?_ _ fun v hv=>?_)
       · rw[if_neg (by decide)]
         simp only[ge]
         exact go fun x=>by simp
       · obtain⟨e,he,rfl⟩:=List.mem_map.mp hv
         have he:e∈es.toList:=by
          rw[Array.mem_toList_iff] at he ⊢
          exact(Array.mem_filter.mp he).1
         rw[T.el] at he
         obtain⟨y,hy,rfl⟩:=List.mem_map.mp he
         exact⟨y.2,y.1,rfl,hz y hy⟩
     · simp only[ge]
       exact go fun x=>by simp
end
section
variable{prog:Program}{w:World}{A:Around}{E:Value->Shared->Prop}{s:Shared}{a p:Addr}{es:Array (Int×Value)}{ep:Nat}{t:SetTable}
theorem Hg{α β:Type}{x:α}{y:β}:∀ (xs:List α) (ys:List β) (n:Nat),xs.length=ys.length->∀ q∈(xs.take n++x::xs.drop n).zip (ys.take n++y::ys.drop n),q=(x,y)\/q∈xs.zip ys:=by
 intro xs ys n h q hq
 have l:(xs.take n).length=(ys.take n).length:=by rw[List.length_take,List.length_take,h]
 rw[List.zip_append l,List.zip_cons_cons] at hq
 have e:xs.zip ys=(xs.take n).zip (ys.take n)++(xs.drop n).zip (ys.drop n):=by rw[<- List.zip_append l,List.take_append_drop,List.take_append_drop]
 rw[e]
 rcases List.mem_append.mp hq with z | z
 · exact .inr (List.mem_append_left _ z)
 · rcases List.mem_cons.mp z with z | z
   · exact .inl z
   · exact .inr (List.mem_append_right _ z)
theorem bY.put{B:Bool}{zs:List Z}(T:bY es t B zs){z:Z}(hn:z.1 ∉ zs.map (·.1))(sm:cn z.1){j:Nat}(hj:t.slot j = .empty)(hr:nM t.mask t.place.toList (hP z.1) j)(rm:t.place.size+1<=t.mask) :
 bY (SetTable.insertAt es (t.put j).2 (zO z)) (t.put j).1 B (zs.take (t.put j).2++z::zs.drop (t.put j).2)/\(t.put j).1.mask=t.mask/\(t.put j).1.place.size=t.place.size+1/\(t.put j).1.dummies = #[]:=by
 have dm:(t.put j).1.dummies = #[]:=by
  unfold SetTable.put
  dsimp only
  rw[T.hon.m3,AN]
  rfl
 have pl:(t.put j).1.place=SetTable.insertAt t.place (t.put j).2 j:=rfl
 have p2:(t.put j).2=SetTable.below t.place j:=rfl
 generalize hq:(t.put j).2=q at *
 have wt:(t.put j).1.place.toList=t.place.toList.take q++j::t.place.toList.drop q:=by rw[pl,SetTable.toList_insertAt]
 have mk:(t.put j).1.mask=t.mask:=rfl
 have m5:(t.put j).1.place.size=t.place.size+1:=by
  rw[<- Array.length_toList,wt]
  simp
  omega
 have len:zs.length=t.place.toList.length:=by rw[T.len, <- T.sz,Array.length_toList]
 have qz:∀ x∈t.place.toList,x∈(t.put j).1.place.toList:=fun x hx=>by
  rw[wt]
  rw[<- List.take_append_drop q t.place.toList] at hx
  rcases List.mem_append.mp hx with h | h
  · exact List.mem_append_left _ h
  · exact List.mem_append_right _ (List.mem_cons_of_mem _ h)
 have perm:(zs.take q++z::zs.drop q).Perm (z::zs):=by
  have:=List.perm_middle (a:=z) (l₁:=zs.take q) (l₂:=zs.drop q)
  rwa[List.take_append_drop] at this
 refine⟨⟨?_,fun y hy=>?_,?_,⟨?_,dm,T.hon.led⟩,T.qy,?_,by rw[m5];exact rm,fun y hy=>?_⟩,rfl,m5,dm⟩
 · rw[SetTable.toList_insertAt,T.el,List.map_append,List.map_cons,List.map_take,List.map_drop]
 · rcases List.mem_cons.mp (perm.mem_iff.mp hy) with e | e
   · rw[e];exact sm
   · exact T.sm y e
 · refine(perm.map _).nodup_iff.mpr ?_
   rw[List.map_cons]
   exact List.nodup_cons.mpr ⟨hn,T.nd⟩
 · show kQ (t.put j).1.place
   rw[pl,p2]
   exact Gg T.hon.rise (Gh T.hon.m3 hj)
 · have l2:(SetTable.insertAt es q (zO z)).toList.length=es.toList.length+1:=by
    rw[SetTable.toList_insertAt]
    simp only[List.length_append,List.length_take,List.length_cons,List.length_drop]
    omega
   rw[Array.length_toList,Array.length_toList] at l2
   rw[m5,l2,T.sz]
 · rw[wt] at hy
   rcases Hg zs t.place.toList q len y hy with e | e
   · rw[e,mk]
     exact hr.mono qz
   · rw[mk]
     exact(T.tU y e).mono qz
theorem Hh{zs:List Z}(hel:es.toList=zs.map zO)(l:List Nat):l.filterMap (fun i=>es[i]?)=(l.filterMap fun i=>zs[i]?).map zO:=by
 rw[List.map_filterMap]
 congr 1
 funext i
 rw[<- Array.getElem?_toList,hel,List.getElem?_map]
theorem bY.qA{B:Bool}{zs:List Z}(T:bY es t B zs){n:Nat}(hm:jB (SetTable.sizeAbove n - 1))(hl:es.size<=SetTable.sizeAbove n - 1) :
 ∃ (t':SetTable) (order:Array Nat) (zs':List Z),t.relaid (es.map (·.1)) n=some (t',order)/\(order.filterMap fun i=>es[i]?).size=es.size/\bY (order.filterMap fun i=>es[i]?) t' B zs'/\zs'.Perm zs/\t'.mask=SetTable.sizeAbove n - 1/\t'.place.size=es.size:=by
 obtain⟨t',live,e,pm,mk,ri,du,le,pn,Bi,rc⟩:=G8 (t:=t) hm hl
 have zp:((live.map (·.2)).filterMap fun i=>zs[i]?).Perm zs:=by
  have q:=pm.filterMap (fun i=>zs[i]?)
  rw[<- T.len,List.filterMap_getElem?_range_length] at q
  exact q
 have esl:((live.map (·.2)).toArray.filterMap fun i=>es[i]?).toList=((live.map (·.2)).filterMap fun i=>zs[i]?).map zO:=by
  rw[Array.toList_filterMap]
  exact Hh T.el _
 have Bj:((live.map (·.2)).toArray.filterMap fun i=>es[i]?).size=es.size:=by
  rw[<- Array.length_toList,esl,List.length_map,zp.length_eq,T.len]
 have ll:live.length=es.size:=by
  have:=pm.length_eq
  simpa using this
 have psz:t'.place.size=es.size:=by rw[<- Array.length_toList,Bi,List.length_map,ll]
 refine⟨t',_,_,e,Bj,⟨esl,fun y hy=>T.sm y (zp.mem_iff.mp hy),(zp.map _).nodup_iff.mpr T.nd,⟨ri,du,le.trans T.hon.led⟩,by rw[mk];exact hm,psz.trans Bj.symm,by rw[psz,mk];exact hl,fun y hy=>?_⟩,zp,mk,psz⟩
 have lt:∀ q∈live,q.2<zs.length:=fun q hq=>by
  have:=pm.mem_iff.mp (List.mem_map.mpr ⟨q,hq,rfl⟩)
  rw[T.len]
  exact List.mem_range.mp this
 have Hi:∀ (l:List (Nat×Nat)),(∀ q∈l,q.2<zs.length)->∀ y∈((l.map (·.2)).filterMap fun i=>zs[i]?).zip (l.map (·.1)),∃ q∈l,zs[q.2]? = some y.1/\y.2=q.1:=by
  intro l
  induction l with
  |nil=>intro _ y hy;simp at hy
  |cons c r ih =>
    intro h y hy
    have lc:=h c (.head _)
    rw[List.map_cons,List.map_cons,List.filterMap_cons_some (List.getElem?_eq_getElem lc),List.zip_cons_cons] at hy
    rcases List.mem_cons.mp hy with e | e
    · exact⟨c,.head _,by rw[e];exact List.getElem?_eq_getElem lc,by rw[e]⟩
    · obtain⟨q,hq,b⟩:=ih (fun q hq=>h q (.tail _ hq)) y e
      exact⟨q,.tail _ hq,b⟩
 rw[Bi] at hy ⊢
 obtain⟨q,hq,e1,e2⟩:=Hi live lt y hy
 obtain⟨c,hc,r⟩:=rc q hq
 have ec:c=hP y.1.1:=by
  have h2:(es.map (·.1)).toList[q.2]? = some (hP y.1.1):=by
   rw[Array.toList_map,T.el,List.map_map,List.getElem?_map,e1,Option.map_some,Function.comp_apply,qw]
  rw[h2] at hc
  exact(Option.some.inj hc).symm
 rw[mk,e2]
 rw[ec] at r
 exact r
end
section
variable{prog:Program}{w:World}{A:Around}{E:Value->Shared->Prop}{s:Shared}{a p:Addr}
noncomputable def bO(B:Bool)(h:Heap)(a:Addr)(zs:List Z):Prop:=∃ es ep t,h.get? a=some (bh es ep t)/\bY es t B zs/\t.place.size * 5<t.mask * 3
theorem bO.at{B:Bool}{h h':Heap}{zs:List Z}(x:bO B h a zs)(k:∀ o,h.get? a=some o->h'.get? a=some o):bO B h' a zs:=by
 obtain⟨es,ep,t,e,r⟩:=x
 exact⟨es,ep,t,k _ e,r⟩
theorem bO.fresh(B:Bool){h:Heap}(e:h.get? a=some (bh #[] 0 (.fresh 0 0 (!B)))):bO B h a [] :=
 ⟨#[],0,_,e,⟨rfl,(fun z hz=>nomatch hz),List.nodup_nil,o4.fresh B,.inl rfl,rfl,(show 0<=7 by decide),(fun q hq=>by simp at hq)⟩,(show 0 * 5<7 * 3 by decide)⟩
theorem grow{m n:Nat}(hm:jB m)(h1:n * 5<m * 3)(h2:m * 3<=(n+1) * 5)(h3:n<600):jB (SetTable.sizeAbove (SetTable.grown (n+1)) - 1)/\n+1<=SetTable.sizeAbove (SetTable.grown (n+1)) - 1/\(n+1) * 5<(SetTable.sizeAbove (SetTable.grown (n+1)) - 1) * 3/\SetTable.sizeAbove (SetTable.grown (n+1))<=sizeLine:=by
 rcases hm with rfl | rfl | rfl | rfl | rfl
 · obtain rfl:n=4:=by omega
   exact⟨.inr (.inl (by decide)),by decide,by decide,by decide⟩
 · obtain rfl:n=18:=by omega
   exact⟨.inr (.inr (.inl (by decide))),by decide,by decide,by decide⟩
 · obtain rfl:n=76:=by omega
   exact⟨.inr (.inr (.inr (.inl (by decide)))),by decide,by decide,by decide⟩
 · obtain rfl:n=306:=by omega
   exact⟨.inr (.inr (.inr (.inr (by decide)))),by decide,by decide,by decide⟩
 · omega
theorem Bk{z:Int×Int}{B:Bool}{zs:List Z}{Q:Bool->Shared->Prop}(hu:A.units<cLine)(hS:bO B s.heap a zs)(hz:∀ y∈zs,bN s.heap y.1 y.2)(hp:bN s.heap z p)(sm:cn z)(hl:zs.length<600)
 (same:z∈zs.map (·.1)->∀ tk,Q false { s with toks:=tk })
 (new:z ∉ zs.map (·.1)->∀ h' tk zs',Heap.SameBut a s.heap h'->bO B h' a zs'->zs'.Perm ((z,p)::zs)->Q true { s with heap:=h',toks:=tk }):wpAny (model prog w) A (setAdd a (.ref p)) Q E s:=by
 obtain⟨es,ep,t,ha,T,nf⟩:=hS
 unfold setAdd
 refine wpAny_holding (wpAny_bind (G9 hu hp ?_))
 unfold setAddHashed
 refine wpAny_holding ?_
 show wpAny _ _ (setAddHashedIn a (.ref p) (hP z) (99999+1)) _ _ _
 rw[setAddHashedIn]
 refine wpAny_bind (wpAny_setState_of (s:={ s with toks:=s.toks+3 }) ha rfl T.fits ?_)
 have ns:byScan (.ref p) es=false:=rfl
 dsimp only
 rw[ns,if_neg (by decide)]
 refine wpAny_bind ?_
 show wpAny _ _ (setSearchFrom a (.ref p) (hP z) true (99999+1) none) _ _ _
 refine Hf (s:={ s with toks:=s.toks+3 }) hu ha T hz hp sm (fun hin=>?_) (fun j hn hj hr=>?_) 99999
 · exact wpAny_pure (same hin _)
 · dsimp only
   refine wpAny_bind (wpAny_setState_of (s:={ s with toks:=s.toks+3 }) ha rfl T.fits ?_)
   dsimp only
   have room:t.place.size+1<=t.mask:=by
    rcases T.qy with e | e | e | e<;>omega
   obtain⟨T1,mk1,m5,Bl⟩:=T.put (z:=(z,p)) hn sm hj hr room
   rw[qw] at T1
   generalize hq:(t.put j).2=q at T1
   generalize ht:(t.put j).1=t1 at T1 mk1 m5 Bl
   have m6:(zs.take q++(z,p)::zs.drop q).Perm ((z,p)::zs):=by
    have:=List.perm_middle (a:=(z,p)) (l₁:=zs.take q) (l₂:=zs.drop q)
    rwa[List.take_append_drop] at this
   have esl:(SetTable.insertAt es q (hP z,.ref p)).size=zs.length+1:=by
    rw[<- T1.len]
    simp only[List.length_append,List.length_take,List.length_cons,List.length_drop]
    omega
   have big:(600:Nat)<=sizeLine:=by decide
   have zl:t.place.size=zs.length:=by rw[T.sz,T.len]
   have ez:es.size=zs.length:=T.len.symm
   have g1:=AO (es':=SetTable.insertAt es q (hP z,.ref p)) (t':=t1) ha
   have kS:=Heap.SameBut.update s.heap a (Obj.putSet (SetTable.insertAt es q (hP z,.ref p)) t1)
   have tf:t1.tooFull=decide (t1.place.size * 5 ≥ t1.mask * 3):=by
    unfold SetTable.tooFull SetTable.fill
    rw[Bl]
    rfl
   have fin:wpAny (model prog w) A (if (!false && t1.tooFull)=true then do
    setRelay a (SetTable.grown (es.size+1))
    pure true
    else pure true) Q E { s with heap:=s.heap.update a (Obj.putSet (SetTable.insertAt es q (hP z,.ref p)) t1),toks:=s.toks+3 }:=by
    split
    · rename_i c
      rw[tf,Bool.not_false,Bool.true_and,decide_eq_true_eq,m5,mk1] at c
      obtain⟨k1,k2,k3,k4⟩:=grow T.qy nf c (by omega)
      rw[<- T.sz]
      refine wpAny_bind ?_
      unfold setRelay
      refine wpAny_bind (wpAny_setState_of (s:={ s with heap:=s.heap.update a (Obj.putSet (SetTable.insertAt es q (hP z,.ref p)) t1),toks:=s.toks+3 }) g1 rfl T1.fits ?_)
      dsimp only
      rw[if_neg (Nat.not_lt.mpr k4)]
      obtain⟨t2,order,Hj,e2,Bm,T2,ie,mk2,ps2⟩:=T1.qA (n:=SetTable.grown (t.place.size+1)) k1 (by rw[esl, <- zl];exact k2)
      rw[e2]
      refine wpAny_bind (show wpAny _ _ (if ((order.filterMap fun i=>(SetTable.insertAt es q (hP z,.ref p))[i]?).size != (SetTable.insertAt es q (hP z,.ref p)).size)=true then (unsupported "internal:set-table-lost-an-element" >>= fun (_:PUnit)=>pure (order.filterMap fun i=>(SetTable.insertAt es q (hP z,.ref p))[i]?,t2)) else pure (order.filterMap fun i=>(SetTable.insertAt es q (hP z,.ref p))[i]?,t2)) _ _ _ from ?_)
      rw[if_neg (by rw[Bm];simp)]
      refine wpAny_pure ?_
      dsimp only
      refine wpAny_storeSet_of (s:={ s with heap:=s.heap.update a (Obj.putSet (SetTable.insertAt es q (hP z,.ref p)) t1),toks:=s.toks+3 }) g1 rfl ?_ (by rw[Bm,esl];omega)
      refine wpAny_pure (new hn _ _ Hj (kS.trans (Heap.SameBut.update _ a _)) ⟨_,_,t2,AO g1,T2,?_⟩ (ie.trans m6))
      rw[ps2,mk2,esl, <- zl]
      exact k3
    · rename_i c
      rw[tf,Bool.not_false,Bool.true_and,decide_eq_true_eq] at c
      exact wpAny_pure (new hn _ _ _ kS ⟨_,_,t1,g1,T1,by omega⟩ m6)
   split
   · refine wpAny_bind (Ha (s:={ s with toks:=s.toks+3 }) hp ?_)
     rw[if_pos rfl]
     refine wpAny_bind (wpAny_storeSet_of (s:={ s with toks:=s.toks+3 }) ha rfl ?_ (by omega))
     exact fin
   · refine  wpAny_bind (wpAny_pure ?_)
     rw[if_pos rfl]
     refine wpAny_bind (wpAny_storeSet_of (s:={ s with toks:=s.toks+3 }) ha rfl ?_ (by omega))
     exact fin
end
section
variable{prog:Program}{w:World}{A:Around}{E:Value->Shared->Prop}{s:Shared}{a p:Addr}
theorem Hk{z:Int×Int}{B:Bool}{zs:List Z}{Q:Value->Shared->Prop}(hu:A.units+1<cLine)(hS:bO B s.heap a zs)(hz:∀ y∈zs,bN s.heap y.1 y.2)(hp:bN s.heap z p)(sm:cn z)(hl:zs.length<600)
 (h:∀ h' tk zs',Heap.SameBut a s.heap h'->bO B h' a zs'->(zs'=zs/\z∈zs.map (·.1))\/(zs'.Perm ((z,p)::zs)/\z ∉ zs.map (·.1))->Q .none { s with heap:=h',toks:=tk }):wpAny (model prog w) A (call (.builtin "set.add") [.ref a,.ref p]) Q E s:=by
 have hT:s.TypeIs (.ref a) "set" := by obtain⟨es,ep,t,e,_⟩:=hS;exact⟨_,e,rfl⟩
 refine wpAny_call_entry F.slot_set_add hT F.entry_set_add ?_ (F.args_set_add_2 _ _)
 show wpAny _ _ (setAdd a (.ref p) >>= _) _ _ _
 refine wpAny_bind (Bk hu hS hz hp sm hl (fun hin tk=>?_) fun hn h' tk zs' sb S pm=>?_)
 · exact wpAny_pure ⟨_,rfl,h s.heap tk zs (Heap.SameBut.refl _ _) hS (.inl ⟨rfl,hin⟩)⟩
 · exact wpAny_pure ⟨_,rfl,h h' tk zs' sb S (.inr ⟨pm,hn⟩)⟩
end
end St
namespace L2
open PySem PySem.Spec PyProof.Rows
noncomputable abbrev Key:=Sum Int Str
noncomputable def Bn:Key->Value->Bool
 | .inl k,v=>Value.isInt k v
 | .inr x,v=>Value.isStrOf x v
noncomputable def Hl(w:World):Key->Int
 | .inl k=>hashInt k
 | .inr x=>hashStr w x
theorem lI:∀ {k:Key} {v:Value},Bn k v=true->(∃ i t,k=Sum.inl i/\v=Value.int i t)\/(∃ x t,k=Sum.inr x/\v=Value.str x t)
 | .inl i,v,h=>by
   obtain⟨t,e⟩:=Value.isInt_shape (k:=i) (v:=v) h
   exact .inl ⟨i,t,rfl,e⟩
 | .inr x,v,h=>by
   obtain⟨t,e⟩:=Value.isStrOf_shape (x:=x) (v:=v) h
   exact .inr ⟨x,t,rfl,e⟩
theorem Hm(a b:Int):decide ((Sum.inl a:Key)=Sum.inl b)=(a == b):=by
 by_cases e:a=b
 · subst e;simp
 · have h : ¬ (Sum.inl a:Key)=Sum.inl b:=fun q=>e (Sum.inl.inj q)
   rw[decide_eq_false h]
   exact(beq_eq_false_iff_ne.mpr e).symm
theorem Hn(a b:Str):decide ((Sum.inr a:Key)=Sum.inr b)=decide (a=b):=by
 by_cases e:a=b
 · subst e;simp
 · have h : ¬ (Sum.inr a:Key)=Sum.inr b:=fun q=>e (Sum.inr.inj q)
   rw[decide_eq_false h,decide_eq_false e]
theorem Ho(a:Int)(b:Str):decide ((Sum.inl a:Key)=Sum.inr b)=false:=decide_eq_false (fun q=>nomatch q)
theorem Hq(a:Str)(b:Int):decide ((Sum.inr a:Key)=Sum.inl b)=false:=decide_eq_false (fun q=>nomatch q)
noncomputable def Bo(prog:Program)(w:World):PySem.KeyKind prog w Key where
 is:=Bn
 hash:=Hl w
 inj:=fun v a b ha hb=>by
  rcases lI ha with ⟨i,t,rfl,rfl⟩ | ⟨x,t,rfl,rfl⟩
  · rcases lI hb with ⟨j,u,rfl,e⟩ | ⟨y,u,rfl,e⟩
    · injection e with e1 _;rw[e1]
    · exact nomatch e
  · rcases lI hb with ⟨j,u,rfl,e⟩ | ⟨y,u,rfl,e⟩
    · exact nomatch e
    · injection e with e1 _;rw[e1]
 byValue:=fun k v h=>by
  rcases lI h with ⟨i,t,rfl,rfl⟩ | ⟨x,t,rfl,rfl⟩<;>rfl
 pyHash:=fun hv h=>by
  rcases lI hv with ⟨i,t,rfl,rfl⟩ | ⟨x,t,rfl,rfl⟩
  · exact wpAny_pyHash_int h
  · exact wpAny_pyHash_str h
 eqBool:=fun hu hv h=>by
  rcases lI hu with ⟨i,t,rfl,rfl⟩ | ⟨x,t,rfl,rfl⟩
  · rcases lI hv with ⟨j,u,rfl,rfl⟩ | ⟨y,u,rfl,rfl⟩
    · rw[Hm] at h;exact wpAny_eqBool_int h
    · rw[Ho] at h;exact SeqAt.EqAt.int_str i t y u _ _ _ _ h
  · rcases lI hv with ⟨j,u,rfl,rfl⟩ | ⟨y,u,rfl,rfl⟩
    · rw[Hq] at h;exact SeqAt.EqAt.str_int x t j u _ _ _ _ h
    · rw[Hn] at h;exact wpAny_eqBool_str h
 «strs» := fun k x t v h=>by
  rcases lI h with ⟨i,u,rfl,e⟩ | ⟨y,u,rfl,e⟩
  · exact nomatch e
  · injection e with e1 _
    subst e1
    cases v<;>rfl
inductive V where
 |ao | bl (b:Bool) | int (i:Int) | str (x:Str) | jC (b:Array UInt8) | flt (b:UInt64) | ref (a:Addr) | ty (n:String)
 deriving DecidableEq
noncomputable def RelV:V->Value->Prop
 | .ao,u=>u=Value.none
 | .bl b,u=>u=Value.bool b
 | .int i,u=>∃ t,u=Value.int i t
 | .str x,u=>∃ t,u=Value.str x t
 | .jC b,u=>∃ t,u=Value.bytes b t
 | .flt b,u=>∃ t,u=Value.float b t
 | .ref a,u=>u=Value.ref a
 | .ty n,u=>u=Value.type n
noncomputable abbrev Vals:List V->List Value->Prop:=Paired RelV
theorem Vals.length{xs:List V}{us:List Value}(r:Vals xs us):xs.length=us.length:=Paired.length r
theorem Vals.get:∀ {xs:List V} {us:List Value} {i:Nat} {x:V},Vals xs us->xs[i]? = some x->∃ u,us[i]? = some u/\RelV x u
 | _,_,_,_,.nil,e=>by simp at e
 | _,_,0,_,.cons r _,e=>by simp at e;subst e;exact⟨_,rfl,r⟩
 | _,_,i+1,x,.cons _ t,e=>by
   obtain⟨u,h1,h2⟩:=Vals.get (i:=i) (x:=x) t (by simpa using e)
   exact⟨u,by simpa using h1,h2⟩
theorem Vals.set{x:V}{u:Value}(r:RelV x u):∀ {xs:List V} {us:List Value} (i:Nat),Vals xs us->Vals (xs.set i x) (us.set i u)
 | _,_,_,.nil=>.nil
 | _,_,0,.cons _ t=>.cons r t
 | _,_,i+1,.cons q t=>.cons q (Vals.set r i t)
theorem Vals.append:∀ {xs ys:List V} {us ws:List Value},Vals xs us->Vals ys ws->Vals (xs++ys) (us++ws)
 | _,_,_,_,.nil,s=>s
 | _,_,_,_,.cons r t,s=>.cons r (Vals.append t s)
theorem Vals.take:∀ {xs:List V} {us:List Value} (n:Nat),Vals xs us->Vals (xs.take n) (us.take n)
 | _,_,0,_=>.nil
 | _,_,_+1,.nil=>.nil
 | _,_,n+1,.cons r t=>.cons r (Vals.take n t)
theorem Vals.drop:∀ {xs:List V} {us:List Value} (n:Nat),Vals xs us->Vals (xs.drop n) (us.drop n)
 | _,_,0,r=>r
 | _,_,_+1,.nil=>.nil
 | _,_,n+1,.cons _ t=>Vals.drop n t
noncomputable def cw:Option V->Option Value->Prop
 |some v,some u=>RelV v u
 |none,none=>True
 | _,_=>False
noncomputable def KV{κ:Type}:List (κ×V)->List (κ×Value)->Prop:=Paired fun (p:κ×V) (q:κ×Value)=>p.1=q.1/\RelV p.2 q.2
noncomputable def kV:Key->V
 | .inl i=>.int i
 | .inr x=>.str x
inductive HO where
 |lst (xs:List V)
 |tup (xs:List V)
 |dK (kvs:List (Key×V)) | dT (kvs:List (List Key×V))
 |set (S:Int->Bool) (n:Nat)
 |ins (C dx:Addr) (fs:List (Str×V))
 |own (x:Addr)
 |xd (fs:List (Str×V))
 |met (f x:Addr)
 |wu (lo hi:Int)
 |ak (o:Obj) (u:HO)
 |nN (ps:Array Value)
 |ext (φ:Heap->Prop)
noncomputable abbrev Hp:=Addr->Option HO
noncomputable def upd(H:Hp)(a:Addr)(o:HO):Hp:=fun b=>if b=a then some o else H b
theorem cJ{H:Hp}{a:Addr}{o:HO}:upd H a o a=some o:=by unfold upd;rw[if_pos rfl]
theorem aV{H:Hp}{a b:Addr}{o:HO}(h:b≠a):upd H a o b=H b:=by unfold upd;rw[if_neg h]
theorem wx{H:Hp}{a:Addr}{o u:HO}:upd (upd H a o) a u=upd H a u:=by
 funext b;unfold upd;split<;>rfl
theorem m7{H:Hp}{a b:Addr}{o u:HO}(h:H a=some o)(h':H b=some u)(d:o≠u):a≠b:=by
 intro e;subst e;rw[h] at h';exact d (Option.some.inj h')
theorem eR{H:Hp}{a b:Addr}{o:HO}(h:H a=some o)(h':H b=none):a≠b:=by
 intro e;subst e;rw[h] at h';cases h'
section
variable(P:Program)(w:World)
noncomputable def aD(H:Hp)(h:Heap)(a:Addr):HO->Prop
 | .lst xs=>xs.length<=sizeLine/\∃ (its:List Value) (n:Nat),Vals xs its/\h.get? a=some { cls:=.type "list",data:=.seq its.toArray n }
 | .tup xs=>xs.length<=sizeLine/\∃ its:List Value,Vals xs its/\IsTup h a its.toArray
 | .dK kvs=>kvs.length<=sizeLine/\(a == sysModules)=false/\∃ vs,KV kvs vs/\h.DictOf (Bo P w) a vs
 | .dT kvs=>kvs.length<=sizeLine/\(a == sysModules)=false/\∃ xs:List (List Key×Addr×Value),
  Paired (fun (p:List Key×V) (q:List Key×Addr×Value)=>p.1=q.1/\H q.2.1=some (.tup (p.1.map kV))/\RelV p.2 q.2.2) kvs xs /\
  ∃ o es ep,h.get? a=some o/\o.ExactDict/\o.data = .dict es ep/\es.toList=xs.map (entryOfKey (tupleKind (Bo P w)))/\(xs.map (·.1)).Nodup
 | .set S n=>h.SetOf (intKind P w) a S n
 | .ins C dx fs=>H dx=some (.own a)/\fs.length<=1000/\dx≠a/\h.get? a=some (W.instObj C dx) /\
  ∃ mA,h.Ns1 dx mA/\(∀ f,cw (fs.lookup f) (mA f))/\PySem.Within mA (fs.map (·.1))
 | .own _=>∃ o,h.get? a=some o
 | .xd fs=>∃ mA,h.Ns1 a mA/\∀ f,cw (fs.lookup f) (mA f)
 | .wu lo hi=>∃ t u v,h.get? a=some { cls:=.type "range",data:=.fields #[.int lo t,.int hi u,.int 1 v] }
 | .ak o u=>h.get? a=some o/\aD H h a u
 | .nN ps=>h.get? a=some { cls:=.none,data:=.fields ps }
 | .met f x=>h.get? a=some (W.methodObj (.ref f) (.ref x))
 | .ext φ=>φ h/\(∃ o,h.get? a=some o)/\∀ h1 h2:Heap,φ h1->(∀ o,h1.get? a=some o->h2.get? a=some o)->φ h2
noncomputable def bZ(H:Hp)(h:Heap):Prop:=∀ a o,H a=some o->aD P w H h a o
end
section
variable{P:Program}{w:World}{H H':Hp}{h h':Heap}{a:Addr}{o:HO}
theorem aD.lt(x:aD P w H h a o):a<h.objs.size:=by
 cases o with
 |lst xs=>obtain⟨_,_,_,_,e⟩:=x;exact Heap.lt_size e
 |tup xs=>obtain⟨_,_,_,p⟩:=x;exact p.lt
 |dK kvs=>obtain⟨_,_,_,_,o,_,_,e,_⟩:=x;exact Heap.lt_size e
 |dT kvs=>obtain⟨_,_,_,_,o,_,_,e,_⟩:=x;exact Heap.lt_size e
 |set S n=>obtain⟨o,_,_,_,e,_⟩:=x;exact Heap.lt_size e
 |ins C dx fs=>obtain⟨_,_,_,e,_⟩:=x;exact Heap.lt_size e
 |own y=>obtain⟨_,e⟩:=x;exact Heap.lt_size e
 |xd fs=>obtain⟨_,⟨_,_,_,e,_⟩,_⟩:=x;exact Heap.lt_size e
 |wu lo hi=>obtain⟨_,_,_,e⟩:=x;exact Heap.lt_size e
 |ak ob u=>obtain⟨e,_⟩:=x;exact Heap.lt_size e
 |nN ps=>exact Heap.lt_size (show h.get? a=some _ from x)
 |met f y=>exact Heap.lt_size (show h.get? a=some _ from x)
 |ext φ=>obtain⟨_,⟨_,e⟩,_⟩:=x;exact Heap.lt_size e
theorem Paired.qB{α β:Type}{F G:α->β->Prop}:∀ {l₁:List α} {l₂:List β},Paired F l₁ l₂->(∀ a b,F a b->G a b)->Paired G l₁ l₂
 | _,_,.nil,_=>.nil
 | _,_,.cons r t,f=>.cons (f _ _ r) (Paired.qB t f)
theorem aD.stay(x:aD P w H h a o)(k:∀ b u,(b=a\/H b=some (.own a))->h.get? b=some u->h'.get? b=some u)
 (ho:∀ b,H b=some (.own a)->H' b=some (.own a)) (ht:∀ b xs,H b=some (.tup xs)->H' b=some (.tup xs)):aD P w H' h' a o:=by
 induction o with
 |lst xs=>obtain⟨z,its,n,r,e⟩:=x;exact⟨z,its,n,r,k _ _ (.inl rfl) e⟩
 |tup xs=>obtain⟨z,its,r,ob,e,c⟩:=x;exact⟨z,its,r,ob,k _ _ (.inl rfl) e,c⟩
 |dK kvs=>obtain⟨z,y,vs,r,ob,es,ep,e,c⟩:=x;exact⟨z,y,vs,r,ob,es,ep,k _ _ (.inl rfl) e,c⟩
 |dT kvs =>
   obtain⟨z,y,xs,r,ob,es,ep,e,c⟩:=x
   exact⟨z,y,xs,Paired.qB r fun p q z=>⟨z.1,ht _ _ z.2.1,z.2.2⟩,ob,es,ep,k _ _ (.inl rfl) e,c⟩
 |set S n=>obtain⟨ob,es,ep,t,e,c⟩:=x;exact⟨ob,es,ep,t,k _ _ (.inl rfl) e,c⟩
 |ins C dx fs =>
   obtain⟨d,z,ne,e,mA,⟨od,es,ep,e2,c⟩,r⟩:=x
   exact⟨ho _ d,z,ne,k _ _ (.inl rfl) e,mA,⟨od,es,ep,k _ _ (.inr d) e2,c⟩,r⟩
 |own y=>obtain⟨ob,e⟩:=x;exact⟨ob,k _ _ (.inl rfl) e⟩
 |xd fs=>obtain⟨mA,⟨od,es,ep,e,c⟩,r⟩:=x;exact⟨mA,⟨od,es,ep,k _ _ (.inl rfl) e,c⟩,r⟩
 |wu lo hi=>obtain⟨t,u,v,e⟩:=x;exact⟨t,u,v,k _ _ (.inl rfl) e⟩
 |ak ob u ih=>obtain⟨e,q⟩:=x;exact⟨k _ _ (.inl rfl) e,ih q⟩
 |nN ps =>
   have e:h.get? a=some { cls:=.none,data:=.fields ps }:=x
   show h'.get? a=some { cls:=.none,data:=.fields ps }
   exact k a _ (.inl rfl) e
 |met f y =>
   have e:h.get? a=some (W.methodObj (.ref f) (.ref y)):=x
   show h'.get? a=some (W.methodObj (.ref f) (.ref y))
   exact k a _ (.inl rfl) e
 |ext φ=>obtain⟨p,⟨o,e⟩,st⟩:=x;exact⟨st _ _ p fun o q=>k _ _ (.inl rfl) q,⟨o,k _ _ (.inl rfl) e⟩,st⟩
theorem bZ.lt(x:bZ P w H h)(e:H a=some o):a<h.objs.size:=(x a o e).lt
theorem bZ.fresh(x:bZ P w H h)(e:h.objs.size<=a):H a=none:=by
 cases q:H a with
 |none=>rfl
 |some u=>exact absurd (Nat.lt_of_lt_of_le (x.lt q) e) (Nat.lt_irrefl _)
theorem bZ.kept(x:bZ P w H h)(k:∀ b u,h.get? b=some u->h'.get? b=some u):bZ P w H h':=fun a o e =>
 (x a o e).stay (fun b u _ q=>k b u q) (fun _ q=>q) fun _ _ q=>q
theorem bZ.laid(x:bZ P w H h)(k:∀ b u,h.get? b=some u->h'.get? b=some u)(hp:h.objs.size<=a)(new:aD P w (upd H a o) h' a o):bZ P w (upd H a o) h':=fun b u e=>by
 have hn:=x.fresh hp
 by_cases hb:b=a
 · subst hb;rw[cJ] at e;cases e;exact new
 · rw[aV hb] at e
   exact(x b u e).stay (fun c v _ q=>k c v q) (fun c q=>by rw[aV (eR q hn)];exact q) fun c xs q=>by rw[aV (eR q hn)];exact q
end
noncomputable def Rd(H:Hp)(a:Addr)(u:HO):Prop:=H a=some u\/∃ o,H a=some (.ak o u)
theorem Rd.ok{P:Program}{w:World}{H:Hp}{h:Heap}{a:Addr}{u:HO}(r:Rd H a u)(x:bZ P w H h):aD P w H h a u:=by
 rcases r with r | ⟨o,r⟩
 · exact x a u r
 · obtain⟨_,q⟩:=x a _ r
   exact q
noncomputable def tV:Option HO->Prop
 |some (.lst _)=>True
 |some (.dK _)=>True
 |some (.dT _)=>True
 |some (.set _ _)=>True
 |some (.ins _ _ _)=>True
 |some (.ext _)=>True
 | _=>False
section
variable{P:Program}{w:World}{H:Hp}{h h':Heap}{x e:Addr}{o':HO}
theorem bZ.write(ok:bZ P w H h)(mu:tV (H x))(he:e=x\/H e=some (.own x))(k:∀ b u,b≠e->h.get? b=some u->h'.get? b=some u)(heo:∃ u,h'.get? e=some u)
 (new:aD P w (upd H x o') h' x o'):bZ P w (upd H x o') h':=fun b u q=>by
 have qC:∀ c y,H c=some (.own y)->c≠x:=fun c y r z=>by subst z;rw[r] at mu;exact mu
 have wy:∀ c xs,H c=some (.tup xs)->c≠x:=fun c xs r z=>by subst z;rw[r] at mu;exact mu
 by_cases hb:b=x
 · subst hb;rw[cJ] at q;cases q;exact new
 · rw[aV hb] at q
   by_cases hbe:b=e
   · have q':H b=some (.own x):=by
      rcases he with z | z
      · exact absurd (hbe.trans z) hb
      · rw[hbe];exact z
     rw[q] at q';cases q'
     obtain⟨v,hv⟩:=heo
     exact⟨v,by rw[hbe];exact hv⟩
   · refine(ok b u q).stay (fun c v hc r=>k c v ?_ r) (fun c r=>by rw[aV (qC c b r)];exact r) fun c xs r=>by rw[aV (wy c xs r)];exact r
     rcases hc with rfl | hc
     · exact hbe
     · rintro rfl
       rcases he with z | z
       · exact qC c b hc z
       · rw[hc] at z;cases z;exact hb rfl
end
structure Un(fs ex:List Addr)(H H':Hp)(h h':Heap):Prop where
 keep:∀ b o,h.get? b=some o->H b=none->b ∉ fs->b ∉ ex->h'.get? b=some o
 slot:∀ b o,h.get? b=some o->H b=none->b∈fs->b ∉ ex->∃ sl,h'.get? b=some { o with slots:=sl }
 free:∀ b o,h.get? b=some o->H b=none->b ∉ ex->H' b=none
 there:∀ b o,h.get? b=some o->b ∉ ex->∃ o',h'.get? b=some o'
 tups:∀ b xs,H b=some (.tup xs)->H' b=some (.tup xs)
 dF:∀ b o u,H b=some (.ak o u)->H' b=some (.ak o u)
 dZ:∀ b ps,H b=some (.nN ps)->∃ more,H' b=some (.nN (ps++more))
section
variable{fs fs' ex ex':List Addr}{H H1 H2:Hp}{h h1 h2 h':Heap}{a x e:Addr}{o:HO}
theorem Un.any(u:Un fs ex H H1 h h1){b:Addr}{ob:Obj}(q:h.get? b=some ob)(n:H b=none)(hx:b ∉ ex):∃ sl,h1.get? b=some { ob with slots:=sl }:=by
 by_cases hb:b∈fs
 · exact u.slot b ob q n hb hx
 · exact⟨ob.slots,u.keep b ob q n hb hx⟩
theorem Un.kept(k:∀ b u,h.get? b=some u->h'.get? b=some u):Un fs ex H H h h' :=
 ⟨fun b ob q _ _ _=>k b ob q,fun b ob q _ _ _=>⟨ob.slots,k b ob q⟩,fun _ _ _ n _=>n,fun b ob q _=>⟨ob,k b ob q⟩,fun _ _ q=>q,fun _ _ _ q=>q,fun _ ps q=>⟨#[],by rw[q];simp⟩⟩
theorem Un.refl:Un fs ex H H h h:=Un.kept fun _ _ q=>q
theorem Un.laid(k:∀ b u,h.get? b=some u->h'.get? b=some u)(hp:h.objs.size<=a)(hn:H a=none):Un fs ex H (upd H a o) h h' where
 keep:=fun b u q _ _ _=>k b u q
 slot:=fun b u q _ _ _=>⟨u.slots,k b u q⟩
 free:=fun b u q n _=>by rw[aV (Nat.ne_of_lt (Nat.lt_of_lt_of_le (Heap.lt_size q) hp))];exact n
 there:=fun b u q _=>⟨u,k b u q⟩
 tups:=fun b xs q=>by rw[aV (eR q hn)];exact q
 dF:=fun b u xs q=>by rw[aV (eR q hn)];exact q
 dZ:=fun b ps q=>⟨#[],by rw[aV (eR q hn),q];simp⟩
theorem Un.write(mu:tV (H x))(he:e=x\/H e=some (.own x))(k:∀ b u,b≠e->h.get? b=some u->h'.get? b=some u)(heo:∃ u,h'.get? e=some u):Un fs ex H (upd H x o) h h':=by
 have hx:∀ b,H b=none->b≠x:=fun b n z=>by subst z;rw[n] at mu;exact mu
 have hb:∀ b,H b=none->b≠e:=fun b n z=>by
  subst z
  rcases he with r | r
  · exact hx b n r
  · rw[n] at r;cases r
 have hm:∀ b u,H b=some u -> ¬ tV (some u)->b≠x:=fun b u q nm z=>by subst z;rw[q] at mu;exact nm mu
 refine⟨fun b u q n _ _=>k b u (hb b n) q,fun b u q n _ _=>⟨u.slots,k b u (hb b n) q⟩,fun b u q n _=>by rw[aV (hx b n)];exact n,fun b u q _=>?_,
  fun b xs q=>by rw[aV (hm b _ q fun z=>z)];exact q,fun b u xs q=>by rw[aV (hm b _ q fun z=>z)];exact q,fun b ps q=>⟨#[],by rw[aV (hm b _ q fun z=>z),q];simp⟩⟩
 by_cases hbe:b=e
 · subst hbe;exact heo
 · exact⟨u,k b u hbe q⟩
end
noncomputable def tW(h:Heap)(H:Hp):List Addr:=(List.range h.objs.size).filter fun a=>(H a).isSome
noncomputable def lJ(h:Heap)(H:Hp):Heap:=W.hideAll h (tW h H)
theorem Hr(h:Heap)(H:Hp):(lJ h H).objs.size=h.objs.size:=W.hideAll_size _ _
theorem Hs{h:Heap}{H:Hp}{b:Addr}{o:Obj}(e:h.get? b=some o)(n:H b=none):(lJ h H).get? b=some o :=
 W.hideAll_get _ e fun hm=>by
  have q:(H b).isSome=true:=(List.mem_filter.mp hm).2
  rw[n] at q;simp at q
theorem Ht{h:Heap}{H:Hp}{b:Addr}{o:Obj}(e:(lJ h H).get? b=some o):h.get? b=some o/\H b=none:=by
 have e':h.get? b=some o:=W.of_hideAll (tW h H) e
 refine⟨e',?_⟩
 cases q:H b with
 |none=>rfl
 |some x =>
   have hm:b∈tW h H:=List.mem_filter.mpr ⟨List.mem_range.mpr (Heap.lt_size e'),by simp[q]⟩
   have z:(lJ h H).get? b=none:=W.hideAll_none (tW h H) hm
   rw[z] at e;cases e
structure Mod(K:W.Frag)(mg:Str->Option Value)(base:Heap):Prop where
 m8:K.In base
 glob:base.Ns mainGlobals mg
 blt:∃ mb,base.Ns builtinsNs mb/\∀ x:Str,x ≠ "__name__" -> mb x=bootBuiltins x
 nolimit:base.NoLimit
structure Cx where
 prog:Program
 w:World
 K:W.Frag
 mg:Str->Option Value
 base:Heap
 A:Around
 N:List Str
 s₀:Shared
 H₀:Hp
 env:Env
 outer:List Env
 stack:List Env
 ex:List Addr
 fn:Str->Bool
 calm:Bool
 pn:List (Addr×Obj)
 xe:Value->Shared->Prop
noncomputable def frs(l:List Env):List Addr:=l.filterMap (·.frame)
noncomputable abbrev Cx.fs(X:Cx):List Addr:=frs X.outer
noncomputable def tX(sc:Scope)(x:Str):Prop:=sc.names.lookup x=some .local\/sc.names.lookup x=some .cell\/sc.names.lookup x=some .free
noncomputable def Loc(sc:Scope)(x:Str):Prop:=sc.names.lookup x=some .local\/sc.names.lookup x=some .cell
noncomputable def Look(env:Env)(h:Heap)(m:Str->Option Value)(x:Str)(u:Value):Prop :=
 (env.kindOf x=some .local/\m x=some u)\/((env.kindOf x=some .cell\/env.kindOf x=some .free)/\∃ c,env.cells.lookup x=some c/\h.IsCell c (some u))
structure Cx.Ok(X:Cx):Prop where
 mod:Mod X.K X.mg X.base
 kind:X.env.scope.kind = .function
 glob:X.env.globals=mainGlobals
 blt:X.env.builtins=builtinsNs
 above:X.s₀.heap.objs.size<=X.env.locals
 inj:∀ x y c,X.env.cells.lookup x=some c->X.env.cells.lookup y=some c->x=y
 has:∀ x,(X.env.kindOf x=some .cell\/X.env.kindOf x=some .free)->∃ c,X.env.cells.lookup x=some c
 cab:∀ x c,X.fn x=true->X.env.cells.lookup x=some c->X.s₀.heap.objs.size<=c
 hd:X.calm=true->X.A.handled=none
 frames:X.A.frames=some X.stack
 m9:X.stack=X.outer\/(X.stack=X.env::X.outer/\X.env.frame=some X.env.locals)
 kU:∀ b∈X.ex,b≠X.env.locals/\∀ x c,X.env.cells.lookup x=some c->c≠b
 bs:∀ b o,X.base.get? b=some o->X.s₀.heap.get? b=some o/\X.H₀ b=none
 iS:X.base.objs.size<=X.s₀.heap.objs.size
 fL:∀ b o,X.base.get? b=some o->b ∉ X.ex
 eS:∀ b∈X.ex,b ∉ X.fs
 cx:X.s₀.heap.FunFrames X.base X.outer
 jP:∀ b∈X.fs,X.H₀ b=none
structure Inv(X:Cx)(pins:List (Addr×Obj))(σ:List (Option V))(H:Hp)(s:Shared):Prop where
 ok:X.Ok
 os:s.os=X.s₀.os
 bare:AllBare s.gens
 base:Un X.fs X.ex X.H₀ H X.s₀.heap s.heap
 loc:∃ m,s.heap.Ns X.env.locals m/\∀ (i:Nat) (x:Str) (v:V),X.N[i]? = some x->σ[i]? = some (some v)->tX X.env.scope x->∃ u,RelV v u/\Look X.env s.heap m x u
 cell:∀ x c,X.env.cells.lookup x=some c->∃ v,s.heap.IsCell c v
 free:H X.env.locals=none
 bj:∀ x c,X.env.cells.lookup x=some c->H c=none
 pin:∀ p∈X.pn++pins,s.heap.get? p.1=some p.2/\H p.1=none/\p.1≠X.env.locals/\p.1 ∉ X.fs/\∀ v,p.2.data ≠ .cell v
 hok:bZ X.prog X.w H s.heap
 len:σ.length=X.N.length
section
variable{X:Cx}{pins:List (Addr×Obj)}{σ:List (Option V)}{H H':Hp}{s:Shared}{h':Heap}
theorem Cx.Ok.wz(ok:X.Ok){b:Addr}{o:Obj}(e:X.base.get? b=some o):b ∉ X.fs:=fun hb=>by
 have:=(ok.cx.mem hb).1
 rw[e] at this;cases this
theorem Inv.bs(I:Inv X pins σ H s):∀ b o,X.base.get? b=some o->s.heap.get? b=some o/\H b=none:=fun b o e =>
 ⟨I.base.keep b o (I.ok.bs b o e).1 (I.ok.bs b o e).2 (I.ok.wz e) (I.ok.fL b o e),I.base.free b o (I.ok.bs b o e).1 (I.ok.bs b o e).2 (I.ok.fL b o e)⟩
theorem Inv.bk(I:Inv X pins σ H s):∀ b o,X.base.get? b=some o->s.heap.get? b=some o:=fun b o e=>(I.bs b o e).1
theorem Inv.mod(I:Inv X pins σ H s):Mod X.K X.mg X.base:=I.ok.mod
theorem Inv.bf(I:Inv X pins σ H s):X.K.In s.heap:=I.ok.mod.m8.keeps I.bk
theorem Inv.fr(I:Inv X pins σ H s):∃ m,Fr X.base X.env.locals s.heap m :=
 let ⟨m,hn,_⟩:=I.loc
 ⟨m,hn,I.bk,Nat.le_trans I.ok.iS I.ok.above⟩
theorem Inv.lt(I:Inv X pins σ H s):X.env.locals<s.heap.objs.size:=let ⟨_,hn,_⟩:=I.loc;hn.lt
theorem Inv.sz(I:Inv X pins σ H s):X.s₀.heap.objs.size<=s.heap.objs.size:=Nat.le_trans I.ok.above (Nat.le_of_lt I.lt)
theorem Inv.wA(I:Inv X pins σ H s){a:Addr}(h:s.heap.objs.size<=a):a ∉ X.fs:=fun hb=>by
 obtain⟨_,o,ho,_⟩:=I.ok.cx.mem hb
 exact absurd (Nat.lt_of_lt_of_le (Heap.lt_size ho) (Nat.le_trans I.sz h)) (Nat.lt_irrefl _)
theorem Inv.jQ(I:Inv X pins σ H s):∀ x c,X.env.cells.lookup x=some c->c≠X.env.locals:=fun x c e z=>by
 obtain⟨v,o,ho,hd⟩:=I.cell x c e
 obtain⟨m,⟨o',es,ep,ho',hd',_⟩,_⟩:=I.loc
 rw[z,ho'] at ho;cases ho;rw[hd'] at hd;cases hd
theorem Inv.cx(I:Inv X pins σ H s):s.heap.FunFrames X.base X.outer:=by
 have all:∀ (l:List Env),(∀ b∈frs l,b∈X.fs)->X.s₀.heap.FunFrames X.base l->s.heap.FunFrames X.base l:=by
  intro l
  induction l with
  |nil=>intro _ _;trivial
  |cons env r ih =>
    intro hs hl
    obtain⟨hk,⟨L,o,hf,hn,ho,hd⟩,hr⟩:=hl
    have hL:L∈X.fs:=hs L (by unfold frs;rw[List.filterMap_cons,hf];exact List.mem_cons_self)
    obtain⟨sl,e⟩:=I.base.slot L o ho (I.ok.jP L hL) hL fun z=>I.ok.eS L z hL
    exact⟨hk,⟨L,_,hf,hn,e,hd⟩,ih (fun b hb=>hs b (by unfold frs;rw[List.filterMap_cons,hf];exact List.mem_cons_of_mem _ hb)) hr⟩
 exact all X.outer (fun _ hb=>hb) I.ok.cx
theorem Inv.stack(I:Inv X pins σ H s):s.heap.FunFrames X.base X.stack:=by
 rcases I.ok.m9 with e | ⟨e,hf⟩
 · rw[e];exact I.cx
 · rw[e]
   obtain⟨m,hn,_⟩:=I.loc
   refine .cons (by rw[I.ok.kind];decide) hf hn ?_ I.cx
   exact Heap.get?_none_of_le (Nat.le_trans I.ok.iS I.ok.above)
theorem Inv.fM(I:Inv X pins σ H s):∀ b∈frs X.stack,b∈X.env.locals::X.fs:=fun b hb=>by
 rcases I.ok.m9 with e | ⟨e,hf⟩
 · rw[e] at hb;exact List.mem_cons_of_mem _ hb
 · rw[e] at hb
   unfold frs at hb
   rw[List.filterMap_cons,hf] at hb
   exact hb
theorem Inv.dP(I:Inv X pins σ H s):∀ b∈frs X.stack,H b=none:=fun b hb=>by
 rcases List.mem_cons.mp (I.fM b hb) with e | hb
 · rw[e];exact I.free
 · obtain⟨_,o,ho,_⟩:=I.ok.cx.mem hb
   exact I.base.free b o ho (I.ok.jP b hb) fun z=>I.ok.eS b z hb
theorem Inv.step{g':Array GenState}{t':Nat}{d':Drawn}{ch:List Addr}(I:Inv X pins σ H s)
 (hch:∀ b∈ch,(b∈X.ex\/X.s₀.heap.objs.size<=b)/\b≠X.env.locals/\(∀ x c,X.env.cells.lookup x=some c->c≠b)/\∀ p∈X.pn++pins,p.1≠b)
 (keep:∀ b o,b≠X.env.locals->b ∉ X.fs->b ∉ ch->s.heap.get? b=some o->H b=none->h'.get? b=some o)
 (slot:∀ b o,b≠X.env.locals->b∈X.fs->b ∉ ch->s.heap.get? b=some o->H b=none->∃ sl,h'.get? b=some { o with slots:=sl }) (free:∀ b o,b ∉ ch->s.heap.get? b=some o->H b=none->H' b=none)
 (there:∀ b o,b ∉ ch->s.heap.get? b=some o->∃ o',h'.get? b=some o')
 (tups:∀ b xs,H b=some (.tup xs)->H' b=some (.tup xs)) (dF:∀ b o u,H b=some (.ak o u)->H' b=some (.ak o u)) (dZ:∀ b ps,H b=some (.nN ps)->∃ more,H' b=some (.nN (ps++more)))
 (ns:∀ m,s.heap.Ns X.env.locals m->h'.Ns X.env.locals m) (hok:bZ X.prog X.w H' h') (hg:AllBare g') :
 Inv X pins σ H' { s with heap:=h',gens:=g',drawn:=d',toks:=t' }:=by
 have Bp:∀ b o,X.s₀.heap.get? b=some o->b≠X.env.locals:=fun b o e=>Nat.ne_of_lt (Nat.lt_of_lt_of_le (Heap.lt_size e) I.ok.above)
 have tY:∀ b o,X.s₀.heap.get? b=some o->b ∉ X.ex->b ∉ ch:=fun b o e hx hb=>by
  rcases(hch b hb).1 with z | z
  · exact hx z
  · exact absurd (Nat.lt_of_lt_of_le (Heap.lt_size e) z) (Nat.lt_irrefl _)
 have cellK:∀ x c,X.env.cells.lookup x=some c->∀ v,s.heap.IsCell c v->h'.IsCell c v:=fun x c e v ⟨o,ho,hd⟩=>by
  have qD:c ∉ ch:=fun z=>(hch c z).2.2.1 x c e rfl
  by_cases hc:c∈X.fs
  · obtain⟨sl,q⟩:=slot c o (I.jQ x c e) hc qD ho (I.bj x c e)
    exact⟨_,q,hd⟩
  · exact⟨o,keep c o (I.jQ x c e) hc qD ho (I.bj x c e),hd⟩
 refine⟨I.ok,I.os,hg,⟨fun b o e n hb hx=>?_,fun b o e n hb hx=>?_,fun b o e n hx=>?_,fun b o e hx=>?_,fun b xs e=>tups b xs (I.base.tups b xs e),fun b o xs e=>dF b o xs (I.base.dF b o xs e),fun b ps e=>?_⟩,?_,fun x c e=>?_,?_,fun x c e=>?_,fun p hp=>?_,hok,I.len⟩
 · exact keep b o (Bp b o e) hb (tY b o e hx) (I.base.keep b o e n hb hx) (I.base.free b o e n hx)
 · obtain⟨sl,e1⟩:=I.base.slot b o e n hb hx
   obtain⟨sl',e2⟩:=slot b _ (Bp b o e) hb (tY b o e hx) e1 (I.base.free b o e n hx)
   exact⟨sl',e2⟩
 · obtain⟨o',e1⟩:=I.base.there b o e hx
   exact free b o' (tY b o e hx) e1 (I.base.free b o e n hx)
 · obtain⟨o',e1⟩:=I.base.there b o e hx
   exact there b o' (tY b o e hx) e1
 · obtain⟨m1,e1⟩:=I.base.dZ b ps e
   obtain⟨m2,e2⟩:=dZ b _ e1
   exact⟨m1++m2,by rw[e2,Array.append_assoc]⟩
 · obtain⟨m,hn,hl⟩:=I.loc
   refine⟨m,ns m hn,fun i x v e1 e2 e3=>?_⟩
   obtain⟨u,r,l⟩:=hl i x v e1 e2 e3
   refine⟨u,r,?_⟩
   rcases l with l | ⟨k,c,e,z⟩
   · exact .inl l
   · exact .inr ⟨k,c,e,cellK x c e _ z⟩
 · obtain⟨v,z⟩:=I.cell x c e
   exact⟨v,cellK x c e v z⟩
 · obtain⟨m,⟨o,_,_,ho,_⟩,_⟩:=I.loc
   exact free _ o (fun z=>(hch _ z).2.1 rfl) ho I.free
 · obtain⟨v,o,ho,hd⟩:=I.cell x c e
   exact free c o (fun z=>(hch c z).2.2.1 x c e rfl) ho (I.bj x c e)
 · obtain⟨e,n,ne,nf,d⟩:=I.pin p hp
   have qD:p.1 ∉ ch:=fun z=>(hch p.1 z).2.2.2 p hp rfl
   exact⟨keep p.1 p.2 ne nf qD e n,free p.1 p.2 qD e n,ne,nf,d⟩
theorem Inv.un{t':Nat}(I:Inv X pins σ H s)(u:Un X.fs [] H H' s.heap h')(hok:bZ X.prog X.w H' h'):Inv X pins σ H' { s with heap:=h',toks:=t' }:=by
 obtain⟨m,⟨o,es,ep,ho,r⟩,_⟩:=id I.loc
 obtain⟨sl,hL⟩:=u.any ho I.free (by simp)
 exact I.step (g':=s.gens) (d':=s.drawn) (ch:=[]) (fun _ z=>nomatch z) (fun b o _ hb _ e n=>u.keep b o e n hb (by simp)) (fun b o _ hb _ e n=>u.slot b o e n hb (by simp)) (fun b o _ e n=>u.free b o e n (by simp)) (fun b o _ e=>u.there b o e (by simp)) u.tups u.dF u.dZ (fun m' hm=>by
  obtain⟨o',es',ep',ho',r'⟩:=hm
  rw[ho] at ho';cases ho'
  exact⟨_,es',ep',hL,r'⟩) hok I.bare
theorem Inv.call{g':Array GenState}{t':Nat}{d':Drawn}{ch:List Addr}(I:Inv X pins σ H s)(u:Un (frs X.stack) ch H H' s.heap h')(hok:bZ X.prog X.w H' h')(hg:AllBare g')
 (hch:∀ b∈ch,(b∈X.ex\/X.s₀.heap.objs.size<=b)/\b≠X.env.locals/\(∀ x c,X.env.cells.lookup x=some c->c≠b)/\∀ p∈X.pn++pins,p.1≠b) :
 Inv X pins σ H' { s with heap:=h',gens:=g',drawn:=d',toks:=t' }:=by
 obtain⟨m,⟨o,es,ep,ho,r⟩,_⟩:=id I.loc
 obtain⟨sl,hL⟩:=u.any ho I.free fun z=>(hch _ z).2.1 rfl
 exact I.step (ch:=ch) hch (fun b o hL hb hc e n=>u.keep b o e n (fun z=>(List.mem_cons.mp (I.fM b z)).elim hL hb) hc) (fun b o _ _ hc e n=>u.any e n hc) (fun b o hc e n=>u.free b o e n hc) (fun b o hc e=>u.there b o e hc) u.tups u.dF u.dZ (fun m' hm=>by
  obtain⟨o',es',ep',ho',r'⟩:=hm
  rw[ho] at ho';cases ho'
  exact⟨_,es',ep',hL,r'⟩) hok hg
theorem Inv.turned{t':Nat}{it:Addr}(I:Inv X pins σ H s)(k:∀ b o,b≠it->s.heap.get? b=some o->h'.get? b=some o)(hn:H it=none)(hL:it≠X.env.locals)
 (h1:it∈X.ex\/X.s₀.heap.objs.size<=it) (h2:∀ x c,X.env.cells.lookup x=some c->c≠it) (h3:∀ p∈X.pn++pins,p.1≠it):Inv X pins σ H { s with heap:=h',toks:=t' }:=by
 have Bq:∀ b u,H b=some u->b≠it:=fun b u e z=>by rw[z,hn] at e;cases e
 refine I.step (g':=s.gens) (d':=s.drawn) (ch:=[it]) (fun b hb=>?_) (fun b o _ _ hc e _=>k b o (fun z=>hc (by simp[z])) e) (fun b o _ _ hc e _=>⟨o.slots,k b o (fun z=>hc (by simp[z])) e⟩) (fun _ _ _ _ n=>n)
  (fun b o hc e=>⟨o,k b o (fun z=>hc (by simp[z])) e⟩) (fun _ _ e=>e) (fun _ _ _ e=>e) (fun b ps e=>⟨#[],by rw[e];simp⟩) (fun m hm=>?_) (fun b u e=>?_) I.bare
 · have e:b=it:=by simpa using hb
   subst e
   exact⟨h1,hL,h2,h3⟩
 · obtain⟨o,es,ep,ho,r⟩:=hm
   exact⟨o,es,ep,k _ o (Ne.symm hL) ho,r⟩
 · refine(I.hok b u e).stay (fun c v hc q=>k c v ?_ q) (fun _ q=>q) fun _ _ q=>q
   rcases hc with z | z
   · rw[z];exact Bq b u e
   · exact Bq c _ z
theorem Inv.tok(I:Inv X pins σ H s)(t:Nat):Inv X pins σ H { s with toks:=t }:=I.un (h':=s.heap) (t':=t) Un.refl I.hok
theorem Inv.kept{t':Nat}(I:Inv X pins σ H s)(k:∀ b u,s.heap.get? b=some u->h'.get? b=some u):Inv X pins σ H { s with heap:=h',toks:=t' }:=I.un (Un.kept k) (I.hok.kept k)
theorem Inv.laid{a:Addr}{o:HO}{t':Nat}(I:Inv X pins σ H s)(k:∀ b u,s.heap.get? b=some u->h'.get? b=some u)(hp:s.heap.objs.size<=a)(new:aD X.prog X.w (upd H a o) h' a o) :
 Inv X pins σ (upd H a o) { s with heap:=h',toks:=t' }:=I.un (Un.laid k hp (I.hok.fresh hp)) (I.hok.laid k hp new)
theorem Inv.write{x e:Addr}{o:HO}{t':Nat}(I:Inv X pins σ H s)(mu:tV (H x))(he:e=x\/H e=some (.own x))(k:∀ b u,b≠e->s.heap.get? b=some u->h'.get? b=some u)(heo:∃ u,h'.get? e=some u)
 (new:aD X.prog X.w (upd H x o) h' x o):Inv X pins σ (upd H x o) { s with heap:=h',toks:=t' }:=I.un (Un.write mu he k heo) (I.hok.write mu he k heo new)
theorem Inv.weak{ay:List (Option V)}(I:Inv X pins σ H s)(hl:ay.length=σ.length)(w:∀ (i:Nat) v,ay[i]? = some (some v)->σ[i]? = some (some v)):Inv X pins ay H s :=
 ⟨I.ok,I.os,I.bare,I.base,let ⟨m,hn,hl'⟩:=I.loc; ⟨m,hn,fun i x v e1 e2 e3=>hl' i x v e1 (w i v e2) e3⟩,I.cell,I.free,I.bj,I.pin,I.hok,hl.trans I.len⟩
theorem Inv.dQ{d7:List (Addr×Obj)}(I:Inv X pins σ H s)(h:∀ p∈d7,s.heap.get? p.1=some p.2/\H p.1=none/\p.1≠X.env.locals/\p.1 ∉ X.fs/\∀ v,p.2.data ≠ .cell v):Inv X d7 σ H s :=
 ⟨I.ok,I.os,I.bare,I.base,I.loc,I.cell,I.free,I.bj,fun p hp=>(List.mem_append.mp hp).elim (fun z=>I.pin p (List.mem_append_left _ z)) (h p),I.hok,I.len⟩
theorem wB{N:List Str}(hN:N.Nodup){i j:Nat}{x:Str}(a:N[i]? = some x)(b:N[j]? = some x):i=j:=by
 obtain⟨h1,e1⟩:=List.getElem?_eq_some_iff.mp a
 obtain⟨h2,e2⟩:=List.getElem?_eq_some_iff.mp b
 exact(List.getElem_inj hN).mp (e1.trans e2.symm)
theorem Hu{M:Model}{A:Around}{E:Value->Shared->Prop}{i:Nat}{x:Str}{v:V}{u:Value}{Q:Unit->Shared->Prop}(I:Inv X pins σ H s)(hN:X.N.Nodup)(hi:X.N[i]? = some x)(hx:Loc X.env.scope x)(r:RelV v u)
 (h:∀ s',Inv X pins (σ.set i (some v)) H s'->(∃ a,Heap.SameBut a s.heap s'.heap/\(a=X.env.locals\/X.env.cells.lookup x=some a))->Q () s') (hf:X.fn x=true\/X.env.scope.names.lookup x=some .local:=by first | exact .inl rfl | exact .inr rfl | assumption):wpAny M A (storeName X.env x u) Q E s:=by
 obtain⟨m,hn,hl⟩:=id I.loc
 have hcls:(X.env.scope.kind == .class || (X.env.scope.kind == .module && X.env.locals != X.env.globals))=false:=by rw[I.ok.kind];rfl
 have lK:i<σ.length:=by rw[I.len];exact(List.getElem?_eq_some_iff.mp hi).1
 have jQ:=I.jQ
 have tracked:∀ {a:Addr} {h':Heap},(∃ o,s.heap.get? a=some o/\H a=none)->Heap.SameBut a s.heap h'->bZ X.prog X.w H h':=fun {a h'} ha hs b ob e=>by
  obtain⟨_,_,hfree⟩:=ha
  refine(I.hok b ob e).stay (fun c w' hc q=>(hs.2 c ?_).trans q) (fun _ q=>q) fun _ _ q=>q
  rintro rfl
  rcases hc with rfl | hc
  · rw[hfree] at e;cases e
  · rw[hfree] at hc;cases hc
 rcases hx with hk | hk
 · refine wpAny_storeName_local hk hn (fun h' hn' hs=>?_) hcls
   obtain⟨oL,_,_,hoL,_⟩:=id hn
   refine h _ ⟨I.ok,I.os,I.bare,⟨fun b o e n hb hx=>?_,fun b o e n hb hx=>?_,I.base.free,fun b o e hx=>?_,I.base.tups,I.base.dF,I.base.dZ⟩,⟨_,hn',fun j y v' e1 e2 e3=>?_⟩,fun y c e=>?_,I.free,I.bj,fun p hp=>?_,tracked ⟨oL,hoL,I.free⟩ hs,by simpa using I.len⟩ ⟨_,hs,.inl rfl⟩
   · exact(hs.2 b (Nat.ne_of_lt (Nat.lt_of_lt_of_le (Heap.lt_size e) I.ok.above))).trans (I.base.keep b o e n hb hx)
   · obtain⟨sl,e1⟩:=I.base.slot b o e n hb hx
     exact⟨sl,(hs.2 b (Nat.ne_of_lt (Nat.lt_of_lt_of_le (Heap.lt_size e) I.ok.above))).trans e1⟩
   · obtain⟨o',e1⟩:=I.base.there b o e hx
     exact⟨o',(hs.2 b (Nat.ne_of_lt (Nat.lt_of_lt_of_le (Heap.lt_size e) I.ok.above))).trans e1⟩
   · by_cases hj:j=i
     · subst hj
       rw[hi] at e1;cases e1
       rw[List.getElem?_set_self lK] at e2
       cases e2
       exact⟨u,r,.inl ⟨hk,by simp⟩⟩
     · rw[List.getElem?_set_ne (Ne.symm hj)] at e2
       obtain⟨u',r',q⟩:=hl j y v' e1 e2 e3
       refine⟨u',r',?_⟩
       rcases q with ⟨k,e⟩ | ⟨k,c,e,z⟩
       · refine .inl ⟨k,?_⟩
         have:y≠x:=fun e=>hj (wB hN e1 (e ▸ hi))
         simp[this,e]
       · exact .inr ⟨k,c,e,z.sameBut hs (jQ y c e)⟩
   · obtain⟨w',z⟩:=I.cell y c e
     exact⟨w',z.sameBut hs (jQ y c e)⟩
   · obtain⟨e,n,ne,nf,d⟩:=I.pin p hp
     exact⟨(hs.2 p.1 ne).trans e,n,ne,nf,d⟩
 · have hfn:X.fn x=true:=by
    rcases hf with z | z
    · exact z
    · rw[z] at hk;cases hk
   obtain⟨c,hc⟩:=I.ok.has x (.inl hk)
   obtain⟨w',z⟩:=I.cell x c hc
   refine wpAny_storeName_cell I.ok.kind hk hc z (fun h' hc' hs=>?_)
   obtain⟨oc,hoc,wC⟩:=id z
   refine h { s with heap:=h' } ⟨I.ok,I.os,I.bare,⟨fun b o e n hb hx=>?_,fun b o e n hb hx=>?_,I.base.free,fun b o e hx=>?_,I.base.tups,I.base.dF,I.base.dZ⟩,⟨m,hn.sameBut hs (Ne.symm (jQ x c hc)),fun j y v' e1 e2 e3=>?_⟩,fun y c' e=>?_,I.free,I.bj,fun p hp=>?_,tracked ⟨oc,hoc,I.bj x c hc⟩ hs,by simpa using I.len⟩ ⟨c,hs,.inr hc⟩
   · exact(hs.2 b (Nat.ne_of_lt (Nat.lt_of_lt_of_le (Heap.lt_size e) (I.ok.cab x c hfn hc)))).trans (I.base.keep b o e n hb hx)
   · obtain⟨sl,e1⟩:=I.base.slot b o e n hb hx
     exact⟨sl,(hs.2 b (Nat.ne_of_lt (Nat.lt_of_lt_of_le (Heap.lt_size e) (I.ok.cab x c hfn hc)))).trans e1⟩
   · obtain⟨o',e1⟩:=I.base.there b o e hx
     exact⟨o',(hs.2 b (Nat.ne_of_lt (Nat.lt_of_lt_of_le (Heap.lt_size e) (I.ok.cab x c hfn hc)))).trans e1⟩
   · by_cases hj:j=i
     · subst hj
       rw[hi] at e1;cases e1
       rw[List.getElem?_set_self lK] at e2
       cases e2
       exact⟨u,r,.inr ⟨.inl hk,c,hc,hc'⟩⟩
     · rw[List.getElem?_set_ne (Ne.symm hj)] at e2
       obtain⟨u',r',q⟩:=hl j y v' e1 e2 e3
       refine⟨u',r',?_⟩
       rcases q with q | ⟨k,c',e,z'⟩
       · exact .inl q
       · refine .inr ⟨k,c',e,z'.sameBut hs ?_⟩
         rintro rfl
         exact hj (wB hN e1 (I.ok.inj _ _ _ e hc ▸ hi))
   · by_cases hcc:c'=c
     · subst hcc;exact⟨_,hc'⟩
     · obtain⟨w2,z2⟩:=I.cell y c' e
       exact⟨w2,z2.sameBut hs hcc⟩
   · obtain⟨e,n,ne,nf,d⟩:=I.pin p hp
     refine⟨(hs.2 p.1 ?_).trans e,n,ne,nf,d⟩
     intro q
     rw[q,hoc] at e
     have q':oc=p.2:=Option.some.inj e
     exact d w' (by rw[<- q'];exact wC)
theorem tZ{M:Model}{A:Around}{E:Value->Shared->Prop}{i:Nat}{x:Str}{v:V}{u:Value}{Q:Unit->Shared->Prop}(I:Inv X pins σ H s)(hN:X.N.Nodup)(hi:X.N[i]? = some x)(hx:Loc X.env.scope x)(r:RelV v u)
 (h:∀ s',Inv X pins (σ.set i (some v)) H s'->Q () s') (hf:X.fn x=true\/X.env.scope.names.lookup x=some .local:=by first | exact .inl rfl | exact .inr rfl | assumption):wpAny M A (storeName X.env x u) Q E s :=
 Hu I hN hi hx r (fun s' I' _=>h s' I') hf
theorem Inv.jR{s':Shared}{ch:List Addr}(I:Inv X pins σ H s)(ho:s'.os=s.os)(u:Un (frs X.stack) ch H H' s.heap s'.heap)(hok:bZ X.prog X.w H' s'.heap)(hg:AllBare s'.gens)
 (hch:∀ b∈ch,(b∈X.ex\/X.s₀.heap.objs.size<=b)/\b≠X.env.locals/\(∀ x c,X.env.cells.lookup x=some c->c≠b)/\∀ p∈X.pn++pins,p.1≠b):Inv X pins σ H' s':=by
 obtain⟨h',g',d',t',o'⟩:=s'
 have e:o'=s.os:=ho
 subst e
 exact I.call (g':=g') (t':=t') (d':=d') u hok hg hch
end
noncomputable abbrev XK:=Value->Option Addr->Hp->Prop
noncomputable abbrev St:=List (Option V)
noncomputable abbrev VK:=V->Hp->Prop
noncomputable abbrev TE:=St->Hp->VK->Prop
noncomputable abbrev TT:=St->Hp->(Bool->Hp->Prop)->Prop
noncomputable abbrev TA:=St->Hp->(List V->Hp->Prop)->Prop
structure Ends where
 nx:St->Hp->Prop
 rt:VK
 bk:St->Hp->Prop:=fun _ _=>False
 ct:St->Hp->Prop:=fun _ _=>False
noncomputable abbrev TS:=Ends->St->Hp->Prop
noncomputable def EP(X:Cx)(pins:List (Addr×Obj))(σ:St)(Q:VK)(u:Value)(s':Shared):Prop:=∃ v H',Inv X pins σ H' s'/\RelV v u/\Q v H'
noncomputable def TP(X:Cx)(pins:List (Addr×Obj))(σ:St)(Q:Bool->Hp->Prop)(b:Bool)(s':Shared):Prop:=∃ H',Inv X pins σ H' s'/\Q b H'
noncomputable def AP(X:Cx)(pins:List (Addr×Obj))(σ:St)(Q:List V->Hp->Prop)(us:List Value)(s':Shared):Prop:=∃ vs H',Inv X pins σ H' s'/\Vals vs us/\Q vs H'
noncomputable def SP(X:Cx)(pins:List (Addr×Obj))(D:Ends)(f:Flow)(s':Shared):Prop :=
 match f with
 | .next=>∃ ay H',Inv X pins ay H' s'/\D.nx ay H'
 | .brk=>∃ ay H',Inv X pins ay H' s'/\D.bk ay H'
 | .cont=>∃ ay H',Inv X pins ay H' s'/\D.ct ay H'
 | .ret u=>∃ v ay H',Inv X pins ay H' s'/\RelV v u/\D.rt v H'
noncomputable def PE(X:Cx)(e:Expr)(t:TE):Prop :=
 ∀ (pins:List (Addr×Obj)) (s:Shared) (σ:St) (H:Hp) (Q:VK),Inv X pins σ H s->t σ H Q->wpAny (model X.prog X.w) X.A (eval e X.env) (EP X pins σ Q) X.xe s
noncomputable def PT(X:Cx)(e:Expr)(t:TT):Prop :=
 ∀ (pins:List (Addr×Obj)) (s:Shared) (σ:St) (H:Hp) (Q:Bool->Hp->Prop),Inv X pins σ H s->t σ H Q->wpAny (model X.prog X.w) X.A (isTrue e X.env (eval e X.env)) (TP X pins σ Q) X.xe s
noncomputable def PW(X:Cx)(e:Expr)(t:TT):Prop :=
 ∀ (whole:Sem Value) (pins:List (Addr×Obj)) (s:Shared) (σ:St) (H:Hp) (Q:Bool->Hp->Prop),Inv X pins σ H s->t σ H Q->wpAny (model X.prog X.w) X.A (isTrue e X.env whole) (TP X pins σ Q) X.xe s
theorem PW.pt{X:Cx}{e:Expr}{t:TT}(h:PW X e t):PT X e t:=h _
noncomputable def PA(X:Cx)(es:List Expr)(t:TA):Prop :=
 ∀ (pos:Pos) (pins:List (Addr×Obj)) (s:Shared) (σ:St) (H:Hp) (Q:List V->Hp->Prop),Inv X pins σ H s->t σ H Q->wpAny (model X.prog X.w) X.A (spliced (backTo pos (starEach es X.env))) (AP X pins σ Q) X.xe s
noncomputable def PS(X:Cx)(st:Stmt)(t:TS):Prop :=
 ∀ (pins:List (Addr×Obj)) (s:Shared) (σ:St) (H:Hp) (D:Ends),Inv X pins σ H s->t D σ H->wpAny (model X.prog X.w) X.A (exec st X.env) (SP X pins D) X.xe s
noncomputable def PSs(X:Cx)(st:List Stmt)(t:TS):Prop :=
 ∀ (pins:List (Addr×Obj)) (s:Shared) (σ:St) (H:Hp) (D:Ends),Inv X pins σ H s->t D σ H->wpAny (model X.prog X.w) X.A (execs st X.env) (SP X pins D) X.xe s
theorem aL{α:Type}{t:Sem α}{Q Q':α->Shared->Prop}{M:Model}{A:Around}{E:Value->Shared->Prop}{s:Shared}(h:wpAny M A t Q E s)(hQ:∀ a s,Q a s->Q' a s):wpAny M A t Q' E s:=wpAny_mono h hQ fun _ _ x=>x
section
variable{X:Cx}
noncomputable def m_(i:Nat):TE:=fun σ H Q=>∃ v,σ[i]? = some (some v)/\Q v H
noncomputable def tC(v:V):TE:=fun _ H Q=>Q v H
theorem Hv{i:Nat}{x:Str}{pos:Pos}(hN:X.N[i]? = some x)(hv:tX X.env.scope x)(hd:(x == ("__debug__" : Str))=false:=by decide)(hcd:(x == ("__classdict__" : Str))=false:=by decide):PE X (.Name x pos) (m_ i):=by
 intro pins s σ H Q I h
 obtain⟨v,e,h⟩:=h
 obtain⟨m,hn,hl⟩:=I.loc
 obtain⟨u,r,l⟩:=hl i x v hN e hv
 have fin:EP X pins σ Q u s:=⟨v,H,I,r,h⟩
 rcases l with ⟨hk,hm⟩ | ⟨hk,c,hc,hcell⟩
 · exact wpAny_Name (wpAny_loadName_local I.ok.kind hk hn hm fin) hd
 · rcases hk with hk | hk
   · exact wpAny_Name (wpAny_loadName_cell I.ok.kind hk hc hcell fin) hd
   · exact wpAny_Name (wpAny_loadName_free I.ok.kind hk hc hcell fin hcd) hd
theorem Hw{i j pos}:PE X (.Constant (.int i) j pos) (tC (.int i)):=fun _ _ _ H _ I h=>wpAny_Constant_int ⟨.int i,H,I.tok _,⟨_,rfl⟩,h⟩
theorem Hx{b j pos}:PE X (.Constant (.bool b) j pos) (tC (.bl b)):=fun _ _ _ H _ I h=>Constant_bool ⟨.bl b,H,I,rfl,h⟩
theorem Hy{j pos}:PE X (.Constant .none j pos) (tC .ao):=fun _ _ _ H _ I h=>Constant_none ⟨.ao,H,I,rfl,h⟩
theorem Br{x j pos}:PE X (.Constant (.str x) j pos) (tC (.str x)):=fun _ _ _ H _ I h=>Calls.Constant_str ⟨.str x,H,I.tok _,⟨_,rfl⟩,h⟩
noncomputable def Gl(X:Cx)(x:Str):Prop:=X.env.kindOf x=some .globalImplicit
theorem nP{E:Value->Shared->Prop}{pins:List (Addr×Obj)}{s:Shared}{σ:St}{H:Hp}{x:Str}{u:Value}{pos:Pos}{Q:Value->Shared->Prop}(I:Inv X pins σ H s)(hg:Gl X x)(hm:X.mg x=some u)(h:Q u s)
 (hd:(x == ("__debug__" : Str))=false:=by decide):wpAny (model X.prog X.w) X.A (eval (.Name x pos) X.env) Q E s :=
 Calls.Name_function_global I.ok.kind hg (Calls.loadGlobal_global (by rw[I.ok.glob];exact I.mod.glob.keeps I.bk) hm h) hd
theorem o7{E:Value->Shared->Prop}{pins:List (Addr×Obj)}{s:Shared}{σ:St}{H:Hp}{x:Str}{u:Value}{pos:Pos}{Q:Value->Shared->Prop}(I:Inv X pins σ H s)(hg:Gl X x)(hm:X.mg x=none)(hv:bootBuiltins x=some u)(h:Q u s)
 (hn:x ≠ "__name__" := by decide) (hd:(x == ("__debug__" : Str))=false:=by decide):wpAny (model X.prog X.w) X.A (eval (.Name x pos) X.env) Q E s:=by
 obtain⟨mb,h1,h2⟩:=I.mod.blt
 exact Calls.Name_function_global I.ok.kind hg (Calls.loadGlobal_builtin (by rw[I.ok.glob];exact I.mod.glob.keeps I.bk) hm (by rw[I.ok.blt];exact h1.keeps I.bk) ((h2 x hn).trans hv) h) hd
theorem gh{x:Str}{v:V}{u:Value}{pos:Pos}(hg:Gl X x)(hm:X.mg x=some u)(r:RelV v u)(hd:(x == ("__debug__" : Str))=false:=by decide):PE X (.Name x pos) (tC v) :=
 fun _ _ _ H _ I h=>nP I hg hm ⟨v,H,I,r,h⟩ hd
theorem o8{x:Str}{v:V}{u:Value}{pos:Pos}(hg:Gl X x)(hm:X.mg x=none)(hv:bootBuiltins x=some u)(r:RelV v u)(hn:x ≠ "__name__" := by decide)(hd:(x == ("__debug__" : Str))=false:=by decide):PE X (.Name x pos) (tC v) :=
 fun _ _ _ H _ I h=>o7 I hg hm hv ⟨v,H,I,r,h⟩ hn hd
variable{a b:Expr}{ta tb:TE}{pos:Pos}
noncomputable def tB(t:TE):TT:=fun σ H Q=>t σ H fun x H1=>∃ c,x = .bl c/\Q c H1
theorem Hz{e:Expr}{t:TE}(h:PE X e t)(he:∀ whole,isTrue e X.env whole=(do let v <- whole;standAt e.pos;holding [v] (truthy v)):=by intro _;rfl):PT X e (tB t):=by
 intro pins s σ H Q I hw
 refine isTrue_plain (aL (h pins s σ H _ I hw) fun v s1 ⟨x,H1,I1,r1,q1⟩=>?_) (he _)
 obtain⟨d,rfl,q⟩:=q1
 cases r1
 exact wpAny_truthy_bool ⟨H1,I1,q⟩
variable{tA Bt:TT}{rest:List Expr}
noncomputable def Bu(t u:TT):TT:=fun σ H Q=>t σ H fun c H1=>if c=true then Q true H1 else u σ H1 Q
noncomputable def Bv(t:TT):TT:=fun σ H Q=>t σ H fun c H1=>Q (!c) H1
theorem HA(ha:PT X a tA):PW X (.BoolOp .Or [a] pos) tA:=by
 intro wh pins s σ H Q I h
 refine isTrue_or (aL (ha pins s σ H Q I h) fun c s1 e=>?_)
 cases c with
 |false=>exact isTrue_or_nil e
 |true=>exact e
theorem HB(ha:PT X a tA)(hb:PW X (.BoolOp .Or (b::rest) pos) Bt):PW X (.BoolOp .Or (a::b::rest) pos) (Bu tA Bt):=by
 intro wh pins s σ H Q I h
 refine isTrue_or (aL (ha pins s σ H _ I h) fun c s1 ⟨H1,I1,q1⟩=>?_)
 cases c with
 |true=>exact⟨H1,I1,q1⟩
 |false=>exact hb wh pins s1 σ H1 Q I1 q1
theorem HC(ha:PT X a tA):PT X (.UnaryOp .Not a pos) (Bv tA):=by
 intro pins s σ H Q I h
 exact isTrue_not (ha pins s σ H (fun c H1=>Q (!c) H1) I h)
noncomputable def HD(ta tb:TE):TE:=fun σ H Q=>ta σ H fun x H1=>∃ c,x = .bl c/\if c=true then tb σ H1 Q else Q (.bl false) H1
noncomputable def HE(ta:TE):TE:=fun σ H Q=>ta σ H fun x H1=>∃ c,x = .bl c/\Q (.bl (!c)) H1
theorem HF{op}{t:TE}(h:PE X a t):PE X (.BoolOp op [a] pos) t:=fun pins s σ H Q I hw=>BoolOp_one (h pins s σ H Q I hw)
theorem HG(ha:PE X a ta)(hb:PE X (.BoolOp .And (b::rest) pos) tb):PE X (.BoolOp .And (a::b::rest) pos) (HD ta tb):=by
 intro pins s σ H Q I h
 refine BoolOp_and (aL (ha pins s σ H _ I h) fun v s1 ⟨x,H1,I1,r1,q1⟩=>?_)
 obtain⟨c,rfl,q1⟩:=q1
 cases r1
 refine wpAny_truthy_bool ?_
 cases c with
 |true=>exact hb pins s1 σ H1 Q I1 q1
 |false=>exact⟨.bl false,H1,I1,rfl,q1⟩
theorem HH(ha:PE X a ta):PE X (.UnaryOp .Not a pos) (HE ta):=by
 intro pins s σ H Q I h
 refine UnaryOp_ (aL (ha pins s σ H _ I h) fun v s1 ⟨x,H1,I1,r1,q1⟩=>?_)
 obtain⟨c,rfl,q1⟩:=q1
 cases r1
 exact not_of (wpAny_truthy_bool ⟨.bl (!c),H1,I1,rfl,q1⟩)
end
noncomputable def bP(K:W.Frag)(H:Hp)(a:Addr)(xs:List V):Prop :=
 Rd H a (.lst xs) \/
  ∃ (o:Obj) (its:Array Value) (n:Nat),K.lookup a=some o/\o.cls = .type "list" /\ o.dict=none/\o.data = .seq its n/\its.size<=sizeLine/\Vals xs its.toList
noncomputable def cV(K:W.Frag)(H:Hp)(a:Addr)(xs:List V):Prop :=
 Rd H a (.tup xs) \/
  ∃ (o:Obj) (its:Array Value) (n:Nat),K.lookup a=some o/\o.cls = .type "tuple" /\ o.data = .seq its n/\its.size<=sizeLine/\Vals xs its.toList
noncomputable def HI:Value->Option V
 | .none=>some .ao
 | .bool b=>some (.bl b)
 | .int i _=>some (.int i)
 | .str x _=>some (.str x)
 | .bytes b _=>some (.jC b)
 | .float b _=>some (.flt b)
 | .ref a=>some (.ref a)
 | .type n=>some (.ty n)
 | _=>none
theorem RelV.abs{x:V}{u:Value}(r:RelV x u):HI u=some x:=by
 cases x with
 |ao=>cases r;rfl
 |bl _=>cases r;rfl
 |int _=>obtain⟨t,rfl⟩:=r;rfl
 |str _=>obtain⟨t,rfl⟩:=r;rfl
 |jC _=>obtain⟨t,rfl⟩:=r;rfl
 |flt _=>obtain⟨t,rfl⟩:=r;rfl
 |ref _=>cases r;rfl
 |ty _=>cases r;rfl
theorem RelV.inj{x y:V}{u:Value}(r:RelV x u)(q:RelV y u):x=y:=Option.some.inj (r.abs.symm.trans q.abs)
theorem Vals.inj:∀ {xs ys:List V} {us:List Value},Vals xs us->Vals ys us->xs=ys
 | _,_,_,.nil,.nil=>rfl
 | _,_,_,.cons r t,.cons r' t'=>by rw[r.inj r',Vals.inj t t']
section
variable{X:Cx}{pins:List (Addr×Obj)}{σ:St}{H:Hp}{s:Shared}{a:Addr}{xs ys:List V}
theorem bP.of{K:W.Frag}(h:H a=some (.lst xs)):bP K H a xs:=.inl (.inl h)
theorem cV.of{K:W.Frag}(h:H a=some (.tup xs)):cV K H a xs:=.inl (.inl h)
theorem Inv.list(I:Inv X pins σ H s)(h:bP X.K H a xs):∃ its:List Value,Vals xs its/\PlainL s.heap a its.toArray/\xs.length<=sizeLine:=by
 rcases h with h | ⟨o,its,n,hk,hc,hd,hs,hz,r⟩
 · obtain⟨z,its,n,r,e⟩:=h.ok I.hok
   exact⟨its,r,⟨_,n,e,rfl,rfl,rfl⟩,z⟩
 · refine⟨its.toList,r,⟨o,n,I.bf a o hk,hc,hd,by simpa using hs⟩,?_⟩
   have e:=r.length
   simp only[Array.length_toList] at e
   omega
theorem Inv.tuple(I:Inv X pins σ H s)(h:cV X.K H a xs):∃ its:List Value,Vals xs its/\IsTup s.heap a its.toArray/\xs.length<=sizeLine:=by
 rcases h with h | ⟨o,its,n,hk,hc,hs,hz,r⟩
 · obtain⟨z,its,r,p⟩:=h.ok I.hok
   exact⟨its,r,p,z⟩
 · refine⟨its.toList,r,⟨o,I.bf a o hk,hc,n,by simpa using hs⟩,?_⟩
   have e:=r.length
   simp only[Array.length_toList] at e
   omega
theorem Inv.jS(I:Inv X pins σ H s)(h:bP X.K H a xs)(h':bP X.K H a ys):xs=ys:=by
 obtain⟨its,r,⟨o,n,e,_,_,d⟩,_⟩:=I.list h
 obtain⟨its',r',⟨o',n',e',_,_,d'⟩,_⟩:=I.list h'
 rw[e] at e';cases e'
 rw[d] at d'
 injection d' with d1 _
 have:its=its':=by simpa using congrArg Array.toList d1
 subst this
 exact r.inj r'
theorem Inv.i_(I:Inv X pins σ H s)(h:cV X.K H a xs)(h':cV X.K H a ys):xs=ys:=by
 obtain⟨its,r,⟨o,e,_,n,d⟩,_⟩:=I.tuple h
 obtain⟨its',r',⟨o',e',_,n',d'⟩,_⟩:=I.tuple h'
 rw[e] at e';cases e'
 rw[d] at d'
 injection d' with d1 _
 have:its=its':=by simpa using congrArg Array.toList d1
 subst this
 exact r.inj r'
end
noncomputable abbrev Cx.eT(X:Cx)(E:Value->Shared->Prop):Cx:={ X with xe:=E }
noncomputable abbrev Cx.jT(X:Cx):Cx:=X.eT fun _ _=>False
theorem Cx.Ok.eT{X:Cx}(ok:X.Ok)(E:Value->Shared->Prop):(X.eT E).Ok :=
 ⟨ok.mod,ok.kind,ok.glob,ok.blt,ok.above,ok.inj,ok.has,ok.cab,ok.hd,ok.frames,ok.m9,ok.kU,ok.bs,ok.iS,ok.fL,ok.eS,ok.cx,ok.jP⟩
theorem Cx.Ok.b_{X:Cx}{E:Value->Shared->Prop}(ok:(X.eT E).Ok):X.Ok :=
 ⟨ok.mod,ok.kind,ok.glob,ok.blt,ok.above,ok.inj,ok.has,ok.cab,ok.hd,ok.frames,ok.m9,ok.kU,ok.bs,ok.iS,ok.fL,ok.eS,ok.cx,ok.jP⟩
section
variable{X:Cx}{pins:List (Addr×Obj)}{σ:St}{H:Hp}{s:Shared}{E:Value->Shared->Prop}
theorem Inv.eT(I:Inv X pins σ H s)(E:Value->Shared->Prop):Inv (X.eT E) pins σ H s:=⟨I.ok.eT E,I.os,I.bare,I.base,I.loc,I.cell,I.free,I.bj,I.pin,I.hok,I.len⟩
theorem Inv.b_(I:Inv (X.eT E) pins σ H s):Inv X pins σ H s:=⟨I.ok.b_,I.os,I.bare,I.base,I.loc,I.cell,I.free,I.bj,I.pin,I.hok,I.len⟩
theorem SP.b_{D:Ends}{f:Flow}{s':Shared}(h:SP (X.eT E) pins D f s'):SP X pins D f s':=by
 cases f with
 |next=>obtain⟨ay,H',I,q⟩:=h;exact⟨ay,H',I.b_,q⟩
 |brk=>obtain⟨ay,H',I,q⟩:=h;exact⟨ay,H',I.b_,q⟩
 |cont=>obtain⟨ay,H',I,q⟩:=h;exact⟨ay,H',I.b_,q⟩
 |ret u=>obtain⟨v,ay,H',I,r,q⟩:=h;exact⟨v,ay,H',I.b_,r,q⟩
theorem PSs.jT{st:List Stmt}{t:TS}(h:PSs X.jT st t):PSs X st t:=fun pins s σ H D I hw =>
 wpAny_mono (h pins s σ H D (I.eT _) hw) (fun _ _ q=>q.b_) fun _ _ z=>False.elim z
end
section
variable{X:Cx}{st:Stmt}{rest:List Stmt}{t u:TS}{e:Expr}{te:TE}{pos:Pos}
noncomputable def HJ:TS:=fun D σ H=>D.nx σ H
noncomputable def HK(t u:TS):TS:=fun D σ H=>t { D with nx:=u D } σ H
theorem Bw:PSs X [] HJ:=fun _ _ σ H _ I h=>wpAny_execs_nil ⟨σ,H,I,h⟩
theorem t5(h1:PS X st t)(h2:PSs X rest u):PSs X (st::rest) (HK t u):=by
 intro pins s σ H D I h
 refine wpAny_execs_cons (aL (h1 pins s σ H { D with nx:=u D } I h) fun f s1 q=>?_)
 cases f with
 |next =>
   obtain⟨ay,H',I',q⟩:=q
   exact h2 pins s1 ay H' D I' q
 |ret v=>exact q
 |brk=>exact q
 |cont=>exact q
theorem t6(h1:PS X st t):PSs X [st] t:=by
 intro pins s σ H D I h
 refine wpAny_execs_cons (aL (h1 pins s σ H D I h) fun f s1 q=>?_)
 cases f with
 |next=>exact wpAny_execs_nil q
 |ret v=>exact q
 |brk=>exact q
 |cont=>exact q
theorem Inv.quiet{pins:List (Addr×Obj)}{σ:St}{H:Hp}{s:Shared}(I:Inv X pins σ H s):interactive X.env=false:=by simp[interactive,I.ok.kind]
noncomputable def HL(te:TE):TS:=fun D σ H=>te σ H fun _ H1=>D.nx σ H1
theorem wD(he:PE X e te)(hs:swapsWith e none pos.line X.env=pure false:=by rfl):PS X (.Expr e pos) (HL te):=by
 intro pins s σ H D I h
 exact wpAny_Expr_any (aL (he pins s σ H _ I h) fun v s1 ⟨x,H1,I1,r1,q1⟩=>⟨σ,H1,I1,q1⟩) I.quiet hs
noncomputable def HM(te:TE):TS:=fun D σ H=>te σ H D.rt
theorem HN(he:PE X e te):PS X (.Return (some e) pos) (HM te):=by
 intro pins s σ H D I h
 exact wpAny_Return_some (aL (he pins s σ H _ I h) fun v s1 ⟨x,H1,I1,r1,q1⟩=>⟨x,σ,H1,I1,r1,q1⟩)
noncomputable def HP(c:TT)(t u:TS):TS:=fun D σ H=>c σ H fun b H1=>if b=true then t D σ H1 else u D σ H1
theorem Bx{c:Expr}{a b:List Stmt}{tc:TT}(hc:PT X c tc)(ha:PSs X a t)(hb:PSs X b u):PS X (.If c a b pos) (HP tc t u):=by
 intro pins s σ H D I h
 refine wpAny_If (aL (hc pins s σ H _ I h) fun d s1 ⟨H1,I1,q1⟩=>?_)
 cases d with
 |true=>exact ha pins s1 σ H1 D I1 q1
 |false=>exact hb pins s1 σ H1 D I1 q1
end
noncomputable abbrev TG:=V->St->Hp->(St->Hp->Prop)->Prop
noncomputable abbrev ja:=List V->St->Hp->(St->Hp->Prop)->Prop
noncomputable def PG(X:Cx)(target:Expr)(t:TG):Prop :=
 ∀ (pins:List (Addr×Obj)) (s:Shared) (σ:St) (H:Hp) (v:V) (u:Value) (Q:St->Hp->Prop),Inv X pins σ H s->RelV v u->t v σ H Q ->
  wpAny (model X.prog X.w) X.A (assign target X.env u) (fun _ s'=>∃ ay H',Inv X pins ay H' s'/\Q ay H') X.xe s
noncomputable def PGs(X:Cx)(ts:List Expr)(t:ja):Prop :=
 ∀ (pins:List (Addr×Obj)) (s:Shared) (σ:St) (H:Hp) (vs:List V) (us:List Value) (Q:St->Hp->Prop),Inv X pins σ H s->Vals vs us->t vs σ H Q ->
  wpAny (model X.prog X.w) X.A (assignInOrder ((assignEach ts X.env).map (·.2)) us) (fun _ s'=>∃ ay H',Inv X pins ay H' s'/\Q ay H') X.xe s
noncomputable abbrev wF:=V->V->V->Hp->(Hp->Prop)->Prop
noncomputable def By(X:Cx)(t:wF):Prop :=
 ∀ (pins:List (Addr×Obj)) (s:Shared) (σ:St) (H:Hp) (o i v:V) (ov iv u:Value) (Q:Hp->Prop),Inv X pins σ H s->RelV o ov->RelV i iv->RelV v u->t o i v H Q ->
  wpAny (model X.prog X.w) X.A (setItem ov iv u) (fun _ s'=>∃ H',Inv X pins σ H' s'/\Q H') X.xe s
section
variable{X:Cx}{pos:Pos}
noncomputable def nc(i:Nat):TG:=fun v σ H Q=>Q (σ.set i (some v)) H
theorem ig{i:Nat}{x:Str}(hN:X.N.Nodup)(hi:X.N[i]? = some x)(hx:Loc X.env.scope x)(hf:X.fn x=true\/X.env.scope.names.lookup x=some .local:=by first | exact .inl rfl | exact .inr rfl | assumption):PG X (.Name x pos) (nc i):=by
 intro pins s σ H v u Q I r h
 exact wpAny_assign_Name (tZ I hN hi hx r (fun s' I'=>⟨_,H,I',h⟩) hf)
noncomputable def wG:ja:=fun vs σ H Q=>vs=[]/\Q σ H
noncomputable def wH(t:TG)(u:ja):ja:=fun vs σ H Q=>∃ v r,vs=v::r/\t v σ H fun ay H'=>u r ay H' Q
theorem qE:PGs X [] wG:=by
 intro pins s σ H vs us Q I r h
 obtain⟨e,h⟩:=h
 subst e
 cases r
 exact assignInOrder_nil ⟨σ,H,I,h⟩
theorem kW{e:Expr}{es:List Expr}{t:TG}{u:ja}(h1:PG X e t)(h2:PGs X es u)
 (hs:(assignEach (e::es) X.env).map (·.2)=assign e X.env::(assignEach es X.env).map (·.2):=by rfl):PGs X (e::es) (wH t u):=by
 intro pins s σ H vs us Q I r h
 obtain⟨v,vr,e1,h⟩:=h
 subst e1
 cases r with
 |cons r rr =>
   rw[hs]
   refine assignInOrder_cons (aL (h1 pins s σ H _ _ _ I r h) fun _ s1 ⟨dr,H1,I1,q1⟩=>?_)
   exact h2 pins s1 dr H1 _ _ Q I1 rr q1
noncomputable def wI(K:W.Frag)(n:Nat)(t:ja):TG:=fun v σ H Q=>∃ a xs,v = .ref a/\cV K H a xs/\xs.length=n/\t xs σ H Q
theorem qF{es:List Expr}{k:Nat}{t:ja}{n:Nat}(hc:X.calm=true)(h:PGs X es t)
 (hn:(assignEach es X.env).length=n:=by rfl) (hst:(assignEach es X.env).findIdx? (·.1)=none:=by rfl):PG X (.Tuple es k pos) (wI X.K n t):=by
 intro pins s σ H v u Q I r hw
 obtain⟨a,xs,e1,hq,hl,hw⟩:=hw
 subst e1
 cases r
 obtain⟨its,rv,ht,hz⟩:=I.tuple hq
 refine assign_Tuple_tuple (I.ok.hd hc) ht (by simp[hn, <- hl,rv.length]) hst fun h' hx=>?_
 have I1:Inv X pins σ H { s with heap:=h' }:=I.kept (t':=s.toks) fun b o e=>hx b o (Nat.ne_of_lt (Heap.lt_size e)) e
 exact h pins _ σ H xs _ Q I1 (by simpa using rv) hw
noncomputable def Bz(to ti:TE)(t:wF):TG:=fun v σ H Q=>to σ H fun o H1=>ti σ H1 fun i H2=>t o i v H2 fun H3=>Q σ H3
theorem BA{o i:Expr}{to ti:TE}{t:wF}(ho:PE X o to)(hi:PE X i ti)(hs:By X t)
 (ha:∀ v,assign (.Subscript o i pos) X.env v=(do
  let ov <- holding [v] (eval o X.env)
  let iv <- holding [v,ov] (eval i X.env)
  standAt pos
  holding [v,ov,iv] (setItem ov iv v)
  release [v,ov,iv] []):=by intro _;rfl):PG X (.Subscript o i pos) (Bz to ti t):=by
 intro pins s σ H v u Q I r h
 rw[ha]
 refine wpAny_bind (wpAny_holding (aL (ho pins s σ H _ I h) fun ov s1 ⟨x,H1,I1,r1,q1⟩=>?_))
 refine wpAny_bind (wpAny_holding (aL (hi pins s1 σ H1 _ I1 q1) fun iv s2 ⟨y,H2,I2,r2,q2⟩=>?_))
 refine wpAny_bind (wpAny_standAt (wpAny_bind (wpAny_holding (aL (hs pins s2 σ H2 x y v ov iv u _ I2 r1 r2 r q2) fun _ s3 ⟨H3,I3,q3⟩=>?_))))
 exact wpAny_release ⟨σ,H3,I3,q3⟩
noncomputable def o9(te:TE)(g:TG):TS:=fun D σ H=>te σ H fun x H1=>g x σ H1 D.nx
theorem BB{tg e:Expr}{te:TE}{g:TG}(he:PE X e te)(hg:PG X tg g)(hs:swapsWithSole [tg] e pos.line X.env=pure false:=by rfl)(hw:swappedStores [tg] e X.env=pure none:=by rfl)
 (h1:(assignEach [tg] X.env).map (·.2)=[assign tg X.env]:=by rfl):PS X (.Assign [tg] e pos) (o9 te g):=by
 intro pins s σ H D I h
 refine wpAny_Assign_stores (aL (he pins s σ H _ I h) fun v s1 ⟨x,H1,I1,r1,q1⟩=>?_) hs hw
 rw[h1]
 exact aL (hg pins s1 σ H1 x v _ I1 r1 q1) fun _ s2 q=>q
theorem BC{i:Nat}{x:Str}{e:Expr}{te:TE}{pos':Pos}(hN:X.N.Nodup)(hi:X.N[i]? = some x)(hx:Loc X.env.scope x)(he:PE X e te)(hs:swapsWith e (some (.Name x pos')) pos.line X.env=pure false:=by rfl)(hf:X.fn x=true\/X.env.scope.names.lookup x=some .local:=by first | exact .inl rfl | exact .inr rfl | assumption) :
 PS X (.Assign [.Name x pos'] e pos) (o9 te (nc i)):=by
 intro pins s σ H D I h
 refine wpAny_Assign_Name (aL (he pins s σ H _ I h) fun v s1 ⟨y,H1,I1,r1,q1⟩=>?_) hs
 exact tZ I1 hN hi hx r1 (fun s2 I2=>⟨_,H1,I2,q1⟩) hf
end
structure It where
 go:Nat->Hp->Prop
 ng:Nat->Hp->V->Hp->Prop
 stop:Nat->Hp->Prop
noncomputable def g8(X:Cx)(pins:List (Addr×Obj))(H:Hp)(b:Addr):Prop :=
 H b=none/\b≠X.env.locals/\b ∉ X.fs/\(b∈X.ex\/X.s₀.heap.objs.size<=b)/\(∀ x c,X.env.cells.lookup x=some c->c≠b)/\∀ p∈X.pn++pins,p.1≠b
theorem Inv.ij{X:Cx}{pins:List (Addr×Obj)}{σ:St}{H H':Hp}{s:Shared}{b:Addr}(I:Inv X pins σ H s)(hb:s.heap.objs.size<=b)(hn:H' b=none):g8 X pins H' b:=by
 refine⟨hn,Nat.ne_of_gt (Nat.lt_of_lt_of_le I.lt hb),I.wA hb,.inr (Nat.le_trans I.sz hb),fun x c e z=>?_,fun p hp z=>?_⟩
 · obtain⟨v,q⟩:=I.cell x c e
   exact absurd (Nat.lt_of_lt_of_le q.lt (by rw[z];exact hb)) (Nat.lt_irrefl _)
 · exact absurd (Nat.lt_of_lt_of_le (Heap.lt_size (I.pin p hp).1) (by rw[z];exact hb)) (Nat.lt_irrefl _)
structure Turn(P:Program)(w:World)(K:W.Frag)(tg:Expr)(J:It)(fp:List Addr)(it:Addr)(tn:Nat->Heap->Prop):Prop where
 mem:it∈fp
 obj:∀ i h,tn i h->∀ b∈fp,∃ o,h.get? b=some o/\∀ v,o.data ≠ .cell v
 keep:∀ i h h',tn i h->(∀ b∈fp,∀ o,h.get? b=some o->h'.get? b=some o)->tn i h'
 item:∀ (X:Cx),X.prog=P->X.w=w->X.K=K->X.calm=true->∀ (i:Nat) (pins:List (Addr×Obj)) (s:Shared) (σ:St) (H:Hp) (E:Value->Shared->Prop),Inv X pins σ H s->(∀ b∈fp,g8 X pins H b)->tn i s.heap->J.go i H ->
  wpAny (model P w) X.A (pyNext (.ref it)) (fun r s1=>∃ u,r=some u /\
   wpAny (model P w) X.A (letOwnedTupleGo tg (.ref it) u) (fun _ s2=>∃ x H',Inv X pins σ H' s2/\RelV x u/\J.ng i H x H'/\tn (i+1) s2.heap/\∀ b∈fp,H' b=none) E s1) E s
 done:∀ (X:Cx),X.prog=P->X.w=w->X.K=K->X.calm=true->∀ (i:Nat) (pins:List (Addr×Obj)) (s:Shared) (σ:St) (H:Hp) (E:Value->Shared->Prop),Inv X pins σ H s->(∀ b∈fp,g8 X pins H b)->tn i s.heap->J.stop i H ->
  wpAny (model P w) X.A (pyNext (.ref it)) (fun r s1=>r=none/\Inv X pins σ H s1) E s
 self:∀ (A:Around) (i:Nat) (s:Shared) (Q:Value->Shared->Prop) (E:Value->Shared->Prop),tn i s.heap->Q (.ref it) s->wpAny (model P w) A (pyIter (.ref it)) Q E s
noncomputable abbrev TI:=St->Hp->(It->Hp->Prop)->Prop
noncomputable def BD(X:Cx)(pins:List (Addr×Obj))(σ:St)(tg:Expr)(R:It->Hp->Prop)(itv:Value)(s2:Shared):Prop :=
 ∃ (it:Addr) (fp:List Addr) (tn:Nat->Heap->Prop) (J:It) (H':Hp),itv = .ref it/\Inv X pins σ H' s2/\Turn X.prog X.w X.K tg J fp it tn/\tn 0 s2.heap/\(∀ b∈fp,g8 X pins H' b)/\R J H'
noncomputable def PI(X:Cx)(tg iter:Expr)(wi:TI):Prop :=
 ∀ (pins:List (Addr×Obj)) (s:Shared) (σ:St) (H:Hp) (R:It->Hp->Prop),Inv X pins σ H s->wi σ H R ->
  wpAny (model X.prog X.w) X.A (eval iter X.env) (fun v s1=>wpAny (model X.prog X.w) X.A (pyIter v) (BD X pins σ tg R) X.xe s1) X.xe s
theorem wJ{M:Model}{A:Around}{E:Value->Shared->Prop}{s:Shared}{tg:Expr}{it:Addr}{u:Value}{o:Obj}{n:String}{vs:Array Value}{Q:Unit->Shared->Prop}(ho:s.heap.get? it=some o)(hc:o.cls = .type n)(hd:o.data = .fields vs)
 (hn:["enumerate","zip","dict_itemiterator","dict_reverseitemiterator","odict_iterator","itertools.zip_longest","itertools.pairwise"].contains n=false) (hQ:Q () s):wpAny M A (letOwnedTupleGo tg (.ref it) u) Q E s:=by
 unfold letOwnedTupleGo
 cases tg<;>first
  |exact wpAny_pure hQ
  | (cases u<;>first
   |exact wpAny_pure hQ
   | (refine wpAny_bind (wpAny_load ho ?_)
      rw[hc,hd]
      show wpAny M A (if (["enumerate","zip","dict_itemiterator","dict_reverseitemiterator","odict_iterator","itertools.zip_longest","itertools.pairwise"].contains n && vs[0]? == some (rawInt _))=true then _ else _) Q E s
      rw[if_neg (by intro h;rw[hn,Bool.false_and] at h;cases h)]
      exact wpAny_pure hQ))
noncomputable def wK(K:W.Frag)(a:Addr):It :=
 ⟨fun i H=>∃ xs x,bP K H a xs/\xs[i]? = some x,fun i H x H'=>H'=H/\∀ xs,bP K H a xs->xs[i]? = some x,fun i H=>∃ xs,bP K H a xs/\xs.length<=i⟩
noncomputable def wL(K:W.Frag)(a:Addr):It :=
 ⟨fun i H=>∃ xs x,cV K H a xs/\xs[i]? = some x,fun i H x H'=>H'=H/\∀ xs,cV K H a xs->xs[i]? = some x,fun i H=>∃ xs,cV K H a xs/\xs.length<=i⟩
noncomputable def t7(lo:Int)(n:Nat):It:=⟨fun i _=>i<n,fun i H x H'=>H'=H/\x = .int (lo+i),fun i _=>n<=i⟩
theorem HQ{P:Program}{w:World}{K:W.Frag}{tg:Expr}(a it:Addr):Turn P w K tg (wK K a) [it] it (fun i h=>h.IsListIter it a i) where
 mem:=by simp
 obj:=fun i h st b hb=>by
  have e:b=it:=by simpa using hb
  subst e
  obtain⟨o,e,c,d⟩:=st
  exact⟨o,e,fun v z=>by rw[d] at z;cases z⟩
 keep:=fun i h h' st k=>st.at fun o e=>k it (by simp) o e
 item:=by
  intro X hP hw hK hc i pins s σ H E I hf st hg
  subst hP hw hK
  obtain⟨xs,x,hq,hx⟩:=hg
  obtain⟨its,rv,p,hz⟩:=I.list hq
  obtain⟨u,hu,ru⟩:=rv.get hx
  obtain⟨f0,f1,f2,f3,f4,f5⟩:=hf it (by simp)
  refine wpAny_pyNext_list_item st p.isList (x:=u) (by simpa using hu) fun h' st' sb=>?_
  have I1:Inv X pins σ H { s with heap:=h' }:=I.turned (t':=s.toks) (fun b o hb e=>(sb.2 b hb).trans e) f0 f1 f3 f4 f5
  obtain⟨o,e,c,d⟩:=id st'
  exact⟨u,rfl,wJ (s:={ s with heap:=h' }) e c d (by decide) ⟨x,H,I1,ru,⟨rfl,fun ys hy=>by rw[I.jS hy hq];exact hx⟩,st',fun b hb=>(hf b hb).1⟩⟩
 done:=by
  intro X hP hw hK hc i pins s σ H E I hf st hg
  subst hP hw hK
  obtain⟨xs,hq,hx⟩:=hg
  obtain⟨its,rv,p,hz⟩:=I.list hq
  obtain⟨f0,f1,f2,f3,f4,f5⟩:=hf it (by simp)
  have hl:=rv.length
  exact wpAny_pyNext_list_end (I.ok.hd hc) st p.isList (by simp;omega) fun h' eb=>⟨rfl,I.turned (t':=s.toks) (fun b o hb e=>eb b o hb e) f0 f1 f3 f4 f5⟩
 self:=fun _ _ _ _ _ st h=>wpAny_pyIter_listiter st h
theorem HR{P:Program}{w:World}{K:W.Frag}{tg:Expr}(a it:Addr):Turn P w K tg (wL K a) [it] it (fun i h=>h.IsTupleIter it a i) where
 mem:=by simp
 obj:=fun i h st b hb=>by
  have e:b=it:=by simpa using hb
  subst e
  obtain⟨o,e,c,d⟩:=st
  exact⟨o,e,fun v z=>by rw[d] at z;cases z⟩
 keep:=fun i h h' st k=>st.at fun o e=>k it (by simp) o e
 item:=by
  intro X hP hw hK hc i pins s σ H E I hf st hg
  subst hP hw hK
  obtain⟨xs,x,hq,hx⟩:=hg
  obtain⟨its,rv,p,hz⟩:=I.tuple hq
  obtain⟨u,hu,ru⟩:=rv.get hx
  obtain⟨f0,f1,f2,f3,f4,f5⟩:=hf it (by simp)
  refine wpAny_pyNext_tuple_item st (show s.heap.IsTuple a its.toArray from p) (x:=u) (by simpa using hu) fun h' st' sb=>?_
  have I1:Inv X pins σ H { s with heap:=h' }:=I.turned (t':=s.toks) (fun b o hb e=>(sb.2 b hb).trans e) f0 f1 f3 f4 f5
  obtain⟨o,e,c,d⟩:=id st'
  exact⟨u,rfl,wJ (s:={ s with heap:=h' }) e c d (by decide) ⟨x,H,I1,ru,⟨rfl,fun ys hy=>by rw[I.i_ hy hq];exact hx⟩,st',fun b hb=>(hf b hb).1⟩⟩
 done:=by
  intro X hP hw hK hc i pins s σ H E I hf st hg
  subst hP hw hK
  obtain⟨xs,hq,hx⟩:=hg
  obtain⟨its,rv,p,hz⟩:=I.tuple hq
  obtain⟨f0,f1,f2,f3,f4,f5⟩:=hf it (by simp)
  have hl:=rv.length
  exact wpAny_pyNext_tuple_end (I.ok.hd hc) st (show s.heap.IsTuple a its.toArray from p) (by simp;omega) fun h' eb=>⟨rfl,I.turned (t':=s.toks) (fun b o hb e=>eb b o hb e) f0 f1 f3 f4 f5⟩
 self:=fun _ _ _ _ _ st h=>wpAny_pyIter_tupleiter st h
theorem HS{P:Program}{w:World}{K:W.Frag}{tg:Expr}(it:Addr)(lo:Int)(n:Nat):Turn P w K tg (t7 lo n) [it] it (fun i h=>IsRangeIter h it (lo+(i:Nat) * 1) ((n:Int) - (i:Nat)) 1) where
 mem:=by simp
 obj:=fun i h st b hb=>by
  have e:b=it:=by simpa using hb
  subst e
  exact⟨_,st,fun v z=>by
   have z':Data.fields _=Data.cell v:=z
   cases z'⟩
 keep:=fun i h h' st k=>k it (by simp) _ st
 item:=by
  intro X hP hw hK hc i pins s σ H E I hf st hg
  subst hP hw hK
  obtain⟨f0,f1,f2,f3,f4,f5⟩:=hf it (by simp)
  have W:=Walks.range (prog:=X.prog) (w:=X.w) (I.ok.hd hc) it lo 1 n
  refine W.item i s _ _ hg st fun v h' tk hv st' kk=>?_
  obtain⟨t,rfl⟩:=hv
  have I1:Inv X pins σ H { s with heap:=h',toks:=tk }:=I.turned (fun b o hb e=>kk b o (by simpa using hb) e) f0 f1 f3 f4 f5
  refine⟨_,rfl,wJ (s:={ s with heap:=h',toks:=tk }) (n := "range_iterator") st' rfl rfl (by decide) ⟨.int (lo+i),H,I1,⟨t,?_⟩,⟨rfl,rfl⟩,st',fun b hb=>(hf b hb).1⟩⟩
  rw[Int.mul_one]
 done:=by
  intro X hP hw hK hc i pins s σ H E I hf st hg
  subst hP hw hK
  obtain⟨f0,f1,f2,f3,f4,f5⟩:=hf it (by simp)
  exact wpAny_pyNext_range_end (I.ok.hd hc) st (by have:n<=i:=hg;omega) fun h' eb=>⟨rfl,I.turned (t':=s.toks) (fun b o hb e=>eb b o hb e) f0 f1 f3 f4 f5⟩
 self:=fun _ _ _ _ _ st h=>wpAny_pyIter_rangeiter st h
section
variable{X:Cx}{tg:Expr}
noncomputable def HU(K:W.Frag)(tl:TE):TI:=fun σ H R=>tl σ H fun x H1=>∃ a,x = .ref a/\(∃ xs,bP K H1 a xs)/\R (wK K a) H1
noncomputable def HV(K:W.Frag)(tl:TE):TI:=fun σ H R=>tl σ H fun x H1=>∃ a,x = .ref a/\(∃ xs,cV K H1 a xs)/\R (wL K a) H1
theorem HW{l:Expr}{tl:TE}(hl:PE X l tl):PI X tg l (HU X.K tl):=by
 intro pins s σ H R I h
 refine aL (hl pins s σ H _ I h) fun v s1 ⟨x,H1,I1,r1,q1⟩=>?_
 obtain⟨a,e,⟨xs,hq⟩,q⟩:=q1
 subst e
 cases r1
 obtain⟨its,rv,p,hz⟩:=I1.list hq
 refine wpAny_pyIter_list p.isList ?_
 refine⟨s1.heap.objs.size,[s1.heap.objs.size],_,_,H1,rfl,I1.kept (t':=s1.toks) fun b o e=>Heap.get?_push_of_some _ e,HQ a _,⟨_,Heap.get?_push_size _ rfl,rfl,rfl⟩,fun b hb=>?_,q⟩
 have e:b=s1.heap.objs.size:=by simpa using hb
 subst e
 exact I1.ij (Nat.le_refl _) (I1.hok.fresh (Nat.le_refl _))
theorem HX{l:Expr}{tl:TE}(hl:PE X l tl):PI X tg l (HV X.K tl):=by
 intro pins s σ H R I h
 refine aL (hl pins s σ H _ I h) fun v s1 ⟨x,H1,I1,r1,q1⟩=>?_
 obtain⟨a,e,⟨xs,hq⟩,q⟩:=q1
 subst e
 cases r1
 obtain⟨its,rv,p,hz⟩:=I1.tuple hq
 refine wpAny_pyIter_tuple (show s1.heap.IsTuple a its.toArray from p) ?_
 refine⟨s1.heap.objs.size,[s1.heap.objs.size],_,_,H1,rfl,I1.kept (t':=s1.toks) fun b o e=>Heap.get?_push_of_some _ e,HR a _,⟨_,Heap.get?_push_size _ rfl,rfl,rfl⟩,fun b hb=>?_,q⟩
 have e:b=s1.heap.objs.size:=by simpa using hb
 subst e
 exact I1.ij (Nat.le_refl _) (I1.hok.fresh (Nat.le_refl _))
theorem HY{pins:List (Addr×Obj)}{σ:St}{H:Hp}{s:Shared}{R:It->Hp->Prop}{E:Value->Shared->Prop}{lo hi:Int}{t u v:Tok}{tk:Nat}(I:Inv X pins σ H s)(h1 : -(2 ^ 62)<=lo)(h2:lo<2 ^ 62)(h3 : -(2 ^ 62)<=hi)(h4:hi<2 ^ 62)
 (q:R (t7 lo (hi - lo).toNat) H):wpAny (model X.prog X.w) X.A (pyIter (.ref s.heap.objs.size)) (BD X pins σ tg R) E { s with heap:=s.heap.push { cls:=.type "range",data:=.fields #[.int lo t,.int hi u,.int 1 v] },toks:=tk }:=by
 refine wpAny_pyIter_range (IsRange.new ..) (small_one h1 h2 h3 h4) ?_
 have I1:Inv X pins σ H { s with heap:=s.heap.push { cls:=.type "range",data:=.fields #[.int lo t,.int hi u,.int 1 v] },toks:=tk }:=I.kept fun b o e=>Heap.get?_push_of_some _ e
 refine⟨(s.heap.push { cls:=.type "range",data:=.fields #[.int lo t,.int hi u,.int 1 v] }).objs.size,[(s.heap.push { cls:=.type "range",data:=.fields #[.int lo t,.int hi u,.int 1 v] }).objs.size],_,_,H,rfl,
  I1.kept (t':=tk) fun b o e=>Heap.get?_push_of_some _ e,HS _ lo (hi - lo).toNat,?_,fun b hb=>?_,q⟩
 · have e1:lo+((0:Nat):Int) * 1=lo:=by simp
   have e2:(((hi - lo).toNat:Nat):Int) - ((0:Nat):Int)=Builtin.Range.rangeSize lo hi 1:=by rw[rangeSize_one];split<;>omega
   show IsRangeIter _ _ (lo+((0:Nat):Int) * 1) ((((hi - lo).toNat:Nat):Int) - ((0:Nat):Int)) 1
   rw[e1,e2]
   exact Heap.get?_push_size _ rfl
 · have e:b=(s.heap.push { cls:=.type "range",data:=.fields #[.int lo t,.int hi u,.int 1 v] }).objs.size:=by simpa using hb
   subst e
   exact I1.ij (Nat.le_refl _) (I1.hok.fresh (Nat.le_refl _))
noncomputable def BE(ta:TA):TI:=fun σ H R=>ta σ H fun vs H1=>∃ j:Int,vs=[.int j] /\ -(2 ^ 62)<=j/\j<2 ^ 62/\R (t7 0 j.toNat) H1
theorem wM{a:Expr}{ta:TA}{p pos:Pos}(hg:Gl X "range")(hm:X.mg "range" = none)(ha:PA X [a] ta)(hs:starEach [a] X.env=[(false,eval a X.env)]:=by rfl):PI X tg (.Call (.Name "range" p) [a] [] pos) (BE ta):=by
 intro pins s σ H R I h
 refine Call_ (o7 I hg hm boot_range (PyProof.Rows.callWith_type1 (aL (ha pos pins s σ H _ I h) fun us s1 ⟨vs,H1,I1,r1,q1⟩=>?_) hs rfl))
 obtain⟨j,e,q1,q2,q⟩:=q1
 subst e
 cases r1 with
 |cons r rr =>
   cases rr
   obtain⟨t,rfl⟩:=r
   exact call_range_1 (HY I1 (by omega) (by omega) q1 q2 (by simpa using q))
noncomputable def wN(wi:TI)(g:TG)(tb:TS):TS:=fun D σ H=>wi σ H fun J H1=>∃ W:Nat->Nat->St->Hp->Prop,(∃ m,W 0 m σ H1)/\∀ i m σ H,W i m σ H ->
 (J.stop i H/\D.nx σ H)\/(J.go i H/\∃ N:St->Hp->Prop,(∀ ay H',N ay H'->∃ m',m'<m/\W (i+1) m' ay H')/\∀ x H',J.ng i H x H'->g x σ H' fun eI H2=>tb { D with nx:=N,ct:=N,bk:=D.nx } eI H2)
noncomputable def o_(fp:List Addr)(h:Heap):List (Addr×Obj):=fp.filterMap fun b=>(h.get? b).map fun o=>(b,o)
theorem pf{fp:List Addr}{h:Heap}{b:Addr}{o:Obj}(hb:b∈fp)(e:h.get? b=some o):(b,o)∈o_ fp h:=List.mem_filterMap.mpr ⟨b,hb,by rw[e];rfl⟩
theorem HZ{fp:List Addr}{h:Heap}{p:Addr×Obj}(hp:p∈o_ fp h):p.1∈fp/\h.get? p.1=some p.2:=by
 obtain⟨b,hb,e⟩:=List.mem_filterMap.mp hp
 cases q:h.get? b with
 |none=>rw[q] at e;cases e
 |some o =>
   rw[q] at e
   have e':(b,o)=p:=Option.some.inj e
   subst e'
   exact⟨hb,q⟩
theorem Inv.pinned{pins:List (Addr×Obj)}{σ:St}{H:Hp}{s:Shared}{fp:List Addr}(I:Inv X pins σ H s)(hf:∀ b∈fp,g8 X pins H b)(ho:∀ b∈fp,∃ o,s.heap.get? b=some o/\∀ v,o.data ≠ .cell v):Inv X (pins++o_ fp s.heap) σ H s :=
 I.dQ fun p hp=>(List.mem_append.mp hp).elim (fun z=>I.pin p (List.mem_append_right _ z)) fun z=>by
  obtain⟨hb,e⟩:=HZ z
  obtain⟨f0,f1,f2,_⟩:=hf p.1 hb
  obtain⟨o,e',d⟩:=ho p.1 hb
  rw[e] at e';cases e'
  exact⟨e,f0,f1,f2,d⟩
theorem Inv.cb{pins pl:List (Addr×Obj)}{σ:St}{H:Hp}{s:Shared}(I:Inv X (pins++pl) σ H s):Inv X pins σ H s:=I.dQ fun p hp=>I.pin p (List.mem_append_right _ (List.mem_append_left _ hp))
theorem t8{iter:Expr}{body:List Stmt}{wi:TI}{g:TG}{tb:TS}{pos:Pos}(hp:PassesOwn (model X.prog X.w) X.A X.env X.xe)(hc:X.calm=true)(hi:PI X tg iter wi)(hg:PG X tg g)(hb:PSs X body tb)
 (hs:∀ x,foldedSetIterable iter X.env x=pure x:=by intro _;rfl):PS X (.For tg iter body [] pos) (wN wi g tb):=by
 intro pins s σ H D I h
 refine wpAny_For (aL (hi pins s σ H _ I h) fun v s1 h1=>aL h1 fun itv s2 h2=>?_) hs
 obtain⟨it,fp,tn,J,H2,e,I2,T,st2,f2,W,⟨m0,w0⟩,turn⟩:=h2
 subst e
 have stat:∀ {H':Hp},(∀ b∈fp,H' b=none)->∀ b∈fp,g8 X pins H' b:=fun hn b hb=>⟨hn b hb,(f2 b hb).2⟩
 refine codeAny_forLoop_any (fun n s'=>∃ i ay H',Inv X pins ay H' s'/\tn i s'.heap/\(∀ b∈fp,H' b=none)/\W i n ay H') ?_ m0 ⟨0,σ,H2,I2,st2,fun b hb=>(f2 b hb).1,w0⟩
 rintro n s3 ⟨i,kX,H3,I3,st3,nh,w3⟩
 rcases turn i n kX H3 w3 with ⟨stop,qn⟩ | ⟨go,N,hN,step⟩
 · refine wpAny_passesOwn hp (aL (T.done X rfl rfl rfl hc i pins s3 kX H3 X.xe I3 (stat nh) st3 stop) fun r s4 ⟨hr,I4⟩=>?_)
   subst hr
   exact wpAny_execs_nil ⟨kX,H3,I4,qn⟩
 · refine wpAny_passesOwn hp (aL (T.item X rfl rfl rfl hc i pins s3 kX H3 X.xe I3 (stat nh) st3 go) fun r s4 ⟨u,hr,h4⟩=>?_)
   subst hr
   refine wpAny_passesOwn hp (aL h4 fun _ s5 ⟨x,H5,I5,r5,y5,eJ,qG⟩=>?_)
   have H_:=I5.pinned (stat qG) (T.obj _ _ eJ)
   refine wpAny_passesOwn hp (aL (hg _ s5 kX H5 x u _ H_ r5 (step x H5 y5)) fun _ s6 ⟨d8,H6,I6,q6⟩=>?_)
   refine wpAny_passesOwn hp (aL (hb _ s6 d8 H6 _ I6 q6) fun f s7 q7=>?_)
   have again:∀ {jU:St} {H7:Hp},Inv X (pins++o_ fp s5.heap) jU H7 s7->N jU H7->∃ m,m<n/\∃ i ay H',Inv X pins ay H' s7/\tn i s7.heap/\(∀ b∈fp,H' b=none)/\W i m ay H':=fun {jU H7} I7 n7=>by
    obtain⟨m',hm,w7⟩:=hN jU H7 n7
    refine⟨m',hm,i+1,jU,H7,I7.cb,T.keep _ _ _ eJ fun b hb o e=>(I7.pin (b,o) (List.mem_append_right _ (List.mem_append_right _ (pf hb e)))).1,fun b hb=>?_,w7⟩
    obtain⟨o,e,d⟩:=T.obj _ _ eJ b hb
    exact(I7.pin (b,o) (List.mem_append_right _ (List.mem_append_right _ (pf hb e)))).2.1
   cases f with
   |next=>obtain⟨jU,H7,I7,n7⟩:=q7;exact again I7 n7
   |cont=>obtain⟨jU,H7,I7,n7⟩:=q7;exact again I7 n7
   |brk=>obtain⟨jU,H7,I7,q7⟩:=q7;exact⟨jU,H7,I7.cb,q7⟩
   |ret v=>obtain⟨x7,jU,H7,I7,r7,q7⟩:=q7;exact⟨x7,jU,H7,I7.cb,r7,q7⟩
end
noncomputable abbrev R2:=V->V->Hp->VK->Prop
noncomputable def bU(X:Cx)(f:Value->Value->Sem Value)(r:R2):Prop :=
 ∀ (pins:List (Addr×Obj)) (s:Shared) (σ:St) (H:Hp) (x y:V) (v u:Value) (Q:VK),Inv X pins σ H s->RelV x v->RelV y u->r x y H Q ->
  wpAny (model X.prog X.w) X.A (f v u) (EP X pins σ Q) X.xe s
noncomputable def wO(X:Cx)(f:Value->Sem Value)(r:V->Hp->VK->Prop):Prop :=
 ∀ (pins:List (Addr×Obj)) (s:Shared) (σ:St) (H:Hp) (x:V) (v:Value) (Q:VK),Inv X pins σ H s->RelV x v->r x H Q ->
  wpAny (model X.prog X.w) X.A (f v) (EP X pins σ Q) X.xe s
noncomputable def aS(X:Cx)(f:Value)(r:List V->Hp->VK->Prop):Prop :=
 ∀ (pins:List (Addr×Obj)) (s:Shared) (σ:St) (H:Hp) (xs:List V) (us:List Value) (Q:VK),Inv X pins σ H s->Vals xs us->r xs H Q ->
  wpAny (model X.prog X.w) X.A (call f us) (EP X pins σ Q) X.xe s
noncomputable def qH(r:R2)(ta tb:TE):TE:=fun σ H Q=>ta σ H fun x H1=>tb σ H1 fun y H2=>r x y H2 Q
noncomputable def Ia(r:V->Hp->VK->Prop)(ta:TE):TE:=fun σ H Q=>ta σ H fun x H1=>r x H1 Q
noncomputable def rI(C:Int->Int->Prop)(g:Int->Int->V):R2:=fun x y H Q=>∃ i j,x = .int i/\y = .int j/\C i j/\Q (g i j) H
noncomputable def jV(g:Int->Int->V):R2:=fun x y H Q=>∃ i j,x = .int i/\y = .int j/\Q (g i j) H
noncomputable def rU(g:Int->V):V->Hp->VK->Prop:=fun x H Q=>∃ i,x = .int i/\Q (g i) H
section
variable{X:Cx}{a b c:Expr}{ta tb tc:TE}{pos:Pos}
theorem wQ(ha:PE X a ta)(hb:PE X b tb){pins:List (Addr×Obj)}{s:Shared}{σ:St}{H:Hp}{R:V->V->Hp->Prop}(I:Inv X pins σ H s)
 (h:ta σ H fun x H1=>tb σ H1 fun y H2=>R x y H2) {Q:Value->Shared->Prop} {f:Value->Value->Sem Value}
 (hf:∀ v u s2 x y H2,Inv X pins σ H2 s2->RelV x v->RelV y u->R x y H2->wpAny (model X.prog X.w) X.A (f v u) Q X.xe s2) :
 wpAny (model X.prog X.w) X.A (eval a X.env) (fun v aE=>wpAny (model X.prog X.w) X.A (eval b X.env) (fun u wR=>wpAny (model X.prog X.w) X.A (f v u) Q X.xe wR) X.xe aE) X.xe s:=by
 refine aL (ha pins s σ H _ I h) fun v s1 ⟨x,H1,I1,r1,q1⟩=>?_
 refine aL (hb pins s1 σ H1 _ I1 q1) fun u s2 ⟨y,H2,I2,r2,q2⟩=>?_
 exact hf v u s2 x y H2 I2 r1 r2 q2
theorem Ib{op:Operator}{r:R2}(ho:bU X (binaryOp op) r)(ha:PE X a ta)(hb:PE X b tb):PE X (.BinOp a op b pos) (qH r ta tb):=by
 intro pins s σ H Q I h
 exact wpAny_BinOp (wQ ha hb I h fun v u s2 x y H2 I2 rx ry q=>ho pins s2 σ H2 x y v u Q I2 rx ry q)
theorem Ic{op:UnaryOp}{r:V->Hp->VK->Prop}(ho:wO X (unaryOp op) r)(ha:PE X a ta):PE X (.UnaryOp op a pos) (Ia r ta):=by
 intro pins s σ H Q I h
 exact UnaryOp_ (aL (ha pins s σ H _ I h) fun v s1 ⟨x,H1,I1,r1,q1⟩=>ho pins s1 σ H1 x v Q I1 r1 q1)
theorem t9{f:Value->Value->Sem Value}{C:Int->Int->Prop}{g:Int->Int->Int}
 (rule:∀ (i j:Int) (t u:Tok) (s:Shared) (Q:Value->Shared->Prop) (E:Value->Shared->Prop),C i j->Q (.int (g i j) s.toks) { s with toks:=s.toks+1 }->wpAny (model X.prog X.w) X.A (f (.int i t) (.int j u)) Q E s) :
 bU X f (rI C fun i j=>.int (g i j)):=by
 intro pins s σ H x y v u Q I rx ry h
 obtain⟨i,j,rfl,rfl,hc,q⟩:=h
 obtain⟨t,rfl⟩:=rx
 obtain⟨t',rfl⟩:=ry
 exact rule i j t t' s _ _ hc ⟨.int (g i j),H,I.tok _,⟨_,rfl⟩,q⟩
theorem Ie{f:Value->Value->Sem Value}{g:Int->Int->Int}
 (rule:∀ (i j:Int) (t u:Tok) (s:Shared) (Q:Value->Shared->Prop) (E:Value->Shared->Prop),Q (.int (g i j) s.toks) { s with toks:=s.toks+1 }->wpAny (model X.prog X.w) X.A (f (.int i t) (.int j u)) Q E s) :
 bU X f (jV fun i j=>.int (g i j)):=by
 intro pins s σ H x y v u Q I rx ry h
 obtain⟨i,j,rfl,rfl,q⟩:=h
 obtain⟨t,rfl⟩:=rx
 obtain⟨t',rfl⟩:=ry
 exact rule i j t t' s _ _ ⟨.int (g i j),H,I.tok _,⟨_,rfl⟩,q⟩
theorem wU{f:Value->Value->Sem Value}{g:Int->Int->Bool}
 (rule:∀ (i j:Int) (t u:Tok) (s:Shared) (Q:Value->Shared->Prop) (E:Value->Shared->Prop),Q (.bool (g i j)) s->wpAny (model X.prog X.w) X.A (f (.int i t) (.int j u)) Q E s) :
 bU X f (jV fun i j=>.bl (g i j)):=by
 intro pins s σ H x y v u Q I rx ry h
 obtain⟨i,j,rfl,rfl,q⟩:=h
 obtain⟨t,rfl⟩:=rx
 obtain⟨t',rfl⟩:=ry
 exact rule i j t t' s _ _ ⟨.bl (g i j),H,I,rfl,q⟩
noncomputable def BF(i j:Int):Prop:=0<j/\j<1073741824
noncomputable def BG(i j:Int):Prop:=0<=j/\j<=1000000/\i.natAbs<2 ^ 64
noncomputable def jb(i j:Int):Prop:=(-(2 ^ 64)<i/\i<2 ^ 64)\/(-(2 ^ 64)<j/\j<2 ^ 64)
theorem jb.ok{i j:Int}(h:jb i j):IntMulOk i j:=by
 rcases h with ⟨h1,h2⟩ | ⟨h1,h2⟩
 · exact .of_left (intBits_le_64 h1 h2)
 · exact .of_right (intBits_le_64 h1 h2)
theorem nQ:bU X (binaryOp .Add) (jV fun i j=>.int (i+j)):=Ie fun _ _ _ _ _ _ _ q=>add_int q
theorem nR:bU X (binaryOp .Mult) (rI jb fun i j=>.int (i * j)):=t9 fun _ _ _ _ _ _ _ hc q=>mul_int q hc.ok
theorem BH:bU X (binaryOp .FloorDiv) (rI BF fun i j=>.int (i / j)):=t9 fun i j _ _ _ _ _ hc q=>by
 have h1:(0:Int)<j:=hc.1
 have h2:j<1073741824:=hc.2
 exact floordiv_int (by omega) (by rw[Int.fdiv_eq_ediv_of_nonneg i (by omega)];exact q) (.inl (PyProof.noPylong_small (by omega)))
theorem ni:bU X (binaryOp .Mod) (rI (fun _ j=>0<j) fun i j=>.int (i % j)):=t9 fun i j _ _ _ _ _ hc q=>by
 have h1:(0:Int)<j:=hc
 exact mod_int' (by omega) (by rw[Int.fmod_eq_emod_of_nonneg i (by omega)];exact q)
theorem wV:bU X (binaryOp .Pow) (rI BG fun i j=>.int (i ^ j.toNat)):=t9 fun _ _ _ _ _ _ _ hc q=>pow_int_small hc.1 hc.2.1 hc.2.2 q
theorem Ig{f:Value->Sem Value}{g:Int->Int}
 (rule:∀ (i:Int) (t:Tok) (s:Shared) (Q:Value->Shared->Prop) (E:Value->Shared->Prop),Q (.int (g i) s.toks) { s with toks:=s.toks+1 }->wpAny (model X.prog X.w) X.A (f (.int i t)) Q E s) :
 wO X f (rU fun i=>.int (g i)):=by
 intro pins s σ H x v Q I rx h
 obtain⟨i,rfl,q⟩:=h
 obtain⟨t,rfl⟩:=rx
 exact rule i t s _ _ ⟨.int (g i),H,I.tok _,⟨_,rfl⟩,q⟩
theorem Ih:wO X (unaryOp .USub) (rU fun i=>.int (-i)):=Ig fun _ _ _ _ _ q=>neg_int q
end
noncomputable def BI:V->V->Bool
 | .ao,.ao=>true | .ao,.int _=>true | .int _,.ao=>true | .ao,.bl _=>true | .bl _,.ao=>true | .ao,.str _=>true | .str _,.ao=>true
 | .int _,.int _=>true | .bl _,.bl _=>true | .str _,.str _=>true | .jC _,.jC _=>true
 | .int _,.str _=>true | .str _,.int _=>true | .bl _,.str _=>true | .str _,.bl _=>true
 | _,_=>false
noncomputable def BJ:R2:=fun x y H Q=>BI x y=true/\Q (.bl (decide (x=y))) H
noncomputable def BK:R2:=fun x y H Q=>BI x y=true/\Q (.bl (!decide (x=y))) H
theorem BL{i j:Int}:decide (V.int i=V.int j)=(i == j):=by
 rw[Bool.eq_iff_iff]
 simp
theorem BM{i j:Bool}:decide (V.bl i=V.bl j)=(i == j):=by
 rw[Bool.eq_iff_iff]
 simp
theorem BN{i j:Str}:decide (V.str i=V.str j)=(i == j):=by
 rw[Bool.eq_iff_iff]
 simp
theorem BO{i j:Array UInt8}:decide (V.jC i=V.jC j)=(i.toList == j.toList):=by
 rw[Bool.eq_iff_iff]
 cases i
 cases j
 simp
section
variable{X:Cx}{a b c:Expr}{ta tb tc:TE}{pos:Pos}
theorem cF{pins:List (Addr×Obj)}{σ:St}{H:Hp}{s:Shared}{Q:VK}{k k':Bool}(I:Inv X pins σ H s)(q:Q (.bl k) H)(e:k=k'):EP X pins σ Q (.bool k') s:=by
 subst e
 exact⟨.bl k,H,I,rfl,q⟩
theorem op_eq:bU X (compareOp .Eq) BJ:=by
 intro pins s σ H x y v u Q I rx ry h
 obtain⟨hs,q⟩:=h
 cases x with
 |ao =>
   cases rx
   cases y with
   |ao=>cases ry;exact PySem.EqNone.eq_none_none (cF I q (by simp))
   |bl j=>cases ry;exact PySem.EqNone.eq_none_bool (cF I q (by simp))
   |int j=>obtain⟨t',rfl⟩:=ry;exact PySem.EqNone.eq_none_int (cF I q (by simp))
   |str j=>obtain⟨t',rfl⟩:=ry;exact PySem.EqNone.eq_none_str (cF I q (by simp))
   | _=>exact absurd (show false=true from hs) Bool.false_ne_true
 |bl i =>
   cases rx
   cases y with
   |ao=>cases ry;exact PySem.EqNone.eq_bool_none (cF I q (by simp))
   |bl j=>cases ry;exact eq_bool (cF I q BM)
   |str j=>obtain⟨t',rfl⟩:=ry;exact PySem.EqMixed.eq_bool_str (cF I q (by simp))
   | _=>exact absurd (show false=true from hs) Bool.false_ne_true
 |int i =>
   obtain⟨t,rfl⟩:=rx
   cases y with
   |ao=>cases ry;exact PySem.EqNone.eq_int_none (cF I q (by simp))
   |int j=>obtain⟨t',rfl⟩:=ry;exact eq_int (cF I q BL)
   |str j=>obtain⟨t',rfl⟩:=ry;exact PySem.EqMixed.eq_int_str (cF I q (by simp))
   | _=>exact absurd (show false=true from hs) Bool.false_ne_true
 |str i =>
   obtain⟨t,rfl⟩:=rx
   cases y with
   |ao=>cases ry;exact PySem.EqNone.eq_str_none (cF I q (by simp))
   |bl j=>cases ry;exact PySem.EqMixed.eq_str_bool (cF I q (by simp))
   |int j=>obtain⟨t',rfl⟩:=ry;exact PySem.EqMixed.eq_str_int (cF I q (by simp))
   |str j=>obtain⟨t',rfl⟩:=ry;exact eq_str (cF I q BN)
   | _=>exact absurd (show false=true from hs) Bool.false_ne_true
 |jC i =>
   obtain⟨t,rfl⟩:=rx
   cases y with
   |jC j=>obtain⟨t',rfl⟩:=ry;exact W.eq_bytes (cF I q BO)
   | _=>exact absurd (show false=true from hs) Bool.false_ne_true
 | _=>cases y<;>exact absurd (show false=true from hs) Bool.false_ne_true
theorem Ii:bU X (compareOp .NotEq) BK:=by
 intro pins s σ H x y v u Q I rx ry h
 obtain⟨hs,q⟩:=h
 cases x with
 |ao =>
   cases rx
   cases y with
   |ao=>cases ry;exact PySem.EqNone.ne_none_none (cF I q (by simp))
   |bl j=>cases ry;exact PySem.EqNone.ne_none_bool (cF I q (by simp))
   |int j=>obtain⟨t',rfl⟩:=ry;exact PySem.EqNone.ne_none_int (cF I q (by simp))
   |str j=>obtain⟨t',rfl⟩:=ry;exact PySem.EqNone.ne_none_str (cF I q (by simp))
   | _=>exact absurd (show false=true from hs) Bool.false_ne_true
 |bl i =>
   cases rx
   cases y with
   |ao=>cases ry;exact PySem.EqNone.ne_bool_none (cF I q (by simp))
   |bl j=>cases ry;exact ne_bool (cF I q (congrArg not BM))
   |str j=>obtain⟨t',rfl⟩:=ry;exact PySem.EqMixed.ne_bool_str (cF I q (by simp))
   | _=>exact absurd (show false=true from hs) Bool.false_ne_true
 |int i =>
   obtain⟨t,rfl⟩:=rx
   cases y with
   |ao=>cases ry;exact PySem.EqNone.ne_int_none (cF I q (by simp))
   |int j=>obtain⟨t',rfl⟩:=ry;exact ne_int (cF I q (congrArg not BL))
   |str j=>obtain⟨t',rfl⟩:=ry;exact PySem.EqMixed.ne_int_str (cF I q (by simp))
   | _=>exact absurd (show false=true from hs) Bool.false_ne_true
 |str i =>
   obtain⟨t,rfl⟩:=rx
   cases y with
   |ao=>cases ry;exact PySem.EqNone.ne_str_none (cF I q (by simp))
   |bl j=>cases ry;exact PySem.EqMixed.ne_str_bool (cF I q (by simp))
   |int j=>obtain⟨t',rfl⟩:=ry;exact PySem.EqMixed.ne_str_int (cF I q (by simp))
   |str j=>obtain⟨t',rfl⟩:=ry;exact ne_str (cF I q (congrArg not BN))
   | _=>exact absurd (show false=true from hs) Bool.false_ne_true
 |jC i =>
   obtain⟨t,rfl⟩:=rx
   cases y with
   |jC j=>obtain⟨t',rfl⟩:=ry;exact W.ne_bytes (cF I q (congrArg not BO))
   | _=>exact absurd (show false=true from hs) Bool.false_ne_true
 | _=>cases y<;>exact absurd (show false=true from hs) Bool.false_ne_true
theorem wW:bU X (compareOp .Lt) (jV fun i j=>.bl (decide (i<j))):=wU fun _ _ _ _ _ _ _ q=>lt_int q
theorem BP:bU X (compareOp .LtE) (jV fun i j=>.bl (decide (i<=j))):=wU fun _ _ _ _ _ _ _ q=>le_int q
theorem BQ:bU X (compareOp .Gt) (jV fun i j=>.bl (decide (j<i))):=wU fun _ _ _ _ _ _ _ q=>gt_int q
theorem BR:bU X (compareOp .Is) (fun x y H Q=>y = .ao/\Q (.bl (decide (x = .ao))) H):=by
 intro pins s σ H x y v u Q I rx ry h
 obtain⟨rfl,q⟩:=h
 cases ry
 refine is_none_gen (cF I q ?_)
 cases x<;>first
  | (cases rx;rfl)
  | (obtain⟨t,rfl⟩:=rx;rfl)
theorem bU.or{f:Value->Value->Sem Value}{r r':R2}(h:bU X f r)(h':bU X f r'):bU X f (fun x y H Q=>r x y H Q\/r' x y H Q):=by
 intro pins s σ H x y v u Q I rx ry q
 rcases q with q | q
 · exact h pins s σ H x y v u Q I rx ry q
 · exact h' pins s σ H x y v u Q I rx ry q
theorem dR(b:Expr){op:CmpOp}(h:op ≠ .In:=by decide)(h2:op ≠ .NotIn:=by decide):behindInMarks op b=false:=by
 have e1:(op == CmpOp.In)=false:=by cases op<;>first | rfl | exact absurd rfl h
 have e2:(op == CmpOp.NotIn)=false:=by cases op<;>first | rfl | exact absurd rfl h2
 cases b<;>simp[behindInMarks,e1,e2]
theorem Ij{op:CmpOp}{r:R2}(ho:bU X (compareOp op) r)(ha:PE X a ta)(hb:PE X b tb)(hm:behindInMarks op b=false):PE X (.Compare a [op] [b] pos) (qH r ta tb):=by
 intro pins s σ H Q I h
 exact wpAny_Compare1 (wQ ha hb I h fun v u s2 x y H2 I2 rx ry q=>ho pins s2 σ H2 x y v u Q I2 rx ry q) hm
noncomputable def BS(t:TE):TT:=fun σ H Q=>t σ H fun x H'=>∃ k,x = .bl k/\Q k H'
theorem Ik{op:CmpOp}{r:R2}(ho:bU X (compareOp op) r)(ha:PE X a ta)(hb:PE X b tb)(hm:behindInMarks op b=false):PT X (.Compare a [op] [b] pos) (BS (qH r ta tb)):=by
 intro pins s σ H Q I h
 refine wpAny_isTrue_Compare1 (aL (ha pins s σ H _ I h) fun v s1 ⟨x,H1,I1,r1,q1⟩=>aL (hb pins s1 σ H1 _ I1 q1) fun u s2 ⟨y,H2,I2,r2,q2⟩ =>
  aL (ho pins s2 σ H2 x y v u _ I2 r1 r2 q2) fun c s3 ⟨z,H3,I3,r3,k,e,q3⟩=>?_) hm
 subst e
 cases r3
 exact wpAny_truthy_bool ⟨H3,I3,q3⟩
noncomputable def BU(r r':R2)(ta tb tc:TE):TE:=fun σ H Q=>ta σ H fun x H1=>tb σ H1 fun y H2=>r x y H2 fun z H3=>∃ k,z = .bl k /\
 (if k=true then tc σ H3 fun w' H4=>r' y w' H4 Q else Q (.bl false) H3)
theorem Il{op op':CmpOp}{r r':R2}(ho:bU X (compareOp op) r)(ho':bU X (compareOp op') r')(ha:PE X a ta)(hb:PE X b tb)(hc:PE X c tc)
 (hm:lastMarks [op,op'] [b,c]=false:=by with_unfolding_all rfl):PE X (.Compare a [op,op'] [b,c] pos) (BU r r' ta tb tc):=by
 intro pins s σ H Q I h
 refine Compare_chain (aL (ha pins s σ H _ I h) fun v s1 ⟨x,H1,I1,r1,q1⟩=>chain_link (aL (hb pins s1 σ H1 _ I1 q1) fun u s2 ⟨y,H2,I2,r2,q2⟩ =>
  aL (ho pins s2 σ H2 x y v u _ I2 r1 r2 q2) fun d s3 ⟨z,H3,I3,r3,k,e,q3⟩=>?_)) hm
 subst e
 cases r3
 refine wpAny_truthy_bool ?_
 cases k with
 |false=>exact ite_ff ⟨.bl false,H3,I3,rfl,q3⟩
 |true=>exact ite_tt (chain_last (aL (hc pins s3 σ H3 _ I3 q3) fun w' s4 ⟨z',H4,I4,r4,q4⟩=>ho' pins s4 σ H4 y z' u w' Q I4 r2 r4 q4))
theorem ph:(sizeLine:Nat)<2 ^ 63:=by rw[sizeLine_eq];decide
theorem Im:bU X (binaryOp .Add) (fun x y H Q=>∃ i j,x = .str i/\y = .str j/\i.length+j.length<=sizeLine/\Q (.str (i++j)) H):=by
 intro pins s σ H x y v u Q I rx ry h
 obtain⟨i,j,rfl,rfl,hz,q⟩:=h
 obtain⟨t,rfl⟩:=rx
 obtain⟨t',rfl⟩:=ry
 exact add_str (fun t' tk=>⟨.str (i++j),H,I.tok _,⟨_,rfl⟩,q⟩) hz
theorem vals1{x:V}{us:List Value}(r:Vals [x] us):∃ u,us=[u]/\RelV x u:=by
 cases r with
 |cons r1 r2=>cases r2;exact⟨_,rfl,r1⟩
theorem vals2{x y:V}{us:List Value}(r:Vals [x,y] us):∃ u w',us=[u,w']/\RelV x u/\RelV y w':=by
 cases r with
 |cons r1 r2 =>
   cases r2 with
   |cons r3 r4=>cases r4;exact⟨_,_,rfl,r1,r3⟩
theorem Io(hc:X.calm=true):aS X (.builtin "max") (fun xs H Q=>∃ i j,xs=[.int i,.int j]/\Q (.int (if j > i then j else i)) H):=by
 intro pins s σ H xs us Q I r h
 obtain⟨i,j,rfl,q⟩:=h
 obtain⟨u,w',rfl,⟨t,rfl⟩,⟨t',rfl⟩⟩:=vals2 r
 refine max_two_ints (I.ok.hd hc) fun h' tk k=>⟨_,H,I.kept k,?_,q⟩
 by_cases hj:j > i
 · rw[if_pos hj,if_pos hj];exact⟨_,rfl⟩
 · rw[if_neg hj,if_neg hj];exact⟨_,rfl⟩
theorem Ip(hc:X.calm=true):aS X (.builtin "min") (fun xs H Q=>∃ i j,xs=[.int i,.int j]/\Q (.int (if j<i then j else i)) H):=by
 intro pins s σ H xs us Q I r h
 obtain⟨i,j,rfl,q⟩:=h
 obtain⟨u,w',rfl,⟨t,rfl⟩,⟨t',rfl⟩⟩:=vals2 r
 refine min_two_ints (I.ok.hd hc) fun h' tk k=>⟨_,H,I.kept k,?_,q⟩
 by_cases hj:j<i
 · rw[if_pos hj,if_pos hj];exact⟨_,rfl⟩
 · rw[if_neg hj,if_neg hj];exact⟨_,rfl⟩
theorem BV:aS X (.type "int") (fun xs H Q=>(∃ i,xs=[.int i]/\Q (.int i) H)\/∃ k,xs=[.bl k]/\Q (.int (if k then 1 else 0)) H):=by
 intro pins s σ H xs us Q I r h
 rcases h with ⟨i,rfl,q⟩ | ⟨k,rfl,q⟩
 · obtain⟨u,rfl,t,rfl⟩:=vals1 r
   exact call_int_int ⟨.int i,H,I,⟨_,rfl⟩,q⟩
 · obtain⟨u,rfl,r1⟩:=vals1 r
   cases r1
   exact call_int_bool ⟨.int (if k then 1 else 0),H,I.tok _,⟨_,rfl⟩,q⟩
end
structure ik(h:Heap)(x dx C:Addr)(mA:Str->Option Value):Prop where
 obj:h.get? x=some (W.instObj C dx)
 ns:h.Ns1 dx mA
 ne:dx≠x
theorem c7{h:Heap}{dx:Addr}{mA:Str->Option Value}(n:h.Ns1 dx mA):∃ od,h.get? dx=some od/\∀ name,W.lookIn name od=some (mA name):=by
 obtain⟨o,es,ep,ho,hd,hk,_,hm⟩:=n
 refine⟨o,ho,fun name=>?_⟩
 have e:=hm name
 unfold nsFind findBy at e
 rw[<- Array.find?_toList] at e
 unfold W.lookIn
 rw[hd]
 dsimp only
 split
 · rename_i y q
   rw[q] at e
   exact congrArg some e
 · rename_i q
   rw[q] at e
   have a:es.toList.any (·.refKey)=false:=by
    rw[List.any_eq_false]
    intro y hy
    obtain⟨z,t,hkey⟩:=hk y (Array.mem_toList_iff.mp hy)
    simp[DictEntry.refKey,hkey]
   have a' : ¬ es.toList.any (·.refKey)=true:=by rw[a];exact Bool.false_ne_true
   rw[if_neg a']
   exact congrArg some e
theorem ik.look{h:Heap}{x dx C:Addr}{mA:Str->Option Value}(I:ik h x dx C mA):∃ od,W.InstAt h x (W.instObj C dx) C (some od)/\∀ name,W.lookIn name od=some (mA name) :=
 let ⟨od,ho,hl⟩:=c7 I.ns
 ⟨od,⟨I.obj,rfl,rfl,ho⟩,hl⟩
section
variable{prog:Program}{w:World}{A:Around}{E:Value->Shared->Prop}{s:Shared}{K:W.Frag}{x dx C f:Addr}{mA:Str->Option Value}{name:Str}{v:Value}
theorem Iq{expr:Bool}{Q:Value->Shared->Prop}(X:K.In s.heap)(I:ik s.heap x dx C mA)(hg:W.plainGet K C name=true)(hh:W.hasDictIn K C=true)
 (ha:W.findIn K (.ref C) name=some none) (hv:mA name=some v) (hv':W.handedIn v=true) (h:Q v { s with toks:=s.toks+1 }) :
 wpAny (model prog w) A (getAttr (.ref x) name expr) Q E s:=by
 obtain⟨od,J,hl⟩:=I.look
 exact W.get_value X J (W.plainGet_of hg).1 (W.findObj_own hh ha rfl (by rw[hl,hv])) hv' h
theorem Ir{pl:Sem Bool}{Q:Value×List Value->Shared->Prop}(X:K.In s.heap)(I:ik s.heap x dx C mA)(hg:W.plainGet K C name=true)
 (hf:W.findIn K (.ref C) name=some (some (.ref f))) (ht:W.isFn K (.ref f)=true) (hv:mA name=none) (h:Q (.ref f,[.ref x]) s) :
 wpAny (model prog w) A (getMethod (.ref x) name pl) Q E s:=by
 obtain⟨od,J,hl⟩:=I.look
 exact W.method_fn X J (W.plainGet_of hg).1 (W.plainGet_of hg).2 hf (beq_iff_eq.mp ht) (by show(W.lookIn name od).map (·.isSome)=some false;rw[hl,hv];rfl) h
theorem Iu{ns:List Str}{Q:Unit->Shared->Prop}(X:K.In s.heap)(I:ik s.heap x dx C mA)
 (hs:W.findIn K (.ref C) "__setattr__" = some (some (.builtin "object.__setattr__"))) (hp:W.plainOver K C=true) (ht:W.takerIn K C name=some none) (hh:W.hasDictIn K C=true)
 (hw:PySem.Within mA ns) (hsz:ns.length<=sizeLine)
 (h:∀ h',ik h' x dx C (fun y=>if y=name then some v else mA y)->Heap.SameBut dx s.heap h'->Q () { s with heap:=h',toks:=s.toks+2 }) :
 wpAny (model prog w) A (setAttr (.ref x) name v) Q E s:=by
 obtain⟨od,J,hl⟩:=I.look
 refine W.set_plain X J hs (W.osa_open (s:={ s with toks:=s.toks+1 }) (r:=none) X J hp ht fun b=>?_)
 obtain⟨cd,hc,hd'⟩:=W.any_some hh
 have hx:s.heap.get? x=some ⟨.ref C,some dx,.plain, #[]⟩:=I.obj
 refine wpAny_bind (wpAny_pure (wpAny_bind (wpAny_bind (wpAny_loadPart hx (wpAny_bind (W.Looks.here (s:={ s with toks:=s.toks+1 }) (W.looks_clsIn X hc) ?_))))))
 rw[hd']
 refine wpAny_pure (a:=some dx) (wpAny_bind (wpAny_pure (wpAny_bind ?_)))
 refine wpAny_nsSet1 (s:={ s with toks:=s.toks+1 }) I.ns fun h' hn2 hs2=>?_
 obtain⟨oD,esD,epD,hoD,hdD,hcD⟩:=hn2.count (PySem.Within.cons name v hw)
 refine wpAny_bind (wpAny_lookBehind hoD (by rw[hdD];exact pastItsLine_dict (Nat.le_trans hcD (by rw[List.length_cons];omega))) ?_)
 exact wpAny_pure (h _ ⟨(hs2.2 _ (Ne.symm I.ne)).trans I.obj,hn2,I.ne⟩ hs2)
theorem BW{R:Result->Shared->Prop}{vs:List Value}{kw:List (Str×Value)}(X:K.In s.heap)(hm:W.makesIn K C=true)
 (hi:W.findIn K (.ref C) "__init__" = some (some (.ref f))) (hf:W.typeIn K (.ref f)=some (.type "function"))
 (h:codeAny (model prog w) (A.under (.builtin "type.__call__" ⟨.ref C::vs,kw⟩)) (.call (.ref f) ⟨.ref (s.heap.objs.size+1)::vs,kw⟩) (W.InitBack (s.heap.objs.size+1) R)
  { s with heap:=(s.heap.push W.emptyDict).push (W.instObj C s.heap.objs.size) }) :
 codeAny (model prog w) A (.call (.ref C) ⟨vs,kw⟩) R s:=by
 obtain⟨hh,g,d,t,os⟩:=s
 exact W.make_core (W.makes_of X hm) (W.looks_findIn X hi) (fun self=>W.bind_fn X self hf) (.inl rfl) h
end
noncomputable def gi(f:Str)(v:V):List (Str×V)->List (Str×V)
 | []=>[(f,v)]
 | (g,x)::r=>if g=f then (g,v)::r else (g,x)::gi f v r
theorem wX(f g:Str)(v:V):∀ fs:List (Str×V),(gi f v fs).lookup g=if g=f then some v else fs.lookup g
 | []=>by
   show List.lookup g [(f,v)]=_
   by_cases h:g=f
   · have hb:(g == f)=true:=beq_iff_eq.mpr h
     simp only[List.lookup,hb,if_pos h]
   · have hb:(g == f)=false:=beq_eq_false_iff_ne.mpr h
     simp only[List.lookup,hb,if_neg h]
 | (k,x)::r=>by
   have ih:=wX f g v r
   rw[show gi f v ((k,x)::r)=(if k=f then (k,v)::r else (k,x)::gi f v r) from rfl]
   by_cases hk:k=f
   · rw[if_pos hk]
     by_cases h:g=k
     · have hb:(g == k)=true:=beq_iff_eq.mpr h
       simp only[List.lookup,hb,if_pos (h.trans hk)]
     · have hb:(g == k)=false:=beq_eq_false_iff_ne.mpr h
       simp only[List.lookup,hb,if_neg (fun e:g=f=>h (e.trans hk.symm))]
   · rw[if_neg hk]
     by_cases h:g=k
     · have hb:(g == k)=true:=beq_iff_eq.mpr h
       simp only[List.lookup,hb,if_neg (fun e:g=f=>hk (h.symm.trans e))]
     · have hb:(g == k)=false:=beq_eq_false_iff_ne.mpr h
       simp only[List.lookup,hb]
       exact ih
theorem qI(f:Str)(v:V):∀ fs:List (Str×V),f∈(gi f v fs).map (·.1)/\∀ g,g∈fs.map (·.1)->g∈(gi f v fs).map (·.1)
 | []=>⟨by simp[gi],fun g h=>by simp at h⟩
 | (k,x)::r=>by
   obtain⟨i1,i2⟩:=qI f v r
   rw[show gi f v ((k,x)::r)=(if k=f then (k,v)::r else (k,x)::gi f v r) from rfl]
   by_cases hk:k=f
   · rw[if_pos hk]
     subst hk
     exact⟨by simp,fun g h=>by simpa using h⟩
   · rw[if_neg hk]
     refine⟨?_,fun g h=>?_⟩
     · rw[List.map_cons]
       exact List.mem_cons_of_mem _ i1
     · rw[List.map_cons] at h ⊢
       rcases List.mem_cons.mp h with e | e
       · exact List.mem_cons.mpr (.inl e)
       · exact List.mem_cons_of_mem _ (i2 g e)
theorem BX(f:Str)(v:V):∀ fs:List (Str×V),(gi f v fs).length<=fs.length+1
 | []=>by simp[gi]
 | (k,x)::r=>by
   have ih:=BX f v r
   rw[show gi f v ((k,x)::r)=(if k=f then (k,v)::r else (k,x)::gi f v r) from rfl]
   by_cases hk:k=f
   · rw[if_pos hk,List.length_cons,List.length_cons];omega
   · rw[if_neg hk,List.length_cons,List.length_cons];omega
theorem cw.some_of{v:V}{o:Option Value}(r:cw (some v) o):∃ u,o=some u/\RelV v u:=by
 cases o with
 |none=>exact(show False from r).elim
 |some u=>exact⟨u,rfl,r⟩
theorem cw.none_of{o:Option Value}(r:cw none o):o=none:=by
 cases o with
 |none=>rfl
 |some u=>exact(show False from r).elim
theorem BY{v:V}{u:Value}(r:RelV v u):W.handedIn u=true:=by
 cases v with
 |ao=>cases (show u=Value.none from r);rfl
 |bl b=>cases (show u=Value.bool b from r);rfl
 |int i=>obtain⟨t,e⟩:=(show ∃ t,u=Value.int i t from r);cases e;rfl
 |str x=>obtain⟨t,e⟩:=(show ∃ t,u=Value.str x t from r);cases e;rfl
 |jC b=>obtain⟨t,e⟩:=(show ∃ t,u=Value.bytes b t from r);cases e;rfl
 |flt b=>obtain⟨t,e⟩:=(show ∃ t,u=Value.float b t from r);cases e;rfl
 |ref a=>cases (show u=Value.ref a from r);rfl
 |ty n=>cases (show u=Value.type n from r);rfl
section
variable{P:Program}{w:World}{H H':Hp}{h h':Heap}{a C dx:Addr}{fs fs':List (Str×V)}
theorem qJ(hok:bZ P w H h)(e:H a=some (.ins C dx fs)):∃ mA,ik h a dx C mA/\(∀ f,cw (fs.lookup f) (mA f))/\PySem.Within mA (fs.map (·.1))/\fs.length<=1000/\H dx=some (.own a):=by
 obtain⟨d,z,ne,ob,mA,n,r,q⟩:=(show aD P w H h a (.ins C dx fs) from hok a _ e)
 exact⟨mA,⟨ob,n,ne⟩,r,q,z,d⟩
end
structure g9(K:W.Frag)(C:Addr):Prop where
 pg:W.plainGet K C Str.empty=true
 hd:W.hasDictIn K C=true
 po:W.plainOver K C=true
 sa:W.findIn K (.ref C) "__setattr__" = some (some (.builtin "object.__setattr__"))
theorem g9.get{K:W.Frag}{C:Addr}(c:g9 K C)(f:Str):W.plainGet K C f=true:=c.pg
noncomputable def aU(K:W.Frag)(C:Addr)(f:Str):Prop:=W.findIn K (.ref C) f=some none
theorem aU.taker{K:W.Frag}{C:Addr}{f:Str}(n:aU K C f):W.takerIn K C f=some none:=by
 unfold W.takerIn
 rw[show W.findIn K (.ref C) f=some none from n]
 rfl
structure Meth(K:W.Frag)(C:Addr)(m:Str)(f:Addr):Prop where
 at_:W.findIn K (.ref C) m=some (some (.ref f))
 fn:W.isFn K (.ref f)=true
 kp:W.keepIn K (.ref f)=true
section
variable{X:Cx}{pins:List (Addr×Obj)}{σ:St}{H:Hp}{s:Shared}{a C dx:Addr}{fs:List (Str×V)}{f:Str}{v:V}{A:Around}{E:Value->Shared->Prop}
theorem Iv{b:Bool}{Q:Value->Shared->Prop}(I:Inv X pins σ H s)(e:H a=some (.ins C dx fs))(c:g9 X.K C)(n:aU X.K C f)(l:fs.lookup f=some v)
 (h:∀ u s',Inv X pins σ H s'->RelV v u->Q u s'):wpAny (model X.prog X.w) A (getAttr (.ref a) f b) Q E s:=by
 obtain⟨mA,O,r,_,_,_⟩:=qJ I.hok e
 obtain⟨u,hu,ru⟩:=cw.some_of (v:=v) (o:=mA f) (by rw[<- l];exact r f)
 exact Iq I.bf O (c.get f) c.hd n hu (BY ru) (h u _ (I.tok _) ru)
theorem Iw{m:Str}{g:Addr}{pl:Sem Bool}{Q:Value×List Value->Shared->Prop}(I:Inv X pins σ H s)(e:H a=some (.ins C dx fs))(c:g9 X.K C)(k:Meth X.K C m g)(l:fs.lookup m=none)
 (h:Q (.ref g,[.ref a]) s):wpAny (model X.prog X.w) A (getMethod (.ref a) m pl) Q E s:=by
 obtain⟨mA,O,r,_,_,_⟩:=qJ I.hok e
 have hn:mA m=none:=cw.none_of (by rw[<- l];exact r m)
 exact Ir I.bf O (c.get m) k.at_ k.fn hn h
theorem Iy{y:V}{u:Value}{Q:Unit->Shared->Prop}(I:Inv X pins σ H s)(e:H a=some (.ins C dx fs))(c:g9 X.K C)(n:aU X.K C f)(hl:fs.length<1000)(ry:RelV y u)
 (h:∀ s',Inv X pins σ (upd H a (.ins C dx (gi f y fs))) s'->Q () s'):wpAny (model X.prog X.w) A (setAttr (.ref a) f u) Q E s:=by
 obtain⟨mA,O,r,wi,_,ho⟩:=qJ I.hok e
 have hz:(fs.map (·.1)).length<=sizeLine:=by rw[List.length_map,sizeLine_eq];omega
 refine Iu I.bf O c.sa c.po n.taker c.hd wi hz fun h' O' sb=>h _ ?_
 have hd:∃ o,h'.get? dx=some o:=let ⟨o,_,_,e',_⟩:=O'.ns; ⟨o,e'⟩
 refine I.write (x:=a) (e:=dx) (by rw[e];exact True.intro) (.inr ho) (fun b q hb z=>(sb.2 b hb).trans z) hd ?_
 refine⟨by rw[aV O.ne];exact ho,?_,O.ne,O'.obj,_,O'.ns,fun g=>?_,fun g hg=>?_⟩
 · have:=BX f y fs;omega
 · show cw ((gi f y fs).lookup g) (if g=f then some u else mA g)
   rw[wX]
   by_cases q:g=f
   · rw[if_pos q,if_pos q];exact ry
   · rw[if_neg q,if_neg q];exact r g
 · by_cases q:g=f
   · rw[q];exact(qI f y fs).1
   · refine(qI f y fs).2 g (wi g fun z=>hg ?_)
     show(if g=f then some u else mA g)=none
     rw[if_neg q];exact z
theorem Inv.made(I:Inv X pins σ H s):Inv X pins σ (upd (upd H s.heap.objs.size (.own (s.heap.objs.size+1))) (s.heap.objs.size+1) (.ins C s.heap.objs.size []))
 { s with heap:=(s.heap.push W.emptyDict).push (W.instObj C s.heap.objs.size) }:=by
 have e1:(s.heap.push W.emptyDict).get? s.heap.objs.size=some W.emptyDict:=Heap.get?_push_size s.heap rfl
 have e2:((s.heap.push W.emptyDict).push (W.instObj C s.heap.objs.size)).get? (s.heap.objs.size+1)=some (W.instObj C s.heap.objs.size):=by
  have:=Heap.get?_push_size (s.heap.push W.emptyDict) (o:=W.instObj C s.heap.objs.size) rfl
  rwa[Heap.size_push] at this
 have e3:(s.heap.push W.emptyDict).Ns s.heap.objs.size (fun _=>none):=⟨W.emptyDict, #[],_,e1,rfl,(fun e he=>absurd he (by simp)),fun _=>rfl⟩
 have I1:=I.laid (a:=s.heap.objs.size) (o:=.own (s.heap.objs.size+1)) (h':=s.heap.push W.emptyDict) (t':=s.toks) (fun b u q=>Heap.get?_push_of_some _ q) (Nat.le_refl _) ⟨_,e1⟩
 refine I1.laid (a:=s.heap.objs.size+1) (o:=.ins C s.heap.objs.size []) (t':=s.toks) (fun b u q=>Heap.get?_push_of_some _ q) (Nat.le_of_eq (Heap.size_push _ _)) ?_
 have ne:s.heap.objs.size≠s.heap.objs.size+1:=Nat.ne_of_lt (Nat.lt_succ_self _)
 refine⟨by rw[aV ne,cJ],Nat.zero_le _,ne,e2,fun _=>none,(Heap.Ns1.of_empty e3).at fun o q=>Heap.get?_push_of_some _ q,fun _=>True.intro,fun y hy=>absurd rfl hy⟩
theorem BZ{prog:Program}{w:World}{env:Env}{e:Expr}{f:Str}{pos:Pos}{s:Shared}{Q:Value->Shared->Prop}(hb:attributeBase e f env (eval e env)=eval e env)
 (h:wpAny (model prog w) A (eval e env) (fun o aE=>wpAny (model prog w) A (getAttr o f true) Q E aE) E s):wpAny (model prog w) A (eval (.Attribute e f pos) env) Q E s :=
 Attribute_any_ h (by rw[arm_eval_Attribute,hb])
end
noncomputable def Iz(K:W.Frag)(ta:TE)(f:Str):TE:=fun σ H Q=>ta σ H fun x H1=>∃ a C dx fs v,x = .ref a/\H1 a=some (.ins C dx fs)/\g9 K C/\aU K C f/\fs.lookup f=some v/\Q v H1
noncomputable def IA(K:W.Frag)(ta tv:TE)(f:Str):TS:=fun D σ H=>tv σ H fun y H1=>ta σ H1 fun x H2=>∃ a C dx fs,x = .ref a/\H2 a=some (.ins C dx fs)/\g9 K C/\aU K C f/\fs.length<1000 /\
 D.nx σ (upd H2 a (.ins C dx (gi f y fs)))
section
variable{X:Cx}{o e value:Expr}{f:Str}{pos pos' tpos:Pos}{ta tv:TE}
theorem IB(he:PE X e ta)(hb:attributeBase e f X.env (eval e X.env)=eval e X.env):PE X (.Attribute e f pos) (Iz X.K ta f):=by
 intro pins s σ H Q I h
 refine BZ hb (aL (he pins s σ H _ I h) fun u s1 ⟨x,H1,I1,rx,a,C,dx,fs,v,ex,ea,c,n,l,q⟩=>?_)
 subst ex
 obtain rfl:u=Value.ref a:=rx
 exact Iv I1 ea c n l fun u' s2 I2 ru=>⟨v,H1,I2,ru,q⟩
theorem IC(ha:PE X o ta)(hv:PE X value tv)(hs:swapsWith value (some (.Attribute o f pos')) pos.line X.env=pure false):PS X (.Assign [.Attribute o f pos'] value pos) (IA X.K ta tv f):=by
 intro pins s σ H D I h
 refine plainObj_wpAny_Assign_Attribute (aL (hv pins s σ H _ I h) fun u s1 ⟨y,H1,I1,ry,q⟩=>aL (ha pins s1 σ H1 _ I1 q) fun ov s2 ⟨x,H2,I2,rx,a,C,dx,fs,ex,ea,c,n,l,q2⟩=>?_) hs
 subst ex
 obtain rfl:ov=Value.ref a:=rx
 exact Iy I2 ea c n l ry fun s3 I3=>⟨σ,_,I3,q2⟩
end
section
variable{X:Cx}{pins:List (Addr×Obj)}{σ:St}{H:Hp}{s:Shared}{A:Around}{E:Value->Shared->Prop}{Q:Value->Shared->Prop}{c:Value}{b:Bool}
inductive cy(K:W.Frag)(H:Hp):V->Value->Prop where
 |ao:cy K H .ao (.type "NoneType")
 |bl (x:Bool):cy K H (.bl x) (.type "bool")
 |int (i:Int):cy K H (.int i) (.type "int")
 |str (x:Str):cy K H (.str x) (.type "str")
 |flt (x:UInt64):cy K H (.flt x) (.type "float")
 |lst {a:Addr} {xs:List V} (e:H a=some (.lst xs)):cy K H (.ref a) (.type "list")
 |ak {a:Addr} {o:Obj} {xs:List V} (e:H a=some (.ak o (.lst xs))):cy K H (.ref a) (.type "list")
 |tup {a:Addr} {xs:List V} (e:H a=some (.tup xs)):cy K H (.ref a) (.type "tuple")
 |dK {a:Addr} {kvs:List (Key×V)} (e:H a=some (.dK kvs)):cy K H (.ref a) (.type "dict")
 |dT {a:Addr} {kvs:List (List Key×V)} (e:H a=some (.dT kvs)):cy K H (.ref a) (.type "dict")
 |ins {a C dx:Addr} {fs:List (Str×V)} (e:H a=some (.ins C dx fs)) (cl:g9 K C) (ha:W.findIn K (.ref C) "__class__" = some (some (.builtin "object.__class__")))
  (hn:W.specialIn K (.builtin "object.__class__") "__get__" = some (some (.builtin "getset_descriptor.__get__"))) (htk:W.takesIn K (.builtin "object.__class__")=some true)
  (hm:W.mroIn K C (.type "object")=some true):cy K H (.ref a) (.ref C)
theorem ID{x:V}{u t:Value}(I:Inv X pins σ H s)(rx:RelV x u)(ty:cy X.K H x t)(e:W.kitOne X.K t c=some b)(h:∀ tk,Q (.bool b) { s with toks:=tk }) :
 wpAny (model X.prog X.w) A (call (.builtin "isinstance") [u,c]) Q E s:=by
 cases ty with
 |ao=>cases (show u=Value.none from rx);exact W.kia_one W.kitx_none I.bf True.intro e (fun z=>nomatch z) h
 |bl y=>cases (show u=Value.bool y from rx);exact W.kia_one W.kitx_bool I.bf True.intro e (fun z=>nomatch z) h
 |int i=>obtain⟨t,q⟩:=(show ∃ t,u=Value.int i t from rx);cases q;exact W.kia_one W.kitx_int I.bf True.intro e (fun z=>nomatch z) h
 |str y=>obtain⟨t,q⟩:=(show ∃ t,u=Value.str y t from rx);cases q;exact W.kia_one W.kitx_str I.bf True.intro e (fun z=>nomatch z) h
 |flt y=>obtain⟨t,q⟩:=(show ∃ t,u=Value.float y t from rx);cases q;exact W.kia_one W.kitx_float I.bf True.intro e (fun z=>nomatch z) h
 | @lst a xs ea =>
   cases (show u=Value.ref a from rx)
   obtain⟨_,_,n,_,h1⟩:=(show aD X.prog X.w H s.heap a (.lst xs) from I.hok a _ ea)
   exact W.kia_one W.kitx_list I.bf ⟨_,h1,rfl⟩ e (fun z=>nomatch z) h
 | @ak a ob xs ea =>
   cases (show u=Value.ref a from rx)
   obtain⟨_,_,_,n,_,h1⟩:=(show aD X.prog X.w H s.heap a (.ak ob (.lst xs)) from I.hok a _ ea)
   exact W.kia_one W.kitx_list I.bf ⟨_,h1,rfl⟩ e (fun z=>nomatch z) h
 | @tup a xs ea =>
   cases (show u=Value.ref a from rx)
   obtain⟨_,_,_,p⟩:=(show aD X.prog X.w H s.heap a (.tup xs) from I.hok a _ ea)
   obtain⟨o,h1,h2,_⟩:=p
   exact W.kia_one W.kitx_tuple I.bf ⟨o,h1,h2⟩ e (fun z=>nomatch z) h
 | @dK a kvs ea =>
   cases (show u=Value.ref a from rx)
   obtain⟨_,_,vs,_,p⟩:=(show aD X.prog X.w H s.heap a (.dK kvs) from I.hok a _ ea)
   obtain⟨o,es,ep,h1,h2,_⟩:=p
   exact W.kia_one W.kitx_dict I.bf ⟨o,h1,h2.1⟩ e (fun z=>nomatch z) h
 | @dT a kvs ea =>
   cases (show u=Value.ref a from rx)
   obtain⟨_,_,xs,_,o,es,ep,h1,h2,_⟩:=(show aD X.prog X.w H s.heap a (.dT kvs) from I.hok a _ ea)
   exact W.kia_one W.kitx_dict I.bf ⟨o,h1,h2.1⟩ e (fun z=>nomatch z) h
 | @ins a C dx fs ea cl ha hn htk hm =>
   cases (show u=Value.ref a from rx)
   obtain⟨mA,O,_⟩:=qJ I.hok ea
   obtain⟨od,J,_⟩:=O.look
   exact W.kia_one (W.kitx_own (cl.get _) cl.hd ha hn htk hm) I.bf J e (fun z=>nomatch z) h
end
structure ax(k:Nat)(A:Around):Prop where
 hd:A.handled=none
 dp:A.depth+3 * k+5<recursionLimit
 un:A.units+16 * k+200<cLine
 gd:A.guards=some []
theorem ax.mono{j k:Nat}{A:Around}(r:ax k A)(h:j<=k):ax j A:=⟨r.hd,by have:=r.dp;omega,by have:=r.un;omega,r.gd⟩
theorem ax.deeper{k:Nat}{A:Around}(r:ax (k+1) A)(env:Env):ax k (A.deeper env) :=
 ⟨r.hd,by have:=r.dp;show A.depth+1+3 * k+5<_;omega,by have:=r.un;show A.units+3+16 * k+200<_;omega,r.gd⟩
theorem IE{A:Around}{C:Addr}{us:List Value}{kw:List (Str×Value)}:(A.under (.builtin "type.__call__" ⟨.ref C::us,kw⟩)).depth=A.depth+1:=by
 first | rfl | simp[Around.under,Code.weight,Code.isCreation,Code.isGuard,Code.isCaller,Code.frames,Code.isFrame,guardIds]
theorem IF{A:Around}{C:Addr}{us:List Value}{kw:List (Str×Value)}:(A.under (.builtin "type.__call__" ⟨.ref C::us,kw⟩)).units=A.units+1:=by
 first | rfl | simp[Around.under,Code.cUnits,Code.frames,Code.isFrame]
theorem IG{A:Around}{C:Addr}{us:List Value}{kw:List (Str×Value)}(h:A.guards=some []):(A.under (.builtin "type.__call__" ⟨.ref C::us,kw⟩)).guards=some []:=by
 show pushGuards (Code.guards (.builtin "type.__call__" ⟨.ref C::us,kw⟩)) A.guards=some []
 rw[h];first | rfl | (simp[Code.guards,Code.isGuard,guardIds,pushGuards])
theorem ax.make{k:Nat}{A:Around}(r:ax (k+1) A)(C:Addr)(us:List Value)(kw:List (Str×Value)):ax k (A.under (.builtin "type.__call__" ⟨.ref C::us,kw⟩)) :=
 ⟨r.hd,by have:=r.dp;rw[IE];omega,by have:=r.un;rw[IF];omega,IG r.gd⟩
theorem ax.depth{k:Nat}{A:Around}(r:ax k A):A.depth<recursionLimit:=by have:=r.dp;omega
theorem ax.units{k:Nat}{A:Around}(r:ax k A):A.units+64<cLine:=by have:=r.un;omega
noncomputable def lL:TA:=fun _ H Q=>Q [] H
noncomputable def jD(ta:TE)(tr:TA):TA:=fun σ H Q=>ta σ H fun x H1=>tr σ H1 fun xs H2=>Q (x::xs) H2
section
variable{X:Cx}{e:Expr}{es:List Expr}{te:TE}{t:TA}{pos:Pos}
theorem dv:PA X [] lL:=fun _ _ _ _ H Q I h=>Calls.spliced_nil ⟨[],H,I,.nil,h⟩
theorem bp(ha:PE X e te)(hr:PA X es t)(hs:starEach (e::es) X.env=(false,eval e X.env)::starEach es X.env:=by rfl):PA X (e::es) (jD te t):=by
 intro pos pins s σ H Q I h
 rw[hs]
 show wpAny _ _ (spliced ((false,eval e X.env)::backTo pos (starEach es X.env))) _ _ s
 refine Calls.spliced_cons (aL (ha pins s σ H _ I h) fun u s1 ⟨x,H1,I1,r1,q1⟩=>?_)
 exact aL (hr pos pins s1 σ H1 _ I1 q1) fun us s2 ⟨xs,H2,I2,r2,q2⟩=>⟨x::xs,H2,I2,.cons r1 r2,q2⟩
noncomputable def B4(t:TA):TE:=fun σ H Q=>t σ H fun xs H1=>xs.length<=sizeLine/\∀ p,H1 p=none->Q (.ref p) (upd H1 p (.tup xs))
noncomputable def IH(t:TA):TE:=fun σ H Q=>t σ H fun xs H1=>xs.length<=sizeLine/\∀ p,H1 p=none->Q (.ref p) (upd H1 p (.lst xs))
theorem B5{x1}(h:PA X es t):PE X (.Tuple es x1 pos) (B4 t):=by
 intro pins s σ H Q I hq
 refine wpAny_Tuple_spliced (aL (h pos pins s σ H _ I hq) fun us s1 ⟨xs,H1,I1,r,z,q⟩=>⟨by rw[<- r.length];exact z,?_⟩)
 have hf:H1 s1.heap.objs.size=none:=I1.hok.fresh (Nat.le_refl _)
 refine⟨.ref s1.heap.objs.size,upd H1 s1.heap.objs.size (.tup xs),I1.laid (t':=s1.toks) (fun b u e=>Heap.get?_push_of_some _ e) (Nat.le_refl _) ?_,rfl,q _ hf⟩
 exact⟨z,us,r,⟨_,Heap.get?_push_size _ rfl,rfl,_,rfl⟩⟩
theorem II(h:PA X es t):PE X (.List es pos) (IH t):=by
 intro pins s σ H Q I hq
 refine wpAny_List_spliced (aL (h pos pins s σ H _ I hq) fun us s1 ⟨xs,H1,I1,r,z,q⟩=>⟨by rw[<- r.length];exact z,?_⟩)
 have hf:H1 s1.heap.objs.size=none:=I1.hok.fresh (Nat.le_refl _)
 refine⟨.ref s1.heap.objs.size,upd H1 s1.heap.objs.size (.lst xs),I1.laid (t':=s1.toks) (fun b u e=>Heap.get?_push_of_some _ e) (Nat.le_refl _) ?_,rfl,q _ hf⟩
 exact⟨z,us,0,r,Heap.get?_push_size _ rfl⟩
end
noncomputable abbrev Sp:=List V->Hp->VK->XK->Prop
noncomputable abbrev jc:=List Env->Hp->Shared->XK->Value->Shared->Prop
structure ip(P:Program)(w:World)(K:W.Frag)(mg:Str->Option Value)(base:Heap)(A:Around)(outer:List Env)(s:Shared)(H:Hp):Prop where
 frames:A.frames=some outer
 mod:Mod K mg base
 bs:∀ b o,base.get? b=some o->s.heap.get? b=some o/\H b=none
 iS:base.objs.size<=s.heap.objs.size
 cx:s.heap.FunFrames base outer
 jP:∀ b∈frs outer,H b=none
 hok:bZ P w H s.heap
 bare:AllBare s.gens
noncomputable def CE(outer:List Env)(P:Program)(w:World)(H:Hp)(s:Shared)(Q:VK)(u:Value)(s':Shared):Prop :=
 ∃ v H',s'.os=s.os/\AllBare s'.gens/\Un (frs outer) [] H H' s.heap s'.heap/\bZ P w H' s'.heap/\RelV v u/\Q v H'
noncomputable def CR(CX:jc)(outer:List Env)(P:Program)(w:World)(H:Hp)(s:Shared)(Q:VK)(E:XK)(r:Result)(s':Shared):Prop :=
 match r with
 | .ok (.ret u)=>CE outer P w H s Q u s'
 | .ok _=>False
 | .error e=>CX outer H s E e s'
structure a8(P:Program)(w:World)(K:W.Frag)(mg:Str->Option Value)(base:Heap)(CX:jc)(k:Nat)(f:Addr)(fd:FuncData)(ps:List Str)(sp:Sp):Prop where
 len:∀ vs H Q E,sp vs H Q E->vs.length=ps.length
 run:∀ (A:Around) (outer:List Env) (s:Shared) (H:Hp) (args:Args) (us:List Value) (vs:List V) (Q:VK) (E:XK),ax k A->ip P w K mg base A outer s H->BindsTo s fd args (ps.zip us)->Vals vs us->sp vs H Q E ->
  codeAny (model P w) A (.call (.ref f) args) (CR CX outer P w H s Q E) s
theorem a8.imp{P:Program}{w:World}{K:W.Frag}{mg:Str->Option Value}{base:Heap}{CX:jc}{k:Nat}{f:Addr}{fd:FuncData}{ps:List Str}{sp B6:Sp}(F:a8 P w K mg base CX k f fd ps sp)
 (h:∀ vs H Q E,B6 vs H Q E->sp vs H Q E):a8 P w K mg base CX k f fd ps B6 :=
 ⟨fun vs H Q E q=>F.len vs H Q E (h _ _ _ _ q),fun A outer s H args us vs Q E hr he hb hv hs=>F.run A outer s H args us vs Q E hr he hb hv (h _ _ _ _ hs)⟩
theorem ip.make{P:Program}{w:World}{K:W.Frag}{mg:Str->Option Value}{base:Heap}{A:Around}{outer:List Env}{s:Shared}{H:Hp}(e:ip P w K mg base A outer s H)(C:Addr)(us:List Value)(kw:List (Str×Value)) :
 ip P w K mg base (A.under (.builtin "type.__call__" ⟨.ref C::us,kw⟩)) outer s H:=⟨by first | exact e.frames | (simpa [Around.under,Code.envs,Code.isFrame,pushEnvs] using e.frames),e.mod,e.bs,e.iS,e.cx,e.jP,e.hok,e.bare⟩
section
variable{X:Cx}{pins:List (Addr×Obj)}{σ:St}{H:Hp}{s s':Shared}
theorem Inv.env0(I:Inv X pins σ H s):ip X.prog X.w X.K X.mg X.base X.A X.stack s H :=
 ⟨I.ok.frames,I.ok.mod,I.bs,Nat.le_trans I.ok.iS I.sz,I.stack,I.dP,I.hok,I.bare⟩
theorem Inv.after{Q:VK}{u:Value}(I:Inv X pins σ H s)(h:CE X.stack X.prog X.w H s Q u s'):EP X pins σ Q u s':=by
 obtain⟨v,H',os,bare,un,hok,r,q⟩:=h
 obtain⟨hh,g,d,t,os'⟩:=s'
 obtain rfl:os'=s.os:=os
 exact⟨v,H',I.call (h':=hh) (g':=g) (d':=d) (t':=t) (ch:=[]) un hok bare (fun b z=>absurd z (by simp)),r,q⟩
end
noncomputable def wY(sp:Sp)(dvs:List V)(E:XK)(t:TA):TE:=fun σ H Q=>t σ H fun vs H1=>sp (vs++dvs) H1 Q E
noncomputable def IJ(C:Addr)(m:Str)(sp:Sp)(dvs:List V)(E:XK)(ta:TE)(t:TA):TE:=fun σ H Q=>ta σ H fun x H1=>∃ a dx fs,x = .ref a/\H1 a=some (.ins C dx fs)/\fs.lookup m=none /\
 t σ H1 fun vs H2=>sp (x::(vs++dvs)) H2 Q E
noncomputable def Binds(K:W.Frag)(fd:FuncData)(ps:List Str)(ds:List Value):Prop :=
 ∀ (s:Shared) (us:List Value),K.In s.heap->(us++ds).length=ps.length->BindsTo s fd ⟨us,[]⟩ (ps.zip (us++ds))
theorem Binds.all{K:W.Frag}{fd:FuncData}{ps:List Str}(h:∀ us:List Value,us.length=ps.length->bindArgs fd ⟨us,[]⟩=pure (ps.zip us)):Binds K fd ps []:=fun s us _ hl=>by
 rw[List.append_nil] at hl ⊢
 exact .of_eq (h us hl)
noncomputable def t_(CX:jc)(X:Cx)(E:XK):Prop:=∀ (pins:List (Addr×Obj)) (σ:St) (H:Hp) (s:Shared) (e:Value) (s':Shared),Inv X pins σ H s->CX X.stack H s E e s'->X.xe e s'
section
variable{X:Cx}{CX:jc}{k:Nat}{f C:Addr}{fd:FuncData}{ps:List Str}{sp:Sp}{dvs:List V}{ds:List Value}{E:XK}{x m:Str}{p pos apos:Pos}{e o:Expr}{es:List Expr}{ta:TE}{t:TA}
theorem B7{pins:List (Addr×Obj)}{σ:St}{H:Hp}{s:Shared}{Q:VK}{us:List Value}{vs:List V}(F:a8 X.prog X.w X.K X.mg X.base CX k f fd ps sp)(hr:ax k X.A)(hb:Binds X.K fd ps ds)(hd:Vals dvs ds)(hx:t_ CX X E)
 (I:Inv X pins σ H s) (r:Vals vs us) (h:sp (vs++dvs) H Q E):wpAny (model X.prog X.w) X.A (call (.ref f) us) (EP X pins σ Q) X.xe s:=by
 have r2:Vals (vs++dvs) (us++ds):=r.append hd
 have hl:(us++ds).length=ps.length:=by rw[<- r2.length];exact F.len _ _ _ _ h
 refine wpAny_call (codeAny_mono (F.run X.A X.stack s H ⟨us,[]⟩ (us++ds) (vs++dvs) Q E hr I.env0 (hb s us I.bf hl) r2 h) fun r s' hq=>?_)
 cases r with
 |error e=>exact hx pins σ H s e s' I hq
 |ok fl =>
   cases fl with
   |ret u=>exact I.after hq
   |next=>exact False.elim hq
   |brk=>exact False.elim hq
   |cont=>exact False.elim hq
theorem B8(F:a8 X.prog X.w X.K X.mg X.base CX k f fd ps sp)(hr:ax k X.A)(hg:Gl X x)(hm:X.mg x=some (.ref f))(hk:W.keepIn X.K (.ref f)=true)(hb:Binds X.K fd ps ds)(hd:Vals dvs ds)(hx:t_ CX X E)
 (ha:PA X (e::es) t) (hdb:(x == ("__debug__" : Str))=false:=by decide) (he:starEach (e::es) X.env=(false,eval e X.env)::starEach es X.env:=by rfl) (hpl:(backTo pos (starEach es X.env)).any (·.1)=false:=by rfl) :
 PE X (.Call (.Name x p) (e::es) [] pos) (wY sp dvs E t):=by
 intro pins s σ H Q I h
 refine wpAny_Call_Name_kw (nP I hg hm ?_ hdb)
 refine W.callWith_K (h₀:=X.base) I.ok.mod.m8 hk (aL (ha pos pins s σ H _ I h) fun us s1 ⟨vs,H1,I1,r,q⟩=>⟨I1.bf,?_⟩) he hpl
 exact B7 F hr hb hd hx I1 r q
theorem IK{pl:Sem Bool}(he:PE X o ta)(c:g9 X.K C)(hm:Meth X.K C m f)(F:a8 X.prog X.w X.K X.mg X.base CX k f fd ps sp)(hr:ax k X.A)(hb:Binds X.K fd ps ds)(hd:Vals dvs ds)(hx:t_ CX X E)
 (ht:eval (.Call (.Attribute o m apos) [] [] pos) X.env=(do
  let ov <- eval o X.env
  standAt apos.atName
  let (f,first) <- holding [ov] (getMethod ov m pl)
  callWith pos f first (backTo pos (starEach [] X.env)) (backToKw pos (keywordEach [] X.env))):=by rfl) :
 PE X (.Call (.Attribute o m apos) [] [] pos) (IJ C m sp dvs E ta lL):=by
 intro pins s σ H Q I h
 refine W.methodCall_KW (pl:=pl) (aL (he pins s σ H _ I h) fun u s1 ⟨x,H1,I1,rx,a,dx,fs,ex,ea,l,q⟩=>?_) ht
 subst ex
 obtain rfl:u=Value.ref a:=rx
 refine Iw I1 ea c hm l ?_
 exact W.callWith_K0 (first:=[.ref a]) I1.bf hm.kp (B7 (us:=[.ref a]) (vs:=[.ref a]) F hr hb hd hx I1 (.cons rfl .nil) q)
structure Mk(K:W.Frag)(C f:Addr):Prop where
 makes:W.makesIn K C=true
 init:W.findIn K (.ref C) "__init__" = some (some (.ref f))
 fn:W.isFn K (.ref f)=true
 kp:W.keepIn K (.ref C)=true
end
noncomputable def PK(X:Cx)(kws:List Keyword)(t:TA):Prop :=
 ∀ (pos:Pos) (pins:List (Addr×Obj)) (s:Shared) (σ:St) (H:Hp) (Q:List V->Hp->Prop),Inv X pins σ H s->t σ H Q->wpAny (model X.prog X.w) X.A (evalAll ((backToKw pos (keywordEach kws X.env)).map (·.2))) (AP X pins σ Q) X.xe s
section
variable{X:Cx}{CX:jc}{k:Nat}{f C:Addr}{fd:FuncData}{ps ks:List Str}{sp:Sp}{E:XK}{x m:Str}{p pos apos kpos:Pos}{e o:Expr}{es:List Expr}{kws:List Keyword}{te ta:TE}{t tk:TA}{nm:Option Str}
theorem IL:PK X [] lL:=fun _ _ _ _ H Q I h=>wpAny_evalAll_nil ⟨[],H,I,.nil,h⟩
theorem IM(ha:PE X e te)(hr:PK X kws t):PK X (⟨nm,e,kpos⟩::kws) (jD te t):=by
 intro pos pins s σ H Q I h
 show wpAny _ _ (evalAll ((do let v <- eval e X.env;standAt pos;pure v)::(backToKw pos (keywordEach kws X.env)).map (·.2))) _ _ s
 refine wpAny_evalAll_cons (wpAny_bind (aL (ha pins s σ H _ I h) fun u s1 ⟨x,H1,I1,r1,q1⟩=>wpAny_bind (wpAny_standAt (wpAny_pure ?_))))
 exact aL (hr pos pins s1 σ H1 _ I1 q1) fun us s2 ⟨xs,H2,I2,r2,q2⟩=>⟨x::xs,H2,I2,.cons r1 r2,q2⟩
variable{g:List Value->List Value->List Value}{gV:List V->List V->List V}
end
structure aq(N P:List Str)(sc:Scope):Prop where
 kind:sc.kind = .function
 co:sc.isCoroutine=false
 gen:sc.isGenerator=false
 nd:N.Nodup
 pre:N.take P.length=P
 par:∀ x∈P,sc.names.lookup x=some .local\/sc.names.lookup x=some .cell
 nS:∀ y∈sc.names,y.2 ≠ .free
theorem B9{kindOf:Str->Option NameKind}{x:Str}:∀ {binds:List (Str×Value)} {m:Str->Option Value},(∀ v,(x,v) ∉ binds)->bindL kindOf binds m x=m x
 | [],_,_=>rfl
 | (n,v)::r,m,h=>by
   unfold bindL
   rw[B9 fun w hw=>h w (List.mem_cons_of_mem _ hw)]
   split
   · have:x≠n:=by rintro rfl;exact h v List.mem_cons_self
     simp[this]
   · rfl
theorem B_{kindOf:Str->Option NameKind}{x:Str}:∀ {binds:List (Str×Value)} {m:Str->Option Value},(∀ v,(x,v) ∉ binds)->bindC kindOf binds m x=m x
 | [],_,_=>rfl
 | (n,v)::r,m,h=>by
   unfold bindC
   rw[B_ fun w hw=>h w (List.mem_cons_of_mem _ hw)]
   split
   · rfl
   · have:x≠n:=by rintro rfl;exact h v List.mem_cons_self
     simp[this]
theorem Ca{kindOf:Str->Option NameKind}{x:Str}{v:Value}:∀ {P:List Str} {vs:List Value} {i:Nat} {m:Str->Option Value},P.Nodup->P[i]? = some x->vs[i]? = some v->kindOf x=some .local ->
 bindL kindOf (P.zip vs) m x=some v
 | [],_,_,_,_,h,_,_=>by simp at h
 | _::_,[],_,_,_,_,h,_=>by simp at h
 |p::P,w::vs,0,m,nd,h1,h2,hk=>by
   simp at h1 h2;subst h1;subst h2
   show bindL kindOf ((p,w)::P.zip vs) m p=_
   unfold bindL
   rw[B9 fun v hv=>(List.nodup_cons.mp nd).1 (List.of_mem_zip hv).1,if_pos hk]
   simp
 |p::P,w::vs,i+1,m,nd,h1,h2,hk=>by
   show bindL kindOf ((p,w)::P.zip vs) m x=_
   unfold bindL
   exact Ca (i:=i) (List.nodup_cons.mp nd).2 (by simpa using h1) (by simpa using h2) hk
theorem Cb{kindOf:Str->Option NameKind}{x:Str}{v:Value}:∀ {P:List Str} {vs:List Value} {i:Nat} {m:Str->Option Value},P.Nodup->P[i]? = some x->vs[i]? = some v->kindOf x≠some .local ->
 bindC kindOf (P.zip vs) m x=some v
 | [],_,_,_,_,h,_,_=>by simp at h
 | _::_,[],_,_,_,_,h,_=>by simp at h
 |p::P,w::vs,0,m,nd,h1,h2,hk=>by
   simp at h1 h2;subst h1;subst h2
   show bindC kindOf ((p,w)::P.zip vs) m p=_
   unfold bindC
   rw[B_ fun v hv=>(List.nodup_cons.mp nd).1 (List.of_mem_zip hv).1,if_neg hk]
   simp
 |p::P,w::vs,i+1,m,nd,h1,h2,hk=>by
   show bindC kindOf ((p,w)::P.zip vs) m x=_
   unfold bindC
   exact Cb (i:=i) (List.nodup_cons.mp nd).2 (by simpa using h1) (by simpa using h2) hk
noncomputable def start(N:List Str)(vs:List V):St:=vs.map some++List.replicate (N.length - vs.length) none
noncomputable def gj(CX:jc)(P:Program)(w:World)(K:W.Frag)(mg:Str->Option Value)(base:Heap)(N:List Str)(qual:Str)(scope:Scope)(f:Addr)(cd:Value)(A:Around)(outer:List Env)(s:Shared)(H:Hp)(E:XK):Cx where
 prog:=P
 w:=w
 K:=K
 mg:=mg
 base:=base
 A:=A.deeper (envOfC qual scope s.heap.objs.size f cd)
 N:=N
 s₀:=s
 H₀:=H
 env:=envOfC qual scope s.heap.objs.size f cd
 outer:=outer
 stack:=envOfC qual scope s.heap.objs.size f cd::outer
 ex:=[]
 calm:=true
 fn:=fun _=>true
 pn:=[]
 xe:=fun e s'=>wpAny (model P w) (A.deeper (envOfC qual scope s.heap.objs.size f cd)) (leaving (envOfC qual scope s.heap.objs.size f cd) e) (fun _ s''=>CX outer H s E e s'') (fun e' s''=>CX outer H s E e' s'') s'
theorem Cc{sc:Scope}{n:Nat}{x:Str}(h:sc.names.lookup x=some .cell):∃ c,(cellsFrom n sc.names []).lookup x=some c:=by
 have q:=W.cellsFrom_some sc.names n [] (.inl h)
 exact Option.isSome_iff_exists.mp q
theorem IP{CX:jc}{P:Program}{w:World}{K:W.Frag}{mg:Str->Option Value}{base:Heap}{N ps:List Str}{qual:Str}{scope:Scope}{f:Addr}{cd:Value}{A:Around}{outer:List Env}{s s1:Shared}{H:Hp}{E:XK}{us:List Value}{vs:List V}
 (S:aq N ps scope) (hd:A.handled=none) (e0:ip P w K mg base A outer s H) (hl:vs.length=ps.length) (r:Vals vs us)
 (x:InCallC s s.heap.objs.size (bindL (envOfC qual scope s.heap.objs.size f cd).kindOf (ps.zip us) fun _=>none) (cellsFrom (s.heap.objs.size+1) scope.names []) (bindC (envOfC qual scope s.heap.objs.size f cd).kindOf (ps.zip us) fun _=>none) s1) :
 Inv (gj CX P w K mg base N qual scope f cd A outer s H E) [] (start N vs) H s1:=by
 have hpl:ps.length<=N.length:=by have:=congrArg List.length S.pre;rw[List.length_take] at this;omega
 obtain⟨h1,tk,rfl,hk⟩:=x.done
 have qK:∀ b:Addr,b ∉ (gj CX P w K mg base N qual scope f cd A outer s H E).ex:=fun b z=>absurd (show b∈([]:List Addr) from z) (by simp)
 refine⟨⟨e0.mod,S.kind,rfl,rfl,Nat.le_refl _,fun y z c h1 h2=>?_,fun y hy=>?_,fun y c _ h=>?_,fun _=>hd,Around.frames_deeper e0.frames,.inr ⟨rfl,rfl⟩,fun b z=>absurd z (qK b),e0.bs,e0.iS,fun b _ _=>qK b,fun b z=>absurd z (qK b),e0.cx,e0.jP⟩,
  rfl,e0.bare,Un.kept hk,⟨_,x.toInCall.ns,fun i y v h1 h2 h3=>?_⟩,fun y c h=>⟨_,x.cell y c h⟩,e0.hok.fresh (Nat.le_refl _),fun y c h=>?_,fun p hp=>absurd (show p∈([]:List (Addr×Obj)) from hp) (by simp),e0.hok.kept hk,?_⟩
 · exact name_of_addr x.apart (PySem.mem_of_lookup h1) (PySem.mem_of_lookup h2)
 · have hy:scope.names.lookup y=some .cell\/scope.names.lookup y=some .free:=hy
   rcases hy with hy | hy
   · exact Cc hy
   · exact absurd rfl (S.nS _ (PySem.mem_of_lookup hy))
 · exact Nat.le_of_lt (x.above y c (PySem.mem_of_lookup h))
 · have hi:i<vs.length:=by
    unfold start at h2
    by_cases hi:i<vs.length
    · exact hi
    · rw[List.getElem?_append_right (by simpa using hi)] at h2
      rw[List.getElem?_replicate] at h2
      split at h2<;>cases h2
   have ha:vs[i]? = some v:=by
    unfold start at h2
    rw[List.getElem?_append_left (by simpa using hi),List.getElem?_map] at h2
    cases e:vs[i]? with
    |none=>rw[e] at h2;cases h2
    |some a=>rw[e] at h2;cases h2;rfl
   obtain⟨u,hu,rv⟩:=r.get ha
   have hp:ps[i]? = some y:=by
    rw[<- S.pre,List.getElem?_take_of_lt (by omega)];exact h1
   have Cd:ps.Nodup:=by rw[<- S.pre];exact S.nd.sublist (List.take_sublist _ _)
   refine⟨u,rv,?_⟩
   rcases S.par y (List.mem_of_getElem? hp) with k | k
   · exact .inl ⟨k,Ca Cd hp hu k⟩
   · obtain⟨c,e⟩:=Cc (n:=s.heap.objs.size+1) k
     refine .inr ⟨.inl k,c,e,?_⟩
     have q:=x.cell y c e
     rw[Cb Cd hp hu (by show scope.names.lookup y≠_;rw[k];decide)] at q
     exact q
 · exact e0.hok.fresh (Nat.le_of_lt (x.above y c (PySem.mem_of_lookup h)))
 · unfold start
   show _=N.length
   rw[List.length_append,List.length_map,List.length_replicate]
   omega
theorem wZ{CX:jc}{P:Program}{w:World}{K:W.Frag}{mg:Str->Option Value}{base:Heap}{k:Nat}{f:Addr}{name qual:Str}{params:Arguments}{body:List Stmt}{scope:Scope}{dV kV doc pm cdv ct oc:Value}{an od:Option Addr}
 {osl:Array (Option Value)} {N ps:List Str} {sp:Sp} (lk:K.lookup f=some ⟨oc,od,.func (W.fnOf name qual params body scope dV kV doc pm an cdv ct),osl⟩) (hcd:W.codeIn K cdv qual=true) (S:aq N ps scope)
 (len:∀ vs H Q E,sp vs H Q E->vs.length=ps.length)
 (hbody:∀ (A:Around) (outer:List Env) (s:Shared) (H:Hp) (vs:List V) (Q:VK) (E:XK),ax k (A.deeper (envOfC qual scope s.heap.objs.size f cdv))->sp vs H Q E ->
  ∃ t,PSs (gj CX P w K mg base N qual scope f cdv A outer s H E) body t/\t { nx:=fun _ H'=>Q .ao H',rt:=Q } (start N vs) H) :
 a8 P w K mg base CX (k+1) f (W.fnOf name qual params body scope dV kV doc pm an cdv ct) ps sp:=by
 refine⟨len,fun A outer s H args us vs Q E hr e0 hb r hsp=>?_⟩
 have hl:=len _ _ _ _ hsp
 have KX:K.In s.heap:=e0.mod.m8.keeps fun b o e=>(e0.bs b o e).1
 have lim:s.heap.NoLimit:=e0.mod.nolimit.keeps fun b o e=>(e0.bs b o e).1
 have hkind:∀ y∈ps.zip us,scope.names.lookup y.1=some .local\/(scope.names.lookup y.1=some .cell/\((cellsFrom (s.heap.objs.size+1) scope.names []).lookup y.1).isSome=true):=fun ⟨n,v⟩ hy=>by
  rcases S.par n (List.of_mem_zip hy).1 with q | q
  · exact .inl q
  · exact .inr ⟨q,W.cellsFrom_some _ _ _ (.inl q)⟩
 refine codeAny_call_function hr.depth (KX _ _ lk) rfl S.co S.gen rfl (W.codeRec_of KX hcd) (hb _ _ _ _ ?_)
 refine wpAny_newFunctionEnv_cells S.kind hkind fun env he s1 x=>?_
 subst he
 refine⟨lim.keeps x.toInCall.keep,codeAny_func ?_⟩
 obtain⟨t,ht,hq⟩:=hbody A outer s H vs Q E (hr.deeper _) hsp
 have I:Inv (gj CX P w K mg base N qual scope f cdv A outer s H E) [] (start N vs) H s1:=IP S hr.hd e0 hl r x
 refine wpAny_mono (ht [] s1 (start N vs) H _ I hq) (fun fl s' hs=>?_) fun e s' hs=>hs
 have fin:∀ {ay:St} {H':Hp} {v:V} {u:Value},Inv (gj CX P w K mg base N qual scope f cdv A outer s H E) [] ay H' s'->RelV v u->Q v H'->CE outer P w H s Q u s' :=
  fun {ay H' v u} J rv q=>⟨v,H',J.os,J.bare,J.base,J.hok,rv,q⟩
 cases fl with
 |ret u =>
   obtain⟨v,ay,H',J,rv,q⟩:=hs
   exact fin J rv q
 |next =>
   obtain⟨ay,H',J,q⟩:=hs
   exact fin (v:=V.ao) (u:=Value.none) J rfl q
 |brk =>
   obtain⟨_,_,_,q⟩:=hs
   exact False.elim q
 |cont =>
   obtain⟨_,_,_,q⟩:=hs
   exact False.elim q
section
variable{X:Cx}{x:Str}{p pos:Pos}{e:Expr}{es:List Expr}{t:TA}{id T:String}{r:List V->Hp->VK->Prop}
noncomputable def pj(r:List V->Hp->VK->Prop)(t:TA):TE:=fun σ H Q=>t σ H fun vs H1=>r vs H1 Q
theorem cz(hc:aS X (.builtin id) r)(hg:Gl X x)(hm:X.mg x=none)(hv:bootBuiltins x=some (.builtin id))(ha:PA X (e::es) t)(hn:x ≠ "__name__" := by decide)(hdb:(x == ("__debug__" : Str))=false:=by decide)
 (he:starEach (e::es) X.env=(false,eval e X.env)::starEach es X.env:=by rfl) (hpl:(backTo pos (starEach es X.env)).any (·.1)=false:=by rfl):PE X (.Call (.Name x p) (e::es) [] pos) (pj r t):=by
 intro pins s σ H Q I h
 refine wpAny_Call_Name_kw (o7 I hg hm hv ?_ hn hdb)
 exact PyProof.Rows.callWith_builtin1 (aL (ha pos pins s σ H _ I h) fun us s1 ⟨vs,H1,I1,r1,q1⟩=>hc pins s1 σ H1 vs us Q I1 r1 q1) he hpl
theorem nU(hc:aS X (.type T) r)(hg:Gl X x)(hm:X.mg x=none)(hv:bootBuiltins x=some (.type T))(ha:PA X (e::es) t)(hn:x ≠ "__name__" := by decide)(hdb:(x == ("__debug__" : Str))=false:=by decide)
 (he:starEach (e::es) X.env=(false,eval e X.env)::starEach es X.env:=by rfl) (hpl:(backTo pos (starEach es X.env)).any (·.1)=false:=by rfl):PE X (.Call (.Name x p) (e::es) [] pos) (pj r t):=by
 intro pins s σ H Q I h
 refine wpAny_Call_Name_kw (o7 I hg hm hv ?_ hn hdb)
 exact PyProof.Rows.callWith_type1 (aL (ha pos pins s σ H _ I h) fun us s1 ⟨vs,H1,I1,r1,q1⟩=>hc pins s1 σ H1 vs us Q I1 r1 q1) he hpl
end
end L2
namespace HT
open PySem PyProof.Rows
section
variable{prog:Program}{w:World}{A:Around}{E:Value->Shared->Prop}{s:Shared}
noncomputable def eU(n d:Nat):Option Int->Nat
 |none=>d
 |some v=>if v<0 then (v+(n:Int)).toNat else min v.toNat n
theorem iT(n d k:Nat):eU n d (some (k:Int))=min k n:=by
 show(if (k:Int)<0 then ((k:Int)+(n:Int)).toNat else min (k:Int).toNat n)=min k n
 rw[if_neg (by omega),Int.toNat_natCast]
end
end HT
namespace L2
open PySem PySem.Spec PyProof.Rows
noncomputable abbrev TO:=St->Hp->(Option Int->Hp->Prop)->Prop
noncomputable def PO(X:Cx)(e:Option Expr)(t:TO):Prop :=
 ∀ (pins:List (Addr×Obj)) (s:Shared) (σ:St) (H:Hp) (Q:Option Int->Hp->Prop),Inv X pins σ H s->t σ H Q ->
  wpAny (model X.prog X.w) X.A (evalPart e X.env) (fun u s'=>∃ o H',Inv X pins σ H' s'/\IsPart u o/\Q o H') X.xe s
noncomputable def IQ:TO:=fun _ H Q=>Q none H
noncomputable def IS(t:TE):TO:=fun σ H Q=>t σ H fun x H1=>∃ i,x = .int i/\Q (some i) H1
section
variable{X:Cx}{e:Expr}{te:TE}{lo hi:Option Expr}{tl th:TO}{pos p2:Pos}
theorem IT:PO X none IQ:=by
 intro pins s σ H Q I h
 rw[evalPart_none]
 exact wpAny_pure ⟨none,H,I,.none,h⟩
theorem IU(h:PE X e te):PO X (some e) (IS te):=by
 intro pins s σ H Q I hw
 rw[evalPart_some]
 refine aL (h pins s σ H _ I hw) fun u s1 ⟨x,H1,I1,r1,q1⟩=>?_
 obtain⟨i,rfl,q⟩:=q1
 obtain⟨t,rfl⟩:=r1
 exact⟨some i,H1,I1,.int i t,q⟩
noncomputable def kY(X:Cx)(r:V->Option Int->Option Int->Hp->VK->Prop):Prop :=
 ∀ (pins:List (Addr×Obj)) (s:Shared) (σ:St) (H:Hp) (x:V) (v vl vu:Value) (lo hi:Option Int) (sl:Addr) (Q:VK),Inv X pins σ H s->RelV x v->s.heap.IsSliceOf sl vl vu .none->IsPart vl lo->IsPart vu hi->r x lo hi H Q ->
  ∃ T id,typeLookup (.type T) "__getitem__" = pure (some (.builtin id))/\s.TypeIs v T/\wpAny (model X.prog X.w) X.A (getItem v (.ref sl)) (EP X pins σ Q) X.xe s
noncomputable def IV(r:V->Option Int->Option Int->Hp->VK->Prop)(te:TE)(tl th:TO):TE:=fun σ H Q=>te σ H fun x H1=>tl σ H1 fun l H2=>th σ H2 fun u H3=>r x l u H3 Q
theorem IW{r:V->Option Int->Option Int->Hp->VK->Prop}(hr:kY X r)(he:PE X e te)(hl:PO X lo tl)(hu:PO X hi th):PE X (.Subscript e (.Slice lo hi none p2) pos) (IV r te tl th):=by
 intro pins s σ H Q I h
 refine Subscript_ (aL (he pins s σ H _ I h) fun v s1 ⟨x,H1,I1,r1,q1⟩=>?_)
 refine wpAny_Slice (aL (hl pins s1 σ H1 _ I1 q1) fun vl s2 ⟨l,H2,I2,pl,q2⟩=>aL (hu pins s2 σ H2 _ I2 q2) fun vu s3 ⟨u,H3,I3,pu,q3⟩=>?_)
 rw[evalPart_none]
 refine wpAny_pure ?_
 have I4:Inv X pins σ H3 { s3 with heap:=s3.heap.push { cls:=.type "slice",data:=.fields #[vl,vu,.none] } }:=I3.kept (t':=s3.toks) fun b ob q=>Heap.get?_push_of_some _ q
 obtain⟨T,id,hT,ht,hg⟩:=hr pins { s3 with heap:=s3.heap.push { cls:=.type "slice",data:=.fields #[vl,vu,.none] } } σ H3 x v vl vu l u s3.heap.objs.size Q I4 r1 (Heap.IsSliceOf.new ..) pl pu q3
 show wpAny (model X.prog X.w) X.A (subscriptTail e (.Slice lo hi none p2) v (.ref s3.heap.objs.size)) (EP X pins σ Q) X.xe { s3 with heap:=s3.heap.push { cls:=.type "slice",data:=.fields #[vl,vu,.none] } }
 exact tail_any (ops:=[.ref s3.heap.objs.size,v]) ht hT hg (by with_unfolding_all rfl)
noncomputable def nV(xs:List V)(lo hi:Option Int):List V:=(xs.drop (HT.eU xs.length 0 lo)).take (HT.eU xs.length xs.length hi - HT.eU xs.length 0 lo)
theorem IX(xs:List V)(lo hi:Option Int):(nV xs lo hi).length<=xs.length:=by
 unfold nV
 rw[List.length_take,List.length_drop]
 omega
end
noncomputable def jd(n:Nat)(i:Int):Option Nat:=if 0<=i then (if i<n then some i.toNat else none) else if -(n:Int)<=i then some (i+n).toNat else none
noncomputable def cA{α:Type}(xs:List α)(i:Int):Option α:=(jd xs.length i).bind fun j=>xs[j]?
theorem Ce{n:Nat}{i:Int}{j:Nat}(h:jd n i=some j):seqIndex? i n=some j/\j<n /\ -(n:Int)<=i/\i<n:=by
 unfold jd at h
 by_cases h0:0<=i
 · rw[if_pos h0] at h
   by_cases h1:i<n
   · rw[if_pos h1] at h
     have e:i.toNat=j:=Option.some.inj h
     exact⟨by rw[seqIndex_of h0 h1,e],by omega,by omega,h1⟩
   · rw[if_neg h1] at h;cases h
 · rw[if_neg h0] at h
   by_cases h1 : -(n:Int)<=i
   · rw[if_pos h1] at h
     have e:(i+n).toNat=j:=Option.some.inj h
     exact⟨by rw[seqIndex_neg (by omega) h1,e],by omega,h1,by omega⟩
   · rw[if_neg h1] at h;cases h
theorem w4{α:Type}{xs:List α}{i:Int}{v:α}(h:cA xs i=some v):∃ j,seqIndex? i xs.length=some j/\xs[j]? = some v/\j<xs.length /\ -(xs.length:Int)<=i/\i<xs.length:=by
 unfold cA at h
 cases e:jd xs.length i with
 |none=>rw[e] at h;cases h
 |some j =>
   rw[e] at h
   obtain⟨h1,h2,h3,h4⟩:=Ce e
   exact⟨j,h1,h,h2,h3,h4⟩
theorem iU{α:Type}{xs:List α}{j:Nat}{v:α}(h:xs[j]? = some v):cA xs (j:Int)=some v:=by
 have hj:j<xs.length:=(List.getElem?_eq_some_iff.mp h).1
 have e:jd xs.length (j:Int)=some j:=by
  unfold jd
  rw[if_pos (by omega),if_pos (by omega)];simp
 unfold cA;rw[e];exact h
noncomputable def Cf(b:Expr):Prop:=∀ o i,subscripted b false o i=operate [o,i] (getItem o i)
noncomputable def lM(X:Cx)(r:R2):Prop :=
 ∀ (value slice:Expr) (pins:List (Addr×Obj)) (s:Shared) (σ:St) (H:Hp) (x y:V) (v u:Value) (Q:VK),Inv X pins σ H s->RelV x v->RelV y u->r x y H Q ->
  subscripted slice false v u=operate [v,u] (getItem v u)->wpAny (model X.prog X.w) X.A (subscriptTail value slice v u) (EP X pins σ Q) X.xe s
noncomputable def ua(X:Cx)(id:String)(r:V->List V->Hp->VK->Prop):Prop :=
 ∀ (pins:List (Addr×Obj)) (s:Shared) (σ:St) (H:Hp) (x:V) (xs:List V) (v:Value) (us:List Value) (Q:VK),Inv X pins σ H s->RelV x v->Vals xs us->r x xs H Q ->
  wpAny (model X.prog X.w) X.A (call (.builtin id) (v::us)) (EP X pins σ Q) X.xe s
section
variable{X:Cx}{a b:Expr}{ta tb:TE}{pos:Pos}
theorem lM.or{r r':R2}(h:lM X r)(h':lM X r'):lM X (fun x y H Q=>r x y H Q\/r' x y H Q):=by
 intro value slice pins s σ H x y v u Q I rx ry q hs
 rcases q with q | q
 · exact h value slice pins s σ H x y v u Q I rx ry q hs
 · exact h' value slice pins s σ H x y v u Q I rx ry q hs
theorem IZ{r:R2}(hr:lM X r)(ha:PE X a ta)(hb:PE X b tb)(hs:Cf b):PE X (.Subscript a b pos) (qH r ta tb):=by
 intro pins s σ H Q I h
 exact Subscript_ (wQ ha hb I h fun v u s2 x y H2 I2 rx ry q=>hr a b pins s2 σ H2 x y v u Q I2 rx ry q (hs _ _))
noncomputable def Cg(K:W.Frag):R2:=fun x y H Q=>∃ p xs i v,x = .ref p/\y = .int i/\bP K H p xs/\cA xs i=some v/\Q v H
noncomputable def Ci(K:W.Frag):R2:=fun x y H Q=>∃ p xs i v,x = .ref p/\y = .int i/\cV K H p xs/\cA xs i=some v/\Q v H
noncomputable def Cj:R2:=fun x y H Q=>∃ z i c,x = .str z/\y = .int i/\z.length<=sizeLine/\cA z.cps.toList i=some c/\Q (.str ⟨#[c]⟩) H
theorem lN:lM X (Cg X.K):=by
 intro value slice pins s σ H x y v u Q I rx ry h hs
 obtain⟨p,xs,i,z,rfl,rfl,hq,he,q⟩:=h
 cases rx
 obtain⟨t,rfl⟩:=ry
 obtain⟨its,r,pl,hz⟩:=I.list hq
 obtain⟨j,h1,h2,h3,h4,h5⟩:=w4 he
 obtain⟨w,ew,rw'⟩:=r.get h2
 have hl:=r.length
 have hn:=ph
 have fin:EP X pins σ Q w s:=⟨z,H,I,rw',q⟩
 by_cases h0:0<=i
 · have hj:i.toNat=j:=by
    rw[seqIndex_of h0 h5] at h1
    exact Option.some.inj h1
   exact item_listR pl.isList h0 (by omega) (by rw[hj];simpa using ew) fin hs
 · have hj:(i+(its.toArray.size:Int)).toNat=j:=by
    rw[seqIndex_neg (by omega) h4] at h1
    rw[List.size_toArray, <- hl]
    exact Option.some.inj h1
   exact subscriptTail_builtinR (x:=w) pl.isList.typeIs slot_list_getitem.lookup
    (wpAny_getItem_list_neg (Q:=fun r s'=>r=w/\EP X pins σ Q r s') pl.isList (by omega) (by rw[List.size_toArray]<;>omega) (by omega) (by rw[hj];simpa using ew) ⟨rfl,fin⟩) hs
theorem nW:lM X (Ci X.K):=by
 intro value slice pins s σ H x y v u Q I rx ry h hs
 obtain⟨p,xs,i,z,rfl,rfl,hq,he,q⟩:=h
 cases rx
 obtain⟨t,rfl⟩:=ry
 obtain⟨its,r,pl,hz⟩:=I.tuple hq
 obtain⟨j,h1,h2,h3,h4,h5⟩:=w4 he
 obtain⟨w,ew,rw'⟩:=r.get h2
 have hl:=r.length
 have hn:=ph
 have fin:EP X pins σ Q w s:=⟨z,H,I,rw',q⟩
 exact subscriptTail_builtinR (x:=w) pl.typeIs slot_tuple_getitem.lookup
  (getItem_tuple (j:=j) (Q:=fun r s'=>r=w/\EP X pins σ Q r s') pl (by omega) (by omega) (by rw[List.size_toArray, <- hl];exact h1) (by simpa using ew) ⟨rfl,fin⟩) hs
theorem I0:lM X Cj:=by
 intro value slice pins s σ H x y v u Q I rx ry h hs
 obtain⟨z,i,c,rfl,rfl,hz,he,q⟩:=h
 obtain⟨t,rfl⟩:=rx
 obtain⟨t',rfl⟩:=ry
 obtain⟨j,h1,h2,h3,h4,h5⟩:=w4 he
 have hl:z.cps.toList.length=z.length:=by simp[Str.length]
 rw[hl] at h1 h4 h5
 have hn:=ph
 exact tail_any (typeIs_str s z t) slot_str_getitem.lookup (getItem_str (c:=c) (by
  have e1:decide (i < -(2 ^ 63:Int))=false:=decide_eq_false (by omega)
  have e2:decide (i ≥ 2 ^ 63)=false:=decide_eq_false (by omega)
  rw[e1,e2,Bool.or_false]) (by rw[h1];simpa using h2) ⟨.str ⟨#[c]⟩,H,I.tok _,⟨_,rfl⟩,q⟩) hs
noncomputable def Ck(K:W.Frag):R2:=fun x y H Q=>Cg K x y H Q\/Ci K x y H Q\/Cj x y H Q
theorem I8:lM X (Ck X.K):=lN.or (nW.or I0)
theorem I9(its:List Value)(n j:Nat)(u:Value):Obj.mapSeq (·.setIfInBounds j u) { cls:=.type "list",data:=.seq its.toArray n }={ cls:=.type "list",data:=.seq (its.set j u).toArray n }:=by
 simp[Obj.mapSeq]
theorem Inv.lst{pins:List (Addr×Obj)}{σ:St}{H:Hp}{s:Shared}{p:Addr}{xs:List V}(I:Inv X pins σ H s)(h:H p=some (.lst xs)) :
 ∃ (its:List Value) (n:Nat),Vals xs its/\s.heap.get? p=some { cls:=.type "list",data:=.seq its.toArray n }/\xs.length<=sizeLine:=by
 obtain⟨z,its,n,r,e⟩:=I.hok p _ h
 exact⟨its,n,r,e,z⟩
theorem Inv.nZ{pins:List (Addr×Obj)}{σ:St}{H:Hp}{s:Shared}{p:Addr}{xs ys:List V}{its its':List Value}{n n':Nat}{f:Obj->Obj}(I:Inv X pins σ H s)(h:H p=some (.lst xs))
 (ho:s.heap.get? p=some { cls:=.type "list",data:=.seq its.toArray n }) (hf:f { cls:=.type "list",data:=.seq its.toArray n }={ cls:=.type "list",data:=.seq its'.toArray n' }) (r:Vals ys its') (hz:ys.length<=sizeLine) (t:Nat) :
 Inv X pins σ (upd H p (.lst ys)) { s with heap:=s.heap.update p f,toks:=t }:=by
 have e:(s.heap.update p f).get? p=some { cls:=.type "list",data:=.seq its'.toArray n' }:=by
  rw[Heap.get?_update_self f ho (by rw[hf]<;>rfl),hf]
 refine I.write (x:=p) (e:=p) (by rw[h];trivial) (.inl rfl) (fun b u hb q=>(Heap.get?_update_other _ _ (Ne.symm hb)).trans q) ⟨_,e⟩ ?_
 exact⟨hz,its',n',r,e⟩
noncomputable def Cm:V->V->V->Hp->(Hp->Prop)->Prop:=fun o i v H Q=>∃ p xs k j,o = .ref p/\i = .int k/\H p=some (.lst xs)/\jd xs.length k=some j/\Q (upd H p (.lst (xs.set j v)))
theorem set_list:By X Cm:=by
 intro pins s σ H o i v ov iv u Q I ro ri rv h
 obtain⟨p,xs,k,j,rfl,rfl,hp,hj,q⟩:=h
 cases ro
 obtain⟨t,rfl⟩:=ri
 obtain⟨its,n,r,ho,hz⟩:=I.lst hp
 obtain⟨h1,h2,h3,h4⟩:=Ce hj
 have hl:=r.length
 have hn:=ph
 have I':Inv X pins σ (upd H p (.lst (xs.set j v))) { s with heap:=s.heap.update p (Obj.mapSeq (·.setIfInBounds j u)) } :=
  I.nZ hp ho (I9 its n j u) (r.set rv j) (by rw[List.length_set];exact hz) s.toks
 by_cases h0:0<=k
 · have hk:k.toNat=j:=by
    rw[seqIndex_of h0 h4] at h1
    exact Option.some.inj h1
   exact W.ki_setAt ho h0 (by omega) (by rw[List.size_toArray, <- hl];exact h4) (by rw[hk];exact⟨_,I',q⟩)
 · have hk:(k+(its.toArray.size:Int)).toNat=j:=by
    rw[seqIndex_neg (by omega) h3] at h1
    rw[List.size_toArray, <- hl]
    exact Option.some.inj h1
   exact W.ki_setBack ho (by omega) (by rw[List.size_toArray, <- hl];exact h3) (by omega) (by rw[hk];exact⟨_,I',q⟩)
theorem I_(lo hi:Option Int)(n:Nat):(sliceBounds lo hi none n).1=((HT.eU n 0 lo:Nat):Int)/\(sliceBounds lo hi none n).2.1=((HT.eU n n hi:Nat):Int)/\(sliceBounds lo hi none n).2.2=1:=by
 refine⟨?_,?_,rfl⟩
 · cases lo with
   |none=>simp[sliceBounds,HT.eU]
   |some i =>
     simp only[sliceBounds,HT.eU,Option.getD_none,show(1:Int) > 0 by decide,if_true]
     by_cases h:i<0
     · simp only[h,if_true]<;>omega
     · simp only[h,if_false]<;>omega
 · cases hi with
   |none=>simp[sliceBounds,HT.eU]
   |some i =>
     simp only[sliceBounds,HT.eU,Option.getD_none,show(1:Int) > 0 by decide,if_true]
     by_cases h:i<0
     · simp only[h,if_true]<;>omega
     · simp only[h,if_false]<;>omega
theorem Ja(its:List Value)(lo hi:Option Int):slicePick its.toArray lo hi none=((its.drop (HT.eU its.length 0 lo)).take (HT.eU its.length its.length hi - HT.eU its.length 0 lo)).toArray:=by
 obtain⟨h1,h2,h3⟩:=I_ lo hi its.toArray.size
 unfold slicePick
 rw[h1,h2,h3]
 simp only[sliceRange_one,pick_run,List.size_toArray]<;>rfl
noncomputable def Jb(K:W.Frag):V->Option Int->Option Int->Hp->VK->Prop:=fun x lo hi H Q=>∃ a xs,x = .ref a/\bP K H a xs/\∀ p,H p=none->Q (.ref p) (upd H p (.lst (nV xs lo hi)))
theorem Jc:kY X (Jb X.K):=by
 intro pins s σ H x v vl vu lo hi sl Q I rx hs pl pu h
 obtain⟨a,xs,rfl,hx,q⟩:=h
 cases rx
 obtain⟨its,r,ht,hz⟩:=I.list hx
 have hlen:=r.length
 refine⟨"list",_,slot_list_getitem.lookup,ht.isList.typeIs,?_⟩
 refine wpAny_getItem_list_slice ht.isList hs pl pu .none (by simp) ?_ (by rw[List.size_toArray]<;>omega)
 rw[Ja, <- hlen]
 refine⟨.ref s.heap.objs.size,_,I.laid (t':=s.toks) (o:=.lst (nV xs lo hi)) (fun b ob q=>Heap.get?_push_of_some _ q) (Nat.le_refl _) ?_,rfl,q _ (I.hok.fresh (Nat.le_refl _))⟩
 exact⟨Nat.le_trans (IX xs lo hi) hz,_,0,(r.drop (HT.eU xs.length 0 lo)).take (HT.eU xs.length xs.length hi - HT.eU xs.length 0 lo),Heap.get?_push_size _ rfl⟩
noncomputable def je:V->Bool
 | .ao=>true
 | .bl _=>true
 | .int _=>true
 | .str _=>true
 | _=>false
noncomputable def iq:V->V->Bool
 | .ao,.ao=>true
 | .bl a,.bl b=>a == b
 | .bl a,.int b=>(if a then 1 else 0) == b
 | .int a,.bl b=>a == (if b then 1 else 0)
 | .int a,.int b=>a == b
 | .str a,.str b=>a == b
 | _,_=>false
theorem Jd{A:Around}{s:Shared}{y x:V}{u v:Value}(ry:RelV y u)(rx:RelV x v)(fy:je y=true)(fx:je x=true):SeqAt.EqAt A s u v (iq y x):=by
 cases y with
 |ao =>
   cases ry
   cases x with
   |ao=>cases rx;exact SeqAt.EqAt.same _
   |bl b=>cases rx;exact SeqAt.EqAt.none_bool b
   |int b=>obtain⟨t,rfl⟩:=rx;exact SeqAt.EqAt.none_int b t
   |str b=>obtain⟨t,rfl⟩:=rx;exact SeqAt.EqAt.none_str b t
   | _=>exact absurd (show false=true from fx) Bool.false_ne_true
 |bl a =>
   cases ry
   cases x with
   |ao=>cases rx;exact SeqAt.EqAt.bool_none a
   |bl b=>cases rx;exact SeqAt.EqAt.bool_bool a b
   |int b=>obtain⟨t,rfl⟩:=rx;exact SeqAt.EqAt.bool_int a b t
   |str b=>obtain⟨t,rfl⟩:=rx;exact SeqAt.EqAt.bool_str a b t
   | _=>exact absurd (show false=true from fx) Bool.false_ne_true
 |int a =>
   obtain⟨t',rfl⟩:=ry
   cases x with
   |ao=>cases rx;exact SeqAt.EqAt.int_none a t'
   |bl b=>cases rx;exact SeqAt.EqAt.int_bool a t' b
   |int b=>obtain⟨t,rfl⟩:=rx;exact SeqAt.EqAt.int_int a t' b t
   |str b=>obtain⟨t,rfl⟩:=rx;exact SeqAt.EqAt.int_str a t' b t
   | _=>exact absurd (show false=true from fx) Bool.false_ne_true
 |str a =>
   obtain⟨t',rfl⟩:=ry
   cases x with
   |ao=>cases rx;exact SeqAt.EqAt.str_none a t'
   |bl b=>cases rx;exact SeqAt.EqAt.str_bool a t' b
   |int b=>obtain⟨t,rfl⟩:=rx;exact SeqAt.EqAt.str_int a t' b t
   |str b=>obtain⟨t,rfl⟩:=rx;exact SeqAt.EqAt.str_str a t' b t
   | _=>exact absurd (show false=true from fx) Bool.false_ne_true
 | _=>exact absurd (show false=true from fy) Bool.false_ne_true
noncomputable def pq(x:V)(u:Value):Bool:=match u with
 | .none=>iq .ao x
 | .bool b=>iq (.bl b) x
 | .int i _=>iq (.int i) x
 | .str z _=>iq (.str z) x
 | _=>false
theorem w5{x y:V}{u:Value}(r:RelV y u)(f:je y=true):pq x u=iq y x:=by
 cases y with
 |ao=>cases r;rfl
 |bl b=>cases r;rfl
 |int i=>obtain⟨t,rfl⟩:=r;rfl
 |str z=>obtain⟨t,rfl⟩:=r;rfl
 | _=>exact absurd (show false=true from f) Bool.false_ne_true
theorem w6{A:Around}{s:Shared}{x:V}{v:Value}(rx:RelV x v)(fx:je x=true):∀ {xs:List V} {us:List Value},Vals xs us->xs.all je=true->∀ u∈us,SeqAt.EqAt A s u v (pq x u)
 | _,_,.nil,_=>fun u hu=>by cases hu
 |y::xs,u::us,.cons r t,f=>fun u' hu=>by
   rw[List.all_cons,Bool.and_eq_true] at f
   rcases List.mem_cons.mp hu with rfl | hu
   · rw[w5 r f.1];exact Jd r rx f.1 fx
   · exact w6 rx fx t f.2 u' hu
theorem fN:aS X (.builtin "len") (fun xs H Q=>∃ p ys,xs=[.ref p]/\(bP X.K H p ys\/cV X.K H p ys)/\Q (.int ys.length) H):=by
 intro pins s σ H xs us Q I r h
 obtain⟨p,ys,rfl,hq,q⟩:=h
 obtain⟨u,rfl,rx⟩:=vals1 r
 cases rx
 have hn:=ph
 rcases hq with hq | hq
 · obtain⟨its,r',pl,hz⟩:=I.list hq
   have hlen:=r'.length
   exact Calls.call_len_list pl.isList (by simp only[List.size_toArray]<;>omega) ⟨.int ys.length,H,I.tok _,⟨s.toks+1,by rw[List.size_toArray,hlen]⟩,q⟩
 · obtain⟨its,r',pl,hz⟩:=I.tuple hq
   have hlen:=r'.length
   exact len_tuple pl (by simp only[List.size_toArray]<;>omega) ⟨.int ys.length,H,I.tok _,⟨s.toks+1,by rw[List.size_toArray,hlen]⟩,q⟩
theorem Je:aS X (.builtin "len") (fun xs H Q=>∃ z,xs=[.str z]/\z.length<=sizeLine/\Q (.int z.length) H):=by
 intro pins s σ H xs us Q I r h
 obtain⟨z,rfl,hz,q⟩:=h
 obtain⟨u,rfl,t,rfl⟩:=vals1 r
 have hn:=ph
 exact len_str (by omega) ⟨.int z.length,H,I.tok _,⟨_,rfl⟩,q⟩
theorem aS.or{f:Value}{r r':List V->Hp->VK->Prop}(h:aS X f r)(h':aS X f r'):aS X f (fun xs H Q=>r xs H Q\/r' xs H Q):=by
 intro pins s σ H xs us Q I rs q
 rcases q with q | q
 · exact h pins s σ H xs us Q I rs q
 · exact h' pins s σ H xs us Q I rs q
theorem Co:aS X (.type "list") (fun xs H Q=>∃ p ys,xs=[.ref p]/\(bP X.K H p ys\/cV X.K H p ys)/\∀ l,H l=none->Q (.ref l) (upd H l (.lst ys))):=by
 intro pins s σ H xs us Q I r h
 obtain⟨p,ys,rfl,hq,q⟩:=h
 obtain⟨u,rfl,rx⟩:=vals1 r
 cases rx
 have fin:∀ (its:List Value),Vals ys its->ys.length<=sizeLine->∀ (h':Heap) (c':Nat),(∀ b o',s.heap.get? b=some o'->h'.get? b=some o') ->
  h'.get? s.heap.objs.size=some { cls:=.type "list",dict:=none,data:=.seq its.toArray c',slots := #[] }->EP X pins σ Q (.ref s.heap.objs.size) { s with heap:=h' }:=fun its r' hz h' c' kp e =>
  ⟨.ref s.heap.objs.size,_,I.laid (t':=s.toks) kp (Nat.le_refl _) (show aD X.prog X.w _ h' _ (.lst ys) from⟨hz,its,c',r',e⟩),rfl,q _ (I.hok.fresh (Nat.le_refl _))⟩
 rcases hq with hq | hq
 · obtain⟨its,r',pl,hz⟩:=I.list hq
   have hlen:=r'.length
   obtain⟨o,ho,hc,n,hd⟩:=pl.isList
   exact call_list_seq p (.inl rfl) ho hc hd (fun h' c' kp e=>fin its r' hz h' c' kp e) (by simp only[List.size_toArray]<;>omega)
 · obtain⟨its,r',pl,hz⟩:=I.tuple hq
   have hlen:=r'.length
   obtain⟨o,ho,hc,n,hd⟩:=pl
   exact call_list_seq p (.inr rfl) ho hc hd (fun h' c' kp e=>fin its r' hz h' c' kp e) (by simp only[List.size_toArray]<;>omega)
theorem Cp:aS X (.type "tuple") (fun xs H Q=>∃ p ys,xs=[.ref p]/\((bP X.K H p ys/\∀ l,H l=none->Q (.ref l) (upd H l (.tup ys)))\/(cV X.K H p ys/\Q (.ref p) H))):=by
 intro pins s σ H xs us Q I r h
 obtain⟨p,ys,rfl,h⟩:=h
 obtain⟨u,rfl,rx⟩:=vals1 r
 cases rx
 rcases h with ⟨hq,q⟩ | ⟨hq,q⟩
 · obtain⟨its,r',pl,hz⟩:=I.list hq
   have hlen:=r'.length
   refine call_tuple_list pl.isList (fun h' kp=>?_) (by simp only[List.size_toArray]<;>omega)
   have I1:Inv X pins σ H { s with heap:=h' }:=I.kept (t':=s.toks) kp
   have I2:Inv X pins σ (upd H h'.objs.size (.tup ys)) { s with heap:=h'.push { cls:=.type "tuple",data:=.seq its.toArray } } :=
    I1.laid (t':=s.toks) (fun b o e=>Heap.get?_push_of_some _ e) (Nat.le_refl _) (show aD X.prog X.w _ _ _ (.tup ys) from⟨hz,its,r',IsTup.new _ _⟩)
   exact⟨.ref h'.objs.size,_,I2,rfl,q _ (I1.hok.fresh (Nat.le_refl _))⟩
 · obtain⟨its,r',pl,hz⟩:=I.tuple hq
   exact call_tuple_same pl ⟨.ref p,H,I,rfl,q⟩
noncomputable def ub(K:W.Frag)(T:String)(x:V)(H:Hp):Prop:=match x with
 | .str _=>T = "str"
 | .int _=>T = "int"
 | .ref p=>(T = "list" /\ ∃ xs,bP K H p xs)\/(T = "tuple" /\ ∃ o,K.lookup p=some o/\o.cls = .type "tuple" /\ o.dict=none) \/
  (T = "dict" /\ ((∃ kvs,H p=some (.dK kvs))\/∃ kvs,H p=some (.dT kvs)))\/(T = "set" /\ ∃ S n,H p=some (.set S n))
 | _=>False
theorem Cq{pins:List (Addr×Obj)}{σ:St}{H:Hp}{s:Shared}{T:String}{x:V}{v:Value}(I:Inv X pins σ H s)(r:RelV x v)(ty:ub X.K T x H) :
 s.TypeIs v T/\∀ a,v = .ref a->∃ ob,s.heap.get? a=some ob/\ob.dict=none:=by
 cases x with
 |str z =>
   obtain⟨t,rfl⟩:=r
   cases (show T = "str" from ty)
   exact⟨typeIs_str s z t,fun _ e=>nomatch e⟩
 |int i =>
   obtain⟨t,rfl⟩:=r
   cases (show T = "int" from ty)
   exact⟨typeIs_int s i t,fun _ e=>nomatch e⟩
 |ref p =>
   cases r
   rcases ty with ⟨rfl,xs,hq⟩ | ⟨rfl,o,hk,hc,hd⟩ | ⟨rfl,hk⟩ | ⟨rfl,S,n,hk⟩
   · obtain⟨its,_,pl,_⟩:=I.list hq
     refine⟨pl.isList.typeIs,fun a e=>?_⟩
     cases e
     obtain⟨o,n,e,c,hd,_⟩:=pl
     exact⟨o,e,hd⟩
   · refine⟨⟨o,I.bf p o hk,hc⟩,fun a e=>?_⟩
     cases e
     exact⟨o,I.bf _ o hk,hd⟩
   · have z:∃ o,s.heap.get? p=some o/\o.ExactDict:=by
      rcases hk with ⟨kvs,hk⟩ | ⟨kvs,hk⟩
      · obtain⟨_,_,_,_,o,_,_,e,ex,_⟩:=I.hok p _ hk
        exact⟨o,e,ex⟩
      · obtain⟨_,_,_,_,o,_,_,e,ex,_⟩:=I.hok p _ hk
        exact⟨o,e,ex⟩
     obtain⟨o,e,ex⟩:=z
     refine⟨⟨o,e,ex.1⟩,fun a e2=>?_⟩
     cases e2
     exact⟨o,e,ex.2.1⟩
   · obtain⟨o,_,_,_,e,ex,_⟩:=I.hok p _ hk
     refine⟨⟨o,e,ex.1⟩,fun a e2=>?_⟩
     cases e2
     exact⟨o,e,ex.2.1⟩
 | _=>exact False.elim ty
noncomputable def Cr(K:W.Frag)(T:String)(r:V->List V->Hp->VK->Prop)(to:TE):TE:=fun σ H Q=>to σ H fun x H1=>ub K T x H1/\r x [] H1 Q
noncomputable def w_(K:W.Frag)(T:String)(r:V->List V->Hp->VK->Prop)(to:TE)(t:TA):TE:=fun σ H Q=>to σ H fun x H1=>ub K T x H1/\t σ H1 fun xs H2=>r x xs H2 Q
variable{o e:Expr}{es:List Expr}{to:TE}{t:TA}{name:Str}{apos cpos:Pos}{T id:String}{r:V->List V->Hp->VK->Prop}
theorem Jf(pa:PlainAttrs T)(slot:Slot T name id)(hty:typeOf (.builtin id)=pure (.type "method_descriptor"))(hm:ua X id r)(ho:PE X o to)
 (hbase:attributeBase o name X.env (eval o X.env)=eval o X.env:=by rfl) (hline:(apos.endLine == cpos.line)=true:=by rfl):PE X (.Call (.Attribute o name apos) [] [] cpos) (Cr X.K T r to):=by
 intro pins s σ H Q I h
 refine wpAny_Call_method0_late hbase hline (aL (ho pins s σ H _ I h) fun v s1 ⟨x,H1,I1,r1,ty,q1⟩=>?_)
 obtain⟨h1,h2⟩:=Cq I1 r1 ty
 exact⟨T,id,pa,slot,hty,h1,h2,Calls.callWith_builtin rfl (PySem.evalArgs_none (hm pins s1 σ H1 x [] v [] Q I1 r1 .nil q1))⟩
theorem uc(pa:PlainAttrs T)(slot:Slot T name id)(hty:typeOf (.builtin id)=pure (.type "method_descriptor"))(hm:ua X id r)(ho:PE X o to)(ha:PA X (e::es) t)
 (hbase:attributeBase o name X.env (eval o X.env)=eval o X.env:=by rfl)
 (hfew:((backTo cpos (starEach (e::es) X.env)).all (fun x => !x.1) && (backToKw cpos (keywordEach [] X.env)).all (fun x=>x.1.isSome)
  && decide ((e::es).length+([]:List Keyword).length+(if ([]:List Keyword).isEmpty then 0 else 1)<30))=true:=by rfl)
 (hline:(apos.endLine == cpos.line)=true:=by rfl) (hs:starEach (e::es) X.env=(false,eval e X.env)::starEach es X.env:=by rfl) (hplain:(backTo cpos (starEach es X.env)).any (·.1)=false:=by rfl) :
 PE X (.Call (.Attribute o name apos) (e::es) [] cpos) (w_ X.K T r to t):=by
 intro pins s σ H Q I h
 refine wpAny_Call_method_late hbase hfew hline rfl (aL (ho pins s σ H _ I h) fun v s1 ⟨x,H1,I1,r1,ty,q1⟩=>?_)
 obtain⟨h1,h2⟩:=Cq I1 r1 ty
 refine⟨T,id,pa,slot,hty,h1,h2,?_⟩
 have hA:=ha cpos pins s1 σ H1 _ I1 q1
 rw[hs] at hA ⊢
 refine Calls.callWith_builtin (by show(false || (backTo cpos (starEach es X.env)).any (·.1))=false;rw[hplain]<;>rfl) (Calls.evalArgs_plain ?_)
 exact aL hA fun us s2 ⟨vs,H2,I2,r2,q2⟩=>hm pins s2 σ H2 x vs v us Q I2 r1 r2 q2
end
noncomputable def Cs(X:Cx)(id:String)(r:V->List V->Hp->VK->Prop):Prop :=
 ∀ (pins:List (Addr×Obj)) (s:Shared) (σ:St) (H:Hp) (x:V) (xs:List V) (v:Value) (us:List Value) (Q:VK),Inv X pins σ H s->RelV x v->Vals xs us->r x xs H Q ->
  wpAny (model X.prog X.w) X.A (call (.builtin id) (v::us)) (EP X pins σ Q) X.xe s
theorem Vals.one:∀ {x:V} {us:List Value},Vals [x] us->∃ u,us=[u]/\RelV x u
 | _,_,.cons r .nil=>⟨_,rfl,r⟩
theorem Vals.two:∀ {x y:V} {us:List Value},Vals [x,y] us->∃ u v,us=[u,v]/\RelV x u/\RelV y v
 | _,_,_,.cons r (.cons q .nil)=>⟨_,_,rfl,r,q⟩
theorem Vals.zero:∀ {us:List Value},Vals [] us->us=[]
 | _,.nil=>rfl
theorem Vals.rep{xs:List V}{us:List Value}(h:Vals xs us):∀ k:Nat,Vals (List.replicate k xs).flatten (List.replicate k us).flatten
 | 0=>.nil
 |k+1=>by
   rw[List.replicate_succ,List.replicate_succ,List.flatten_cons,List.flatten_cons]
   exact Vals.append h (Vals.rep h k)
theorem foldl_rep(its:List Value):∀ (k:Nat) (acc:List Value),
 List.foldl (fun x1 x2=>x1++x2) acc.toArray (List.replicate k its.toArray)=(acc++(List.replicate k its).flatten).toArray
 | 0,acc=>by simp
 |k+1,acc=>by
   have e:acc.toArray++its.toArray=(acc++its).toArray:=by simp
   have e2:(acc++its)++(List.replicate k its).flatten=acc++(List.replicate (k+1) its).flatten:=by
    rw[List.replicate_succ,List.flatten_cons,List.append_assoc]
   rw[<- e2, <- foldl_rep its k (acc++its), <- e,List.replicate_succ,List.foldl_cons]
section
variable{X:Cx}{pins:List (Addr×Obj)}{σ:St}{H:Hp}{s:Shared}{l b:Addr}{xs ys zs:List V}
theorem Inv.qL{its its':List Value}{n:Nat}{f:Array Value->Array Value}{t':Nat}(I:Inv X pins σ H s)(hH:H l=some (.lst xs))
 (e:s.heap.get? l=some { cls:=.type "list",data:=.seq its.toArray n }) (hf:f its.toArray=its'.toArray) (hv:Vals ys its') (hz:ys.length<=sizeLine) :
 Inv X pins σ (upd H l (.lst ys)) { s with heap:=s.heap.update l (Obj.mapSeq f),toks:=t' }:=by
 have q:=PySem.IsL.update e f
 rw[hf] at q
 refine I.write (x:=l) (e:=l) (by rw[hH];exact trivial) (.inl rfl) (fun b' u hb hu=>(Heap.get?_update_other s.heap (Obj.mapSeq f) (Ne.symm hb)).trans hu) ⟨_,q⟩ ?_
 exact⟨hz,its',_,hv,q⟩
theorem Inv.qM{its:List Value}{t':Nat}(I:Inv X pins σ H s)(hv:Vals ys its)(hz:ys.length<=sizeLine) :
 Inv X pins σ (upd H s.heap.objs.size (.lst ys)) { s with heap:=s.heap.push { cls:=.type "list",data:=.seq its.toArray },toks:=t' } :=
 I.laid (fun _ _ q=>Heap.get?_push_of_some _ q) (Nat.le_refl _) ⟨hz,its,0,hv,Heap.get?_push_size _ rfl⟩
theorem Inv.fresh(I:Inv X pins σ H s):H s.heap.objs.size=none:=I.hok.fresh (Nat.le_refl _)
theorem Inv.av(I:Inv X pins σ H s)(hH:H l=some (.lst xs)):xs.length<=sizeLine/\∃ (its:List Value) (n:Nat),Vals xs its/\xs.length=its.length/\s.heap.get? l=some { cls:=.type "list",data:=.seq its.toArray n }:=by
 obtain⟨z,its,n,r,e⟩:=I.hok l _ hH
 exact⟨z,its,n,r,r.length,e⟩
theorem Jg{n:Nat}(h:n<=sizeLine):Builtin.List.listTooLong n=false:=by
 unfold Builtin.List.listTooLong
 exact decide_eq_false (by omega)
end
section
variable{X:Cx}
noncomputable def Ct:V->List V->Hp->VK->Prop:=fun x vs H Q=>∃ l xs y,x = .ref l/\vs=[y]/\H l=some (.lst xs)/\xs.length<sizeLine/\Q .ao (upd H l (.lst (xs++[y])))
theorem Cu:Cs X "list.append" Ct:=by
 intro pins s σ H x vs v us Q I rx rv h
 obtain⟨l,xs,y,rfl,rfl,hH,hz,q⟩:=h
 cases rx
 obtain⟨u,rfl,ru⟩:=rv.one
 obtain⟨z,its,n,r,hl,e⟩:=I.av hH
 refine call_meets F.slot_list_append ⟨_,e,rfl⟩ F.entry_list_append (F.args_list_append_2 _ _) (PySem.list_append l its.toArray n u (by rw[List.size_toArray];omega)) ⟨e,?_⟩
 refine⟨.ao,_,I.qL (its':=its++[u]) hH e (by simp) (r.append (.cons ru .nil)) ?_,rfl,q⟩
 rw[List.length_append,List.length_singleton]
 omega
noncomputable def Cv:V->List V->Hp->VK->Prop:=fun x vs H Q=>∃ l xs,x = .ref l/\vs=[]/\H l=some (.lst xs)/\Q .ao (upd H l (.lst []))
theorem Jh:Cs X "list.clear" Cv:=by
 intro pins s σ H x vs v us Q I rx rv h
 obtain⟨l,xs,rfl,rfl,hH,q⟩:=h
 cases rx
 have hus:=rv.zero
 subst hus
 obtain⟨z,its,n,r,hl,e⟩:=I.av hH
 refine call_meets F.slot_list_clear ⟨_,e,rfl⟩ F.entry_list_clear (F.args_list_clear_1 _) (AutoSeq1.list_clear_list_0 l its.toArray n (by rw[List.size_toArray];omega)) ⟨e,?_⟩
 exact⟨.ao,_,I.qL (its':=[]) (ys:=[]) hH e rfl .nil (Nat.zero_le _),rfl,q⟩
noncomputable def Cw:R2:=fun x y H Q=>∃ l b xs zs,x = .ref l/\y = .ref b/\H l=some (.lst xs)/\H b=some (.lst zs)/\xs.length+zs.length<=sizeLine/\∀ p,H p=none->Q (.ref p) (upd H p (.lst (xs++zs)))
theorem n4:bU X (binaryOp .Add) Cw:=by
 intro pins s σ H x y v u Q I rx ry h
 obtain⟨l,b,xs,zs,rfl,rfl,hH,hB,hz,q⟩:=h
 cases rx
 cases ry
 obtain⟨z,its,n,r,hl,e⟩:=I.av hH
 obtain⟨z2,its2,n2,r2,hl2,e2⟩:=I.av hB
 refine PySem.P.add_list e e2 ?_ (by rw[List.size_toArray,List.size_toArray];omega)
 have ea:its.toArray++its2.toArray=(its++its2).toArray:=by simp
 rw[ea]
 exact⟨.ref _,_,I.qM (t':=s.toks) (r.append r2) (by rw[List.length_append];omega),rfl,q _ I.fresh⟩
noncomputable def Cy:R2:=fun x y H Q=>∃ l k xs,x = .ref l/\y = .int k/\H l=some (.lst xs) /\ -(2 ^ 63)<=k/\k<2 ^ 63/\xs.length * k.toNat<=sizeLine /\
 ∀ p,H p=none->Q (.ref p) (upd H p (.lst (List.replicate k.toNat xs).flatten))
theorem len_rep{α:Type}(xs:List α)(k:Nat):(List.replicate k xs).flatten.length=k * xs.length:=by
 induction k with
 |zero=>simp
 |succ k ih=>rw[List.replicate_succ,List.flatten_cons,List.length_append,ih,Nat.succ_mul,Nat.add_comm]
theorem Cz:bU X (binaryOp .Mult) Cy:=by
 intro pins s σ H x y v u Q I rx ry h
 obtain⟨l,k,xs,rfl,rfl,hH,h1,h2,hz,q⟩:=h
 cases rx
 obtain⟨t,rfl⟩:=ry
 obtain⟨z,its,n,r,hl,e⟩:=I.av hH
 have hlen:its.toArray.size * k.toNat<=sizeLine:=by rw[List.size_toArray, <- hl];exact hz
 have xa : ¬ its.toArray.size * k.toNat > (2 ^ 63 - 1) / 8:=by
  have:(sizeLine:Nat)<=(2 ^ 63 - 1) / 8:=by decide
  omega
 have hfit : ¬ (!Builtin.List.listFitsIndex k)=true:=by
  rw[fitsIndex_both h1 h2]
  exact Bool.false_ne_true
 have qN : ¬ Builtin.List.listTooLong (its.toArray.size * k.toNat)=true:=by
  rw[Jg hlen]
  exact Bool.false_ne_true
 have hnew:List.foldl (fun x1 x2=>x1++x2) #[] (List.replicate (if its.toArray.isEmpty=true then 0 else k.toNat) its.toArray)=(List.replicate k.toNat its).flatten.toArray:=by
  have f0:∀ m:Nat,List.foldl (fun x1 x2=>x1++x2) #[] (List.replicate m its.toArray)=(List.replicate m its).flatten.toArray:=fun m=>by
   have:=foldl_rep its m []
   rw[List.nil_append] at this
   exact this
  rw[f0]
  cases its with
  |nil=>simp
  |cons a r'=>rw[if_neg (by simp)]
 refine wpAny_binaryOp_repeat_ref (T := "list") (U := "int") (by decide) ⟨_,e,rfl⟩ (fun s'=>typeIs_int s' k t) noFill_list_mul F.fills_int_mul F.slot_int_rmul repeat_list F.slot_int_index.lookup
  (call_meets F.slot_int_rmul (typeIs_int s k t) F.entry_int_rmul (F.args_int_rmul_2 _ _) (int___rmul___int_list k t l its.toArray n)
   ⟨e,rfl,⟨_,e,rfl⟩,call_meets F.slot_list_mul ⟨_,e,rfl⟩ F.entry_list_mul (F.args_list_mul_2 _ _) (AutoListH.list___mul___list_int_3 l its.toArray n k t hfit xa qN) ⟨e,?_⟩⟩)
 rw[hnew]
 exact⟨.ref _,_,I.qM (t':=s.toks) (r.rep k.toNat) (by rw[len_rep,Nat.mul_comm];exact hz),rfl,q _ I.fresh⟩
end
end L2
namespace CA
open PySem PySem.W PySem.Calls PyProof.Rows
theorem Ji{P:Params}{h:Heap}:∀ (ns:List Int) (vs:List Value),WellAll P h vs (ns.map WData.int)->IntsAre vs ns:=by
 intro ns
 induction ns with
 |nil =>
   intro vs w
   rw[List.map_nil] at w
   cases w
   exact .nil
 |cons n ns ih =>
   intro vs w
   rw[List.map_cons] at w
   cases w with
   |cons a b =>
     cases a
     exact .cons _ _ (ih _ b)
theorem Jj{l:OpenLaw}{n:Nat}(hn:l.most=some n){P:Params}{h:Heap}{args:List WData}{vals:List Value}
 (hpre:l.row.toRowW.claim.pre args=true) (hwl:WellAll P h vals args) :
 ∃ a vs ns,vals=[Value.ref a]/\args=[WData.list (ns.map WData.int)]/\h.get? a=some { cls:=.type "list",data:=.seq vs.toArray }/\IntsAre vs ns/\ns.length<=n:=by
 have hsh:WShape.hasAll [] args [.list .int]=true:=(pre_splitW hpre).1
 have hc:l.pre.holds [] { args:=args }=true:=(pre_splitW hpre).2
 obtain⟨d,r,rfl,h1,h2⟩:=hasAllW_cons hsh
 obtain rfl:=hasAllW_nil h2
 obtain⟨xs,rfl,h3⟩:=hasW_list h1
 obtain⟨ns,rfl⟩:=items_int h3
 have hlen:ns.length<=n:=by
  unfold OpenLaw.pre at hc
  have h4:(WTm.not (.lt (.lit (.int (n:Int))) (.len (.arg 0)))).holds [] { args:=[.list (ns.map .int)] }=true:=by
   have h4:=(holds_andW hc).1
   rw[hn] at h4
   exact h4
  have h5:=condW_of h4 (w_not (w_lt w_lit (w_len_list (w_arg rfl))))
  rw[List.length_map] at h5
  refine Nat.le_of_not_lt fun q=>?_
  have q':(n:Int)<((ns.length:Nat):Int):=by omega
  first
   | (rw[decide_eq_true q'] at h5;exact absurd h5 (by decide))
   | (simp at h5;omega)
 cases hwl with
 |cons w1 w2 =>
   cases w2
   cases w1 with
   |list ho hall=>exact⟨_,_,ns,rfl,rfl,ho,Ji ns _ hall,hlen⟩
theorem Jk(l:OpenLaw)(args:List WData):l.row.toRowW.claim.post args (.bool true) args=true :=
 postW_of (r:=l.row.toRowW) (X:=(true == true))
  (show WShape.has [] (.bool true) .bool=true by first | rfl | decide | simp[WShape.has,WShape.arms,WShape.armsAll])
  (show(WTm.eq .res (.lit (.bool true))).value [] { args:=args,res:=some (.bool true),after:=args }=some (.bool (true == true)) from w_eq_bool (w_res rfl) w_lit) rfl
theorem gr{l:OpenLaw}{n:Nat}{q:Program}{loose:List Str}{XP:(Str->Option Value)->Heap->Prop}{YP:World->Heap->Prop}{d:DefRec}
 (hn:l.most=some n) (hdf:d.params.defaults=[])
 (call:∀ (w:World) (s₀ aE:Shared) (mg mb:Str->Option Value) (fa:Addr) (o:Obj) (pm cd doc:Value) (a:Addr) (vs:List Value) (ns:List Int),
  Ground q loose [] XP w s₀ mg mb aE.heap->YP w aE.heap ->
  aE.heap.get? fa=some o->o.data = .func (docDef d.name d.params d.body d.scope pm cd doc)->aE.heap.CodeRec cd d.name->mg d.name=some (.ref fa) ->
  aE.heap.get? a=some { cls:=.type "list",data:=.seq vs.toArray }->IntsAre vs ns->ns.length<=n->aE.gens = #[] ->
  codeAny (model l.prog w) callerA (.call (.ref fa) ⟨[.ref a],[]⟩) (fun r s'=>r = .ok (.ret (.bool true))/\OldK aE.heap s'.heap/\s'.os=aE.os/\AllBare s'.gens) aE) :
 WalkO q loose XP YP l.row.toRowW d [] (fun f vs=>PySem.call f vs):=by
 intro w s₀ aE mg mb G Y fa o pm cd doc dV kV ho hd hcd hD hmg hg args vals as hpre hlay hrd hwl hlo
 obtain rfl:dV = .none:=Dflts.none hD hdf
 obtain rfl:kV = .none:=Dflts.noKw hD
 obtain⟨a,vs,ns,rfl,rfl,hobj,hints,hlen⟩:=Jj hn hpre hwl
 refine enter_call (codeAny_mono (call w s₀ aE mg mb fa o pm cd doc a vs ns G Y ho (fd_plain hd) hcd hmg hobj hints hlen hg) fun r s' hq=>?_)
 obtain⟨rfl,h2,h3,h4⟩:=hq
 exact⟨.inl ⟨.bool true,.bool true,[],rfl,fun _=>rfl,.bool true,Jk l _,fun _=>⟨List.Pairwise.nil,fun _ hm=>(nomatch hm)⟩⟩,h2,h3,h4⟩
end CA
namespace L2
open PySem PySem.Spec PyProof.Rows
theorem CB:∀ {vs:List Value} {ns:List Int},IntsAre vs ns->Vals (ns.map V.int) vs
 | _,_,.nil=>.nil
 | _,_,.cons n t h=>.cons ⟨t,rfl⟩ (CB h)
noncomputable def xb(H:Hp):Prop:=∀ b,H b=none\/∃ o xs,H b=some (.ak o (.lst xs))
theorem Jl{P:Program}{w:World}{K:W.Frag}{mg mb:Str->Option Value}{CX:jc}{k:Nat}{fa a:Addr}{fd:FuncData}{x:Str}{sp:Sp}{aE:Shared}{vs:List Value}{ns:List Int}
 (KX:K.In aE.heap) (hns:aE.heap.Ns mainGlobals mg) (hb:aE.heap.Ns builtinsNs mb) (Jm:∀ x:Str,x ≠ "__name__" -> mb x=bootBuiltins x) (hlim:aE.heap.NoLimit) (hg:aE.gens = #[])
 (ha:aE.heap.get? a=some { cls:=.type "list",data:=.seq vs.toArray }) (hi:IntsAre vs ns) (hl:ns.length<=sizeLine) (hr:ax k callerA)
 (F:∀ base:Heap,K.In base->base.Ns mainGlobals mg->a8 P w K mg base CX k fa fd [x] sp) (hbind:∀ (s:Shared) (u:Value),BindsTo s fd ⟨[u],[]⟩ [(x,u)])
 (hsp:∀ H:Hp,xb H->bP K H a (ns.map V.int)->sp [.ref a] H (fun v _=>v = .bl true) fun _ _ _=>False)
 (xf:∀ H e s',CX [] H aE (fun _ _ _=>False) e s'->False) :
 codeAny (model P w) callerA (.call (.ref fa) ⟨[.ref a],[]⟩) (fun r s'=>r = .ok (.ret (.bool true))/\OldK aE.heap s'.heap/\s'.os=aE.os/\AllBare s'.gens) aE:=by
 have rv:=CB hi
 have lenV:=hi.length
 have core:∀ H:Hp,xb H->bP K H a (ns.map V.int)->bZ P w H aE.heap->(∀ b,H b≠none->b=a)->(H a≠none->K.lookup a=none) ->
  codeAny (model P w) callerA (.call (.ref fa) ⟨[.ref a],[]⟩) (fun r s'=>r = .ok (.ret (.bool true))/\OldK aE.heap s'.heap/\s'.os=aE.os/\AllBare s'.gens) aE:=by
  intro H hO hS hok hA hK
  have iV:∀ {b:Addr} {o:Obj},aE.heap.get? b=some o->H b=none->(lJ aE.heap H).get? b=some o:=fun e n=>Hs e n
  have qK:∀ {b:Addr} {o:Obj} {es:Array DictEntry} {ep:Nat},aE.heap.get? b=some o->o.data = .dict es ep->H b=none:=fun {b o es ep} e d=>by
   cases q:H b with
   |none=>rfl
   |some u =>
     have e':b=a:=hA b (by rw[q];simp)
     subst e'
     rw[ha] at e;cases e
     have d':Data.seq vs.toArray _=Data.dict es ep:=d
     cases d'
  have ud:∀ {b:Addr} {m:Str->Option Value},aE.heap.Ns b m->(lJ aE.heap H).Ns b m:=fun {b m} ⟨o,es,ep,e,d,r⟩=>⟨o,es,ep,iV e (qK e d),d,r⟩
  have CC:K.In (lJ aE.heap H):=fun b o e=>iV (KX b o e) (by
   cases q:H b with
   |none=>rfl
   |some u =>
     have e':b=a:=hA b (by rw[q];simp)
     subst e'
     rw[hK (by rw[q];simp)] at e;cases e)
  have hM:Mod K mg (lJ aE.heap H):=⟨CC,ud hns,⟨mb,ud hb,Jm⟩,let ⟨mc,h1,h2⟩:=hlim; ⟨mc,ud h1,h2⟩⟩
  have e0:ip P w K mg (lJ aE.heap H) callerA [] aE H:=⟨rfl,hM,fun b o e=>Ht e,Nat.le_of_eq (Hr _ _),trivial,fun b hb=>absurd (show b∈([]:List Addr) from hb) (by simp),hok,.of_eq hg⟩
  refine codeAny_mono ((F _ CC (ud hns)).run callerA [] aE H ⟨[.ref a],[]⟩ [.ref a] [.ref a] _ _ hr e0 (hbind aE (.ref a)) (.cons rfl .nil) (hsp H hO hS)) fun r s' h=>?_
  cases r with
  |error e=>exact(xf H e s' h).elim
  |ok fl =>
    cases fl with
    |next=>exact False.elim h
    |brk=>exact False.elim h
    |cont=>exact False.elim h
    |ret u =>
      obtain⟨v,H',os,bare,un,hok',r',q⟩:=h
      have q':v = .bl true:=q
      subst q'
      obtain rfl:u=Value.bool true:=r'
      refine⟨rfl,OldK.of_keep fun b o e=>?_,os,bare⟩
      cases q:H b with
      |none=>exact un.keep b o e q (by intro z;exact absurd (show b∈([]:List Addr) from z) (by simp)) (by simp)
      |some u =>
        rcases hO b with z | ⟨ob,xs,z⟩
        · rw[q] at z;cases z
        · have z2:=un.dF b ob _ z
          obtain⟨e1,_⟩:=hok b _ z
          obtain⟨e2,_⟩:=hok' b _ z2
          rw[e] at e1;cases e1
          exact e2
 cases hk:K.lookup a with
 |some o =>
   have e:=KX a o hk
   rw[ha] at e
   cases e
   refine core (fun _=>none) (fun _=>.inl rfl) (.inr ⟨_,vs.toArray,_,hk,rfl,rfl,rfl,by rw[List.size_toArray,lenV];exact hl,by simpa using rv⟩) (fun b u z=>by have z':(none:Option HO)=some u:=z;cases z') (fun b z=>absurd rfl z) fun z=>absurd rfl z
 |none =>
   refine core (fun b=>if b=a then some (.ak { cls:=.type "list",data:=.seq vs.toArray } (.lst (ns.map V.int))) else none) (fun b=>?_) (.inl (.inr ⟨{ cls:=.type "list",data:=.seq vs.toArray },if_pos rfl⟩)) (fun b u z=>?_) (fun b z=>?_) fun _=>hk
   · by_cases hb:b=a
     · exact .inr ⟨_,_,if_pos hb⟩
     · exact .inl (if_neg hb)
   · by_cases hb:b=a
     · have z':=(if_pos hb).symm.trans z
       cases z'
       subst hb
       exact⟨ha,by rw[List.length_map];exact hl,vs,_,rv,ha⟩
     · have z':=(if_neg hb).symm.trans z
       cases z'
   · by_cases hb:b=a
     · exact hb
     · exact absurd (if_neg hb) z
theorem lO{l:W.OpenLaw}{n k:Nat}{q:Program}{loose:List Str}{XP:(Str->Option Value)->Heap->Prop}{YP:World->Heap->Prop}{d:DefRec}{K:Params->W.Frag}{CX:World->jc}{sp:World->Sp}{x:Str}
 (hn:l.most=some n) (hn2:n<=sizeLine) (hdf:d.params.defaults=[]) (hr:ax k callerA)
 (hY:∀ (w:World) (h:Heap),YP w h->(K w.params).In h)
 (F:∀ (w:World) (mg:Str->Option Value) (fa:Addr) (h:Heap),(K w.params).In h->h.Ns mainGlobals mg->mg d.name=some (.ref fa) ->
  ∃ fd:FuncData,(∀ (s:Shared) (u:Value),BindsTo s fd ⟨[u],[]⟩ [(x,u)]) /\
   ∀ base:Heap,(K w.params).In base->base.Ns mainGlobals mg->a8 l.prog w (K w.params) mg base (CX w) k fa fd [x] (sp w))
 (hsp:∀ (w:World) (H:Hp) (a:Addr) (ns:List Int),ns.length<=n->xb H->bP (K w.params) H a (ns.map V.int)->sp w [.ref a] H (fun v _=>v = .bl true) fun _ _ _=>False)
 (xf:∀ (w:World) (H:Hp) (s:Shared) (e:Value) (s':Shared),CX w [] H s (fun _ _ _=>False) e s'->False) :
 W.WalkO q loose XP YP l.row.toRowW d [] (fun f vs=>PySem.call f vs):=by
 refine CA.gr hn hdf fun w s₀ aE mg mb fa o pm cd doc a vs ns G Y ho hd hcd hmg hobj hints hlen hg=>?_
 have KX:=hY w _ Y
 obtain⟨fd,hb,hF⟩:=F w mg fa _ KX G.T.g hmg
 exact Jl KX G.T.g G.T.b G.T.builtins G.T.nolimit hg hobj hints (Nat.le_trans hlen hn2) hr hF hb (fun H hO hS=>hsp w H a ns hlen hO hS) fun H e s'=>xf w H aE e s'
noncomputable def inClass(s:Stmt)(j:Nat):Stmt:=match s with
 | .ClassDef _ _ _ body _ _ _ _ _ _ _=>body.getD j (.Pass ⟨0,0,0,0⟩)
 | _=>.Pass ⟨0,0,0,0⟩
noncomputable def aW(s:Stmt):Arguments:=match s with
 | .FunctionDef _ a _ _ _ _ _ _ _ _=>a
 | _=>{ posonlyargs:=[],args:=[],vararg:=none,kwonlyargs:=[],kw_defaults:=[],kwarg:=none,defaults:=[] }
noncomputable def ag(s:Stmt):List Stmt:=match s with
 | .FunctionDef _ _ b _ _ _ _ _ _ _=>b
 | _=>[]
noncomputable def aa(s:Stmt):Scope:=match s with
 | .FunctionDef _ _ _ _ _ _ sc _ _ _=>sc
 | _=>{ kind:=.function,names:=[],isGenerator:=false,isCoroutine:=false }
noncomputable abbrev eK:jc:=fun _ _ _ _ _ _=>False
noncomputable abbrev E0:XK:=fun _ _ _=>False
theorem xg{X:Cx}:t_ eK X E0:=fun _ _ _ _ _ _ _ h=>h.elim
structure jf(K:W.Frag)(x qual:Str)(st:Stmt)(f:Addr)(fd:FuncData):Prop where
 ex:∃ (oc:Value) (od:Option Addr) (kV doc pm:Value) (an:Option Addr) (cdv ct:Value) (osl:Array (Option Value)),
  fd=W.fnOf x qual (aW st) (ag st) (aa st) .none kV doc pm an cdv ct/\K.lookup f=some ⟨oc,od,.func fd,osl⟩/\W.codeIn K cdv qual=true
 kp:W.keepIn K (.ref f)=true
section
variable{P:Program}{w:World}{K:W.Frag}{mg:Str->Option Value}{base:Heap}
theorem jf.ok{x qual:Str}{st:Stmt}{f:Addr}{fd:FuncData}{N ps:List Str}{k:Nat}{sp:Sp}(F:jf K x qual st f fd)(S:aq N ps (aa st))(len:∀ vs H Q E,sp vs H Q E->vs.length=ps.length)
 (hbody:∀ (cdv:Value) (A:Around) (outer:List Env) (s:Shared) (H:Hp) (vs:List V) (Q:VK) (E:XK),ax k (A.deeper (envOfC qual (aa st) s.heap.objs.size f cdv))->sp vs H Q E ->
  ∃ t,PSs (gj eK P w K mg base N qual (aa st) f cdv A outer s H E).jT (ag st) t/\t { nx:=fun _ H'=>Q .ao H',rt:=Q } (start N vs) H):a8 P w K mg base eK (k+1) f fd ps sp:=by
 obtain⟨oc,od,kV,doc,pm,an,cdv,ct,osl,rfl,lk,hcd⟩:=F.ex
 refine wZ lk hcd S len fun A outer s H vs Q E hr hsp=>?_
 obtain⟨t,h,q⟩:=hbody cdv A outer s H vs Q E hr hsp
 exact⟨t,h.jT,q⟩
theorem jf.binds{x qual:Str}{st:Stmt}{f:Addr}{fd:FuncData}{ps:List Str}(F:jf K x qual st f fd)
 (h:∀ (kV doc pm:Value) (an:Option Addr) (cdv ct:Value) (us:List Value),us.length=ps.length->bindArgs (W.fnOf x qual (aW st) (ag st) (aa st) .none kV doc pm an cdv ct) ⟨us,[]⟩=pure (ps.zip us)):Binds K fd ps []:=by
 obtain⟨oc,od,kV,doc,pm,an,cdv,ct,osl,rfl,lk,hcd⟩:=F.ex
 exact .all (h kV doc pm an cdv ct)
theorem n5{x qual:Str}{st:Stmt}{f:Addr}{oc:Value}{od an:Option Addr}{osl:Array (Option Value)}{kV doc pm cdv ct:Value}(l:K.lookup f=some ⟨oc,od,.func (W.fnOf x qual (aW st) (ag st) (aa st) .none kV doc pm an cdv ct),osl⟩)
 (c:W.codeIn K cdv qual=true) (k:W.keepIn K (.ref f)=true):jf K x qual st f (W.fnOf x qual (aW st) (ag st) (aa st) .none kV doc pm an cdv ct):=⟨⟨oc,od,kV,doc,pm,an,cdv,ct,osl,rfl,l,c⟩,k⟩
end
section
variable{X:Cx}
theorem pv(i:Nat){x:Str}{pos:Pos}(hN:X.N[i]? = some x:=by rfl)(hv:tX X.env.scope x:=by first | exact Or.inl rfl | exact Or.inr (Or.inl rfl) | exact Or.inr (Or.inr rfl))(hd:(x == ("__debug__" : Str))=false:=by decide)
 (hcd:(x == ("__classdict__" : Str))=false:=by decide):PE X (.Name x pos) (m_ i):=Hv hN hv hd hcd
end
theorem qO{A B:Prop}(h:B):if false=true then A else B:=by
 rw[if_neg Bool.false_ne_true]
 exact h
theorem qP{A B:Prop}(h:A):if true=true then A else B:=by
 rw[if_pos rfl]
 exact h
noncomputable def ae(H H':Hp):Prop:=∀ b o,H b=some o->H' b=some o
theorem ae.refl(H:Hp):ae H H:=fun _ _ h=>h
theorem ae.trans{H H1 H2:Hp}(a:ae H H1)(b:ae H1 H2):ae H H2:=fun c o h=>b c o (a c o h)
theorem ae.free{H H':Hp}(e:ae H H'){l:Addr}(h:H' l=Option.none):H l=Option.none:=by
 cases q:H l with
 |none=>rfl
 |some o =>
   rw[e l o q] at h
   cases h
theorem ae.seq{K:W.Frag}{H H':Hp}{a:Addr}{xs:List V}(e:ae H H')(h:bP K H a xs):bP K H' a xs:=by
 rcases h with (h | ⟨o,h⟩) | h
 · exact .inl (.inl (e _ _ h))
 · exact .inl (.inr ⟨o,e _ _ h⟩)
 · exact .inr h
end L2
namespace Ex
open PySem PySem.Spec PyProof.Rows PySem.W
structure XB(B ini:String)(up:List Value):Prop where
 mroIs:mroOf (.type B)=pure up
 hasB:up.contains (.type B)=true
 noAttr:up.contains (.type "AttributeError")=false
 noName:up.contains (.type "NameError")=false
 slot:Slot B "__init__" ini
 entry:entryFor table ini=some Builtin.«BaseException.__init__»
 split:splitId ini=some (B,"__init__")
 kind:builtinKind ini=some .slot
 row:Manifest.signature? ini=some ⟨.positional,"*",B,.self,[⟨"args",.varPos,false⟩]⟩
 star:(B != "*")=true
theorem XB.of{B nw ini:String}{up:List Value}(f:ExcBaseFacts B nw ini up):XB B ini up:=⟨f.mroIs,f.hasB,f.noAttr,f.noName,f.init,f.initEntry,f.initSplit,f.initKind,f.initRow,f.noStar⟩
noncomputable def pB(h:Heap)(C:Addr)(as:List Value):Heap :=
 (h.push { cls:=.type "tuple",data:=.seq as.toArray }).push { cls:=.ref C,data:=.fields #[.ref h.objs.size,.none,.none,.none,.bool false,.none] }
theorem ue{h:Heap}{C:Addr}{as:List Value}:∀ b o,h.get? b=some o->(pB h C as).get? b=some o:=fun b o e=>Heap.get?_push_of_some _ (Heap.get?_push_of_some _ e)
theorem CD{h:Heap}{C:Addr}{as:List Value}:(pB h C as).get? (h.objs.size+1)=some { cls:=.ref C,data:=.fields #[.ref h.objs.size,.none,.none,.none,.bool false,.none] } :=
 Heap.get?_push_at (by rw[Heap.size_push]) rfl
section
variable{prog:Program}{w:World}{A:Around}{E:Value->Shared->Prop}{h:Heap}{g:Array GenState}{d:Drawn}{t:Nat}{os:OsState}{nm qn:Str}{C N:Addr}{bs tl up un:List Value}{hd:Bool}{sn:List Str}{sub:List Value}{ab:Bool}{col:Option Bool}
 {dd:Option Addr} {j0 j1 j2 j3 j5:Option Value} {B D nw ini lP:String} {K:Frag} {fI:Addr} {as:List Value}
theorem Jn{R:Result->Shared->Prop}(fn:ExcBaseFacts D nw lP un)(hD:up.contains (.type D)=true)(F:XB B ini up)(T:OwnTail h up tl)(hC:h.get? C=some (excClassObj nm qn C N bs tl hd sn sub ab col dd j0 j1 j2 j3 j5 nw))
 (hl:as.length<=sizeLine) (q:R (.ok (.ret (.ref (h.objs.size+1)))) ⟨pB h C as,g,d,t,os⟩):codeAny (model prog w) A (.builtin nw ⟨.ref C::as,[]⟩) R ⟨h,g,d,t,os⟩:=by
 have isIn:∀ {n:String} {b:Bool},up.contains (.type n)=b->(Value.ref C::tl).contains (.type n)=b:=fun {n b} e=>by rw[List.contains_cons,T.hasType e];exact Bool.false_or _
 have c1:=isIn hD;have c2:=isIn F.noAttr;have c3:=isIn F.noName;have ends:=fn.ends
 apply codeAny_builtinAt fn.entry
 delta Builtin.«BaseException.__new__»
 apply PySem.wpAt_bind
 change PySem.wpAt _ _ _ (stack >>= _) _ _ _
 apply PySem.wpAt_bind;apply PySem.wpAt_stack;intro p below;apply PySem.wpAt_of_wpAny
 wp_walk
 apply PySem.wpAt_of_wpAny
 rw[fn.owner]
 repeat (first
  | (with_reducible apply wpAny_madeHere_exc fn.canon hC)
  | (with_reducible apply wpAny_loadPart_at hC)
  | (with_reducible apply wpAny_isSubtype_exc hC;first | rw[c1] | rw[c2] | rw[c3])
  |wp_step)
 change R _ _
 rw[Heap.size_push]
 exact q
theorem Jo{Q:Value->Shared->Prop}{iv:Value}(fn:ExcBaseFacts D nw lP un)(hD:up.contains (.type D)=true)(F:XB B ini up)(T:OwnTail h up tl)(X:K.In h)(hC:h.get? C=some (excClassObj nm qn C N bs tl hd sn sub ab col dd j0 j1 j2 j3 j5 nw))
 (at_:findIn K (.ref C) "__init__" = some (some iv)) (bd:Looks (model prog w) (pB h C as) (bindSpecial iv (.ref (h.objs.size+1))) (iv,[.ref (h.objs.size+1)])) (hl:as.length<=sizeLine)
 (q:wpAny (model prog w) (A.under (.builtin "type.__call__" ⟨.ref C::as,[]⟩)) (call iv (.ref (h.objs.size+1)::as)) (fun r s'=>r = .none/\Q (.ref (h.objs.size+1)) s') E ⟨pB h C as,g,d,t,os⟩) :
 wpAny (model prog w) A (call (.ref C) as) Q E ⟨h,g,d,t,os⟩:=by
 have look:=tc_lookup;have bnd:=tc_bind (.ref C)
 have tyC:(⟨h,g,d,t,os⟩:Shared).TypeIs (.ref C) "type" := ⟨_,hC,rfl⟩
 have X':K.In (pB h C as):=X.keeps ue
 have hC':=ue (as:=as) (C:=C) _ _ hC
 have self:(Value.ref C::tl).contains (.ref C)=true:=by rw[List.contains_cons,beq_self_eq_true];exact Bool.true_or _
 apply wpAny_call;apply codeAny_of_tree
 change wpAny _ _ (callAny (.ref C) _) _ _ _
 repeat (any_goals (first | assumption | (with_reducible apply wpAny_loadPart_at hC) | wp_step))
 constructor
 · rfl
 apply codeAny_call_builtin_at (Code.quiet_builtin _ (by decide +kernel)) entry_typeCall
 apply wpAny_check_type_call_sub hC
 repeat (first | (with_reducible apply wpAny_loadPart_at hC) | (with_reducible apply wpAny_madeBy_exc hC) | wp_step)
 apply codeAny_call_builtin_code (Code.quiet_builtin _ fn.quiet)
 apply wpAny_check_new_subU fn hD T hC
 apply Jn fn hD F T hC hl
 change wpAny _ _ _ _ _ _
 delta isInstance
 repeat (first | (with_reducible apply wpAny_loadPart_at CD) | (with_reducible apply wpAny_isSubtype_exc hC';rw[self]) | wp_step)
 change wpAny _ _ (typeLookup (.ref C) _) _ _ _
 apply (looks_findIn X' at_).here (s:=⟨_,g,d,t,os⟩)
 apply wpAny_holding;apply wpAny_bind
 apply bd.here (s:=⟨_,g,d,t,os⟩)
 apply wpAny_bind
 apply wpAny_mono q
 · rintro r s' ⟨rfl,k⟩
   wp_walk
   exact k
 · exact fun _ _ z=>z
end
end Ex
namespace Ex
open PySem PySem.Spec PyProof.Rows PySem.W PySem.Calls Builtin Builtin.ObjectAttr
structure XC(K:Frag)(C:Addr):Prop where
 ga:findIn K (.ref C) "__getattribute__" = some (some (.builtin "BaseException.__getattribute__"))
 gt:findIn K (.ref C) "__getattr__" = some none
 sa:findIn K (.ref C) "__setattr__" = some (some (.builtin "object.__setattr__"))
 be:mroIn K C (.type "BaseException")=some true
 ob:mroIn K C (.type "object")=some true
 pass:∃ cd,clsIn K C=some cd/\cd.hasDict=true/\∀ self,refuseLoop self "__setattr__" cd.mro=pure ()
 ca:findIn K (.ref C) "__class__" = some (some (.builtin "object.__class__"))
 cg:specialIn K (.builtin "object.__class__") "__get__" = some (some (.builtin "getset_descriptor.__get__"))
 ct:takesIn K (.builtin "object.__class__")=some true
 kc:kitCls K (.ref C) (.ref C)=some true
section
variable{prog:Program}{w:World}{A:Around}{E:Value->Shared->Prop}{s:Shared}{K:Frag}{x C:Addr}{ox:Obj}{od:Option Obj}{n:Str}{ex fl:Bool}{tk:Tok}
theorem CF{Q:Value->Shared->Prop}(X:K.In s.heap)(I:InstAt s.heap x ox C od)(c:XC K C)
 (k:wpAny (model prog w) A.in1 (Builtin.«object.__getattribute__» ⟨[.ref x,.str n tk],[]⟩) (fun r s'=>∃ v,r = .done (.ret v)/\wpAny (model prog w) A (handedOut v) Q E s') (fun _ _=>False) s) :
 wpAny (model prog w) A (getAttrBy (.ref x) (.str n tk) fl ex) Q E s:=by
 have noObj:(Value.builtin "BaseException.__getattribute__" == Value.builtin "object.__getattribute__")=false:=by decide +kernel
 have SL:=PySem.F.attr_ValueError.ga
 have hook:Looks (model prog w) s.heap (hookBefore (.ref C)) none:=looks_hook X (mc:=.ref C) (show findIn K (.ref C) "__getattr__" = some none from c.gt)
 apply wpAny_holding;apply wpAny_bind;apply I.type.here;apply wpAny_bind;apply (looks_findIn X c.ga).here
 dsimp only
 rw[noObj,Bool.and_false,if_neg Bool.false_ne_true]
 apply wpAny_bind;apply hook.here;apply wpAny_bind;apply wpAny_attempt;apply wpAny_holding
 unfold callGetattribute
 rw[show(ex && onTheHeap (Value.builtin "BaseException.__getattribute__"))=false from Bool.and_false ex,if_neg Bool.false_ne_true]
 unfold boundAndCalled
 rw[SL.bind]
 apply wpAny_bind;apply wpAny_pure
 change wpAny _ _ (call (.builtin "BaseException.__getattribute__") [.ref x,.str n tk]) _ _ _
 apply wpAny_call;apply codeAny_call_builtin SL.plain PySem.F.entry_bexc_ga
 apply @check_slot (model prog w) A.in1 _ s "BaseException.__getattribute__" "BaseException" "__getattribute__" (.ref x) [.str n tk] []
 · decide +kernel
 · decide +kernel
 · exact I.type.andThen (looks_mroIn X c.be)
 · exact PySem.F.args_bexc_ga _ _
 · exact wpAny_mono k (fun r s' ⟨v,e,z⟩=>by subst e;exact z) fun _ _ z=>z.elim
theorem Jp{v:Value}{Q:Value->Shared->Prop}(X:K.In s.heap)(I:InstAt s.heap x ox C od)(c:XC K C)(hf:findObj K C od n=some (.value v))(hh:handedIn v=true)(q:Q v { s with toks:=s.toks+1 }) :
 wpAny (model prog w) A (getAttr (.ref x) n ex) Q E s:=by
 apply wpAny_bind;apply wpAny_mkText
 apply CF (s:={ s with toks:=s.toks+1 }) X I c
 delta Builtin.«object.__getattribute__»
 apply wpAny_bind;apply wpAny_pure;apply wpAny_bind;apply wpAny_pure
 apply wpAny_bind;apply I.type.here (s:={ s with toks:=s.toks+1 })
 apply wpAny_bind;apply (looks_find X I hf).here (s:={ s with toks:=s.toks+1 })
 exact wpAny_pure ⟨v,rfl,by rw[handedOut_of hh];exact wpAny_pure q⟩
theorem Jq{Q:Option Value->Shared->Prop}(X:K.In s.heap)(I:InstAt s.heap x ox C od)(c:XC K C)(q:Q (some (.ref C)) { s with toks:=s.toks+1 }):wpAny (model prog w) A (getAttr? (.ref x) "__class__") Q E s:=by
 obtain⟨cd,hc,_,_⟩:=c.pass
 have Jr:findObj K C od "__class__" = some (.bind (.builtin "getset_descriptor.__get__") (.builtin "object.__class__")):=by
  unfold findObj
  rw[hc,Option.bind_some,c.ca,Option.bind_some];dsimp only
  rw[c.cg,Option.bind_some];dsimp only
  rw[c.ct,Option.bind_some]
 apply wpAny_bind;apply wpAny_mkText;apply wpAny_bind;apply wpAny_attempt
 apply CF (s:={ s with toks:=s.toks+1 }) X I c
 delta Builtin.«object.__getattribute__»
 apply wpAny_bind;apply wpAny_pure;apply wpAny_bind;apply wpAny_pure
 apply wpAny_bind;apply I.type.here (s:={ s with toks:=s.toks+1 })
 apply wpAny_bind;apply (looks_find X I Jr).here (s:={ s with toks:=s.toks+1 })
 change wpAny _ _ (holding [_] (call (.builtin "getset_descriptor.__get__") [.builtin "object.__class__",.ref x,.ref C]) >>= ret) _ _ _
 apply wpAny_bind;apply wpAny_holding;apply wpAny_call
 exact class_get (s:={ s with toks:=s.toks+1 }) (ox:=ox) (od:=od) X I c.ob (wpAny_pure ⟨_,rfl,handed_on rfl (wpAny_pure q)⟩)
end
theorem Js{K:Frag}{x C:Addr}(c:XC K C):KitX K (.ref x) (.ref C) (fun h=>∃ ox od,InstAt h x ox C od) where
 ty:=fun _ _ _ ⟨_,_,I⟩=>I.type
 it:=fun _ _ X _=>(kit_cls X c.kc).2.1
 ne:=fun h tp _ _ _ _ X e=>by
  obtain⟨cd,hc,_⟩:=c.pass
  cases z:(Value.ref C == Value.ref tp) with
  |false=>rfl
  |true =>
    cases beq_iff_eq.mp z
    unfold clsIn at hc
    split at hc
    · rename_i a
      cases (X _ _ a).symm.trans e
    · cases hc
 ca:=fun X ⟨_,_,I⟩ k=>Jq X I c k
section
variable{prog:Program}{w:World}{A:Around}{E:Value->Shared->Prop}{s:Shared}{K:Frag}{x C:Addr}{ox:Obj}{od:Option Obj}{n:Str}{v:Value}
theorem CG{Q:Unit->Shared->Prop}(X:K.In s.heap)(I:InstAt s.heap x ox C od)(c:XC K C)(none_:findIn K (.ref C) n=some none)
 (k:wpAny (model prog w) A.in1 (storeInOwnDict (.ref x) (.ref C) (.str n s.toks) n v false) (fun r s'=>∃ u,r = .done (.ret u)/\Q () s') E { s with toks:=s.toks+1 }):wpAny (model prog w) A (setAttr (.ref x) n v) Q E s:=by
 have SO:=PySem.F.store_object
 obtain⟨cd,hc,_,pass⟩:=c.pass
 apply set_plain X I c.sa
 apply codeAny_call_builtin SO.slot.plain SO.entry
 apply @check_slot (model prog w) A.in1 _ { s with toks:=s.toks+1 } "object.__setattr__" "object" "__setattr__" (.ref x) [.str n s.toks,v] [] _ SO.kind SO.split
 · exact I.type.andThen (looks_mroIn X c.ob)
 · exact SO.args _ _ _
 rw[osa_eq,refuse_eq]
 apply wpAny_bind;apply wpAny_bind;apply I.type.here (s:={ s with toks:=s.toks+1 })
 apply wpAny_bind;apply ((looks_clsIn X hc).andThen .now:Looks (model prog w) s.heap (mroOf (.ref C)) cd.mro).here (s:={ s with toks:=s.toks+1 })
 rw[pass]
 apply wpAny_pure;apply wpAny_bind;apply I.type.here (s:={ s with toks:=s.toks+1 })
 apply wpAny_bind;apply (looks_findIn X none_).here (s:={ s with toks:=s.toks+1 })
 apply wpAny_bind;apply wpAny_pure
 exact wpAny_mono k (fun r s' ⟨u,e,z⟩=>by subst e;exact z) fun _ _ z=>z
theorem CH{R:Fin->Shared->Prop}{dx:Addr}{mA:Str->Option Value}{ks:List Str}{tk:Tok}(N:s.heap.Ns1 dx mA)(W:Within mA ks)(few:ks.length<sizeLine)
 (k:∀ h' tk',Heap.SameBut dx s.heap h'->h'.Ns1 dx (fun y=>if y=n then some v else mA y)->R (.done (.ret .none)) { s with heap:=h',toks:=tk' }):wpAny (model prog w) A (storeInDict dx (.str n tk) n v) R E s:=by
 unfold storeInDict newKeyGuard;apply wpAny_bind;apply wpAny_pure;apply wpAny_bind;apply wpAny_nsSet1 N
 intro h' N' sb
 obtain⟨o,es,ep,ho,hd,le⟩:=N'.count (Within.cons n v W)
 apply wpAny_bind
 apply wpAny_lookBehind ho
 · rw[hd];apply pastItsLine_dict;rw[List.length_cons] at le;omega
 · exact wpAny_pure (k h' _ sb N')
theorem CI(hx:s.heap.get? x=some ox)(cl:ox.cls = .ref C){vs:Array Value}(hd:ox.data = .fields vs)(dict:match ox.dict,od with | some dx,some o=>s.heap.get? dx=some o | none,none=>True | _,_=>False):InstAt s.heap x ox C od :=
 ⟨hx,cl,by unfold notCls;rw[hd],dict⟩
theorem Jt{Q:Unit->Shared->Prop}{vs:Array Value}(X:K.In s.heap)(hx:s.heap.get? x=some ox)(cl:ox.cls = .ref C)(hd:ox.data = .fields vs)(xh:ox.dict=none)(c:XC K C)(none_:findIn K (.ref C) n=some none)
 (k:∀ h' tk',(∀ b o,b≠x->s.heap.get? b=some o->h'.get? b=some o)->h'.get? x=some { ox with dict:=some s.heap.objs.size }->h'.Ns1 s.heap.objs.size (fun y=>if y=n then some v else none)->Q () { s with heap:=h',toks:=tk' }) :
 wpAny (model prog w) A (setAttr (.ref x) n v) Q E s:=by
 obtain⟨cd,hc,own,_⟩:=c.pass
 apply CG (od:=none) X (CI hx cl hd (by rw[xh];trivial)) c none_
 obtain⟨p1,p2,p3,osl⟩:=ox
 dsimp only at cl hd xh
 subst cl hd xh
 obtain⟨h,g,d,t,os⟩:=s
 dsimp only at hx X k
 have new:x≠h.objs.size:=Nat.ne_of_lt (Heap.lt_size hx)
 have hx2:=Heap.get?_push_of_some emptyDict hx
 unfold storeInOwnDict
 apply wpAny_bind;apply wpAny_pure
 rw[if_neg (show ¬ ((Value.ref C == Value.type "module")=true) by intro z;cases beq_iff_eq.mp z)]
 change wpAny _ _ (instanceDict x true >>= _) _ _ _
 unfold instanceDict
 apply wpAny_bind;apply wpAny_bind;apply wpAny_loadPart_at hx;dsimp only
 apply wpAny_bind;apply (looks_clsIn X hc).here (s:=⟨h,g,d,t+1,os⟩)
 rw[own,if_neg (by decide)]
 rw[if_neg (show ¬ ((!true || !typeHasDict (.ref C))=true) from Bool.false_ne_true)]
 apply wpAny_bind;apply wpAny_alloc;apply wpAny_bind;apply wpAny_update hx2;apply wpAny_pure
 have gx:((h.push emptyDict).update x fun o=>{ o with dict:=some h.objs.size }).get? x=some ⟨.ref C,some h.objs.size,.fields vs,osl⟩:=Heap.get?_update_self _ hx2 rfl
 have gd:((h.push emptyDict).update x fun o=>{ o with dict:=some h.objs.size }).get? h.objs.size=some emptyDict:=by
  rw[Heap.get?_update_other _ _ new];exact Heap.get?_push_size h rfl
 apply CH (ks:=[]) (Heap.Ns1.of_empty ⟨_, #[],_,gd,rfl,(by intro e he;exact absurd he (by simp)),fun _=>rfl⟩) Within.nil (by rw[sizeLine_eq];decide)
 intro h' tk' sb N
 refine⟨_,rfl,k h' tk' (fun b o ne e=>?_) ((sb.2 x new).trans gx) N⟩
 rw[sb.2 b (Nat.ne_of_lt (Heap.lt_size e)),Heap.get?_update_other _ _ (Ne.symm ne)]
 exact Heap.get?_push_of_some emptyDict e
theorem Ju{Q:Unit->Shared->Prop}{vs:Array Value}{dx:Addr}{mA:Str->Option Value}{ks:List Str}(X:K.In s.heap)(hx:s.heap.get? x=some ox)(cl:ox.cls = .ref C)(hd:ox.data = .fields vs)(hdx:ox.dict=some dx)(N:s.heap.Ns1 dx mA)(W:Within mA ks)(few:ks.length<sizeLine)
 (c:XC K C) (none_:findIn K (.ref C) n=some none) (k:∀ h' tk',Heap.SameBut dx s.heap h'->h'.Ns1 dx (fun y=>if y=n then some v else mA y)->Q () { s with heap:=h',toks:=tk' }):wpAny (model prog w) A (setAttr (.ref x) n v) Q E s:=by
 obtain⟨cd,hc,own,_⟩:=c.pass
 obtain⟨oD,hD,_⟩:=L2.c7 N
 apply CG (od:=some oD) X (CI hx cl hd (by rw[hdx];exact hD)) c none_
 obtain⟨p1,p2,p3,osl⟩:=ox
 dsimp only at cl hd hdx
 subst cl hd hdx
 obtain⟨h,g,d,t,os⟩:=s
 dsimp only at hx X k N
 unfold storeInOwnDict
 apply wpAny_bind;apply wpAny_pure
 rw[if_neg (show ¬ ((Value.ref C == Value.type "module")=true) by intro z;cases beq_iff_eq.mp z)]
 change wpAny _ _ (instanceDict x true >>= _) _ _ _
 unfold instanceDict
 apply wpAny_bind;apply wpAny_bind;apply wpAny_loadPart_at hx;dsimp only
 apply wpAny_bind;apply (looks_clsIn X hc).here (s:=⟨h,g,d,t+1,os⟩)
 rw[own,if_neg (by decide)]
 apply wpAny_pure
 apply CH (s:=⟨h,g,d,t+1,os⟩) N W few
 exact fun h' tk' sb N'=>⟨_,rfl,k h' tk' sb N'⟩
theorem Jv{B ini:String}{up:List Value}{Q:Value->Shared->Prop}{vs:Array Value}{as:List Value}{t0:Addr}(F:XB B ini up)(X:K.In s.heap)(I:InstAt s.heap x ox C od)(c:XC K C)(sub:mroIn K C (.type B)=some true)(hd:ox.data = .fields vs)(v0:vs[0]? = some (.ref t0))(few:as.length<=sizeLine)
 (k:∀ h',(∀ b o,b≠x->s.heap.get? b=some o->h'.get? b=some o)->h'.get? x=some { ox with data:=.fields (vs.setIfInBounds 0 (.ref s.heap.objs.size)) }->Q .none { s with heap:=h' }):wpAny (model prog w) A (call (.builtin ini) (.ref x::as)) Q E s:=by
 have CJ:Looks (model prog w) s.heap (isInstance (.ref x) (.type B)) true:=I.type.andThen (looks_mroIn X sub)
 obtain⟨cd,hc,_,_⟩:=c.pass
 have lc:=looks_clsIn (M:=model prog w) X hc
 have hx:=I.at_;have cl:=I.cls
 obtain⟨h,g,d,t,os⟩:=s
 obtain⟨p1,p2,p3,p4⟩:=ox
 dsimp only at cl hd hx CJ k
 subst cl hd
 have pos:0<vs.size:=(Array.getElem?_eq_some_iff.mp v0).1
 have hx2:=Heap.get?_push_of_some { cls:=.type "tuple",data:=.seq as.toArray } hx
 have anyArgs:∀ (a b:String) (m:Nat),Bind.check ⟨.positional,"*",B,.self,[⟨"args",.varPos,false⟩]⟩ a b m (List.map (·.fst) ({ pos:=Value.ref x::as }:Args).kw)=pure ():=fun _ _ _=>check_star_args _ _ _ _ _ _
 have last:Q .none ⟨(h.push { cls:=.type "tuple",data:=.seq as.toArray }).update x (Obj.mapFields (·.setIfInBounds 0 (.ref h.objs.size))),g,d,t,os⟩:=k _ (fun b o ne e=>by rw[Heap.get?_update_other _ _ (Ne.symm ne)];exact Heap.get?_push_of_some _ e) (Heap.get?_update_self _ hx2 rfl)
 have notStar:=F.star
 apply wpAny_call;apply codeAny_call_builtin F.slot.plain F.entry
 simp only[F.kind,F.split,F.row,checkBuiltinCall]
 apply wpAny_bind;apply CJ.here (s:=⟨h,g,d,t,os⟩)
 rw[show(!true)=false from rfl,if_neg Bool.false_ne_true]
 repeat (first | apply wpAny_onRaise | (rw[anyArgs];apply wpAny_pure) | (apply wpAny_bind;apply lc.here (s:=⟨h,g,d,t,os⟩)) | wp_step)
 rw[v0]
 apply wpAny_pure;apply wpAny_bind
 apply wpAny_setField hx2 rfl pos
 dsimp only
 repeat (first | exact last | wp_step)
end
end Ex
namespace Ex
open PySem PySem.Spec PyProof.Rows PySem.W PySem.Calls
noncomputable def nj(h:Heap)(e:Addr)(m:Value):Option Addr->Prop
 |none=>∃ oe vs,h.get? e=some oe/\oe.data = .fields vs/\vs[1]? = some .none
 |some T=>∃ oe vs oT ts,h.get? e=some oe/\oe.data = .fields vs/\vs[1]? = some (.ref T)/\T≠e/\h.get? T=some oT/\oT.data = .fields ts/\ts[3]? = some m
structure Step(fr:List Addr)(e:Addr)(tb:Option Addr)(h h':Heap):Prop where
 keep:∀ b o,h.get? b=some o->b≠e->tb≠some b->b ∉ fr->h'.get? b=some o
 slot:∀ b o,h.get? b=some o->b≠e->tb≠some b->∃ sl,h'.get? b=some { o with slots:=sl }
 exc:∀ oe vs,h.get? e=some oe->oe.data = .fields vs->∃ vs':Array Value,h'.get? e=some { oe with data:=.fields vs' }/\vs'[0]? = vs[0]? /\ vs'.size=vs.size
 there:∀ b o,h.get? b=some o->∃ o',h'.get? b=some o'
theorem Jw{o:Obj}{vs:Array Value}(hd:o.data = .fields vs)(f:Array Value->Array Value):o.mapFields f={ o with data:=.fields (f vs) }:=by
 cases o with
 |mk c d dt sl=>cases hd;rfl
theorem uf{h:Heap}{a:Addr}{o:Obj}{vs:Array Value}(e:h.get? a=some o)(hd:o.data = .fields vs)(i:Nat)(v:Value) :
 (h.update a (Obj.mapFields (·.setIfInBounds i v))).get? a=some { o with data:=.fields (vs.setIfInBounds i v) }:=by
 rw[<- Jw hd (·.setIfInBounds i v)]
 exact Heap.get?_update_self _ e (Obj.isFreed_of_fields (Obj.data_mapFields hd _))
section
variable{M:Model}{A:Around}{E:Value->Shared->Prop}{s:Shared}{env:Env}{outer:List Env}{base:Heap}{L e:Addr}
theorem CK{oe:Obj}{vs:Array Value}{hd0:Value}{more:Bool}{Q:Unit->Shared->Prop}(fr:A.frames=some (env::outer))(ff:s.heap.FunFrames base (env::outer))(at_:env.frame=some L)(he:s.heap.get? e=some oe)(hd:oe.data = .fields vs)(two:1<vs.size)
 (k:∀ h' T,Step (L2.frs (env::outer)) e none s.heap h'->s.heap.objs.size<=T->nj h' e (rawInt L) (some T)->Q () { s with heap:=h' }) :
 wpAny M A (do let fo <- frameOf env;let pl <- entryPlaceOf L more;let en <- EntryCells.newEntry hd0 fo .none (rawInt L) .none pl;setField (.ref e) 1 en) Q E s:=by
 have Jx:e ∉ L2.frs (env::outer):=fun m=>let ⟨_,o,ho,no⟩:=ff.mem m;no vs (by rw[he] at ho;cases ho;exact hd)
 apply wpAny_bind;apply wpAny_frameOf_fun fr ff at_
 rintro h1 ⟨sz,same,CL⟩
 apply wpAny_bind;apply wpAny_entryPlaceOf;intro pl qQ
 delta EntryCells.newEntry newFields
 apply wpAny_bind;apply wpAny_newObj_type _ (qQ.sizeOk5 _ _ _ _ _)
 generalize eN:({ cls:=.type "traceback",dict:=none,data:=.fields ([hd0,.ref L,.none,rawInt L,.none]++(if pl.isEmpty then List.replicate 6 Value.none else pl)).toArray }:Obj)=en
 have e1:h1.get? e=some oe:=(same e Jx).trans he
 have ne:h1.objs.size≠e:=fun z=>absurd (Heap.lt_size e1) (by rw[z];exact Nat.lt_irrefl _)
 have e2:=uf (Heap.get?_push_of_some en e1) hd 1 (.ref h1.objs.size)
 have oth:∀ b o,b≠e->h1.get? b=some o->((h1.push en).update e (Obj.mapFields (·.setIfInBounds 1 (.ref h1.objs.size)))).get? b=some o:=fun b o nb z=>by
  rw[Heap.get?_update_other _ _ (Ne.symm nb)];exact Heap.get?_push_of_some en z
 have xi:((h1.push en).update e (Obj.mapFields (·.setIfInBounds 1 (.ref h1.objs.size)))).get? h1.objs.size=some en:=by
  rw[Heap.get?_update_other _ _ (Ne.symm ne)];exact Heap.get?_push_size h1 (by rw[<- eN];rfl)
 apply wpAny_setField (Heap.get?_push_of_some en e1) hd two
 apply k _ h1.objs.size
 · constructor
   · exact fun b o z nb _ nf=>oth b o nb ((same b nf).trans z)
   · intro b o z nb _
     obtain⟨sl,z'⟩:=CL b o z
     exact⟨sl,oth b _ nb z'⟩
   · intro oe' vs' z zd
     cases he.symm.trans z
     cases hd.symm.trans zd
     exact⟨_,e2,Array.getElem?_setIfInBounds_ne (by decide),Array.size_setIfInBounds⟩
   · intro b o z
     by_cases nb:b=e
     · rw[nb];exact⟨_,e2⟩
     · obtain⟨sl,z'⟩:=CL b o z
       exact⟨_,oth b _ nb z'⟩
 · rw[sz];exact Nat.le_refl _
 · refine⟨_,_,_,_,e2,rfl,by simp[two],ne,xi,by rw[<- eN],?_⟩
   rcases qQ with z | ⟨_,_,_,_,_,_,_,z⟩<;>subst z<;>rfl
theorem CM{tb:Option Addr}{Q:Unit->Shared->Prop}(fr:A.frames=some (env::outer))(ff:s.heap.FunFrames base (env::outer))(at_:env.frame=some L)(F:nj s.heap e .none tb)(two:∀ oe vs,s.heap.get? e=some oe->oe.data = .fields vs->1<vs.size)
 (k:∀ h' T,Step (L2.frs (env::outer)) e tb s.heap h'->s.heap.objs.size<=T->nj h' e (rawInt L) (some T)->Q () { s with heap:=h' }):wpAny M A (noteFrame (.ref e) env) Q E s:=by
 unfold noteFrame
 rw[at_]
 dsimp only
 cases tb with
 |none =>
   obtain⟨oe,vs,he,hd,v1⟩:=F
   apply wpAny_bind;apply wpAny_field he hd v1
   rw[if_neg (show ¬ ((Value.none != Value.none)=true) by decide)]
   exact CK fr ff at_ he hd (two _ _ he hd) k
 |some T =>
   obtain⟨oe,vs,oT,ts,he,hd,v1,nT,hT,hdT,t3⟩:=F
   have oth:∀ b,b≠T->(s.heap.update T (Obj.mapFields (·.setIfInBounds 3 .none))).get? b=s.heap.get? b:=fun b z=>Heap.get?_update_other _ _ (Ne.symm z)
   have Jy:∀ b o,s.heap.get? b=some o->(∀ vs,o.data ≠ .fields vs)->b≠T:=fun b o z no q=>by subst q;cases hT.symm.trans z;exact no ts hdT
   apply wpAny_bind;apply wpAny_field he hd v1
   rw[if_pos (show(Value.ref T != Value.none)=true by rfl)]
   apply wpAny_bind;apply wpAny_field hT hdT t3
   rw[if_neg (show ¬ ((Value.none == rawInt L)=true) by intro z;cases beq_iff_eq.mp z)]
   apply wpAny_bind;apply wpAny_setField hT hdT (Array.getElem?_eq_some_iff.mp t3).1
   apply CK (s:={ s with heap:=s.heap.update T (Obj.mapFields (·.setIfInBounds 3 .none)) }) fr (ff.of_keeps fun b o z no=>⟨o,(oth b (Jy b o z no)).trans z,rfl⟩) at_ ((oth e (Ne.symm nT)).trans he) hd (two _ _ he hd)
   intro h' T' S le F'
   apply k h' T' _ (by rw[Heap.size_after_update] at le;exact le) F'
   have via:∀ b,some T≠some b->b≠T:=fun b z q=>z (by rw[q])
   constructor
   · exact fun b o z nb nt nf=>S.keep b o ((oth b (via b nt)).trans z) nb (by intro q;cases q) nf
   · exact fun b o z nb nt=>S.slot b o ((oth b (via b nt)).trans z) nb (by intro q;cases q)
   · exact fun oe' vs' z zd=>S.exc oe' vs' ((oth e (Ne.symm nT)).trans z) zd
   · intro b o z
     by_cases q:b=T
     · rw[q];exact S.there T _ (uf hT hdT 3 .none)
     · exact S.there b o ((oth b q).trans z)
theorem xj{T:Addr}{m:Value}{Q:Unit->Shared->Prop}(F:nj s.heap e m (some T))
 (k:∀ h',(∀ b,b≠T->h'.get? b=s.heap.get? b)->nj h' e .none (some T)->Q () { s with heap:=h' }):wpAny M A (setFlight (.ref e) none) Q E s:=by
 obtain⟨oe,vs,oT,ts,he,hd,v1,nT,hT,hdT,t3⟩:=F
 have l3:3<ts.size:=(Array.getElem?_eq_some_iff.mp t3).1
 have oth:∀ b,b≠T->(s.heap.update T (Obj.mapFields (·.setIfInBounds 3 .none))).get? b=s.heap.get? b:=fun b z=>Heap.get?_update_other _ _ (Ne.symm z)
 unfold setFlight
 apply wpAny_bind;apply wpAny_field he hd v1
 rw[if_pos (show(Value.ref T != Value.none)=true by rfl)]
 apply wpAny_setField hT hdT l3
 exact k _ oth ⟨oe,vs,_,_,(oth e (Ne.symm nT)).trans he,hd,v1,nT,uf hT hdT 3 .none,rfl,by simp[l3]⟩
end
end Ex
namespace L2
open PySem PySem.Spec PyProof.Rows Ex
noncomputable def bV(C e:Addr)(dd:Option Addr)(fr:Bool):HO:=.ext fun h=>∃ oe vs t0,h.get? e=some oe/\oe.cls = .ref C/\oe.dict=dd/\oe.data = .fields vs/\vs[0]? = some (.ref t0)/\1<vs.size/\(fr=true->vs[1]? = some .none)
noncomputable def jE(d:Addr)(fs:List (Str×V)):HO:=.ext fun h=>∃ mA,h.Ns1 d mA/\(∀ f,cw (fs.lookup f) (mA f))/\PySem.Within mA (fs.map (·.1))
section
variable{P:Program}{w:World}{H:Hp}{h:Heap}{e C d:Addr}{dd:Option Addr}{fr:Bool}{fs:List (Str×V)}
theorem pC{oe:Obj}{vs:Array Value}{t0:Addr}(he:h.get? e=some oe)(hc:oe.cls = .ref C)(hdd:oe.dict=dd)(hd:oe.data = .fields vs)(h0:vs[0]? = some (.ref t0))(hs:1<vs.size)(hf:fr=true->vs[1]? = some .none) :
 aD P w H h e (bV C e dd fr) :=
 ⟨⟨oe,vs,t0,he,hc,hdd,hd,h0,hs,hf⟩,⟨oe,he⟩,fun _ _ ⟨oe,vs,t0,he,r⟩ k=>⟨oe,vs,t0,k _ he,r⟩⟩
theorem CN{mA:Str->Option Value}(hn:h.Ns1 d mA)(hr:∀ f,cw (fs.lookup f) (mA f))(hw:PySem.Within mA (fs.map (·.1))):aD P w H h d (jE d fs) :=
 ⟨⟨mA,hn,hr,hw⟩,let ⟨o,_,_,q,_⟩:=hn; ⟨o,q⟩,fun _ _ ⟨mA,⟨o,es,ep,q,r⟩,r2⟩ k=>⟨mA,⟨o,es,ep,k _ q,r⟩,r2⟩⟩
theorem kZ(ok:bZ P w H h)(q:H e=some (bV C e dd fr)):∃ oe vs t0,h.get? e=some oe/\oe.cls = .ref C/\oe.dict=dd/\oe.data = .fields vs/\vs[0]? = some (.ref t0)/\1<vs.size/\(fr=true->vs[1]? = some .none):=(ok _ _ q).1
theorem xk(ok:bZ P w H h)(q:H d=some (jE d fs)):∃ mA,h.Ns1 d mA/\(∀ f,cw (fs.lookup f) (mA f))/\PySem.Within mA (fs.map (·.1)):=(ok _ _ q).1
end
structure Jz(X:Cx)(pins:List (Addr×Obj))(H:Hp)(s:Shared)(e C:Addr):Prop where
 ex:∃ dd,H e=some (bV C e dd false)
 lo:X.s₀.heap.objs.size<=e
 tr:∃ tb,nj s.heap e .none tb/\∀ T,tb=some T->H T=none/\X.s₀.heap.objs.size<=T/\∀ p∈X.pn++pins,p.1≠T
noncomputable abbrev a9:=St->XK
noncomputable def XOk(X:Cx)(EE:a9):Prop:=∀ (pins:List (Addr×Obj)) (σ:St) (H:Hp) (s:Shared) (e C:Addr),Inv X pins σ H s->Jz X pins H s e C->EE σ (.ref C) (some e) H->X.xe (.ref e) s
noncomputable def fP(P:Program)(w:World):jc:=fun outer H s E ev s'=>∃ e C H',ev = .ref e/\s'.os=s.os/\AllBare s'.gens/\Un (frs outer) [] H H' s.heap s'.heap/\bZ P w H' s'.heap /\
 (∃ dd,H' e=some (bV C e dd false))/\s.heap.objs.size<=e/\(∃ tb,nj s'.heap e .none tb/\∀ T,tb=some T->H' T=none/\s.heap.objs.size<=T)/\E (.ref C) (some e) H'
theorem xm{X:Cx}{EE:a9}(hX:XOk X EE){pins:List (Addr×Obj)}{σ:St}{H:Hp}{s s':Shared}{ev:Value}(I:Inv X pins σ H s)(h:fP X.prog X.w X.stack H s (EE σ) ev s'):X.xe ev s':=by
 obtain⟨e,C,H',rfl,os,bare,un,hok,ex,lo,⟨tb,F,hT⟩,q⟩:=h
 have I':Inv X pins σ H' s':=I.jR (ch:=[]) os un hok bare fun b z=>absurd z (by simp)
 refine hX pins σ H' s' e C I' ⟨ex,Nat.le_trans I.sz lo,tb,F,fun T z=>⟨(hT T z).1,Nat.le_trans I.sz (hT T z).2,fun p hp=>?_⟩⟩ q
 have lt:=Heap.lt_size (I.pin p hp).1
 have:=(hT T z).2
 exact Nat.ne_of_lt (Nat.lt_of_lt_of_le lt this)
section
variable{P:Program}{w:World}{K:W.Frag}{mg:Str->Option Value}{base:Heap}{N:List Str}{qual:Str}{scope:Scope}{f:Addr}{cd:Value}{A:Around}{outer:List Env}{s:Shared}{H:Hp}{E:XK}
theorem xn:XOk (gj (fP P w) P w K mg base N qual scope f cd A outer s H E) (fun _=>E):=by
 intro pins σ H1 s1 e C I T q
 obtain⟨⟨dd,ex⟩,lo,tb,F,hT⟩:=T
 show wpAny (model P w) (A.deeper (envOfC qual scope s.heap.objs.size f cd)) (leaving (envOfC qual scope s.heap.objs.size f cd) (.ref e)) (fun _ s''=>fP P w outer H s E (.ref e) s'') (fun e' s''=>fP P w outer H s E e' s'') s1
 have hfr:(A.deeper (envOfC qual scope s.heap.objs.size f cd)).frames=some (envOfC qual scope s.heap.objs.size f cd::outer):=I.ok.frames
 have hl:s1.heap.FunFrames base (envOfC qual scope s.heap.objs.size f cd::outer):=I.stack
 obtain⟨oe,vs,t0,he,hc,hdd,hd,h0,hsz,_⟩:=kZ I.hok ex
 have s0:∀ b o,s.heap.get? b=some o->b≠e/\tb≠some b/\b≠s.heap.objs.size:=fun b o z=>by
  have lt:=Heap.lt_size z
  refine⟨Nat.ne_of_lt (Nat.lt_of_lt_of_le lt lo),fun y=>?_,Nat.ne_of_lt lt⟩
  exact Nat.lt_irrefl _ (Nat.lt_of_lt_of_le lt (hT b y).2.1)
 unfold leaving
 refine wpAny_bind (CM (L:=s.heap.objs.size) hfr hl rfl F (fun oe' vs' a b=>by rw[he] at a;cases a;rw[hd] at b;cases b;exact hsz) fun h' T' S hle FF=>?_)
 refine xj (s:={ s1 with heap:=h' }) FF fun h'' oth F2=>?_
 have JA:s.heap.objs.size<=s1.heap.objs.size:=I.sz
 have hT':∀ b o,s1.heap.get? b=some o->b≠T':=fun b o z=>Nat.ne_of_lt (Nat.lt_of_lt_of_le (Heap.lt_size z) hle)
 have fresh:H1 T'=none:=I.hok.fresh hle
 have keep:∀ b o,s1.heap.get? b=some o->b≠e->tb≠some b->b ∉ frs (envOfC qual scope s.heap.objs.size f cd::outer)->h''.get? b=some o:=fun b o z a1 a2 a3=>(oth b (hT' b o z)).trans (S.keep b o z a1 a2 a3)
 have qR:∀ b,b∈frs (envOfC qual scope s.heap.objs.size f cd::outer)->b=s.heap.objs.size\/b∈frs outer:=fun b hb=>by
  unfold frs at hb ⊢
  rw[List.filterMap_cons] at hb
  rcases List.mem_cons.mp hb with z | z
  · exact .inl z
  · exact .inr z
 have tracked:∀ b u,H1 b=some u->b ∉ frs (envOfC qual scope s.heap.objs.size f cd::outer):=fun b u z hb=>by
  have n:H1 b=none:=I.dP b hb
  rw[z] at n
  cases n
 refine⟨e,C,H1,rfl,I.os,I.bare,⟨fun b o z n hb hx=>?_,fun b o z n hb hx=>?_,I.base.free,fun b o z hx=>?_,I.base.tups,I.base.dF,I.base.dZ⟩,fun b u z=>?_,⟨dd,ex⟩,lo,⟨some T',F2,fun T z=>?_⟩,q⟩
 · obtain⟨a1,a2,a3⟩:=s0 b o z
   exact keep b o (I.base.keep b o z n hb hx) a1 a2 fun y=>(qR b y).elim a3 hb
 · obtain⟨a1,a2,a3⟩:=s0 b o z
   obtain⟨sl,e1⟩:=I.base.slot b o z n hb hx
   obtain⟨sl2,e2⟩:=S.slot b _ e1 a1 a2
   exact⟨sl2,(oth b (hT' b _ e1)).trans e2⟩
 · obtain⟨o',e1⟩:=I.base.there b o z hx
   obtain⟨o2,e2⟩:=S.there b o' e1
   exact⟨o2,(oth b (hT' b _ e1)).trans e2⟩
 · by_cases hb:b=e
   · subst hb
     rw[ex] at z
     cases z
     obtain⟨vs',e1,e2,e3⟩:=S.exc oe vs he hd
     exact pC ((oth b (hT' b _ he)).trans e1) hc hdd rfl (by rw[e2];exact h0) (by rw[e3];exact hsz) fun z=>nomatch z
   · refine(I.hok b u z).stay (fun c v hcv r=>?_) (fun _ r=>r) fun _ _ r=>r
     have ne:c≠e:=by
      rcases hcv with rfl | hcv
      · exact hb
      · exact m7 hcv ex (by intro y;cases y)
     have tr:∃ u',H1 c=some u':=by
      rcases hcv with rfl | hcv
      · exact⟨_,z⟩
      · exact⟨_,hcv⟩
     obtain⟨u',hu'⟩:=tr
     exact keep c v r ne (fun y=>by have:=(hT c y).1;rw[hu'] at this;cases this) (tracked c u' hu')
 · cases z
   exact⟨fresh,Nat.le_trans JA hle⟩
end
end L2
namespace Ex
open PySem PySem.Spec PyProof.Rows PySem.W PySem.Calls Builtin Builtin.ObjectAttr
noncomputable def CO(K:Frag)(h:Heap)(e:Addr):Prop:=∃ oe vs C oC,h.get? e=some oe/\oe.cls = .ref C/\mroIn K C (.type "BaseException")=some true/\K.lookup C=some oC/\oC.cls = .type "type" /\ oe.data = .fields vs/\vs[1]? = some .none
theorem xo{M:Model}{A:Around}{E:Value->Shared->Prop}{s:Shared}{env:Env}{K:Frag}{x:Sem Value}{Q:Flow->Shared->Prop}(calm:A.handled=none)
 (k:wpAny M A x (fun v s'=>∃ e,v = .ref e/\K.In s'.heap/\CO K s'.heap e/\E v s') E s):wpAny M A (raiseStmt env (some x) none) Q E s:=by
 delta raiseStmt
 apply wpAny_bind;apply wpAny_mono k _ fun _ _ z=>z
 rintro v ⟨h,g,d,t,os⟩ ⟨e,rfl,X,⟨⟨c1,c2,c3,c4⟩,vs,C,⟨d1,d2,d3,d4⟩,he,hc,sub,hC,ht,hd,v1⟩,last⟩
 dsimp only at X he hc hd ht
 subst hc hd ht
 have LS:=looks_mroIn (M:=M) X sub
 have hC':=X _ _ hC
 repeat (first | (with_reducible apply wpAny_loadPart_at hC') | (with_reducible apply wpAny_loadPart_at he) | (with_reducible apply LS.here (s:=⟨h,g,d,t,os⟩)) | rw[v1] | wp_step)
 exact wpAny_raiseNew_none calm last
end Ex
namespace L2
open PySem PySem.Spec PyProof.Rows Ex
noncomputable def JB(K:W.Frag)(ta:TE)(f:Str):TE:=fun σ H Q=>ta σ H fun x H1=>∃ a C d fr fs v,x = .ref a/\H1 a=some (bV C a (some d) fr)/\H1 d=some (jE d fs)/\XC K C/\aU K C f/\fs.lookup f=some v/\Q v H1
noncomputable def JC(K:W.Frag)(ta tv:TE)(f:Str):TS:=fun D σ H=>tv σ H fun y H1=>ta σ H1 fun x H2=>∃ a C fr,x = .ref a/\XC K C/\aU K C f /\
 ((H2 a=some (bV C a none fr)/\∀ d,H2 d=none->d≠a->D.nx σ (upd (upd H2 d (jE d [(f,y)])) a (bV C a (some d) fr))) \/
  (∃ d fs,H2 a=some (bV C a (some d) fr)/\H2 d=some (jE d fs)/\fs.length<1000/\D.nx σ (upd H2 d (jE d (gi f y fs)))))
section
variable{X:Cx}{o e value:Expr}{f:Str}{pos pos' tpos:Pos}{ta tv:TE}
theorem ug{K:W.Frag}{P:Program}{w:World}{H:Hp}{h:Heap}{a C:Addr}{dd:Option Addr}{fr:Bool}(ok:bZ P w H h)(q:H a=some (bV C a dd fr))(hdd:∀ d,dd=some d->∃ o,h.get? d=some o) :
 ∃ ox od,W.InstAt h a ox C od/\ox.dict=dd/\(∀ d,dd=some d->∃ o,od=some o/\h.get? d=some o):=by
 obtain⟨oe,vs,t0,he,hc,hd,hda,_⟩:=kZ ok q
 have hn:W.notCls oe=true:=by unfold W.notCls;rw[hda]
 cases dd with
 |none=>exact⟨oe,none,⟨he,hc,hn,by rw[hd];trivial⟩,hd,fun d z=>nomatch z⟩
 |some d =>
   obtain⟨o,ho⟩:=hdd d rfl
   exact⟨oe,some o,⟨he,hc,hn,by rw[hd];exact ho⟩,hd,fun d' z=>by cases z;exact⟨o,rfl,ho⟩⟩
theorem JD(he:PE X e ta)(hb:attributeBase e f X.env (eval e X.env)=eval e X.env):PE X (.Attribute e f pos) (JB X.K ta f):=by
 intro pins s σ H Q I h
 refine BZ hb (aL (he pins s σ H _ I h) fun u s1 ⟨x,H1,I1,rx,a,C,d,fr,fs,v,ex,ea,ed,c,n,l,q⟩=>?_)
 subst ex
 obtain rfl:u=Value.ref a:=rx
 obtain⟨mA,hn,hr,_⟩:=xk I1.hok ed
 obtain⟨od,ho,hlk⟩:=c7 hn
 obtain⟨ox,od',uh,_,hod⟩:=ug (K:=X.K) I1.hok ea fun d' z=>by cases z;exact⟨od,ho⟩
 obtain⟨o2,e2,ho2⟩:=hod d rfl
 rw[ho] at ho2
 cases ho2
 subst e2
 obtain⟨u,hu,ru⟩:=cw.some_of (v:=v) (o:=mA f) (by rw[<- l];exact hr f)
 obtain⟨cd,hcd,JE,_⟩:=c.pass
 have hf:W.findObj X.K C (some od) f=some (.value u):=W.findObj_own (by unfold W.hasDictIn;rw[hcd];exact JE) n rfl (by rw[hlk,hu])
 exact Jp I1.bf uh c hf (BY ru) ⟨v,H1,I1.tok _,ru,q⟩
theorem JF(ha:PE X o ta)(hv:PE X value tv)(hs:swapsWith value (some (.Attribute o f pos')) pos.line X.env=pure false):PS X (.Assign [.Attribute o f pos'] value pos) (JC X.K ta tv f):=by
 intro pins s σ H D I h
 refine plainObj_wpAny_Assign_Attribute (aL (hv pins s σ H _ I h) fun u s1 ⟨y,H1,I1,ry,q⟩=>aL (ha pins s1 σ H1 _ I1 q) fun ov s2 ⟨x,H2,I2,rx,a,C,fr,ex,c,n,q2⟩=>?_) hs
 subst ex
 obtain rfl:ov=Value.ref a:=rx
 rcases q2 with ⟨ea,k⟩ | ⟨d,fs,ea,ed,hl,k⟩
 · obtain⟨oe,vs,t0,he,hc,hd,hda,h0,hsz,hfr⟩:=kZ I2.hok ea
   have na:s2.heap.objs.size≠a:=Nat.ne_of_gt (Heap.lt_size he)
   refine Jt I2.bf he hc hda hd c n fun h' tk' kp hx hn=>?_
   refine⟨σ,_,?_,k s2.heap.objs.size (I2.hok.fresh (Nat.le_refl _)) na⟩
   have fresh:H2 s2.heap.objs.size=none:=I2.hok.fresh (Nat.le_refl _)
   have hdn:∃ o,h'.get? s2.heap.objs.size=some o:=let ⟨o,_,_,z,_⟩:=hn; ⟨o,z⟩
   have od:∀ (G:Hp),aD X.prog X.w G h' s2.heap.objs.size (jE s2.heap.objs.size [(f,y)]):=fun G=>CN hn (fun g=>by
    show cw (List.lookup g [(f,y)]) (if g=f then some u else none)
    rw[List.lookup_cons]
    by_cases z:g=f
    · subst z;rw[if_pos rfl];simp only[beq_self_eq_true];exact ry
    · have z':(g == f)=false:=by simpa using z
      rw[if_neg z,z'];exact True.intro) (fun g hg=>by
    have z:g=f:=by
     by_cases z:g=f
     · exact z
     · exact absurd (if_neg z) hg
    rw[z];simp)
   have oe':∀ (G:Hp),aD X.prog X.w G h' a (bV C a (some s2.heap.objs.size) fr):=fun G=>pC hx hc rfl hda h0 hsz hfr
   have un:Un X.fs [] H2 (upd (upd H2 s2.heap.objs.size (jE s2.heap.objs.size [(f,y)])) a (bV C a (some s2.heap.objs.size) fr)) s2.heap h':=by
    have ne:∀ b,H2 b=none->b≠a:=fun b z e=>by rw[e,ea] at z;cases z
    refine⟨fun b ob z z2 _ _=>kp b ob (ne b z2) z,fun b ob z z2 _ _=>⟨ob.slots,kp b ob (ne b z2) z⟩,fun b ob z z2 _=>?_,fun b ob z _=>?_,fun b xs z=>?_,fun b ob xs z=>?_,fun b ps z=>⟨#[],?_⟩⟩
    · rw[aV (ne b z2),aV (Nat.ne_of_lt (Heap.lt_size z))];exact z2
    · by_cases hb:b=a
      · subst hb;exact⟨_,hx⟩
      · exact⟨ob,kp b ob hb z⟩
    · rw[aV (m7 z ea (by intro y;cases y)),aV (eR z fresh)];exact z
    · rw[aV (m7 z ea (by intro y;cases y)),aV (eR z fresh)];exact z
    · rw[aV (m7 z ea (by intro y;cases y)),aV (eR z fresh),z];simp
   refine I2.un un fun b ob z=>?_
   by_cases hb:b=a
   · subst hb;rw[cJ] at z;cases z;exact oe' _
   · rw[aV hb] at z
     by_cases hb2:b=s2.heap.objs.size
     · subst hb2;rw[cJ] at z;cases z;exact od _
     · rw[aV hb2] at z
       refine(I2.hok b ob z).stay (fun c v hcv r=>kp c v ?_ r) (fun c r=>?_) fun c xs r=>?_
       · rcases hcv with rfl | hcv
         · exact hb
         · exact m7 hcv ea (by intro y;cases y)
       · rw[aV (m7 r ea (by intro y;cases y)),aV (eR r fresh)];exact r
       · rw[aV (m7 r ea (by intro y;cases y)),aV (eR r fresh)];exact r
 · obtain⟨oe,vs,t0,he,hc,hd,hda,h0,hsz,hfr⟩:=kZ I2.hok ea
   obtain⟨mA,hn,hr,hw⟩:=xk I2.hok ed
   refine Ju I2.bf he hc hda hd hn hw (by rw[List.length_map,sizeLine_eq];omega) c n fun h' tk' sb hn'=>?_
   refine⟨σ,_,I2.write (x:=d) (e:=d) (by rw[ed];exact True.intro) (.inl rfl) (fun b q hb z=>(sb.2 b hb).trans z) (let ⟨o,_,_,z,_⟩:=hn'; ⟨o,z⟩) ?_,k⟩
   refine CN hn' (fun g=>?_) fun g hg=>?_
   · show cw ((gi f y fs).lookup g) (if g=f then some u else mA g)
     rw[wX]
     by_cases q:g=f
     · rw[if_pos q,if_pos q];exact ry
     · rw[if_neg q,if_neg q];exact hr g
   · by_cases q:g=f
     · rw[q];exact(qI f y fs).1
     · refine(qI f y fs).2 g (hw g fun z=>hg ?_)
       show(if g=f then some u else mA g)=none
       rw[if_neg q];exact z
end
structure nk(h h':Heap)(e C:Addr):Prop where
 keeps:∀ c u,h.get? c=some u->h'.get? c=some u
 le:h.objs.size<=e
 obj:∃ t0,h'.get? e=some { cls:=.ref C,data:=.fields #[.ref t0,.none,.none,.none,.bool false,.none] }
noncomputable def XMk(K:W.Frag)(C fI:Addr):Prop:=∀ (prog:Program) (w:World) (A:Around) (E:Value->Shared->Prop) (s:Shared) (rest:List Value) (Q:Value->Shared->Prop),K.In s.heap->rest.length<=sizeLine ->
 (∀ h' e,nk s.heap h' e C->wpAny (model prog w) (A.under (.builtin "type.__call__" ⟨.ref C::rest,[]⟩)) (call (.ref fI) (.ref e::rest)) (fun r s'=>r = .none/\Q (.ref e) s') E { s with heap:=h' }) ->
 wpAny (model prog w) A (call (.ref C) rest) Q E s
structure qS(K:W.Frag)(C:Addr):Prop where
 xc:XC K C
 mt:∃ oC,K.lookup C=some oC/\oC.cls = .type "type"
 kp:W.keepIn K (.ref C)=true
section
variable{X:Cx}{k:Nat}{fI C:Addr}{fd:FuncData}{ps:List Str}{sp:Sp}{dvs:List V}{ds:List Value}{x:Str}{p pos cpos apos:Pos}{e:Expr}{es:List Expr}{t:TA}{EE:a9}
theorem Inv.exc{pins:List (Addr×Obj)}{σ:St}{H:Hp}{s:Shared}{h':Heap}{a:Addr}(I:Inv X pins σ H s)(m:nk s.heap h' a C)(fr:Bool) :
 Inv X pins σ (upd H a (bV C a none fr)) { s with heap:=h' }:=by
 obtain⟨t0,he⟩:=m.obj
 exact I.laid (a:=a) (o:=bV C a none fr) (t':=s.toks) m.keeps m.le (pC he rfl rfl rfl rfl (by simp) fun _=>rfl)
theorem JG{pins:List (Addr×Obj)}{σ:St}{H:Hp}{s:Shared}{Q:VK}{us:List Value}{vs:List V}(M:XMk X.K C fI)(F:a8 X.prog X.w X.K X.mg X.base eK k fI fd ps sp)(hr:ax (k+1) X.A)(hb:Binds X.K fd ps ds)(hd:Vals dvs ds)
 (I:Inv X pins σ H s) (r:Vals vs us) (hlen:vs.length<=1000)
 (h:∀ a,H a=none->sp (.ref a::(vs++dvs)) (upd H a (bV C a none true)) (fun v H2=>v = .ao/\Q (.ref a) H2) E0) :
 wpAny (model X.prog X.w) X.A (call (.ref C) us) (fun u s'=>∃ a H',u = .ref a/\Inv X pins σ H' s'/\s.heap.objs.size<=a/\Q (.ref a) H') X.xe s:=by
 refine M X.prog X.w X.A X.xe s us _ I.bf (by rw[<- r.length,sizeLine_eq];omega) fun h' a m=>?_
 have hq:=h a (I.hok.fresh m.le)
 have I2:=I.exc m true
 have r2:Vals (V.ref a::(vs++dvs)) (Value.ref a::(us++ds)):=.cons rfl (r.append hd)
 have hl:(Value.ref a::us++ds).length=ps.length:=by
  have e:=r2.length
  rw[F.len _ _ _ _ hq] at e
  exact e.symm
 refine wpAny_call (codeAny_mono (F.run _ X.stack _ _ ⟨Value.ref a::us,[]⟩ (Value.ref a::(us++ds)) _ _ E0 (hr.make C us [])
  (I2.env0.make C us []) (hb _ (Value.ref a::us) I2.bf hl) r2 hq) fun r s' hq'=>?_)
 cases r with
 |error e=>exact False.elim hq'
 |ok fl =>
   cases fl with
   |ret u =>
     obtain⟨v,H',I3,rv,ev,q3⟩:=I2.after hq'
     subst ev
     exact⟨rv,a,H',rfl,I3,m.le,q3⟩
   |next=>exact False.elim hq'
   |brk=>exact False.elim hq'
   |cont=>exact False.elim hq'
theorem JH{pins:List (Addr×Obj)}{σ:St}{H:Hp}{s:Shared}{a:Addr}{dd:Option Addr}(hX:XOk X EE)(I:Inv X pins σ H s)(hle:X.s₀.heap.objs.size<=a)(ea:H a=some (bV C a dd true))(q:EE σ (.ref C) (some a) (upd H a (bV C a dd false))):X.xe (.ref a) s:=by
 obtain⟨oe,vs,t0,he,hc,hd,hda,h0,hsz,hfr⟩:=kZ I.hok ea
 have I':Inv X pins σ (upd H a (bV C a dd false)) s:=I.write (x:=a) (e:=a) (t':=s.toks) (h':=s.heap) (by rw[ea];exact True.intro) (.inl rfl) (fun b u _ z=>z) ⟨_,he⟩ (pC he hc hd hda h0 hsz fun z=>nomatch z)
 exact hX pins σ _ s a C I' ⟨⟨dd,cJ⟩,hle,none,⟨oe,vs,he,hda,hfr rfl⟩,fun T z=>nomatch z⟩ q
noncomputable def JI(C:Addr)(sp:Sp)(dvs:List V)(EE:a9)(t:TA):TS:=fun _ σ H=>t σ H fun vs H1=>vs.length<=1000/\∀ a,H1 a=none ->
 sp (.ref a::(vs++dvs)) (upd H1 a (bV C a none true)) (fun v H2=>v = .ao/\∃ dd,H2 a=some (bV C a dd true)/\EE σ (.ref C) (some a) (upd H2 a (bV C a dd false))) E0
theorem JJ{Q:Flow->Shared->Prop}{s:Shared}{xe:Expr}{pos:Pos}(hh:X.A.handled=none)
 (h:wpAny (model X.prog X.w) X.A (eval xe X.env) (fun v aE=>∃ e,v = .ref e/\X.K.In aE.heap/\CO X.K aE.heap e/\X.xe v aE) X.xe s) :
 wpAny (model X.prog X.w) X.A (exec (.Raise (some xe) none pos) X.env) Q X.xe s:=by
 rw[arm_exec_Raise]
 first
  |exact wpAny_bind (wpAny_standAt (xo hh (wpAny_bind (wpAny_mono h (fun v aE h₁=>wpAny_bind (wpAny_standAt (wpAny_pure h₁))) fun _ _ x=>x))))
  | (simp only[evalOpt,Option.map];exact wpAny_bind (wpAny_standAt (xo hh (wpAny_bind (wpAny_mono h (fun v aE h₁=>wpAny_bind (wpAny_standAt (wpAny_pure h₁))) fun _ _ x=>x)))))
  | (show wpAny _ _ (do standAt pos;raiseStmt X.env (some (do let v <- eval xe X.env;standAt pos;pure v)) none) Q X.xe s;exact wpAny_bind (wpAny_standAt (xo hh (wpAny_bind (wpAny_mono h (fun v aE h₁=>wpAny_bind (wpAny_standAt (wpAny_pure h₁))) fun _ _ x=>x)))))
theorem JK(hX:XOk X EE)(hc:X.calm=true)(M:XMk X.K C fI)(Z:qS X.K C)(F:a8 X.prog X.w X.K X.mg X.base eK k fI fd ps sp)(hr:ax (k+1) X.A)(hg:Gl X x)(hm:X.mg x=some (.ref C))(hb:Binds X.K fd ps ds)(hd:Vals dvs ds)
 (ha:PA X (e::es) t) (hdb:(x == ("__debug__" : Str))=false:=by decide) (he:starEach (e::es) X.env=(false,eval e X.env)::starEach es X.env:=by rfl) (hpl:(backTo cpos (starEach es X.env)).any (·.1)=false:=by rfl) :
 PS X (.Raise (some (.Call (.Name x p) (e::es) [] cpos)) none pos) (JI C sp dvs EE t):=by
 intro pins s σ H D I h
 refine JJ (I.ok.hd hc) (wpAny_Call_Name_kw (nP I hg hm ?_ hdb))
 refine W.callWith_K (h₀:=X.base) I.ok.mod.m8 Z.kp (aL (ha cpos pins s σ H _ I h) fun us s1 ⟨vs,H1,I1,r,hlen,q⟩=>⟨I1.bf,?_⟩) he hpl
 refine aL (JG (Q:=fun v H2=>∃ a dd,v = .ref a/\H2 a=some (bV C a dd true)/\EE σ (.ref C) (some a) (upd H2 a (bV C a dd false))) M F hr hb hd I1 r hlen fun a na=>?_) fun u s2 ⟨a,H2,eu,I2,hle,a',dd,JL,ex,q2⟩=>?_
 · have q':=q a na
   have:(fun v H2=>v=V.ao/\∃ dd,H2 a=some (bV C a dd true)/\EE σ (.ref C) (some a) (upd H2 a (bV C a dd false)))=(fun v H2=>v=V.ao/\∃ a' dd,V.ref a=V.ref a'/\H2 a'=some (bV C a' dd true)/\EE σ (.ref C) (some a') (upd H2 a' (bV C a' dd false))):=by
    funext v H2
    apply propext
    constructor
    · rintro⟨z,dd,z1,z2⟩;exact⟨z,a,dd,rfl,z1,z2⟩
    · rintro⟨z,a',dd,z0,z1,z2⟩;cases z0;exact⟨z,dd,z1,z2⟩
   rw[<- this]
   exact q'
 · cases JL
   obtain⟨oe,ws,t0,h1,h2,h3,h4,h5,h6,h7⟩:=kZ I2.hok ex
   obtain⟨oC,m1,m2⟩:=Z.mt
   exact⟨a,eu,I2.bf,⟨oe,ws,C,oC,h1,h2,Z.xc.be,m1,m2,h4,h7 rfl⟩,by rw[eu];exact JH hX I2 (Nat.le_trans I1.sz hle) ex q2⟩
end
noncomputable def n6(K:W.Frag)(C:Addr)(up:List Value)(nw:String):Bool:=(K.lookup C).any fun o=>o.cls == .type "type" && o.slots.size == 6 && o.slots.toList[4]? == some (some (.builtin nw)) &&
 match o.data with
 | .cls cd=>cd.mro.head? == some (.ref C) && !cd.hasDel && cd.hasDict && W.tailIn K up cd.mro.tail && W.nsOkIn K cd.ns
 | _=>false
theorem JM{l:List (Option Value)}{v:Option Value}(h:l.length=6)(q:l[4]? = some v):∃ a b c d e,l=[a,b,c,d,v,e]:=by
 match l,h with
 | [a,b,c,d,x,e],_ =>
   cases q
   exact⟨a,b,c,d,e,rfl⟩
theorem CP{K:W.Frag}{C:Addr}{up:List Value}{nw:String}(q:n6 K C up nw=true) :
 ∃ tl N nm qn bs sn sub ab col dd j0 j1 j2 j3 j5,K.lookup C=some (excClassObj nm qn C N bs tl true sn sub ab col dd j0 j1 j2 j3 j5 nw)/\W.tailIn K up tl=true/\W.nsOkIn K N=true:=by
 unfold n6 at q
 cases z:K.lookup C with
 |none=>rw[z] at q;cases q
 |some o =>
   rw[z] at q
   cases o with
   |mk oc od oda osl =>
     simp only[Option.any_some,Bool.and_eq_true,beq_iff_eq] at q
     obtain⟨⟨⟨rfl,sz⟩,s4⟩,q⟩:=q
     cases oda with
     |cls cd =>
       cases cd with
       |mk nm bs mro N qn JN sn sub ab col del =>
         simp only[Bool.not_eq_true',Bool.and_eq_true,beq_iff_eq] at q
         obtain⟨⟨⟨⟨hm,rfl⟩,rfl⟩,ht⟩,hn⟩:=q
         cases mro with
         |nil=>cases hm
         |cons a tl =>
           cases hm
           obtain⟨l⟩:=osl
           obtain⟨a,b,c,d,e,rfl⟩:=JM (by simpa using sz) (by simpa using s4)
           exact⟨tl,N,nm,qn,bs,sn,sub,ab,col,od,a,b,c,d,e,rfl,ht,hn⟩
     | _=>cases q
section
variable{K:W.Frag}{C fI:Addr}{B D nw lP ini:String}{un up:List Value}
theorem JO(fn:ExcBaseFacts D nw lP un)(hD:up.contains (.type D)=true)(F:XB B ini up)(q:n6 K C up nw=true)(at_:W.findIn K (.ref C) "__init__" = some (some (.ref fI)))(isF:W.isFn K (.ref fI)=true):XMk K C fI:=by
 rintro prog w A E ⟨h,g,d,t,os⟩ as Q X few k
 obtain⟨tl,N,nm,qn,bs,sn,sub,ab,col,dd,j0,j1,j2,j3,j5,hC,ht,hn⟩:=CP q
 exact Jo fn hD F (W.tail_of_in X ht) X (X _ _ hC) at_ (W.bind_fn (X.keeps ue) _ (beq_iff_eq.mp isF)) few (k _ _ ⟨ue,Nat.le_succ _,_,CD⟩)
theorem stores{self:Value}(ok:refuseLoop self "__setattr__" up=pure ()):∀ {l:List Value},W.tailIn K up l=true->refuseLoop self "__setattr__" l=pure ()
 | [],e=>by
   have z:up=[]:=beq_iff_eq.mp e
   rw[<- z];exact ok
 |v::r,e=>by
   unfold W.tailIn at e
   cases z:((v::r) == up) with
   |true=>rw[beq_iff_eq.mp z];exact ok
   |false =>
     rw[z,Bool.false_or] at e
     cases v with
     |ref a =>
       dsimp only at e
       split at e
       · rw[Bool.and_eq_true] at e
         rw[refuseLoop_ref]
         exact stores ok e.2
       · cases e
     | _=>cases e
theorem JP(ok:∀ self,refuseLoop self "__setattr__" up=pure ())(q:n6 K C up nw=true)
 (ga:W.findIn K (.ref C) "__getattribute__" = some (some (.builtin "BaseException.__getattribute__"))) (gt:W.findIn K (.ref C) "__getattr__" = some none) (sa:W.findIn K (.ref C) "__setattr__" = some (some (.builtin "object.__setattr__")))
 (be:W.mroIn K C (.type "BaseException")=some true) (ob:W.mroIn K C (.type "object")=some true) (ca:W.findIn K (.ref C) "__class__" = some (some (.builtin "object.__class__")))
 (cg:W.specialIn K (.builtin "object.__class__") "__get__" = some (some (.builtin "getset_descriptor.__get__"))) (ct:W.takesIn K (.builtin "object.__class__")=some true) (kc:W.kitCls K (.ref C) (.ref C)=some true) (kp:W.keepIn K (.ref C)=true):qS K C:=by
 obtain⟨tl,N,nm,qn,bs,sn,sub,ab,col,dd,j0,j1,j2,j3,j5,hC,ht,hn⟩:=CP q
 exact⟨⟨ga,gt,sa,be,ob,⟨_,by unfold W.clsIn;rw[hC],rfl,fun self=>by rw[refuseLoop_ref];exact stores (ok self) ht⟩,ca,cg,ct,kc⟩,⟨_,hC,rfl⟩,kp⟩
end
noncomputable def lQ(H:Hp)(a C:Addr):Prop:=∃ fr,H a=some (bV C a none fr)\/∃ d fs,H a=some (bV C a (some d) fr)/\H d=some (jE d fs)
noncomputable def ui:V->Option Value
 | .ref a=>some (.ref a)
 | .ty n=>some (.type n)
 | _=>none
theorem JQ{c:V}{cv u:Value}(h:ui c=some cv)(r:RelV c u):u=cv:=by
 cases c<;>first | (cases h;exact r) | cases h
noncomputable def xp(K:W.Frag)(H:Hp)(x:V)(t:Value):Prop:=cy K H x t\/∃ a C,x = .ref a/\t = .ref C/\lQ H a C/\XC K C
section
variable{X:Cx}
theorem lQ.inst{P:Program}{w:World}{H:Hp}{h:Heap}{a C:Addr}(ok:bZ P w H h)(q:lQ H a C):∃ ox od,W.InstAt h a ox C od:=by
 obtain⟨fr,q | ⟨d,fs,q,q2⟩⟩:=q
 · obtain⟨ox,od,I,_⟩:=ug (K:=[]) ok q fun d z=>nomatch z
   exact⟨ox,od,I⟩
 · obtain⟨mA,hn,_⟩:=xk ok q2
   obtain⟨ox,od,I,_⟩:=ug (K:=[]) ok q fun d' z=>by cases z;exact let ⟨o,_,_,z,_⟩:=hn; ⟨o,z⟩
   exact⟨ox,od,I⟩
theorem fu:aS X (.builtin "isinstance") (fun xs H Q=>∃ x c t cv b,xs=[x,c]/\ui c=some cv/\xp X.K H x t/\W.kitOne X.K t cv=some b/\Q (.bl b) H):=by
 intro pins s σ H xs us Q I r h
 obtain⟨x,c,t,cv,b,rfl,hc,ty,e,q⟩:=h
 obtain⟨u,u2,rfl,rx,rc⟩:=Vals.two r
 cases JQ hc rc
 rcases ty with ty | ⟨a,C,rfl,rfl,ea,c⟩
 · exact ID I rx ty e fun tk=>⟨.bl b,H,I.tok _,rfl,q⟩
 · obtain rfl:u=Value.ref a:=rx
   exact W.kia_one (Js c) I.bf (ea.inst I.hok) e (fun z=>nomatch z) fun tk=>⟨.bl b,H,I.tok _,rfl,q⟩
structure xq(K:W.Frag)(b:V)(B initId:String):Prop where
 get:(∃ D,b = .ref D/\W.specialIn K (.ref D) "__getattribute__" = some (some (.builtin "type.__getattribute__"))/\W.readsIn K D (.type "type")=true/\W.findCls K (.ref D) (.type "type") "__init__" = some (.val (.builtin initId))) \/
  (∃ T,b = .ty T/\typeOf (.type T)=pure (.type "type")/\Manifest.isStub T=false/\W.findCls K (.type T) (.type "type") "__init__" = some (.val (.builtin initId)))
 hh:W.handedIn (.builtin initId)=true
 base:∃ bmB,XB B initId bmB
noncomputable def JR(K:W.Frag)(B:String)(t:TA):TE:=fun σ H Q=>t σ H fun vs H1=>∃ a C fr rest,vs = .ref a::rest/\H1 a=some (bV C a none fr)/\XC K C/\W.mroIn K C (.type B)=some true/\rest.length<=1000/\Q .ao H1
theorem JS{b:V}{B initId:String}{x:Str}{p apos pos:Pos}{e:Expr}{es:List Expr}{t:TA}{pl:Sem Bool}(hb:PE X (.Name x p) (tC b))(Z:xq X.K b B initId)(ha:PA X (e::es) t)
 (hst:starEach (e::es) X.env=(false,eval e X.env)::starEach es X.env:=by rfl) (hpl:(backTo pos (starEach es X.env)).any (·.1)=false:=by rfl)
 (ht:eval (.Call (.Attribute (.Name x p) "__init__" apos) (e::es) [] pos) X.env=(do
  let ov <- eval (.Name x p) X.env
  standAt apos.atName
  let (f,first) <- holding [ov] (getMethod ov "__init__" pl)
  callWith pos f first (backTo pos (starEach (e::es) X.env)) (backToKw pos (keywordEach [] X.env))):=by rfl) :
 PE X (.Call (.Attribute (.Name x p) "__init__" apos) (e::es) [] pos) (JR X.K B t):=by
 intro pins s σ H Q I h
 refine W.methodCall_KW (pl:=pl) (aL (hb pins s σ H (fun v H1=>v=b/\H1=H) I ⟨rfl,rfl⟩) fun u s1 ⟨x',H1,I1,rx,ex,eH⟩=>?_) ht
 subst ex eH
 obtain⟨bmB,F⟩:=Z.base
 have rest:∀ tk,wpAny (model X.prog X.w) X.A (callWith pos (.builtin initId) [] (backTo pos (starEach (e::es) X.env)) (backToKw pos (keywordEach [] X.env))) (EP X pins σ Q) X.xe { s1 with toks:=tk }:=fun tk=>by
  refine PyProof.Rows.callWith_builtin1 (aL (ha pos pins _ σ H1 _ (I1.tok tk) h) fun us s2 ⟨vs,H2,I2,r,a,C,fr,rest,ev,ea,c,hm,hl,q⟩=>?_) hst hpl
  subst ev
  cases r with
  | @cons _ u' _ us' ra rr =>
    obtain rfl:u'=Value.ref a:=ra
    obtain⟨oe,ws,t0,h1,h2,h3,h4,h5,h6,h7⟩:=kZ I2.hok ea
    obtain⟨ox,od,uh,hdd,_⟩:=ug (K:=X.K) I2.hok ea fun d z=>nomatch z
    have e1:=uh.at_
    rw[h1] at e1
    cases e1
    refine Jv F I2.bf uh c hm h4 h5 (by rw[<- rr.length,sizeLine_eq];omega) fun h' kp hx=>?_
    refine⟨.ao,H2,?_,rfl,q⟩
    have I3:=I2.write (x:=a) (e:=a) (o:=bV C a none fr) (t':=s2.toks) (h':=h') (by rw[ea];exact True.intro) (.inl rfl) (fun b u hb z=>kp b u hb z) ⟨_,hx⟩ (by
     exact pC hx h2 h3 rfl (show(ws.setIfInBounds 0 (Value.ref s2.heap.objs.size))[0]? = some (.ref s2.heap.objs.size) by have:0<ws.size:=(by omega);simp[Array.getElem?_setIfInBounds,this]) (by simp;exact h6) (fun z=>by rw[Array.getElem?_setIfInBounds_ne (by decide)];exact h7 z))
    have e2:upd H2 a (bV C a none fr)=H2:=by
     funext b
     by_cases z:b=a
     · subst z;rw[cJ,ea]
     · rw[aV z]
    rw[e2] at I3
    exact I3
 rcases Z.get with ⟨D,rfl,hg,hr,hc⟩ | ⟨T,rfl,h1,h2,hc⟩
 · obtain rfl:u=Value.ref D:=rx
   exact W.method_cls I1.bf hg (W.cls_value I1.bf hr hc Z.hh (rest _))
 · obtain rfl:u=Value.type T:=rx
   obtain⟨m,Fr⟩:=I1.fr
   exact W.method_type Fr I1.ok.mod.m8 h1 h2 hc Z.hh (rest _)
theorem uj{M:Model}{A:Around}{E:Value->Shared->Prop}{pins:List (Addr×Obj)}{σ:St}{H:Hp}{s:Shared}{i:Nat}{n:Str}{pos:Pos}{Q:Unit->Shared->Prop}(I:Inv X pins σ H s)(hN:X.N.Nodup)(hi:X.N[i]? = some n)(hl:X.env.scope.names.lookup n=some .local)
 (h:∀ s',Inv X pins (σ.set i none) H s'->Q () s'):wpAny M A (do bindName X.env n .none;unbindBehindTheSuite X.env n pos) Q E s:=by
 obtain⟨m,hn,hlk⟩:=id I.loc
 have hcls:(X.env.scope.kind == .class || (X.env.scope.kind == .module && X.env.locals != X.env.globals))=false:=by rw[I.ok.kind];rfl
 have jQ:=I.jQ
 refine wpAny_nameGoes_keeps hl hn hcls fun h' v hn' hs=>?_
 obtain⟨oL,_,_,hoL,_⟩:=id hn
 have tracked:bZ X.prog X.w H h':=fun b ob e=>by
  refine(I.hok b ob e).stay (fun c w' hc q=>(hs.2 c ?_).trans q) (fun _ q=>q) fun _ _ q=>q
  rintro rfl
  have hfree:=I.free
  rcases hc with rfl | hc
  · rw[hfree] at e;cases e
  · rw[hfree] at hc;cases hc
 refine h _ ⟨I.ok,I.os,I.bare,⟨fun b o e n hb hx=>?_,fun b o e n hb hx=>?_,I.base.free,fun b o e hx=>?_,I.base.tups,I.base.dF,I.base.dZ⟩,⟨_,hn',fun j y v' e1 e2 e3=>?_⟩,fun y c e=>?_,I.free,I.bj,fun p hp=>?_,tracked,by simpa using I.len⟩
 · exact(hs.2 b (Nat.ne_of_lt (Nat.lt_of_lt_of_le (Heap.lt_size e) I.ok.above))).trans (I.base.keep b o e n hb hx)
 · obtain⟨sl,e1⟩:=I.base.slot b o e n hb hx
   exact⟨sl,(hs.2 b (Nat.ne_of_lt (Nat.lt_of_lt_of_le (Heap.lt_size e) I.ok.above))).trans e1⟩
 · obtain⟨o',e1⟩:=I.base.there b o e hx
   exact⟨o',(hs.2 b (Nat.ne_of_lt (Nat.lt_of_lt_of_le (Heap.lt_size e) I.ok.above))).trans e1⟩
 · have lK:i<σ.length:=by rw[I.len];exact(List.getElem?_eq_some_iff.mp hi).1
   by_cases hj:j=i
   · subst hj
     rw[List.getElem?_set_self lK] at e2
     cases e2
   · rw[List.getElem?_set_ne (Ne.symm hj)] at e2
     obtain⟨u',r',q⟩:=hlk j y v' e1 e2 e3
     refine⟨u',r',?_⟩
     rcases q with ⟨k,e⟩ | ⟨k,c,e,z⟩
     · refine .inl ⟨k,?_⟩
       have:y≠n:=fun e=>hj (wB hN e1 (e ▸ hi))
       simp[this,e]
     · exact .inr ⟨k,c,e,z.sameBut hs (jQ y c e)⟩
 · obtain⟨w',z⟩:=I.cell y c e
   exact⟨w',z.sameBut hs (jQ y c e)⟩
 · obtain⟨e,n,ne,nf,d⟩:=I.pin p hp
   exact⟨(hs.2 p.1 ne).trans e,n,ne,nf,d⟩
end
end L2
namespace Ex
open PySem PySem.Spec PyProof.Rows PySem.W PySem.Calls Builtin Builtin.ObjectAttr
noncomputable def aQ(K:Frag)(C:Addr):List Value->Option Bool
 | []=>some false
 |c::r=>if fQ K c=true then (match subIn K (.ref C) c,aQ K C r with
  |some a,some b=>some (a || b)
  | _,_=>none) else none
where fQ (K:Frag) (c:Value):Bool:=kitCls K c c == some true && subIn K c (.type "BaseException") == some true
section
variable{M:Model}{A:Around}{E:Value->Shared->Prop}{s:Shared}{K:Frag}
theorem JT{c:Value}{h:Heap}(X:K.In h)(q:aQ.fQ K c=true):Looks M h (isExcClass c) true:=by
 unfold aQ.fQ at q
 rw[Bool.and_eq_true] at q
 exact(kit_cls X (beq_iff_eq.mp q.1)).2.1.andThen (looks_subIn X (beq_iff_eq.mp q.2))
theorem JU{β:Type}{l:List Value}{b:β}{f:Value->β->Sem (ForInStep β)}{Q:β->Shared->Prop}(hf:∀ c∈l,∀ R:ForInStep β->Shared->Prop,R (.yield b) s->wpAny M A (f c b) R E s)(h:Q b s):wpAny M A (forIn l b f) Q E s:=by
 induction l with
 |nil=>exact wpAny_pure h
 |cons c r ih =>
   rw[List.forIn_cons]
   refine wpAny_bind (hf c (List.mem_cons_self ..) _ ?_)
   exact ih fun c' hc'=>hf c' (List.mem_cons_of_mem _ hc')
theorem JV{C:Addr}{cs:List Value}{b:Bool}{Q:Option Bool×Unit->Shared->Prop}(X:K.In s.heap)(q:aQ K C cs=some b)(h:Q (if b then (some true,()) else (none,())) s) :
 wpAny M A (forIn cs ((none,()):Option Bool×Unit) fun c __s=>do
  let __do_lift <- isSubtype (.ref C) c
  if __do_lift=true then pure (ForInStep.done (some true,())) else pure (ForInStep.yield (none,()))) Q E s:=by
 induction cs generalizing b with
 |nil=>cases q;exact wpAny_pure h
 |cons c r ih =>
   unfold aQ at q
   split at q
   · split at q
     · rename_i a b' e1 e2
       cases q
       rw[List.forIn_cons]
       refine wpAny_bind (wpAny_bind ((looks_subIn X e1).here ?_))
       cases a with
       |true=>exact wpAny_pure (wpAny_pure h)
       |false =>
         refine wpAny_pure ?_
         exact ih e2 (by simpa using h)
     · cases q
   · cases q
theorem CQ{C:Addr}:∀ {cs:List Value} {b:Bool},aQ K C cs=some b->∀ c∈cs,aQ.fQ K c=true
 | [],_,_,c,hc=>nomatch hc
 |c::r,b,q,c',hc=>by
   unfold aQ at q
   split at q
   · rename_i hk
     split at q
     · rename_i a b' e1 e2
       cases hc with
       |head=>exact hk
       |tail _ m=>exact CQ e2 c' m
     · cases q
   · cases q
theorem JW{e C p:Addr}{cs:List Value}{b:Bool}{Q:Bool->Shared->Prop}(X:K.In s.heap)(hty:Looks M s.heap (typeOf (.ref e)) (.ref C))(hp:IsTup s.heap p cs.toArray)(q:aQ K C cs=some b)(h:Q b s) :
 wpAny M A (excMatches (.ref e) (.ref p)) Q E s:=by
 obtain⟨o,ho,hc,n,hd⟩:=hp
 unfold excMatches
 refine wpAny_bind (wpAny_isInstance (T := "tuple") ⟨o,ho,hc⟩ (b:=true) (by rw[isSubtype_type];kernel_rfl) ?_)
 have hs:seqItems? (.ref p)=seqItems? (.ref p):=rfl
 obtain⟨oc,odi,oda,osl⟩:=o
 dsimp only at hc hd
 subst hc hd
 have e0:((some cs.toArray).getD #[]).toList=cs:=by simp
 rw[if_pos rfl]
 refine wpAny_bind (m:=seqItems? (.ref p)) (wpAny_mono (Q:=fun r s'=>r=some cs.toArray/\s'=s) (E:=E) ?_ (fun r s' hr=>?_) fun _ _ x=>x)
 · unfold seqItems?
   obtain⟨h0,g,d,t,os⟩:=s
   repeat (first | with_reducible refine wpAny_loadPart_at ho ?_ | exact⟨rfl,rfl⟩ | wp_step)
 obtain⟨rfl,rfl⟩:=hr
 refine wpAny_bind (wpAny_pure ?_)
 rw[e0]
 dsimp only
 refine wpAny_bind (JU (fun c hc R hR=>?_) ?_)
 · refine wpAny_bind ((JT X (CQ q c hc)).here ?_)
   exact wpAny_pure hR
 refine wpAny_bind (hty.here (wpAny_bind (JV X q ?_)))
 cases b<;>exact wpAny_pure h
end
end Ex
namespace L2
open PySem PySem.Spec PyProof.Rows Ex
noncomputable abbrev Cx.body(X:Cx)(E':Value->Shared->Prop)(pn':List (Addr×Obj)):Cx:={ X with xe:=E',pn:=pn' }
noncomputable abbrev Cx.hand(X:Cx)(e:Value)(E':Value->Shared->Prop):Cx:={ X with A:=X.A.mark (some e),calm:=false,xe:=E' }
section
variable{X:Cx}{pins:List (Addr×Obj)}{σ:St}{H:Hp}{s:Shared}
theorem Inv.JX(I:Inv X pins σ H s)(E':Value->Shared->Prop):Inv (X.body E' (X.pn++pins)) [] σ H s :=
 ⟨⟨I.ok.mod,I.ok.kind,I.ok.glob,I.ok.blt,I.ok.above,I.ok.inj,I.ok.has,I.ok.cab,I.ok.hd,I.ok.frames,I.ok.m9,I.ok.kU,I.ok.bs,I.ok.iS,I.ok.fL,I.ok.eS,I.ok.cx,I.ok.jP⟩,I.os,I.bare,I.base,I.loc,I.cell,I.free,I.bj,
   fun p hp=>I.pin p (by simpa using hp),I.hok,I.len⟩
theorem Inv.qT{d7:List (Addr×Obj)}{E':Value->Shared->Prop}(I:Inv (X.body E' (X.pn++pins)) d7 σ H s):Inv X pins σ H s :=
 ⟨⟨I.ok.mod,I.ok.kind,I.ok.glob,I.ok.blt,I.ok.above,I.ok.inj,I.ok.has,I.ok.cab,I.ok.hd,I.ok.frames,I.ok.m9,I.ok.kU,I.ok.bs,I.ok.iS,I.ok.fL,I.ok.eS,I.ok.cx,I.ok.jP⟩,I.os,I.bare,I.base,I.loc,I.cell,I.free,I.bj,
   fun p hp=>I.pin p (List.mem_append_left _ hp),I.hok,I.len⟩
theorem Inv.JY(I:Inv X pins σ H s)(e:Value)(E':Value->Shared->Prop):Inv (X.hand e E') pins σ H s :=
 ⟨⟨I.ok.mod,I.ok.kind,I.ok.glob,I.ok.blt,I.ok.above,I.ok.inj,I.ok.has,I.ok.cab,(fun z=>nomatch z),I.ok.frames,I.ok.m9,I.ok.kU,I.ok.bs,I.ok.iS,I.ok.fL,I.ok.eS,I.ok.cx,I.ok.jP⟩,I.os,I.bare,I.base,I.loc,I.cell,I.free,I.bj,I.pin,I.hok,I.len⟩
theorem Inv.uk{e:Value}{E':Value->Shared->Prop}(I:Inv (X.hand e E') pins σ H s)(hd:X.calm=true->X.A.handled=none):Inv X pins σ H s :=
 ⟨⟨I.ok.mod,I.ok.kind,I.ok.glob,I.ok.blt,I.ok.above,I.ok.inj,I.ok.has,I.ok.cab,hd,I.ok.frames,I.ok.m9,I.ok.kU,I.ok.bs,I.ok.iS,I.ok.fL,I.ok.eS,I.ok.cx,I.ok.jP⟩,I.os,I.bare,I.base,I.loc,I.cell,I.free,I.bj,I.pin,I.hok,I.len⟩
theorem Inv.landed{e C T':Addr}{tb:Option Addr}{h' h'':Heap}(I:Inv X pins σ H s)(ex:∃ dd,H e=some (bV C e dd false))(hT:∀ T,tb=some T->H T=none/\X.s₀.heap.objs.size<=T/\∀ p∈X.pn++pins,p.1≠T)
 (xt:∀ T,tb=some T->∃ oT ts,s.heap.get? T=some oT/\oT.data = .fields ts) (S:Step (frs X.stack) e tb s.heap h') (hle:s.heap.objs.size<=T') (oth:∀ b,b≠T'->h''.get? b=h'.get? b):Inv X pins σ H { s with heap:=h'' }:=by
 obtain⟨dd,ex⟩:=ex
 obtain⟨oe,vs,t0,he,hc,hdd,hd,h0,hsz,_⟩:=kZ I.hok ex
 have hT':∀ b o,s.heap.get? b=some o->b≠T':=fun b o z=>Nat.ne_of_lt (Nat.lt_of_lt_of_le (Heap.lt_size z) hle)
 have keep:∀ b o,s.heap.get? b=some o->b≠e->tb≠some b->b ∉ frs X.stack->h''.get? b=some o:=fun b o z a1 a2 a3=>(oth b (hT' b o z)).trans (S.keep b o z a1 a2 a3)
 have tracked:∀ b u,H b=some u->b ∉ frs X.stack:=fun b u z hb=>by
  have n:=I.dP b hb
  rw[z] at n
  cases n
 have ne:∀ b,H b=none->b≠e:=fun b z y=>by rw[y,ex] at z;cases z
 refine I.jR (s':={ s with heap:=h'' }) (ch:=tb.toList) rfl ⟨fun b o z n hb hx=>?_,fun b o z n hb hx=>?_,fun b o z n _=>n,fun b o z _=>?_,fun _ _ z=>z,fun _ _ _ z=>z,fun b ps z=>⟨#[],by rw[z];simp⟩⟩ (fun b u z=>?_) I.bare fun b hb=>?_
 · exact keep b o z (ne b n) (fun y=>hx (by rw[y];simp)) hb
 · obtain⟨sl,e1⟩:=S.slot b o z (ne b n) (fun y=>hx (by rw[y];simp))
   exact⟨sl,(oth b (hT' b o z)).trans e1⟩
 · obtain⟨o2,e2⟩:=S.there b o z
   exact⟨o2,(oth b (hT' b o z)).trans e2⟩
 · by_cases hb:b=e
   · subst hb
     rw[ex] at z
     cases z
     obtain⟨vs',e1,e2,e3⟩:=S.exc oe vs he hd
     exact pC ((oth b (hT' b _ he)).trans e1) hc hdd rfl (by rw[e2];exact h0) (by rw[e3];exact hsz) fun z=>nomatch z
   · refine(I.hok b u z).stay (fun c v hcv r=>?_) (fun _ r=>r) fun _ _ r=>r
     have ne2:c≠e:=by
      rcases hcv with rfl | hcv
      · exact hb
      · exact m7 hcv ex (by intro y;cases y)
     have tr:∃ u',H c=some u':=by
      rcases hcv with rfl | hcv
      · exact⟨_,z⟩
      · exact⟨_,hcv⟩
     obtain⟨u',hu'⟩:=tr
     exact keep c v r ne2 (fun y=>by have:=(hT c y).1;rw[hu'] at this;cases this) (tracked c u' hu')
 · cases tb with
   |none=>simp at hb
   |some T =>
     have:b=T:=by simpa using hb
     subst this
     obtain⟨a1,a2,a3⟩:=hT b rfl
     obtain⟨oT,ts,g1,g2⟩:=xt b rfl
     refine⟨.inr a2,fun y=>?_,fun x c hx y=>?_,a3⟩
     · obtain⟨m,⟨o,es,ep,ho,hd',_⟩,_⟩:=I.loc
       rw[y,ho] at g1
       cases g1
       rw[hd'] at g2
       cases g2
     · obtain⟨v,o,ho,hd'⟩:=I.cell x c hx
       rw[y,g1] at ho
       cases ho
       rw[hd'] at g2
       cases g2
noncomputable def PN(X:Cx)(es:List Expr)(us:List Value):Prop :=
 ∀ (A:Around) (E:Value->Shared->Prop) (pos:Pos) (pins:List (Addr×Obj)) (σ:St) (H:Hp) (s:Shared) (Q:List Value->Shared->Prop),Inv X pins σ H s->Q us s->wpAny (model X.prog X.w) A (spliced (backTo pos (starEach es X.env))) Q E s
theorem JZ:PN X [] []:=fun _ _ _ _ _ _ _ _ _ h=>Calls.spliced_nil h
theorem xu{x:Str}{p:Pos}{es:List Expr}{u:Value}{us:List Value}(hg:Gl X x)(hm:X.mg x=some u)(hr:PN X es us)(hd:(x == ("__debug__" : Str))=false:=by decide)
 (hs:starEach (.Name x p::es) X.env=(false,eval (.Name x p) X.env)::starEach es X.env:=by rfl):PN X (.Name x p::es) (u::us):=by
 intro A E pos pins σ H s Q I h
 rw[hs]
 show wpAny _ _ (spliced ((false,eval (.Name x p) X.env)::backTo pos (starEach es X.env))) _ _ s
 refine Calls.spliced_cons (Calls.Name_function_global I.ok.kind hg (Calls.loadGlobal_global (by rw[I.ok.glob];exact I.mod.glob.keeps I.bk) hm ?_) hd)
 exact hr A E pos pins σ H s _ I h
section
variable{X:Cx}
noncomputable def CS(K:W.Frag)(cs:List Value)(i:Nat)(tb:a9->TS)(ts:TS):TS:=fun D σ H =>
 tb (fun ay cls ea H'=>∃ a C,cls = .ref C/\ea=some a/\aQ K C cs=some true /\
  ts { nx:=fun jW qU=>D.nx (jW.set i none) qU,rt:=D.rt,bk:=fun jW qU=>D.bk (jW.set i none) qU,ct:=fun jW qU=>D.ct (jW.set i none) qU } (ay.set i (some (.ref a))) H') D σ H
theorem J0{body suite:List Stmt}{qV:Stmt}{n:Str}{i:Nat}{es:List Expr}{cs:List Value}{k1 p1 hpos pos}{tb:a9->TS}{ts:TS}(hst:X.stack=X.env::X.outer/\X.env.frame=some X.env.locals)
 (hN:X.N.Nodup) (hi:X.N[i]? = some n) (hl:X.env.scope.names.lookup n=some .local) (hes:PN X es cs) (hcs:cs.length<=1000)
 (hb:∀ E' pn' EE,XOk (X.body E' pn') EE->PSs (X.body E' pn') body (tb EE)) (hs:∀ a,PSs (X.hand (.ref a) fun _ _=>False) (qV::suite) ts) :
 PS X (.Try body [.ExceptHandler (some (.Tuple es k1 p1)) (some n) (qV::suite) hpos] [] [] pos) (CS X.K cs i tb ts):=by
 intro pins s σ H D I h
 refine wpAny_Try_except ?_
 have fin:∀ {f:Flow} {s1:Shared},SP X pins D f s1->(match f with | .next=>wpAny (model X.prog X.w) X.A (execs [] X.env) (SP X pins D) X.xe s1 | f=>SP X pins D f s1):=fun {f s1} hsp=>by
  cases f<;>first | exact hsp | exact wpAny_execs_nil hsp
 refine wpAny_mono (hb _ (X.pn++pins) _ ?_ [] s σ H D (I.JX _) h) (fun f s1 hsp=>fin ?_) fun e s1 z=>z
 · -- what is wanted of exceptions
   intro d7 ay H' s' e C I' T q
   obtain⟨ex,lo,tb',F,hT⟩:=T
   have I1:Inv X pins ay H' s':=I'.qT
   have hT1:∀ T,tb'=some T->H' T=none/\X.s₀.heap.objs.size<=T/\∀ p∈X.pn++pins,p.1≠T:=fun T z=>⟨(hT T z).1,(hT T z).2.1,fun p hp=>(hT T z).2.2 p (List.mem_append_left _ hp)⟩
   have xt:∀ T,tb'=some T->∃ oT ts,s'.heap.get? T=some oT/\oT.data = .fields ts:=fun T z=>by
    subst z
    obtain⟨_,_,oT,ts,_,_,_,_,g1,g2,_⟩:=F
    exact⟨oT,ts,g1,g2⟩
   obtain⟨dd,ex'⟩:=id ex
   obtain⟨oe,vs,t0,he,hc,hdd,hd,h0,hsz,_⟩:=kZ I1.hok ex'
   have hfr:X.A.frames=some (X.env::X.outer):=by rw[I1.ok.frames,hst.1]
   have hfl:s'.heap.FunFrames X.base (X.env::X.outer):=by rw[<- hst.1];exact I1.stack
   show wpAny (model X.prog X.w) X.A (noteFrame (.ref e) X.env) _ X.xe s'
   refine CM (L:=X.env.locals) hfr hfl hst.2 F (fun oe' vs' a b=>by rw[he] at a;cases a;rw[hd] at b;cases b;exact hsz) fun h' T' S hle FF=>?_
   refine xj (s:={ s' with heap:=h' }) FF fun h'' oth F2=>?_
   have I2:Inv X pins ay H' { s' with heap:=h'' }:=I1.landed ex hT1 xt (by rw[hst.1];exact S) hle oth
   obtain⟨a,C',ec,ea,hm,hk⟩:=q
   cases ec
   cases ea
   obtain⟨PJ,vs2,t2,he2,hc2,_⟩:=kZ I2.hok ex'
   refine wpAny_handleBy_cons (codeAny_handlers_test ?_) (by intro q;cases q)
   refine wpAny_Tuple_spliced (hes _ _ _ pins ay H' _ _ I2 ⟨by rw[sizeLine_eq];omega,?_⟩)
   have I3:Inv X pins ay H' { s' with heap:=h''.push { cls:=.type "tuple",data:=.seq cs.toArray } }:=I2.kept (t':=s'.toks) fun b u z=>Heap.get?_push_of_some _ z
   have J1:=Heap.get?_push_of_some { cls:=.type "tuple",data:=.seq cs.toArray } he2
   have F3:nj (h''.push { cls:=.type "tuple",data:=.seq cs.toArray }) e .none (some T'):=by
    obtain⟨o1,v1,o2,v2,g1,g2,g3,g4,g5,g6,g7⟩:=F2
    exact⟨o1,v1,o2,v2,Heap.get?_push_of_some _ g1,g2,g3,g4,Heap.get?_push_of_some _ g5,g6,g7⟩
   have LT:W.Looks (model X.prog X.w) (h''.push { cls:=.type "tuple",data:=.seq cs.toArray }) (typeOf (.ref e)) (.ref C):=hc2 ▸ (W.Looks.ld J1).andThen .now
   refine JW (s:={ s' with heap:=h''.push { cls:=.type "tuple",data:=.seq cs.toArray } }) I3.bf LT ⟨_,Heap.get?_push_size _ rfl,rfl,_,rfl⟩ hm ?_
   apply codeAny_handlers_suite_as
   refine xj (s:={ s' with heap:=h''.push { cls:=.type "tuple",data:=.seq cs.toArray } }) F3 fun h4 xw F4=>?_
   have I4:Inv X pins ay H' { s' with heap:=h4 }:=by
    refine I3.turned (t':=s'.toks) (fun b o hb z=>(xw b hb).trans z) (I1.hok.fresh hle) (Nat.ne_of_gt (Nat.lt_of_lt_of_le I1.lt hle)) (.inr (Nat.le_trans I1.sz hle)) (fun x c hx=>?_) fun p hp=>?_
    · obtain⟨v,o,ho,_⟩:=I1.cell x c hx
      exact Nat.ne_of_lt (Nat.lt_of_lt_of_le (Heap.lt_size ho) hle)
    · exact Nat.ne_of_lt (Nat.lt_of_lt_of_le (Heap.lt_size (I1.pin p hp).1) hle)
   refine tZ (s:={ s' with heap:=h4 }) I4 hN hi (.inl hl) (v:=.ref e) rfl (fun s5 I5=>?_) (.inr hl)
   refine wpAny_mono (PSs.jT (X:=X.hand (.ref e) _) (hs e) pins s5 _ _ _ (I5.JY _ _) hk) (fun f s6 hsp=>?_) fun x s6 z=>z
   show wpAny _ _ _ _ _ _
   cases f with
   |next =>
     obtain⟨d8,H6,J,z⟩:=hsp
     exact uj (J.uk I.ok.hd) hN hi hl fun s7 I7=>⟨_,_,I7,z⟩
   |brk =>
     obtain⟨d8,H6,J,z⟩:=hsp
     exact uj (J.uk I.ok.hd) hN hi hl fun s7 I7=>⟨_,_,I7,z⟩
   |cont =>
     obtain⟨d8,H6,J,z⟩:=hsp
     exact uj (J.uk I.ok.hd) hN hi hl fun s7 I7=>⟨_,_,I7,z⟩
   |ret u =>
     obtain⟨v,d8,H6,J,rv,z⟩:=hsp
     exact uj (J.uk I.ok.hd) hN hi hl fun s7 I7=>⟨v,_,_,I7,rv,z⟩
 · cases f with
   |next=>obtain⟨d8,H6,J,z⟩:=hsp;exact⟨d8,H6,J.qT,z⟩
   |brk=>obtain⟨d8,H6,J,z⟩:=hsp;exact⟨d8,H6,J.qT,z⟩
   |cont=>obtain⟨d8,H6,J,z⟩:=hsp;exact⟨d8,H6,J.qT,z⟩
   |ret u=>obtain⟨v,d8,H6,J,rv,z⟩:=hsp;exact⟨v,d8,H6,J.qT,rv,z⟩
end
end
structure CT(env:Env)(scope:Scope)(cl:List (Str×Addr)):Prop where
 clos:closureFor scope env=pure cl
 sub:∀ x c,cl.lookup x=some c->env.cells.lookup x=some c
 has:∀ x,(x,NameKind.free)∈scope.names->∃ c,cl.lookup x=some c
theorem lookup_mem{α:Type}{x:Str}{c:α}:∀ {l:List (Str×α)},l.lookup x=some c->(x,c)∈l
 | [],h=>by simp at h
 | (y,d)::r,h=>by
   rw[List.lookup_cons] at h
   split at h
   · rename_i q
     cases h
     rw[beq_iff_eq.mp q]
     exact List.mem_cons_self ..
   · exact List.mem_cons_of_mem _ (lookup_mem h)
theorem mem_lookup{α:Type}{x:Str}{c:α}:∀ {l:List (Str×α)},(x,c)∈l->∃ d,l.lookup x=some d
 | [],h=>nomatch h
 | (y,d)::r,h=>by
   rw[List.lookup_cons]
   split
   · exact⟨d,rfl⟩
   · rename_i q
     rcases List.mem_cons.mp h with z | z
     · cases z;simp at q
     · exact mem_lookup z
theorem CU{env:Env}{scope:Scope}(h:∀ x,(x,NameKind.free)∈scope.names->∃ c,env.cells.lookup x=some c):∃ cl,CT env scope cl:=by
 have go:∀ (names:List (Str×NameKind)) (cs:List (Str×Addr)),(∀ x,(x,NameKind.free)∈names->∃ c,env.cells.lookup x=some c) ->
  ∃ cl,(forIn (m:=Sem) names cs fun x r=>(match x with | (name,kind)=>if (kind == NameKind.free)=true then do let a <- cellOf env name;pure (ForInStep.yield ((name,a)::r)) else pure (ForInStep.yield r)))=pure cl /\
   (∀ y c,(y,c)∈cl->(y,c)∈cs\/env.cells.lookup y=some c)/\(∀ y c,(y,c)∈cs->(y,c)∈cl)/\(∀ y,(y,NameKind.free)∈names->∃ c,(y,c)∈cl):=by
  intro names
  induction names with
  |nil=>intro cs _;exact⟨cs,rfl,fun _ _ z=>.inl z,fun _ _ z=>z,fun _ z=>nomatch z⟩
  |cons p r ih =>
    intro cs hh
    obtain⟨y,k⟩:=p
    by_cases hk:k = .free
    · subst hk
      obtain⟨c,hc⟩:=hh y (List.mem_cons_self ..)
      obtain⟨cl,e,h1,h2,h3⟩:=ih ((y,c)::cs) fun x hx=>hh x (List.mem_cons_of_mem _ hx)
      refine⟨cl,?_,fun z d hz=>?_,fun z d hz=>h2 z d (List.mem_cons_of_mem _ hz),fun z hz=>?_⟩
      · have ec:cellOf env y=pure c:=by simp only[cellOf,hc]
        rw[List.forIn_cons]
        simp only[beq_self_eq_true,if_true,ec,pure_bind]
        exact e
      · rcases h1 z d hz with q | q
        · rcases List.mem_cons.mp q with q | q
          · cases q;exact .inr hc
          · exact .inl q
        · exact .inr q
      · rcases List.mem_cons.mp hz with q | q
        · cases q;exact⟨c,h2 _ _ (List.mem_cons_self ..)⟩
        · exact h3 z q
    · obtain⟨cl,e,h1,h2,h3⟩:=ih cs fun x hx=>hh x (List.mem_cons_of_mem _ hx)
      refine⟨cl,?_,h1,h2,fun z hz=>?_⟩
      · rw[List.forIn_cons]
        have:(k == NameKind.free)=false:=by simpa using hk
        simp only[this,Bool.false_eq_true,if_false,pure_bind]
        exact e
      · rcases List.mem_cons.mp hz with q | q
        · cases q;exact absurd rfl hk
        · exact h3 z q
 obtain⟨cl,e,h1,h2,h3⟩:=go scope.names [] h
 refine⟨cl,?_,fun x c hx=>?_,fun x hx=>?_⟩
 · unfold closureFor
   first
    |exact e
    | (show(forIn (m:=Sem) scope.names ([]:List (Str×Addr)) _ >>= fun r=>pure r)=pure cl;rw[bind_pure];exact e)
    | (rw[bind_pure];exact e)
    | (trace_state;fail "x")
 · exact(h1 x c (lookup_mem hx)).elim (fun z=>nomatch z) id
 · obtain⟨c,hc⟩:=h3 x hx
   exact mem_lookup hc
noncomputable abbrev Cx.blk(X:Cx)(Nc:List Str)(scope:Scope)(cl:List (Str×Addr))(C:Addr)(s3:Shared)(H3:Hp)(fp:List Addr)(pn':List (Addr×Obj))(E':Value->Shared->Prop):Cx :=
 { X with N:=Nc,s₀:=s3,H₀:=H3,env:=compEnvC scope cl C X.env,outer:=X.stack,ex:=fp,fn:=fun _=>false,pn:=pn',xe:=E' }
noncomputable def aj(fr:List Nat)(own:Nat)(σ:St):St:=List.replicate own none++fr.map fun j=>(σ[j]?).join
structure eV(X:Cx)(scope:Scope)(Nc:List Str)(own:Nat)(fr:List Nat):Prop where
 len:Nc.length=own+fr.length
 free:∀ (k j:Nat) (x:Str),fr[k]? = some j->Nc[own+k]? = some x->X.N[j]? = some x/\(X.env.scope.names.lookup x=some .cell\/X.env.scope.names.lookup x=some .free)/\scope.names.lookup x=some .free
 kind:scope.kind = .function
 fR:∀ y∈scope.names,y.2 ≠ .cell
 names:∀ x∈scope.names,x.2 = .local->scope.names.lookup x.1=some .local
 frees:∀ x,(x,NameKind.free)∈scope.names->X.env.scope.names.lookup x=some .cell\/X.env.scope.names.lookup x=some .free
noncomputable def n8(X:Cx)(ifs:List Expr)(t:TT):Prop :=
 ∀ (pins:List (Addr×Obj)) (s:Shared) (σ:St) (H:Hp) (Q:Bool->Hp->Prop),Inv X pins σ H s->t σ H Q ->
  wpAny (model X.prog X.w) X.A (forIn ifs true fun c r=>if r=true then do let ok <- isTrue c X.env (eval c X.env);pure (ForInStep.yield ok) else pure (ForInStep.yield r)) (TP X pins σ Q) X.xe s
theorem J2{X:Cx}:n8 X [] (fun _ H Q=>Q true H):=fun _ _ _ H _ I h=>wpAny_tests_nil ⟨H,I,h⟩
noncomputable def xx(fr:List Nat)(own:Nat)(wi:TI)(g:TG)(tc:TT)(te:TE):TE:=fun σ H Q=>wi σ H fun J H1=>∀ D,H1 D=none->∃ W:Nat->Nat->List V->Hp->Prop,(∃ m,W 0 m [] (upd H1 D (.lst []))) /\
 ∀ i m ys H2,H2 D=some (.lst ys)->W i m ys H2->(J.stop i H2/\Q (.ref D) H2)\/(J.go i H2/\ys.length<sizeLine/\∀ x H3,J.ng i H2 x H3->g x (aj fr own σ) H3 fun cW H4=>tc cW H4 fun b H5 =>
  if b=true then te cW H5 fun y H6=>H6 D=some (.lst ys)/\∃ m',m'<m/\W (i+1) m' (ys++[y]) (upd H6 D (.lst (ys++[y]))) else H5 D=some (.lst ys)/\∃ m',m'<m/\W (i+1) m' ys H5)
theorem CV{scope:Scope}{env:Env}{x:Str}(hn:∀ y∈scope.names,y.2 ≠ .cell){k:NameKind}(h:(relabel scope env).names.lookup x=some k)(hk:k = .cell\/k = .free):(x,NameKind.free)∈scope.names:=by
 have m:=lookup_mem h
 obtain⟨⟨y,k'⟩,hy,e⟩:=List.mem_map.mp m
 dsimp only at e
 split at e
 · rename_i q
   rw[Bool.and_eq_true,Bool.and_eq_true] at q
   have J_:=beq_iff_eq.mp q.1.1
   cases e
   rw[J_] at hy
   exact hy
 · cases e
   rcases hk with rfl | rfl
   · exact absurd rfl (hn _ hy)
   · exact hy
theorem Ka{scope:Scope}{env:Env}{x:Str}(h:scope.names.lookup x=some .free):(relabel scope env).names.lookup x=some .cell\/(relabel scope env).names.lookup x=some .free:=by
 unfold relabel
 dsimp only
 generalize scope.names=l at h
 induction l with
 |nil=>simp at h
 |cons p r ih =>
   obtain⟨y,k⟩:=p
   rw[List.lookup_cons] at h
   rw[List.map_cons, ]
   split at h
   · rename_i q
     cases h
     dsimp only
     split
     · rw[List.lookup_cons,q];exact .inl rfl
     · rw[List.lookup_cons,q];exact .inr rfl
   · rename_i q
     dsimp only
     split
     · rw[List.lookup_cons,q];exact ih h
     · rw[List.lookup_cons,q];exact ih h
section
variable{X:Cx}{pins:List (Addr×Obj)}{σ:St}{H:Hp}{s:Shared}
theorem Inv.block{scope:Scope}{Nc:List Str}{own:Nat}{fr:List Nat}{cl:List (Str×Addr)}{fp:List Addr}{h₁:Heap}{t':Nat}{E':Value->Shared->Prop}(I:Inv X pins σ H s)(B:eV X scope Nc own fr)(ir:CT X.env scope cl)
 (hfp:∀ b∈fp,g8 X pins H b/\∃ o,s.heap.get? b=some o) (hns:h₁.Ns s.heap.objs.size (fun _=>none)) (keep:∀ b o,s.heap.get? b=some o->h₁.get? b=some o) :
 Inv (X.blk Nc scope cl s.heap.objs.size s H fp (X.pn++pins) E') [] (aj fr own σ) H { s with heap:=h₁,toks:=t' }:=by
 have lt:∀ b∈fp,b<s.heap.objs.size:=fun b hb=>let ⟨_,_,e⟩:=hfp b hb;Heap.lt_size e
 have xy:∀ x c,X.env.cells.lookup x=some c->c<s.heap.objs.size:=fun x c e=>let ⟨_,_,e,_⟩:=I.cell x c e;Heap.lt_size e
 refine⟨⟨I.ok.mod,B.kind,I.ok.glob,I.ok.blt,Nat.le_refl _,fun x y c h1 h2=>I.ok.inj x y c (ir.sub x c h1) (ir.sub y c h2),fun x hx=>?_,(fun x c z=>nomatch z),I.ok.hd,I.ok.frames,.inl rfl,fun b hb=>?_,I.bs,Nat.le_trans I.ok.iS I.sz,fun b o e hb=>?_,fun b hb=>?_,I.stack,I.dP⟩,
  rfl,I.bare,Un.kept keep,⟨_,hns,fun i x v e1 e2 e3=>?_⟩,fun x c e=>?_,I.hok.fresh (Nat.le_refl _),fun x c e=>I.bj x c (ir.sub x c e),fun p hp=>?_,I.hok.kept keep,?_⟩
 · rcases hx with hx | hx
   · exact ir.has x (CV B.fR hx (.inl rfl))
   · exact ir.has x (CV B.fR hx (.inr rfl))
 · exact⟨Nat.ne_of_lt (lt b hb),fun x c e z=>(hfp b hb).1.2.2.2.2.1 x c (ir.sub x c e) z⟩
 · -- a base object is no iterator of ours
   have e0:=I.ok.bs b o e
   rcases(hfp b hb).1.2.2.2.1 with z | z
   · exact I.ok.fL b o e z
   · exact absurd (Nat.lt_of_lt_of_le (Nat.lt_of_lt_of_le (Heap.lt_size e) I.ok.iS) z) (Nat.lt_irrefl _)
 · intro z
   rcases List.mem_cons.mp (I.fM b z) with z | z
   · exact(hfp b hb).1.2.1 z
   · exact(hfp b hb).1.2.2.1 z
 · -- a slot
   unfold aj at e2
   by_cases hi:i<own
   · rw[List.getElem?_append_left (by simpa using hi),List.getElem?_replicate,if_pos hi] at e2
     cases e2
   · have hge:own<=i:=Nat.le_of_not_lt hi
     rw[List.getElem?_append_right (by simpa using hge),List.length_replicate,List.getElem?_map] at e2
     cases hj:fr[i - own]? with
     |none=>rw[hj] at e2;cases e2
     |some j =>
       rw[hj] at e2
       have e2':(σ[j]?).join=some v:=by simpa using e2
       have e4:σ[j]? = some (some v):=by
        cases q:σ[j]? with
        |none=>rw[q] at e2';cases e2'
        |some o=>rw[q] at e2';have:o=some v:=e2';rw[this]
       have e5:Nc[own+(i - own)]? = some x:=by rw[Nat.add_sub_cancel' hge];exact e1
       obtain⟨n1,n2,n3⟩:=B.free (i - own) j x hj e5
       obtain⟨m,hn,hl⟩:=I.loc
       have Kb:tX X.env.scope x:=n2.elim (fun z=>.inr (.inl z)) fun z=>.inr (.inr z)
       obtain⟨u,r,l⟩:=hl j x v n1 e4 Kb
       refine⟨u,r,.inr ⟨Ka n3,?_⟩⟩
       rcases l with ⟨k,_⟩ | ⟨_,c,hc,hcell⟩
       · rcases n2 with n2 | n2
         · have k':X.env.scope.names.lookup x=some .local:=k
           rw[n2] at k';cases k'
         · have k':X.env.scope.names.lookup x=some .local:=k
           rw[n2] at k';cases k'
       · obtain⟨c',hc'⟩:=ir.has x (lookup_mem n3)
         have e6:=ir.sub x c' hc'
         rw[hc] at e6
         cases e6
         obtain⟨o,ho,hd⟩:=hcell
         exact⟨c,hc',o,keep _ _ ho,hd⟩
 · obtain⟨v,o,ho,hd⟩:=I.cell x c (ir.sub x c e)
   exact⟨v,o,keep _ _ ho,hd⟩
 · have hp':p∈X.pn++pins:=by simpa using hp
   obtain⟨e,n,ne,nf,d⟩:=I.pin p hp'
   refine⟨keep _ _ e,n,Nat.ne_of_lt (Heap.lt_size e),fun z=>?_,d⟩
   rcases List.mem_cons.mp (I.fM p.1 z) with z | z
   · exact ne z
   · exact nf z
 · show(aj fr own σ).length=Nc.length
   unfold aj
   rw[List.length_append,List.length_replicate,List.length_map,B.len]
theorem Inv.iW{scope:Scope}{Nc:List Str}{cl:List (Str×Addr)}{fp:List Addr}{E':Value->Shared->Prop}{d7:List (Addr×Obj)}{ay:St}{H':Hp}{s':Shared}{h':Heap}(I:Inv X pins σ H s)(hfp:∀ b∈fp,g8 X pins H b)
 (J:Inv (X.blk Nc scope cl s.heap.objs.size s H fp (X.pn++pins) E') d7 ay H' s') (sb:Heap.SameBut s.heap.objs.size s'.heap h'):Inv X pins σ H' { s' with heap:=h' }:=by
 have ne:∀ b o,s.heap.get? b=some o->b≠s.heap.objs.size:=fun b o e=>Nat.ne_of_lt (Heap.lt_size e)
 have hC:H' s.heap.objs.size=none:=J.free
 refine I.jR (s':={ s' with heap:=h' }) (ch:=fp) J.os ⟨fun b o e n hb hx=>?_,fun b o e n hb hx=>?_,J.base.free,fun b o e hx=>?_,J.base.tups,J.base.dF,J.base.dZ⟩ (fun b u e=>?_) J.bare fun b hb=>?_
 · exact(sb.2 b (ne b o e)).trans (J.base.keep b o e n hb hx)
 · obtain⟨sl,z⟩:=J.base.slot b o e n hb hx
   exact⟨sl,(sb.2 b (ne b o e)).trans z⟩
 · obtain⟨o',z⟩:=J.base.there b o e hx
   exact⟨o',(sb.2 b (ne b o e)).trans z⟩
 · refine(J.hok b u e).stay (fun c v hc q=>(sb.2 c ?_).trans q) (fun _ q=>q) fun _ _ q=>q
   rintro rfl
   rcases hc with rfl | hc
   · rw[hC] at e;cases e
   · rw[hC] at hc;cases hc
 · obtain⟨f0,f1,f2,f3,f4,f5⟩:=hfp b hb
   exact⟨f3,f1,f4,f5⟩
noncomputable def k6(own:Nat)(g:TG):Prop:=∀ (x:V) (σ:St) (H:Hp) (Q:St->Hp->Prop),g x σ H Q->g x σ H fun ay H'=>Q ay H'/\∀ k,own<=k->ay[k]? = σ[k]?
noncomputable def um(own:Nat)(g:ja):Prop:=∀ (x:List V) (σ:St) (H:Hp) (Q:St->Hp->Prop),g x σ H Q->g x σ H fun ay H'=>Q ay H'/\∀ k,own<=k->ay[k]? = σ[k]?
theorem CW{own i:Nat}(h:i<own):k6 own (nc i):=fun x σ H Q q=>⟨q,fun k hk=>List.getElem?_set_ne (by omega)⟩
theorem uo{own:Nat}:um own wG:=fun x σ H Q q=>⟨q.1,q.2,fun _ _=>rfl⟩
theorem nq{own i:Nat}{u:ja}(h:i<own)(hu:um own u):um own (wH (nc i) u):=fun x σ H Q q=>by
 obtain⟨v,r,e,q⟩:=q
 refine⟨v,r,e,?_⟩
 have q':=hu r _ H _ q
 have e2:(fun ay H'=>Q ay H'/\∀ k,own<=k->ay[k]? = (σ.set i (some v))[k]?)=(fun ay H'=>Q ay H'/\∀ k,own<=k->ay[k]? = σ[k]?):=by
  funext ay H'
  apply propext
  constructor
  · rintro⟨a,b⟩
    exact⟨a,fun k hk=>by rw[b k hk,List.getElem?_set_ne (by omega)]⟩
  · rintro⟨a,b⟩
    exact⟨a,fun k hk=>by rw[b k hk,List.getElem?_set_ne (by omega)]⟩
 rw[e2] at q'
 exact q'
theorem uq{own n:Nat}{K:W.Frag}{u:ja}(hu:um own u):k6 own (wI K n u):=fun x σ H Q q=>by
 obtain⟨a,xs,e1,e2,e3,q⟩:=q
 exact⟨a,xs,e1,e2,e3,hu xs σ H Q q⟩
end
noncomputable def turnOf(e:Expr)(k:Nat)(tg:Expr)(p:Pos)(ifs:List Expr)(act:Sem Unit)(it acc:Value)(env:Env):Sem Fin:=do
 standAt p
 match <- pyNext it with
 |none=>pure (.done .next)
 |some v =>
   letOwnedTupleGo tg it v
   assign tg env v
   let mut ok:=true
   for c in ifs do
    if ok then ok <- isTrue c env (eval c env)
   if ok then act
   again (.compLoop e k it acc env)
noncomputable abbrev Kc(M:Model)(A:Around)(env:Env)(tg:Expr)(it:Value)(ifs:List Expr)(act:Sem Unit)(N:Value->Shared->Prop)(next:Shared->Prop)(v:Value)(s:Shared):Prop :=
 wpAny M A (letOwnedTupleGo tg it v) (fun _ a=>wpAny M A (assign tg env v) (fun _ b =>
  wpAny M A (forIn ifs true fun c r=>if r=true then do let ok <- isTrue c env (eval c env);pure (ForInStep.yield ok) else pure (ForInStep.yield r)) (fun yes c =>
   if yes=true then wpAny M A act (fun _=>next) N c else next c) N b) N a) N s
theorem Ke{prog:Program}{w:World}{A:Around}{R:Result->Shared->Prop}{s:Shared}{el tg:Expr}{gs:List Comprehension}{sc:Scope}{pos:Pos}{k:Nat}{p:Pos}{ifs:List Expr}{act:Sem Unit}{it acc:Value}{env:Env}(ht:compTurn (.ListComp el gs sc pos) k it acc env=turnOf (.ListComp el gs sc pos) k tg p ifs act it acc env)(J:Nat->Shared->Prop)(n:Nat)(start:J n s)
 (turn:∀ n s,J n s->wpAny (model prog w) A (pyNext it) (fun r a=>match r with
  |none=>R (.ok .next) a
  |some v=>Kc (model prog w) A env tg it ifs act (notedBy (model prog w) A env fun x=>R (.error x)) (fun b=>∃ m,m<n/\J m b) v a) (notedBy (model prog w) A env fun x=>R (.error x)) s) :
 codeAny (model prog w) A (.compLoop (.ListComp el gs sc pos) k it acc env) R s:=by
 apply codeAny_loop rfl J _ n start
 intro n s j
 change wpAny _ A (Sem.onRaise (compTurn (.ListComp el gs sc pos) k it acc env) fun x=>do noteFrame x env;theTreesLotGoes x) _ _ s
 apply wpAny_noted;rw[ht];unfold turnOf
 apply wpAny_bind;apply wpAny_standAt;apply wpAny_bind;apply wpAny_mono (turn n s j) _ fun _ _ z=>z
 intro r a k
 cases r with
 |none=>exact wpAny_pure k
 |some v =>
   apply wpAny_bind;apply wpAny_mono k _ fun _ _ z=>z;intro _ b k
   apply wpAny_bind;apply wpAny_mono k _ fun _ _ z=>z;intro _ c k
   apply wpAny_bind;apply wpAny_mono k _ fun _ _ z=>z;intro yes d k
   cases yes
   · exact wpAny_pure (And.intro rfl k)
   · apply wpAny_bind;apply wpAny_mono k _ fun _ _ z=>z;intro _ f k
     exact wpAny_pure (And.intro rfl k)
noncomputable abbrev ur:=St->Hp->Addr->List V->(List V->Hp->Prop)->Prop
noncomputable def CY(Y:Cx)(L:List V->Prop)(te:ur)(act:Value->Sem Unit):Prop:=∀ (pins:List (Addr×Obj)) (s:Shared) (σ:St) (H:Hp) (D:Addr) (ys:List V) (K:List V->Hp->Prop),Inv Y pins σ H s->L ys->te σ H D ys K ->
 wpAny (model Y.prog Y.w) Y.A (act (.ref D)) (fun _ s'=>∃ H' ys',Inv Y pins σ H' s'/\H' D=some (.lst ys')/\K ys' H') (fun _ _=>False) s
noncomputable def emit(el:Expr)(env:Env)(acc:Value):Sem Unit:=do let _ <- call (.builtin "list.append") [acc, <- eval el env]
noncomputable def xA(te:TE):ur:=fun σ H D ys K=>te σ H fun y H6=>H6 D=some (.lst ys)/\K (ys++[y]) (upd H6 D (.lst (ys++[y])))
noncomputable abbrev xB(ys:List V):Prop:=ys.length<sizeLine
theorem CZ{Y:Cx}{el:Expr}{te:TE}(hx:Y.xe=fun _ _=>False)(he:PE Y el te):CY Y xB (xA te) (emit el Y.env):=by
 intro pins s σ H D ys K J hlen q
 unfold emit
 refine wpAny_bind (wpAny_mono (he pins s σ H _ J q) (fun v s8 ⟨y,H8,J8,r8,e8,k8⟩=>?_) fun _ _ z=>by rw[hx] at z;exact z)
 refine wpAny_bind (wpAny_mono (Cu _ s8 σ H8 (.ref D) [y] (.ref D) [v] (fun _ H9=>H9=upd H8 D (.lst (ys++[y]))) J8 rfl (.cons r8 .nil) ⟨_,ys,y,rfl,rfl,e8,hlen,rfl⟩) (fun _ s9 ⟨_,H9,J9,_,e9⟩=>?_) fun _ _ z=>by rw[hx] at z;exact z)
 subst e9
 exact wpAny_pure ⟨_,_,J9,cJ,k8⟩
noncomputable def xC(fr:List Nat)(own:Nat)(wi:TI)(g:TG)(tc:TT)(L:List V->Prop)(te:ur):TE:=fun σ H Q=>wi σ H fun J H1=>∀ D,H1 D=none->∃ W:Nat->Nat->List V->Hp->Prop,(∃ m,W 0 m [] (upd H1 D (.lst []))) /\
 ∀ i m ys H2,H2 D=some (.lst ys)->W i m ys H2->(J.stop i H2/\Q (.ref D) H2)\/(J.go i H2/\L ys/\∀ x H3,J.ng i H2 x H3->g x (aj fr own σ) H3 fun cW H4=>tc cW H4 fun b H5 =>
  if b=true then te cW H5 D ys (fun ys' H6=>∃ m',m'<m/\W (i+1) m' ys' H6) else H5 D=some (.lst ys)/\∃ m',m'<m/\W (i+1) m' ys H5)
section
variable{X:Cx}{pins:List (Addr×Obj)}{σ:St}{H:Hp}{s:Shared}
theorem C0{elt tg iter:Expr}{ifs:List Expr}{scope:Scope}{pos n9:Pos}{Nc:List Str}{own:Nat}{fr:List Nat}{wi:TI}{g:TG}{tc:TT}{L:List V->Prop}{te:ur}{act:Env->Value->Sem Unit}{gs:List Comprehension}{use:Option (Value->Sem Unit)}{QQ:Value->Shared->Prop}{Q:VK}(hc:X.calm=true)(B:eV X scope Nc own fr)(hi:PI X tg iter wi)(hog:k6 own g)
 (hg:∀ cl C s3 H3 fp pn',PG (X.blk Nc scope cl C s3 H3 fp pn' fun _ _=>False) tg g) (ht:∀ cl C s3 H3 fp pn',n8 (X.blk Nc scope cl C s3 H3 fp pn' fun _ _=>False) ifs tc) (hturn:∀ it acc env,compTurn (.ListComp elt (⟨tg,iter,ifs,0⟩::gs) scope pos) 0 it acc env=turnOf (.ListComp elt (⟨tg,iter,ifs,0⟩::gs) scope pos) 0 tg iter.pos ifs (act env acc) it acc env) (ha:∀ cl C s3 H3 fp pn',CY (X.blk Nc scope cl C s3 H3 fp pn' fun _ _=>False) L te (act (compEnvC scope cl C X.env)))
 (hs:∀ x,foldedSetIterable iter X.env x=pure x) (I:Inv X pins σ H s) (h:xC fr own wi g tc L te σ H Q)
 (fin:∀ (D C:Addr) (H3:Hp) (s4:Shared),(∃ m,s4.heap.Ns C m)->g8 X pins H3 C->(∀ h',Heap.SameBut C s4.heap h'->Inv X pins σ H3 { s4 with heap:=h' })->Q (.ref D) H3->compPost (model X.prog X.w) X.A X.xe use QQ (.ref D) C (.ok .next) s4) :
 wpAny (model X.prog X.w) X.A (comprehension (.ListComp elt (⟨tg,iter,ifs,0⟩::gs) scope pos) scope X.env n9 (newList []) false (eval iter X.env) use) QQ X.xe s:=by
 obtain⟨cl,ir⟩:=CU (env:=X.env) (scope:=scope) fun x hx=>I.ok.has x (B.frees x hx)
 apply wpAny_comprehension_free rfl hs ir.clos B.kind B.names
 apply wpAny_mono (hi pins s σ H _ I h) _ fun _ _ e=>e
 intro xv s1 h1
 apply wpAny_mono h1 _ fun _ _ e=>e
 intro itv s2 h2
 obtain⟨it,fp,tn,J,H2,rfl,I2,T,st2,f2,q⟩:=h2
 refine wpAny_newObj_type (wpAny_newFunctionEnv B.fR (by intro y hy;simp at hy) (fun h₁ iu iw=>?_) B.kind)
 have hD:H2 s2.heap.objs.size=none:=I2.hok.fresh (Nat.le_refl _)
 obtain⟨W,⟨m0,w0⟩,turn⟩:=q s2.heap.objs.size hD
 have I3:Inv X pins σ (upd H2 s2.heap.objs.size (.lst [])) { s2 with heap:=s2.heap.push { cls:=.type "list",dict:=none,data:=.seq ([]:List Value).toArray } } :=
  I2.laid (t':=s2.toks) (fun b u e=>Heap.get?_push_of_some _ e) (Nat.le_refl _) ⟨Nat.zero_le _,[],0,.nil,Heap.get?_push_size _ rfl⟩
 have n_:∀ b∈fp,b≠s2.heap.objs.size:=fun b hb=>let ⟨o,e,_⟩:=T.obj _ _ st2 b hb;Nat.ne_of_lt (Heap.lt_size e)
 have f3:∀ b∈fp,g8 X pins (upd H2 s2.heap.objs.size (.lst [])) b:=fun b hb=>⟨by rw[aV (n_ b hb)];exact(f2 b hb).1,(f2 b hb).2⟩
 have keep:∀ b o,(s2.heap.push { cls:=.type "list",dict:=none,data:=.seq ([]:List Value).toArray }).get? b=some o->h₁.get? b=some o:=fun b o e =>
  (iw.2 b (Nat.ne_of_lt (Heap.lt_size e))).trans (Heap.get?_push_of_some _ e)
 have IY:=I3.block (h₁:=h₁) (t':=s2.toks+([]:List (Str×Value)).length) (E':=fun _ _=>False) B ir (fun b hb=>⟨f3 b hb,let ⟨o,e,_⟩:=T.obj _ _ st2 b hb; ⟨o,Heap.get?_push_of_some _ e⟩⟩) iu keep
 have st1:tn 0 h₁:=T.keep _ _ _ st2 fun b hb o e=>keep b o (Heap.get?_push_of_some _ e)
 have fY:∀ {H':Hp},(∀ b∈fp,H' b=none)->∀ b∈fp,g8 (X.blk Nc scope cl (s2.heap.push { cls:=.type "list",dict:=none,data:=.seq ([]:List Value).toArray }).objs.size { s2 with heap:=s2.heap.push { cls:=.type "list",dict:=none,data:=.seq ([]:List Value).toArray } } (upd H2 s2.heap.objs.size (.lst [])) fp (X.pn++pins) fun _ _=>False) [] H' b:=fun hn b hb =>
  ⟨hn b hb,(IY.ok.kU b hb).1,IY.ok.eS b hb,.inl hb,(IY.ok.kU b hb).2,fun p hp=>(f2 b hb).2.2.2.2.2 p (by simpa using hp)⟩
 have loop:codeAny (model X.prog X.w) X.A (.compLoop (.ListComp elt (⟨tg,iter,ifs,0⟩::gs) scope pos) 0 (.ref it) (.ref s2.heap.objs.size) (compEnvC scope cl (s2.heap.push { cls:=.type "list",dict:=none,data:=.seq ([]:List Value).toArray }).objs.size X.env))
  (compPost (model X.prog X.w) X.A X.xe use QQ (.ref s2.heap.objs.size) (s2.heap.push { cls:=.type "list",dict:=none,data:=.seq ([]:List Value).toArray }).objs.size) { s2 with heap:=h₁,toks:=s2.toks+([]:List (Str×Value)).length }:=by
  refine Ke (hturn _ _ _) (fun n s'=>∃ i ys H',Inv (X.blk Nc scope cl (s2.heap.push { cls:=.type "list",dict:=none,data:=.seq ([]:List Value).toArray }).objs.size { s2 with heap:=s2.heap.push { cls:=.type "list",dict:=none,data:=.seq ([]:List Value).toArray } } (upd H2 s2.heap.objs.size (.lst [])) fp (X.pn++pins) fun _ _=>False) [] (aj fr own σ) H' s'/\tn i s'.heap/\(∀ b∈fp,H' b=none)/\H' s2.heap.objs.size=some (.lst ys)/\W i n ys H')
   m0 ⟨0,[],_,IY,st1,fun b hb=>(f3 b hb).1,cJ,w0⟩ ?_
  rintro n s3 ⟨i,ys,H3,J3,st3,nh,e3,w3⟩
  rcases turn i n ys H3 e3 w3 with ⟨stop,qn⟩ | ⟨go,hlen,step⟩
  · refine aL (T.done (X.blk Nc scope cl (s2.heap.push { cls:=.type "list",dict:=none,data:=.seq ([]:List Value).toArray }).objs.size { s2 with heap:=s2.heap.push { cls:=.type "list",dict:=none,data:=.seq ([]:List Value).toArray } } (upd H2 s2.heap.objs.size (.lst [])) fp (X.pn++pins) fun _ _=>False) rfl rfl rfl hc i [] s3 _ H3 _ J3 (fY nh) st3 stop) fun r s4 ⟨hr,J4⟩=>?_
    subst hr
    obtain⟨m,hn,_⟩:=J4.loc
    exact fin _ _ H3 s4 ⟨m,hn⟩ (I3.ij (Nat.le_refl _) J4.free) (fun h' sb=>I3.iW f3 J4 sb) qn
  · refine aL (T.item (X.blk Nc scope cl (s2.heap.push { cls:=.type "list",dict:=none,data:=.seq ([]:List Value).toArray }).objs.size { s2 with heap:=s2.heap.push { cls:=.type "list",dict:=none,data:=.seq ([]:List Value).toArray } } (upd H2 s2.heap.objs.size (.lst [])) fp (X.pn++pins) fun _ _=>False) rfl rfl rfl hc i [] s3 _ H3 _ J3 (fY nh) st3 go) fun r s4 ⟨u,hr,h4⟩=>?_
    subst hr
    refine aL h4 fun _ s5 ⟨x,H5,J5,r5,y5,eJ,qG⟩=>?_
    have xD:=J5.pinned (fY qG) (T.obj _ _ eJ)
    have lift:∀ {α:Type} {m:Sem α} {Q':α->Shared->Prop} {E':Value->Shared->Prop} {s':Shared},wpAny (model X.prog X.w) X.A m Q' (fun _ _=>False) s'->wpAny (model X.prog X.w) X.A m Q' E' s':=fun h=>wpAny_mono h (fun _ _ z=>z) fun _ _ z=>z.elim
    refine lift (aL (hg _ _ _ _ _ _ _ s5 _ H5 x u _ xD r5 (hog _ _ _ _ (step x H5 y5))) fun _ s6 ⟨d8,H6,J6,q6,og⟩=>?_)
    refine lift (aL (ht _ _ _ _ _ _ _ s6 d8 H6 _ J6 q6) fun b s7 ⟨H7,J7,q7⟩=>?_)
    have back:∀ {H8:Hp} {s8:Shared} {ys':List V} {m':Nat},Inv (X.blk Nc scope cl (s2.heap.push { cls:=.type "list",dict:=none,data:=.seq ([]:List Value).toArray }).objs.size { s2 with heap:=s2.heap.push { cls:=.type "list",dict:=none,data:=.seq ([]:List Value).toArray } } (upd H2 s2.heap.objs.size (.lst [])) fp (X.pn++pins) fun _ _=>False) ([]++o_ fp s5.heap) d8 H8 s8->H8 s2.heap.objs.size=some (.lst ys')->m'<n->W (i+1) m' ys' H8 ->
     ∃ m,m<n/\∃ i ys H',Inv (X.blk Nc scope cl (s2.heap.push { cls:=.type "list",dict:=none,data:=.seq ([]:List Value).toArray }).objs.size { s2 with heap:=s2.heap.push { cls:=.type "list",dict:=none,data:=.seq ([]:List Value).toArray } } (upd H2 s2.heap.objs.size (.lst [])) fp (X.pn++pins) fun _ _=>False) [] (aj fr own σ) H' s8/\tn i s8.heap/\(∀ b∈fp,H' b=none)/\H' s2.heap.objs.size=some (.lst ys)/\W i m ys H':=fun {H8 s8 ys' m'} J8 e8 hm w8=>by
     refine⟨m',hm,i+1,ys',H8,?_,T.keep _ _ _ eJ fun b hb o e=>(J8.pin (b,o) (List.mem_append_right _ (List.mem_append_right _ (pf hb e)))).1,fun b hb=>?_,e8,w8⟩
     · refine(Inv.cb (pins:=[]) J8).weak ?_ fun j v' z=>?_
       · rw[IY.len];exact J8.len.symm
       · by_cases hj:j<own
         · unfold aj at z
           rw[List.getElem?_append_left (by simpa using hj),List.getElem?_replicate,if_pos hj] at z
           cases z
         · rw[og j (Nat.le_of_not_lt hj)];exact z
     · obtain⟨o,e,d⟩:=T.obj _ _ eJ b hb
       exact(J8.pin (b,o) (List.mem_append_right _ (List.mem_append_right _ (pf hb e)))).2.1
    cases b with
    |false =>
      obtain⟨e7,m',hm,w7⟩:=(show H7 s2.heap.objs.size=some (.lst ys)/\∃ m',m'<n/\W (i+1) m' ys H7 from by simpa using q7)
      exact back J7 e7 hm w7
    |true =>
      have xE:te d8 H7 s2.heap.objs.size ys (fun ys' H6=>∃ m',m'<n/\W (i+1) m' ys' H6):=by simpa using q7
      refine lift (aL (ha _ _ _ _ _ _ _ s7 d8 H7 _ ys _ J7 hlen xE) fun v s8 ⟨H8,ys',J8,e8,m',hm,w8⟩=>?_)
      exact back J8 e8 hm w8
 exact codeAny_compStart_list loop (T.self _ _ _ _ _ st1 loop)
theorem Kf{elt tg iter:Expr}{ifs:List Expr}{scope:Scope}{pos:Pos}{Nc:List Str}{own:Nat}{fr:List Nat}{wi:TI}{g:TG}{tc:TT}{te:TE}(hc:X.calm=true)(B:eV X scope Nc own fr)(hi:PI X tg iter wi)(hog:k6 own g)
 (hg:∀ cl C s3 H3 fp pn',PG (X.blk Nc scope cl C s3 H3 fp pn' fun _ _=>False) tg g) (ht:∀ cl C s3 H3 fp pn',n8 (X.blk Nc scope cl C s3 H3 fp pn' fun _ _=>False) ifs tc) (he:∀ cl C s3 H3 fp pn',PE (X.blk Nc scope cl C s3 H3 fp pn' fun _ _=>False) elt te)
 (hs:∀ x,foldedSetIterable iter X.env x=pure x:=by intro _;rfl):PE X (.ListComp elt [⟨tg,iter,ifs,0⟩] scope pos) (xx fr own wi g tc te):=by
 intro pins s σ H Q I h
 rw[eval_ListComp]
 exact C0 (act:=fun env acc=>emit elt env acc) (QQ:=EP X pins σ Q) hc B hi hog hg ht (fun _ _ _=>rfl) (fun cl C s3 H3 fp pn'=>CZ rfl (he cl C s3 H3 fp pn')) hs I (show xC fr own wi g tc xB (xA te) σ H Q from h) fun L C H3 s4 hn f qW q=>let ⟨m,hm⟩:=hn; ⟨m,hm,fun h' sb=>⟨.ref L,H3,qW h' sb,rfl,q⟩⟩
theorem Kg{elt tg iter:Expr}{ifs:List Expr}{scope:Scope}{pos py spos:Pos}{Nc:List Str}{own i:Nat}{fr:List Nat}{wi:TI}{g:TG}{tc:TT}{te:TE}{y:Str}(hN:X.N.Nodup)(hi':X.N[i]? = some y)(hx:Loc X.env.scope y)(hc:X.calm=true)(B:eV X scope Nc own fr)(hi:PI X tg iter wi)(hog:k6 own g)
 (hg:∀ cl C s3 H3 fp pn',PG (X.blk Nc scope cl C s3 H3 fp pn' fun _ _=>False) tg g) (ht:∀ cl C s3 H3 fp pn',n8 (X.blk Nc scope cl C s3 H3 fp pn' fun _ _=>False) ifs tc) (he:∀ cl C s3 H3 fp pn',PE (X.blk Nc scope cl C s3 H3 fp pn' fun _ _=>False) elt te)
 (hs:∀ x,foldedSetIterable iter X.env x=pure x:=by intro _;rfl) (hsw:swapsWith (.ListComp elt [⟨tg,iter,ifs,0⟩] scope pos) (some (.Name y py)) spos.line X.env=pure true:=by rfl)
 (hf:X.fn y=true\/X.env.scope.names.lookup y=some .local:=by first | exact .inl rfl | exact .inr rfl | assumption) :
 PS X (.Assign [.Name y py] (.ListComp elt [⟨tg,iter,ifs,0⟩] scope pos) spos) (o9 (xx fr own wi g tc te) (nc i)):=by
 intro pins s σ H D I h
 rw[exec_Assign_Name_used (hs:=hsw)]
 apply wpAny_bind;apply wpAny_standAt;apply wpAny_bind
 change wpAny _ _ (comprehension (.ListComp elt [⟨tg,iter,ifs,0⟩] scope pos) scope X.env _ (newList []) false (eval iter X.env) (some (assign (.Name y py) X.env)) >>= fun _=>pure ()) _ _ _
 apply wpAny_bind
 refine wpAny_mono (C0 (Q:=fun x H1=>nc i x σ H1 D.nx) (act:=fun env acc=>emit elt env acc) (QQ:=fun _ s'=>SP X pins D .next s') hc B hi hog hg ht (fun _ _ _=>rfl) (fun cl C s3 H3 fp pn'=>CZ rfl (he cl C s3 H3 fp pn')) hs I (show xC fr own wi g tc xB (xA te) σ H _ from h) (fun L C H3 s4 hn f qW q=>?_)) (fun _ s' q=>wpAny_pure (wpAny_pure q)) fun _ _ e=>e
 obtain⟨m,o,es,ep,ho,hd,r⟩:=hn
 have I4:Inv X pins σ H3 s4:=qW s4.heap (Heap.SameBut.refl _ _)
 obtain⟨f0,f1,f2,f3,f4,f5⟩:=f
 have I5:Inv X ((C,o)::pins) σ H3 s4:=I4.dQ fun p hp=>by
  rcases List.mem_cons.mp hp with e | e
  · subst e;exact⟨ho,f0,f1,f2,fun v z=>by rw[hd] at z;cases z⟩
  · exact I4.pin p (List.mem_append_right _ e)
 show wpAny _ _ (assign (.Name y py) X.env (.ref L)) _ _ _
 apply wpAny_assign_Name
 apply tZ I5 hN hi' hx (v:=.ref L) rfl _ hf
 intro s5 I6
 have hC:=(I6.pin (C,o) (List.mem_append_right _ (List.mem_cons_self ..))).1
 refine⟨m,⟨o,es,ep,hC,hd,r⟩,fun h' sb=>⟨_,H3,?_,q⟩⟩
 have I7:Inv X pins (σ.set i (some (.ref L))) H3 s5:=I6.dQ fun p hp=>I6.pin p (List.mem_append_right _ (List.mem_cons_of_mem _ hp))
 exact I7.turned (t':=s5.toks) (fun b o hb e=>(sb.2 b hb).trans e) f0 f1 f3 f4 f5
end
section
variable{X:Cx}
theorem C1{y:V}:∀ {xs:List V} {us:List Value},Vals xs us->xs.all je=true->us.countP (pq y)=xs.countP fun z=>iq z y
 | _,_,.nil,_=>rfl
 | _,_,.cons r t,h=>by
   have h:=Bool.and_eq_true_iff.mp ((List.all_cons ..).symm.trans h)
   rw[List.countP_cons,List.countP_cons,C1 t h.2,w5 r h.1]
noncomputable def C2:V->List V->Hp->VK->Prop:=fun x vs H Q=>∃ l xs y,x = .ref l/\vs=[y]/\H l=some (.lst xs)/\je y=true/\xs.all je=true/\Q (.int (xs.countP fun z=>iq z y)) H
theorem Kh:ua X "list.count" C2:=by
 intro pins s σ H x vs v us Q I rx rv h
 obtain⟨l,xs,y,rfl,rfl,hH,fy,fx,q⟩:=h
 cases rx
 obtain⟨u,rfl,ru⟩:=rv.one
 obtain⟨z,its,n,r,hl,e⟩:=I.av hH
 refine call_meets (s:=s) F.slot_list_count (show s.TypeIs (.ref l) "list" from⟨_,e,rfl⟩) F.entry_list_count (F.args_list_count_2 _ _) (SeqAt.list_countAt l its.toArray n none #[] u (pq y)) ?_
 refine⟨e,fun w hw=>w6 ru fy r fx w (by simpa using hw),?_⟩
 refine⟨.int (xs.countP fun z=>iq z y),H,I.tok _,⟨s.toks,?_⟩,q⟩
 rw[<- C1 r fx]
noncomputable def C3:V->List V->Hp->VK->Prop:=fun x vs H Q=>∃ l xs y j,x = .ref l/\vs=[y]/\H l=some (.lst xs)/\je y=true/\xs.all je=true/\(∃ w,xs[j]? = some w/\iq w y=true)/\(∀ (m:Nat) w,m<j->xs[m]? = some w->iq w y=false)/\j<1000/\Q (.int j) H
theorem C4{y:V}{xs:List V}{us:List Value}(r:Vals xs us)(f:xs.all je=true){m:Nat}{w:V}(h:xs[m]? = some w):∃ hm:m<us.length,pq y us[m]=iq w y:=by
 obtain⟨u,hu,ru⟩:=r.get h
 obtain⟨hm,e⟩:=List.getElem?_eq_some_iff.mp hu
 exact⟨hm,by rw[e];exact w5 ru (List.all_eq_true.mp f w (List.mem_of_getElem? h))⟩
theorem C5:ua X "list.index" C3:=by
 intro pins s σ H x vs v us Q I rx rv h
 obtain⟨l,xs,y,j,rfl,rfl,hH,fy,fx,⟨w,hw,hit⟩,no,small,q⟩:=h
 cases rx
 obtain⟨u,rfl,ru⟩:=rv.one
 obtain⟨z,its,n,r,hl,e⟩:=I.av hH
 obtain⟨hj,ej⟩:=C4 (y:=y) r fx hw
 refine call_meets (s:=s) F.slot_list_index (show s.TypeIs (.ref l) "list" from⟨_,e,rfl⟩) F.entry_list_index (F.args_list_index_2 _ _) (SeqAt.list_indexAt l its.toArray n none #[] u (pq y) j (by simpa using hj) (by omega) (by simpa [hit] using ej) ?_) ?_
 case refine_2=>exact⟨e,fun w hw=>w6 ru fy r fx w (by simpa using hw),.int j,H,I.tok _,⟨s.toks,rfl⟩,q⟩
 case refine_1 =>
  intro m hm lt
  have hm':m<xs.length:=by rw[r.length];simpa using hm
  obtain⟨_,em⟩:=C4 (y:=y) r fx (List.getElem?_eq_getElem hm')
  have:=no m _ lt (List.getElem?_eq_getElem hm')
  simpa [this] using em
mutual
inductive cG(H:Hp):V->PyData->Prop
 |ao:cG H .ao .none
 |bl (b:Bool):cG H (.bl b) (.bool b)
 |int (i:Int):cG H (.int i) (.int i)
 |str (x:Str):cG H (.str x) (.str x)
 |lst {a:Addr} {xs:List V} {ds:List PyData}:H a=some (.lst xs)->cc H xs ds->cG H (.ref a) (.list ds)
 |tup {a:Addr} {xs:List V} {ds:List PyData}:H a=some (.tup xs)->cc H xs ds->cG H (.ref a) (.tuple ds)
inductive cc(H:Hp):List V->List PyData->Prop
 |nil:cc H [] []
 |cons {x:V} {d:PyData} {xs:List V} {ds:List PyData}:cG H x d->cc H xs ds->cc H (x::xs) (d::ds)
end
mutual
theorem cG.reads{P:Program}{w:World}{H:Hp}{h:Heap}(ok:bZ P w H h):∀ {x:V} {d:PyData} {u:Value},cG H x d->RelV x u->∃ as,Reads h u d as
 | _,_,_,.ao,r=>by cases r;exact⟨_,.none⟩
 | _,_,_,.bl b,r=>by cases r;exact⟨_,.bool b⟩
 | _,_,_,.int i,r=>by obtain⟨t,rfl⟩:=r;exact⟨_,.int i t⟩
 | _,_,_,.str x,r=>by obtain⟨t,rfl⟩:=r;exact⟨_,.str x t⟩
 | _,_,_,.lst e D,r=>by
   cases r
   obtain⟨_,its,n,rv,q⟩:=ok _ _ e
   obtain⟨as,R⟩:=cc.reads ok D rv
   exact⟨_,.list q rfl rfl R⟩
 | _,_,_,.tup e D,r=>by
   cases r
   obtain⟨_,its,rv,o,q,c,n,d⟩:=ok _ _ e
   obtain⟨as,R⟩:=cc.reads ok D rv
   exact⟨_,.tuple q c d R⟩
theorem cc.reads{P:Program}{w:World}{H:Hp}{h:Heap}(ok:bZ P w H h):∀ {xs:List V} {ds:List PyData} {us:List Value},cc H xs ds->Vals xs us->∃ as,ReadsAll h us ds as
 | _,_,_,.nil,r=>by cases r;exact⟨_,.nil⟩
 | _,_,_,.cons a b,r=>by
   cases r with
   |cons r1 r2 =>
     obtain⟨_,R1⟩:=cG.reads ok a r1
     obtain⟨_,R2⟩:=cc.reads ok b r2
     exact⟨_,.cons R1 R2⟩
end
end
end L2
namespace Ex
open PySem PySem.Spec PyProof.Rows PySem.Calls Builtin.SmallTypes
structure Ki(prog:Program)(w:World)(it:Addr)(fp:List Addr)(xs:Array Value)(St:Nat->Heap->Prop):Prop where
 keep:∀ k h h',St k h->(∀ b∈it::fp,∀ o,h.get? b=some o->h'.get? b=some o)->St k h'
 obj:∀ k h,St k h->∃ o vs,h.get? it=some o/\o.data = .fields vs
 item:∀ (A:Around) (E:Value->Shared->Prop) (s:Shared) (k:Nat) (x:Value) (Q:Value->Shared->Prop),St k s.heap->xs[k]? = some x->(∀ h',St (k+1) h'->Heap.SameBut it s.heap h'->Q x { s with heap:=h' })->wpAny (model prog w) A (nextOf (.ref it)) Q E s
theorem fv{prog:Program}{w:World}{it l:Addr}{xs:Array Value}(ne:l≠it):Ki prog w it [l] xs (fun k h=>h.IsTupleIter it l k/\h.IsTuple l xs) where
 keep:=fun k h h' st kp=>⟨let ⟨o,e,r⟩:=st.1; ⟨o,kp it (by simp) o e,r⟩,let ⟨o,e,r⟩:=st.2; ⟨o,kp l (by simp) o e,r⟩⟩
 obj:=fun k h st=>let ⟨o,e,_,d⟩:=st.1; ⟨o,_,e,d⟩
 item:=fun A E s k x Q st hx q=>by
  obtain⟨st1,st2⟩:=st
  obtain⟨o,ho,hc,hd⟩:=id st1
  obtain⟨ol,hol,_,nl,hdl⟩:=id st2
  delta nextOf
  apply wpAny_bind
  apply wpAny_callSpecial?_slot (name:=Str.ofString "__next__") st1.typeIs F.slot_tuple_iterator_next
  apply wpAny_call_entry F.slot_tuple_iterator_next st1.typeIs F.entry_tuple_iterator_next _ (F.args_tuple_iterator_next_1 _)
  change wpAny _ _ (field (.ref it) 0 >>= _) _ _ _
  apply wpAny_bind;apply wpAny_field ho hd (x:=.ref l) rfl
  change wpAny _ _ (if (Value.ref l == Value.none)=true then _ else _) _ _ _
  rw[if_neg (by intro z;cases beq_iff_eq.mp z)]
  change wpAny _ _ (field (.ref it) 1 >>= _) _ _ _
  apply wpAny_bind;apply wpAny_field ho hd (x:=.int k 0) rfl
  change wpAny _ _ (seqItems? (.ref l) >>= _) _ _ _
  apply wpAny_bind;apply wpAny_seqItems hol hdl
  rw[Int.toNat_natCast]
  dsimp only
  rw[hx]
  dsimp only
  apply wpAny_bind;apply wpAny_setField ho hd (by simp)
  have e2:=uf ho hd 1 (rawInt (k+1))
  refine wpAny_pure ⟨x,rfl,wpAny_pure (q _ ⟨⟨_,e2,hc,rfl⟩,st2.extBut (Heap.SameBut.update ..).extBut ne⟩ (Heap.SameBut.update ..))⟩
end Ex
namespace L2
open PySem PySem.Spec PyProof.Rows Ex
section
variable{X:Cx}{pins:List (Addr×Obj)}{σ:St}{H:Hp}{s:Shared}{h':Heap}{fp:List Addr}
theorem Inv.fw{t':Nat}(I:Inv X pins σ H s)(k:∀ b o,b ∉ fp->s.heap.get? b=some o->h'.get? b=some o)(hf:∀ b∈fp,g8 X pins H b):Inv X pins σ H { s with heap:=h',toks:=t' }:=by
 have apart:∀ b u,H b=some u->b ∉ fp:=fun b u e z=>by have q:=(hf b z).1;rw[e] at q;cases q
 refine I.step (g':=s.gens) (d':=s.drawn) (ch:=fp) (fun b hb=>?_) (fun b o _ _ hc e _=>k b o hc e) (fun b o _ _ hc e _=>⟨o.slots,k b o hc e⟩) (fun _ _ _ _ n=>n) (fun b o hc e=>⟨o,k b o hc e⟩) (fun _ _ e=>e) (fun _ _ _ e=>e) (fun b ps e=>⟨#[],by rw[e];simp⟩) (fun m hm=>?_) (fun b u e=>?_) I.bare
 · obtain⟨_,f1,_,f3,f4,f5⟩:=hf b hb
   exact⟨f3,f1,f4,f5⟩
 · obtain⟨o,es,ep,ho,r⟩:=hm
   exact⟨o,es,ep,k _ o (fun z=>(hf _ z).2.1 rfl) ho,r⟩
 · apply (I.hok b u e).stay (h':=h') (H':=H) _ (fun _ q=>q) (fun _ _ q=>q)
   intro c v hc q
   cases hc with
   |inl z=>exact k c v (by rw[z];exact apart b u e) q
   |inr z=>exact k c v (apart c _ z) q
theorem Inv.fz{t':Nat}{a:Addr}{o:HO}(I:Inv X pins σ H s)(k:∀ b o,b ∉ fp->s.heap.get? b=some o->h'.get? b=some o)(hf:∀ b∈fp,g8 X pins H b)(ha:s.heap.objs.size<=a)(new:aD X.prog X.w (upd H a o) h' a o):Inv X pins σ (upd H a o) { s with heap:=h',toks:=t' }:=by
 have apart:∀ b u,H b=some u->b ∉ fp:=fun b u e z=>by have q:=(hf b z).1;rw[e] at q;cases q
 have fr:H a=none:=I.hok.fresh ha
 have old:∀ b u,H b=some u->upd H a o b=some u:=fun b u e=>by rw[aV (eR e fr)];exact e
 refine I.step (g':=s.gens) (d':=s.drawn) (ch:=fp) (fun b hb=>?_) (fun b o _ _ hc e _=>k b o hc e) (fun b o _ _ hc e _=>⟨o.slots,k b o hc e⟩) (fun b u _ e n=>?_) (fun b o hc e=>⟨o,k b o hc e⟩) (fun b xs e=>old b _ e) (fun b o u e=>old b _ e) (fun b ps e=>⟨#[],by rw[old b _ e];simp⟩) (fun m hm=>?_) (fun b u e=>?_) I.bare
 · obtain⟨_,f1,_,f3,f4,f5⟩:=hf b hb
   exact⟨f3,f1,f4,f5⟩
 · have lt:b<s.heap.objs.size:=Heap.lt_size e
   rw[aV (Nat.ne_of_lt (Nat.lt_of_lt_of_le lt ha))];exact n
 · obtain⟨o,es,ep,ho,r⟩:=hm
   exact⟨o,es,ep,k _ o (fun z=>(hf _ z).2.1 rfl) ho,r⟩
 · by_cases hb:b=a
   · subst hb;rw[cJ] at e;cases e;exact new
   · rw[aV hb] at e
     apply (I.hok b u e).stay (h':=h') (H':=upd H a o) _ (fun c q=>old c _ q) (fun c xs q=>old c _ q)
     intro c v hc q
     cases hc with
     |inl z=>exact k c v (by rw[z];exact apart b u e) q
     |inr z=>exact k c v (apart c _ z) q
end
section
variable{X:Cx}
noncomputable def xF:R2:=fun x y H Q=>∃ d e,cG H x d/\cG H y e/\SeqAt.shaped d=true/\SeqAt.shaped e=true/\Q (.bl (PyData.eqv d e)) H
noncomputable def xG:R2:=fun x y H Q=>∃ d e,cG H x d/\cG H y e/\SeqAt.shaped d=true/\SeqAt.shaped e=true/\Q (.bl (!PyData.eqv d e)) H
theorem Kj{k:Nat}(hr:ax k X.A):bU X (compareOp .Eq) xF:=by
 intro pins s σ H x y v u Q I rx ry h
 obtain⟨d,e,hd,he,sd,se,q⟩:=h
 obtain⟨as,ra⟩:=hd.reads I.hok rx
 obtain⟨bs,rb⟩:=he.reads I.hok ry
 exact SeqAt.compareEq_shaped ra rb sd se hr.units ⟨.bl _,H,I,rfl,q⟩
theorem Kk{k:Nat}(hr:ax k X.A):bU X (compareOp .NotEq) xG:=by
 intro pins s σ H x y v u Q I rx ry h
 obtain⟨d,e,hd,he,sd,se,q⟩:=h
 obtain⟨as,ra⟩:=hd.reads I.hok rx
 obtain⟨bs,rb⟩:=he.reads I.hok ry
 exact SeqAt.compareNe_shaped ra rb sd se hr.units ⟨.bl _,H,I,rfl,q⟩
end
noncomputable def xH(l:Addr):It where
 go:=fun i H=>∃ xs x,H l=some (.lst xs)/\xs[i]? = some x
 ng:=fun i H v H'=>∃ p xs x,v = .ref p/\H p=none/\H'=upd H p (.tup [.int i,x])/\H l=some (.lst xs)/\xs[i]? = some x
 stop:=fun i H=>∃ xs,H l=some (.lst xs)/\xs.length<=i
noncomputable def jF(n:Addr):List Addr:=[n+1,n]
theorem aK{n b:Addr}:b∈jF n ↔ b=n+1\/b=n:=by simp[jF]
noncomputable def Kl(n l:Addr)(i:Nat)(h:Heap):Prop:=∃ old,IsEnum h (n+1) n i old/\h.IsListIter n l i
theorem Km{P:Program}{w:World}{K:W.Frag}{es:List Expr}{x1}{pos:Pos}(l n:Addr):Turn P w K (.Tuple es x1 pos) (xH l) (jF n) (n+1) (Kl n l) where
 mem:=by simp[jF]
 obj:=fun i h st b hb=>by
  obtain⟨old,he,⟨o,e,c,d⟩⟩:=st
  rcases aK.mp hb with z | z<;>subst z
  · exact⟨_,he,fun v z=>nomatch z⟩
  · exact⟨_,e,fun v z=>by rw[d] at z;cases z⟩
 keep:=fun i h h' st k=>by
  obtain⟨old,he,⟨o,e,r⟩⟩:=st
  exact⟨old,k _ (aK.mpr (.inl rfl)) _ he,⟨o,k _ (aK.mpr (.inr rfl)) _ e,r⟩⟩
 item:=by
  intro X hP hw hK hc i pins s σ H E I hf st hg
  subst hP hw hK
  obtain⟨xs,x,q1,hx⟩:=hg
  obtain⟨old,he,st1⟩:=st
  have ne:n+1≠n:=Nat.succ_ne_self n
  obtain⟨us,r1,p1,z1⟩:=I.list (bP.of q1)
  obtain⟨u,hu,ru⟩:=r1.get hx
  have new:∀ b∈jF n,b<s.heap.objs.size:=fun b hb=>by
   rcases aK.mp hb with e | e<;>subst e
   · exact Heap.lt_size he
   · obtain⟨_,e,_⟩:=st1;exact Heap.lt_size e
  apply wpAny_pyNext_enum_item he st1 p1.isList (x:=u) (by simpa using hu) ne
  intro h1 ho1 s1 np sz kept
  refine⟨_,rfl,wpAny_letOwnedTupleGo_enum ho1 fun h2 he2 sb=>?_⟩
  have k2:∀ b o,b ∉ jF n->s.heap.get? b=some o->h2.get? b=some o:=fun b o hb e=>by
   rw[aK] at hb
   exact sb.extBut _ _ (fun z=>hb (.inl z)) (kept b o (fun z=>hb (.inl z)) (fun z=>hb (.inr z)) e)
  have fr:H s.heap.objs.size=none:=I.hok.fresh (Nat.le_refl _)
  have nz:s.heap.objs.size≠n+1:=fun e=>absurd (new (n+1) (aK.mpr (.inl rfl))) (by rw[e];exact Nat.lt_irrefl _)
  refine⟨.ref s.heap.objs.size,upd H s.heap.objs.size (.tup [.int i,x]),I.fz (t':=s.toks+1) k2 hf (Nat.le_refl _) ?_,rfl,⟨_,xs,x,rfl,fr,rfl,q1,hx⟩,⟨u,?_,?_⟩,fun b hb=>?_⟩
  · exact⟨by show(2:Nat)<=sizeLine;decide,[.int i s.toks,u],.cons ⟨_,rfl⟩ (.cons ru .nil),⟨_,sb.extBut _ _ nz np,rfl,_,rfl⟩⟩
  · exact he2
  · obtain⟨o,e,r⟩:=s1
    exact⟨o,sb.extBut _ _ (Ne.symm ne) e,r⟩
  · rw[aV (Nat.ne_of_lt (new b hb))];exact(hf b hb).1
 done:=by
  intro X hP hw hK hc i pins s σ H E I hf st hg
  subst hP hw hK
  obtain⟨xs,q1,hx⟩:=hg
  obtain⟨old,he,st1⟩:=st
  obtain⟨us,r1,p1,z1⟩:=I.list (bP.of q1)
  have hl:=r1.length
  apply wpAny_pyNext_enum_end (I.ok.hd hc) he st1 p1.isList (by simp;omega)
  intro h1 kept
  exact⟨rfl,I.fw (t':=s.toks) (fun b o hb e=>kept b o (fun z=>hb (aK.mpr (.inr z))) e) hf⟩
 self:=fun A i s Q E st h=>by
  obtain⟨old,he,_⟩:=st
  have ty:s.TypeIs (.ref (n+1)) "enumerate" := ⟨_,he,rfl⟩
  apply wpAny_pyIter_slot ty F.slot_enumerate_iter
  apply wpAny_call_entry F.slot_enumerate_iter ty F.entry_enumerate_iter _ (F.args_enumerate_iter_1 _)
  change wpAny _ _ (ret (.ref (n+1))) _ _ s
  exact wpAny_pure ⟨_,rfl,"enumerate",_,ty,F.slot_enumerate_next.lookup,h⟩
noncomputable def xI(ta:TA):TI:=fun σ H R=>ta σ H fun vs H1=>∃ l xs,vs=[.ref l]/\H1 l=some (.lst xs)/\R (xH l) H1
section
variable{X:Cx}
theorem C6:bootBuiltins "enumerate" = some (.type "enumerate"):=by decide +kernel
theorem Kn{a:Expr}{es:List Expr}{x1}{tp:Pos}{ta:TA}{p pos:Pos}(hg:Gl X "enumerate")(hm:X.mg "enumerate" = none)(ha:PA X [a] ta)(hs:starEach [a] X.env=[(false,eval a X.env)]:=by rfl):PI X (.Tuple es x1 tp) (.Call (.Name "enumerate" p) [a] [] pos) (xI ta):=by
 intro pins s σ H R I h
 refine Call_ (o7 I hg hm C6 (PyProof.Rows.callWith_type1 (aL (ha pos pins s σ H _ I h) fun us s1 ⟨vs,H1,I1,r1,q1⟩=>?_) hs rfl))
 obtain⟨l,xs,e,q1,q⟩:=q1
 subst e
 obtain⟨u,rfl,e1⟩:=vals1 r1
 cases e1
 obtain⟨us,r1,p1,z1⟩:=I1.list (bP.of q1)
 apply call_enumerate_list p1.isList
 intro h' he st sz kept
 have T:=Km (P:=X.prog) (w:=X.w) (K:=X.K) (es:=es) (x1:=x1) (pos:=tp) l s1.heap.objs.size
 apply T.self X.A 0 _ _ _ ⟨.none,he,st⟩
 refine⟨_,jF s1.heap.objs.size,_,_,H1,rfl,I1.kept (t':=s1.toks) kept,T,⟨.none,he,st⟩,fun b hb=>?_,q⟩
 have le:s1.heap.objs.size<=b:=by
  rw[aK] at hb
  rcases hb with e | e<;>rw[e]<;>first | exact Nat.le_refl _ | exact Nat.le_add_right _ _
 exact I1.ij le (I1.hok.fresh le)
end
noncomputable def Ko(K:W.Frag):List V->Hp->VK->Prop:=fun xs H Q=>∃ x c t cv b,xs=[x,c]/\ui c=some cv/\xp K H x t/\W.kitOne K t cv=some b/\Q (.bl b) H
theorem ix{H:Hp}{p:Addr}{o:HO}(h:H p=none):ae H (upd H p o):=fun b u e=>by rw[aV (eR e h)];exact e
end L2
namespace Dv
open PySem L2 Ex
inductive Cn where
 |PointError | NoPoints | NoBox | NoAsks | NoRun | NoText | NoTurn | NoTree | NoTop | NotServed | NoRow | NoPoint | NoName | NoKey | NoBack | TooMany | Points | oh | Search | oi | xJ
 deriving DecidableEq
class KC where
 K:W.Frag
 cls:Cn->Addr
variable[KC]
inductive D where
 |ao | bl (b:Bool) | int (i:Int) | str (x:Str)
 |lst (xs:List D) | tup (xs:List D) | gk (ks vs:List D) | bL (ns:List Int) | ins (C:Cn) (ns:List Str) (vs:List D) | obj (C:Cn) (ns:List Str) (vs:List D)
mutual
inductive Rp(R:Hp):V->D->Prop
 |ao:Rp R .ao .ao
 |bl (b:Bool):Rp R (.bl b) (.bl b)
 |int (i:Int):Rp R (.int i) (.int i)
 |str (x:Str):Rp R (.str x) (.str x)
 |lst {a:Addr} {xs:List V} {ds:List D}:R a=some (.lst xs)->aB R xs ds->Rp R (.ref a) (.lst ds)
 |tup {a:Addr} {xs:List V} {ds:List D}:R a=some (.tup xs)->aB R xs ds->Rp R (.ref a) (.tup ds)
 |gu {a:Addr}:R a=some (.dK [])->Rp R (.ref a) (.gk [] [])
 |bL {a:Addr} {ns:List Int}:bP KC.K R a (ns.map V.int)->Rp R (.ref a) (.bL ns)
 |fS {a:Addr} {C:Cn}:R a=some (bV (KC.cls C) a none false)->Rp R (.ref a) (.ins C [] [])
 |exc {a d:Addr} {C:Cn} {fs:List (Str×V)} {ds:List D}:R a=some (bV (KC.cls C) a (some d) false)->R d=some (jE d fs)->aB R (fs.map (·.2)) ds->Rp R (.ref a) (.ins C (fs.map (·.1)) ds)
 |obj {a dx:Addr} {C:Cn} {fs:List (Str×V)} {ds:List D}:R a=some (.ins (KC.cls C) dx fs)->aB R (fs.map (·.2)) ds->Rp R (.ref a) (.obj C (fs.map (·.1)) ds)
inductive aB(R:Hp):List V->List D->Prop
 |nil:aB R [] []
 |cons {x:V} {d:D} {xs:List V} {ds:List D}:Rp R x d->aB R xs ds->aB R (x::xs) (d::ds)
end
mutual
theorem Rp.sm{H H':Hp}(s:ae H H'):∀ {x:V} {d:D},Rp H x d->Rp H' x d
 | _,_,.ao=>.ao
 | _,_,.bl b=>.bl b
 | _,_,.int i=>.int i
 | _,_,.str x=>.str x
 | _,_,.lst e h=>.lst (s _ _ e) (aB.sm s h)
 | _,_,.tup e h=>.tup (s _ _ e) (aB.sm s h)
 | _,_,.gu e=>.gu (s _ _ e)
 | _,_,.bL e=>.bL (s.seq e)
 | _,_,.fS e=>.fS (s _ _ e)
 | _,_,.exc e e' h=>.exc (s _ _ e) (s _ _ e') (aB.sm s h)
 | _,_,.obj e h=>.obj (s _ _ e) (aB.sm s h)
theorem aB.sm{H H':Hp}(s:ae H H'):∀ {xs:List V} {ds:List D},aB H xs ds->aB H' xs ds
 | _,_,.nil=>.nil
 | _,_,.cons a b=>.cons (Rp.sm s a) (aB.sm s b)
end
section
variable{R:Hp}
theorem aB.len:∀ {xs:List V} {ds:List D},aB R xs ds->xs.length=ds.length
 | _,_,.nil=>rfl
 | _,_,.cons _ h=>congrArg Nat.succ (aB.len h)
theorem aB.at:∀ {xs:List V} {ds:List D} {i:Nat} {x:V},aB R xs ds->xs[i]? = some x->∃ d,ds[i]? = some d/\Rp R x d
 | _,_,_,_,.nil,e=>by simp at e
 | _,_,0,_,.cons r _,e=>by simp at e;subst e;exact⟨_,rfl,r⟩
 | _,_,i+1,x,.cons _ t,e=>by
   obtain⟨u,h1,h2⟩:=aB.at (i:=i) (x:=x) t (by simpa using e)
   exact⟨u,by simpa using h1,h2⟩
theorem aB.ta{xs:List V}{ds:List D}{i:Nat}{d:D}(h:aB R xs ds)(e:ds[i]? = some d):∃ x,xs[i]? = some x/\Rp R x d:=by
 have lt:i<xs.length:=by rw[h.len];exact(List.getElem?_eq_some_iff.mp e).1
 obtain⟨d',e',r⟩:=h.at (List.getElem?_eq_getElem lt)
 rw[e] at e';cases e'
 exact⟨_,List.getElem?_eq_getElem lt,r⟩
theorem aB.app:∀ {xs ys:List V} {ds es:List D},aB R xs ds->aB R ys es->aB R (xs++ys) (ds++es)
 | _,_,_,_,.nil,h=>h
 | _,_,_,_,.cons a b,h=>.cons a (aB.app b h)
theorem aB.take:∀ {xs:List V} {ds:List D} (n:Nat),aB R xs ds->aB R (xs.take n) (ds.take n)
 | _,_,0,_=>.nil
 | _,_,_+1,.nil=>.nil
 | _,_,n+1,.cons a b=>.cons a (aB.take n b)
theorem aB.drop:∀ {xs:List V} {ds:List D} (n:Nat),aB R xs ds->aB R (xs.drop n) (ds.drop n)
 | _,_,0,h=>h
 | _,_,_+1,.nil=>.nil
 | _,_,n+1,.cons _ b=>aB.drop n b
theorem aB.set{x:V}{d:D}(r:Rp R x d):∀ {xs:List V} {ds:List D} (n:Nat),aB R xs ds->aB R (xs.set n x) (ds.set n d)
 | _,_,_,.nil=>.nil
 | _,_,0,.cons _ b=>.cons r b
 | _,_,n+1,.cons a b=>.cons a (aB.set r n b)
theorem aB.ints:∀ ns:List Int,aB R (ns.map V.int) (ns.map D.int)
 | []=>.nil
 |n::r=>.cons (.int n) (aB.ints r)
end
inductive Kd where
 |ak | own | io (k:Nat)
 deriving DecidableEq
noncomputable abbrev Sl:=Option (Kd×D)
noncomputable abbrev En:=List Sl
inductive RV where
 |val (d:D) | new (d:D) | var (i:Nat)
noncomputable def OwR(R H:Hp)(v:V)(d:D):Prop:=∃ a xs ds,v = .ref a/\R a=none/\H a=some (.lst xs)/\d = .lst ds/\aB R xs ds
noncomputable def kY(ios:List Addr)(R H:Hp)(v:V):Kd×D->Prop
 | (.ak,d)=>Rp R v d
 | (.own,d)=>OwR R H v d
 | (.io k,d)=>OwR R H v d/\∃ a,ios[k]? = some a/\v = .ref a
noncomputable def owned:Kd->Bool
 | .ak=>false
 | _=>true
noncomputable def Ow(σ:St)(Γ:En)(b:Addr):Prop:=∃ (i:Nat) (k:Kd) (d:D),Γ[i]? = some (some (k,d))/\owned k=true/\σ[i]? = some (some (.ref b))
structure ER(ios:List Addr)(R H:Hp)(σ:St)(Γ:En):Prop where
 sub:ae R H
 len:σ.length=Γ.length
 sl:∀ (i:Nat) (s:Kd×D),Γ[i]? = some (some s)->∃ v,σ[i]? = some (some v)/\kY ios R H v s
 dj:∀ (i j:Nat) (k l:Kd) (d e:D) (b:Addr),Γ[i]? = some (some (k,d))->owned k=true->Γ[j]? = some (some (l,e))->owned l=true->σ[i]? = some (some (.ref b))->σ[j]? = some (some (.ref b))->i=j
structure Go(O:Addr->Prop)(R H:Hp)(O':Addr->Prop)(R' H':Hp):Prop where
 rr:ae R R'
 hh:∀ b o,H b=some o -> ¬ O b->H' b=some o
 no:∀ b o,H b=some o -> ¬ O b->R b=none->R' b=none
 oo:∀ b,O' b->O b\/H b=none
 th:∀ b o,H b=some o->∃ o',H' b=some o'
theorem Go.refl{O:Addr->Prop}{R H:Hp}:Go O R H O R H:=⟨ae.refl _,fun _ _ h _=>h,fun _ _ _ _ h=>h,fun _ h=>.inl h,fun _ o h=>⟨o,h⟩⟩
theorem Go.trans{O O1 O2:Addr->Prop}{R H R1 H1 R2 H2:Hp}(g:Go O R H O1 R1 H1)(k:Go O1 R1 H1 O2 R2 H2):Go O R H O2 R2 H2:=by
 have nO:∀ b o,H b=some o -> ¬ O b -> ¬ O1 b:=fun b o h n z=>(g.oo b z).elim n fun q=>by rw[h] at q;cases q
 refine⟨g.rr.trans k.rr,fun b o h n=>k.hh b o (g.hh b o h n) (nO b o h n),fun b o h n r=>k.no b o (g.hh b o h n) (nO b o h n) (g.no b o h n r),fun b z=>?_,fun b o h=>let ⟨o1,h1⟩:=g.th b o h;k.th b o1 h1⟩
 rcases k.oo b z with q | q
 · exact g.oo b q
 · by_cases hO:O b
   · exact .inl hO
   · cases e:H b with
     |none=>exact .inr rfl
     |some o=>rw[g.hh b o e hO] at q;cases q
end Dv
namespace Dv
open PySem L2 Ex
variable[KC]
structure Xc where
 C:Cn
 fs:List (Str×D)
inductive Res(α:Type) where
 |ok (a:α) (Γ:En) | ex (x:Xc) (Γ:En) | st
noncomputable abbrev M(α:Type):=En->Res α
noncomputable def M.pure{α:Type}(a:α):M α:=fun Γ=>.ok a Γ
noncomputable def M.bind{α β:Type}(f:M α)(g:α->M β):M β:=fun Γ=>match f Γ with
 | .ok a Γ'=>g a Γ'
 | .ex x Γ'=>.ex x Γ'
 | .st=>.st
noncomputable def M.st{α:Type}:M α:=fun _=>.st
noncomputable def M.cH{α:Type}:Option α->M α
 |some a=>M.pure a
 |none=>M.st
noncomputable def bx{α:Type}(r:Res α)(K:α->En->Prop)(E:Xc->En->Prop):Prop:=match r with
 | .ok a Γ=>K a Γ
 | .ex x Γ=>E x Γ
 | .st=>False
theorem ZY{α β:Type}{f:M α}{g:α->M β}{Γ:En}{K:β->En->Prop}{E:Xc->En->Prop}:bx (M.bind f g Γ) K E=bx (f Γ) (fun a Γ'=>bx (g a Γ') K E) E:=by
 unfold M.bind bx
 cases f Γ<;>rfl
theorem aT{α:Type}{r:Res α}{K K':α->En->Prop}{E E':Xc->En->Prop}(h:bx r K E)(hK:∀ a Γ,K a Γ->K' a Γ)(hE:∀ x Γ,E x Γ->E' x Γ):bx r K' E':=by
 cases r with
 |ok a Γ=>exact hK _ _ h
 |ex x Γ=>exact hE _ _ h
 |st=>exact h
theorem iy{α:Type}{o:Option α}{Γ:En}{K:α->En->Prop}{E:Xc->En->Prop}(h:bx (M.cH o Γ) K E):∃ a,o=some a/\K a Γ:=by
 cases o with
 |none=>exact False.elim h
 |some a=>exact⟨a,rfl,h⟩
structure Al(R H R' H':Hp):Prop where
 sub:ae R' H'
 rr:ae R R'
 hh:ae H H'
 no:∀ b o,H b=some o->R b=none->R' b=none
theorem Al.refl{R H:Hp}(s:ae R H):Al R H R H:=⟨s,ae.refl _,ae.refl _,fun _ _ _ h=>h⟩
theorem Al.go{O:Addr->Prop}{R H R' H':Hp}(a:Al R H R' H'):Go O R H O R' H':=⟨a.rr,fun b o h _=>a.hh b o h,fun b o h _ r=>a.no b o h r,fun _ h=>.inl h,fun b o h=>⟨o,a.hh b o h⟩⟩
theorem ER.ow{ios:List Addr}{R H:Hp}{σ:St}{Γ:En}(e:ER ios R H σ Γ){b:Addr}(o:Ow σ Γ b):R b=none/\∃ xs,H b=some (.lst xs):=by
 obtain⟨i,k,d,h1,h2,h3⟩:=o
 obtain⟨v,hv,s⟩:=e.sl i _ h1
 rw[h3] at hv
 cases hv
 cases k with
 |ak=>cases h2
 |own=>obtain⟨a,xs,ds,e1,e2,e3,_⟩:=s;cases e1;exact⟨e2,xs,e3⟩
 |io n=>obtain⟨⟨a,xs,ds,e1,e2,e3,_⟩,_⟩:=s;cases e1;exact⟨e2,xs,e3⟩
theorem OwR.mono{R H R' H':Hp}{v:V}{d:D}(h:OwR R H v d)(rr:ae R R')(k:∀ a xs,v = .ref a->H a=some (.lst xs)->R a=none->H' a=some (.lst xs)/\R' a=none):OwR R' H' v d:=by
 obtain⟨a,xs,ds,rfl,h1,h2,rfl,h3⟩:=h
 obtain⟨k1,k2⟩:=k a xs rfl h2 h1
 exact⟨a,xs,ds,rfl,k2,k1,rfl,h3.sm rr⟩
theorem kY.mono{ios:List Addr}{R H R' H':Hp}{v:V}{s:Kd×D}(h:kY ios R H v s)(rr:ae R R')(k:owned s.1=true->∀ a xs,v = .ref a->H a=some (.lst xs)->R a=none->H' a=some (.lst xs)/\R' a=none):kY ios R' H' v s:=by
 obtain⟨kd,d⟩:=s
 cases kd with
 |ak=>exact Rp.sm rr h
 |own=>exact OwR.mono h rr (k rfl)
 |io n=>exact⟨OwR.mono h.1 rr (k rfl),h.2⟩
theorem ER.al{ios:List Addr}{R H R' H':Hp}{σ:St}{Γ:En}(e:ER ios R H σ Γ)(a:Al R H R' H'):ER ios R' H' σ Γ where
 sub:=a.sub
 len:=e.len
 sl:=fun i s h=>let ⟨v,hv,q⟩:=e.sl i s h; ⟨v,hv,q.mono a.rr fun _ b xs _ h1 h2=>⟨a.hh _ _ h1,a.no _ _ h1 h2⟩⟩
 dj:=e.dj
structure aM(ios:List Addr)(R H:Hp)(σ:St)(Γ:En)(R' H':Hp)(Γ':En):Prop where
 er:ER ios R' H' σ Γ'
 go:Go (Ow σ Γ) R H (Ow σ Γ') R' H'
 sh:∀ b,Ow σ Γ' b->Ow σ Γ b
section
variable{ios:List Addr}{R H R1 H1 R2 H2:Hp}{σ:St}{Γ ah au:En}
theorem aM.refl(e:ER ios R H σ Γ):aM ios R H σ Γ R H Γ:=⟨e,Go.refl,fun _ h=>h⟩
theorem aM.trans(a:aM ios R H σ Γ R1 H1 ah)(b:aM ios R1 H1 σ ah R2 H2 au):aM ios R H σ Γ R2 H2 au:=⟨b.er,a.go.trans b.go,fun c h=>a.sh c (b.sh c h)⟩
theorem aM.al(a:aM ios R H σ Γ R1 H1 ah)(b:Al R1 H1 R2 H2):aM ios R H σ Γ R2 H2 ah:=⟨a.er.al b,a.go.trans b.go,a.sh⟩
noncomputable def dS(R H H':Hp)(σ:St)(x:V):RV->Prop
 | .val d=>Rp R x d
 | .new d=>OwR R H' x d/\∃ a,x = .ref a/\H a=none
 | .var i=>σ[i]? = some (some x)
theorem dS.go{rv:RV}{x:V}(e:ER ios R H σ Γ)(a:aM ios R H σ Γ R1 H1 ah)(h:dS R1 H H1 σ x rv)(b:Go (Ow σ ah) R1 H1 (Ow σ au) R2 H2):dS R2 H H2 σ x rv:=by
 cases rv with
 |val d=>exact Rp.sm b.rr h
 |var i=>exact h
 |new d =>
   obtain⟨h1,p,hp,hn⟩:=h
   refine⟨h1.mono b.rr fun q xs e1 e2 e3=>?_,p,hp,hn⟩
   have : ¬ Ow σ ah q:=fun z=>by
    have hq:q=p:=by rw[hp] at e1;exact(V.ref.inj e1).symm
    obtain⟨_,xs,e4⟩:=e.ow (a.sh q z)
    rw[hq,hn] at e4;cases e4
   exact⟨b.hh _ _ e2 this,b.no _ _ e2 this e3⟩
noncomputable def Pk(R H:Hp)(x:V)(d:D):Prop:=Rp R x d\/∃ a xs ds,x = .ref a/\H a=some (.lst xs)/\d = .lst ds/\aB R xs ds
theorem Pk.lst{ds:List D}{x:V}(s:ae R H)(h:Pk R H x (.lst ds)):∃ a xs,x = .ref a/\H a=some (.lst xs)/\aB R xs ds:=by
 rcases h with h | ⟨a,xs,ds',rfl,h1,h2,h3⟩
 · cases h with | lst e q=>exact⟨_,_,rfl,s _ _ e,q⟩
 · cases h2;exact⟨a,xs,rfl,h1,h3⟩
theorem Pk.hv{d:D}{x:V}(s:ae R H)(h:Pk R H x d):Rp H x d:=by
 rcases h with h | ⟨a,xs,ds',rfl,h1,rfl,h3⟩
 · exact h.sm s
 · exact .lst h1 (h3.sm s)
theorem Pk.int{i:Int}{x:V}(h:Pk R H x (.int i)):x = .int i:=by
 rcases h with h | ⟨a,xs,ds',rfl,h1,h2,h3⟩
 · cases h;rfl
 · cases h2
theorem Pk.bl{i:Bool}{x:V}(h:Pk R H x (.bl i)):x = .bl i:=by
 rcases h with h | ⟨a,xs,ds',rfl,h1,h2,h3⟩
 · cases h;rfl
 · cases h2
theorem Pk.str{i:Str}{x:V}(h:Pk R H x (.str i)):x = .str i:=by
 rcases h with h | ⟨a,xs,ds',rfl,h1,h2,h3⟩
 · cases h;rfl
 · cases h2
theorem Pk.tup{ds:List D}{x:V}(h:Pk R H x (.tup ds)):∃ a xs,x = .ref a/\R a=some (.tup xs)/\aB R xs ds:=by
 rcases h with h | ⟨a,xs,ds',rfl,h1,h2,h3⟩
 · cases h with | tup e q=>exact⟨_,_,rfl,e,q⟩
 · cases h2
end
noncomputable def peek:RV->M D
 | .val d=>M.pure d
 | .new d=>M.pure d
 | .var i=>fun Γ=>match Γ[i]? with
   |some (some (_,d))=>.ok d Γ
   | _=>.st
noncomputable def mat:RV->M D
 | .val d=>M.pure d
 | .new d=>M.pure d
 | .var i=>fun Γ=>match Γ[i]? with
   |some (some (_,d))=>.ok d (Γ.set i (some (.ak,d)))
   | _=>.st
section
variable{ios:List Addr}{R H R1 H1 R2 H2:Hp}{σ:St}{Γ ah au:En}
theorem kY.pk{v:V}{s:Kd×D}(h:kY ios R H v s):Pk R H v s.2:=by
 obtain⟨kd,d⟩:=s
 cases kd with
 |ak=>exact .inl h
 |own=>obtain⟨a,xs,ds,h1,_,h2,h3,h4⟩:=h;exact .inr ⟨a,xs,ds,h1,h2,h3,h4⟩
 |io n=>obtain⟨⟨a,xs,ds,h1,_,h2,h3,h4⟩,_⟩:=h;exact .inr ⟨a,xs,ds,h1,h2,h3,h4⟩
theorem jg{rv:RV}{x:V}{K:D->En->Prop}{E:Xc->En->Prop}(e:ER ios R1 H1 σ ah)(h:dS R1 H H1 σ x rv)(k:bx (peek rv ah) K E):∃ d,Pk R1 H1 x d/\K d ah:=by
 cases rv with
 |val d=>exact⟨d,.inl h,k⟩
 |new d =>
   obtain⟨⟨a,xs,ds,h1,_,h2,h3,h4⟩,_⟩:=h
   exact⟨d,.inr ⟨a,xs,ds,h1,h2,h3,h4⟩,k⟩
 |var i =>
   unfold peek at k
   dsimp only at k
   split at k
   · rename_i q
     obtain⟨v,hv,s⟩:=e.sl i _ q
     have h:σ[i]? = some (some x):=h
     rw[h] at hv
     cases hv
     exact⟨_,s.pk,k⟩
   · exact False.elim k
noncomputable def ext(R H:Hp)(a:Addr):Hp:=fun b=>if b=a then H a else R b
theorem pE{R H:Hp}{a:Addr}(h:R a=none):ae R (ext R H a):=fun b o e=>by
 unfold ext
 split
 · rename_i z;rw[z,h] at e;cases e
 · exact e
theorem lR{R H:Hp}{a:Addr}:ext R H a a=H a:=by unfold ext;rw[if_pos rfl]
theorem k7{R H:Hp}{a b:Addr}(h:b≠a):ext R H a b=R b:=by unfold ext;rw[if_neg h]
theorem uu{R H:Hp}{a:Addr}(s:ae R H):ae (ext R H a) H:=fun b o e=>by
 unfold ext at e
 split at e
 · rename_i z;rw[z];exact e
 · exact s b o e
theorem C7{i:Nat}{d:D}{b:Addr}(h:Ow σ (Γ.set i (some (.ak,d))) b):Ow σ Γ b /\ ¬ (σ[i]? = some (some (.ref b))/\∀ j k d,Γ[j]? = some (some (k,d))->owned k=true->σ[j]? = some (some (.ref b))->j=i):=by
 obtain⟨j,k,e,h1,h2,h3⟩:=h
 by_cases hj:j=i
 · subst hj
   by_cases hl:j<Γ.length
   · rw[List.getElem?_set_self hl] at h1;cases h1;cases h2
   · rw[List.getElem?_eq_none (by rw[List.length_set];omega)] at h1;cases h1
 · rw[List.getElem?_set_ne (Ne.symm hj)] at h1
   exact⟨⟨j,k,e,h1,h2,h3⟩,fun ⟨_,z⟩=>hj (z j k e h1 h2 h3)⟩
theorem ER.freeze{i:Nat}{k:Kd}{d:D}{x:V}(e:ER ios R H σ Γ)(hi:Γ[i]? = some (some (k,d)))(hx:σ[i]? = some (some x)):∃ R',aM ios R H σ Γ R' H (Γ.set i (some (.ak,d)))/\Rp R' x d:=by
 obtain⟨v,hv,s⟩:=e.sl i _ hi
 rw[hx] at hv
 cases hv
 have hlt:i<Γ.length:=(List.getElem?_eq_some_iff.mp hi).1
 by_cases hk:owned k=true
 · obtain⟨a,xs,ds,rfl,h1,h2,rfl,h3⟩:OwR R H x d:=by
    cases k with
    |ak=>cases hk
    |own=>exact s
    |io n=>exact s.1
   have inj:∀ j l z,Γ[j]? = some (some (l,z))->owned l=true->σ[j]? = some (some (.ref a))->j=i:=fun j l z q1 q2 q3=>(e.dj i j k l _ z a hi hk q1 q2 hx q3).symm
   have rr:ae R (ext R H a):=pE h1
   refine⟨ext R H a,⟨⟨uu e.sub,by rw[List.length_set];exact e.len,fun j t hj=>?_,fun j j' l l' z z' b q1 q2 q3 q4 q5 q6=>?_⟩,⟨rr,fun _ _ h _=>h,fun b o hb nb rb=>?_,fun b z=>.inl (C7 z).1,fun b o h=>⟨o,h⟩⟩,fun b z=>(C7 z).1⟩,.lst (by rw[lR];exact h2) (h3.sm rr)⟩
   · by_cases hji:j=i
     · subst hji
       rw[List.getElem?_set_self hlt] at hj
       cases hj
       exact⟨_,hx,.lst (by rw[lR];exact h2) (h3.sm rr)⟩
     · rw[List.getElem?_set_ne (Ne.symm hji)] at hj
       obtain⟨v,hv,q⟩:=e.sl j t hj
       refine⟨v,hv,q.mono rr fun ho b ys eb hb rb=>⟨hb,?_⟩⟩
       rw[k7]
       · exact rb
       · rintro rfl
         subst eb
         exact hji (inj j t.1 t.2 hj ho hv)
   · have g1:Γ[j]? = some (some (l,z)):=by
      by_cases hji:j=i
      · subst hji;rw[List.getElem?_set_self hlt] at q1;cases q1;cases q2
      · rwa[List.getElem?_set_ne (Ne.symm hji)] at q1
     have g2:Γ[j']? = some (some (l',z')):=by
      by_cases hji:j'=i
      · subst hji;rw[List.getElem?_set_self hlt] at q3;cases q3;cases q4
      · rwa[List.getElem?_set_ne (Ne.symm hji)] at q3
     exact e.dj j j' l l' z z' b g1 q2 g2 q4 q5 q6
   · rw[k7]
     · exact rb
     · rintro rfl
       exact nb ⟨i,k,_,hi,hk,hx⟩
 · have hk:k = .ak:=by cases k<;>first | rfl | exact absurd rfl hk
   subst hk
   have:Γ.set i (some (.ak,d))=Γ:=by
    apply List.ext_getElem?
    intro j
    by_cases hj:j=i
    · subst hj;rw[List.getElem?_set_self hlt,hi]
    · rw[List.getElem?_set_ne (Ne.symm hj)]
   rw[this]
   exact⟨R,aM.refl e,s⟩
theorem jh{rv:RV}{x:V}{K:D->En->Prop}{E:Xc->En->Prop}(e:ER ios R H σ Γ)(a:aM ios R H σ Γ R1 H1 ah)(h:dS R1 H H1 σ x rv)(k:bx (mat rv ah) K E):∃ d au R2,aM ios R H σ Γ R2 H1 au/\ae R1 R2/\Rp R2 x d/\K d au:=by
 cases rv with
 |val d=>exact⟨d,ah,R1,a,ae.refl _,h,k⟩
 |new d =>
   obtain⟨⟨p,xs,ds,rfl,h1,h2,rfl,h3⟩,q,hq,hn⟩:=h
   cases hq
   have rr:ae R1 (ext R1 H1 p):=pE h1
   have nO : ¬ Ow σ Γ p:=fun z=>by obtain⟨_,xs,e4⟩:=e.ow z;rw[hn] at e4;cases e4
   refine⟨_,ah,ext R1 H1 p,⟨⟨uu a.er.sub,a.er.len,fun j t hj=>?_,a.er.dj⟩,⟨a.go.rr.trans rr,a.go.hh,fun b o hb nb rb=>?_,a.go.oo,a.go.th⟩,a.sh⟩,rr,.lst (by rw[lR];exact h2) (h3.sm rr),k⟩
   · obtain⟨v,hv,s⟩:=a.er.sl j t hj
     refine⟨v,hv,s.mono rr fun ho b ys eb hb rb=>⟨hb,?_⟩⟩
     rw[k7]
     · exact rb
     · rintro rfl
       subst eb
       exact nO (a.sh _ ⟨j,t.1,t.2,hj,ho,hv⟩)
   · rw[k7]
     · exact a.go.no b o hb nb rb
     · rintro rfl
       rw[hn] at hb;cases hb
 |var i =>
   unfold mat at k
   dsimp only at k
   split at k
   · rename_i q
     obtain⟨R',f,r⟩:=a.er.freeze q h
     exact⟨_,_,R',a.trans f,f.go.rr,r,k⟩
   · exact False.elim k
end
noncomputable def k9(R H0 H:Hp)(e:Addr)(x:Xc):Prop:=R e=none/\H0 e=none/\((x.fs=[]/\H e=some (bV (KC.cls x.C) e none false)) \/
 ∃ d fs,H e=some (bV (KC.cls x.C) e (some d) false)/\H d=some (jE d fs)/\R d=none/\H0 d=none/\fs.map (·.1)=x.fs.map (·.1)/\aB R (fs.map (·.2)) (x.fs.map (·.2)))
theorem k9.back{R H0 H1 H:Hp}{e:Addr}{x:Xc}(b:∀ a,H1 a=none->H0 a=none)(h:k9 R H1 H e x):k9 R H0 H e x:=by
 obtain⟨h1,h2,h3⟩:=h
 refine⟨h1,b _ h2,h3.imp id fun ⟨d,fs,a1,a2,a3,a4,a5⟩=>⟨d,fs,a1,a2,a3,b _ a4,a5⟩⟩
theorem aM.since{ios:List Addr}{R H R' H':Hp}{σ:St}{Γ Γ':En}(h:aM ios R H σ Γ R' H' Γ'):∀ b,H' b=none->H b=none:=fun b hb=>by
 cases q:H b with
 |none=>rfl
 |some o =>
   obtain⟨o',z⟩:=h.go.th b o q
   rw[hb] at z;cases z
noncomputable def d9(EE:a9)(ios:List Addr)(R H:Hp)(σ:St)(Γ:En):Xc->En->Prop:=fun x Γ'=>∀ e H' R',aM ios R H σ Γ R' H' Γ'->k9 R' H H' e x->EE σ (.ref (KC.cls x.C)) (some e) H'
theorem d9.trans{EE:a9}{ios:List Addr}{R H R1 H1:Hp}{σ:St}{Γ ah:En}(a:aM ios R H σ Γ R1 H1 ah){x:Xc}{Γ':En}(h:d9 EE ios R H σ Γ x Γ'):d9 EE ios R1 H1 σ ah x Γ':=fun e H' R' b q=>h e H' R' (a.trans b) (q.back a.since)
noncomputable def fT(EE:a9)(ios:List Addr)(t:TE)(f:M RV):Prop:=∀ σ H R Γ Q,ER ios R H σ Γ ->
 bx (f Γ) (fun rv Γ'=>∀ x H' R',aM ios R H σ Γ R' H' Γ'->dS R' H H' σ x rv->Q x H') (d9 EE ios R H σ Γ)->t σ H Q
noncomputable def k_(EE:a9)(ios:List Addr)(t:TT)(f:M Bool):Prop:=∀ σ H R Γ Q,ER ios R H σ Γ ->
 bx (f Γ) (fun b Γ'=>∀ H' R',aM ios R H σ Γ R' H' Γ'->Q b H') (d9 EE ios R H σ Γ)->t σ H Q
noncomputable def VE(X:Cx)(EE:a9)(ios:List Addr)(e:Expr)(f:M RV):Prop:=∃ t,PE X e t/\fT EE ios t f
noncomputable def VT(X:Cx)(EE:a9)(ios:List Addr)(e:Expr)(f:M Bool):Prop:=∃ t,PT X e t/\k_ EE ios t f
noncomputable def VW(X:Cx)(EE:a9)(ios:List Addr)(e:Expr)(f:M Bool):Prop:=∃ t,PW X e t/\k_ EE ios t f
noncomputable def oj(R:Hp)(σ:St)(x:V):RV->Prop
 | .val d=>Rp R x d
 | .new _=>False
 | .var i=>σ[i]? = some (some x)
inductive d_(R:Hp)(σ:St):List V->List RV->Prop where
 |nil:d_ R σ [] []
 |cons {x:V} {rv:RV} {xs:List V} {rvs:List RV}:oj R σ x rv->d_ R σ xs rvs->d_ R σ (x::xs) (rv::rvs)
theorem oj.sm{R R':Hp}{σ:St}(s:ae R R'){x:V}{rv:RV}(h:oj R σ x rv):oj R' σ x rv:=by
 cases rv with
 |val d=>exact Rp.sm s h
 |new d=>exact h
 |var i=>exact h
theorem d_.sm{R R':Hp}{σ:St}(s:ae R R'):∀ {xs:List V} {rvs:List RV},d_ R σ xs rvs->d_ R' σ xs rvs
 | _,_,.nil=>.nil
 | _,_,.cons a b=>.cons (a.sm s) (b.sm s)
theorem oj.rv{R H H':Hp}{σ:St}{x:V}{rv:RV}(h:oj R σ x rv):dS R H H' σ x rv:=by
 cases rv with
 |val d=>exact h
 |new d=>exact h.elim
 |var i=>exact h
noncomputable def pF(EE:a9)(ios:List Addr)(t:TA)(f:M (List RV)):Prop:=∀ σ H R Γ Q,ER ios R H σ Γ ->
 bx (f Γ) (fun rvs Γ'=>∀ xs H' R',aM ios R H σ Γ R' H' Γ'->d_ R' σ xs rvs->Q xs H') (d9 EE ios R H σ Γ)->t σ H Q
noncomputable def VA(X:Cx)(EE:a9)(ios:List Addr)(es:List Expr)(f:M (List RV)):Prop:=∃ t,PA X es t/\pF EE ios t f
section
variable{X:Cx}{EE:a9}{ios:List Addr}{e a b c:Expr}{f g k:M RV}{pos:Pos}
noncomputable def ai(i:Nat):M RV:=fun Γ=>match Γ[i]? with
 |some (some (.ak,d))=>.ok (.val d) Γ
 |some (some _)=>.ok (.var i) Γ
 | _=>.st
theorem aw{i:Nat}(h:PE X e (m_ i)):VE X EE ios e (ai i):=by
 refine⟨_,h,fun σ H R Γ Q er w=>?_⟩
 unfold ai at w
 split at w
 · rename_i q
   obtain⟨v,hv,s⟩:=er.sl i _ q
   exact⟨v,hv,w v H R (aM.refl er) s⟩
 · rename_i q
   obtain⟨v,hv,s⟩:=er.sl i _ q
   exact⟨v,hv,w v H R (aM.refl er) hv⟩
 · exact False.elim w
theorem qX{v:V}{d:D}(h:PE X e (tC v))(r:∀ R,Rp R v d):VE X EE ios e (M.pure (.val d)) :=
 ⟨_,h,fun σ H R Γ Q er w=>w v H R (aM.refl er) (r R)⟩
theorem aG{i:Int}{j:Nat}:VE X EE ios (.Constant (.int i) j pos) (M.pure (.val (.int i))):=qX Hw fun _=>.int i
theorem iz{i:Bool}{j:Nat}:VE X EE ios (.Constant (.bool i) j pos) (M.pure (.val (.bl i))):=qX Hx fun _=>.bl i
theorem jX{j:Nat}:VE X EE ios (.Constant .none j pos) (M.pure (.val .ao)):=qX Hy fun _=>.ao
theorem cX{i:Str}{j:Nat}:VE X EE ios (.Constant (.str i) j pos) (M.pure (.val (.str i))):=qX Br fun _=>.str i
noncomputable def iX(R H H':Hp)(z:V):RV->Prop
 | .val d=>Rp R z d
 | .new d=>OwR R H' z d/\∃ a,z = .ref a/\H a=none
 | .var _=>False
theorem iX.rv{R H0 H H':Hp}{σ:St}{z:V}{rv:RV}(h:iX R H H' z rv)(s:∀ b,H b=none->H0 b=none):dS R H0 H' σ z rv:=by
 cases rv with
 |val d=>exact h
 |new d=>obtain⟨h1,a,h2,h3⟩:=h;exact⟨h1,a,h2,s _ h3⟩
 |var i=>exact h.elim
theorem aM.back{R H R' H':Hp}{σ:St}{Γ Γ':En}(er:ER ios R H σ Γ)(h:aM ios R H σ Γ R' H' Γ'):∀ b,H' b=none->H b=none:=fun b hb=>by
 cases q:H b with
 |none=>rfl
 |some o =>
   obtain⟨o',z⟩:=h.go.th b o q
   rw[hb] at z;cases z
end
section
variable{X:Cx}{EE:a9}{ios:List Addr}{e a b c:Expr}{f g k:M RV}{pos:Pos}{ta tb tc t:TE}{r r':R2}
noncomputable def dw(r:R2)(g:D->D->Option RV):Prop:=∀ R H x y d e rv (Q:VK),ae R H->Pk R H x d->Pk R H y e->g d e=some rv->(∀ z H' R',Al R H R' H'->iX R' H H' z rv->Q z H')->r x y H Q
noncomputable def op2(o:D->D->Option RV)(f g:M RV):M RV:=M.bind f fun x=>M.bind g fun y=>M.bind (peek x) fun d=>M.bind (peek y) fun e=>M.cH (o d e)
theorem uv{o:D->D->Option RV}(ho:dw r o)(ha:fT EE ios ta f)(hb:fT EE ios tb g):fT EE ios (qH r ta tb) (op2 o f g):=by
 intro σ H R Γ Q er w
 unfold op2 at w
 rw[ZY] at w
 refine ha σ H R Γ _ er (aT w (fun rx ah w x H1 R1 p1 hx=>?_) fun _ _ z=>z)
 rw[ZY] at w
 refine hb σ H1 R1 ah _ p1.er (aT w (fun ry au w y H2 R2 p2 hy=>?_) fun _ _ z=>d9.trans p1 z)
 rw[ZY] at w
 obtain⟨d,pd,w⟩:=jg p2.er (hx.go er p1 p2.go) w
 rw[ZY] at w
 obtain⟨e,pe,w⟩:=jg p2.er hy w
 obtain⟨rv,hg,w⟩:=iy w
 exact ho R2 H2 x y d e rv Q p2.er.sub pd pe hg fun z H' R' al ra=>w z H' R' ((p1.trans p2).al al) (ra.rv ((p1.trans p2).back er))
theorem b7{op:Operator}{o:D->D->Option RV}(h:bU X (binaryOp op) r)(ho:dw r o)(ha:VE X EE ios a f)(hb:VE X EE ios b g):VE X EE ios (.BinOp a op b pos) (op2 o f g) :=
 let ⟨_,h1,h2⟩:=ha;let ⟨_,h3,h4⟩:=hb; ⟨_,Ib h h1 h3,uv ho h2 h4⟩
theorem oq{op:CmpOp}{o:D->D->Option RV}(h:bU X (compareOp op) r)(ho:dw r o)(ha:VE X EE ios a f)(hb:VE X EE ios b g)(hm:behindInMarks op b=false):VE X EE ios (.Compare a [op] [b] pos) (op2 o f g) :=
 let ⟨_,h1,h2⟩:=ha;let ⟨_,h3,h4⟩:=hb; ⟨_,Ij h h1 h3 hm,uv ho h2 h4⟩
noncomputable def bz(rv:RV):M Bool:=match rv with
 | .val (.bl b)=>M.pure b
 | _=>M.st
theorem C8(h:fT EE ios t f):k_ EE ios (BS t) (M.bind f bz):=by
 intro σ H R Γ Q er w
 rw[ZY] at w
 refine h σ H R Γ _ er (aT w (fun rv ah w x H1 R1 p1 hx=>?_) fun _ _ z=>z)
 unfold bz at w
 split at w
 · cases hx;exact⟨_,rfl,w H1 R1 p1⟩
 · exact False.elim w
theorem gv{op:CmpOp}{o:D->D->Option RV}(h:bU X (compareOp op) r)(ho:dw r o)(ha:VE X EE ios a f)(hb:VE X EE ios b g)(hm:behindInMarks op b=false):VT X EE ios (.Compare a [op] [b] pos) (M.bind (op2 o f g) bz) :=
 let ⟨_,h1,h2⟩:=ha;let ⟨_,h3,h4⟩:=hb; ⟨_,Ik h h1 h3 hm,C8 (uv ho h2 h4)⟩
theorem xK(ha:VE X EE ios e f)(he:∀ whole,isTrue e X.env whole=(do let v <- whole;standAt e.pos;holding [v] (truthy v)):=by intro _;rfl):VT X EE ios e (M.bind f bz) :=
 let ⟨_,h1,h2⟩:=ha; ⟨_,Hz h1 he,C8 h2⟩
noncomputable def qY(o o':D->D->Option RV)(f g k:M RV):M RV:=M.bind f fun x=>M.bind g fun y=>M.bind (peek x) fun d=>M.bind (peek y) fun e=>M.bind (M.bind (M.cH (o d e)) bz) fun q =>
 if q then M.bind k fun z=>M.bind (peek y) fun e'=>M.bind (peek z) fun u=>M.cH (o' e' u) else M.pure (.val (.bl false))
theorem Kp{o o':D->D->Option RV}(ho:dw r o)(ho':dw r' o')(ha:fT EE ios ta f)(hb:fT EE ios tb g)(hc:fT EE ios tc k):fT EE ios (BU r r' ta tb tc) (qY o o' f g k):=by
 intro σ H R Γ Q er w
 unfold qY at w
 rw[ZY] at w
 refine ha σ H R Γ _ er (aT w (fun rx ah w x H1 R1 p1 hx=>?_) fun _ _ z=>z)
 rw[ZY] at w
 refine hb σ H1 R1 ah _ p1.er (aT w (fun ry au w y H2 R2 p2 hy=>?_) fun _ _ z=>d9.trans p1 z)
 have lb:=p1.trans p2
 rw[ZY] at w
 obtain⟨d,pd,w⟩:=jg p2.er (hx.go er p1 p2.go) w
 rw[ZY] at w
 obtain⟨e,pe,w⟩:=jg p2.er hy w
 rw[ZY,ZY] at w
 obtain⟨rv,hg,w⟩:=iy w
 refine ho R2 H2 x y d e rv _ p2.er.sub pd pe hg fun z H3 R3 al ra=>?_
 unfold bz at w
 split at w
 · rename_i q
   cases ra
   refine⟨q,rfl,?_⟩
   have w:bx ((if q=true then M.bind k fun z=>M.bind (peek ry) fun e'=>M.bind (peek z) fun u=>M.cH (o' e' u) else M.pure (.val (.bl false))) au) _ _:=w
   cases q with
   |false=>exact qO (w (.bl false) H3 R3 (lb.al al) (.bl false))
   |true =>
     refine qP ?_
     simp only[if_true] at w
     rw[ZY] at w
     have lS:=lb.al al
     refine hc σ H3 R3 au _ lS.er (aT w (fun rz nu w z H4 R4 p4 hz=>?_) fun _ _ z=>d9.trans lS z)
     rw[ZY] at w
     have Kq:dS R3 H1 H3 σ y ry:=hy.go p1.er p2 al.go
     obtain⟨e',Kr,w⟩:=jg p4.er (Kq.go p1.er (p2.al al) p4.go) w
     rw[ZY] at w
     obtain⟨u,pu,w⟩:=jg p4.er hz w
     obtain⟨rv,hg',w⟩:=iy w
     exact ho' R4 H4 y z e' u rv Q p4.er.sub Kr pu hg' fun v H' R' al' Ks=>w v H' R' ((lS.trans p4).al al') (Ks.rv ((lS.trans p4).back er))
 · exact False.elim w
theorem Kt{op op':CmpOp}{o o':D->D->Option RV}(h:bU X (compareOp op) r)(h':bU X (compareOp op') r')(ho:dw r o)(ho':dw r' o')(ha:VE X EE ios a f)(hb:VE X EE ios b g)(hc:VE X EE ios c k)
 (hm:lastMarks [op,op'] [b,c]=false:=by with_unfolding_all rfl):VE X EE ios (.Compare a [op,op'] [b,c] pos) (qY o o' f g k) :=
 let ⟨_,h1,h2⟩:=ha;let ⟨_,h3,h4⟩:=hb;let ⟨_,h5,h6⟩:=hc; ⟨_,Il h h' h1 h3 h5 hm,Kp ho ho' h2 h4 h6⟩
variable{p q:M Bool}
noncomputable def jY(p:M Bool):M Bool:=M.bind p fun b=>M.pure (!b)
noncomputable def orM(p q:M Bool):M Bool:=M.bind p fun b=>if b then M.pure true else q
theorem Ku{t:TT}(h:k_ EE ios t p):k_ EE ios (Bv t) (jY p):=by
 intro σ H R Γ Q er w
 unfold jY at w
 rw[ZY] at w
 exact h σ H R Γ _ er (aT w (fun b ah w H1 R1 p1=>w H1 R1 p1) fun _ _ z=>z)
theorem Kv{t u:TT}(h:k_ EE ios t p)(h':k_ EE ios u q):k_ EE ios (Bu t u) (orM p q):=by
 intro σ H R Γ Q er w
 unfold orM at w
 rw[ZY] at w
 refine h σ H R Γ _ er (aT w (fun b ah w H1 R1 p1=>?_) fun _ _ z=>z)
 cases b with
 |true=>exact qP (w H1 R1 p1)
 |false=>exact qO (h' σ H1 R1 ah _ p1.er (aT w (fun b au w H2 R2 p2=>w H2 R2 (p1.trans p2)) fun _ _ z=>d9.trans p1 z))
theorem C9(h:VT X EE ios a p):VT X EE ios (.UnaryOp .Not a pos) (jY p):=let ⟨_,h1,h2⟩:=h; ⟨_,HC h1,Ku h2⟩
theorem qZ(h:VT X EE ios a p):VW X EE ios (.BoolOp .Or [a] pos) p:=let ⟨_,h1,h2⟩:=h; ⟨_,HA h1,h2⟩
theorem pG{rest:List Expr}(h:VT X EE ios a p)(h':VW X EE ios (.BoolOp .Or (b::rest) pos) q):VW X EE ios (.BoolOp .Or (a::b::rest) pos) (orM p q):=let ⟨_,h1,h2⟩:=h;let ⟨_,h3,h4⟩:=h'; ⟨_,HB h1 h3,Kv h2 h4⟩
theorem q8(h:VW X EE ios a p):VT X EE ios a p:=let ⟨_,h1,h2⟩:=h; ⟨_,PW.pt h1,h2⟩
noncomputable def uw(p:M Bool):M RV:=M.bind p fun b=>M.pure (.val (.bl b))
noncomputable def jG(f g:M RV):M RV:=M.bind (M.bind f bz) fun b=>if b then g else M.pure (.val (.bl false))
theorem Kw{R0 H0 R H R' H':Hp}{σ:St}{fU Γ Γ':En}{x:V}{rv:RV}(er:ER ios R0 H0 σ fU)(p1:aM ios R0 H0 σ fU R H Γ)(h:dS R' H H' σ x rv):dS R' H0 H' σ x rv:=by
 cases rv with
 |val d=>exact h
 |new d=>obtain⟨h1,a,h2,h3⟩:=h;exact⟨h1,a,h2,p1.back er _ h3⟩
 |var i=>exact h
theorem xM{op:BoolOp}(h:VE X EE ios a f):VE X EE ios (.BoolOp op [a] pos) f:=let ⟨_,h1,h2⟩:=h; ⟨_,HF h1,h2⟩
theorem ot{rest:List Expr}(h:VE X EE ios a f)(h':VE X EE ios (.BoolOp .And (b::rest) pos) g):VE X EE ios (.BoolOp .And (a::b::rest) pos) (jG f g):=by
 obtain⟨_,h1,h2⟩:=h
 obtain⟨_,h3,h4⟩:=h'
 refine⟨_,HG h1 h3,fun σ H R Γ Q er w=>?_⟩
 unfold jG at w
 rw[ZY] at w
 refine h2 σ H R Γ _ er (aT (by rw[ZY] at w;exact w) (fun rv ah w x H1 R1 p1 hx=>?_) fun _ _ z=>z)
 unfold bz at w
 split at w
 · rename_i q
   cases hx
   refine⟨_,rfl,?_⟩
   cases q with
   |false=>exact qO (w (.bl false) H1 R1 p1 (.bl false))
   |true=>exact qP (h4 σ H1 R1 ah _ p1.er (aT w (fun rv au w y H2 R2 p2 hy=>w y H2 R2 (p1.trans p2) (Kw (Γ':=au) er p1 hy)) fun _ _ z=>d9.trans p1 z))
 · exact False.elim w
theorem Kx(h:VE X EE ios a f):VE X EE ios (.UnaryOp .Not a pos) (uw (jY (M.bind f bz))):=by
 obtain⟨_,h1,h2⟩:=h
 refine⟨_,HH h1,fun σ H R Γ Q er w=>?_⟩
 unfold uw jY at w
 rw[ZY,ZY,ZY] at w
 refine h2 σ H R Γ _ er (aT w (fun rv ah w x H1 R1 p1 hx=>?_) fun _ _ z=>z)
 unfold bz at w
 split at w
 · cases hx
   exact⟨_,rfl,w _ H1 R1 p1 (.bl _)⟩
 · exact False.elim w
end
mutual
noncomputable def D.py:D->PyData
 | .ao=>.none
 | .bl b=>.bool b
 | .int i=>.int i
 | .str x=>.str x
 | .lst xs=>.list (D.eL xs)
 | .tup xs=>.tuple (D.eL xs)
 | .gk _ _=>.dict []
 | .bL _=>.dict []
 | .ins _ _ _=>.dict []
 | .obj _ _ _=>.dict []
noncomputable def D.eL:List D->List PyData
 | []=>[]
 |x::r=>x.py::D.eL r
end
mutual
theorem Rp.dat{H:Hp}:∀ {x:V} {d:D},Rp H x d->d.py.canLay0=true->cG H x d.py
 | _,_,.ao,_=>.ao
 | _,_,.bl b,_=>.bl b
 | _,_,.int i,_=>.int i
 | _,_,.str x,_=>.str x
 | _,_,.lst e h,p=>.lst e (aB.dat h (by simpa [D.py,PyData.canLay0] using p))
 | _,_,.tup e h,p=>.tup e (aB.dat h (by simpa [D.py,PyData.canLay0] using p))
 | _,_,.gu e,p=>by simp[D.py,PyData.canLay0] at p
 | _,_,.bL e,p=>by simp[D.py,PyData.canLay0] at p
 | _,_,.fS e,p=>by simp[D.py,PyData.canLay0] at p
 | _,_,.exc e e' h,p=>by simp[D.py,PyData.canLay0] at p
 | _,_,.obj e h,p=>by simp[D.py,PyData.canLay0] at p
theorem aB.dat{H:Hp}:∀ {xs:List V} {ds:List D},aB H xs ds->PyData.canLayAll0 (D.eL ds)=true->cc H xs (D.eL ds)
 | _,_,.nil,_=>.nil
 | _,_,.cons a b,p=>by
   have p:=Bool.and_eq_true_iff.mp (show(PyData.canLay0 _ && PyData.canLayAll0 _)=true from by simpa only [D.eL,PyData.canLayAll0] using p)
   exact .cons (Rp.dat a p.1) (aB.dat b p.2)
end
noncomputable def eqB(d e:D):Bool:=PyData.eqv d.py e.py
noncomputable def eW(d:D):Bool:=SeqAt.shaped d.py
theorem ux{d:D}(h:eW d=true):d.py.canLay0=true:=SeqAt.canLay_of_shaped h
noncomputable def pH(d e:D):Option RV:=if eW d && eW e then some (.val (.bl (eqB d e))) else none
noncomputable def q9(d e:D):Option RV:=if eW d && eW e then some (.val (.bl (!eqB d e))) else none
section
variable{K:W.Frag}
theorem Ky:dw xF pH:=by
 intro R H x y d e rv Q s px py hg q
 unfold pH at hg
 split at hg
 · rename_i c
   rw[Bool.and_eq_true] at c
   cases hg
   exact⟨d.py,e.py,(px.hv s).dat (ux c.1),(py.hv s).dat (ux c.2),c.1,c.2,q _ H R (Al.refl s) (.bl _)⟩
 · cases hg
theorem Kz:dw xG q9:=by
 intro R H x y d e rv Q s px py hg q
 unfold q9 at hg
 split at hg
 · rename_i c
   rw[Bool.and_eq_true] at c
   cases hg
   exact⟨d.py,e.py,(px.hv s).dat (ux c.1),(py.hv s).dat (ux c.2),c.1,c.2,q _ H R (Al.refl s) (.bl _)⟩
 · cases hg
noncomputable def eZ:D->D->Option RV
 | .str x,.str y=>some (.val (.bl (decide (x=y))))
 |d,e=>pH d e
noncomputable def c8:D->D->Option RV
 | .str x,.str y=>some (.val (.bl (!decide (x=y))))
 |d,e=>q9 d e
noncomputable def xN:R2:=fun x y H Q=>xF x y H Q\/BJ x y H Q
noncomputable def C_:R2:=fun x y H Q=>xG x y H Q\/BK x y H Q
omit [KC] in
theorem pI{X:Cx}{k:Nat}(hr:ax k X.A):bU X (compareOp .Eq) xN:=(Kj hr).or op_eq
omit [KC] in
theorem jZ{X:Cx}{k:Nat}(hr:ax k X.A):bU X (compareOp .NotEq) C_:=(Kk hr).or Ii
omit [KC] in
theorem Dc(x y:Str):decide (V.str x=V.str y)=decide (x=y):=by
 by_cases h:x=y
 · subst h;simp
 · simp[h]
theorem pJ:dw xN eZ:=by
 intro R H x y d e rv Q s px py hg q
 unfold eZ at hg
 split at hg
 · cases hg
   cases px.str
   cases py.str
   refine .inr ⟨rfl,?_⟩
   rw[Dc]
   exact q _ H R (Al.refl s) (.bl _)
 · exact .inl (Ky R H x y _ _ rv Q s px py hg q)
theorem j4:dw C_ c8:=by
 intro R H x y d e rv Q s px py hg q
 unfold c8 at hg
 split at hg
 · cases hg
   cases px.str
   cases py.str
   refine .inr ⟨rfl,?_⟩
   rw[Dc]
   exact q _ H R (Al.refl s) (.bl _)
 · exact .inl (Kz R H x y _ _ rv Q s px py hg q)
noncomputable def pK(g:Int->Int->D)(d e:D):Option RV:=match d,e with
 | .int i,.int j=>some (.val (g i j))
 | _,_=>none
noncomputable def q_(C:Int->Int->Bool)(g:Int->Int->D)(d e:D):Option RV:=match d,e with
 | .int i,.int j=>if C i j then some (.val (g i j)) else none
 | _,_=>none
theorem xO{g:Int->Int->V}{g':Int->Int->D}(h:∀ R i j,Rp R (g i j) (g' i j)):dw (jV g) (pK g'):=by
 intro R H x y d e rv Q s px py hg q
 unfold pK at hg
 split at hg
 · cases hg
   exact⟨_,_,px.int,py.int,q _ H R (Al.refl s) (h R _ _)⟩
 · cases hg
theorem xQ{C:Int->Int->Prop}{C':Int->Int->Bool}{g:Int->Int->V}{g':Int->Int->D}(hC:∀ i j,C' i j=true->C i j)(h:∀ R i j,Rp R (g i j) (g' i j)):dw (rI C g) (q_ C' g'):=by
 intro R H x y d e rv Q s px py hg q
 unfold q_ at hg
 split at hg
 · split at hg
   · rename_i c
     cases hg
     exact⟨_,_,px.int,py.int,hC _ _ c,q _ H R (Al.refl s) (h R _ _)⟩
   · cases hg
 · cases hg
noncomputable def cd(p:Prop):Bool:=@decide p (Classical.propDecidable p)
omit [KC] in
theorem jH{p:Prop}(h:p):cd p=true:=by unfold cd;exact @decide_eq_true p (Classical.propDecidable p) h
omit [KC] in
theorem lg{p:Prop}(h:cd p=true):p:=by unfold cd at h;exact @of_decide_eq_true p (Classical.propDecidable p) h
noncomputable abbrev uy:=pK fun i j=>.bl (decide (i<j))
noncomputable abbrev xR:=pK fun i j=>.bl (decide (i<=j))
noncomputable abbrev uz:=pK fun i j=>.bl (decide (j<i))
noncomputable abbrev jI:=q_ (fun _ j=>cd (0<j)) fun i j=>.int (i % j)
noncomputable abbrev uA:=q_ (fun _ j=>cd (0<j/\j<1073741824)) fun i j=>.int (i / j)
noncomputable abbrev nv:=q_ (fun i j=>cd (0<=j/\j<=1000000/\i.natAbs<2 ^ 64)) fun i j=>.int (i ^ j.toNat)
theorem xS:dw (jV fun i j=>.bl (decide (i<j))) uy:=xO fun _ _ _=>.bl _
theorem Dd:dw (jV fun i j=>.bl (decide (i<=j))) xR:=xO fun _ _ _=>.bl _
theorem De:dw (jV fun i j=>.bl (decide (j<i))) uz:=xO fun _ _ _=>.bl _
theorem ny:dw (rI (fun _ j=>0<j) fun i j=>.int (i % j)) jI:=xQ (fun _ _ h=>lg h) fun _ _ _=>.int _
theorem Df:dw (rI BF fun i j=>.int (i / j)) uA:=xQ (fun _ _ h=>lg h) fun _ _ _=>.int _
theorem xT:dw (rI BG fun i j=>.int (i ^ j.toNat)) nv:=xQ (fun _ _ h=>lg h) fun _ _ _=>.int _
theorem lT{R H:Hp}{p:Addr}{xs:List V}{ds:List D}(s:ae R H)(hp:H p=none)(h:aB R xs ds):Al R H R (upd H p (.lst xs))/\iX R H (upd H p (.lst xs)) (.ref p) (.new (.lst ds)) :=
 ⟨⟨s.trans (ix hp),ae.refl _,ix hp,fun _ _ _ z=>z⟩,⟨p,xs,ds,rfl,s.free hp,cJ,rfl,h⟩,p,rfl,hp⟩
theorem uB{R H:Hp}{p:Addr}{xs:List V}{ds:List D}(s:ae R H)(hp:H p=none)(h:aB R xs ds):Al R H (upd R p (.tup xs)) (upd H p (.tup xs))/\iX (upd R p (.tup xs)) H (upd H p (.tup xs)) (.ref p) (.val (.tup ds)):=by
 have hr:R p=none:=s.free hp
 refine⟨⟨fun b o e=>?_,ix hr,ix hp,fun b o e r=>?_⟩,.tup cJ (h.sm (ix hr))⟩
 · by_cases hb:b=p
   · subst hb;rw[cJ] at e ⊢;exact e
   · rw[aV hb] at e ⊢;exact s b o e
 · rw[aV (eR e hp)];exact r
noncomputable def dU(d e:D):Option RV:=match d,e with
 | .int i,.int j=>some (.val (.int (i+j)))
 | .lst xs,.lst ys=>if xs.length+ys.length<=sizeLine then some (.new (.lst (xs++ys))) else none
 | .str i,.str j=>if i.length+j.length<=sizeLine then some (.val (.str (i++j))) else none
 | _,_=>none
noncomputable def Dg:R2:=fun x y H Q=>jV (fun i j=>.int (i+j)) x y H Q\/(Cw x y H Q\/(∃ i j,x = .str i/\y = .str j/\i.length+j.length<=sizeLine/\Q (.str (i++j)) H))
theorem iY{X:Cx}:bU X (binaryOp .Add) Dg:=nQ.or (n4.or Im)
theorem iZ:dw Dg dU:=by
 intro R H x y d e rv Q s px py hg q
 unfold dU at hg
 split at hg
 · cases hg
   exact .inl ⟨_,_,px.int,py.int,q _ H R (Al.refl s) (.int _)⟩
 · split at hg
   · rename_i c
     cases hg
     obtain⟨a,xs,rfl,h1,h2⟩:=px.lst s
     obtain⟨b,ys,rfl,h3,h4⟩:=py.lst s
     refine .inr (.inl ⟨a,b,xs,ys,rfl,rfl,h1,h3,by rw[h2.len,h4.len];exact c,fun p hp=>?_⟩)
     obtain⟨al,rv⟩:=lT s hp (h2.app h4)
     exact q _ _ _ al rv
   · cases hg
 · split at hg
   · rename_i c
     cases hg
     exact .inr (.inr ⟨_,_,px.str,py.str,c,q _ H R (Al.refl s) (.str _)⟩)
   · cases hg
 · cases hg
noncomputable def ou(i j:Int):Bool:=cd (jb i j)
noncomputable def lh(d e:D):Option RV:=match d,e with
 | .int i,.int j=>if ou i j then some (.val (.int (i * j))) else none
 | _,_=>none
theorem KA{i j:Int}(h:ou i j=true):jb i j:=lg h
theorem oy:dw (rI jb fun i j=>.int (i * j)) lh:=by
 intro R H x y d e rv Q s px py hg q
 unfold lh at hg
 split at hg
 · split at hg
   · rename_i c
     cases hg
     exact⟨_,_,px.int,py.int,KA c,q _ H R (Al.refl s) (.int _)⟩
   · cases hg
 · cases hg
noncomputable def isNone:D->Bool
 | .ao=>true
 | _=>false
theorem Pk.isNone{R H:Hp}{x:V}{d:D}(h:Pk R H x d):decide (x = .ao)=isNone d:=by
 rcases h with h | ⟨a,xs,ds,rfl,_,rfl,_⟩
 · cases h<;>first | rfl | exact decide_eq_false (fun z=>nomatch z)
 · exact decide_eq_false (fun z=>nomatch z)
noncomputable def rf(d e:D):Option RV:=match e with
 | .ao=>some (.val (.bl (isNone d)))
 | _=>none
theorem Pk.xU{R H:Hp}{x:V}(h:Pk R H x .ao):x = .ao:=by
 rcases h with h | ⟨a,xs,ds,rfl,_,h2,_⟩
 · cases h;rfl
 · cases h2
theorem Dh:dw (fun x y H Q=>y = .ao/\Q (.bl (decide (x = .ao))) H) rf:=by
 intro R H x y d e rv Q s px py hg q
 unfold rf at hg
 split at hg
 · cases hg
   refine⟨py.xU,?_⟩
   rw[px.isNone]
   exact q _ H R (Al.refl s) (.bl _)
 · cases hg
noncomputable def pL:D->Bool
 | .ao=>true
 | .bl _=>true
 | .int _=>true
 | .str _=>true
 | _=>false
noncomputable def pM:D->D->Bool
 | .ao,.ao=>true
 | .bl a,.bl b=>a == b
 | .bl a,.int b=>(if a then 1 else 0) == b
 | .int a,.bl b=>a == (if b then 1 else 0)
 | .int a,.int b=>a == b
 | .str a,.str b=>a == b
 | _,_=>false
theorem Rp.flat{R:Hp}{x:V}{d:D}(h:Rp R x d):je x=pL d:=by cases h<;>rfl
theorem Rp.Di{R:Hp}{x y:V}{d e:D}(h:Rp R x d)(h':Rp R y e):iq x y=pM d e:=by cases h<;>cases h'<;>rfl
end
section
variable{X:Cx}{EE:a9}{ios:List Addr}{e a b c:Expr}{es:List Expr}{f g k:M RV}{fs:M (List RV)}{pos:Pos}{ta tb tc t:TE}{r r':R2}
noncomputable def j6(f:M RV):M RV:=M.bind f fun rv=>match rv with
 | .var i=>M.pure (.var i)
 |rv=>M.bind (mat rv) fun d=>M.pure (.val d)
noncomputable def ZS(f:M RV)(g:M (List RV)):M (List RV):=M.bind (j6 f) fun x=>M.bind g fun xs=>M.pure (x::xs)
theorem uC(h:fT EE ios t f){σ:St}{H R:Hp}{Γ:En}{Q:VK}(er:ER ios R H σ Γ)
 (w:bx (j6 f Γ) (fun rv Γ'=>∀ x H' R',aM ios R H σ Γ R' H' Γ'->oj R' σ x rv->Q x H') (d9 EE ios R H σ Γ)):t σ H Q:=by
 unfold j6 at w
 rw[ZY] at w
 refine h σ H R Γ _ er (aT w (fun rv ah w x H1 R1 p1 hx=>?_) fun _ _ z=>z)
 cases rv with
 |var i=>exact w x H1 R1 p1 hx
 |val d =>
   rw[ZY] at w
   obtain⟨d,au,R2,e2,_,r2,w⟩:=jh er p1 hx w
   exact w x H1 R2 e2 r2
 |new d =>
   rw[ZY] at w
   obtain⟨d,au,R2,e2,_,r2,w⟩:=jh er p1 hx w
   exact w x H1 R2 e2 r2
theorem aC:VA X EE ios [] (M.pure []):=⟨_,dv,fun σ H R Γ Q er w=>w [] H R (aM.refl er) .nil⟩
theorem Dj{u:TA}(h:fT EE ios t f)(h':pF EE ios u fs):pF EE ios (jD t u) (ZS f fs):=by
 intro σ H R Γ Q er w
 unfold ZS at w
 rw[ZY] at w
 refine uC h er (aT w (fun rv ah w x H1 R1 p1 hx=>?_) fun _ _ z=>z)
 rw[ZY] at w
 refine h' σ H1 R1 ah _ p1.er (aT w (fun rvs au w xs H2 R2 p2 hxs=>?_) fun _ _ z=>d9.trans p1 z)
 exact w (x::xs) H2 R2 (p1.trans p2) (.cons (hx.sm p2.go.rr) hxs)
theorem Zj(ha:VE X EE ios e f)(hr:VA X EE ios es fs)(hs:starEach (e::es) X.env=(false,eval e X.env)::starEach es X.env:=by rfl):VA X EE ios (e::es) (ZS f fs) :=
 let ⟨_,h1,h2⟩:=ha;let ⟨_,h3,h4⟩:=hr; ⟨_,bp h1 h3 hs,Dj h2 h4⟩
noncomputable def b8:List RV->M (List D)
 | []=>M.pure []
 |rv::r=>M.bind (mat rv) fun d=>M.bind (b8 r) fun ds=>M.pure (d::ds)
noncomputable def cL:List RV->M (List D)
 | []=>M.pure []
 |rv::r=>M.bind (peek rv) fun d=>M.bind (cL r) fun ds=>M.pure (d::ds)
inductive Pks(R H:Hp):List V->List D->Prop where
 |nil:Pks R H [] []
 |cons {x:V} {d:D} {xs:List V} {ds:List D}:Pk R H x d->Pks R H xs ds->Pks R H (x::xs) (d::ds)
theorem pN{R H:Hp}{σ:St}{Γ:En}(er:ER ios R H σ Γ):∀ {xs:List V} {rvs:List RV} {K:List D->En->Prop} {E:Xc->En->Prop},d_ R σ xs rvs->bx (cL rvs Γ) K E->∃ ds,Pks R H xs ds/\K ds Γ
 | _,_,K,E,.nil,w=>⟨[],.nil,w⟩
 | _,_,K,E,.cons a b,w=>by
   unfold cL at w
   rw[ZY] at w
   obtain⟨d,pd,w⟩:=jg (H:=H) er a.rv w
   rw[ZY] at w
   obtain⟨ds,pds,w⟩:=pN er b w
   exact⟨d::ds,.cons pd pds,w⟩
theorem ji{R0 H0 H:Hp}{σ:St}{fU:En}(er:ER ios R0 H0 σ fU):∀ {xs:List V} {rvs:List RV} {R:Hp} {Γ:En} {K:List D->En->Prop} {E:Xc->En->Prop},aM ios R0 H0 σ fU R H Γ->d_ R σ xs rvs->bx (b8 rvs Γ) K E ->
 ∃ ds Γ' R',aM ios R0 H0 σ fU R' H Γ'/\ae R R'/\aB R' xs ds/\K ds Γ'
 | _,_,R,Γ,K,E,p,.nil,w=>⟨[],Γ,R,p,ae.refl _,.nil,w⟩
 | _,_,R,Γ,K,E,p,.cons a b,w=>by
   unfold b8 at w
   rw[ZY] at w
   obtain⟨d,ah,R1,p1,s1,r1,w⟩:=jh er p a.rv w
   rw[ZY] at w
   obtain⟨ds,au,R2,p2,s2,r2,w⟩:=ji er p1 (b.sm s1) w
   exact⟨d::ds,au,R2,p2,s1.trans s2,.cons (r1.sm s2) r2,w⟩
noncomputable def av(fs:M (List RV)):M RV:=M.bind fs fun rvs=>M.bind (b8 rvs) fun ds=>if ds.length<=sizeLine then M.pure (.new (.lst ds)) else M.st
noncomputable def cp(fs:M (List RV)):M RV:=M.bind fs fun rvs=>M.bind (b8 rvs) fun ds=>if ds.length<=sizeLine then M.pure (.val (.tup ds)) else M.st
theorem cB(h:VA X EE ios es fs):VE X EE ios (.List es pos) (av fs):=by
 obtain⟨t,h1,h2⟩:=h
 refine⟨_,II h1,fun σ H R Γ Q er w=>?_⟩
 unfold av at w
 rw[ZY] at w
 refine h2 σ H R Γ _ er (aT w (fun rvs ah w xs H1 R1 p1 hx=>?_) fun _ _ z=>z)
 rw[ZY] at w
 obtain⟨ds,au,R2,p2,s2,r2,w⟩:=ji er p1 hx w
 split at w
 · rename_i c
   refine⟨by rw[r2.len];exact c,fun p hp=>?_⟩
   obtain⟨al,rv⟩:=lT p2.er.sub hp r2
   exact w _ _ _ (p2.al al) (rv.rv (p2.back er))
 · exact False.elim w
theorem eM{k1:Nat}(h:VA X EE ios es fs):VE X EE ios (.Tuple es k1 pos) (cp fs):=by
 obtain⟨t,h1,h2⟩:=h
 refine⟨_,B5 h1,fun σ H R Γ Q er w=>?_⟩
 unfold cp at w
 rw[ZY] at w
 refine h2 σ H R Γ _ er (aT w (fun rvs ah w xs H1 R1 p1 hx=>?_) fun _ _ z=>z)
 rw[ZY] at w
 obtain⟨ds,au,R2,p2,s2,r2,w⟩:=ji er p1 hx w
 split at w
 · rename_i c
   refine⟨by rw[r2.len];exact c,fun p hp=>?_⟩
   obtain⟨al,rv⟩:=uB p2.er.sub hp r2
   exact w _ _ _ (p2.al al) (rv.rv (p2.back er))
 · exact False.elim w
noncomputable def nA(r:List V->Hp->VK->Prop)(g:List D->Option RV):Prop:=∀ R H xs ds rv (Q:VK),ae R H->Pks R H xs ds->g ds=some rv->(∀ z H' R',Al R H R' H'->iX R' H H' z rv->Q z H')->r xs H Q
noncomputable def cf(g:List D->Option RV)(fs:M (List RV)):M RV:=M.bind fs fun rvs=>M.bind (cL rvs) fun ds=>M.cH (g ds)
theorem g_{r:List V->Hp->VK->Prop}{g:List D->Option RV}{e0:Expr}(hp:∀ t,PA X es t->PE X e0 (pj r t))(hv:nA r g)(ha:VA X EE ios es fs):VE X EE ios e0 (cf g fs):=by
 obtain⟨t,h1,h2⟩:=ha
 refine⟨_,hp t h1,fun σ H R Γ Q er w=>?_⟩
 unfold cf at w
 rw[ZY] at w
 refine h2 σ H R Γ _ er (aT w (fun rvs ah w xs H1 R1 p1 hx=>?_) fun _ _ z=>z)
 rw[ZY] at w
 obtain⟨ds,pd,w⟩:=pN p1.er hx w
 obtain⟨rv,hg,w⟩:=iy w
 exact hv R1 H1 xs ds rv Q p1.er.sub pd hg fun z H' R' al ra=>w z H' R' (p1.al al) (ra.rv (p1.back er))
theorem Pks.one{R H:Hp}{xs:List V}{d:D}(h:Pks R H xs [d]):∃ x,xs=[x]/\Pk R H x d:=by
 cases h with | cons a b=>cases b;exact⟨_,rfl,a⟩
theorem Pks.two{R H:Hp}{xs:List V}{d e:D}(h:Pks R H xs [d,e]):∃ x y,xs=[x,y]/\Pk R H x d/\Pk R H y e:=by
 cases h with | cons a b=>obtain⟨y,rfl,q⟩:=b.one;exact⟨_,_,rfl,a,q⟩
noncomputable def j7:List D->Option RV
 | [.lst xs]=>some (.val (.int xs.length))
 | [.tup xs]=>some (.val (.int xs.length))
 | [.bL xs]=>some (.val (.int xs.length))
 | [.str z]=>if z.length<=sizeLine then some (.val (.int z.length)) else none
 | _=>none
noncomputable def Dk(K:W.Frag):List V->Hp->VK->Prop:=fun xs H Q=>(∃ p ys,xs=[.ref p]/\(bP K H p ys\/cV K H p ys)/\Q (.int ys.length) H)\/(∃ z,xs=[.str z]/\z.length<=sizeLine/\Q (.int z.length) H)
theorem uD:aS X (.builtin "len") (Dk X.K):=fN.or Je
theorem uE:nA (Dk KC.K) j7:=by
 intro R H xs ds rv Q s px hg q
 unfold j7 at hg
 split at hg
 · cases hg
   obtain⟨x,rfl,p⟩:=px.one
   obtain⟨a,ys,rfl,h1,h2⟩:=p.lst s
   refine .inl ⟨a,ys,rfl,.inl (bP.of h1),?_⟩
   rw[h2.len]
   exact q _ H R (Al.refl s) (.int _)
 · cases hg
   obtain⟨x,rfl,p⟩:=px.one
   obtain⟨a,ys,rfl,h1,h2⟩:=p.tup
   refine .inl ⟨a,ys,rfl,.inr (cV.of (s _ _ h1)),?_⟩
   rw[h2.len]
   exact q _ H R (Al.refl s) (.int _)
 · cases hg
   obtain⟨x,rfl,p⟩:=px.one
   rcases p with p | ⟨_,_,_,_,_,z,_⟩
   · cases p with
     |bL h1 =>
       refine .inl ⟨_,_,rfl,.inl (s.seq h1),?_⟩
       rw[List.length_map]
       exact q _ H R (Al.refl s) (.int _)
   · cases z
 · split at hg
   · rename_i c
     cases hg
     obtain⟨x,rfl,p⟩:=px.one
     cases p.str
     exact .inr ⟨_,rfl,c,q _ H R (Al.refl s) (.int _)⟩
   · cases hg
 · cases hg
noncomputable def rg:List D->Option RV
 | [.int i,.int j]=>some (.val (.int (if j > i then j else i)))
 | _=>none
noncomputable def rh:List D->Option RV
 | [.int i,.int j]=>some (.val (.int (if j<i then j else i)))
 | _=>none
theorem KD:nA (fun xs H Q=>∃ i j,xs=[.int i,.int j]/\Q (.int (if j > i then j else i)) H) rg:=by
 intro R H xs ds rv Q s px hg q
 unfold rg at hg
 split at hg
 · cases hg
   obtain⟨x,y,rfl,p,p'⟩:=px.two
   exact⟨_,_,by rw[p.int,p'.int],q _ H R (Al.refl s) (.int _)⟩
 · cases hg
theorem KG:nA (fun xs H Q=>∃ i j,xs=[.int i,.int j]/\Q (.int (if j<i then j else i)) H) rh:=by
 intro R H xs ds rv Q s px hg q
 unfold rh at hg
 split at hg
 · cases hg
   obtain⟨x,y,rfl,p,p'⟩:=px.two
   exact⟨_,_,by rw[p.int,p'.int],q _ H R (Al.refl s) (.int _)⟩
 · cases hg
noncomputable def oz:List D->Option RV
 | [.int i]=>some (.val (.int i))
 | [.bl k]=>some (.val (.int (if k then 1 else 0)))
 | _=>none
theorem Dl:nA (fun xs H Q=>(∃ i,xs=[.int i]/\Q (.int i) H)\/∃ k,xs=[.bl k]/\Q (.int (if k then 1 else 0)) H) oz:=by
 intro R H xs ds rv Q s px hg q
 unfold oz at hg
 split at hg
 · cases hg
   obtain⟨x,rfl,p⟩:=px.one
   exact .inl ⟨_,by rw[p.int],q _ H R (Al.refl s) (.int _)⟩
 · cases hg
   obtain⟨x,rfl,p⟩:=px.one
   exact .inr ⟨_,by rw[p.bl],q _ H R (Al.refl s) (.int _)⟩
 · cases hg
noncomputable def pP:List D->Option RV
 | [.lst xs]=>some (.new (.lst xs))
 | [.tup xs]=>some (.new (.lst xs))
 | _=>none
theorem Dm{K:W.Frag}:nA (fun xs H Q=>∃ p ys,xs=[.ref p]/\(bP K H p ys\/cV K H p ys)/\∀ l,H l=none->Q (.ref l) (upd H l (.lst ys))) pP:=by
 intro R H xs ds rv Q s px hg q
 unfold pP at hg
 split at hg
 · cases hg
   obtain⟨x,rfl,p⟩:=px.one
   obtain⟨a,ys,rfl,h1,h2⟩:=p.lst s
   refine⟨a,ys,rfl,.inl (bP.of h1),fun l hl=>?_⟩
   obtain⟨al,rv⟩:=lT s hl h2
   exact q _ _ _ al rv
 · cases hg
   obtain⟨x,rfl,p⟩:=px.one
   obtain⟨a,ys,rfl,h1,h2⟩:=p.tup
   refine⟨a,ys,rfl,.inr (cV.of (s _ _ h1)),fun l hl=>?_⟩
   obtain⟨al,rv⟩:=lT s hl h2
   exact q _ _ _ al rv
 · cases hg
noncomputable def lU:List D->Option RV
 | [.lst xs]=>some (.val (.tup xs))
 | [.tup xs]=>some (.val (.tup xs))
 | _=>none
theorem Dp{K:W.Frag}:nA (fun xs H Q=>∃ p ys,xs=[.ref p]/\((bP K H p ys/\∀ l,H l=none->Q (.ref l) (upd H l (.tup ys)))\/(cV K H p ys/\Q (.ref p) H))) lU:=by
 intro R H xs ds rv Q s px hg q
 unfold lU at hg
 split at hg
 · cases hg
   obtain⟨x,rfl,p⟩:=px.one
   obtain⟨a,ys,rfl,h1,h2⟩:=p.lst s
   refine⟨a,ys,rfl,.inl ⟨bP.of h1,fun l hl=>?_⟩⟩
   obtain⟨al,rv⟩:=uB s hl h2
   exact q _ _ _ al rv
 · cases hg
   obtain⟨x,rfl,p⟩:=px.one
   obtain⟨a,ys,rfl,h1,h2⟩:=p.tup
   exact⟨a,ys,rfl,.inr ⟨cV.of (s _ _ h1),q _ H R (Al.refl s) (.tup h1 h2)⟩⟩
 · cases hg
end
section
variable{X:Cx}{EE:a9}{ios:List Addr}{e a b c:Expr}{es:List Expr}{f g k:M RV}{fs:M (List RV)}{pos:Pos}{ta tb tc t:TE}{r r':R2}{K:W.Frag}
noncomputable def c9(d e:D):Option RV:=match d,e with
 | .lst xs,.int i=>(cA xs i).map .val
 | .tup xs,.int i=>(cA xs i).map .val
 | .bL ns,.int i=>(cA ns i).map fun n=>.val (.int n)
 | .str z,.int i=>if z.length<=sizeLine then (cA z.cps.toList i).map fun c=>.val (.str ⟨#[c]⟩) else none
 | _,_=>none
theorem aB.cA{R:Hp}{xs:List V}{ds:List D}{i:Int}{d:D}(h:aB R xs ds)(e:L2.cA ds i=some d):∃ x,L2.cA xs i=some x/\Rp R x d:=by
 unfold L2.cA at e ⊢
 rw[h.len]
 cases q:jd ds.length i with
 |none=>rw[q] at e;cases e
 |some j =>
   rw[q] at e
   exact h.ta e
theorem KH{α β:Type}(f:α->β)(xs:List α)(i:Int):L2.cA (xs.map f) i=(L2.cA xs i).map f:=by
 unfold L2.cA
 rw[List.length_map]
 cases jd xs.length i with
 |none=>rfl
 |some j=>simp
theorem KI:dw (Ck KC.K) c9:=by
 intro R H x y d e rv Q s px py hg q
 unfold c9 at hg
 split at hg
 · rename_i ds i
   cases h:L2.cA ds i with
   |none=>rw[h] at hg;cases hg
   |some d =>
     rw[h] at hg
     cases hg
     obtain⟨a,xs,rfl,h1,h2⟩:=px.lst s
     obtain⟨v,hv,rv⟩:=h2.cA h
     exact .inl ⟨a,xs,i,v,rfl,py.int,bP.of h1,hv,q _ H R (Al.refl s) rv⟩
 · rename_i ds i
   cases h:L2.cA ds i with
   |none=>rw[h] at hg;cases hg
   |some d =>
     rw[h] at hg
     cases hg
     obtain⟨a,xs,rfl,h1,h2⟩:=px.tup
     obtain⟨v,hv,rv⟩:=h2.cA h
     exact .inr (.inl ⟨a,xs,i,v,rfl,py.int,cV.of (s _ _ h1),hv,q _ H R (Al.refl s) rv⟩)
 · rename_i ns i
   cases h:L2.cA ns i with
   |none=>rw[h] at hg;cases hg
   |some n =>
     rw[h] at hg
     cases hg
     rcases px with px | ⟨_,_,_,_,_,z,_⟩
     · cases px with
       |bL h1=>exact .inl ⟨_,_,i,.int n,rfl,py.int,s.seq h1,by rw[KH,h];rfl,q _ H R (Al.refl s) (.int n)⟩
     · cases z
 · rename_i z i
   split at hg
   · rename_i c
     cases h:L2.cA z.cps.toList i with
     |none=>rw[h] at hg;cases hg
     |some n =>
       rw[h] at hg
       cases hg
       exact .inr (.inr ⟨z,i,n,px.str,py.int,c,h,q _ H R (Al.refl s) (.str _)⟩)
   · cases hg
 · cases hg
theorem hU(ha:VE X EE ios a f)(hb:VE X EE ios b g)(hs:Cf b:=by intro _ _;rfl)(hK:X.K=KC.K:=by rfl):VE X EE ios (.Subscript a b pos) (op2 c9 f g) :=
 let ⟨_,h1,h2⟩:=ha;let ⟨_,h3,h4⟩:=hb; ⟨_,IZ I8 h1 h3 hs,uv (by rw[hK];exact KI) h2 h4⟩
noncomputable def i4{α:Type}(xs:List α)(lo hi:Option Int):List α:=(xs.drop (HT.eU xs.length 0 lo)).take (HT.eU xs.length xs.length hi - HT.eU xs.length 0 lo)
noncomputable def lV(d:D)(lo hi:Option Int):Option RV:=match d with
 | .lst xs=>some (.new (.lst (i4 xs lo hi)))
 | .bL ns=>some (.new (.lst ((i4 ns lo hi).map D.int)))
 | _=>none
noncomputable def KJ(EE:a9)(ios:List Addr)(t:TO)(f:M (Option Int)):Prop:=∀ σ H R Γ Q,ER ios R H σ Γ ->
 bx (f Γ) (fun o Γ'=>∀ H' R',aM ios R H σ Γ R' H' Γ'->Q o H') (d9 EE ios R H σ Γ)->t σ H Q
noncomputable def VO(X:Cx)(EE:a9)(ios:List Addr)(e:Option Expr)(f:M (Option Int)):Prop:=∃ t,PO X e t/\KJ EE ios t f
theorem xW:VO X EE ios none (M.pure none):=⟨_,IT,fun σ H R Γ Q er w=>w H R (aM.refl er)⟩
noncomputable def lW(rv:RV):M (Option Int):=match rv with
 | .val (.int i)=>M.pure (some i)
 | _=>M.st
theorem xZ(h:VE X EE ios e f):VO X EE ios (some e) (M.bind f lW):=by
 obtain⟨t,h1,h2⟩:=h
 refine⟨_,IU h1,fun σ H R Γ Q er w=>?_⟩
 rw[ZY] at w
 refine h2 σ H R Γ _ er (aT w (fun rv ah w x H1 R1 p1 hx=>?_) fun _ _ z=>z)
 unfold lW at w
 split at w
 · cases hx;exact⟨_,rfl,w H1 R1 p1⟩
 · exact False.elim w
noncomputable def l7(o:D->Option Int->Option Int->Option RV)(f:M RV)(lo hi:M (Option Int)):M RV:=M.bind f fun x=>M.bind lo fun l=>M.bind hi fun u=>M.bind (peek x) fun d=>M.cH (o d l u)
theorem aB.cut{R:Hp}{xs:List V}{ds:List D}(h:aB R xs ds)(lo hi:Option Int):aB R (nV xs lo hi) (i4 ds lo hi):=by
 unfold nV i4
 rw[h.len]
 exact(h.drop _).take _
theorem KL{α β:Type}(f:α->β)(xs:List α)(lo hi:Option Int):(i4 xs lo hi).map f=i4 (xs.map f) lo hi:=by
 unfold i4
 rw[List.length_map,List.map_take,List.map_drop]
theorem x_{lo hi:Option Expr}{l u:M (Option Int)}{p2:Pos}(ha:VE X EE ios a f)(hl:VO X EE ios lo l)(hu:VO X EE ios hi u)(hK:X.K=KC.K:=by rfl):VE X EE ios (.Subscript a (.Slice lo hi none p2) pos) (l7 lV f l u):=by
 obtain⟨t1,h1,h2⟩:=ha
 obtain⟨t2,h3,h4⟩:=hl
 obtain⟨t3,h5,h6⟩:=hu
 refine⟨_,IW Jc h1 h3 h5,fun σ H R Γ Q er w=>?_⟩
 unfold l7 at w
 rw[ZY] at w
 refine h2 σ H R Γ _ er (aT w (fun rx ah w x H1 R1 p1 hx=>?_) fun _ _ z=>z)
 rw[ZY] at w
 refine h4 σ H1 R1 ah _ p1.er (aT w (fun l au w H2 R2 p2=>?_) fun _ _ z=>d9.trans p1 z)
 rw[ZY] at w
 have lb:=p1.trans p2
 refine h6 σ H2 R2 au _ p2.er (aT w (fun u l9 w H3 R3 p3=>?_) fun _ _ z=>d9.trans lb z)
 have lS:=lb.trans p3
 rw[ZY] at w
 obtain⟨d,pd,w⟩:=jg p3.er (hx.go er p1 (p2.trans p3).go) w
 obtain⟨rv,hg,w⟩:=iy w
 unfold lV at hg
 split at hg
 · cases hg
   obtain⟨a,xs,rfl,h1,h2⟩:=pd.lst p3.er.sub
   refine⟨a,xs,rfl,bP.of h1,fun p hp=>?_⟩
   obtain⟨al,rv⟩:=lT p3.er.sub hp (h2.cut l u)
   exact w _ _ _ (lS.al al) (rv.rv (lS.back er))
 · cases hg
   rcases pd with pd | ⟨_,_,_,_,_,z,_⟩
   · cases pd with
     |bL h1 =>
       refine⟨_,_,rfl,by rw[hK];exact p3.er.sub.seq h1,fun p hp=>?_⟩
       rw[show nV=i4 from rfl, <- KL]
       obtain⟨al,rv⟩:=lT p3.er.sub hp (aB.ints (R:=R3) _)
       exact w _ _ _ (lS.al al) (rv.rv (lS.back er))
   · cases z
 · cases hg
noncomputable def op1(o:D->Option RV)(f:M RV):M RV:=M.bind f fun x=>M.bind (peek x) fun d=>M.cH (o d)
noncomputable def oA:D->Option RV
 | .int i=>some (.val (.int (-i)))
 | _=>none
theorem ya(ha:VE X EE ios a f):VE X EE ios (.UnaryOp .USub a pos) (op1 oA f):=by
 obtain⟨t,h1,h2⟩:=ha
 refine⟨_,Ic Ih h1,fun σ H R Γ Q er w=>?_⟩
 unfold op1 at w
 rw[ZY] at w
 refine h2 σ H R Γ _ er (aT w (fun rx ah w x H1 R1 p1 hx=>?_) fun _ _ z=>z)
 rw[ZY] at w
 obtain⟨d,pd,w⟩:=jg p1.er hx w
 obtain⟨rv,hg,w⟩:=iy w
 unfold oA at hg
 split at hg
 · cases hg
   exact⟨_,pd.int,w _ H1 R1 p1 (.int _)⟩
 · cases hg
noncomputable def rj:D->String
 | .ao => "NoneType"
 | .bl _ => "bool"
 | .int _ => "int"
 | .str _ => "str"
 | .lst _ => "list"
 | .tup _ => "tuple"
 | .gk _ _ => "dict"
 | .bL _ => "list"
 | .ins _ _ _ => "object"
 | .obj _ _ _ => "object"
noncomputable def plain:D->Bool
 | .bL _=>false
 | .ins _ _ _=>false
 | .obj _ _ _=>false
 | _=>true
theorem Rp.ty{H:Hp}{x:V}{d:D}(h:Rp H x d)(ns:plain d=true):cy K H x (.type (rj d)):=by
 cases h with
 |ao=>exact .ao
 |bl b=>exact .bl b
 |int i=>exact .int i
 |str x=>exact .str x
 |lst e _=>exact .lst e
 |tup e _=>exact .tup e
 |gu e=>exact .dK e
 |bL e=>cases ns
 |fS e=>cases ns
 |exc e _ _=>cases ns
 |obj e _=>cases ns
inductive Ty where
 |int | bool | str | list | tuple | dict
noncomputable def Ty.nm:Ty->String
 | .int => "int"
 | .bool => "bool"
 | .str => "str"
 | .list => "list"
 | .tuple => "tuple"
 | .dict => "dict"
noncomputable def hV:Ty->D->Bool
 | .int,.bl _=>true
 | .bool,.bl _=>true
 | .int,.int _=>true
 | .str,.str _=>true
 | .list,.lst _=>true
 | .list,.bL _=>true
 | .tuple,.tup _=>true
 | .dict,.gk _ _=>true
 | _,_=>false
theorem KN(K:W.Frag)(d:D)(hd:plain d=true)(T:Ty):W.kitOne K (.type (rj d)) (.type T.nm)=some (hV T d):=by
 cases T<;>cases d<;>first | kernel_rfl | cases hd
noncomputable def rk(T:Ty):D->Option RV
 | .bL _=>none
 | .ins _ _ _=>none
 | .obj _ _ _=>none
 |d=>some (.val (.bl (hV T d)))
noncomputable def oB(T:Ty)(f:M RV):M RV:=M.bind (j6 f) fun x=>M.bind (peek x) fun d=>M.cH (rk T d)
theorem uF{T:Ty}{e0:Expr}(hp:∀ t,PE X a t->PE X e0 (pj (Ko X.K) (jD t (jD (tC (.ty T.nm)) lL))))(ha:VE X EE ios a f):VE X EE ios e0 (oB T f):=by
 obtain⟨t,h1,h2⟩:=ha
 refine⟨_,hp t h1,fun σ H R Γ Q er w=>?_⟩
 unfold oB at w
 rw[ZY] at w
 refine uC h2 er (aT w (fun rx ah w x H1 R1 p1 hx=>?_) fun _ _ z=>z)
 rw[ZY] at w
 obtain⟨d,pd,w⟩:=jg (H:=H) p1.er hx.rv w
 have hv:=pd.hv p1.er.sub
 obtain⟨rv,hg,w⟩:=iy w
 have ns:plain d=true:=by cases d<;>first | rfl | cases hg
 have hg:rv = .val (.bl (hV T d)):=by cases d<;>first | (cases hg;done) | exact(Option.some.inj hg).symm
 subst hg
 exact⟨x,.ty T.nm,_,_,_,rfl,rfl,.inl (hv.ty ns),KN X.K d ns T,w _ H1 R1 p1 (.bl _)⟩
theorem ER.mut{R H:Hp}{σ:St}{Γ:En}{i:Nat}{kd:Kd}{ds ds':List D}{x:V}(er:ER ios R H σ Γ)(hi:Γ[i]? = some (some (kd,.lst ds)))(ho:owned kd=true)(hx:σ[i]? = some (some x)) :
 ∃ p xs,x = .ref p/\H p=some (.lst xs)/\aB R xs ds/\∀ xs',aB R xs' ds'->aM ios R H σ Γ R (upd H p (.lst xs')) (Γ.set i (some (kd,.lst ds'))):=by
 obtain⟨v,hv,s⟩:=er.sl i _ hi
 rw[hx] at hv
 cases hv
 have hlt:i<Γ.length:=(List.getElem?_eq_some_iff.mp hi).1
 obtain⟨⟨a,xs,bq,rfl,h1,h2,h3,h4⟩,hio⟩:OwR R H x (.lst ds)/\∀ n,kd = .io n->∃ a,ios[n]? = some a/\x = .ref a:=by
  cases kd with
  |ak=>cases ho
  |own=>exact⟨s,fun _ z=>nomatch z⟩
  |io n=>exact⟨s.1,fun m z=>by cases z;exact s.2⟩
 cases h3
 have inj:∀ j l z,Γ[j]? = some (some (l,z))->owned l=true->σ[j]? = some (some (.ref a))->j=i:=fun j l z q1 q2 q3=>(er.dj i j kd l _ z a hi ho q1 q2 hx q3).symm
 have rn:∀ b,Ow σ (Γ.set i (some (kd,.lst ds'))) b->Ow σ Γ b:=by
  rintro b ⟨j,l,z,q1,q2,q3⟩
  by_cases hj:j=i
  · subst hj
    rw[List.getElem?_set_self hlt] at q1
    cases q1
    exact⟨j,kd,_,hi,ho,q3⟩
  · rw[List.getElem?_set_ne (Ne.symm hj)] at q1
    exact⟨j,l,z,q1,q2,q3⟩
 refine⟨a,xs,rfl,h2,h4,fun xs' h5=>⟨⟨fun b o e=>?_,by rw[List.length_set];exact er.len,fun j t hj=>?_,fun j j' l l' z z' b q1 q2 q3 q4 q5 q6=>?_⟩,⟨ae.refl _,fun b o h n=>?_,fun _ _ _ _ z=>z,fun b z=>.inl (rn b z),fun b o h=>?_⟩,rn⟩⟩
 · rw[aV]
   · exact er.sub b o e
   · rintro rfl;rw[h1] at e;cases e
 · by_cases hji:j=i
   · subst hji
     rw[List.getElem?_set_self hlt] at hj
     cases hj
     refine⟨_,hx,?_⟩
     have z:OwR R (upd H a (.lst xs')) (.ref a) (.lst ds'):=⟨a,xs',ds',rfl,h1,cJ,rfl,h5⟩
     cases kd with
     |ak=>cases ho
     |own=>exact z
     |io n=>exact⟨z,hio n rfl⟩
   · rw[List.getElem?_set_ne (Ne.symm hji)] at hj
     obtain⟨v,hv,q⟩:=er.sl j t hj
     refine⟨v,hv,q.mono (ae.refl _) fun ho' b ys eb hb rb=>⟨?_,rb⟩⟩
     rw[aV]
     · exact hb
     · rintro rfl
       subst eb
       exact hji (inj j t.1 t.2 hj ho' hv)
 · have g:∀ {j:Nat} {l:Kd} {z:D},(Γ.set i (some (kd,.lst ds')))[j]? = some (some (l,z))->∃ z',Γ[j]? = some (some (l,z')):=by
    intro j l z q
    by_cases hji:j=i
    · subst hji;rw[List.getElem?_set_self hlt] at q;cases q;exact⟨_,hi⟩
    · rw[List.getElem?_set_ne (Ne.symm hji)] at q;exact⟨z,q⟩
   obtain⟨z1,g1⟩:=g q1
   obtain⟨z2,g2⟩:=g q3
   exact er.dj j j' l l' z1 z2 b g1 q2 g2 q4 q5 q6
 · rw[aV]
   · exact h
   · rintro rfl;exact n ⟨i,kd,_,hi,ho,hx⟩
 · by_cases hb:b=a
   · subst hb;exact⟨_,cJ⟩
   · exact⟨o,by rw[aV hb];exact h⟩
noncomputable def rq(r:V->List V->Hp->VK->Prop)(g:List D->List D->Option (List D×D)):Prop:=∀ R H p xs ds ys es ds' res (Q:VK),ae R H->R p=none->H p=some (.lst xs)->aB R xs ds->aB R ys es->g ds es=some (ds',res) ->
 (∀ xs' z,aB R xs' ds'->Rp R z res->Q z (upd H p (.lst xs')))->r (.ref p) ys H Q
noncomputable def recv(i:Nat):M Unit:=fun Γ=>match Γ[i]? with
 |some (some (kd,.lst _))=>if owned kd then .ok () Γ else .st
 | _=>.st
noncomputable def rA(i:Nat)(g:List D->List D->Option (List D×D))(es:List D):M RV:=fun Γ=>match Γ[i]? with
 |some (some (kd,.lst ds))=>if owned kd then match g ds es with
   |some (ds',res)=>.ok (.val res) (Γ.set i (some (kd,.lst ds')))
   |none=>.st else .st
 | _=>.st
noncomputable def rB(i:Nat)(g:List D->List D->Option (List D×D))(fs:M (List RV)):M RV:=M.bind (recv i) fun _=>M.bind fs fun rvs=>M.bind (b8 rvs) fun es=>rA i g es
theorem yb{H:Hp}{p:Addr}{xs:List V}(h:H p=some (.lst xs)):ub K "list" (.ref p) H:=.inl ⟨rfl,_,bP.of h⟩
theorem Dr{i:Nat}{σ:St}{H R:Hp}{Γ:En}{K':Unit->En->Prop}{E:Xc->En->Prop}(er:ER ios R H σ Γ)(w:bx (recv i Γ) K' E):∃ p xs,σ[i]? = some (some (.ref p))/\H p=some (.lst xs)/\K' () Γ:=by
 unfold recv at w
 split at w
 · rename_i kd ds q
   split at w
   · rename_i ho
     obtain⟨v,hv,s⟩:=er.sl i _ q
     obtain⟨p,xs,rfl,h2,_⟩:=er.mut (ds':=ds) q ho hv
     exact⟨p,xs,hv,h2,w⟩
   · exact False.elim w
 · exact False.elim w
theorem KO{i:Nat}{r:V->List V->Hp->VK->Prop}{g:List D->List D->Option (List D×D)}(hv:rq r g){R0 H0 R H:Hp}{σ:St}{fU Γ:En}{p:Addr}{ys:List V}{es:List D}{Q:VK}{E:Xc->En->Prop}(p1:aM ios R0 H0 σ fU R H Γ)
 (j8:σ[i]? = some (some (.ref p))) (hys:aB R ys es) (w:bx (rA i g es Γ) (fun rv Γ'=>∀ x H' R',aM ios R0 H0 σ fU R' H' Γ'->dS R' H0 H' σ x rv->Q x H') E):r (.ref p) ys H Q:=by
 unfold rA at w
 split at w
 · rename_i kd ds q
   split at w
   · rename_i ho
     split at w
     · rename_i ds' res hg
       obtain⟨p',xs,e,h2,h3,k⟩:=p1.er.mut (ds':=ds') q ho j8
       cases e
       have hr:R p=none:=(p1.er.ow ⟨i,kd,_,q,ho,j8⟩).1
       exact hv R H p xs ds ys es ds' res Q p1.er.sub hr h2 h3 hys hg fun xs' z hxs hz=>w z _ R (p1.trans (k xs' hxs)) hz
     · exact False.elim w
   · exact False.elim w
 · exact False.elim w
theorem KP{i:Nat}{r:V->List V->Hp->VK->Prop}{g:List D->List D->Option (List D×D)}{e0:Expr}(hp:PE X e0 (Cr X.K "list" r (m_ i)))(hv:rq r g):VE X EE ios e0 (rB i g (M.pure [])):=by
 refine⟨_,hp,fun σ H R Γ Q er w=>?_⟩
 unfold rB at w
 rw[ZY] at w
 obtain⟨p,xs0,j8,h0,w⟩:=Dr er w
 have ty:=yb (K:=X.K) h0
 exact⟨_,j8,ty,KO hv (aM.refl er) j8 .nil w⟩
noncomputable def rC(ds es:List D):Option (List D×D):=match es with
 | [d]=>if ds.length<sizeLine then some (ds++[d],.ao) else none
 | _=>none
theorem KQ:rq Ct rC:=by
 intro R H p xs ds ys es ds' res Q s hr hp hx hy hg q
 unfold rC at hg
 split at hg
 · split at hg
   · rename_i c
     cases hg
     cases hy with
     |cons h1 h2 =>
       cases h2
       exact⟨p,xs,_,rfl,rfl,hp,by rw[hx.len];exact c,q _ _ (hx.app (.cons h1 .nil)) .ao⟩
   · cases hg
 · cases hg
end
inductive Fl where
 |nx | ret (rv:RV) | brk | cont
structure bu(ios:List Addr)(R H:Hp)(σ:St)(Γ:En)(R' H':Hp)(ay:St)(Γ':En):Prop where
 er:ER ios R' H' ay Γ'
 go:Go (Ow σ Γ) R H (Ow ay Γ') R' H'
section
variable{ios:List Addr}{R H R1 H1 R2 H2:Hp}{σ dr eI:St}{Γ ah au:En}
theorem bu.refl(e:ER ios R H σ Γ):bu ios R H σ Γ R H σ Γ:=⟨e,Go.refl⟩
theorem bu.trans(a:bu ios R H σ Γ R1 H1 dr ah)(b:bu ios R1 H1 dr ah R2 H2 eI au):bu ios R H σ Γ R2 H2 eI au:=⟨b.er,a.go.trans b.go⟩
theorem aM.eO(a:aM ios R H σ Γ R1 H1 ah):bu ios R H σ Γ R1 H1 σ ah:=⟨a.er,a.go⟩
theorem bu.back(h:bu ios R H σ Γ R1 H1 dr ah):∀ b,H1 b=none->H b=none:=fun b hb=>by
 cases q:H b with
 |none=>rfl
 |some o=>obtain⟨o',z⟩:=h.go.th b o q;rw[hb] at z;cases z
theorem uG{R' H':Hp}{ay:St}{x:V}{rv:RV}(p1:∀ b,H1 b=none->H b=none)(h:dS R' H1 H' ay x rv):dS R' H H' ay x rv:=by
 cases rv with
 |val d=>exact h
 |new d=>obtain⟨h1,a,h2,h3⟩:=h;exact⟨h1,a,h2,p1 _ h3⟩
 |var i=>exact h
end
noncomputable def gw(EE:a9)(ios:List Addr)(R H:Hp)(σ:St)(Γ:En):Xc->En->Prop:=fun x Γ'=>∀ e ay H' R',bu ios R H σ Γ R' H' ay Γ'->k9 R' H H' e x->EE ay (.ref (KC.cls x.C)) (some e) H'
theorem gw.exp{EE:a9}{ios:List Addr}{R H:Hp}{σ:St}{Γ:En}{x:Xc}{Γ':En}(h:gw EE ios R H σ Γ x Γ'):d9 EE ios R H σ Γ x Γ':=fun e H' R' p q=>h e σ H' R' p.eO q
theorem gw.trans{EE:a9}{ios:List Addr}{R H R1 H1:Hp}{σ dr:St}{Γ ah:En}(a:bu ios R H σ Γ R1 H1 dr ah){x:Xc}{Γ':En}(h:gw EE ios R H σ Γ x Γ'):gw EE ios R1 H1 dr ah x Γ':=fun e ay H' R' b q=>h e ay H' R' (a.trans b) (q.back a.back)
noncomputable def nB(ios:List Addr)(R H:Hp)(σ:St)(Γ:En)(D:Ends):Fl->En->Prop:=fun fl Γ'=>∀ ay H' R',bu ios R H σ Γ R' H' ay Γ'->match fl with
 | .nx=>D.nx ay H'
 | .brk=>D.bk ay H'
 | .cont=>D.ct ay H'
 | .ret rv=>∀ x,dS R' H H' ay x rv->D.rt x H'
noncomputable def l_(EE:a9)(ios:List Addr)(t:TS)(f:M Fl):Prop:=∀ σ H R Γ D,ER ios R H σ Γ->bx (f Γ) (nB ios R H σ Γ D) (gw EE ios R H σ Γ)->t D σ H
noncomputable def VS(X:Cx)(EE:a9)(ios:List Addr)(st:Stmt)(f:M Fl):Prop:=∃ t,PS X st t/\l_ EE ios t f
noncomputable def cD(X:Cx)(EE:a9)(ios:List Addr)(st:List Stmt)(f:M Fl):Prop:=∃ t,PSs X st t/\l_ EE ios t f
section
variable{X:Cx}{EE:a9}{ios:List Addr}{e a b c:Expr}{es:List Expr}{f g k:M RV}{fs:M (List RV)}{p:M Bool}{s s':M Fl}{st:Stmt}{sts e_:List Stmt}{pos:Pos}
theorem jj:cD X EE ios [] (M.pure .nx):=⟨_,Bw,fun σ H R Γ D er w=>w σ H R (bu.refl er)⟩
noncomputable def aI(f g:M Fl):M Fl:=M.bind f fun fl=>match fl with
 | .nx=>g
 |fl=>M.pure fl
theorem bM(h:VS X EE ios st s)(h':cD X EE ios sts s'):cD X EE ios (st::sts) (aI s s'):=by
 obtain⟨t,h1,h2⟩:=h
 obtain⟨u,h3,h4⟩:=h'
 refine⟨_,t5 h1 h3,fun σ H R Γ D er w=>?_⟩
 unfold aI at w
 rw[ZY] at w
 refine h2 σ H R Γ _ er (aT w (fun fl ah w dr H1 R1 p1=>?_) fun _ _ z=>z)
 cases fl with
 |nx =>
   refine h4 dr H1 R1 ah D p1.er (aT w (fun fl au w eI H2 R2 p2=>?_) fun _ _ z=>gw.trans p1 z)
   have:=w eI H2 R2 (p1.trans p2)
   cases fl with
   |nx=>exact this
   |brk=>exact this
   |cont=>exact this
   |ret rv=>exact fun x hx=>this x (uG p1.back hx)
 |brk=>exact w dr H1 R1 p1
 |cont=>exact w dr H1 R1 p1
 |ret rv=>exact w dr H1 R1 p1
theorem cC(h:VS X EE ios st s):cD X EE ios [st] s:=let ⟨_,h1,h2⟩:=h; ⟨_,t6 h1,h2⟩
noncomputable def lj(f:M RV):M Fl:=M.bind f fun _=>M.pure .nx
theorem Ds(h:VE X EE ios e f)(hs:swapsWith e none pos.line X.env=pure false:=by rfl):VS X EE ios (.Expr e pos) (lj f):=by
 obtain⟨t,h1,h2⟩:=h
 refine⟨_,wD h1 hs,fun σ H R Γ D er w=>?_⟩
 unfold lj at w
 rw[ZY] at w
 exact h2 σ H R Γ _ er (aT w (fun rv ah w x H1 R1 p1 hx=>w σ H1 R1 p1.eO) fun _ _ z=>z.exp)
noncomputable def cE(f:M RV):M Fl:=M.bind f fun rv=>M.pure (.ret rv)
theorem ef(h:VE X EE ios e f):VS X EE ios (.Return (some e) pos) (cE f):=by
 obtain⟨t,h1,h2⟩:=h
 refine⟨_,HN h1,fun σ H R Γ D er w=>?_⟩
 unfold cE at w
 rw[ZY] at w
 exact h2 σ H R Γ _ er (aT w (fun rv ah w x H1 R1 p1 hx=>w σ H1 R1 p1.eO x hx) fun _ _ z=>z.exp)
noncomputable def dz(p:M Bool)(s s':M Fl):M Fl:=M.bind p fun b=>if b then s else s'
theorem jk(hc:VT X EE ios c p)(h:cD X EE ios sts s)(h':cD X EE ios e_ s'):VS X EE ios (.If c sts e_ pos) (dz p s s'):=by
 obtain⟨_,h0,h0'⟩:=hc
 obtain⟨t,h1,h2⟩:=h
 obtain⟨u,h3,h4⟩:=h'
 refine⟨_,Bx h0 h1 h3,fun σ H R Γ D er w=>?_⟩
 unfold dz at w
 rw[ZY] at w
 refine h0' σ H R Γ _ er (aT w (fun b ah w H1 R1 p1=>?_) fun _ _ z=>z.exp)
 have go:∀ fl au,nB ios R H σ Γ D fl au->nB ios R1 H1 σ ah D fl au:=fun fl au w eI H2 R2 p2=>by
  have:=w eI H2 R2 (p1.eO.trans p2)
  cases fl with
  |nx=>exact this
  |brk=>exact this
  |cont=>exact this
  |ret rv=>exact fun x hx=>this x (uG p1.eO.back hx)
 cases b with
 |true=>exact qP (h2 σ H1 R1 ah D p1.er (aT w go fun _ _ z=>gw.trans p1.eO z))
 |false=>exact qO (h4 σ H1 R1 ah D p1.er (aT w go fun _ _ z=>gw.trans p1.eO z))
noncomputable def rD(i:Nat)(s:Kd×D):M Unit:=fun Γ=>.ok () (Γ.set i (some s))
theorem KR{σ:St}{Γ:En}{i:Nat}{x:V}{s:Kd×D}{b:Addr}(h:Ow (σ.set i (some x)) (Γ.set i (some s)) b):Ow σ Γ b\/(owned s.1=true/\x = .ref b):=by
 obtain⟨j,k,d,h1,h2,h3⟩:=h
 by_cases hj:j=i
 · subst hj
   have l1:j<Γ.length:=by have:=(List.getElem?_eq_some_iff.mp h1).1;rwa[List.length_set] at this
   have l2:j<σ.length:=by have:=(List.getElem?_eq_some_iff.mp h3).1;rwa[List.length_set] at this
   rw[List.getElem?_set_self l1] at h1
   rw[List.getElem?_set_self l2] at h3
   cases h1
   cases h3
   exact .inr ⟨h2,rfl⟩
 · rw[List.getElem?_set_ne (Ne.symm hj)] at h1 h3
   exact .inl ⟨j,k,d,h1,h2,h3⟩
theorem bu.set{R H R1 H1:Hp}{σ:St}{Γ ah:En}{i:Nat}{x:V}{s:Kd×D}(er:ER ios R H σ Γ)(p1:aM ios R H σ Γ R1 H1 ah)(hs:kY ios R1 H1 x s)(hn:owned s.1=true->∀ a,x = .ref a->H a=none) :
 bu ios R H σ Γ R1 H1 (σ.set i (some x)) (ah.set i (some s)):=by
 have hfresh:owned s.1=true->∀ a,x = .ref a -> ¬ Ow σ ah a:=fun ho a ea z=>by
  obtain⟨_,xs,q⟩:=er.ow (p1.sh a z)
  rw[hn ho a ea] at q;cases q
 refine⟨⟨p1.er.sub,by rw[List.length_set,List.length_set];exact p1.er.len,fun j t hj=>?_,fun j j' l l' d d' b q1 q2 q3 q4 q5 q6=>?_⟩,⟨p1.go.rr,p1.go.hh,p1.go.no,fun b z=>?_,p1.go.th⟩⟩
 · by_cases hji:j=i
   · subst hji
     have l1:j<ah.length:=by have:=(List.getElem?_eq_some_iff.mp hj).1;rwa[List.length_set] at this
     rw[List.getElem?_set_self l1] at hj
     cases hj
     exact⟨x,by rw[List.getElem?_set_self (by rw[p1.er.len];exact l1)],hs⟩
   · rw[List.getElem?_set_ne (Ne.symm hji)] at hj ⊢
     exact p1.er.sl j t hj
 · by_cases h1:j=i
   · by_cases h2:j'=i
     · rw[h1,h2]
     · subst h1
       have l1:j<ah.length:=by have:=(List.getElem?_eq_some_iff.mp q1).1;rwa[List.length_set] at this
       rw[List.getElem?_set_self l1] at q1
       rw[List.getElem?_set_self (by rw[p1.er.len];exact l1)] at q5
       rw[List.getElem?_set_ne (Ne.symm h2)] at q3 q6
       cases q1;cases q5
       exact absurd ⟨j',l',d',q3,q4,q6⟩ (hfresh q2 b rfl)
   · by_cases h2:j'=i
     · subst h2
       have l1:j'<ah.length:=by have:=(List.getElem?_eq_some_iff.mp q3).1;rwa[List.length_set] at this
       rw[List.getElem?_set_self l1] at q3
       rw[List.getElem?_set_self (by rw[p1.er.len];exact l1)] at q6
       rw[List.getElem?_set_ne (Ne.symm h1)] at q1 q5
       cases q3;cases q6
       exact absurd ⟨j,l,d,q1,q2,q5⟩ (hfresh q4 b rfl)
     · rw[List.getElem?_set_ne (Ne.symm h1)] at q1 q5
       rw[List.getElem?_set_ne (Ne.symm h2)] at q3 q6
       exact p1.er.dj j j' l l' d d' b q1 q2 q3 q4 q5 q6
 · rcases KR z with z | ⟨ho,rfl⟩
   · exact .inl (p1.sh b z)
   · exact .inr (hn ho b rfl)
noncomputable def bw(i:Nat)(f:M RV):M Fl:=M.bind f fun rv=>M.bind (match rv with
 | .new d=>rD i (.own,d)
 | .val d=>rD i (.ak,d)
 | .var j=>M.bind (mat (.var j)) fun d=>rD i (.ak,d)) fun _=>M.pure .nx
theorem Dt{t:TE}{i:Nat}(h:fT EE ios t f):l_ EE ios (o9 t (nc i)) (bw i f):=by
 intro σ H R Γ D er w
 unfold bw at w
 rw[ZY] at w
 refine h σ H R Γ _ er (aT w (fun rv ah w x H1 R1 p1 hx=>?_) fun _ _ z=>z.exp)
 show D.nx (σ.set i (some x)) H1
 rw[ZY] at w
 cases rv with
 |val d=>exact w _ H1 R1 (bu.set er p1 (s:=(.ak,d)) hx fun z=>by cases z)
 |new d =>
   obtain⟨h1,a,h2,h3⟩:=hx
   exact w _ H1 R1 (bu.set er p1 (s:=(.own,d)) h1 fun _ b eb=>by rw[h2] at eb;cases eb;exact h3)
 |var j =>
   rw[ZY] at w
   obtain⟨d,au,R2,p2,_,r2,w⟩:=jh er p1 hx w
   exact w _ H1 R2 (bu.set er p2 (s:=(.ak,d)) r2 fun z=>by cases z)
theorem dG{i:Nat}{x:Str}{pos':Pos}(hN:X.N.Nodup)(hi:X.N[i]? = some x)(hx:Loc X.env.scope x)(he:VE X EE ios e f)(hs:swapsWith e (some (.Name x pos')) pos.line X.env=pure false:=by rfl)(hf:X.fn x=true\/X.env.scope.names.lookup x=some .local:=by first | exact .inl rfl | exact .inr rfl | assumption) :
 VS X EE ios (.Assign [.Name x pos'] e pos) (bw i f):=let ⟨_,h1,h2⟩:=he; ⟨_,BC hN hi hx h1 hs hf,Dt h2⟩
noncomputable def rE:Xc->En->Prop:=fun _ _=>False
noncomputable def jm(ios:List Addr)(n:Nat)(g:TG)(m:D->M Unit):Prop:=∀ σ H R Γ v d (Q:St->Hp->Prop),ER ios R H σ Γ->Rp R v d ->
 bx (m d Γ) (fun _ Γ'=>∀ ay H' R',bu ios R H σ Γ R' H' ay Γ'->(∀ k,n<=k->ay[k]? = σ[k]?)->ae R R'->Q ay H') rE->g v σ H Q
noncomputable def uH(ios:List Addr)(n:Nat)(g:ja)(m:List D->M Unit):Prop:=∀ σ H R Γ vs ds (Q:St->Hp->Prop),ER ios R H σ Γ->aB R vs ds ->
 bx (m ds Γ) (fun _ Γ'=>∀ ay H' R',bu ios R H σ Γ R' H' ay Γ'->(∀ k,n<=k->ay[k]? = σ[k]?)->ae R R'->Q ay H') rE->g vs σ H Q
noncomputable def gN(i:Nat)(d:D):M Unit:=rD i (.ak,d)
theorem iA{i n:Nat}(h:i<n):jm ios n (nc i) (gN i):=fun σ H R Γ v d Q er hv w =>
 w _ H R (bu.set er (aM.refl er) (s:=(.ak,d)) hv fun z=>by cases z) (fun k hk=>List.getElem?_set_ne (by omega)) (ae.refl _)
noncomputable def iB:List D->M Unit
 | []=>M.pure ()
 | _=>M.st
noncomputable def cY(m:D->M Unit)(ms:List D->M Unit):List D->M Unit
 |d::r=>M.bind (m d) fun _=>ms r
 | []=>M.st
theorem rF{n:Nat}:uH ios n wG iB:=fun σ H R Γ vs ds Q er hv w=>by
 cases hv with
 |nil=>exact⟨rfl,w σ H R (bu.refl er) (fun _ _=>rfl) (ae.refl _)⟩
 |cons _ _=>exact False.elim w
theorem lq{n:Nat}{g:TG}{gs:ja}{m:D->M Unit}{ms:List D->M Unit}(h:jm ios n g m)(h':uH ios n gs ms):uH ios n (wH g gs) (cY m ms):=fun σ H R Γ vs ds Q er hv w=>by
 cases hv with
 |nil=>exact False.elim w
 |cons h1 h2 =>
   refine⟨_,_,rfl,?_⟩
   unfold cY at w
   rw[ZY] at w
   refine h σ H R Γ _ _ _ er h1 (aT w (fun _ ah w dr H1 R1 p1 k1 s1=>?_) fun _ _ z=>z)
   exact h' dr H1 R1 ah _ _ _ p1.er (h2.sm s1) (aT w (fun _ au w eI H2 R2 p2 k2 s2=>w eI H2 R2 (p1.trans p2) (fun k hk=>(k2 k hk).trans (k1 k hk)) (s1.trans s2)) fun _ _ z=>z)
noncomputable def gT(n:Nat)(ms:List D->M Unit):D->M Unit
 | .tup ds=>if ds.length=n then ms ds else M.st
 | _=>M.st
theorem rG{n m:Nat}{K:W.Frag}{gs:ja}{ms:List D->M Unit}(h:uH ios n gs ms):jm ios n (wI K m gs) (gT m ms):=fun σ H R Γ v d Q er hv w=>by
 unfold gT at w
 split at w
 · split at w
   · rename_i c
     cases hv with
     |tup e q=>exact⟨_,_,rfl,cV.of (er.sub _ _ e),by rw[q.len];exact c,h σ H R Γ _ _ Q er q w⟩
   · exact False.elim w
 · exact False.elim w
noncomputable def g2(ms:List D->M Unit):D->M Unit
 | .lst [x,y]=>ms [x,y]
 | _=>M.st
noncomputable def lu(m:M Unit):M Unit:=fun Γ=>match m Γ with
 | .ok a Γ'=>.ok a Γ'
 | _=>.st
noncomputable def pQ(m:D->M Unit)(f:M RV):M Fl:=M.bind f fun rv=>M.bind (mat rv) fun d=>M.bind (lu (m d)) fun _=>M.pure .nx
theorem nC{m:M Unit}{Γ:En}{K:Unit->En->Prop}{E:Xc->En->Prop}(h:bx (lu m Γ) K E):bx (m Γ) K rE:=by
 unfold lu at h
 cases q:m Γ with
 |ok a Γ'=>rw[q] at h;exact h
 |ex x Γ'=>rw[q] at h;exact False.elim h
 |st=>rw[q] at h;exact False.elim h
theorem KS{t:TE}{g:TG}{m:D->M Unit}{n:Nat}(h:fT EE ios t f)(hg:jm ios n g m):l_ EE ios (o9 t g) (pQ m f):=by
 intro σ H R Γ D er w
 unfold pQ at w
 rw[ZY] at w
 refine h σ H R Γ _ er (aT w (fun rv ah w x H1 R1 p1 hx=>?_) fun _ _ z=>z.exp)
 rw[ZY] at w
 obtain⟨d,au,R2,p2,_,r2,w⟩:=jh er p1 hx w
 rw[ZY] at w
 exact hg σ H1 R2 au x d _ p2.er r2 (aT (nC w) (fun _ l9 w kX H3 R3 p3 _ _=>w kX H3 R3 (p2.eO.trans p3)) fun _ _ z=>z)
theorem Du{tg:Expr}{g:TG}{m:D->M Unit}{n:Nat}(he:VE X EE ios e f)(hr:jm ios n g m)(hp:∀ t,PE X e t->PS X (.Assign [tg] e pos) (o9 t g)):VS X EE ios (.Assign [tg] e pos) (pQ m f) :=
 let ⟨_,h1,h2⟩:=he; ⟨_,hp _ h1,KS h2 hr⟩
noncomputable def setAt(j:Nat)(d di:D):M Unit:=fun Γ=>match Γ[j]?,di with
 |some (some (kd,.lst ds)),.int i=>if owned kd then match jd ds.length i with
   |some k=>.ok () (Γ.set j (some (kd,.lst (ds.set k d))))
   |none=>.st else .st
 | _,_=>.st
noncomputable def gS(j:Nat)(fi:M RV)(d:D):M Unit:=M.bind (recv j) fun _=>M.bind fi fun ri=>M.bind (peek ri) fun di=>setAt j d di
theorem Dw{j n:Nat}{ti:TE}{fi:M RV}(hi:fT EE ios ti fi):jm ios n (Bz (m_ j) ti Cm) (gS j fi):=fun σ H R Γ v d Q er hv w=>by
 unfold gS at w
 rw[ZY] at w
 obtain⟨p,_,j8,_,w⟩:=Dr er w
 refine⟨_,j8,?_⟩
 rw[ZY] at w
 refine hi σ H R Γ _ er (aT w (fun ri ah w y H1 R1 p1 hy=>?_) fun _ _ z=>z.elim)
 rw[ZY] at w
 obtain⟨di,pd,w⟩:=jg p1.er hy w
 unfold setAt at w
 split at w
 · rename_i kd ds i q
   split at w
   · rename_i ho
     split at w
     · rename_i k hk
       obtain⟨p',xs,e,h2,h3,m⟩:=p1.er.mut (ds':=ds.set k d) q ho j8
       cases e
       exact⟨p,xs,i,k,rfl,pd.int,h2,by rw[h3.len];exact hk,w σ _ R1 (p1.trans (m _ (h3.set (hv.sm p1.go.rr) k))).eO (fun _ _=>rfl) p1.go.rr⟩
     · exact False.elim w
   · exact False.elim w
 · exact False.elim w
noncomputable def pR(J:It)(R0:Hp)(items:List D):Prop:=∀ (i:Nat) (H R:Hp),ae R0 R->ae R H ->
 (∀ d,items[i]? = some d->J.go i H/\∀ x H',J.ng i H x H'->∃ R',Al R H R' H'/\Rp R' x d)/\(items.length<=i->J.stop i H)
noncomputable def rH(EE:a9)(ios:List Addr)(wi:TI)(f:M (List D)):Prop:=∀ σ H R Γ Rk,ER ios R H σ Γ ->
 bx (f Γ) (fun items Γ'=>∀ J H' R',aM ios R H σ Γ R' H' Γ'->pR J R' items->Rk J H') (d9 EE ios R H σ Γ)->wi σ H Rk
noncomputable def VI(X:Cx)(EE:a9)(ios:List Addr)(tg iter:Expr)(f:M (List D)):Prop:=∃ wi,PI X tg iter wi/\rH EE ios wi f
variable{tg:Expr}
noncomputable def ly(f:M RV):M (List D):=M.bind f fun rv=>M.bind (mat rv) fun d=>match d with
 | .lst ds=>M.pure ds
 | .bL ns=>M.pure (ns.map D.int)
 | _=>M.st
noncomputable def tupI(f:M RV):M (List D):=M.bind f fun rv=>M.bind (mat rv) fun d=>match d with
 | .tup ds=>M.pure ds
 | _=>M.st
theorem Dx{K:W.Frag}{R0:Hp}{a:Addr}{xs:List V}{ds:List D}(h:∀ H,ae R0 H->bP K H a xs)(r:aB R0 xs ds):pR (wK K a) R0 ds:=by
 intro i H R s1 s2
 have s:=s1.trans s2
 refine⟨fun d hd=>?_,fun hl=>⟨xs,h H s,by rw[r.len];exact hl⟩⟩
 obtain⟨x,hx,rx⟩:=r.ta hd
 refine⟨⟨xs,x,h H s,hx⟩,fun y H' hy=>?_⟩
 obtain⟨rfl,hy⟩:=hy
 have:=hy xs (h _ s)
 rw[hx] at this
 cases this
 exact⟨R,Al.refl s2,rx.sm s1⟩
theorem KU{K:W.Frag}{R0:Hp}{a:Addr}{xs:List V}{ds:List D}(h:∀ H,ae R0 H->cV K H a xs)(r:aB R0 xs ds):pR (wL K a) R0 ds:=by
 intro i H R s1 s2
 have s:=s1.trans s2
 refine⟨fun d hd=>?_,fun hl=>⟨xs,h H s,by rw[r.len];exact hl⟩⟩
 obtain⟨x,hx,rx⟩:=r.ta hd
 refine⟨⟨xs,x,h H s,hx⟩,fun y H' hy=>?_⟩
 obtain⟨rfl,hy⟩:=hy
 have:=hy xs (h _ s)
 rw[hx] at this
 cases this
 exact⟨R,Al.refl s2,rx.sm s1⟩
theorem rJ(h:VE X EE ios e f)(hK:X.K=KC.K:=by rfl):VI X EE ios tg e (ly f):=by
 obtain⟨t,h1,h2⟩:=h
 refine⟨_,HW h1,fun σ H R Γ Rk er w=>?_⟩
 unfold ly at w
 rw[ZY] at w
 refine h2 σ H R Γ _ er (aT w (fun rv ah w x H1 R1 p1 hx=>?_) fun _ _ z=>z)
 rw[ZY] at w
 obtain⟨d,au,R2,p2,_,r2,w⟩:=jh er p1 hx w
 split at w
 · cases r2 with
   |lst e q=>exact⟨_,rfl,⟨_,bP.of (p2.er.sub _ _ e)⟩,w _ H1 R2 p2 (Dx (fun H s=>bP.of (s _ _ e)) q)⟩
 · cases r2 with
   |bL e=>exact⟨_,rfl,⟨_,by rw[hK];exact p2.er.sub.seq e⟩,w _ H1 R2 p2 (Dx (fun H s=>by rw[hK];exact s.seq e) (aB.ints _))⟩
 · exact False.elim w
theorem Dy(h:VE X EE ios e f):VI X EE ios tg e (tupI f):=by
 obtain⟨t,h1,h2⟩:=h
 refine⟨_,HX h1,fun σ H R Γ Rk er w=>?_⟩
 unfold tupI at w
 rw[ZY] at w
 refine h2 σ H R Γ _ er (aT w (fun rv ah w x H1 R1 p1 hx=>?_) fun _ _ z=>z)
 rw[ZY] at w
 obtain⟨d,au,R2,p2,_,r2,w⟩:=jh er p1 hx w
 split at w
 · cases r2 with
   |tup e q=>exact⟨_,rfl,⟨_,cV.of (p2.er.sub _ _ e)⟩,w _ H1 R2 p2 (KU (fun H s=>cV.of (s _ _ e)) q)⟩
 · exact False.elim w
noncomputable def hW(lo:Int)(n:Nat):List D:=(List.range n).map fun (i:Nat)=>D.int (lo+i)
theorem KW{R0:Hp}{lo:Int}{n:Nat}:pR (t7 lo n) R0 (hW lo n):=by
 intro i H R s1 s2
 refine⟨fun d hd=>?_,fun hl=>show n<=i by simpa [hW] using hl⟩
 unfold hW at hd
 rw[List.getElem?_map] at hd
 cases q:(List.range n)[i]? with
 |none=>rw[q] at hd;cases hd
 |some j =>
   rw[q] at hd
   cases hd
   obtain⟨h1,h2⟩:=List.getElem?_eq_some_iff.mp q
   rw[List.getElem_range] at h2
   subst h2
   refine⟨show i<n by simpa using h1,fun x H' hx=>?_⟩
   obtain⟨rfl,rfl⟩:=hx
   exact⟨R,Al.refl s2,.int _⟩
noncomputable def small(j:Int):Bool:=cd (-(2 ^ 62)<=j/\j<2 ^ 62)
noncomputable def me(fs:M (List RV)):M (List D):=M.bind fs fun rvs=>match rvs with
 | [.val (.int j)]=>if small j then M.pure (hW 0 j.toNat) else M.st
 | _=>M.st
theorem yc{e0:Expr}(hp:∀ t,PA X es t->PI X tg e0 (BE t))(ha:VA X EE ios es fs):VI X EE ios tg e0 (me fs):=by
 obtain⟨t,h1,h2⟩:=ha
 refine⟨_,hp t h1,fun σ H R Γ Rk er w=>?_⟩
 unfold me at w
 rw[ZY] at w
 refine h2 σ H R Γ _ er (aT w (fun rvs ah w xs H1 R1 p1 hx=>?_) fun _ _ z=>z)
 split at w
 · split at w
   · rename_i c
     have c:=lg c
     cases hx with
     |cons a b =>
       cases b
       cases a
       exact⟨_,rfl,c.1,c.2,w _ H1 R1 p1 KW⟩
   · exact False.elim w
 · exact False.elim w
noncomputable def mf(ds:List D):List D:=ds.zipIdx.map fun p=>D.tup [.int p.2,p.1]
theorem KY{R0:Hp}{l:Addr}{xs:List V}{ds:List D}(h:R0 l=some (.lst xs))(r:aB R0 xs ds):pR (xH l) R0 (mf ds):=by
 intro i H R s1 s2
 have hl:H l=some (.lst xs):=s2 _ _ (s1 _ _ h)
 refine⟨fun d hd=>?_,fun hl'=>⟨xs,hl,by rw[r.len];simpa [mf] using hl'⟩⟩
 have hd:((ds.zipIdx)[i]?).map (fun p=>D.tup [.int p.2,p.1])=some d:=by rw[<- List.getElem?_map];exact hd
 rw[List.getElem?_zipIdx] at hd
 cases q:ds[i]? with
 |none=>rw[q] at hd;cases hd
 |some d0 =>
   rw[q] at hd
   cases hd
   obtain⟨x,hx,rx⟩:=r.ta q
   refine⟨⟨xs,x,hl,hx⟩,fun v H' hv=>?_⟩
   obtain⟨p,ys,y,rfl,hp,rfl,hy,rK⟩:=hv
   rw[hl] at hy
   cases hy
   rw[hx] at rK
   cases rK
   obtain⟨al,rv⟩:=uB (xs:=[.int i,x]) (ds:=[.int i,d0]) s2 hp (.cons (.int _) (.cons (rx.sm s1) .nil))
   refine⟨_,al,?_⟩
   have rv:Rp _ _ _:=rv
   simpa using rv
noncomputable def rL(fs:M (List RV)):M (List D):=M.bind fs fun rvs=>M.bind (b8 rvs) fun ds=>match ds with
 | [.lst ds]=>M.pure (mf ds)
 | _=>M.st
theorem KZ{e0:Expr}(hp:∀ t,PA X es t->PI X tg e0 (xI t))(ha:VA X EE ios es fs):VI X EE ios tg e0 (rL fs):=by
 obtain⟨t,h1,h2⟩:=ha
 refine⟨_,hp t h1,fun σ H R Γ Rk er w=>?_⟩
 unfold rL at w
 rw[ZY] at w
 refine h2 σ H R Γ _ er (aT w (fun rvs ah w xs H1 R1 p1 hx=>?_) fun _ _ z=>z)
 rw[ZY] at w
 obtain⟨ds,au,R2,p2,_,r2,w⟩:=ji er p1 hx w
 split at w
 · cases r2 with
   |cons a b =>
     cases b
     cases a with
     |lst e q=>exact⟨_,_,rfl,p2.er.sub _ _ e,w _ H1 R2 p2 (KY e q)⟩
 · exact False.elim w
end
section
variable{X:Cx}{EE:a9}{ios:List Addr}{e a b c iter tg:Expr}{es:List Expr}{f g k:M RV}{fs:M (List RV)}{p:M Bool}{s s':M Fl}{st:Stmt}{sts e_:List Stmt}{pos:Pos}
theorem mh{α:Type}{a:α}{Γ:En}{K:α->En->Prop}{E:Xc->En->Prop}(h:K a Γ):bx (.ok a Γ) K E:=h
theorem nD{α:Type}{a:α}{Γ:En}{K:α->En->Prop}{E:Xc->En->Prop}(h:bx (.ok a Γ) K E):K a Γ:=h
noncomputable def rM(m:D->M Unit)(body:M Fl)(rest:M Fl)(d:D):M Fl:=M.bind (lu (m d)) fun _=>M.bind body fun fl=>match fl with
 | .nx=>rest
 | .cont=>rest
 | .brk=>M.pure .nx
 | .ret rv=>M.pure (.ret rv)
noncomputable def iC(m:D->M Unit)(body:M Fl):List D->M Fl
 | []=>M.pure .nx
 |d::r=>rM m body (iC m body r) d
noncomputable def forM(items:M (List D))(m:D->M Unit)(body:M Fl):M Fl:=M.bind items fun ds=>iC m body ds
theorem K0{wi:TI}{gt:TG}{tb:TS}{items:M (List D)}{m:D->M Unit}{n:Nat}(hi:rH EE ios wi items)(hg:jm ios n gt m)(hb:l_ EE ios tb s):l_ EE ios (wN wi gt tb) (forM items m s):=by
 intro σ H R Γ D er w
 unfold forM at w
 rw[ZY] at w
 refine hi σ H R Γ _ er (aT w (fun ds ah w J H1 R1 p1 hJ=>?_) fun _ _ z=>z.exp)
 refine⟨fun i m' eI H2=>m'=ds.length - i/\i<=ds.length/\∃ R2 au,bu ios R H σ Γ R2 H2 eI au/\ae R1 R2/\bx (iC m s (ds.drop i) au) (nB ios R H σ Γ D) (gw EE ios R H σ Γ),⟨ds.length,rfl,Nat.zero_le _,R1,ah,p1.eO,ae.refl _,w⟩,?_⟩
 rintro i m' eI H2 ⟨rfl,hi',R2,au,p2,s2,w⟩
 obtain⟨go,stop⟩:=hJ i H2 R2 s2 p2.er.sub
 by_cases hlt:i<ds.length
 · have hd:ds[i]? = some ds[i]:=List.getElem?_eq_getElem hlt
   obtain⟨g1,g2⟩:=go _ hd
   rw[List.drop_eq_getElem_cons hlt] at w
   have w:bx (rM m s (iC m s (ds.drop (i+1))) ds[i] au) (nB ios R H σ Γ D) (gw EE ios R H σ Γ):=w
   unfold rM at w
   rw[ZY] at w
   refine .inr ⟨g1,fun kX H3=>∃ R3 l9,bu ios R H σ Γ R3 H3 kX l9/\ae R1 R3/\bx (iC m s (ds.drop (i+1)) l9) (nB ios R H σ Γ D) (gw EE ios R H σ Γ),?_,fun x H3 hx=>?_⟩
   · rintro kX H3 ⟨R3,l9,q1,q2,q3⟩
     exact⟨_,by omega,rfl,hlt,R3,l9,q1,q2,q3⟩
   · obtain⟨R3,al,rx⟩:=g2 x H3 hx
     have uI:ER ios R3 H3 eI au:=p2.er.al al
     have p3:bu ios R H σ Γ R3 H3 eI au:=⟨uI,p2.go.trans al.go⟩
     refine hg eI H3 R3 au x _ _ uI rx (aT (nC w) (fun _ nu w cW H4 R4 p4 _ s4=>?_) fun _ _ z=>z)
     rw[ZY] at w
     have yd:=p3.trans p4
     refine hb cW H4 R4 nu _ p4.er (aT w (fun fl Dz w DA H5 R5 p5=>?_) fun _ _ z=>gw.trans yd z)
     have p35:=yd.trans p5
     have s5:ae R1 R5:=((s2.trans al.rr).trans s4).trans p5.go.rr
     cases fl with
     |nx=>exact⟨R5,Dz,p35,s5,w⟩
     |cont=>exact⟨R5,Dz,p35,s5,w⟩
     |brk=>exact w DA H5 R5 p35
     |ret rv=>exact fun y hy=>w DA H5 R5 p35 y (uG yd.back hy)
 · have e:ds.drop i=[]:=List.drop_eq_nil_of_le (by omega)
   rw[e] at w
   exact .inl ⟨stop (by omega),w eI H2 R2 p2⟩
theorem uJ{gt:TG}{items:M (List D)}{m:D->M Unit}{n:Nat}(hi:VI X EE ios tg iter items)(hr:jm ios n gt m)(hb:cD X EE ios sts s)
 (hps:∀ wi tb,PI X tg iter wi->PSs X sts tb->PS X (.For tg iter sts [] pos) (wN wi gt tb)):VS X EE ios (.For tg iter sts [] pos) (forM items m s) :=
 let ⟨_,h1,h2⟩:=hi;let ⟨_,h3,h4⟩:=hb; ⟨_,hps _ _ h1 h3,K0 h2 hr h4⟩
noncomputable def bW(fr:List Nat)(own:Nat)(Γ:En):En:=List.replicate own none++fr.map fun j=>(Γ[j]?).join
noncomputable def aF:List Nat->Nat->En->En->En
 | [],_,Γ,_=>Γ
 |j::r,k,Γ,bQ=>aF r (k+1) (Γ.set j (bQ[k]?).join) bQ
theorem ye{α:Type}{fr:List Nat}{own:Nat}{L:List (Option α)}{i:Nat}(h:i<own):(List.replicate own (none:Option α)++fr.map fun j=>(L[j]?).join)[i]? = some none:=by
 rw[List.getElem?_append_left (by rw[List.length_replicate];exact h),List.getElem?_replicate,if_pos h]
theorem uK{α:Type}{fr:List Nat}{own:Nat}{L:List (Option α)}{i:Nat}(h:own<=i):(List.replicate own (none:Option α)++fr.map fun j=>(L[j]?).join)[i]? = (fr[i - own]?).map fun j=>(L[j]?).join:=by
 rw[List.getElem?_append_right (by rw[List.length_replicate];exact h),List.length_replicate,List.getElem?_map]
theorem uL{α:Type}{o:Option (Option α)}{a:α}(h:o.join=some a):o=some (some a):=by
 cases o with
 |none=>cases h
 |some o=>cases o with
   |none=>cases h
   |some b=>cases h;rfl
theorem pS{fr:List Nat}{own i:Nat}{Γ:En}{s:Kd×D}(h:(bW fr own Γ)[i]? = some (some s)):own<=i/\∃ j,fr[i - own]? = some j/\Γ[j]? = some (some s):=by
 unfold bW at h
 by_cases hi:i<own
 · rw[ye hi] at h;cases h
 · rw[uK (by omega)] at h
   cases q:fr[i - own]? with
   |none=>rw[q] at h;cases h
   |some j =>
     rw[q] at h
     exact⟨by omega,j,rfl,uL (Option.some.inj h)⟩
theorem K1{fr:List Nat}{own i j:Nat}{σ:St}{v:V}(hi:own<=i)(hj:fr[i - own]? = some j)(hv:σ[j]? = some (some v)):(aj fr own σ)[i]? = some (some v):=by
 unfold aj
 rw[uK hi,hj]
 show some ((σ[j]?).join)=_
 rw[hv];rfl
theorem rN{fr:List Nat}{own i j:Nat}{σ:St}{v:V}(hi:own<=i)(hj:fr[i - own]? = some j)(h:(aj fr own σ)[i]? = some (some v)):σ[j]? = some (some v):=by
 unfold aj at h
 rw[uK hi,hj] at h
 exact uL (Option.some.inj h)
theorem K2{fr:List Nat}(hn:fr.Nodup){i j x:Nat}(h1:fr[i]? = some x)(h2:fr[j]? = some x):i=j:=by
 obtain⟨l1,e1⟩:=List.getElem?_eq_some_iff.mp h1
 obtain⟨l2,e2⟩:=List.getElem?_eq_some_iff.mp h2
 exact(List.getElem_inj hn).mp (e1.trans e2.symm)
theorem ER.blk{R H:Hp}{σ:St}{Γ:En}{fr:List Nat}{own:Nat}(er:ER ios R H σ Γ)(hn:fr.Nodup):ER ios R H (aj fr own σ) (bW fr own Γ) where
 sub:=er.sub
 len:=by unfold aj bW;simp
 sl:=fun i s h=>by
  obtain⟨hi,j,hj,hs⟩:=pS h
  obtain⟨v,hv,q⟩:=er.sl j s hs
  exact⟨v,K1 hi hj hv,q⟩
 dj:=fun i j k l d e b q1 q2 q3 q4 q5 q6=>by
  obtain⟨hi,i',hi',s1⟩:=pS q1
  obtain⟨hj,j',hj',s2⟩:=pS q3
  have:=er.dj i' j' k l d e b s1 q2 s2 q4 (rN hi hi' q5) (rN hj hj' q6)
  subst this
  have:=K2 hn hi' hj'
  omega
theorem Ow.blk{σ:St}{Γ:En}{fr:List Nat}{own:Nat}{b:Addr}(h:Ow (aj fr own σ) (bW fr own Γ) b):Ow σ Γ b:=by
 obtain⟨i,k,d,h1,h2,h3⟩:=h
 obtain⟨hi,j,hj,hs⟩:=pS h1
 exact⟨j,k,d,hs,h2,rN hi hj h3⟩
theorem yf:∀ {fr:List Nat} {k:Nat} {Γ bQ:En},(aF fr k Γ bQ).length=Γ.length
 | [],_,_,_=>rfl
 |j::r,k,Γ,bQ=>by unfold aF;rw[yf,List.length_set]
theorem yg:∀ {fr:List Nat} {k j:Nat} {Γ bQ:En},j ∉ fr->(aF fr k Γ bQ)[j]? = Γ[j]?
 | [],_,_,_,_,_=>rfl
 |i::r,k,j,Γ,bQ,h=>by
   unfold aF
   rw[yg (fun z=>h (List.mem_cons_of_mem _ z)),List.getElem?_set_ne (fun z=>h (by rw[z];exact List.mem_cons_self ..))]
theorem zhE:∀ {fr:List Nat} {k i j:Nat} {Γ bQ:En},fr.Nodup->fr[i]? = some j->j<Γ.length->(aF fr k Γ bQ)[j]? = some (bQ[k+i]?).join
 | [],_,_,_,_,_,_,h,_=>by simp at h
 |x::r,k,0,j,Γ,bQ,hn,h,hl=>by
   simp at h
   subst h
   unfold aF
   rw[yg (List.nodup_cons.mp hn).1,List.getElem?_set_self hl]
   rfl
 |x::r,k,i+1,j,Γ,bQ,hn,h,hl=>by
   unfold aF
   rw[zhE (List.nodup_cons.mp hn).2 (by simpa using h) (by rw[List.length_set];exact hl)]
   rw[show k+1+i=k+(i+1) by omega]
theorem aM.aF{R H R1 H1:Hp}{σ pT:St}{Γ bQ:En}{fr:List Nat}{own:Nat}(er:ER ios R H σ Γ)(hn:fr.Nodup)(p:bu ios R H (aj fr own σ) (bW fr own Γ) R1 H1 pT bQ)(keep:∀ k,own<=k->pT[k]? = (aj fr own σ)[k]?)
 (sh:∀ b,Ow pT bQ b->Ow (aj fr own σ) (bW fr own Γ) b):aM ios R H σ Γ R1 H1 (Dv.aF fr own Γ bQ):=by
 have slot:∀ (j:Nat) (s:Kd×D),(Dv.aF fr own Γ bQ)[j]? = some (some s)->(j ∉ fr/\Γ[j]? = some (some s))\/∃ i,fr[i]? = some j/\bQ[own+i]? = some (some s)/\pT[own+i]? = some ((σ[j]?).join):=by
  intro j s h
  by_cases hj:j∈fr
  · obtain⟨i,hi,e⟩:=List.getElem_of_mem hj
    have hi':fr[i]? = some j:=by rw[List.getElem?_eq_getElem hi,e]
    have hl:j<Γ.length:=by have:=(List.getElem?_eq_some_iff.mp h).1;rwa[yf] at this
    rw[zhE hn hi' hl] at h
    refine .inr ⟨i,hi',uL (Option.some.inj h),?_⟩
    rw[keep _ (by omega)]
    unfold aj
    rw[uK (by omega),show own+i - own=i by omega,hi']
    rfl
  · rw[yg hj] at h
    exact .inl ⟨hj,h⟩
 have inside:∀ (i j:Nat) (k:Kd) (d:D) (b:Addr),fr[i]? = some j->bQ[own+i]? = some (some (k,d))->owned k=true->pT[own+i]? = some ((σ[j]?).join)->σ[j]? = some (some (.ref b))->∃ j0 k0 d0,j0∈fr/\Γ[j0]? = some (some (k0,d0))/\owned k0=true/\σ[j0]? = some (some (.ref b)):=by
  intro i j k d b hi q h2 e h3
  have e:pT[own+i]? = some (some (.ref b)):=by rw[e,h3];rfl
  obtain⟨i0,k0,d0,g1,g2,g3⟩:=sh b ⟨own+i,k,d,q,h2,e⟩
  obtain⟨hi0,j0,hj0,hs0⟩:=pS g1
  exact⟨j0,k0,d0,List.mem_of_getElem? hj0,hs0,g2,rN hi0 hj0 g3⟩
 have sh':∀ b,Ow σ (Dv.aF fr own Γ bQ) b->Ow σ Γ b:=by
  rintro b ⟨j,k,d,h1,h2,h3⟩
  rcases slot j _ h1 with ⟨_,q⟩ | ⟨i,hi,q,e⟩
  · exact⟨j,k,d,q,h2,h3⟩
  · obtain⟨j0,k0,d0,_,g1,g2,g3⟩:=inside i j k d b hi q h2 e h3
    exact⟨j0,k0,d0,g1,g2,g3⟩
 have out:∀ (j:Nat) (k:Kd) (d:D) (b:Addr),j ∉ fr->Γ[j]? = some (some (k,d))->owned k=true->σ[j]? = some (some (.ref b)) -> ¬ Ow (aj fr own σ) (bW fr own Γ) b:=by
  rintro j k d b hj h1 h2 h3 ⟨i0,k0,d0,g1,g2,g3⟩
  obtain⟨hi0,j0,hj0,hs0⟩:=pS g1
  have:=er.dj j j0 k k0 d d0 b h1 h2 hs0 g2 h3 (rN hi0 hj0 g3)
  subst this
  exact hj (List.mem_of_getElem? hj0)
 refine⟨⟨p.er.sub,by rw[yf];exact er.len,fun j t hj=>?_,fun j j' l l' d d' b q1 q2 q3 q4 q5 q6=>?_⟩,⟨p.go.rr,fun b o h n=>p.go.hh b o h fun z=>n z.blk,fun b o h n r=>p.go.no b o h (fun z=>n z.blk) r,fun b z=>.inl (sh' b z),p.go.th⟩,sh'⟩
 · rcases slot j t hj with ⟨hf,q⟩ | ⟨i,hi,q,e⟩
   · obtain⟨v,hv,q'⟩:=er.sl j t q
     refine⟨v,hv,q'.mono p.go.rr fun ho b ys eb hb rb=>?_⟩
     subst eb
     have:=out j t.1 t.2 b hf q ho hv
     exact⟨p.go.hh b _ hb this,p.go.no b _ hb this rb⟩
   · obtain⟨v,hv,q'⟩:=p.er.sl _ t q
     rw[e] at hv
     exact⟨v,uL (Option.some.inj hv),q'⟩
 · rcases slot j _ q1 with ⟨hf,g1⟩ | ⟨i,hi,g1,e1⟩
   · rcases slot j' _ q3 with ⟨hf',g3⟩ | ⟨i',hi',g3,e3⟩
     · exact er.dj j j' l l' d d' b g1 q2 g3 q4 q5 q6
     · obtain⟨j0,k0,d0,m0,z1,z2,z3⟩:=inside i' j' l' d' b hi' g3 q4 e3 q6
       have:=er.dj j j0 l k0 d d0 b g1 q2 z1 z2 q5 z3
       subst this
       exact absurd m0 hf
   · rcases slot j' _ q3 with ⟨hf',g3⟩ | ⟨i',hi',g3,e3⟩
     · obtain⟨j0,k0,d0,m0,z1,z2,z3⟩:=inside i j l d b hi g1 q2 e1 q5
       have:=er.dj j' j0 l' k0 d' d0 b g3 q4 z1 z2 q6 z3
       subst this
       exact absurd m0 hf'
     · have:=p.er.dj (own+i) (own+i') l l' d d' b g1 q2 g3 q4 (by rw[e1,q5];rfl) (by rw[e3,q6];rfl)
       have:i=i':=by omega
       subst this
       rw[hi] at hi'
       exact Option.some.inj hi'
noncomputable def nE(n:Nat)(m:D->M Unit):Prop:=∀ d Γ Γ',m d Γ = .ok () Γ'->(∀ k,n<=k->Γ'[k]? = Γ[k]?)/\∀ i s,i<n->Γ'[i]? = some (some s)->Γ[i]? = some (some s)\/s.1 = .ak
noncomputable def uM(n:Nat)(m:List D->M Unit):Prop:=∀ d Γ Γ',m d Γ = .ok () Γ'->(∀ k,n<=k->Γ'[k]? = Γ[k]?)/\∀ i s,i<n->Γ'[i]? = some (some s)->Γ[i]? = some (some s)\/s.1 = .ak
theorem lC{i n:Nat}(h:i<n):nE n (gN i):=fun d Γ Γ' e=>by
 cases e
 refine⟨fun k hk=>List.getElem?_set_ne (by omega),fun j s hj q=>?_⟩
 by_cases hji:j=i
 · subst hji
   have l1:j<Γ.length:=by have:=(List.getElem?_eq_some_iff.mp q).1;rwa[List.length_set] at this
   rw[List.getElem?_set_self l1] at q
   cases q
   exact .inr rfl
 · rw[List.getElem?_set_ne (Ne.symm hji)] at q
   exact .inl q
theorem uN{n:Nat}:uM n iB:=fun d Γ Γ' e=>by
 cases d with
 |nil=>cases e;exact⟨fun _ _=>rfl,fun _ _ _ q=>.inl q⟩
 |cons _ _=>cases e
theorem nF{n:Nat}{m:D->M Unit}{ms:List D->M Unit}(h:nE n m)(h':uM n ms):uM n (cY m ms):=fun d Γ Γ' e=>by
 cases d with
 |nil=>cases e
 |cons d r =>
   have e:M.bind (m d) (fun _=>ms r) Γ = .ok () Γ':=e
   unfold M.bind at e
   cases q:m d Γ with
   |ok a ah =>
     rw[q] at e
     obtain⟨a1,a2⟩:=h d Γ ah q
     obtain⟨b1,b2⟩:=h' r ah Γ' e
     exact⟨fun k hk=>(b1 k hk).trans (a1 k hk),fun i s hi z=>(b2 i s hi z).elim (fun z=>a2 i s hi z) .inr⟩
   |ex x ah=>rw[q] at e;cases e
   |st=>rw[q] at e;cases e
theorem uO{n k:Nat}{ms:List D->M Unit}(h:uM n ms):nE n (gT k ms):=fun d Γ Γ' e=>by
 unfold gT at e
 split at e
 · split at e
   · exact h _ _ _ e
   · cases e
 · cases e
noncomputable def j9(m:D->M Unit)(p:M Bool)(f:M RV)(d:D):M (Option D):=M.bind (lu (m d)) fun _=>M.bind p fun b=>if b then M.bind f fun rv=>M.bind (mat rv) fun y=>M.pure (some y) else M.pure none
noncomputable def c_(fr:List Nat)(own:Nat)(m:D->M Unit)(p:M Bool)(f:M RV):List D->M (List D)
 | []=>M.pure []
 |d::r=>fun Γ=>match j9 m p f d (bW fr own Γ) with
   | .ok y bQ=>match c_ fr own m p f r (aF fr own Γ bQ) with
     | .ok ys Γ'=>.ok (y.toList++ys) Γ'
     | _=>.st
   | _=>.st
noncomputable def jJ(items:M (List D))(fr:List Nat)(own:Nat)(m:D->M Unit)(p:M Bool)(f:M RV):M RV:=M.bind items fun ds=>if ds.length<sizeLine then M.bind (c_ fr own m p f ds) fun ys=>M.pure (.new (.lst ys)) else M.st
noncomputable abbrev EN:a9:=fun _ _ _ _=>False
theorem DB{wi:TI}{gt:TG}{tc:TT}{te:TE}{items:M (List D)}{m:D->M Unit}{fr:List Nat}{own:Nat}(hn:fr.Nodup)(hi:rH EE ios wi items)(hg:jm ios own gt m)(hk:nE own m)(hc:k_ EN ios tc p)(he:fT EN ios te f):fT EE ios (xx fr own wi gt tc te) (jJ items fr own m p f):=by
 intro σ H R Γ Q er w
 unfold jJ at w
 rw[ZY] at w
 refine hi σ H R Γ _ er (aT w (fun ds ah w J H1 R1 p1 hJ=>?_) fun _ _ z=>z)
 split at w
 · rename_i hsz
   rw[ZY] at w
   intro A hA
   have yh:R1 A=none:=p1.er.sub.free hA
   have yi:Al R1 H1 R1 (upd H1 A (.lst [])):=⟨p1.er.sub.trans (ix hA),ae.refl _,ix hA,fun _ _ _ z=>z⟩
   refine⟨fun i n ys H2=>n=ds.length - i/\i<=ds.length/\∃ R2 au gy L,aM ios R H σ Γ R2 H2 au/\ae R1 R2/\R2 A=none/\aB R2 ys gy/\ys.length<=i/\c_ fr own m p f (ds.drop i) au=L/\bx L (fun zs Γ'=>∀ x H' R',aM ios R H σ Γ R' H' Γ'->dS R' H H' σ x (.new (.lst (gy++zs)))->Q x H') (d9 EE ios R H σ Γ),⟨ds.length,rfl,Nat.zero_le _,R1,ah,[],_,p1.al yi,ae.refl _,yh,.nil,by simp,rfl,w⟩,?_⟩
   rintro i n ys H2 oE ⟨rfl,hi',R2,au,gy,L,p2,s2,mi,hys,hyl,rfl,w⟩
   obtain⟨go,stop⟩:=hJ i H2 R2 s2 p2.er.sub
   have rO : ¬ Ow σ Γ A:=fun z=>by
    obtain⟨_,xs,q⟩:=er.ow z
    rw[p1.back er A hA] at q;cases q
   by_cases hlt:i<ds.length
   · have hd:ds[i]? = some ds[i]:=List.getElem?_eq_getElem hlt
     obtain⟨g1,g2⟩:=go _ hd
     rw[List.drop_eq_getElem_cons hlt] at w
     refine .inr ⟨g1,by omega,fun x H3 hx=>?_⟩
     obtain⟨R3,al,rx⟩:=g2 x H3 hx
     unfold c_ at w
     have p3:aM ios R H σ Γ R3 H3 au:=p2.al al
     have mj:H3 A=some (.lst ys):=al.hh _ _ oE
     have j_:R3 A=none:=al.no _ _ oE mi
     have yj:ER ios R3 H3 (aj fr own σ) (bW fr own au):=p3.er.blk hn
     have fV : ¬ Ow (aj fr own σ) (bW fr own au) A:=fun z=>rO (p3.sh A z.blk)
     have run:bx (j9 m p f ds[i] (bW fr own au)) (fun y bQ=>bx (c_ fr own m p f (ds.drop (i+1)) (Dv.aF fr own au bQ)) (fun zs Γ'=>∀ x H' R',aM ios R H σ Γ R' H' Γ'->dS R' H H' σ x (.new (.lst (gy++(y.toList++zs))))->Q x H') (fun _ _=>False)) rE:=by
      cases q:j9 m p f ds[i] (bW fr own au) with
      |ok y bQ =>
        rw[q] at w
        dsimp only at w
        show bx (c_ fr own m p f (ds.drop (i+1)) (Dv.aF fr own au bQ)) _ _
        cases q':c_ fr own m p f (ds.drop (i+1)) (Dv.aF fr own au bQ) with
        |ok zs Γ'=>rw[q'] at w;exact w
        |ex _ _=>rw[q'] at w;exact False.elim w
        |st=>rw[q'] at w;exact False.elim w
      |ex _ _=>rw[q] at w;exact False.elim w
      |st=>rw[q] at w;exact False.elim w
     unfold j9 at run
     rw[ZY] at run
     cases hm:m ds[i] (bW fr own au) with
     |ex _ _=>have:=nC run;rw[hm] at this;exact this.elim
     |st=>have:=nC run;rw[hm] at this;exact this.elim
     |ok u nu =>
       obtain⟨k1,k2⟩:=hk _ _ _ hm
       have wm:=nC run
       rw[hm] at wm
       refine hg (aj fr own σ) H3 R3 (bW fr own au) x _ _ yj rx ?_
       rw[hm]
       refine mh fun cW H4 R4 p4 keep s4=>?_
       have w:=nD wm
       rw[ZY] at w
       have ke:∀ b,Ow cW nu b->Ow (aj fr own σ) (bW fr own au) b:=by
        rintro b ⟨j,k,d,h1,h2,h3⟩
        by_cases hj:own<=j
        · rw[k1 j hj] at h1
          rw[keep j hj] at h3
          exact⟨j,k,d,h1,h2,h3⟩
        · rcases k2 j (k,d) (by omega) h1 with z | z
          · unfold bW at z;rw[ye (by omega)] at z;cases z
          · cases z;cases h2
       refine hc cW H4 R4 nu _ p4.er (aT w (fun b mn w H6 R6 p6=>?_) fun _ _ z=>z.elim)
       have p46:bu ios R3 H3 (aj fr own σ) (bW fr own au) R6 H6 cW mn:=p4.trans p6.eO
       have rQ:∀ b,Ow cW mn b->Ow (aj fr own σ) (bW fr own au) b:=fun b z=>ke b (p6.sh b z)
       have yk:H6 A=some (.lst ys):=p46.go.hh _ _ mj fV
       have oF:R6 A=none:=p46.go.no _ _ mj fV j_
       cases b with
       |false =>
         simp only[Bool.false_eq_true,if_false] at w ⊢
         have pu:aM ios R3 H3 σ au R6 H6 (Dv.aF fr own au mn):=aM.aF p3.er hn p46 keep rQ
         refine⟨yk,_,Nat.sub_lt_sub_left hlt (Nat.lt_succ_self i),rfl,hlt,R6,_,gy,_,p3.trans pu,(s2.trans al.rr).trans p46.go.rr,oF,hys.sm (al.rr.trans p46.go.rr),by omega,rfl,?_⟩
         exact aT w (fun zs Γ' w x H' R' p q=>w x H' R' p q) fun _ _ z=>z.elim
       |true =>
         simp only[if_true] at w ⊢
         rw[ZY] at w
         refine he cW H6 R6 mn _ p6.er (aT w (fun rv K3 w y H7 R7 p7 hy=>?_) fun _ _ z=>z.elim)
         rw[ZY] at w
         obtain⟨dy,kg,R8,p8,s8,ry,w⟩:=jh p6.er p7 hy w
         have mq:bu ios R3 H3 (aj fr own σ) (bW fr own au) R8 H7 cW kg:=p46.trans p8.eO
         have yl:∀ b,Ow cW kg b->Ow (aj fr own σ) (bW fr own au) b:=fun b z=>rQ b (p8.sh b z)
         have pu:aM ios R3 H3 σ au R8 H7 (Dv.aF fr own au kg):=aM.aF p3.er hn mq keep yl
         have ym:H7 A=some (.lst ys):=mq.go.hh _ _ mj fV
         have kh:R8 A=none:=mq.go.no _ _ mj fV j_
         have dW:=p3.trans pu
         have yn : ¬ Ow σ (Dv.aF fr own au kg) A:=fun z=>rO (dW.sh A z)
         have pA:aM ios R H σ Γ R8 (upd H7 A (.lst (ys++[y]))) (Dv.aF fr own au kg):=by
          have up:∀ b,b≠A->upd H7 A (.lst (ys++[y])) b=H7 b:=fun b hb=>aV hb
          refine⟨⟨fun b o q=>?_,dW.er.len,fun j t hj=>?_,dW.er.dj⟩,⟨dW.go.rr,fun b o q n=>?_,dW.go.no,dW.go.oo,fun b o q=>?_⟩,dW.sh⟩
          · rw[up b (fun z=>by rw[z,kh] at q;cases q)];exact dW.er.sub b o q
          · obtain⟨v,hv,q⟩:=dW.er.sl j t hj
            refine⟨v,hv,q.mono (ae.refl _) fun ho b zs eb hb rb=>⟨?_,rb⟩⟩
            rw[up b]
            · exact hb
            · rintro rfl;subst eb;exact yn ⟨j,t.1,t.2,hj,ho,hv⟩
          · rw[up b (fun z=>by rw[z,p1.back er A hA] at q;cases q)];exact dW.go.hh b o q n
          · by_cases hb:b=A
            · subst hb;exact⟨_,cJ⟩
            · rw[up b hb];exact dW.go.th b o q
         refine⟨ym,_,Nat.sub_lt_sub_left hlt (Nat.lt_succ_self i),rfl,hlt,R8,_,gy++[dy],_,pA,((s2.trans al.rr).trans p46.go.rr).trans p8.go.rr,kh,(hys.sm ((al.rr.trans p46.go.rr).trans p8.go.rr)).app (.cons ry .nil),by rw[List.length_append];simp;omega,rfl,?_⟩
         refine aT w (fun zs Γ' w x H' R' p q=>w x H' R' p ?_) fun _ _ z=>z.elim
         simpa using q
   · have e:ds.drop i=[]:=List.drop_eq_nil_of_le (by omega)
     rw[e] at w
     refine .inl ⟨stop (by omega),w _ H2 R2 p2 ⟨⟨A,ys,gy,rfl,mi,oE,by simp,hys⟩,A,rfl,p1.back er A hA⟩⟩
 · exact False.elim w
end
section
variable{X:Cx}{EE:a9}{ios:List Addr}{e a b c iter tg elt:Expr}{es ifs:List Expr}{f g k:M RV}{fs:M (List RV)}{p:M Bool}{s s':M Fl}{st:Stmt}{sts e_:List Stmt}{pos:Pos}
noncomputable def DC(EE:a9)(ios:List Addr)(f:M RV):TE:=fun σ H Q=>∃ R Γ,ER ios R H σ Γ/\bx (f Γ) (fun rv Γ'=>∀ x H' R',aM ios R H σ Γ R' H' Γ'->dS R' H H' σ x rv->Q x H') (d9 EE ios R H σ Γ)
noncomputable def K4(EE:a9)(ios:List Addr)(f:M Bool):TT:=fun σ H Q=>∃ R Γ,ER ios R H σ Γ/\bx (f Γ) (fun b Γ'=>∀ H' R',aM ios R H σ Γ R' H' Γ'->Q b H') (d9 EE ios R H σ Γ)
theorem VE.pe(h:VE X EE ios e f):PE X e (DC EE ios f):=let ⟨_,h1,h2⟩:=h;fun pins s σ H Q I ⟨R,Γ,er,w⟩=>h1 pins s σ H Q I (h2 σ H R Γ Q er w)
noncomputable def uP(X:Cx)(EE:a9)(ios:List Addr)(ifs:List Expr)(p:M Bool):Prop:=n8 X ifs (K4 EE ios p)
theorem pU:uP X EE ios [] (M.pure true):=fun pins s σ H Q I ⟨R,Γ,er,w⟩=>J2 pins s σ H Q I (w H R (aM.refl er))
noncomputable abbrev mv(X:Cx)(Nc:List Str)(scope:Scope)(cl:List (Str×Addr))(C:Addr)(s3:Shared)(H3:Hp)(fp:List Addr)(pn':List (Addr×Obj)):Cx:=X.blk Nc scope cl C s3 H3 fp pn' fun _ _=>False
theorem uQ{scope:Scope}{Nc:List Str}{own:Nat}{fr:List Nat}{gt:TG}{items:M (List D)}{m:D->M Unit}(hc:X.calm=true)(B:eV X scope Nc own fr)(hn:fr.Nodup)(hi:VI X EE ios tg iter items)(hog:k6 own gt)
 (hg:∀ cl C s3 H3 fp pn',PG (mv X Nc scope cl C s3 H3 fp pn') tg gt) (hr:jm ios own gt m) (hk:nE own m) (ht:∀ cl C s3 H3 fp pn',uP (mv X Nc scope cl C s3 H3 fp pn') EN ios ifs p) (he:∀ cl C s3 H3 fp pn',VE (mv X Nc scope cl C s3 H3 fp pn') EN ios elt f)
 (hs:∀ x,foldedSetIterable iter X.env x=pure x:=by intro _;rfl):VE X EE ios (.ListComp elt [⟨tg,iter,ifs,0⟩] scope pos) (jJ items fr own m p f) :=
 let ⟨_,h1,h2⟩:=hi
 ⟨_,Kf hc B h1 hog hg ht (fun cl C s3 H3 fp pn'=>(he cl C s3 H3 fp pn').pe) hs,DB hn h2 hr hk (fun σ H R Γ Q er w=>⟨R,Γ,er,w⟩) (fun σ H R Γ Q er w=>⟨R,Γ,er,w⟩)⟩
theorem K5{scope:Scope}{Nc:List Str}{own i:Nat}{fr:List Nat}{gt:TG}{items:M (List D)}{m:D->M Unit}{y:Str}{py spos:Pos}(hN:X.N.Nodup)(hi':X.N[i]? = some y)(hx:Loc X.env.scope y)(hc:X.calm=true)(B:eV X scope Nc own fr)(hn:fr.Nodup)(hi:VI X EE ios tg iter items)(hog:k6 own gt)
 (hg:∀ cl C s3 H3 fp pn',PG (mv X Nc scope cl C s3 H3 fp pn') tg gt) (hr:jm ios own gt m) (hk:nE own m) (ht:∀ cl C s3 H3 fp pn',uP (mv X Nc scope cl C s3 H3 fp pn') EN ios ifs p) (he:∀ cl C s3 H3 fp pn',VE (mv X Nc scope cl C s3 H3 fp pn') EN ios elt f)
 (hs:∀ x,foldedSetIterable iter X.env x=pure x:=by intro _;rfl) (hsw:swapsWith (.ListComp elt [⟨tg,iter,ifs,0⟩] scope pos) (some (.Name y py)) spos.line X.env=pure true:=by rfl)
 (hf:X.fn y=true\/X.env.scope.names.lookup y=some .local:=by first | exact .inl rfl | exact .inr rfl | assumption):VS X EE ios (.Assign [.Name y py] (.ListComp elt [⟨tg,iter,ifs,0⟩] scope pos) spos) (bw i (jJ items fr own m p f)) :=
 let ⟨_,h1,h2⟩:=hi
 ⟨_,Kg hN hi' hx hc B h1 hog hg ht (fun cl C s3 H3 fp pn'=>(he cl C s3 H3 fp pn').pe) hs hsw hf,Dt (DB hn h2 hr hk (fun σ H R Γ Q er w=>⟨R,Γ,er,w⟩) (fun σ H R Γ Q er w=>⟨R,Γ,er,w⟩))⟩
inductive Rt where
 |val (d:D) | new (d:D)
noncomputable def Rt.rv:Rt->RV
 | .val d=>.val d
 | .new d=>.new d
noncomputable def K6(R H:Hp)(r:Option Rt)(Q:VK):Prop:=match r with
 |some r=>∀ x H' R',Al R H R' H'->iX R' H H' x r.rv->Q x H'
 |none=>False
noncomputable def cM(G:List D->Option Rt):Sp:=fun vs H Q _=>∃ R ds,ae R H/\aB R vs ds/\K6 R H (G ds) Q
noncomputable def gam(N:List Str)(ds:List D):En:=ds.map (fun d=>some (.ak,d))++List.replicate (N.length - ds.length) none
noncomputable def b6:Res Fl->Option Rt
 | .ok .nx _=>some (.val .ao)
 | .ok (.ret (.val d)) _=>some (.val d)
 | .ok (.ret (.new d)) _=>some (.new d)
 | .ok (.ret (.var i)) Γ=>match Γ[i]? with
   |some (some (.own,d))=>some (.new d)
   |some (some (.ak,d))=>some (.val d)
   | _=>none
 | _=>none
theorem uR{N:List Str}{ds:List D}{i:Nat}{t:Kd×D}(h:(gam N ds)[i]? = some (some t)):∃ d,ds[i]? = some d/\t=(.ak,d):=by
 unfold gam at h
 by_cases hi:i<ds.length
 · rw[List.getElem?_append_left (by rw[List.length_map];exact hi),List.getElem?_map,List.getElem?_eq_getElem hi] at h
   cases h
   exact⟨_,List.getElem?_eq_getElem hi,rfl⟩
 · rw[List.getElem?_append_right (by rw[List.length_map];omega),List.getElem?_replicate] at h
   split at h<;>cases h
theorem yo{N:List Str}{vs:List V}{i:Nat}{v:V}(h:vs[i]? = some v):(L2.start N vs)[i]? = some (some v):=by
 unfold L2.start
 have hi:=(List.getElem?_eq_some_iff.mp h).1
 rw[List.getElem?_append_left (by rw[List.length_map];exact hi),List.getElem?_map,h]
 rfl
theorem yp{N:List Str}{R H:Hp}{vs:List V}{ds:List D}(s:ae R H)(h:aB R vs ds):ER [] R H (L2.start N vs) (gam N ds) where
 sub:=s
 len:=by unfold L2.start gam;simp[h.len]
 sl:=fun i t q=>by
  obtain⟨d,hd,rfl⟩:=uR q
  obtain⟨x,hx,rx⟩:=h.ta hd
  exact⟨x,yo hx,rx⟩
 dj:=fun i j k l d e b q1 q2 _ _ _ _=>by
  obtain⟨_,_,z⟩:=uR q1
  cases z;cases q2
theorem uS{N:List Str}{σ:St}{ds:List D}{b:Addr} : ¬ Ow σ (gam N ds) b:=by
 rintro⟨i,k,d,q1,q2,_⟩
 obtain⟨_,_,z⟩:=uR q1
 cases z;cases q2
theorem bu.al{N:List Str}{R H R' H':Hp}{σ ay:St}{ds:List D}{Γ':En}(p:bu ios R H σ (gam N ds) R' H' ay Γ'):Al R H R' H':=⟨p.er.sub,p.go.rr,fun b o h=>p.go.hh b o h uS,fun b o h r=>p.go.no b o h uS r⟩
theorem yq{P:Program}{w:World}{K:W.Frag}{mg:Str->Option Value}{base:Heap}{x qual:Str}{fa:Addr}{fd:FuncData}{N ps:List Str}{k:Nat}{G:List D->Option Rt}{bm:M Fl}(F:jf K x qual st fa fd)(S:aq N ps (aa st))
 (hb:∀ (cdv:Value) (A:Around) (outer:List Env) (s:Shared) (H:Hp) (E:XK),ax k (A.deeper (PyProof.Rows.envOfC qual (aa st) s.heap.objs.size fa cdv))->cD (gj eK P w K mg base N qual (aa st) fa cdv A outer s H E).jT EN [] (ag st) bm)
 (h:∀ ds r,G ds=some r->ds.length=ps.length/\b6 (bm (gam N ds))=some r):a8 P w K mg base eK (k+1) fa fd ps (cM G):=by
 refine F.ok S (fun vs H Q E q=>?_) (fun cdv A outer s H vs Q E hr q=>?_)
 · obtain⟨R,ds,_,h2,h3⟩:=q
   cases e:G ds with
   |none=>rw[e] at h3;exact h3.elim
   |some r=>rw[h2.len];exact(h ds r e).1
 · obtain⟨R,ds,h1,h2,h3⟩:=q
   cases e:G ds with
   |none=>rw[e] at h3;exact h3.elim
   |some r =>
     rw[e] at h3
     obtain⟨t,b1,b2⟩:=hb cdv A outer s H E hr
     refine⟨t,b1,b2 _ H R _ _ (yp h1 h2) ?_⟩
     have fin:=(h ds r e).2
     cases q:bm (gam N ds) with
     |st=>rw[q] at fin;cases fin
     |ex _ _=>rw[q] at fin;cases fin
     |ok fl Γ' =>
       rw[q] at fin
       refine mh fun ay H' R' p=>?_
       cases fl with
       |brk=>cases fin
       |cont=>cases fin
       |nx=>cases fin;exact h3 .ao H' R' p.al .ao
       |ret rv =>
         intro y hy
         cases rv with
         |val d=>cases fin;exact h3 y H' R' p.al hy
         |new d=>cases fin;exact h3 y H' R' p.al hy
         |var i =>
           have fin:(match Γ'[i]? with
            |some (some (.own,d))=>some (Rt.new d)
            |some (some (.ak,d))=>some (.val d)
            | _=>none)=some r:=fin
           split at fin
           · rename_i d hs
             cases fin
             obtain⟨v,hv,sl⟩:=p.er.sl i _ hs
             have hy:ay[i]? = some (some y):=hy
             rw[hy] at hv
             cases hv
             obtain⟨a,xs,ds',rfl,r1,r2,r3,r4⟩:=sl
             refine h3 _ H' R' p.al ⟨⟨a,xs,ds',rfl,r1,r2,r3,r4⟩,a,rfl,?_⟩
             exact(p.go.oo a ⟨i,.own,d,hs,rfl,hy⟩).elim (fun z=>absurd z uS) id
           · rename_i d hs
             cases fin
             obtain⟨v,hv,sl⟩:=p.er.sl i _ hs
             have hy:ay[i]? = some (some y):=hy
             rw[hy] at hv
             cases hv
             exact h3 _ H' R' p.al sl
           · cases fin
mutual
noncomputable def jK:D->Bool
 | .ao=>true
 | .bl _=>true
 | .int _=>true
 | .str _=>true
 | .tup xs=>gz xs
 | _=>false
noncomputable def gz:List D->Bool
 | []=>true
 |d::r=>jK d && gz r
end
noncomputable def gn:Rt->Bool
 | .val d=>jK d
 | .new (.lst ds)=>gz ds
 | .new _=>false
noncomputable def jn:RV->Bool
 | .var _=>true
 | _=>false
mutual
theorem Rp.less{R R':Hp}(h:∀ b xs,R b=some (.tup xs)->R' b=some (.tup xs)):∀ {x:V} {d:D},Rp R x d->jK d=true->Rp R' x d
 | _,_,.ao,_=>.ao
 | _,_,.bl b,_=>.bl b
 | _,_,.int i,_=>.int i
 | _,_,.str x,_=>.str x
 | _,_,.lst _ _,z=>by simp[jK] at z
 | _,_,.tup e q,z=>.tup (h _ _ e) (aB.less h q (by simpa [jK] using z))
 | _,_,.gu _,z=>by simp[jK] at z
 | _,_,.bL _,z=>by simp[jK] at z
 | _,_,.fS _,z=>by simp[jK] at z
 | _,_,.exc _ _ _,z=>by simp[jK] at z
 | _,_,.obj _ _,z=>by simp[jK] at z
theorem aB.less{R R':Hp}(h:∀ b xs,R b=some (.tup xs)->R' b=some (.tup xs)):∀ {xs:List V} {ds:List D},aB R xs ds->gz ds=true->aB R' xs ds
 | _,_,.nil,_=>.nil
 | _,_,.cons a b,z=>by
   have z:=Bool.and_eq_true_iff.mp (show(jK _ && gz _)=true from by simpa only [gz] using z)
   exact .cons (Rp.less h a z.1) (aB.less h b z.2)
end
noncomputable def dA(G:List D->Option Rt)(fs:M (List RV)):M RV:=M.bind fs fun rvs=>M.bind (cL rvs) fun ds=>match G ds with
 |some r=>if rvs.any jn && !gn r then M.bind (b8 rvs) fun ds'=>M.cH ((G ds').map Rt.rv) else M.pure r.rv
 |none=>M.st
open Classical in
noncomputable def lent(O:Addr->Prop)(R H:Hp):Hp:=fun b=>if O b then H b else R b
theorem uT{O:Addr->Prop}{R H:Hp}(s:ae R H):ae (lent O R H) H:=fun b o e=>by
 unfold lent at e
 split at e
 · exact e
 · exact s b o e
theorem yr{O:Addr->Prop}{R H:Hp}(h:∀ b,O b->R b=none):ae R (lent O R H):=fun b o e=>by
 unfold lent
 split
 · rename_i z;rw[h b z] at e;cases e
 · exact e
theorem Pks.lent{R H:Hp}{σ:St}{Γ:En}(er:ER ios R H σ Γ):∀ {xs:List V} {rvs:List RV} {ds:List D},d_ R σ xs rvs->Pks R H xs ds->cL rvs Γ = .ok ds Γ->aB (lent (Ow σ Γ) R H) xs ds:=by
 have ss:ae R (Dv.lent (Ow σ Γ) R H):=yr fun b z=>(er.ow z).1
 intro xs rvs
 induction rvs generalizing xs with
 |nil=>intro ds h1 h2 _;cases h1;cases h2;exact .nil
 |cons rv r ih =>
   intro ds h1 h2 h3
   cases h1 with
   |cons a b =>
     cases h2 with
     |cons c d =>
       unfold cL M.bind at h3
       cases q:peek rv Γ with
       |ex _ _=>rw[q] at h3;cases h3
       |st=>rw[q] at h3;cases h3
       |ok d0 fU =>
         have e0:fU=Γ:=by
          cases rv with
          |val _=>cases q;rfl
          |new _=>cases q;rfl
          |var i=>unfold peek at q;dsimp only at q;split at q<;>cases q;rfl
         subst e0
         rw[q] at h3
         dsimp only at h3
         cases q2:cL r fU with
         |ex _ _=>rw[q2] at h3;cases h3
         |st=>rw[q2] at h3;cases h3
         |ok bq ah =>
           rw[q2] at h3
           cases h3
           refine .cons ?_ (ih b d q2)
           cases rv with
           |val d'=>cases q;exact Rp.sm ss a
           |new d'=>exact a.elim
           |var i =>
             unfold peek at q
             dsimp only at q
             split at q
             · rename_i kd d' hs
               cases q
               obtain⟨v,hv,sl⟩:=er.sl i _ hs
               have a:σ[i]? = some (some _):=a
               rw[a] at hv
               cases hv
               cases kd with
               |ak=>exact Rp.sm ss sl
               |own =>
                 obtain⟨ad,ys,es,rfl,r1,r2,rfl,r4⟩:=sl
                 refine .lst ?_ (r4.sm ss)
                 unfold Dv.lent
                 rw[if_pos ⟨i,.own,_,hs,rfl,a⟩]
                 exact r2
               |io n =>
                 obtain⟨⟨ad,ys,es,rfl,r1,r2,rfl,r4⟩,_⟩:=sl
                 refine .lst ?_ (r4.sm ss)
                 unfold Dv.lent
                 rw[if_pos ⟨i,.io n,_,hs,rfl,a⟩]
                 exact r2
             · cases q
theorem DD{Γ Γ':En}:∀ {rvs:List RV} {ds:List D},cL rvs Γ = .ok ds Γ'->Γ'=Γ:=by
 intro rvs
 induction rvs with
 |nil=>intro ds h;cases h;rfl
 |cons rv r ih =>
   intro ds h
   unfold cL M.bind at h
   cases q:peek rv Γ with
   |ex _ _=>rw[q] at h;cases h
   |st=>rw[q] at h;cases h
   |ok d0 fU =>
     have e0:fU=Γ:=by
      cases rv with
      |val _=>cases q;rfl
      |new _=>cases q;rfl
      |var i=>unfold peek at q;dsimp only at q;split at q<;>cases q;rfl
     subst e0
     rw[q] at h
     dsimp only at h
     cases q2:cL r fU with
     |ex _ _=>rw[q2] at h;cases h
     |st=>rw[q2] at h;cases h
     |ok bq ah=>rw[q2] at h;cases h;exact ih q2
theorem DE{R:Hp}{σ:St}{Γ:En}:∀ {xs:List V} {rvs:List RV} {ds:List D},d_ R σ xs rvs->rvs.any jn=false->cL rvs Γ = .ok ds Γ->aB R xs ds:=by
 intro xs rvs
 induction rvs generalizing xs with
 |nil=>intro ds h1 _ h3;cases h1;cases h3;exact .nil
 |cons rv r ih =>
   intro ds h1 h2 h3
   rw[List.any_cons,Bool.or_eq_false_iff] at h2
   cases h1 with
   |cons a b =>
     cases rv with
     |var i=>cases h2.1
     |new d=>exact a.elim
     |val d =>
       have h3:M.bind (cL r) (fun ds=>M.pure (d::ds)) Γ = .ok ds Γ:=h3
       unfold M.bind at h3
       cases q2:cL r Γ with
       |ex _ _=>rw[q2] at h3;cases h3
       |st=>rw[q2] at h3;cases h3
       |ok bq ah =>
         have:=DD q2
         subst this
         rw[q2] at h3
         cases h3
         exact .cons a (ih b h2.2 q2)
theorem K7{Γ Γ':En}{x:Xc}:∀ {rvs:List RV},cL rvs Γ ≠ .ex x Γ':=by
 intro rvs
 induction rvs with
 |nil=>intro h;cases h
 |cons rv r ih =>
   intro h
   unfold cL M.bind at h
   cases q:peek rv Γ with
   |ex _ _ =>
     cases rv with
     |val _=>cases q
     |new _=>cases q
     |var i=>unfold peek at q;dsimp only at q;split at q<;>cases q
   |st=>rw[q] at h;cases h
   |ok d0 fU =>
     have e0:fU=Γ:=by
      cases rv with
      |val _=>cases q;rfl
      |new _=>cases q;rfl
      |var i=>unfold peek at q;dsimp only at q;split at q<;>cases q;rfl
     subst e0
     rw[q] at h
     dsimp only at h
     cases q2:cL r fU with
     |ex _ _=>exact ih (by rw[q2] at h;cases h;exact q2)
     |st=>rw[q2] at h;cases h
     |ok bq ah=>rw[q2] at h;cases h
theorem yt{rvs:List RV}{Γ:En}{K:List D->En->Prop}{E:Xc->En->Prop}(w:bx (cL rvs Γ) K E):∃ ds,cL rvs Γ = .ok ds Γ/\K ds Γ:=by
 cases q:cL rvs Γ with
 |ex _ _=>exact absurd q K7
 |st=>rw[q] at w;exact False.elim w
 |ok ds Γ' =>
   have:=DD q
   subst this
   rw[q] at w
   exact⟨ds,rfl,w⟩
open Classical in
noncomputable def cq(O:Addr->Prop)(R:Hp):Hp:=fun b=>if O b then none else R b
theorem K8{G:List D->Option Rt}{e0:Expr}(hp:∀ t,PA X es t->PE X e0 (wY (cM G) [] E0 t))(ha:VA X EE ios es fs):VE X EE ios e0 (dA G fs):=by
 obtain⟨t,h1,h2⟩:=ha
 refine⟨_,hp t h1,fun σ H R Γ Q er w=>?_⟩
 unfold dA at w
 rw[ZY] at w
 refine h2 σ H R Γ _ er (aT w (fun rvs ah w xs H1 R1 p1 hx=>?_) fun _ _ z=>z)
 show cM G (xs++[]) H1 Q E0
 rw[List.append_nil]
 rw[ZY] at w
 obtain⟨ds,q,w⟩:=yt w
 obtain⟨ds',pk,e⟩:=pN (K:=fun ds' _=>ds'=ds) (E:=fun _ _=>False) p1.er hx (by rw[q];exact rfl)
 subst e
 cases hG:G ds' with
 |none=>rw[hG] at w;exact False.elim w
 |some r =>
   rw[hG] at w
   dsimp only at w
   by_cases hv:rvs.any jn=true
   · by_cases fW:gn r=true
     · rw[hv,fW] at w
       have w:∀ x H' R',aM ios R H σ Γ R' H' ah->dS R' H H' σ x r.rv->Q x H':=w
       refine⟨lent (Ow σ ah) R1 H1,ds',uT p1.er.sub,Pks.lent p1.er hx pk q,?_⟩
       rw[hG]
       intro x H' R' al ra
       have ow:∀ b,Ow σ ah b->R1 b=none/\∃ xs,H1 b=some (.lst xs):=fun b z=>p1.er.ow z
       have un:∀ b, ¬ Ow σ ah b->cq (Ow σ ah) R' b=R' b:=fun b z=>by unfold cq;rw[if_neg z]
       have un':∀ b,Ow σ ah b->cq (Ow σ ah) R' b=none:=fun b z=>by unfold cq;rw[if_pos z]
       have tup:∀ b ys,R' b=some (.tup ys)->cq (Ow σ ah) R' b=some (.tup ys):=fun b ys z=>by
        rw[un b]
        · exact z
        · intro o
          obtain⟨_,zs,hz⟩:=ow b o
          have:=al.sub _ _ z
          rw[al.hh _ _ hz] at this
          cases this
       have rr:ae R1 (cq (Ow σ ah) R'):=fun b o z=>by
        have nb : ¬ Ow σ ah b:=fun q=>by rw[(ow b q).1] at z;cases z
        rw[un b nb]
        apply al.rr
        unfold lent
        rw[if_neg nb]
        exact z
       have no:∀ b o,H1 b=some o->R1 b=none->cq (Ow σ ah) R' b=none:=fun b o hb rb=>by
        by_cases nb:Ow σ ah b
        · exact un' b nb
        · rw[un b nb]
          apply al.no b o hb
          unfold lent
          rw[if_neg nb]
          exact rb
       have al':Al R1 H1 (cq (Ow σ ah) R') H':=⟨fun b o z=>by
        by_cases nb:Ow σ ah b
        · rw[un' b nb] at z;cases z
        · rw[un b nb] at z;exact al.sub b o z,rr,al.hh,no⟩
       refine w x H' _ (p1.al al') ?_
       cases r with
       |val d=>exact Rp.less tup ra fW
       |new d =>
         cases d with
         |lst zs =>
           obtain⟨⟨a,ys,fb,rfl,r1,r2,r3,r4⟩,a',ea,hf⟩:=ra
           cases ea
           cases r3
           refine⟨⟨a,ys,zs,rfl,?_,r2,rfl,r4.less tup fW⟩,a,rfl,p1.back er a hf⟩
           by_cases nb:Ow σ ah a
           · exact un' a nb
           · rw[un a nb];exact r1
         | _=>cases fW
     · have fW:gn r=false:=by cases z:gn r<;>simp_all
       rw[hv,fW] at w
       have w:bx (M.bind (b8 rvs) (fun ds'=>M.cH ((G ds').map Rt.rv)) ah) _ _:=w
       rw[ZY] at w
       obtain⟨fb,au,R2,p2,s2,r2,w⟩:=ji er p1 hx w
       obtain⟨rv,hrv,w⟩:=iy w
       refine⟨R2,fb,p2.er.sub,r2,?_⟩
       cases ki:G fb with
       |none=>rw[ki] at hrv;cases hrv
       |some r' =>
         rw[ki] at hrv
         cases hrv
         exact fun x H' R' al ra=>w x H' R' (p2.al al) (ra.rv (p2.back er))
   · have hv:rvs.any jn=false:=by cases z:rvs.any jn<;>simp_all
     rw[hv] at w
     have w:∀ x H' R',aM ios R H σ Γ R' H' ah->dS R' H H' σ x r.rv->Q x H':=w
     refine⟨R1,ds',p1.er.sub,DE hx hv q,?_⟩
     rw[hG]
     exact fun x H' R' al ra=>w x H' R' (p1.al al) (ra.rv (p1.back er))
end
section
variable{X:Cx}{EE:a9}{ios:List Addr}{e a b c iter tg elt:Expr}{es ifs:List Expr}{f g k:M RV}{fs:M (List RV)}{p:M Bool}{s s':M Fl}{st:Stmt}{sts e_:List Stmt}{pos:Pos}
noncomputable abbrev GI:=List D->List D->Option (Rt×List D)
noncomputable def kj(G:GI):Sp:=fun vs H Q _=>∃ R p xs bq vs' ds,vs = .ref p::vs'/\ae R H/\R p=none/\H p=some (.lst xs)/\aB R xs bq/\aB R vs' ds/\match G bq ds with
 |some (r,out)=>∀ x H' R' xs',ae R' H'->Go (· = p) R H (· = p) R' H'->H' p=some (.lst xs')->R' p=none->aB R' xs' out->iX R' H H' x r.rv->Q x H'
 |none=>False
noncomputable def jo(N:List Str)(bq ds:List D):En:=some (.io 0,.lst bq)::(ds.map (fun d=>some (.ak,d))++List.replicate (N.length - (ds.length+1)) none)
noncomputable def mw:Res Fl->Option (Rt×List D)
 | .ok fl Γ=>match (Γ:List Sl)[(0:Nat)]? with
   |some (some (.io 0,.lst out))=>(b6 (.ok fl Γ)).map fun r=>(r,out)
   | _=>none
 | _=>none
theorem uU{N:List Str}{bq ds:List D}{i:Nat}{t:Kd×D}(h:(jo N bq ds)[i]? = some (some t)):(i=0/\t=(.io 0,.lst bq))\/∃ j d,i=j+1/\ds[j]? = some d/\t=(.ak,d):=by
 cases i with
 |zero=>cases h;exact .inl ⟨rfl,rfl⟩
 |succ j =>
   have h:(ds.map (fun d=>some (Kd.ak,d))++List.replicate (N.length - (ds.length+1)) none)[j]? = some (some t):=h
   by_cases hj:j<ds.length
   · rw[List.getElem?_append_left (by rw[List.length_map];exact hj),List.getElem?_map,List.getElem?_eq_getElem hj] at h
     cases h
     exact .inr ⟨j,_,rfl,List.getElem?_eq_getElem hj,rfl⟩
   · rw[List.getElem?_append_right (by rw[List.length_map];omega),List.getElem?_replicate] at h
     split at h<;>cases h
theorem K9{N:List Str}{R H:Hp}{q:Addr}{xs:List V}{bq:List D}{vs:List V}{ds:List D}(s:ae R H)(h0:R q=none)(h1:H q=some (.lst xs))(h2:aB R xs bq)(h:aB R vs ds):ER [q] R H (L2.start N (.ref q::vs)) (jo N bq ds) where
 sub:=s
 len:=by unfold L2.start jo;simp[h.len]
 sl:=fun i t z=>by
  rcases uU z with ⟨rfl,rfl⟩ | ⟨j,d,rfl,hd,rfl⟩
  · exact⟨.ref q,rfl,⟨q,xs,bq,rfl,h0,h1,rfl,h2⟩,q,rfl,rfl⟩
  · obtain⟨x,hx,rx⟩:=h.ta hd
    exact⟨x,yo (by simpa using hx),rx⟩
 dj:=fun i j k l d e b q1 q2 q3 q4 _ _=>by
  rcases uU q1 with ⟨rfl,z⟩ | ⟨j,d,_,_,z⟩
  · rcases uU q3 with ⟨rfl,_⟩ | ⟨j,d,_,_,z'⟩
    · rfl
    · cases z';cases q4
  · cases z;cases q2
theorem yu{N:List Str}{q:Addr}{vs:List V}{bq ds:List D}{b:Addr}:Ow (L2.start N (.ref q::vs)) (jo N bq ds) b ↔ b=q:=by
 constructor
 · rintro⟨i,k,d,q1,q2,q3⟩
   rcases uU q1 with ⟨rfl,z⟩ | ⟨j,d,_,_,z⟩
   · have:(L2.start N (.ref q::vs))[0]? = some (some (.ref q)):=rfl
     rw[this] at q3
     cases q3
     rfl
   · cases z;cases q2
 · rintro rfl
   exact⟨0,.io 0,.lst bq,rfl,rfl,rfl⟩
theorem K_{P:Program}{w:World}{K:W.Frag}{mg:Str->Option Value}{base:Heap}{x qual:Str}{fa:Addr}{fd:FuncData}{N ps:List Str}{k:Nat}{G:GI}{bm:M Fl}(F:jf K x qual st fa fd)(S:aq N ps (aa st))
 (hb:∀ (cdv:Value) (A:Around) (outer:List Env) (s:Shared) (H:Hp) (E:XK) (q:Addr),ax k (A.deeper (PyProof.Rows.envOfC qual (aa st) s.heap.objs.size fa cdv))->cD (gj eK P w K mg base N qual (aa st) fa cdv A outer s H E).jT EN [q] (ag st) bm)
 (h:∀ bq ds r,G bq ds=some r->ds.length+1=ps.length/\mw (bm (jo N bq ds))=some r):a8 P w K mg base eK (k+1) fa fd ps (kj G):=by
 refine F.ok S (fun vs H Q E q=>?_) (fun cdv A outer s H vs Q E hr q=>?_)
 · obtain⟨R,q,xs,bq,vs',ds,rfl,_,_,_,_,h2,h3⟩:=q
   cases e:G bq ds with
   |none=>rw[e] at h3;exact h3.elim
   |some r=>rw[List.length_cons,h2.len];exact(h bq ds r e).1
 · obtain⟨R,q,xs,bq,vs',ds,rfl,s1,r0,hq,hxs,h2,h3⟩:=q
   cases e:G bq ds with
   |none=>rw[e] at h3;exact h3.elim
   |some ro =>
     obtain⟨r,out⟩:=ro
     rw[e] at h3
     obtain⟨t,b1,b2⟩:=hb cdv A outer s H E q hr
     refine⟨t,b1,b2 _ H R _ _ (K9 s1 r0 hq hxs h2) ?_⟩
     have fin:=(h bq ds _ e).2
     cases q0:bm (jo N bq ds) with
     |st=>rw[q0] at fin;cases fin
     |ex _ _=>rw[q0] at fin;cases fin
     |ok fl Γ' =>
       rw[q0] at fin
       refine mh fun ay H' R' pp=>?_
       unfold mw at fin
       dsimp only at fin
       split at fin
       · rename_i out' hs0
         obtain⟨v0,hv0,⟨a0,xs',ds',e0,r1,r2,r3,r4⟩,a1,i1,i2⟩:=pp.er.sl 0 _ hs0
         cases i1
         rw[i2] at e0
         cases e0
         cases r3
         rw[i2] at hv0
         have go:Go (· = q) R H (· = q) R' H':=⟨pp.go.rr,fun b o z n=>pp.go.hh b o z fun y=>n (yu.mp y),fun b o z n r=>pp.go.no b o z (fun y=>n (yu.mp y)) r,fun b z=>.inl z,pp.go.th⟩
         have fin':∀ {r'},b6 (.ok fl Γ')=some r'->r'=r/\out'=out:=fun z=>by rw[z] at fin;cases fin;exact⟨rfl,rfl⟩
         have use:∀ y r',b6 (.ok fl Γ')=some r'->iX R' H H' y r'.rv->Q y H':=fun y r' z ra=>by
          obtain⟨rfl,rfl⟩:=fin' z
          exact h3 y H' R' xs' pp.er.sub go r2 r1 r4 ra
         cases fl with
         |brk=>cases fin
         |cont=>cases fin
         |nx=>exact use .ao _ rfl .ao
         |ret rv =>
           intro y hy
           cases rv with
           |val d=>exact use y _ rfl hy
           |new d=>exact use y _ rfl hy
           |var i =>
             have hy:ay[i]? = some (some y):=hy
             cases hsi:Γ'[i]? with
             | none => have : b6 (.ok (.ret (.var i)) Γ') = none := by show (match Γ'[i]? with | some (some (.own, d)) => some (Rt.new d) | some (some (.ak, d)) => some (.val d) | _ => none) = none; rw [hsi]
                       rw[this] at fin;cases fin
             |some o =>
               cases o with
               | none => have : b6 (.ok (.ret (.var i)) Γ') = none := by show (match Γ'[i]? with | some (some (.own, d)) => some (Rt.new d) | some (some (.ak, d)) => some (.val d) | _ => none) = none; rw [hsi]
                         rw[this] at fin;cases fin
               |some sd =>
                 obtain⟨kd,d⟩:=sd
                 obtain⟨v,hv,sl⟩:=pp.er.sl i _ hsi
                 rw[hy] at hv
                 cases hv
                 cases kd with
                 | io n => have : b6 (.ok (.ret (.var i)) Γ') = none := by show (match Γ'[i]? with | some (some (.own, d)) => some (Rt.new d) | some (some (.ak, d)) => some (.val d) | _ => none) = none; rw [hsi]
                           rw[this] at fin;cases fin
                 |ak=>exact use y (.val d) (by show(match Γ'[i]? with | some (some (.own,d))=>some (Rt.new d) | some (some (.ak,d))=>some (.val d) | _=>none)=_;rw[hsi]) sl
                 |own =>
                   obtain⟨a,ys,fb,rfl,t1,t2,t3,t4⟩:=sl
                   refine use _ (.new d) (by show(match Γ'[i]? with | some (some (.own,d))=>some (Rt.new d) | some (some (.ak,d))=>some (.val d) | _=>none)=_;rw[hsi]) ⟨⟨a,ys,fb,rfl,t1,t2,t3,t4⟩,a,rfl,?_⟩
                   rcases pp.go.oo a ⟨i,.own,d,hsi,rfl,hy⟩ with z | z
                   · have:=yu.mp z
                     subst this
                     have:=pp.er.dj i 0 .own (.io 0) d _ a hsi rfl hs0 rfl hy hv0
                     subst this
                     rw[hs0] at hsi
                     cases hsi
                   · exact z
       · cases fin
noncomputable def uV(i:Nat)(G:GI)(ds:List D):M RV:=fun Γ=>match Γ[i]? with
 |some (some (kd,.lst bq))=>if owned kd then match G bq ds with
   |some (r,out)=>.ok r.rv (Γ.set i (some (kd,.lst out)))
   |none=>.st else .st
 | _=>.st
noncomputable def fA(G:GI)(fs:M (List RV)):M RV:=M.bind fs fun rvs=>match rvs with
 | .var i::r=>M.bind (b8 r) fun ds=>uV i G ds
 | _=>M.st
theorem La{G:GI}{e0:Expr}(hp:∀ t,PA X es t->PE X e0 (wY (kj G) [] E0 t))(ha:VA X EE ios es fs):VE X EE ios e0 (fA G fs):=by
 obtain⟨t,h1,h2⟩:=ha
 refine⟨_,hp t h1,fun σ H R Γ Q er w=>?_⟩
 unfold fA at w
 rw[ZY] at w
 refine h2 σ H R Γ _ er (aT w (fun rvs ah w xs H1 R1 p1 hx=>?_) fun _ _ z=>z)
 show kj G (xs++[]) H1 Q E0
 rw[List.append_nil]
 split at w
 · rename_i i r
   cases hx with
   |cons hx hr =>
     rw[ZY] at w
     obtain⟨ds,au,R2,p2,s2,r2,w⟩:=ji er p1 hr w
     unfold uV at w
     split at w
     · rename_i kd bq hi
       split at w
       · rename_i ho
         cases hG:G bq ds with
         |none=>rw[hG] at w;exact False.elim w
         |some ro =>
           obtain⟨rt,out⟩:=ro
           rw[hG] at w
           dsimp only at w
           have w:=nD w
           have hx:σ[i]? = some (some _):=hx
           have hlt:i<au.length:=(List.getElem?_eq_some_iff.mp hi).1
           obtain⟨q,ys,rfl,h2,h3,_⟩:=p2.er.mut (ds':=bq) hi ho hx
           have hr0:R2 q=none:=(p2.er.ow ⟨i,kd,_,hi,ho,hx⟩).1
           refine⟨R2,q,ys,bq,_,ds,rfl,p2.er.sub,hr0,h2,h3,r2,?_⟩
           rw[hG]
           intro x H' R' xs' sub go g1 g2 g3 ra
           have inj:∀ (j:Nat) (l:Kd) (z:D),au[j]? = some (some (l,z))->owned l=true->σ[j]? = some (some (.ref q))->j=i:=fun j l z q1 q2 q3=>(p2.er.dj i j kd l _ z q hi ho q1 q2 hx q3).symm
           have rn:∀ b,Ow σ (au.set i (some (kd,.lst out))) b->Ow σ au b:=by
            rintro b ⟨j,l,z,q1,q2,q3⟩
            by_cases hj:j=i
            · subst hj
              rw[List.getElem?_set_self hlt] at q1
              cases q1
              exact⟨j,kd,_,hi,ho,q3⟩
            · rw[List.getElem?_set_ne (Ne.symm hj)] at q1
              exact⟨j,l,z,q1,q2,q3⟩
           have qo:Ow σ au q:=⟨i,kd,_,hi,ho,hx⟩
           have uI:ER ios R' H' σ (au.set i (some (kd,.lst out))):=by
            refine⟨sub,by rw[List.length_set];exact p2.er.len,fun j t hj=>?_,fun j j' l l' z z' b q1 q2 q3 q4 q5 q6=>?_⟩
            · by_cases hji:j=i
              · subst hji
                rw[List.getElem?_set_self hlt] at hj
                cases hj
                obtain⟨v,hv,sl⟩:=p2.er.sl j _ hi
                rw[hx] at hv
                cases hv
                have z:OwR R' H' (.ref q) (.lst out):=⟨q,xs',out,rfl,g2,g1,rfl,g3⟩
                refine⟨_,hx,?_⟩
                cases kd with
                |ak=>cases ho
                |own=>exact z
                |io n=>exact⟨z,sl.2⟩
              · rw[List.getElem?_set_ne (Ne.symm hji)] at hj
                obtain⟨v,hv,sl⟩:=p2.er.sl j t hj
                refine⟨v,hv,sl.mono go.rr fun ho' b zs eb hb rb=>?_⟩
                subst eb
                have nb : ¬ b=q:=by rintro rfl;exact hji (inj j t.1 t.2 hj ho' hv)
                exact⟨go.hh b _ hb nb,go.no b _ hb nb rb⟩
            · have g:∀ {j:Nat} {l:Kd} {z:D},(au.set i (some (kd,.lst out)))[j]? = some (some (l,z))->∃ z',au[j]? = some (some (l,z')):=by
               intro j l z y
               by_cases hji:j=i
               · subst hji;rw[List.getElem?_set_self hlt] at y;cases y;exact⟨_,hi⟩
               · rw[List.getElem?_set_ne (Ne.symm hji)] at y;exact⟨z,y⟩
              obtain⟨z1,y1⟩:=g q1
              obtain⟨z2,y2⟩:=g q3
              exact p2.er.dj j j' l l' z1 z2 b y1 q2 y2 q4 q5 q6
           have p3:aM ios R2 H1 σ au R' H' (au.set i (some (kd,.lst out))):=⟨uI,⟨go.rr,fun b o hb nb=>go.hh b o hb (fun z=>nb (by rw[z];exact qo)),fun b o hb nb rb=>go.no b o hb (fun z=>nb (by rw[z];exact qo)) rb,fun b z=>.inl (rn b z),go.th⟩,rn⟩
           exact w x H' R' (p2.trans p3) (ra.rv (p2.back er))
       · exact False.elim w
     · exact False.elim w
 · exact False.elim w
end
noncomputable def At(mg:Str->Option Value)(x:Str)(st:Stmt):Prop:=∃ f fd,jf KC.K x x st f fd/\mg x=some (.ref f)/\W.keepIn KC.K (.ref f)=true
noncomputable def dc(P:Program)(w:World)(mg:Str->Option Value)(base:Heap)(x:Str)(k:Nat)(ps:List Str)(sp:Sp):Prop:=∃ f fd,a8 P w KC.K mg base eK k f fd ps sp/\mg x=some (.ref f)/\W.keepIn KC.K (.ref f)=true/\Binds KC.K fd ps []
section
variable{X:Cx}{EE:a9}{ios:List Addr}{e:Expr}{es:List Expr}{fs:M (List RV)}{x:Str}{k:Nat}{ps:List Str}{p pos:Pos}{st:Stmt}
theorem jq{G:List D->Option Rt}(C:dc X.prog X.w X.mg X.base x k ps (cM G))(hr:ax k X.A)(hg:Gl X x)(ha:VA X EE ios (e::es) fs)(hK:X.K=KC.K:=by rfl)(hdb:(x == ("__debug__" : Str))=false:=by decide)
 (he:starEach (e::es) X.env=(false,eval e X.env)::starEach es X.env:=by rfl) (hpl:(backTo pos (starEach es X.env)).any (·.1)=false:=by rfl):VE X EE ios (.Call (.Name x p) (e::es) [] pos) (dA G fs):=by
 obtain⟨f,fd,F,hm,hk,hb⟩:=C
 rw[<- hK] at F hk hb
 exact K8 (fun t h=>B8 F hr hg hm hk hb .nil xg h hdb he hpl) ha
theorem nG{G:GI}(C:dc X.prog X.w X.mg X.base x k ps (kj G))(hr:ax k X.A)(hg:Gl X x)(ha:VA X EE ios (e::es) fs)(hK:X.K=KC.K:=by rfl)(hdb:(x == ("__debug__" : Str))=false:=by decide)
 (he:starEach (e::es) X.env=(false,eval e X.env)::starEach es X.env:=by rfl) (hpl:(backTo pos (starEach es X.env)).any (·.1)=false:=by rfl):VE X EE ios (.Call (.Name x p) (e::es) [] pos) (fA G fs):=by
 obtain⟨f,fd,F,hm,hk,hb⟩:=C
 rw[<- hK] at F hk hb
 exact La (fun t h=>B8 F hr hg hm hk hb .nil xg h hdb he hpl) ha
theorem mz{P:Program}{w:World}{mg:Str->Option Value}{base:Heap}{N:List Str}{G:List D->Option Rt}{bm:M Fl}(A0:At mg x st)(S:aq N ps (aa st))
 (bd:∀ (kV doc pm:Value) (an:Option Addr) (cdv ct:Value) (us:List Value),us.length=ps.length->bindArgs (W.fnOf x x (aW st) (ag st) (aa st) .none kV doc pm an cdv ct) ⟨us,[]⟩=pure (ps.zip us))
 (hb:∀ (fa:Addr) (cdv:Value) (A:Around) (outer:List Env) (s:Shared) (H:Hp) (E:XK),ax k (A.deeper (PyProof.Rows.envOfC x (aa st) s.heap.objs.size fa cdv))->cD (gj eK P w KC.K mg base N x (aa st) fa cdv A outer s H E).jT EN [] (ag st) bm)
 (h:∀ ds r,G ds=some r->ds.length=ps.length/\b6 (bm (gam N ds))=some r):dc P w mg base x (k+1) ps (cM G) :=
 let ⟨f,fd,F,hm,hk⟩:=A0
 ⟨f,fd,yq F S (hb f) h,hm,hk,F.binds bd⟩
theorem yv{P:Program}{w:World}{mg:Str->Option Value}{base:Heap}{N:List Str}{G:GI}{bm:M Fl}(A0:At mg x st)(S:aq N ps (aa st))
 (bd:∀ (kV doc pm:Value) (an:Option Addr) (cdv ct:Value) (us:List Value),us.length=ps.length->bindArgs (W.fnOf x x (aW st) (ag st) (aa st) .none kV doc pm an cdv ct) ⟨us,[]⟩=pure (ps.zip us))
 (hb:∀ (fa:Addr) (cdv:Value) (A:Around) (outer:List Env) (s:Shared) (H:Hp) (E:XK) (q:Addr),ax k (A.deeper (PyProof.Rows.envOfC x (aa st) s.heap.objs.size fa cdv))->cD (gj eK P w KC.K mg base N x (aa st) fa cdv A outer s H E).jT EN [q] (ag st) bm)
 (h:∀ bq ds r,G bq ds=some r->ds.length+1=ps.length/\mw (bm (jo N bq ds))=some r):dc P w mg base x (k+1) ps (kj G) :=
 let ⟨f,fd,F,hm,hk⟩:=A0
 ⟨f,fd,K_ F S (hb f) h,hm,hk,F.binds bd⟩
noncomputable def DF(sc scope:Scope)(N Nc:List Str)(own:Nat)(fr:List Nat):Bool :=
 decide (Nc.length=own+fr.length) && decide (scope.kind = .function) && scope.names.all (fun y=>decide (y.2 ≠ .cell)) && scope.names.all (fun y=>decide (y.2 = .local->scope.names.lookup y.1=some .local)) &&
 scope.names.all (fun y=>decide (y.2 = .free->sc.names.lookup y.1=some .cell\/sc.names.lookup y.1=some .free)) &&
 (List.range fr.length).all fun k=>match fr[k]?,Nc[own+k]? with
  |some j,some x=>decide (N[j]? = some x) && decide (sc.names.lookup x=some .cell\/sc.names.lookup x=some .free) && decide (scope.names.lookup x=some .free)
  | _,_=>true
omit [KC] in
theorem pV{X:Cx}{scope sc:Scope}{N Nc:List Str}{own:Nat}{fr:List Nat}(hs:X.env.scope=sc)(hN:X.N=N)(h:DF sc scope N Nc own fr=true):eV X scope Nc own fr:=by
 subst hs hN
 unfold DF at h
 simp only[Bool.and_eq_true,decide_eq_true_eq,List.all_eq_true] at h
 obtain⟨⟨⟨⟨⟨h1,h2⟩,h3⟩,h4⟩,h5⟩,h6⟩:=h
 refine⟨h1,fun k j x e1 e2=>?_,h2,h3,h4,fun x hx=>h5 _ hx rfl⟩
 have hk:k<fr.length:=(List.getElem?_eq_some_iff.mp e1).1
 have z:=h6 k (List.mem_range.mpr hk)
 rw[e1,e2] at z
 simp only[Bool.and_eq_true,decide_eq_true_eq] at z
 exact⟨z.1.1,z.1.2,z.2⟩
end
section
variable{X:Cx}{EE:a9}{ios:List Addr}{e a b c:Expr}{f g k:M RV}{pos p:Pos}{x:Str}{ps:List Str}{kk:Nat}
theorem DG:fT EE ios (DC EE ios f) f:=fun σ H R Γ Q er w=>⟨R,Γ,er,w⟩
theorem DH{i:Int}(h:∃ t,X.mg x=some (.int i t))(hg:Gl X x)(hd:(x == ("__debug__" : Str))=false:=by decide):VE X EE ios (.Name x pos) (M.pure (.val (.int i))) :=
 let ⟨t,h⟩:=h;qX (gh (v:=.int i) hg h ⟨t,rfl⟩ hd) fun _=>.int i
end
noncomputable def dH(n:Nat)(N:List Str)(bm:M Fl):List D->Option Rt:=fun ds=>if ds.length=n then b6 (bm (gam N ds)) else none
noncomputable def mB(n:Nat)(N:List Str)(bm:M Fl):GI:=fun bq ds=>if ds.length+1=n then mw (bm (jo N bq ds)) else none
theorem km{n:Nat}{N:List Str}{bm:M Fl}{ds:List D}{r:Rt}(h:dH n N bm ds=some r):ds.length=n/\b6 (bm (gam N ds))=some r:=by
 unfold dH at h
 split at h
 · rename_i q;exact⟨q,h⟩
 · cases h
theorem yw{n:Nat}{N:List Str}{bm:M Fl}{bq ds:List D}{r:Rt×List D}(h:mB n N bm bq ds=some r):ds.length+1=n/\mw (bm (jo N bq ds))=some r:=by
 unfold mB at h
 split at h
 · rename_i q;exact⟨q,h⟩
 · cases h
end Dv
namespace Dv
open PySem L2 Ex
section
variable{α β:Type}{Γ Γ':En}{f g k:M RV}{fs:M (List RV)}{p q:M Bool}{s s':M Fl}{d:D}{i:Nat}
@[simp] theorem yx{a:α}:M.pure a Γ = .ok a Γ:=(rfl)
@[simp] theorem yy{f:M α}{g:α->M β}:M.bind f g Γ=match f Γ with
 | .ok a Γ'=>g a Γ'
 | .ex x Γ'=>.ex x Γ'
 | .st=>.st:=(rfl)
@[simp] theorem yz{a:α}:M.cH (some a) Γ = .ok a Γ:=(rfl)
@[simp] theorem yA:ai i Γ=match Γ[i]? with
 |some (some (.ak,d))=>.ok (.val d) Γ
 |some (some _)=>.ok (.var i) Γ
 | _=>.st:=(rfl)
@[simp] theorem uW:peek (.val d) Γ = .ok d Γ:=(rfl)
@[simp] theorem uX:peek (.new d) Γ = .ok d Γ:=(rfl)
@[simp] theorem uY:peek (.var i) Γ=match Γ[i]? with
 |some (some (_,d))=>.ok d Γ
 | _=>.st:=(rfl)
@[simp] theorem yB:mat (.val d) Γ = .ok d Γ:=(rfl)
@[simp] theorem yC:mat (.new d) Γ = .ok d Γ:=(rfl)
@[simp] theorem yD:mat (.var i) Γ=match Γ[i]? with
 |some (some (_,d))=>.ok d (Γ.set i (some (.ak,d)))
 | _=>.st:=(rfl)
@[simp] theorem DI{o:D->Option RV}:op1 o f Γ=M.bind f (fun x=>M.bind (peek x) fun d=>M.cH (o d)) Γ:=(rfl)
@[simp] theorem DJ{o:D->D->Option RV}:op2 o f g Γ=M.bind f (fun x=>M.bind g fun y=>M.bind (peek x) fun d=>M.bind (peek y) fun e=>M.cH (o d e)) Γ:=(rfl)
@[simp] theorem DK{o o':D->D->Option RV}:qY o o' f g k Γ=M.bind f (fun x=>M.bind g fun y=>M.bind (peek x) fun d=>M.bind (peek y) fun e=>M.bind (M.bind (M.cH (o d e)) bz) fun q =>
 if q then M.bind k fun z=>M.bind (peek y) fun e'=>M.bind (peek z) fun u=>M.cH (o' e' u) else M.pure (.val (.bl false))) Γ:=(rfl)
@[simp] theorem DL{b:Bool}:bz (.val (.bl b)) Γ = .ok b Γ:=(rfl)
@[simp] theorem Lb:jY p Γ=M.bind p (fun b=>M.pure (!b)) Γ:=(rfl)
@[simp] theorem Lc:orM p q Γ=M.bind p (fun b=>if b then M.pure true else q) Γ:=(rfl)
@[simp] theorem yE:uw p Γ=M.bind p (fun b=>M.pure (.val (.bl b))) Γ:=(rfl)
@[simp] theorem yF:jG f g Γ=M.bind (M.bind f bz) (fun b=>if b then g else M.pure (.val (.bl false))) Γ:=(rfl)
@[simp] theorem DM:j6 f Γ=match f Γ with
 | .ok (.var i) Γ'=>.ok (.var i) Γ'
 | .ok (.val d) Γ'=>.ok (.val d) Γ'
 | .ok (.new d) Γ'=>.ok (.val d) Γ'
 | .ex x Γ'=>.ex x Γ'
 | .st=>.st:=by
 unfold j6 M.bind
 cases f Γ with
 |ok rv Γ'=>cases rv<;>rfl
 |ex _ _=>rfl
 |st=>rfl
@[simp] theorem yG:ZS f fs Γ=M.bind (j6 f) (fun x=>M.bind fs fun xs=>M.pure (x::xs)) Γ:=(rfl)
@[simp] theorem yH:b8 [] Γ = .ok [] Γ:=(rfl)
@[simp] theorem yI{rv:RV}{r:List RV}:b8 (rv::r) Γ=M.bind (mat rv) (fun d=>M.bind (b8 r) fun ds=>M.pure (d::ds)) Γ:=(rfl)
@[simp] theorem uZ:cL [] Γ = .ok [] Γ:=(rfl)
@[simp] theorem u0{rv:RV}{r:List RV}:cL (rv::r) Γ=M.bind (peek rv) (fun d=>M.bind (cL r) fun ds=>M.pure (d::ds)) Γ:=(rfl)
@[simp] theorem DN:av fs Γ=M.bind fs (fun rvs=>M.bind (b8 rvs) fun ds=>if ds.length<=sizeLine then M.pure (.new (.lst ds)) else M.st) Γ:=(rfl)
@[simp] theorem DO:cp fs Γ=M.bind fs (fun rvs=>M.bind (b8 rvs) fun ds=>if ds.length<=sizeLine then M.pure (.val (.tup ds)) else M.st) Γ:=(rfl)
@[simp] theorem DP{g:List D->Option RV}:cf g fs Γ=M.bind fs (fun rvs=>M.bind (cL rvs) fun ds=>M.cH (g ds)) Γ:=(rfl)
@[simp] theorem DQ{T:Ty}:oB T f Γ=M.bind (j6 f) (fun x=>M.bind (peek x) fun d=>M.cH (rk T d)) Γ:=(rfl)
@[simp] theorem DR{o:D->Option Int->Option Int->Option RV}{lo hi:M (Option Int)}:l7 o f lo hi Γ=M.bind f (fun x=>M.bind lo fun l=>M.bind hi fun u=>M.bind (peek x) fun d=>M.cH (o d l u)) Γ:=(rfl)
@[simp] theorem DS{n:Int}:lW (.val (.int n)) Γ = .ok (some n) Γ:=(rfl)
@[simp] theorem DT{m:List D->List D->Option (List D×D)}:rB i m fs Γ=M.bind (recv i) (fun _=>M.bind fs fun rvs=>M.bind (b8 rvs) fun es=>rA i m es) Γ:=(rfl)
@[simp] theorem yJ:recv i Γ=match Γ[i]? with
 |some (some (kd,.lst _))=>if owned kd then .ok () Γ else .st
 | _=>.st:=(rfl)
@[simp] theorem u3{m:List D->List D->Option (List D×D)}{es:List D}:rA i m es Γ=match Γ[i]? with
 |some (some (kd,.lst ds))=>if owned kd then match m ds es with
   |some (ds',res)=>.ok (.val res) (Γ.set i (some (kd,.lst ds')))
   |none=>.st else .st
 | _=>.st:=(rfl)
@[simp] theorem DU:owned .own=true:=(rfl)
@[simp] theorem Ld{n:Nat}:owned (.io n)=true:=(rfl)
@[simp] theorem DV:aI s s' Γ=match s Γ with
 | .ok .nx Γ'=>s' Γ'
 | .ok fl Γ'=>.ok fl Γ'
 | .ex x Γ'=>.ex x Γ'
 | .st=>.st:=by
 unfold aI M.bind
 cases s Γ with
 |ok fl Γ'=>cases fl<;>rfl
 |ex _ _=>rfl
 |st=>rfl
@[simp] theorem yK:lj f Γ=M.bind f (fun _=>M.pure .nx) Γ:=(rfl)
@[simp] theorem DW:cE f Γ=M.bind f (fun rv=>M.pure (.ret rv)) Γ:=(rfl)
@[simp] theorem Le:dz p s s' Γ=M.bind p (fun b=>if b then s else s') Γ:=(rfl)
@[simp] theorem DX:bw i f Γ=match f Γ with
 | .ok (.new d) Γ'=>.ok .nx (Γ'.set i (some (.own,d)))
 | .ok (.val d) Γ'=>.ok .nx (Γ'.set i (some (.ak,d)))
 | .ok (.var j) Γ'=>M.bind (mat (.var j)) (fun d=>M.bind (rD i (.ak,d)) fun _=>M.pure .nx) Γ'
 | .ex x Γ'=>.ex x Γ'
 | .st=>.st:=by
 unfold bw M.bind
 cases f Γ with
 |ok rv Γ' =>
   cases rv with
   |var j=>dsimp only[M.bind];cases mat (.var j) Γ'<;>rfl
   | _=>rfl
 |ex _ _=>rfl
 |st=>rfl
@[simp] theorem yL{m:D->M Unit}:pQ m f Γ=M.bind f (fun rv=>M.bind (mat rv) fun d=>M.bind (lu (m d)) fun _=>M.pure .nx) Γ:=(rfl)
@[simp] theorem Lf{m:M Unit}:lu m Γ=match m Γ with
 | .ok a Γ'=>.ok a Γ'
 | _=>.st:=(rfl)
@[simp] theorem Lg:gN i d Γ = .ok () (Γ.set i (some (.ak,d))):=(rfl)
@[simp] theorem DY:iB [] Γ = .ok () Γ:=(rfl)
@[simp] theorem DZ{m:D->M Unit}{ms:List D->M Unit}{r:List D}:cY m ms (d::r) Γ=M.bind (m d) (fun _=>ms r) Γ:=(rfl)
@[simp] theorem Lh{n:Nat}{ms:List D->M Unit}{ds:List D}:gT n ms (.tup ds) Γ=(if ds.length=n then ms ds else M.st) Γ:=(rfl)
@[simp] theorem Li{fi:M RV}:gS i fi d Γ=M.bind (recv i) (fun _=>M.bind fi fun ri=>M.bind (peek ri) fun di=>setAt i d di) Γ:=(rfl)
@[simp] theorem u4{n:Int}:setAt i d (.int n) Γ=match Γ[i]? with
 |some (some (kd,.lst ds))=>if owned kd then match jd ds.length n with
   |some k=>.ok () (Γ.set i (some (kd,.lst (ds.set k d))))
   |none=>.st else .st
 | _=>.st:=by
 unfold setAt
 cases Γ[i]? with
 |none=>rfl
 |some o=>cases o with
   |none=>rfl
   |some t=>obtain⟨kd,d⟩:=t;cases d<;>rfl
@[simp] theorem D0{items:M (List D)}{m:D->M Unit}:forM items m s Γ=M.bind items (fun ds=>iC m s ds) Γ:=(rfl)
@[simp] theorem Lj{m:D->M Unit}:iC m s [] Γ = .ok .nx Γ:=(rfl)
theorem u5{m:D->M Unit}{r:List D}:iC m s (d::r) Γ=match lu (m d) Γ with
 | .ok _ ah=>match s ah with
   | .ok .nx au=>iC m s r au
   | .ok .cont au=>iC m s r au
   | .ok .brk au=>.ok .nx au
   | .ok (.ret rv) au=>.ok (.ret rv) au
   | .ex x au=>.ex x au
   | .st=>.st
 | .ex x ah=>.ex x ah
 | .st=>.st:=by
 show rM m s (iC m s r) d Γ=_
 unfold rM M.bind
 cases lu (m d) Γ with
 |ok a ah =>
   dsimp only
   cases s ah with
   |ok fl au=>cases fl<;>rfl
   |ex _ _=>rfl
   |st=>rfl
 |ex _ _=>rfl
 |st=>rfl
@[simp] theorem yM:ly f Γ=M.bind f (fun rv=>M.bind (mat rv) fun d=>match d with
 | .lst ds=>M.pure ds
 | .bL ns=>M.pure (ns.map D.int)
 | _=>M.st) Γ:=(rfl)
@[simp] theorem yN:tupI f Γ=M.bind f (fun rv=>M.bind (mat rv) fun d=>match d with
 | .tup ds=>M.pure ds
 | _=>M.st) Γ:=(rfl)
@[simp] theorem yO:rL fs Γ=M.bind fs (fun rvs=>M.bind (b8 rvs) fun ds=>match ds with
 | [.lst ds]=>M.pure (mf ds)
 | _=>M.st) Γ:=(rfl)
@[simp] theorem yP:me fs Γ=M.bind fs (fun rvs=>match rvs with
 | [.val (.int j)]=>if small j then M.pure (hW 0 j.toNat) else M.st
 | _=>M.st) Γ:=(rfl)
@[simp] theorem u6{G:List D->Option Rt}:dA G fs Γ=M.bind fs (fun rvs=>M.bind (cL rvs) fun ds=>match G ds with
 |some r=>if rvs.any jn && !gn r then M.bind (b8 rvs) fun ds'=>M.cH ((G ds').map Rt.rv) else M.pure r.rv
 |none=>M.st) Γ:=(rfl)
@[simp] theorem u7{G:GI}:fA G fs Γ=M.bind fs (fun rvs=>match rvs with
 | .var i::r=>M.bind (b8 r) fun ds=>uV i G ds
 | _=>M.st) Γ:=(rfl)
@[simp] theorem D4{G:GI}{ds:List D}:uV i G ds Γ=match Γ[i]? with
 |some (some (kd,.lst bq))=>if owned kd then match G bq ds with
   |some (r,out)=>.ok r.rv (Γ.set i (some (kd,.lst out)))
   |none=>.st else .st
 | _=>.st:=(rfl)
@[simp] theorem D5:(Rt.val d).rv = .val d:=(rfl)
@[simp] theorem D6:(Rt.new d).rv = .new d:=(rfl)
@[simp] theorem D7:jn (.val d)=false:=(rfl)
@[simp] theorem yQ:jn (.var i)=true:=(rfl)
end
@[simp] theorem Lk{i j:Int}(h:0<j):jI (.int i) (.int j)=some (.val (.int (i % j))):=by
 show(if cd (0<j)=true then _ else _)=_
 rw[if_pos (jH h)]
@[simp] theorem pW{i j:Int}(h:0<j)(h':j<1073741824):uA (.int i) (.int j)=some (.val (.int (i / j))):=by
 show(if cd (0<j/\j<1073741824)=true then _ else _)=_
 rw[if_pos (jH ⟨h,h'⟩)]
@[irreducible] noncomputable def u9:Int:=1000000000000000000
theorem D8:nv (.int 10) (.int 18)=some (.val (.int u9)):=by
 show(if cd ((0:Int)<=18/\(18:Int)<=1000000/\(10:Int).natAbs<2 ^ 64)=true then some (RV.val (.int (10 ^ (18:Int).toNat))) else none)=_
 rw[if_pos (jH (by decide))]
 have:(10:Int) ^ (18:Int).toNat=u9:=by unfold u9;decide +kernel
 rw[this]
@[simp] theorem D9{g:Int->Int->D}{i j:Int}:pK g (.int i) (.int j)=some (.val (g i j)):=(rfl)
@[simp] theorem yR{i j:Int}:dU (.int i) (.int j)=some (.val (.int (i+j))):=(rfl)
@[simp] theorem yS{xs ys:List D}(h:xs.length+ys.length<=sizeLine):dU (.lst xs) (.lst ys)=some (.new (.lst (xs++ys))):=by
 show(if _ then _ else _)=_
 rw[if_pos h]
@[simp] theorem D_{i j:Int}(h:ou i j=true):lh (.int i) (.int j)=some (.val (.int (i * j))):=by
 show(if _ then _ else _)=_
 rw[if_pos h]
@[simp] theorem Ll{d:D}:rf d .ao=some (.val (.bl (isNone d))):=(rfl)
@[simp] theorem yT{xs:List D}:j7 [.lst xs]=some (.val (.int xs.length)):=(rfl)
@[simp] theorem yU{xs:List D}:j7 [.tup xs]=some (.val (.int xs.length)):=(rfl)
@[simp] theorem yV{xs:List Int}:j7 [.bL xs]=some (.val (.int xs.length)):=(rfl)
@[simp] theorem Ea{xs:List D}{i:Int}:c9 (.lst xs) (.int i)=(L2.cA xs i).map .val:=(rfl)
@[simp] theorem Eb{xs:List D}{i:Int}:c9 (.tup xs) (.int i)=(L2.cA xs i).map .val:=(rfl)
@[simp] theorem Ec{xs:List Int}{i:Int}:c9 (.bL xs) (.int i)=(L2.cA xs i).map fun n=>.val (.int n):=(rfl)
@[simp] theorem Ed{i:Int}:oA (.int i)=some (.val (.int (-i))):=(rfl)
@[simp] theorem yW{xs:List D}{lo hi:Option Int}:lV (.lst xs) lo hi=some (.new (.lst (i4 xs lo hi))):=(rfl)
@[simp] theorem Ee{i j:Int}:rg [.int i,.int j]=some (.val (.int (if j > i then j else i))):=(rfl)
@[simp] theorem Ef{i j:Int}:rh [.int i,.int j]=some (.val (.int (if j<i then j else i))):=(rfl)
@[simp] theorem yX{k:Bool}:oz [.bl k]=some (.val (.int (if k then 1 else 0))):=(rfl)
@[simp] theorem yY{xs:List D}:pP [.lst xs]=some (.new (.lst xs)):=(rfl)
@[simp] theorem yZ{T:Ty}{xs:List D}:rk T (.tup xs)=some (.val (.bl (hV T (.tup xs)))):=(rfl)
@[simp] theorem y_{T:Ty}{i:Int}:rk T (.int i)=some (.val (.bl (hV T (.int i)))):=(rfl)
@[simp] theorem za{T:Ty}:rk T .ao=some (.val (.bl (hV T .ao))):=(rfl)
@[simp] theorem zb{j:Int}(h : -4611686018427387904<=j/\j<4611686018427387904):small j=true:=jH (by omega)
theorem oG{i j:Int}(h : -18446744073709551616<i/\i<18446744073709551616):ou i j=true:=jH (.inl (by omega))
theorem Eg{m:D->M Unit}{s:M Fl}(I:Nat->En->Prop){ds:List D}{Γ:En}(h0:I 0 Γ)
 (step:∀ (i:Nat) (d:D) (Γ:En),ds[i]? = some d->I i Γ->∃ ah au,m d Γ = .ok () ah/\(s ah = .ok .nx au\/s ah = .ok .cont au)/\I (i+1) au):∃ Γ',iC m s ds Γ = .ok .nx Γ'/\I ds.length Γ':=by
 induction ds generalizing Γ I with
 |nil=>exact⟨Γ,rfl,h0⟩
 |cons d r ih =>
   obtain⟨ah,au,h1,h2,h3⟩:=step 0 d Γ rfl h0
   obtain⟨Γ',h4,h5⟩:=ih (fun i=>I (i+1)) h3 fun i d Γ hd hi=>step (i+1) d Γ (by simpa using hd) hi
   refine⟨Γ',?_,h5⟩
   rw[u5,Lf,h1]
   rcases h2 with h2 | h2<;>simp only[h2]<;>exact h4
end Dv
namespace Dv
open PySem L2 Ex
variable[KC]
noncomputable def mC(d e:D):Option RV:=match d,e with
 | .lst xs,.int k=>if cd (-(2 ^ 63)<=k/\k<2 ^ 63/\xs.length * k.toNat<=sizeLine) then some (.new (.lst (List.replicate k.toNat xs).flatten)) else none
 | _,_=>none
theorem aB.rep{R:Hp}{xs:List V}{ds:List D}(h:aB R xs ds):∀ k:Nat,aB R (List.replicate k xs).flatten (List.replicate k ds).flatten
 | 0=>.nil
 |k+1=>by
   rw[List.replicate_succ,List.replicate_succ,List.flatten_cons,List.flatten_cons]
   exact h.app (aB.rep h k)
theorem Eh:dw Cy mC:=by
 intro R H x y d e rv Q s px py hg q
 unfold mC at hg
 split at hg
 · split at hg
   · rename_i c
     cases hg
     obtain⟨c1,c2,c3⟩:=lg c
     obtain⟨a,xs,rfl,h1,h2⟩:=px.lst s
     refine⟨a,_,xs,rfl,py.int,h1,c1,c2,by rw[h2.len];exact c3,fun p hp=>?_⟩
     obtain⟨al,rv⟩:=lT s hp (h2.rep _)
     exact q _ _ _ al rv
   · cases hg
 · cases hg
section
variable{X:Cx}{EE:a9}{ios:List Addr}{pos:Pos}
theorem Lm{R H:Hp}{p:Addr}(s:ae R H)(hp:H p=none):Al R H (upd R p (.dK [])) (upd H p (.dK []))/\iX (upd R p (.dK [])) H (upd H p (.dK [])) (.ref p) (.val (.gk [] [])):=by
 have hr:R p=none:=s.free hp
 refine⟨⟨fun b o e=>?_,ix hr,ix hp,fun b o e r=>?_⟩,.gu cJ⟩
 · by_cases hb:b=p
   · subst hb;rw[cJ] at e ⊢;exact e
   · rw[aV hb] at e ⊢;exact s b o e
 · rw[aV (eR e hp)];exact r
noncomputable def Ln:TE:=fun _ H Q=>∀ p,H p=none->Q (.ref p) (upd H p (.dK []))
theorem Lo:PE X (.Dict [] [] pos) Ln:=by
 intro pins s σ H Q I h
 refine wpAny_Dict_empty ⟨.ref s.heap.objs.size,upd H s.heap.objs.size (.dK []),?_,rfl,h _ I.fresh⟩
 refine Inv.laid (t':=s.toks) I (fun _ _ q=>Heap.get?_push_of_some _ q) (Nat.le_refl _) ?_
 have m:mainGlobals<s.heap.objs.size:=Heap.Ns.lt (I.mod.glob.keeps I.bk)
 refine⟨Nat.zero_le _,beq_eq_false_iff_ne.mpr (fun z=>?_),[],.nil,Heap.DictOf.new _⟩
 rw[z] at m
 exact absurd m (by decide)
theorem Lp:VE X EE ios (.Dict [] [] pos) (M.pure (.val (.gk [] []))):=by
 refine⟨_,Lo,fun σ H R Γ Q er w=>fun p hp=>?_⟩
 obtain⟨al,rv⟩:=Lm er.sub hp
 exact w _ _ _ ((aM.refl er).al al) (rv.rv ((aM.refl er).back er))
end
end Dv
namespace L2
open PySem PySem.Spec PyProof.Rows Ex
section
variable{X:Cx}
theorem Lq{P:Program}{w:World}{H:Hp}{h:Heap}{b:Addr}(ok:bZ P w H h)(e:H b=some (.dK [])):Reads h (.ref b) (.dict []) [b]/\b≠sysModules:=by
 obtain⟨_,ns,vs,kv,o,es,ep,g,ex,dt,_,pr,_⟩:=ok _ _ e
 cases kv
 have z:es.toList=[]:=by
  cases q:es.toList with
  |nil=>rfl
  |cons a r=>rw[q] at pr;cases pr
 refine⟨?_,fun z=>by rw[z] at ns;exact absurd ns (by decide)⟩
 have R:Reads h (.ref b) (.dict []) (b::[]++[]):=.dict g ex.1 dt (by rw[z];exact .nil) (by rw[z];exact .nil)
 exact R
theorem gA:aS X (.builtin "repr") (fun xs H Q=>∃ i:Int,xs=[.int i]/\i.natAbs.log2<1920/\Q (.str (toString i)) H):=by
 intro pins s σ H xs us Q I r h
 obtain⟨i,rfl,hi,q⟩:=h
 obtain⟨u,rfl,ru⟩:=r.one
 obtain⟨t,rfl⟩:=ru
 exact PySem.P.repr_of_int hi ⟨.str (toString i),H,I.kept (fun _ _ e=>e),⟨_,rfl⟩,q⟩
end
end L2
namespace Dv
open PySem L2 Ex
section
variable{Γ Γ':En}{f g k l:M RV}{fs:M (List RV)}{p q:M Bool}{d:D}{i j:Nat}{m:D->M Unit}{fr:List Nat}{own:Nat}
@[simp] theorem zc{items:M (List D)}:jJ items fr own m p f Γ=M.bind items (fun ds=>if ds.length<sizeLine then M.bind (c_ fr own m p f ds) fun ys=>M.pure (.new (.lst ys)) else M.st) Γ:=(rfl)
@[simp] theorem Ei:j9 m p f d Γ=M.bind (lu (m d)) (fun _=>M.bind p fun b=>if b then M.bind f fun rv=>M.bind (mat rv) fun y=>M.pure (some y) else M.pure none) Γ:=(rfl)
theorem Ej(F:D->Option D):∀ (ds:List D),(∀ d∈ds,∃ bQ,j9 m p f d (bW fr own Γ) = .ok (F d) bQ/\aF fr own Γ bQ=Γ)->c_ fr own m p f ds Γ = .ok (ds.filterMap F) Γ
 | [],_=>rfl
 |d::r,h=>by
   obtain⟨bQ,h1,h2⟩:=h d (List.mem_cons_self ..)
   have ih:=Ej F r fun d hd=>h d (List.mem_cons_of_mem _ hd)
   unfold c_
   rw[h1]
   simp only[h2,ih]
   cases e:F d<;>simp[List.filterMap_cons,e]
theorem Lr(F:D->D){ds:List D}(h:∀ d∈ds,∃ bQ,j9 m p f d (bW fr own Γ) = .ok (some (F d)) bQ/\aF fr own Γ bQ=Γ):c_ fr own m p f ds Γ = .ok (ds.map F) Γ:=by
 rw[Ej (fun d=>some (F d)) ds h]
 exact congrArg (fun z=>Res.ok z Γ) (by induction ds with
  |nil=>rfl
  |cons a r ih=>rw[List.filterMap_cons,List.map_cons,ih fun d hd=>h d (List.mem_cons_of_mem _ hd)])
end
end Dv
namespace L2
open PySem PySem.Spec PyProof.Rows Ex
section
variable{X:Cx}{EE:a9}{k:Nat}{f:Addr}{fd:FuncData}{ps:List Str}{sp:Sp}{dvs:List V}{ds:List Value}{x:Str}{p pos:Pos}{e:Expr}{es:List Expr}{t:TA}
noncomputable def oH(sp:Sp)(dvs:List V)(EE:a9)(t:TA):TE:=fun σ H Q=>t σ H fun vs H1=>sp (vs++dvs) H1 Q (EE σ)
theorem Ls{pins:List (Addr×Obj)}{σ:St}{H:Hp}{s:Shared}{Q:VK}{us:List Value}{vs:List V}(F:a8 X.prog X.w X.K X.mg X.base (fP X.prog X.w) k f fd ps sp)(hr:ax k X.A)(hb:Binds X.K fd ps ds)(hd:Vals dvs ds)(hX:XOk X EE)
 (I:Inv X pins σ H s) (r:Vals vs us) (h:sp (vs++dvs) H Q (EE σ)):wpAny (model X.prog X.w) X.A (call (.ref f) us) (EP X pins σ Q) X.xe s:=by
 have r2:Vals (vs++dvs) (us++ds):=r.append hd
 have hl:(us++ds).length=ps.length:=by rw[<- r2.length];exact F.len _ _ _ _ h
 refine wpAny_call (codeAny_mono (F.run X.A X.stack s H ⟨us,[]⟩ (us++ds) (vs++dvs) Q (EE σ) hr I.env0 (hb s us I.bf hl) r2 h) fun r s' hq=>?_)
 cases r with
 |error e=>exact xm hX I hq
 |ok fl =>
   cases fl with
   |ret u=>exact I.after hq
   |next=>exact False.elim hq
   |brk=>exact False.elim hq
   |cont=>exact False.elim hq
theorem Lu(F:a8 X.prog X.w X.K X.mg X.base (fP X.prog X.w) k f fd ps sp)(hr:ax k X.A)(hg:Gl X x)(hm:X.mg x=some (.ref f))(hk:W.keepIn X.K (.ref f)=true)(hb:Binds X.K fd ps ds)(hd:Vals dvs ds)(hX:XOk X EE)
 (ha:PA X (e::es) t) (hdb:(x == ("__debug__" : Str))=false:=by decide) (he:starEach (e::es) X.env=(false,eval e X.env)::starEach es X.env:=by rfl) (hpl:(backTo pos (starEach es X.env)).any (·.1)=false:=by rfl) :
 PE X (.Call (.Name x p) (e::es) [] pos) (oH sp dvs EE t):=by
 intro pins s σ H Q I h
 refine wpAny_Call_Name_kw (nP I hg hm ?_ hdb)
 refine W.callWith_K (h₀:=X.base) I.ok.mod.m8 hk (aL (ha pos pins s σ H _ I h) fun us s1 ⟨vs,H1,I1,r,q⟩=>⟨I1.bf,?_⟩) he hpl
 exact Ls F hr hb hd hX I1 r q
theorem u_{X:Cx}:XOk X (fun _ _ _ _=>False):=fun _ _ _ _ _ _ _ _ h=>h.elim
end
end L2
namespace Dv
open PySem L2 Ex
variable[KC]
section
variable{X:Cx}{EE:a9}{ios:List Addr}{e a b c:Expr}{es:List Expr}{f g:M RV}{fs:M (List RV)}{p:M Bool}{s s':M Fl}{st:Stmt}{sts e_:List Stmt}{pos:Pos}
inductive Rx where
 |ok (r:Rt) | ex (x:Xc)
noncomputable def Lv(R H:Hp)(r:Option Rx)(Q:VK)(E:XK):Prop:=match r with
 |some (.ok r)=>∀ x H' R',Al R H R' H'->iX R' H H' x r.rv->Q x H'
 |some (.ex x)=>∀ e H' R',Al R H R' H'->k9 R' H H' e x->E (.ref (KC.cls x.C)) (some e) H'
 |none=>False
noncomputable def oI(G:List D->Option Rx):Sp:=fun vs H Q E=>∃ R ds,ae R H/\aB R vs ds/\Lv R H (G ds) Q E
noncomputable def pX:Res Fl->Option Rx
 | .ex x _=>some (.ex x)
 |r=>(b6 r).map .ok
theorem Lw{N:List Str}{R H:Hp}{σ:St}{ds:List D}{fl:Fl}{Γ':En}{r:Rt}{Q:VK}(fin:b6 (.ok fl Γ')=some r)(h3:∀ x H' R',Al R H R' H'->iX R' H H' x r.rv->Q x H'):nB ios R H σ (gam N ds) { nx:=fun _ H'=>Q .ao H',rt:=Q } fl Γ':=by
 intro ay H' R' p
 cases fl with
 |brk=>cases fin
 |cont=>cases fin
 |nx=>cases fin;exact h3 .ao H' R' p.al .ao
 |ret rv =>
   intro y hy
   cases rv with
   |val d=>cases fin;exact h3 y H' R' p.al hy
   |new d=>cases fin;exact h3 y H' R' p.al hy
   |var i =>
     have fin:(match Γ'[i]? with
      |some (some (.own,d))=>some (Rt.new d)
      |some (some (.ak,d))=>some (.val d)
      | _=>none)=some r:=fin
     split at fin
     · rename_i d hs
       cases fin
       obtain⟨v,hv,sl⟩:=p.er.sl i _ hs
       have hy:ay[i]? = some (some y):=hy
       rw[hy] at hv
       cases hv
       obtain⟨a,xs,ds',rfl,r1,r2,r3,r4⟩:=sl
       refine h3 _ H' R' p.al ⟨⟨a,xs,ds',rfl,r1,r2,r3,r4⟩,a,rfl,?_⟩
       exact(p.go.oo a ⟨i,.own,d,hs,rfl,hy⟩).elim (fun z=>absurd z uS) id
     · rename_i d hs
       cases fin
       obtain⟨v,hv,sl⟩:=p.er.sl i _ hs
       have hy:ay[i]? = some (some y):=hy
       rw[hy] at hv
       cases hv
       exact h3 _ H' R' p.al sl
     · cases fin
theorem Lx{P:Program}{w:World}{K:W.Frag}{mg:Str->Option Value}{base:Heap}{x qual:Str}{fa:Addr}{fd:FuncData}{N ps:List Str}{k:Nat}{G:List D->Option Rx}{bm:M Fl}(F:jf K x qual st fa fd)(S:aq N ps (aa st))
 (hb:∀ (cdv:Value) (A:Around) (outer:List Env) (s:Shared) (H:Hp) (E:XK),ax k (A.deeper (PyProof.Rows.envOfC qual (aa st) s.heap.objs.size fa cdv))->cD (gj (fP P w) P w K mg base N qual (aa st) fa cdv A outer s H E) (fun _=>E) [] (ag st) bm)
 (h:∀ ds r,G ds=some r->ds.length=ps.length/\pX (bm (gam N ds))=some r):a8 P w K mg base (fP P w) (k+1) fa fd ps (oI G):=by
 obtain⟨oc,od,kV,doc,pm,an,cdv,ct,osl,rfl,lk,hcd⟩:=F.ex
 refine wZ lk hcd S (fun vs H Q E q=>?_) fun A outer s H vs Q E hr q=>?_
 · obtain⟨R,ds,_,h2,h3⟩:=q
   cases e:G ds with
   |none=>rw[e] at h3;exact h3.elim
   |some r=>rw[h2.len];exact(h ds r e).1
 · obtain⟨R,ds,h1,h2,h3⟩:=q
   cases e:G ds with
   |none=>rw[e] at h3;exact h3.elim
   |some r =>
     rw[e] at h3
     obtain⟨t,b1,b2⟩:=hb cdv A outer s H E hr
     refine⟨t,b1,b2 _ H R _ _ (yp h1 h2) ?_⟩
     have fin:=(h ds r e).2
     cases q:bm (gam N ds) with
     |st=>rw[q] at fin;cases fin
     |ex x Γ' =>
       rw[q] at fin
       cases fin
       exact fun e ay H' R' p qx=>h3 e H' R' p.al qx
     |ok fl Γ' =>
       rw[q] at fin
       have fin:(b6 (.ok fl Γ')).map Rx.ok=some r:=fin
       cases q2:b6 (.ok fl Γ') with
       |none=>rw[q2] at fin;cases fin
       |some r' =>
         rw[q2] at fin
         cases fin
         exact mh (Lw q2 h3)
noncomputable def M.thr{α:Type}(x:Xc):M α:=fun Γ=>.ex x Γ
noncomputable def rR(G:List D->Option Rx)(fs:M (List RV)):M RV:=M.bind fs fun rvs=>M.bind (cL rvs) fun ds=>match G ds with
 |some (.ok r)=>if rvs.any jn && !gn r then M.bind (b8 rvs) fun ds'=>match G ds' with
  |some (.ok r)=>M.pure r.rv
  | _=>M.st
   else M.pure r.rv
 |some (.ex x)=>M.bind (b8 rvs) fun ds'=>match G ds' with
  |some (.ex x)=>M.thr x
  | _=>M.st
 |none=>M.st
theorem Ly{G:List D->Option Rx}{e0:Expr}(hp:∀ t,PA X es t->PE X e0 (oH (oI G) [] EE t))(ha:VA X EE ios es fs):VE X EE ios e0 (rR G fs):=by
 obtain⟨t,h1,h2⟩:=ha
 refine⟨_,hp t h1,fun σ H R Γ Q er w=>?_⟩
 unfold rR at w
 rw[ZY] at w
 refine h2 σ H R Γ _ er (aT w (fun rvs ah w xs H1 R1 p1 hx=>?_) fun _ _ z=>z)
 show oI G (xs++[]) H1 Q (EE σ)
 rw[List.append_nil]
 rw[ZY] at w
 obtain⟨ds,q,w⟩:=yt w
 obtain⟨ds',pk,e⟩:=pN (K:=fun ds' _=>ds'=ds) (E:=fun _ _=>False) p1.er hx (by rw[q];exact rfl)
 subst e
 cases hG:G ds' with
 |none=>rw[hG] at w;exact False.elim w
 |some rx =>
   rw[hG] at w
   cases rx with
   |ex x =>
     have w:bx (M.bind (b8 rvs) (fun ds'=>match G ds' with
      |some (.ex x)=>M.thr x
      | _=>M.st) ah) _ _:=w
     rw[ZY] at w
     obtain⟨fb,au,R2,p2,s2,r2,w⟩:=ji er p1 hx w
     refine⟨R2,fb,p2.er.sub,r2,?_⟩
     cases ki:G fb with
     |none=>rw[ki] at w;exact False.elim w
     |some ry =>
       rw[ki] at w
       cases ry with
       |ok r=>exact False.elim w
       |ex y=>exact fun e H' R' al xr=>w e H' R' (p2.al al) (xr.back p2.since)
   |ok r =>
     dsimp only at w
     by_cases hv:rvs.any jn=true
     · by_cases fW:gn r=true
       · rw[hv,fW] at w
         have w:∀ x H' R',aM ios R H σ Γ R' H' ah->dS R' H H' σ x r.rv->Q x H':=w
         refine⟨lent (Ow σ ah) R1 H1,ds',uT p1.er.sub,Pks.lent p1.er hx pk q,?_⟩
         rw[hG]
         intro x H' R' al ra
         have ow:∀ b,Ow σ ah b->R1 b=none/\∃ xs,H1 b=some (.lst xs):=fun b z=>p1.er.ow z
         have un:∀ b, ¬ Ow σ ah b->cq (Ow σ ah) R' b=R' b:=fun b z=>by unfold cq;rw[if_neg z]
         have un':∀ b,Ow σ ah b->cq (Ow σ ah) R' b=none:=fun b z=>by unfold cq;rw[if_pos z]
         have tup:∀ b ys,R' b=some (.tup ys)->cq (Ow σ ah) R' b=some (.tup ys):=fun b ys z=>by
          rw[un b]
          · exact z
          · intro o
            obtain⟨_,zs,hz⟩:=ow b o
            have:=al.sub _ _ z
            rw[al.hh _ _ hz] at this
            cases this
         have rr:ae R1 (cq (Ow σ ah) R'):=fun b o z=>by
          have nb : ¬ Ow σ ah b:=fun q=>by rw[(ow b q).1] at z;cases z
          rw[un b nb]
          apply al.rr
          unfold lent
          rw[if_neg nb]
          exact z
         have no:∀ b o,H1 b=some o->R1 b=none->cq (Ow σ ah) R' b=none:=fun b o hb rb=>by
          by_cases nb:Ow σ ah b
          · exact un' b nb
          · rw[un b nb]
            apply al.no b o hb
            unfold lent
            rw[if_neg nb]
            exact rb
         have al':Al R1 H1 (cq (Ow σ ah) R') H':=⟨fun b o z=>by
          by_cases nb:Ow σ ah b
          · rw[un' b nb] at z;cases z
          · rw[un b nb] at z;exact al.sub b o z,rr,al.hh,no⟩
         refine w x H' _ (p1.al al') ?_
         cases r with
         |val d=>exact Rp.less tup ra fW
         |new d =>
           cases d with
           |lst zs =>
             obtain⟨⟨a,ys,fb,rfl,r1,r2,r3,r4⟩,a',ea,hf⟩:=ra
             cases ea
             cases r3
             refine⟨⟨a,ys,zs,rfl,?_,r2,rfl,r4.less tup fW⟩,a,rfl,p1.back er a hf⟩
             by_cases nb:Ow σ ah a
             · exact un' a nb
             · rw[un a nb];exact r1
           | _=>cases fW
       · have fW:gn r=false:=by cases z:gn r<;>simp_all
         rw[hv,fW] at w
         have w:bx (M.bind (b8 rvs) (fun ds'=>match G ds' with
          |some (.ok r)=>M.pure r.rv
          | _=>M.st) ah) _ _:=w
         rw[ZY] at w
         obtain⟨fb,au,R2,p2,s2,r2,w⟩:=ji er p1 hx w
         refine⟨R2,fb,p2.er.sub,r2,?_⟩
         cases ki:G fb with
         |none=>rw[ki] at w;exact False.elim w
         |some r' =>
           rw[ki] at w
           cases r' with
           |ex y=>exact False.elim w
           |ok r'=>exact fun x H' R' al ra=>w x H' R' (p2.al al) (ra.rv (p2.back er))
     · have hv:rvs.any jn=false:=by cases z:rvs.any jn<;>simp_all
       rw[hv] at w
       have w:∀ x H' R',aM ios R H σ Γ R' H' ah->dS R' H H' σ x r.rv->Q x H':=w
       refine⟨R1,ds',p1.er.sub,DE hx hv q,?_⟩
       rw[hG]
       exact fun x H' R' al ra=>w x H' R' (p1.al al) (ra.rv (p1.back er))
noncomputable def va(P:Program)(w:World)(mg:Str->Option Value)(base:Heap)(x:Str)(k:Nat)(ps:List Str)(sp:Sp):Prop:=∃ f fd,a8 P w KC.K mg base (fP P w) k f fd ps sp/\mg x=some (.ref f)/\W.keepIn KC.K (.ref f)=true/\Binds KC.K fd ps []
theorem Lz{G:List D->Option Rx}{x:Str}{k:Nat}{ps:List Str}{p0:Pos}(hX:XOk X EE)(C:va X.prog X.w X.mg X.base x k ps (oI G))(hr:ax k X.A)(hg:Gl X x)(ha:VA X EE ios (e::es) fs)(hK:X.K=KC.K:=by rfl)(hdb:(x == ("__debug__" : Str))=false:=by decide)
 (he:starEach (e::es) X.env=(false,eval e X.env)::starEach es X.env:=by rfl) (hpl:(backTo pos (starEach es X.env)).any (·.1)=false:=by rfl):VE X EE ios (.Call (.Name x p0) (e::es) [] pos) (rR G fs):=by
 obtain⟨f,fd,F,hm,hk,hb⟩:=C
 rw[<- hK] at F hk hb
 exact Ly (fun t h=>Lu F hr hg hm hk hb .nil hX h hdb he hpl) ha
theorem LA{P:Program}{w:World}{mg:Str->Option Value}{base:Heap}{x:Str}{k:Nat}{N ps:List Str}{G:List D->Option Rx}{bm:M Fl}(A0:At mg x st)(S:aq N ps (aa st))
 (bd:∀ (kV doc pm:Value) (an:Option Addr) (cdv ct:Value) (us:List Value),us.length=ps.length->bindArgs (W.fnOf x x (aW st) (ag st) (aa st) .none kV doc pm an cdv ct) ⟨us,[]⟩=pure (ps.zip us))
 (hb:∀ (fa:Addr) (cdv:Value) (A:Around) (outer:List Env) (s:Shared) (H:Hp) (E:XK),ax k (A.deeper (PyProof.Rows.envOfC x (aa st) s.heap.objs.size fa cdv))->cD (gj (fP P w) P w KC.K mg base N x (aa st) fa cdv A outer s H E) (fun _=>E) [] (ag st) bm)
 (h:∀ ds r,G ds=some r->ds.length=ps.length/\pX (bm (gam N ds))=some r):va P w mg base x (k+1) ps (oI G) :=
 let ⟨f,fd,F,hm,hk⟩:=A0
 ⟨f,fd,Lx F S (hb f) h,hm,hk,F.binds bd⟩
noncomputable def oJ(n:Nat)(N:List Str)(bm:M Fl):List D->Option Rx:=fun ds=>if ds.length=n then pX (bm (gam N ds)) else none
theorem LB{n:Nat}{N:List Str}{bm:M Fl}{ds:List D}{r:Rx}(h:oJ n N bm ds=some r):ds.length=n/\pX (bm (gam N ds))=some r:=by
 unfold oJ at h
 split at h
 · rename_i c;exact⟨c,h⟩
 · cases h
end
section
variable{X:Cx}{EE:a9}{ios:List Addr}{e a b c:Expr}{es:List Expr}{f g:M RV}{fs:M (List RV)}{p:M Bool}{s s':M Fl}{st:Stmt}{sts e_:List Stmt}{pos cpos p0:Pos}{x:Str}
theorem LC{R H:Hp}{p:Addr}{o:HO}(s:ae R H)(hp:H p=none):Al R H R (upd H p o) :=
 ⟨fun b u e=>by rw[aV (eR (s _ _ e) hp)];exact s _ _ e,ae.refl _,ix hp,fun _ _ _ r=>r⟩
noncomputable def ze(C:Addr)(y:Str):Sp:=fun vs H Q _=>∃ a v fr,vs=[.ref a,v]/\H a=some (bV C a none fr)/\∀ d,H d=none->d≠a->Q .ao (upd (upd H d (jE d [(y,v)])) a (bV C a (some d) fr))
structure Ek(P:Program)(w:World)(mg:Str->Option Value)(base:Heap)(C:Cn)(ps:List Str)(sp:Sp):Prop where
 ex:∃ fI fd,XMk KC.K (KC.cls C) fI/\a8 P w KC.K mg base eK 1 fI fd ps sp/\Binds KC.K fd ps []
 z:qS KC.K (KC.cls C)
noncomputable def oK(C:Cn)(ns:List Str)(fs:M (List RV)):M Fl:=M.bind fs fun rvs=>M.bind (b8 rvs) fun ds=>if ds.length=ns.length/\ds.length<=1000 then M.thr ⟨C,ns.zip ds⟩ else M.st
theorem Em{C:Cn}{y:Str}{k:Nat}(hX:XOk X EE)(I:Ek X.prog X.w X.mg X.base C ["self",y] (ze (KC.cls C) y))(hr:ax k X.A)(hk:2<=k)(hm:X.mg x=some (.ref (KC.cls C)))(ha:VA X EE ios (e::es) fs)(hg:Gl X x:=by rfl)(hc:X.calm=true:=by rfl)(hK:X.K=KC.K:=by rfl)(hdb:(x == ("__debug__" : Str))=false:=by decide)
 (he:starEach (e::es) X.env=(false,eval e X.env)::starEach es X.env:=by rfl) (hpl:(backTo cpos (starEach es X.env)).any (·.1)=false:=by rfl):VS X EE ios (.Raise (some (.Call (.Name x p0) (e::es) [] cpos)) none pos) (oK C [y] fs):=by
 obtain⟨t,h1,h2⟩:=ha
 obtain⟨⟨fI,fd,i1,i2,i3⟩,z⟩:=I
 refine⟨_,JK hX hc (by rw[hK];exact i1) (by rw[hK];exact z) (by rw[hK];exact i2) (hr.mono hk) hg hm (by rw[hK];exact i3) .nil h1 hdb he hpl,fun σ H R Γ D er w=>?_⟩
 unfold oK at w
 rw[ZY] at w
 refine h2 σ H R Γ _ er (aT w (fun rvs ah w xs H1 R1 p1 hx=>?_) fun _ _ z=>z.exp)
 rw[ZY] at w
 obtain⟨ds,au,R2,p2,s2,r2,w⟩:=ji er p1 hx w
 split at w
 · rename_i hl
   obtain⟨hl,hl2⟩:=hl
   match ds,hl with
   | [d],_ =>
     obtain⟨v,rfl,rv⟩:∃ v,xs=[v]/\Rp R2 v d:=by cases r2 with | cons rv r=>cases r;exact⟨_,rfl,rv⟩
     refine⟨by simp,fun a na=>?_⟩
     refine⟨a,v,true,rfl,cJ,fun d' nd ne=>⟨rfl,some d',cJ,?_⟩⟩
     have vb:H1 d'=none:=by rwa[aV ne] at nd
     have fa:R2 a=none:=p2.er.sub.free na
     have fd':R2 d'=none:=p2.er.sub.free vb
     refine w a σ _ R2 (p2.al ⟨fun b u q=>?_,ae.refl _,fun b u q=>?_,fun _ _ _ r=>r⟩).eO ⟨fa,p2.since _ na,.inr ⟨d',[(y,v)],cJ,?_,fd',p2.since _ vb,rfl,.cons rv .nil⟩⟩
     · have q':=p2.er.sub _ _ q
       rw[wx,aV (eR q' na),aV (eR q' vb),aV (eR q' na)];exact q'
     · rw[wx,aV (eR q na),aV (eR q vb),aV (eR q na)];exact q
     · rw[wx,aV ne,cJ]
 · exact False.elim w
noncomputable def LD(EE:a9)(ios:List Addr)(f:M Fl):TS:=fun D σ H=>∃ R Γ,ER ios R H σ Γ/\bx (f Γ) (nB ios R H σ Γ D) (gw EE ios R H σ Γ)
theorem cD.pss(h:cD X EE ios sts s):PSs X sts (LD EE ios s):=let ⟨_,h1,h2⟩:=h;fun pins s σ H D I ⟨R,Γ,er,w⟩=>h1 pins s σ H D I (h2 σ H R Γ D er w)
noncomputable def lD(x:Xc):D:=.ins x.C (x.fs.map (·.1)) (x.fs.map (·.2))
noncomputable def rT(mt:Cn->Bool)(i:Nat)(body suite:M Fl):M Fl:=fun Γ=>match body Γ with
 | .ok fl Γ'=>.ok fl Γ'
 | .ex x Γ'=>if mt x.C then match suite (Γ'.set i (some (.ak,lD x))) with
  | .ok .nx oM=>.ok .nx (oM.set i none)
  | _=>.st
   else .st
 | .st=>.st
theorem bu.ext1{R H R1 H1:Hp}{σ dr:St}{Γ ah:En}{a:Addr}(p:bu ios R H σ Γ R1 H1 dr ah)(ra:R1 a=none)(h0:H a=none)(no : ¬ Ow dr ah a):bu ios R H σ Γ (ext R1 H1 a) H1 dr ah:=by
 have rr:ae R1 (ext R1 H1 a):=pE ra
 refine⟨⟨uu p.er.sub,p.er.len,fun j t hj=>?_,p.er.dj⟩,⟨p.go.rr.trans rr,p.go.hh,fun b o hb nb rb=>?_,p.go.oo,p.go.th⟩⟩
 · obtain⟨v,hv,s⟩:=p.er.sl j t hj
   refine⟨v,hv,s.mono rr fun ho b ys eb hb rb=>⟨hb,?_⟩⟩
   rw[k7]
   · exact rb
   · rintro rfl
     subst eb
     exact no ⟨j,t.1,t.2,hj,ho,hv⟩
 · rw[k7]
   · exact p.go.no b o hb nb rb
   · rintro rfl
     rw[h0] at hb;cases hb
theorem LF{σ:St}{Γ:En}{i:Nat}{b:Addr}(h:Ow (σ.set i none) (Γ.set i none) b):Ow σ Γ b:=by
 obtain⟨j,k,d,h1,h2,h3⟩:=h
 by_cases hj:j=i
 · subst hj
   rw[List.getElem?_set] at h1
   simp at h1
 · rw[List.getElem?_set_ne (Ne.symm hj)] at h1 h3
   exact⟨j,k,d,h1,h2,h3⟩
theorem bu.unset{R H:Hp}{σ:St}{Γ:En}{i:Nat}(er:ER ios R H σ Γ):bu ios R H σ Γ R H (σ.set i none) (Γ.set i none):=by
 have ne:∀ {j:Nat} {t:Kd×D},(Γ.set i none)[j]? = some (some t)->j≠i/\Γ[j]? = some (some t):=fun {j t} h=>by
  by_cases hj:j=i
  · subst hj
    rw[List.getElem?_set] at h
    simp at h
  · exact⟨hj,by rwa[List.getElem?_set_ne (Ne.symm hj)] at h⟩
 refine⟨⟨er.sub,by rw[List.length_set,List.length_set];exact er.len,fun j t hj=>?_,fun j j' l l' d d' b q1 q2 q3 q4 q5 q6=>?_⟩,⟨ae.refl _,fun _ _ h _=>h,fun _ _ _ _ r=>r,fun b z=>.inl (LF z),fun b o h=>⟨o,h⟩⟩⟩
 · obtain⟨n1,n2⟩:=ne hj
   obtain⟨v,hv,s⟩:=er.sl j t n2
   exact⟨v,by rw[List.getElem?_set_ne (Ne.symm n1)];exact hv,s⟩
 · obtain⟨n1,n2⟩:=ne q1
   obtain⟨m1,m2⟩:=ne q3
   rw[List.getElem?_set_ne (Ne.symm n1)] at q5
   rw[List.getElem?_set_ne (Ne.symm m1)] at q6
   exact er.dj j j' l l' d d' b n2 q2 m2 q4 q5 q6
theorem caught{R H R1 H1:Hp}{σ dr:St}{Γ ah:En}{x:Xc}{e:Addr}(p:bu ios R H σ Γ R1 H1 dr ah)(h:k9 R1 H H1 e x):∃ R2,bu ios R H σ Γ R2 H1 dr ah/\Rp R2 (.ref e) (lD x):=by
 obtain⟨re,h0,h⟩:=h
 have no:∀ b (o:HO),H1 b=some o->(∀ xs,o ≠ .lst xs) -> ¬ Ow dr ah b:=fun b o hb hn z=>by
  obtain⟨_,xs,q⟩:=p.er.ow z
  rw[hb] at q
  cases q
  exact hn xs rfl
 rcases h with ⟨hf,he⟩ | ⟨d,fs,he,hd,rd,d0,hn,hv⟩
 · refine⟨ext R1 H1 e,p.ext1 re h0 (no e _ he (by intro xs z;cases z)),?_⟩
   unfold lD
   rw[hf]
   exact .fS (by rw[lR];exact he)
 · have p2:=p.ext1 re h0 (no e _ he (by intro xs z;cases z))
   have s2:ae R1 (ext R1 H1 e):=pE re
   by_cases ed:d=e
   · subst ed
     refine⟨_,p2,?_⟩
     unfold lD
     rw[<- hn]
     exact .exc (by rw[lR];exact he) (by rw[lR];exact hd) (hv.sm s2)
   · have Eo:ext R1 H1 e d=none:=by rw[k7 ed];exact rd
     have s3:ae (ext R1 H1 e) (ext (ext R1 H1 e) H1 d):=pE Eo
     refine⟨_,p2.ext1 Eo d0 (no d _ hd (by intro xs z;cases z)),?_⟩
     unfold lD
     rw[<- hn]
     exact .exc (by rw[k7 (Ne.symm ed),lR];exact he) (by rw[lR];exact hd) (hv.sm (s2.trans s3))
theorem LG{K:W.Frag}{cs:List Value}{i:Nat}{tb:a9->TS}{ts:TS}{mt:Cn->Bool}(hm:∀ C,mt C=true->aQ K (KC.cls C) cs=some true)(hb:∀ nH,l_ nH ios (tb nH) s)(hs:l_ EN ios ts s'):l_ EE ios (CS K cs i tb ts) (rT mt i s s'):=by
 intro σ H R Γ D er w
 unfold rT at w
 refine hb _ σ H R Γ D er ?_
 cases h:s Γ with
 |st=>rw[h] at w;exact w
 |ok fl Γ'=>rw[h] at w;exact w
 |ex x Γ' =>
   rw[h] at w
   dsimp only at w
   split at w
   · rename_i c
     intro e dr H1 R1 p xr
     refine⟨e,KC.cls x.C,rfl,rfl,hm _ c,?_⟩
     obtain⟨R2,p2,rp⟩:=caught p xr
     have p3:bu ios R H σ Γ R2 H1 (dr.set i (some (.ref e))) (Γ'.set i (some (.ak,lD x))):=p2.trans (bu.set (s:=(.ak,lD x)) p2.er (aM.refl p2.er) rp fun z=>nomatch z)
     refine hs _ H1 R2 _ _ p3.er ?_
     cases h2:s' (Γ'.set i (some (.ak,lD x))) with
     |st=>rw[h2] at w;exact w.elim
     |ex _ _=>rw[h2] at w;exact w.elim
     |ok fl au =>
       rw[h2] at w
       cases fl with
       |nx =>
         intro cW H4 R4 p4
         exact w (cW.set i none) H4 R4 ((p3.trans p4).trans (bu.unset p4.er))
       |brk=>exact w.elim
       |cont=>exact w.elim
       |ret _=>exact w.elim
   · exact w.elim
theorem LH{i:Nat}{n:Str}{cs:List Value}{k1 p1 hpos}{b0:Stmt}{suite:List Stmt}{mt:Cn->Bool}(hN:X.N.Nodup)(hi:X.N[i]? = some n)(hl:X.env.scope.names.lookup n=some .local)(hes:PN X es cs)(hcs:cs.length<=1000)(hm:∀ C,mt C=true->aQ KC.K (KC.cls C) cs=some true)
 (hb:∀ E' pn' nH,XOk (X.body E' pn') nH->cD (X.body E' pn') nH ios sts s) (hs:∀ a,cD (X.hand (.ref a) fun _ _=>False) EN ios (b0::suite) s') (hst:X.stack=X.env::X.outer/\X.env.frame=some X.env.locals:=by exact⟨rfl,rfl⟩) (hK:X.K=KC.K:=by rfl) :
 VS X EE ios (.Try sts [.ExceptHandler (some (.Tuple es k1 p1)) (some n) (b0::suite) hpos] [] [] pos) (rT mt i s s') :=
 ⟨_,J0 hst hN hi hl hes hcs (fun E' pn' nH ok=>(hb E' pn' nH ok).pss) (fun a=>(hs a).pss),LG (by rw[hK];exact hm) (fun nH σ H R Γ D er w=>⟨R,Γ,er,w⟩) fun σ H R Γ D er w=>⟨R,Γ,er,w⟩⟩
noncomputable def sub(C T:Cn):Bool:=C == T || (T == .PointError && (match C with
 | .NoPoints | .NoBox | .NoAsks | .NoRun | .NoText | .NoTurn | .NoTree | .NoTop | .NotServed | .NoRow=>true
 | _=>false))
noncomputable def Ep(L:List Cn)(T:Cn):D->Option RV
 | .bL _=>none
 | .obj _ _ _=>none
 | .ins C _ _=>if L.contains C then some (.val (.bl (sub C T))) else none
 | _=>some (.val (.bl false))
noncomputable def gp(L:List Cn)(T:Cn)(f:M RV):M RV:=M.bind (j6 f) fun x=>M.bind (peek x) fun d=>M.cH (Ep L T d)
noncomputable def mD:List String:=["NoneType","bool","int","str","list","tuple","dict"]
structure KitX(L:List Cn)(T:Cn):Prop where
 own:∀ C,L.contains C=true->W.kitOne KC.K (.ref (KC.cls C)) (.ref (KC.cls T))=some (sub C T)/\XC KC.K (KC.cls C)
 no:∀ t∈mD,W.kitOne KC.K (.type t) (.ref (KC.cls T))=some false
theorem LI{d:D}(h:plain d=true):rj d∈mD:=by cases d<;>first | (cases h;done) | simp[rj,mD]
theorem hZ{L:List Cn}{T:Cn}{e0:Expr}(kit:KitX L T)(hp:∀ t,PE X a t->PE X e0 (pj (fun xs H Q=>∃ x c t cv b,xs=[x,c]/\ui c=some cv/\xp X.K H x t/\W.kitOne X.K t cv=some b/\Q (.bl b) H) (jD t (jD (tC (.ref (KC.cls T))) lL))))(ha:VE X EE ios a f)(hK:X.K=KC.K:=by rfl):VE X EE ios e0 (gp L T f):=by
 obtain⟨t,h1,h2⟩:=ha
 refine⟨_,hp t h1,fun σ H R Γ Q er w=>?_⟩
 unfold gp at w
 rw[ZY] at w
 refine uC h2 er (aT w (fun rx ah w x H1 R1 p1 hx=>?_) fun _ _ z=>z)
 rw[ZY] at w
 obtain⟨d,pd,w⟩:=jg (H:=H) p1.er hx.rv w
 have hv:=pd.hv p1.er.sub
 obtain⟨rv,hg,w⟩:=iy w
 by_cases pl:plain d=true
 · have hg:rv = .val (.bl false):=by cases d<;>first | (cases pl;done) | exact(Option.some.inj hg).symm
   subst hg
   exact⟨x,.ref (KC.cls T),_,_,_,rfl,rfl,.inl (hv.ty pl),by rw[hK];exact kit.no _ (LI pl),w _ H1 R1 p1 (.bl _)⟩
 · cases d with
   |ins C ns vs =>
     unfold Ep at hg
     dsimp only at hg
     split at hg
     · rename_i hc
       cases hg
       obtain⟨k1,k2⟩:=kit.own C hc
       have ty:∃ a,x = .ref a/\lQ H1 a (KC.cls C):=by
        cases hv with
        |fS q=>exact⟨_,rfl,false,.inl q⟩
        |exc q q' _=>exact⟨_,rfl,false,.inr ⟨_,_,q,q'⟩⟩
       obtain⟨a',rfl,ea⟩:=ty
       exact⟨.ref a',.ref (KC.cls T),.ref (KC.cls C),_,_,rfl,rfl,.inr ⟨a',KC.cls C,rfl,rfl,ea,by rw[hK];exact k2⟩,by rw[hK];exact k1,w _ H1 R1 p1 (.bl _)⟩
     · cases hg
   |bL _=>cases hg
   |obj _ _ _=>cases hg
   | _=>exact absurd rfl pl
end
section
variable{X:Cx}{EE:a9}{ios:List Addr}{e a b c:Expr}{es:List Expr}{f g:M RV}{fs:M (List RV)}{p:M Bool}{pos p0 p1 p2 pos':Pos}
noncomputable def zf(r:V->List V->Hp->VK->Prop)(g:List D->List D->Option D):Prop:=∀ R H p xs ds ys es res (Q:VK),ae R H->H p=some (.lst xs)->aB R xs ds->aB R ys es->g ds es=some res->(∀ z,Rp R z res->Q z H)->r (.ref p) ys H Q
noncomputable def Er(i:Nat):M Unit:=fun Γ=>match Γ[i]? with
 |some (some (_,.lst _))=>.ok () Γ
 | _=>.st
noncomputable def Es(i:Nat)(g:List D->List D->Option D)(es:List D):M RV:=fun Γ=>match Γ[i]? with
 |some (some (_,.lst ds))=>match g ds es with
   |some r=>.ok (.val r) Γ
   |none=>.st
 | _=>.st
noncomputable def rV(i:Nat)(g:List D->List D->Option D)(fs:M (List RV)):M RV:=M.bind (Er i) fun _=>M.bind fs fun rvs=>M.bind (b8 rvs) fun es=>Es i g es
theorem Et{R H:Hp}{σ:St}{Γ:En}{i:Nat}{kd:Kd}{ds:List D}(er:ER ios R H σ Γ)(q:Γ[i]? = some (some (kd,.lst ds))):∃ a xs,σ[i]? = some (some (.ref a))/\H a=some (.lst xs)/\aB R xs ds:=by
 obtain⟨v,hv,s⟩:=er.sl i _ q
 obtain⟨a,xs,rfl,h1,h2⟩:=s.pk.lst er.sub
 exact⟨a,xs,hv,h1,h2⟩
theorem zg{i:Nat}{r:V->List V->Hp->VK->Prop}{g:List D->List D->Option D}{e0:Expr}(hp:∀ t,PA X es t->PE X e0 (w_ X.K "list" r (m_ i) t))(hv:zf r g)(ha:VA X EE ios es fs):VE X EE ios e0 (rV i g fs):=by
 obtain⟨t,h1,h2⟩:=ha
 refine⟨_,hp t h1,fun σ H R Γ Q er w=>?_⟩
 unfold rV at w
 rw[ZY] at w
 unfold Er at w
 split at w
 · rename_i kd bq q0
   obtain⟨a,xs0,j8,ha0,_⟩:=Et er q0
   refine⟨_,j8,yb ha0,?_⟩
   have w:=nD w
   rw[ZY] at w
   refine h2 σ H R Γ _ er (aT w (fun rvs ah w ys H1 R1 p1 hx=>?_) fun _ _ z=>z)
   rw[ZY] at w
   obtain⟨es',au,R2,p2,s2,r2,w⟩:=ji er p1 hx w
   unfold Es at w
   split at w
   · rename_i PL ds q
     split at w
     · rename_i res hg
       obtain⟨a',xs,rW,h3,h4⟩:=Et p2.er q
       rw[j8] at rW
       cases rW
       exact hv R2 H1 a xs ds ys es' res Q p2.er.sub h3 h4 r2 hg fun z rz=>w z H1 R2 p2 rz
     · exact False.elim w
   · exact False.elim w
 · exact False.elim w
noncomputable def zh(ds es:List D):Option D:=match es with
 | [e]=>if pL e && ds.all pL then some (.int (ds.countP fun z=>pM z e)) else none
 | _=>none
theorem zi{R:Hp}:∀ {xs:List V} {ds:List D},aB R xs ds->xs.all je=ds.all pL
 | _,_,.nil=>rfl
 | _,_,.cons a b=>by rw[List.all_cons,List.all_cons,a.flat,zi b]
theorem Eu{R:Hp}{y:V}{e:D}(r:Rp R y e):∀ {xs:List V} {ds:List D},aB R xs ds->(xs.countP fun z=>iq z y)=ds.countP fun z=>pM z e
 | _,_,.nil=>rfl
 | _,_,.cons a b=>by rw[List.countP_cons,List.countP_cons,Eu r b,a.Di r]
theorem LJ:zf C2 zh:=by
 intro R H p xs ds ys es res Q s hp hx hy hg q
 unfold zh at hg
 split at hg
 · split at hg
   · rename_i c
     cases hg
     rw[Bool.and_eq_true] at c
     cases hy with
     |cons r hy =>
       cases hy
       refine⟨p,xs,_,rfl,rfl,hp,by rw[r.flat];exact c.1,by rw[zi hx];exact c.2,?_⟩
       rw[Eu r hx]
       exact q _ (.int _)
   · cases hg
 · cases hg
noncomputable def vc(ds es:List D):Option D:=match es with
 | [e]=>if pL e && ds.all pL && decide (ds.length<=1000) then (ds.findIdx? fun z=>pM z e).map fun j=>.int j else none
 | _=>none
theorem Ew:zf C3 vc:=by
 intro R H p xs ds ys es res Q s hp hx hy hg q
 unfold vc at hg
 split at hg
 · rename_i e
   split at hg
   · rename_i c
     simp only[Bool.and_eq_true,decide_eq_true_eq] at c
     cases h:ds.findIdx? fun z=>pM z e with
     |none=>rw[h] at hg;cases hg
     |some j =>
       rw[h] at hg
       cases hg
       cases hy with
       |cons r hy =>
         cases hy
         obtain⟨hj,h1,h2⟩:=List.findIdx?_eq_some_iff_getElem.mp h
         have lt:j<xs.length:=by rw[hx.len];exact hj
         have Ey:∀ (m:Nat) (hm:m<xs.length) (hm':m<ds.length),iq xs[m] _=pM ds[m] e:=fun m hm hm'=>by
          obtain⟨d,e1,e2⟩:=hx.at (List.getElem?_eq_getElem hm)
          rw[List.getElem?_eq_getElem hm'] at e1
          cases e1
          exact e2.Di r
         refine⟨p,xs,_,j,rfl,rfl,hp,by rw[r.flat];exact c.1.1,by rw[zi hx];exact c.1.2,⟨xs[j],List.getElem?_eq_getElem lt,by rw[Ey j lt hj];exact h1⟩,fun m w hm hw=>?_,by omega,q _ (.int _)⟩
         have lm:m<xs.length:=by omega
         rw[List.getElem?_eq_getElem lm] at hw
         cases hw
         rw[Ey m lm (by omega)]
         simpa using h2 m hm
   · cases hg
 · cases hg
noncomputable def rX(L:List Cn)(y:Str)(f:M RV):M RV:=M.bind f fun x=>M.bind (mat x) fun d=>match d with
 | .ins C ns vs=>if L.contains C then M.cH (((ns.zip vs).lookup y).map .val) else M.st
 | _=>M.st
theorem zj{R:Hp}{y:Str}:∀ {fs:List (Str×V)} {vs:List D} {d:D},aB R (fs.map (·.2)) vs->((fs.map (·.1)).zip vs).lookup y=some d->∃ v,fs.lookup y=some v/\Rp R v d
 | [],_,_,h,e=>by cases h;cases e
 | (n,v)::r,_,d,h,e=>by
   cases h with
   |cons a b =>
     rw[List.map_cons,List.zip_cons_cons,List.lookup_cons] at e
     rw[List.lookup_cons]
     cases q:y == n with
     |true =>
       rw[q] at e
       simp only at e
       cases e
       exact⟨v,rfl,a⟩
     |false =>
       rw[q] at e
       exact zj b e
theorem Ez{L:List Cn}{y:Str}(hA:∀ C,L.contains C=true->XC KC.K (KC.cls C)/\aU KC.K (KC.cls C) y)(ha:VE X EE ios e f)(hb:attributeBase e y X.env (eval e X.env)=eval e X.env)(hK:X.K=KC.K:=by rfl):VE X EE ios (.Attribute e y pos) (rX L y f):=by
 obtain⟨t,h1,h2⟩:=ha
 refine⟨_,JD h1 hb,fun σ H R Γ Q er w=>?_⟩
 unfold rX at w
 rw[ZY] at w
 refine h2 σ H R Γ _ er (aT w (fun rx ah w x H1 R1 p1 hx=>?_) fun _ _ z=>z)
 rw[ZY] at w
 obtain⟨d,au,R2,p2,s2,r2,w⟩:=jh er p1 hx w
 cases d with
 |ins C ns vs =>
   dsimp only at w
   split at w
   · rename_i hc
     obtain⟨rv,hg,w'⟩:=iy w
     obtain⟨d,hd,rfl⟩:=Option.map_eq_some_iff.mp hg
     obtain⟨k1,k2⟩:=hA C hc
     clear w
     cases r2 with
     |fS q=>cases hd
     |exc q q' hv =>
       obtain⟨v,l1,l2⟩:=zj hv hd
       exact⟨_,_,_,_,_,v,rfl,p2.er.sub _ _ q,p2.er.sub _ _ q',by rw[hK];exact k1,by rw[hK];exact k2,l1,w' v H1 R2 p2 l2⟩
   · exact False.elim w
 | _=>exact False.elim w
end
end Dv
namespace Dv
open PySem L2 Ex
section
variable{Γ Γ':En}{f g:M RV}{fs:M (List RV)}{p:M Bool}{s s':M Fl}{d:D}{i:Nat}{x:Xc}{C T:Cn}{L:List Cn}{y:Str}
@[simp] theorem EA{α:Type}:(M.thr x:M α) Γ = .ex x Γ:=(rfl)
@[simp] theorem vd{G:List D->Option Rx}:rR G fs Γ=M.bind fs (fun rvs=>M.bind (cL rvs) fun ds=>match G ds with
 |some (.ok r)=>if rvs.any jn && !gn r then M.bind (b8 rvs) fun ds'=>match G ds' with
  |some (.ok r)=>M.pure r.rv
  | _=>M.st
   else M.pure r.rv
 |some (.ex x)=>M.bind (b8 rvs) fun ds'=>match G ds' with
  |some (.ex x)=>M.thr x
  | _=>M.st
 |none=>M.st) Γ:=(rfl)
@[simp] theorem vf{ns:List Str}:oK C ns fs Γ=M.bind fs (fun rvs=>M.bind (b8 rvs) fun ds=>if ds.length=ns.length/\ds.length<=1000 then M.thr ⟨C,ns.zip ds⟩ else M.st) Γ:=(rfl)
@[simp] theorem EB{mt:Cn->Bool}:rT mt i s s' Γ=match s Γ with
 | .ok fl Γ'=>.ok fl Γ'
 | .ex x Γ'=>if mt x.C then match s' (Γ'.set i (some (.ak,lD x))) with
  | .ok .nx oM=>.ok .nx (oM.set i none)
  | _=>.st
   else .st
 | .st=>.st:=(rfl)
@[simp] theorem zk:rX L y f Γ=M.bind f (fun x=>M.bind (mat x) fun d=>match d with
 | .ins C ns vs=>if L.contains C then M.cH (((ns.zip vs).lookup y).map .val) else M.st
 | _=>M.st) Γ:=(rfl)
@[simp] theorem LK:pX (.ex x Γ)=some (.ex x):=(rfl)
@[simp] theorem LL{fl:Fl}:pX (.ok fl Γ)=(b6 (.ok fl Γ)).map .ok:=(rfl)
end
end Dv
namespace L2
open PySem PySem.Spec PyProof.Rows Ex
section
variable{X:Cx}
theorem gB:aS X (.builtin "repr") (fun xs H Q=>∃ x:Str,xs=[.str x]/\(reprText x).length<=sizeLine/\Q (.str (reprText x)) H):=by
 intro pins s σ H xs us Q I r h
 obtain⟨x,rfl,hx,q⟩:=h
 obtain⟨u,rfl,ru⟩:=r.one
 obtain⟨t,rfl⟩:=ru
 exact PySem.P.repr_of_str ⟨.str (reprText x),H,I.kept (fun _ _ e=>e),⟨_,rfl⟩,q⟩ hx
end
end L2
namespace Dv
open PySem L2 Ex
variable[KC]
section
variable{X:Cx}{EE:a9}{ios:List Addr}{a b:Expr}{es:List Expr}{f g:M RV}{fs:M (List RV)}{pos:Pos}
theorem aM.zo{R H R1 H1:Hp}{σ:St}{Γ ah:En}(er:ER ios R H σ Γ)(p:aM ios R H σ Γ R1 H1 ah){c:Addr}{xs xs':List V}(h0:H c=none)(r1:R1 c=none)(h1:H1 c=some (.lst xs)):aM ios R H σ Γ R1 (upd H1 c (.lst xs')) ah:=by
 have nO : ¬ Ow σ ah c:=fun z=>by
  obtain⟨_,ys,e⟩:=er.ow (p.sh c z)
  rw[h0] at e;cases e
 have st:∀ {v:V} {d:D} {i:Nat} {k:Kd},ah[i]? = some (some (k,d))->owned k=true->σ[i]? = some (some v)->OwR R1 H1 v d->OwR R1 (upd H1 c (.lst xs')) v d:=by
  rintro v d i k hi hk hv ⟨b,ys,ds,rfl,h2,h3,h4,h5⟩
  have ne:b≠c:=fun z=>by subst z;exact nO ⟨i,k,d,hi,hk,hv⟩
  exact⟨b,ys,ds,rfl,h2,by rw[aV ne];exact h3,h4,h5⟩
 refine⟨⟨fun b o hb=>?_,p.er.len,fun i s hs=>?_,p.er.dj⟩,⟨p.go.rr,fun b o hb hn=>?_,p.go.no,p.go.oo,fun b o hb=>?_⟩,p.sh⟩
 · have ne:b≠c:=fun z=>by subst z;rw[r1] at hb;cases hb
   rw[aV ne]
   exact p.er.sub b o hb
 · obtain⟨v,hv,sr⟩:=p.er.sl i s hs
   refine⟨v,hv,?_⟩
   obtain⟨k,d⟩:=s
   cases k with
   |ak=>exact sr
   |own=>exact st hs rfl hv sr
   |io n=>exact⟨st hs rfl hv sr.1,sr.2⟩
 · have ne:b≠c:=fun z=>by subst z;rw[h0] at hb;cases hb
   rw[aV ne]
   exact p.go.hh b o hb hn
 · have ne:b≠c:=fun z=>by subst z;rw[h0] at hb;cases hb
   rw[aV ne]
   exact p.go.th b o hb
noncomputable def rY(f:M RV)(g:List D->List D->Option (List D×D))(fs:M (List RV)):M RV:=M.bind f fun rv=>match rv with
 | .new (.lst ds)=>M.bind fs fun rvs=>M.bind (b8 rvs) fun es=>match g ds es with
   |some (_,res)=>M.pure (.val res)
   |none=>M.st
 | _=>M.st
theorem LM{r:V->List V->Hp->VK->Prop}{g:List D->List D->Option (List D×D)}{e0:Expr}(hp:∀ to t,PE X a to->PA X es t->PE X e0 (w_ X.K "list" r to t))(hv:rq r g)(ho:VE X EE ios a f)(ha:VA X EE ios es fs):VE X EE ios e0 (rY f g fs):=by
 obtain⟨to,o1,o2⟩:=ho
 obtain⟨t,h1,h2⟩:=ha
 refine⟨_,hp to t o1 h1,fun σ H R Γ Q er w=>?_⟩
 unfold rY at w
 rw[ZY] at w
 refine o2 σ H R Γ _ er (aT w (fun rv ah w x H1 R1 p1 hx=>?_) fun _ _ z=>z)
 split at w
 · rename_i bq
   obtain⟨⟨c,xs,ds,rfl,c1,c2,c3,c4⟩,c',e',c5⟩:=hx
   cases e'
   cases c3
   refine⟨yb c2,?_⟩
   rw[ZY] at w
   refine h2 σ H1 R1 ah _ p1.er (aT w (fun rvs au w ys H2 R2 p2 hy=>?_) fun _ _ z=>d9.trans p1 z)
   rw[ZY] at w
   obtain⟨es',l9,R3,p3,s3,r3,w⟩:=ji p1.er p2 hy w
   have nO : ¬ Ow σ ah c:=fun z=>by
    obtain⟨_,zs,e⟩:=er.ow (p1.sh c z)
    rw[c5] at e;cases e
   have k1:=p3.go.hh c _ c2 nO
   have k2:=p3.go.no c _ c2 nO c1
   cases hg:g bq es' with
   |none=>rw[hg] at w;exact False.elim w
   |some q =>
     obtain⟨ds',res⟩:=q
     rw[hg] at w
     refine hv R3 H2 c xs bq ys es' ds' res Q p3.er.sub k2 k1 (aB.sm p3.go.rr c4) r3 hg fun xs' z hx' hz=>?_
     exact w z _ R3 (aM.zo er (p1.trans p3) c5 k2 k1) hz
 · exact False.elim w
end
end Dv
namespace L2
open PySem PySem.Spec PyProof.Rows Ex
section
variable{X:Cx}
theorem Inv.drawn{pins:List (Addr×Obj)}{σ:List (Option V)}{H:Hp}{s:Shared}(I:Inv X pins σ H s)(d:Drawn):Inv X pins σ H { s with drawn:=d }:=⟨I.ok,I.os,I.bare,I.base,I.loc,I.cell,I.free,I.bj,I.pin,I.hok,I.len⟩
theorem gC:aS X (.builtin "repr") (fun xs H Q=>∃ b:Bool,xs=[.bl b]/\Q (.str (if b then "True" else "False")) H):=by
 intro pins s σ H xs us Q I r h
 obtain⟨b,rfl,q⟩:=h
 obtain⟨u,rfl,ru⟩:=r.one
 cases ru
 exact PySem.P.repr_of_bool ⟨.str _,H,I.kept (fun _ _ e=>e),⟨_,rfl⟩,q⟩
end
end L2
namespace Ex
open PySem PySem.Spec PyProof.Rows
theorem LN(el tg src:Expr)(ifs:List Expr)(sc:Scope)(pos:Pos)(it acc:Value)(env:Env):compTurn (.SetComp el [⟨tg,src,ifs,0⟩] sc pos) 0 it acc env=(do
 standAt src.pos
 match <- pyNext it with
 |none=>pure (.done .next)
 |some v =>
   letOwnedTupleGo tg it v
   assign tg env v
   let mut ok:=true
   for c in ifs do
    if ok then ok <- isTrue c env (eval c env)
   if ok then (do let v <- eval el env;standAt el.pos;let _ <- call (.builtin "set.add") [acc,v])
   again (.compLoop (.SetComp el [⟨tg,src,ifs,0⟩] sc pos) 0 it acc env)):=rfl
noncomputable abbrev LO(M:Model)(A:Around)(env:Env)(tg:Expr)(it:Value)(ifs:List Expr)(el:Expr)(acc:Value)(N:Value->Shared->Prop)(next:Shared->Prop)(v:Value)(s:Shared):Prop :=
 wpAny M A (letOwnedTupleGo tg it v) (fun _ a=>wpAny M A (assign tg env v) (fun _ b =>
  wpAny M A (forIn ifs true fun c r=>if r=true then do let ok <- isTrue c env (eval c env);pure (ForInStep.yield ok) else pure (ForInStep.yield r)) (fun yes c =>
   if yes=true then wpAny M A (eval el env) (fun y d=>wpAny M A (standAt el.pos) (fun _ d'=>wpAny M A (call (.builtin "set.add") [acc,y]) (fun _=>next) N d') N d) N c else next c) N b) N a) N s
theorem LP{prog:Program}{w:World}{A:Around}{R:Result->Shared->Prop}{s:Shared}{el tg src:Expr}{ifs:List Expr}{sc:Scope}{pos:Pos}{it acc:Value}{env:Env}(J:Nat->Shared->Prop)(n:Nat)(start:J n s)
 (turn:∀ n s,J n s->wpAny (model prog w) A (pyNext it) (fun r a=>match r with
  |none=>R (.ok .next) a
  |some v=>LO (model prog w) A env tg it ifs el acc (notedBy (model prog w) A env fun x=>R (.error x)) (fun b=>∃ m,m<n/\J m b) v a) (notedBy (model prog w) A env fun x=>R (.error x)) s) :
 codeAny (model prog w) A (.compLoop (.SetComp el [⟨tg,src,ifs,0⟩] sc pos) 0 it acc env) R s:=by
 apply codeAny_loop rfl J _ n start
 intro n s j
 change wpAny _ A (Sem.onRaise (compTurn (.SetComp el [⟨tg,src,ifs,0⟩] sc pos) 0 it acc env) fun x=>do noteFrame x env;theTreesLotGoes x) _ _ s
 apply wpAny_noted;rw[LN]
 apply wpAny_bind;apply wpAny_standAt;apply wpAny_bind;apply wpAny_mono (turn n s j) _ fun _ _ z=>z
 intro r a k
 cases r with
 |none=>exact wpAny_pure k
 |some v =>
   apply wpAny_bind;apply wpAny_mono k _ fun _ _ z=>z;intro _ b k
   apply wpAny_bind;apply wpAny_mono k _ fun _ _ z=>z;intro _ c k
   apply wpAny_bind;apply wpAny_mono k _ fun _ _ z=>z;intro yes d k
   cases yes
   · exact wpAny_pure (And.intro rfl k)
   · apply wpAny_bind;apply wpAny_bind;apply wpAny_mono k _ fun _ _ z=>z;intro y e k
     apply wpAny_bind;apply wpAny_mono k _ fun _ _ z=>z;intro _ e' k
     apply wpAny_bind;apply wpAny_mono k _ fun _ _ z=>z;intro _ f k
     exact wpAny_pure (wpAny_pure (And.intro rfl k))
theorem LQ{prog:Program}{w:World}{A:Around}{R:Result->Shared->Prop}{s:Shared}{el tg src:Expr}{ifs:List Expr}{sc:Scope}{pos:Pos}{it acc:Value}{env:Env}(h0:codeAny (model prog w) A (.compLoop (.SetComp el [⟨tg,src,ifs,0⟩] sc pos) 0 it acc env) R s)
 (h:wpAny (model prog w) A (pyIter it) (fun it' s'=>codeAny (model prog w) A (.compLoop (.SetComp el [⟨tg,src,ifs,0⟩] sc pos) 0 it' acc env) R s') (notedBy (model prog w) A env fun x s'=>R (.error x) s') s) :
 codeAny (model prog w) A (.compStart (.SetComp el [⟨tg,src,ifs,0⟩] sc pos) 0 it acc env) R s:=by
 refine codeAny_of_tree (show wpAny _ _ ((compStart (.SetComp el [⟨tg,src,ifs,0⟩] sc pos) 0 it acc env).onRaise (fun x=>do noteFrame x env;standAt theWindowsPlace)) _ _ s from wpAny_notedAt ?_)
 unfold compStart
 refine(show wpAny _ _ (ask >>= _) _ _ s from wpAny_bind (wpAny_askSetting (wpAny_ite ?_)))
 split
 · first
    |exact wpAny_bind (wpAny_pure (wpAny_pure (And.intro rfl h0)))
    |exact wpAny_pure (And.intro rfl h0)
 · refine wpAny_bind ?_
   refine wpAny_rule (show wpAny _ _ (standAt src.pos >>= _) _ _ s from wpAny_bind (wpAny_standAt (wpAny_bind ?_)))
   exact wpAny_mono h (fun it' s' q=>wpAny_pure (And.intro rfl q)) fun _ _ z=>z
theorem LR{prog:Program}{w:World}{A:Around}{E:Value->Shared->Prop}{s:Shared}{Q:Value->Shared->Prop}(h:Q (.ref s.heap.objs.size) { s with heap:=s.heap.push (St.bh #[] 0 (.fresh 0 0 (!(w.params.followText "set-order")))) }):wpAny (model prog w) A (newSet (.type "set")) Q E s:=by
 unfold newSet setsByText
 refine  wpAny_bind (wpAny_bind ?_)
 refine  wpAny_askSetting (wpAny_pure ?_)
 dsimp only
 simp only[newObj]
 exact wpAny_bind (wpAny_alloc (wpAny_pure h))
end Ex
namespace L2
open PySem PySem.Spec PyProof.Rows Ex St
section
variable{X:Cx}{pins:List (Addr×Obj)}{σ:List (Option V)}{H:Hp}{s:Shared}
noncomputable def nO(X:Cx):Obj:=bh #[] 0 (.fresh 0 0 (!(X.w.params.followText "set-order")))
noncomputable def rZ(X:Cx)(D:Addr)(zs:List Z):HO:=.ext fun h=>bO (X.w.params.followText "set-order") h D zs
theorem LU{H:Hp}{h:Heap}{D:Addr}{zs:List Z}(S:bO (X.w.params.followText "set-order") h D zs):aD X.prog X.w H h D (rZ X D zs):=⟨S,(let ⟨_,_,_,e,_⟩:=S; ⟨_,e⟩),fun h1 h2 x y=>x.at y⟩
theorem vg{P:Program}{w:World}{H:Hp}{h:Heap}{p:Addr}{c:Int×Int}(ok:bZ P w H h)(e:H p=some (.tup [.int c.1,.int c.2])):bN h c p:=by
 obtain⟨_,its,rv,o,g,cl,n,d⟩:=ok p _ e
 cases rv with
 |cons r1 rv =>
   cases rv with
   |cons r2 rv =>
     cases rv
     obtain⟨t,rfl⟩:=r1
     obtain⟨u,rfl⟩:=r2
     exact⟨o,_,n,t,u,g,cl,d,rfl⟩
structure SK(X:Cx)(β:Type) where
 F:Addr->β->Heap->Prop
 e0:β
 AD:β->V->Hp->(β->Prop)->Prop
 nw:∀ (D:Addr) (h:Heap),h.get? D=some (nO X)->F D e0 h
 st:∀ (D:Addr) (b:β) (h1 h2:Heap),F D b h1->(∀ o,h1.get? D=some o->h2.get? D=some o)->F D b h2
 ob:∀ (D:Addr) (b:β) (h:Heap),F D b h->∃ o,h.get? D=some o
 add:∀ (D:Addr) (b:β) (y:V) (v:Value) (H:Hp) (s:Shared) (P:β->Prop) (Q:Value->Shared->Prop) (E:Value->Shared->Prop),bZ X.prog X.w H s.heap->RelV y v->F D b s.heap->AD b y H P ->
  (∀ h' tk b',Heap.SameBut D s.heap h'->F D b' h'->P b'->Q .none { s with heap:=h',toks:=tk })->wpAny (model X.prog X.w) X.A (call (.builtin "set.add") [.ref D,v]) Q E s
noncomputable abbrev SK.O{β:Type}(S:SK X β)(D:Addr)(b:β):HO:=.ext (S.F D b)
theorem SK.ok{β:Type}(S:SK X β){H:Hp}{h:Heap}{D:Addr}{b:β}(z:S.F D b h):aD X.prog X.w H h D (S.O D b):=⟨z,S.ob D b h z,fun h1 h2 x y=>S.st D b h1 h2 x y⟩
noncomputable def zq{β:Type}(S:SK X β)(fr:List Nat)(own:Nat)(wi:TI)(g:TG)(tc:TT)(te:TE):TE:=fun σ H Q=>wi σ H fun J H1=>∀ D,H1 D=none->∃ W:Nat->Nat->β->Hp->Prop,(∃ m,W 0 m S.e0 (upd H1 D (S.O D S.e0))) /\
 ∀ i m ys H2,H2 D=some (S.O D ys)->W i m ys H2->(J.stop i H2/\Q (.ref D) H2)\/(J.go i H2/\∀ x H3,J.ng i H2 x H3->g x (aj fr own σ) H3 fun cW H4=>tc cW H4 fun b H5 =>
  if b=true then te cW H5 fun y H6=>H6 D=some (S.O D ys)/\S.AD ys y H6 fun ys'=>∃ m',m'<m/\W (i+1) m' ys' (upd H6 D (S.O D ys')) else H5 D=some (S.O D ys)/\∃ m',m'<m/\W (i+1) m' ys H5)
theorem LV{elt tg iter:Expr}{ifs:List Expr}{scope:Scope}{pos n9:Pos}{Nc:List Str}{own:Nat}{fr:List Nat}{wi:TI}{g:TG}{tc:TT}{te:TE}{use:Option (Value->Sem Unit)}{QQ:Value->Shared->Prop}{Q:VK}{β:Type}(S:SK X β)(hc:X.calm=true)(B:eV X scope Nc own fr)(hi:PI X tg iter wi)(hog:k6 own g)
 (hg:∀ cl C s3 H3 fp pn',PG (X.blk Nc scope cl C s3 H3 fp pn' fun _ _=>False) tg g) (ht:∀ cl C s3 H3 fp pn',n8 (X.blk Nc scope cl C s3 H3 fp pn' fun _ _=>False) ifs tc) (he:∀ cl C s3 H3 fp pn',PE (X.blk Nc scope cl C s3 H3 fp pn' fun _ _=>False) elt te)
 (hs:∀ x,foldedSetIterable iter X.env x=pure x) (I:Inv X pins σ H s) (h:zq S fr own wi g tc te σ H Q)
 (fin:∀ (D C:Addr) (H3:Hp) (s4:Shared),(∃ m,s4.heap.Ns C m)->g8 X pins H3 C->(∀ h',Heap.SameBut C s4.heap h'->Inv X pins σ H3 { s4 with heap:=h' })->Q (.ref D) H3->compPost (model X.prog X.w) X.A X.xe use QQ (.ref D) C (.ok .next) s4) :
 wpAny (model X.prog X.w) X.A (comprehension (.SetComp elt [⟨tg,iter,ifs,0⟩] scope pos) scope X.env n9 (newSet (.type "set")) false (eval iter X.env) use) QQ X.xe s:=by
 obtain⟨cl,ir⟩:=CU (env:=X.env) (scope:=scope) fun x hx=>I.ok.has x (B.frees x hx)
 apply wpAny_comprehension_free rfl hs ir.clos B.kind B.names
 apply wpAny_mono (hi pins s σ H _ I h) _ fun _ _ e=>e
 intro xv s1 h1
 apply wpAny_mono h1 _ fun _ _ e=>e
 intro itv s2 h2
 obtain⟨it,fp,tn,J,H2,rfl,I2,T,st2,f2,q⟩:=h2
 refine LR (wpAny_newFunctionEnv B.fR (by intro y hy;simp at hy) (fun h₁ iu iw=>?_) B.kind)
 have hD:H2 s2.heap.objs.size=none:=I2.hok.fresh (Nat.le_refl _)
 obtain⟨W,⟨m0,w0⟩,turn⟩:=q s2.heap.objs.size hD
 have I3:Inv X pins σ (upd H2 s2.heap.objs.size (S.O s2.heap.objs.size S.e0)) { s2 with heap:=s2.heap.push (nO X) } :=
  I2.laid (t':=s2.toks) (fun b u e=>Heap.get?_push_of_some _ e) (Nat.le_refl _) (S.ok (S.nw _ _ (Heap.get?_push_size _ rfl)))
 have n_:∀ b∈fp,b≠s2.heap.objs.size:=fun b hb=>let ⟨o,e,_⟩:=T.obj _ _ st2 b hb;Nat.ne_of_lt (Heap.lt_size e)
 have f3:∀ b∈fp,g8 X pins (upd H2 s2.heap.objs.size (S.O s2.heap.objs.size S.e0)) b:=fun b hb=>⟨by rw[aV (n_ b hb)];exact(f2 b hb).1,(f2 b hb).2⟩
 have keep:∀ b o,(s2.heap.push (nO X)).get? b=some o->h₁.get? b=some o:=fun b o e =>
  (iw.2 b (Nat.ne_of_lt (Heap.lt_size e))).trans (Heap.get?_push_of_some _ e)
 have IY:=I3.block (h₁:=h₁) (t':=s2.toks+([]:List (Str×Value)).length) (E':=fun _ _=>False) B ir (fun b hb=>⟨f3 b hb,let ⟨o,e,_⟩:=T.obj _ _ st2 b hb; ⟨o,Heap.get?_push_of_some _ e⟩⟩) iu keep
 have st1:tn 0 h₁:=T.keep _ _ _ st2 fun b hb o e=>keep b o (Heap.get?_push_of_some _ e)
 have fY:∀ {H':Hp},(∀ b∈fp,H' b=none)->∀ b∈fp,g8 (X.blk Nc scope cl (s2.heap.push (nO X)).objs.size { s2 with heap:=s2.heap.push (nO X) } (upd H2 s2.heap.objs.size (S.O s2.heap.objs.size S.e0)) fp (X.pn++pins) fun _ _=>False) [] H' b:=fun hn b hb =>
  ⟨hn b hb,(IY.ok.kU b hb).1,IY.ok.eS b hb,.inl hb,(IY.ok.kU b hb).2,fun p hp=>(f2 b hb).2.2.2.2.2 p (by simpa using hp)⟩
 have loop:codeAny (model X.prog X.w) X.A (.compLoop (.SetComp elt [⟨tg,iter,ifs,0⟩] scope pos) 0 (.ref it) (.ref s2.heap.objs.size) (compEnvC scope cl (s2.heap.push (nO X)).objs.size X.env))
  (compPost (model X.prog X.w) X.A X.xe use QQ (.ref s2.heap.objs.size) (s2.heap.push (nO X)).objs.size) { s2 with heap:=h₁,toks:=s2.toks+([]:List (Str×Value)).length }:=by
  refine LP (fun n s'=>∃ i ys H',Inv (X.blk Nc scope cl (s2.heap.push (nO X)).objs.size { s2 with heap:=s2.heap.push (nO X) } (upd H2 s2.heap.objs.size (S.O s2.heap.objs.size S.e0)) fp (X.pn++pins) fun _ _=>False) [] (aj fr own σ) H' s'/\tn i s'.heap/\(∀ b∈fp,H' b=none)/\H' s2.heap.objs.size=some (S.O s2.heap.objs.size ys)/\W i n ys H')
   m0 ⟨0,S.e0,_,IY,st1,fun b hb=>(f3 b hb).1,cJ,w0⟩ ?_
  rintro n s3 ⟨i,ys,H3,J3,st3,nh,e3,w3⟩
  rcases turn i n ys H3 e3 w3 with ⟨stop,qn⟩ | ⟨go,step⟩
  · refine aL (T.done (X.blk Nc scope cl (s2.heap.push (nO X)).objs.size { s2 with heap:=s2.heap.push (nO X) } (upd H2 s2.heap.objs.size (S.O s2.heap.objs.size S.e0)) fp (X.pn++pins) fun _ _=>False) rfl rfl rfl hc i [] s3 _ H3 _ J3 (fY nh) st3 stop) fun r s4 ⟨hr,J4⟩=>?_
    subst hr
    obtain⟨m,hn,_⟩:=J4.loc
    exact fin _ _ H3 s4 ⟨m,hn⟩ (I3.ij (Nat.le_refl _) J4.free) (fun h' sb=>I3.iW f3 J4 sb) qn
  · refine aL (T.item (X.blk Nc scope cl (s2.heap.push (nO X)).objs.size { s2 with heap:=s2.heap.push (nO X) } (upd H2 s2.heap.objs.size (S.O s2.heap.objs.size S.e0)) fp (X.pn++pins) fun _ _=>False) rfl rfl rfl hc i [] s3 _ H3 _ J3 (fY nh) st3 go) fun r s4 ⟨u,hr,h4⟩=>?_
    subst hr
    refine aL h4 fun _ s5 ⟨x,H5,J5,r5,y5,eJ,qG⟩=>?_
    have xD:=J5.pinned (fY qG) (T.obj _ _ eJ)
    have lift:∀ {α:Type} {m:Sem α} {Q':α->Shared->Prop} {E':Value->Shared->Prop} {s':Shared},wpAny (model X.prog X.w) X.A m Q' (fun _ _=>False) s'->wpAny (model X.prog X.w) X.A m Q' E' s':=fun h=>wpAny_mono h (fun _ _ z=>z) fun _ _ z=>z.elim
    refine lift (aL (hg _ _ _ _ _ _ _ s5 _ H5 x u _ xD r5 (hog _ _ _ _ (step x H5 y5))) fun _ s6 ⟨d8,H6,J6,q6,og⟩=>?_)
    refine lift (aL (ht _ _ _ _ _ _ _ s6 d8 H6 _ J6 q6) fun b s7 ⟨H7,J7,q7⟩=>?_)
    have back:∀ {H8:Hp} {s8:Shared} {ys':β} {m':Nat},Inv (X.blk Nc scope cl (s2.heap.push (nO X)).objs.size { s2 with heap:=s2.heap.push (nO X) } (upd H2 s2.heap.objs.size (S.O s2.heap.objs.size S.e0)) fp (X.pn++pins) fun _ _=>False) ([]++o_ fp s5.heap) d8 H8 s8->H8 s2.heap.objs.size=some (S.O s2.heap.objs.size ys')->m'<n->W (i+1) m' ys' H8 ->
     ∃ m,m<n/\∃ i ys H',Inv (X.blk Nc scope cl (s2.heap.push (nO X)).objs.size { s2 with heap:=s2.heap.push (nO X) } (upd H2 s2.heap.objs.size (S.O s2.heap.objs.size S.e0)) fp (X.pn++pins) fun _ _=>False) [] (aj fr own σ) H' s8/\tn i s8.heap/\(∀ b∈fp,H' b=none)/\H' s2.heap.objs.size=some (S.O s2.heap.objs.size ys)/\W i m ys H':=fun {H8 s8 ys' m'} J8 e8 hm w8=>by
     refine⟨m',hm,i+1,ys',H8,?_,T.keep _ _ _ eJ fun b hb o e=>(J8.pin (b,o) (List.mem_append_right _ (List.mem_append_right _ (pf hb e)))).1,fun b hb=>?_,e8,w8⟩
     · refine(Inv.cb (pins:=[]) J8).weak ?_ fun j v' z=>?_
       · rw[IY.len];exact J8.len.symm
       · by_cases hj:j<own
         · unfold aj at z
           rw[List.getElem?_append_left (by simpa using hj),List.getElem?_replicate,if_pos hj] at z
           cases z
         · rw[og j (Nat.le_of_not_lt hj)];exact z
     · obtain⟨o,e,d⟩:=T.obj _ _ eJ b hb
       exact(J8.pin (b,o) (List.mem_append_right _ (List.mem_append_right _ (pf hb e)))).2.1
    cases b with
    |false =>
      obtain⟨e7,m',hm,w7⟩:=(show H7 s2.heap.objs.size=some (S.O s2.heap.objs.size ys)/\∃ m',m'<n/\W (i+1) m' ys H7 from by simpa using q7)
      exact back J7 e7 hm w7
    |true =>
      have xE:te d8 H7 fun y H6=>H6 s2.heap.objs.size=some (S.O s2.heap.objs.size ys)/\S.AD ys y H6 fun ys'=>∃ m',m'<n/\W (i+1) m' ys' (upd H6 s2.heap.objs.size (S.O s2.heap.objs.size ys')):=by simpa using q7
      refine lift (aL (he _ _ _ _ _ _ _ s7 d8 H7 _ J7 xE) fun v s8 ⟨y,H8,J8,r8,e8,w8⟩=>?_)
      obtain⟨S8,_⟩:=J8.hok _ _ e8
      refine lift (wpAny_standAt (S.add _ ys y v H8 _ _ _ _ J8.hok r8 S8 w8 fun h' tk ys' sb S' hy=>?_))
      obtain⟨m',hm,w9⟩:=hy
      have J9:=J8.write (t':=tk) (o:=S.O s2.heap.objs.size ys') (by rw[e8];trivial) (.inl rfl) (fun b u hb e=>(sb.2 b hb).trans e) (S.ob _ _ _ S') (S.ok S')
      exact back J9 cJ hm w9
 exact LQ loop (T.self _ _ _ _ _ st1 loop)
theorem LW{elt tg iter:Expr}{ifs:List Expr}{scope:Scope}{pos:Pos}{Nc:List Str}{own:Nat}{fr:List Nat}{wi:TI}{g:TG}{tc:TT}{te:TE}{β:Type}(S:SK X β)(hc:X.calm=true)(B:eV X scope Nc own fr)(hi:PI X tg iter wi)(hog:k6 own g)
 (hg:∀ cl C s3 H3 fp pn',PG (X.blk Nc scope cl C s3 H3 fp pn' fun _ _=>False) tg g) (ht:∀ cl C s3 H3 fp pn',n8 (X.blk Nc scope cl C s3 H3 fp pn' fun _ _=>False) ifs tc) (he:∀ cl C s3 H3 fp pn',PE (X.blk Nc scope cl C s3 H3 fp pn' fun _ _=>False) elt te)
 (hs:∀ x,foldedSetIterable iter X.env x=pure x:=by intro _;rfl):PE X (.SetComp elt [⟨tg,iter,ifs,0⟩] scope pos) (zq S fr own wi g tc te):=by
 intro pins s σ H Q I h
 show wpAny _ _ (comprehension (.SetComp elt [⟨tg,iter,ifs,0⟩] scope pos) scope X.env _ (newSet (.type "set")) false (eval iter X.env)) _ _ _
 exact LV (QQ:=EP X pins σ Q) S hc B hi hog hg ht he hs I h fun L C H3 s4 hn f qW q=>let ⟨m,hm⟩:=hn; ⟨m,hm,fun h' sb=>⟨.ref L,H3,qW h' sb,rfl,q⟩⟩
noncomputable def vh(hu:X.A.units+1<cLine):SK X (List Z) where
 F:=fun D zs h=>bO (X.w.params.followText "set-order") h D zs
 e0:=[]
 AD:=fun ys y H P=>ys.length<600/\∃ (p:Addr) (c:Int×Int),y = .ref p/\H p=some (.tup [.int c.1,.int c.2])/\cn c/\(∀ z∈ys,H z.2=some (.tup [.int z.1.1,.int z.1.2]))/\∀ ys',((ys'=ys/\c∈ys.map (·.1))\/(ys'.Perm ((c,p)::ys)/\c ∉ ys.map (·.1)))->P ys'
 nw:=fun D h e=>bO.fresh _ e
 st:=fun D b h1 h2 x y=>x.at y
 ob:=fun D b h z=>let ⟨_,_,_,e,_⟩:=z; ⟨_,e⟩
 add:=fun D b y v H s P Q E ok r S ad q=>by
  obtain⟨hl,p,c,rfl,hp,sm,tz,k⟩:=ad
  cases r
  exact Hk hu S (fun z hz=>vg ok (tz z hz)) (vg ok hp) sm hl fun h' tk ys' sb S' hy=>q h' tk ys' sb S' (k ys' hy)
end
end L2
namespace Ti
open PySem PyProof.Rows
noncomputable def pY:Bool->Keyed->Array Keyed->Nat->Nat->Nat->StateT SortSt Sem (Option Nat):=sortPriv% PySem.Builtin.gallop
noncomputable def EC:Array Keyed->Array Keyed->StateT SortSt Sem (Array Keyed):=sortPriv% PySem.Builtin.mergeLo
noncomputable def ED:Array Keyed->Array Keyed->StateT SortSt Sem (Array Keyed):=sortPriv% PySem.Builtin.mergeHi
section
variable{M:Model}{A:Around}{E:Value->Shared->Prop}{s:Shared}{κ:SortKind}{φ:Keyed->Int}{El:Keyed->Prop}
noncomputable def jr(M:Model)(A:Around)(E:Value->Shared->Prop)(s:Shared)(κ:SortKind)(φ:Keyed->Int)(El:Keyed->Prop):Prop:=∀ x y st (Q:Option Bool->SortSt->Prop),El x->El y->kindOf st=κ->Q (some (decide (φ x<φ y))) st->wpS M A E s (lt' x y) Q st
theorem eg{arr:Array Keyed}{i:Nat}{x:Keyed}{Q:Keyed->SortSt->Prop}{st:SortSt}(h:arr[i]? = some x)(q:Q x st):wpS M A E s (elem' arr i) Q st:=by
 rw[elem'_eq,h]
 exact wpS_pure q
structure Cut(p:Nat->Bool)(n k:Nat):Prop where
 le:k<=n
 lo:∀ i,i<k->p i=true
 hi:∀ i,k<=i->i<n->p i=false
noncomputable def LX(p:Nat->Bool)(n:Nat):Prop:=∀ i j,i<=j->j<n->p j=true->p i=true
theorem pZ(C:jr M A E s κ φ El){left:Bool}{key:Keyed}{arr:Array Keyed}{b n hint:Nat}{p:Nat->Bool}{Q:Option Nat->SortSt->Prop}{st:SortSt}(hk:kindOf st=κ)(ek:El key)
 (hp:∀ i,i<n->∃ x,arr[b+i]? = some x/\El x/\p i=if left=true then decide (φ x<φ key) else !decide (φ key<φ x)) (mo:LX p n) (hh:hint<n) (q:∀ k,Cut p n k->Q (some k) st):wpS M A E s (pY left key arr b n hint) Q st:=by
 have vi:∀ (i:Nat) (R:Option Bool->SortSt->Prop),i<n->R (some (p i)) st->wpS M A E s (do
  let x <- elem' arr (b+i)
  if left=true then lt' x key else do
   let y <- lt' key x
   pure (y.map (!·))) R st:=fun i R hi r=>by
  obtain⟨x,hx,ex,e⟩:=hp i hi
  refine wpS_bind (eg hx ?_)
  cases left with
  |true =>
    rw[if_pos rfl] at e ⊢
    refine C x key st _ ex ek hk ?_
    rw[<- e]
    exact r
  |false =>
    rw[if_neg (by simp)] at e ⊢
    refine wpS_bind (C key x st _ ek ex hk (wpS_pure ?_))
    show R (some (!decide (φ key<φ x))) st
    rw[<- e]
    exact r
 have fin:∀ (lo hi:Nat) (R:Option Nat->SortSt->Prop) (g:Option (Option Nat)×Nat×Nat->StateT SortSt Sem (Option Nat)),(∀ lo hi R,R (some hi) st->wpS M A E s (g (none,lo,hi)) R st)->lo<=hi->hi<=n->(∀ i,i<lo->p i=true)->(∀ i,hi<=i->i<n->p i=false)->(∀ k,Cut p n k->R (some k) st)->wpS M A E s (do
  let t <- forIn [0:n] ((none,lo,hi):Option (Option Nat)×Nat×Nat) fun _ t =>
   if t.2.1 ≥ t.2.2 then pure (.done (none,t.2.1,t.2.2)) else do
    let y <- (do
     let x <- elem' arr (b+(t.2.1+(t.2.2 - t.2.1) / 2))
     if left=true then lt' x key else do
      let y <- lt' key x
      pure (y.map (!·)))
    match y with
    |some more=>if more=true then pure (.yield (none,t.2.1+(t.2.2 - t.2.1) / 2+1,t.2.2)) else pure (.yield (none,t.2.1,t.2.1+(t.2.2 - t.2.1) / 2))
    |x=>pure (.done (some none,t.2.1,t.2.2))
  g t) R st:=by
  intro lo hi R g hg h1 h2 h3 h4 r
  refine wpS_bind (wpS_forRange (I:=fun i t st'=>st'=st/\∃ lo hi,t=(none,lo,hi)/\lo<=hi/\hi<=n/\hi - lo<=n - i/\(∀ i,i<lo->p i=true)/\(∀ i,hi<=i->i<n->p i=false)) ?_ ?_ ⟨rfl,lo,hi,rfl,h1,h2,by omega,h3,h4⟩)
  · rintro i t st' _ hi' ⟨rfl,lo,hi,rfl,h1,h2,h5,h3,h4⟩
    dsimp only
    by_cases c:lo ≥ hi
    · rw[if_pos c]
      exact wpS_pure (hg _ _ _ (r hi ⟨h2,fun i z=>h3 i (by omega),h4⟩))
    · rw[if_neg c]
      refine wpS_bind (vi _ _ (by omega) ?_)
      dsimp only
      cases e:p (lo+(hi - lo) / 2) with
      |true =>
        rw[if_pos rfl]
        exact wpS_pure ⟨rfl,_,hi,rfl,by omega,h2,by omega,fun i z=>mo i _ (by omega) (by omega) e,h4⟩
      |false =>
        rw[if_neg (by simp)]
        refine wpS_pure ⟨rfl,lo,_,rfl,by omega,by omega,by omega,h3,fun i z z'=>?_⟩
        cases e':p i with
        |false=>rfl
        |true=>rw[mo _ i z z' e'] at e;cases e
  · rintro t st' ⟨rfl,lo,hi,rfl,h1,h2,h5,h3,h4⟩
    have:lo=hi:=by omega
    subst this
    exact hg _ _ _ (r lo ⟨h2,h3,h4⟩)
 unfold pY
 refine wpS_bind (vi hint _ hh ?_)
 dsimp only
 cases e0:p hint with
 |true =>
   rw[if_pos rfl]
   refine wpS_bind (wpS_forRange (I:=fun i t st'=>st'=st/\∃ la of,t=(none,la,of)/\la<of/\i+1<=of/\(la=0\/p (hint+la)=true)/\hint+la<n) ?_ ?_ ⟨rfl,0,1,rfl,by omega,by omega,.inl rfl,by omega⟩)
   · rintro i t st' _ hi' ⟨rfl,la,of,rfl,h1,h2,h3,h4⟩
     dsimp only
     have lo':∀ i,i<hint+la+1->p i=true:=fun i z=>by
      rcases h3 with rfl | h3
      · exact mo i hint (by omega) hh e0
      · exact mo i _ (by omega) h4 h3
     by_cases c:of ≥ n - hint
     · rw[if_pos c]
       refine wpS_pure ?_
       dsimp only
       exact fin (hint+la+1) (hint+min of (n - hint)) Q _ (fun _ _ _ r=>wpS_pure r) (by omega) (by omega) lo' (fun i z z'=>by omega) q
     · rw[if_neg c]
       refine wpS_bind (vi _ _ (by omega) ?_)
       dsimp only
       cases e:p (hint+of) with
       |true =>
         rw[if_neg (by simp)]
         exact wpS_pure ⟨rfl,of,2 * of+1,rfl,by omega,by omega,.inr e,by omega⟩
       |false =>
         rw[if_pos (by simp)]
         refine wpS_pure ?_
         dsimp only
         refine fin (hint+la+1) (hint+min of (n - hint)) Q _ (fun _ _ _ r=>wpS_pure r) (by omega) (by omega) lo' (fun i z z'=>?_) q
         cases e':p i with
         |false=>rfl
         |true=>rw[mo (hint+of) i (by omega) z' e'] at e;cases e
   · rintro t st' ⟨rfl,la,of,rfl,h1,h2,h3,h4⟩
     have mx:max 0 n=n:=by omega
     rw[mx] at h2
     dsimp only
     refine fin (hint+la+1) (hint+min of (n - hint)) Q _ (fun _ _ _ r=>wpS_pure r) (by omega) (by omega) (fun i z=>?_) (fun i z z'=>by omega) q
     rcases h3 with rfl | h3
     · exact mo i hint (by omega) hh e0
     · exact mo i _ (by omega) h4 h3
 |false =>
   rw[if_neg (by simp)]
   have no:∀ j,p j=false->∀ i,j<=i->i<n->p i=false:=fun j ej i z z'=>by
    cases e':p i with
    |false=>rfl
    |true=>rw[mo j i z z' e'] at ej;cases ej
   refine wpS_bind (wpS_forRange (I:=fun i t st'=>st'=st/\∃ la of,t=(none,la,of)/\la<of/\i+1<=of/\p (hint - la)=false/\la<=hint) ?_ ?_ ⟨rfl,0,1,rfl,by omega,by omega,e0,by omega⟩)
   · rintro i t st' _ hi' ⟨rfl,la,of,rfl,h1,h2,h3,h4⟩
     dsimp only
     by_cases c:of ≥ hint+1
     · rw[if_pos c]
       refine wpS_pure ?_
       dsimp only
       exact fin (hint+1 - min of (hint+1)) (hint - la) Q _ (fun _ _ _ r=>wpS_pure r) (by omega) (by omega) (fun i z=>by omega) (no _ h3) q
     · rw[if_neg c]
       refine wpS_bind (vi _ _ (by omega) ?_)
       dsimp only
       cases e:p (hint - of) with
       |true =>
         rw[if_pos rfl]
         refine wpS_pure ?_
         dsimp only
         exact fin (hint+1 - min of (hint+1)) (hint - la) Q _ (fun _ _ _ r=>wpS_pure r) (by omega) (by omega) (fun i z=>mo i (hint - of) (by omega) (by omega) e) (no _ h3) q
       |false =>
         rw[if_neg (by simp)]
         exact wpS_pure ⟨rfl,of,2 * of+1,rfl,by omega,by omega,e,by omega⟩
   · rintro t st' ⟨rfl,la,of,rfl,h1,h2,h3,h4⟩
     have mx:max 0 n=n:=by omega
     rw[mx] at h2
     dsimp only
     exact fin (hint+1 - min of (hint+1)) (hint - la) Q _ (fun _ _ _ r=>wpS_pure r) (by omega) (by omega) (fun i z=>by omega) (no _ h3) q
end
section
variable{α:Type}{R:α->α->Prop}{base out ra rb xs:List α}
structure Mg(R:α->α->Prop)(base out ra rb:List α):Prop where
 pm:(out++ra++rb).Perm base
 so:out.Pairwise R
 sa:ra.Pairwise R
 sb:rb.Pairwise R
 oa:∀ x∈out,∀ y∈ra,R x y
 ob:∀ x∈out,∀ y∈rb,R x y
theorem Mg.a(h:Mg R base out (xs++ra) rb)(hx:∀ x∈xs,∀ y∈rb,R x y):Mg R base (out++xs) ra rb:=by
 obtain⟨s1,s2,s3⟩:=List.pairwise_append.mp h.sa
 refine⟨by simpa using h.pm,List.pairwise_append.mpr ⟨h.so,s1,fun x hx y hy=>h.oa x hx y (List.mem_append_left _ hy)⟩,s2,h.sb,fun x hx' y hy=>?_,fun x hx' y hy=>?_⟩
 · rcases List.mem_append.mp hx' with z | z
   · exact h.oa x z y (List.mem_append_right _ hy)
   · exact s3 x z y hy
 · rcases List.mem_append.mp hx' with z | z
   · exact h.ob x z y hy
   · exact hx x z y hy
theorem Mg.b(h:Mg R base out ra (xs++rb))(hx:∀ x∈xs,∀ y∈ra,R x y):Mg R base (out++xs) ra rb:=by
 obtain⟨s1,s2,s3⟩:=List.pairwise_append.mp h.sb
 refine⟨?_,List.pairwise_append.mpr ⟨h.so,s1,fun x hx y hy=>h.ob x hx y (List.mem_append_left _ hy)⟩,h.sa,s2,fun x hx' y hy=>?_,fun x hx' y hy=>?_⟩
 · refine List.Perm.trans ?_ h.pm
   simp only[List.append_assoc]
   refine  List.Perm.append_left _ ?_
   rw[<- List.append_assoc, <- List.append_assoc]
   exact  List.Perm.append_right _ List.perm_append_comm
 · rcases List.mem_append.mp hx' with z | z
   · exact h.oa x z y hy
   · exact hx x z y hy
 · rcases List.mem_append.mp hx' with z | z
   · exact h.ob x z y (List.mem_append_right _ hy)
   · exact s3 x z y hy
theorem Mg.oN(h:Mg R base out ra []):(out++ra).Pairwise R/\(out++ra).Perm base:=⟨List.pairwise_append.mpr ⟨h.so,h.sa,h.oa⟩,by simpa using h.pm⟩
theorem Mg.oO(h:Mg R base out [] rb):(out++rb).Pairwise R/\(out++rb).Perm base:=⟨List.pairwise_append.mpr ⟨h.so,h.sb,h.ob⟩,by simpa using h.pm⟩
theorem Mg.r6(h:Mg R base out ra rb)(hl:∀ y∈rb,∀ x∈ra,R y x):(out++rb++ra).Pairwise R/\(out++rb++ra).Perm base:=by
 have h':Mg R base out ra (rb++[]):=by simpa using h
 exact(h'.b hl).oN
end
section
variable{a:Array Keyed}{i k:Nat}{x:Keyed}
theorem EF(h:a[i]? = some x):a.toList.drop i=[x]++a.toList.drop (i+1):=by
 have h':a.toList[i]? = some x:=by simpa using h
 obtain⟨hi,e⟩:=List.getElem?_eq_some_iff.mp h'
 rw[List.drop_eq_getElem_cons hi,e]
 rfl
theorem zt(i k:Nat):(a.extract i (i+k)).toList=(a.toList.drop i).take k:=by
 rw[Array.toList_extract]
 show(a.toList.drop i).take (i+k - i)=_
 rw[Nat.add_sub_cancel_left]
theorem p9(i:Nat):(a.extract i a.size).toList=a.toList.drop i:=by
 rw[Array.toList_extract]
 show(a.toList.drop i).take (a.size - i)=_
 rw[List.take_of_length_le (by rw[List.length_drop];simp)]
theorem EG(i k:Nat):a.toList.drop i=(a.toList.drop i).take k++a.toList.drop (i+k):=by
 rw[<- List.drop_drop,List.take_append_drop]
theorem vj{k:Nat}(h:x∈(a.toList.drop i).take k):∃ j,j<k/\a[i+j]? = some x:=by
 obtain⟨j,hj,e⟩:=List.getElem_of_mem h
 rw[List.length_take] at hj
 rw[List.getElem_take,List.getElem_drop] at e
 refine⟨j,by omega,?_⟩
 have:a.toList[i+j]? = some x:=by
  rw[List.getElem?_eq_getElem (by rw[List.length_drop] at hj;omega),e]
 simpa using this
theorem vk(h:x∈a.toList.drop i):∃ j,i<=j/\a[j]? = some x:=by
 obtain⟨j,hj,e⟩:=List.getElem_of_mem h
 rw[List.getElem_drop] at e
 refine⟨i+j,by omega,?_⟩
 have:a.toList[i+j]? = some x:=by
  rw[List.getElem?_eq_getElem (by rw[List.length_drop] at hj;omega),e]
 simpa using this
theorem eP(h:a[i]? = some x):x∈a.toList:=List.mem_of_getElem? (show a.toList[i]? = some x by simpa using h)
theorem at_of(h:i<a.size):∃ x,a[i]? = some x:=⟨a[i],Array.getElem?_eq_getElem h⟩
theorem nI(h:a[i]? = some x):i<a.size:=(Array.getElem?_eq_some_iff.mp h).1
end
structure ae(st st':SortSt):Prop where
 k:kindOf st'=kindOf st
 a:arrOf st'=arrOf st
 p:pendingOf st'=pendingOf st
 f:failedOf st'=failedOf st
section
variable{M:Model}{A:Around}{E:Value->Shared->Prop}{s:Shared}{κ:SortKind}{φ:Keyed->Int}{El:Keyed->Prop}
theorem ae.refl(st:SortSt):ae st st:=⟨rfl,rfl,rfl,rfl⟩
theorem ae.trans{a b c:SortSt}(h:ae a b)(h':ae b c):ae a c:=⟨h'.k.trans h.k,h'.a.trans h.a,h'.p.trans h.p,h'.f.trans h.f⟩
structure mE(φ:Keyed->Int)(El:Keyed->Prop)(a b:Array Keyed):Prop where
 ea:∀ x∈a.toList,El x
 eb:∀ x∈b.toList,El x
 sa:a.toList.Pairwise fun x y=>φ x<φ y
 sb:b.toList.Pairwise fun x y=>φ x<φ y
 ne:∀ x∈a.toList,∀ y∈b.toList,φ x≠φ y
 h0:∃ x y,a[0]? = some x/\b[0]? = some y/\φ y<φ x
 hl:∃ x,a[a.size - 1]? = some x/\∀ y∈b.toList,φ y<φ x
noncomputable def Good(φ:Keyed->Int)(a b m:Array Keyed):Prop:=(m.toList.Pairwise fun x y=>φ x<φ y)/\m.toList.Perm (a.toList++b.toList)
noncomputable abbrev ML(φ:Keyed->Int)(a b out:Array Keyed)(ia ib:Nat):Prop:=Mg (fun x y=>φ x<φ y) (a.toList++b.toList) out.toList (a.toList.drop ia) (b.toList.drop ib)
section
variable{a b out:Array Keyed}{ia ib k:Nat}{x y:Keyed}
theorem ML.fB(h:ML φ a b out ia ib)(e:ib=b.size):Good φ a b (out++a.extract ia a.size++b.extract ib b.size):=by
 have z:b.toList.drop ib=[]:=List.drop_eq_nil_of_le (by rw[e];simp)
 unfold Good
 rw[Array.toList_append,Array.toList_append,p9,p9,z,List.append_nil]
 unfold ML at h
 rw[z] at h
 exact h.oN
theorem ML.fC(h:ML φ a b out ia ib)(e:ia=a.size):Good φ a b (out++a.extract ia a.size++b.extract ib b.size):=by
 have z:a.toList.drop ia=[]:=List.drop_eq_nil_of_le (by rw[e];simp)
 unfold Good
 rw[Array.toList_append,Array.toList_append,p9,p9,z,List.append_nil]
 unfold ML at h
 rw[z] at h
 exact h.oO
theorem ML.last(T:mE φ El a b)(h:ML φ a b out ia ib)(e:ia+1=a.size):Good φ a b (out++b.extract ib b.size++a.extract ia a.size):=by
 unfold Good
 rw[Array.toList_append,Array.toList_append,p9,p9]
 refine h.r6 fun y hy x hx=>?_
 obtain⟨z,hz,hz'⟩:=T.hl
 obtain⟨j,hj,ej⟩:=vk hx
 have:=nI ej
 rw[show j=a.size - 1 by omega,hz] at ej
 cases ej
 exact hz' y (List.mem_of_mem_drop hy)
theorem ML.pb(h:ML φ a b out ia ib)(e:b[ib]? = some y)(hy:∀ x∈a.toList.drop ia,φ y<φ x):ML φ a b (out.push y) ia (ib+1):=by
 unfold ML at h ⊢
 rw[EF e] at h
 rw[Array.toList_push]
 exact h.b fun z hz=>by rw[List.mem_singleton.mp hz];exact hy
theorem ML.pa(h:ML φ a b out ia ib)(e:a[ia]? = some x)(hx:∀ y∈b.toList.drop ib,φ x<φ y):ML φ a b (out.push x) (ia+1) ib:=by
 unfold ML at h ⊢
 rw[EF e] at h
 rw[Array.toList_push]
 exact h.a fun z hz=>by rw[List.mem_singleton.mp hz];exact hx
theorem ML.ka(h:ML φ a b out ia ib)(hx:∀ x∈(a.toList.drop ia).take k,∀ y∈b.toList.drop ib,φ x<φ y):ML φ a b (out++a.extract ia (ia+k)) (ia+k) ib:=by
 unfold ML at h ⊢
 rw[EG ia k] at h
 rw[Array.toList_append,zt]
 exact h.a hx
theorem ML.kb(h:ML φ a b out ia ib)(hx:∀ x∈(b.toList.drop ib).take k,∀ y∈a.toList.drop ia,φ x<φ y):ML φ a b (out++b.extract ib (ib+k)) ia (ib+k):=by
 unfold ML at h ⊢
 rw[EG ib k] at h
 rw[Array.toList_append,zt]
 exact h.b hx
theorem p_(sa:a.toList.Pairwise fun x y=>φ x<φ y){i j:Nat}(hi:a[i]? = some x)(hj:a[j]? = some y)(h:i<j):φ x<φ y:=by
 have l:=nI hj
 have l1:i<a.toList.length:=by simp;omega
 have l2:j<a.toList.length:=by simpa using l
 have e1:a.toList[i]=x:=by have:=(Array.getElem?_eq_some_iff.mp hi).2;simpa using this
 have e2:a.toList[j]=y:=by have:=(Array.getElem?_eq_some_iff.mp hj).2;simpa using this
 rw[<- e1, <- e2]
 exact List.pairwise_iff_getElem.mp sa i j l1 l2 h
theorem qa(sa:a.toList.Pairwise fun x y=>φ x<φ y){i:Nat}(hi:a[i]? = some x)(h:y∈a.toList.drop i):φ x<=φ y:=by
 obtain⟨j,hj,e⟩:=vk h
 by_cases z:j=i
 · rw[z,hi] at e;cases e;exact Int.le_refl _
 · exact Int.le_of_lt (p_ sa hi e (by omega))
end
theorem vm{g:Nat}{Q:Unit->SortSt->Prop}{st0 st:SortSt}(h:ae st0 st)(q:∀ st',ae st0 st'->Q () st'):wpS M A E s ((sortPriv% PySem.Builtin.setMinGallop) g) Q st :=
 wpS_modify (q _ (h.trans ⟨rfl,rfl,rfl,rfl⟩))
theorem LY(C:jr M A E s κ φ El){a b:Array Keyed}(T:mE φ El a b){st0 st:SortSt}{ia ib:Nat}{y:Keyed}{Q:Option Nat->SortSt->Prop}(hk:kindOf st=κ)(ey:b[ib]? = some y)(hi:ia<a.size)
 (q:∀ k,ia+k<=a.size->(∀ x∈(a.toList.drop ia).take k,∀ z∈b.toList.drop ib,φ x<φ z)->(∀ x∈a.toList.drop (ia+k),φ y<φ x)->Q (some k) st):wpS M A E s (pY false y a ia (a.size - ia) 0) Q st:=by
 have my:=eP ey
 refine pZ C (p:=fun i=>match a[ia+i]? with | some x => !decide (φ y<φ x) | none=>false) hk (T.eb y my) (fun i z=>?_) (fun i j z z' h=>?_) (by omega) fun k c=>q k ?_ ?_ ?_
 · obtain⟨x,hx⟩:=at_of (a:=a) (i:=ia+i) (by omega)
   exact⟨x,hx,T.ea x (eP hx),by rw[hx];rfl⟩
 · obtain⟨x,hx⟩:=at_of (a:=a) (i:=ia+i) (by omega)
   obtain⟨x',hx'⟩:=at_of (a:=a) (i:=ia+j) (by omega)
   dsimp only at h ⊢
   rw[hx'] at h
   rw[hx]
   dsimp only at h ⊢
   rw[Bool.not_eq_true',decide_eq_false_iff_not] at h ⊢
   by_cases e:i=j
   · subst e;rw[hx] at hx';cases hx';exact h
   · have:=p_ T.sa hx hx' (by omega);omega
 · have:=c.le;omega
 · intro x hx z hz
   obtain⟨j,hj,e⟩:=vj hx
   have:=c.lo j hj
   rw[e] at this
   dsimp only at this
   rw[Bool.not_eq_true',decide_eq_false_iff_not] at this
   have n:=T.ne x (eP e) y my
   have:=qa T.sb ey hz
   omega
 · intro x hx
   obtain⟨j,hj,e⟩:=vk hx
   have l:=nI e
   have:=c.hi (j - ia) (by omega) (by omega)
   rw[show ia+(j - ia)=j by omega,e] at this
   dsimp only at this
   rw[Bool.not_eq_false'] at this
   exact of_decide_eq_true this
theorem LZ(C:jr M A E s κ φ El){a b:Array Keyed}(T:mE φ El a b){st:SortSt}{ia ib:Nat}{x:Keyed}{Q:Option Nat->SortSt->Prop}(hk:kindOf st=κ)(ex:a[ia]? = some x)(hi:ib<b.size)
 (q:∀ k,ib+k<=b.size->(∀ y∈(b.toList.drop ib).take k,∀ z∈a.toList.drop ia,φ y<φ z)->(∀ y∈b.toList.drop (ib+k),φ x<φ y)->Q (some k) st):wpS M A E s (pY true x b ib (b.size - ib) 0) Q st:=by
 have mx:=eP ex
 refine pZ C (p:=fun i=>match b[ib+i]? with | some y=>decide (φ y<φ x) | none=>false) hk (T.ea x mx) (fun i z=>?_) (fun i j z z' h=>?_) (by omega) fun k c=>q k ?_ ?_ ?_
 · obtain⟨y,hy⟩:=at_of (a:=b) (i:=ib+i) (by omega)
   exact⟨y,hy,T.eb y (eP hy),by rw[hy];rfl⟩
 · obtain⟨y,hy⟩:=at_of (a:=b) (i:=ib+i) (by omega)
   obtain⟨y',hy'⟩:=at_of (a:=b) (i:=ib+j) (by omega)
   dsimp only at h ⊢
   rw[hy'] at h
   rw[hy]
   dsimp only at h ⊢
   have h:=of_decide_eq_true h
   refine decide_eq_true ?_
   by_cases e:i=j
   · subst e;rw[hy] at hy';cases hy';exact h
   · have:=p_ T.sb hy hy' (by omega);omega
 · have:=c.le;omega
 · intro y hy z hz
   obtain⟨j,hj,e⟩:=vj hy
   have:=c.lo j hj
   rw[e] at this
   have:=of_decide_eq_true this
   have:=qa T.sa ex hz
   omega
 · intro y hy
   obtain⟨j,hj,e⟩:=vk hy
   have l:=nI e
   have:=c.hi (j - ib) (by omega) (by omega)
   rw[show ib+(j - ib)=j by omega,e] at this
   have:=of_decide_eq_false this
   have n:=T.ne x mx y (eP e)
   omega
end
section
variable{M:Model}{A:Around}{E:Value->Shared->Prop}{s:Shared}{κ:SortKind}{φ:Keyed->Int}{El:Keyed->Prop}
theorem bA{β:Type}{c:Prop}[Decidable c]{m n:StateT SortSt Sem β}{Q:β->SortSt->Prop}{st:SortSt}(h:c->wpS M A E s m Q st)(h' : ¬ c->wpS M A E s n Q st):wpS M A E s (if c then m else n) Q st:=by
 by_cases z:c
 · rw[if_pos z];exact h z
 · rw[if_neg z];exact h' z
noncomputable abbrev D1(φ:Keyed->Int)(a b:Array Keyed)(st:SortSt)(n:Nat)(t:Option (Array Keyed)×Array Keyed×Nat×Nat×Nat)(st':SortSt):Prop:=∃ out ia ib g,t=(none,out,ia,ib,g)/\ae st st'/\ML φ a b out ia ib/\ia+1<a.size/\ib<b.size/\n+1<=ia+ib
noncomputable abbrev Dq{α:Type}(φ:Keyed->Int)(a b:Array Keyed)(st:SortSt)(t:Option (Array Keyed)×α)(st':SortSt):Prop:=∃ r x,t=(some r,x)/\ae st st'/\Good φ a b r
noncomputable abbrev D2(φ:Keyed->Int)(a b:Array Keyed)(st:SortSt)(p:Nat->Prop)(t:Option (Array Keyed)×Array Keyed×Nat×Nat×Nat×Nat)(st'':SortSt):Prop:=∃ out' fc eQ ac bc,t=(none,out',fc,eQ,ac,bc)/\ae st st''/\ML φ a b out' fc eQ/\fc+1<a.size/\eQ<b.size/\p (fc+eQ)
noncomputable abbrev D3(φ:Keyed->Int)(a b:Array Keyed)(st:SortSt)(m:Nat)(t:Option (Array Keyed)×Array Keyed×Nat×Nat×Nat×Nat×Nat)(st'':SortSt):Prop:=∃ out' fc eQ g ac bc,t=(none,out',fc,eQ,g,ac,bc)/\ae st st''/\ML φ a b out' fc eQ/\fc+1<a.size/\eQ<b.size/\m<fc+eQ
theorem L0(C:jr M A E s κ φ El){a b:Array Keyed}(T:mE φ El a b){Q:Array Keyed->SortSt->Prop}{st:SortSt}(hk:kindOf st=κ)(q:∀ m st',ae st st'->Good φ a b m->Q m st'):wpS M A E s (EC a b) Q st:=by
 obtain⟨x0,y0,hx0,jL,zu⟩:=T.h0
 have l0:=nI hx0
 have l1:=nI jL
 have start:ML φ a b #[y0] 0 1:=by
  have m0:ML φ a b #[] 0 0:=⟨List.Perm.refl _,.nil,by simpa using T.sa,by simpa using T.sb,fun x hx=>by simp at hx,fun x hx=>by simp at hx⟩
  exact m0.pb jL fun x hx=>Int.lt_of_lt_of_le zu (qa T.sa hx0 hx)
 unfold EC
 refine wpS_bind (wpS_lift (wpAny_rule ⟨rfl,?_⟩))
 dsimp only
 refine wpS_bind (eg jL ?_)
 by_cases c1:(1 == b.size)=true
 · rw[if_pos c1]
   exact wpS_pure (q _ _ (ae.refl _) (start.fB (beq_iff_eq.mp c1)))
 rw[if_neg c1]
 by_cases c2:(0+1 == a.size)=true
 · rw[if_pos c2]
   exact wpS_pure (q _ _ (ae.refl _) (start.last T (beq_iff_eq.mp c2)))
 rw[if_neg c2]
 rw[beq_iff_eq] at c1 c2
 refine wpS_bind (wpS_get ?_)
 refine wpS_bind (wpS_mono (wpS_forRange (I:=D1 φ a b st)
  (Q:=Dq φ a b st) ?step ?fin ⟨_,0,1,_,rfl,ae.refl _,start,by omega,by omega,by omega⟩) ?post)
 case fin =>
  rintro t st' ⟨out,ia,ib,g,rfl,_,_,h1,h2,h3⟩
  omega
 case post =>
  rintro t st' ⟨r,x,rfl,h,hg⟩
  exact wpS_pure (q r st' h hg)
 case step =>
  rintro n t st' _ hn ⟨out,ia,ib,g,rfl,hs,hm,h1,h2,h3⟩
  dsimp only
  refine wpS_bind (wpS_mono (wpS_forRange (I:=fun n=>D2 φ a b st fun m=>ia+ib+n<=m)
   (Q:=fun t st''=>Dq φ a b st t st''\/D2 φ a b st (fun m=>ia+ib<m) t st'') ?step ?fin ⟨out,ia,ib,0,0,rfl,hs,hm,h1,h2,Nat.le_refl _⟩) ?post)
  case fin =>
   rintro t st'' ⟨out',fc,eQ,ac,bc,rfl,hs',hm',h1',h2',h3'⟩
   exact .inr ⟨out',fc,eQ,ac,bc,rfl,hs',hm',h1',h2',by omega⟩
  case step =>
   rintro m t st'' _ hm2 ⟨out',fc,eQ,ac,bc,rfl,hs',hm',h1',h2',h3'⟩
   dsimp only
   obtain⟨y,hy⟩:=at_of h2'
   obtain⟨x,hx⟩:=at_of (a:=a) (i:=fc) (by omega)
   refine wpS_bind (eg hy ?_)
   refine wpS_bind (eg hx ?_)
   refine wpS_bind (C y x st'' _ (T.eb y (eP hy)) (T.ea x (eP hx)) (hs'.k.trans hk) ?_)
   dsimp only
   by_cases c:φ y<φ x
   · rw[if_pos (decide_eq_true c)]
     refine wpS_bind (eg hy ?_)
     have dX:=hm'.pb hy fun z hz=>Int.lt_of_lt_of_le c (qa T.sa hx hz)
     by_cases d:(eQ+1 == b.size)=true
     · rw[if_pos d]
       exact wpS_pure (.inl ⟨_,_,rfl,hs',dX.fB (beq_iff_eq.mp d)⟩)
     · rw[if_neg d]
       rw[beq_iff_eq] at d
       by_cases e:bc+1 ≥ g
       · rw[if_pos e]
         exact wpS_pure (.inr ⟨_,_,_,_,_,rfl,hs',dX,h1',by omega,by omega⟩)
       · rw[if_neg e]
         exact wpS_pure ⟨_,_,_,_,_,rfl,hs',dX,h1',by omega,by omega⟩
   · rw[if_neg (by simpa using c)]
     refine wpS_bind (eg hx ?_)
     have nn:=T.ne x (eP hx) y (eP hy)
     have dX:=hm'.pa hx fun z hz=>Int.lt_of_lt_of_le (show φ x<φ y by omega) (qa T.sb hy hz)
     by_cases d:(fc+1+1 == a.size)=true
     · rw[if_pos d]
       exact wpS_pure (.inl ⟨_,_,rfl,hs',dX.last T (beq_iff_eq.mp d)⟩)
     · rw[if_neg d]
       rw[beq_iff_eq] at d
       by_cases e:ac+1 ≥ g
       · rw[if_pos e]
         exact wpS_pure (.inr ⟨_,_,_,_,_,rfl,hs',dX,by omega,h2',by omega⟩)
       · rw[if_neg e]
         exact wpS_pure ⟨_,_,_,_,_,rfl,hs',dX,by omega,h2',by omega⟩
  case post =>
   rintro t st'' (⟨r,x,rfl,hs',hg⟩ | ⟨out',fc,eQ,ac,bc,rfl,hs',hm',h1',h2',h3'⟩)
   · exact wpS_pure ⟨r,_,rfl,hs',hg⟩
   dsimp only
   refine wpS_bind (wpS_lift (wpAny_rule ⟨rfl,?_⟩))
   refine wpS_bind (wpS_mono (wpS_forRange (I:=fun _=>D3 φ a b st (ia+ib))
    (Q:=fun t st''=>Dq φ a b st t st''\/D3 φ a b st (ia+ib) t st'') ?step (fun t st'' h=>.inr h) ⟨out',fc,eQ,_,ac,bc,rfl,hs',hm',h1',h2',h3'⟩) ?post)
   case post =>
    rintro t st3 (⟨r,x,rfl,hs',hg⟩ | ⟨out',fc,eQ,g,ac,bc,rfl,hs',hm',h1',h2',h3'⟩)
    · exact wpS_pure ⟨r,_,rfl,hs',hg⟩
    · exact wpS_bind (vm hs' fun zv hs4=>wpS_pure ⟨out',fc,eQ,_,rfl,hs4,hm',h1',h2',by omega⟩)
   case step =>
    rintro m t st3 _ hm2 ⟨out',fc,eQ,g,ac,bc,rfl,hs',hm',h1',h2',h3'⟩
    dsimp only
    obtain⟨y,hy⟩:=at_of h2'
    refine bA (fun _=>?_) fun _=>?_
    all_goals
     refine wpS_bind (vm hs' fun zv hs4=>?_)
     refine wpS_bind (eg hy ?_)
     refine wpS_bind (LY C T (st0:=st) (hs4.k.trans hk) hy (by omega) fun k k1 k2 k3=>?_)
     dsimp only
     refine bA (fun ck=>?_) fun ck=>?_
     case' refine_1 =>
      have hm1:=hm'.ka k2
      refine bA (fun d=>wpS_pure (.inl ⟨_,_,rfl,hs4,hm1.last T (beq_iff_eq.mp d)⟩)) fun d1=>?_
      refine bA (fun d=>wpS_pure (.inl ⟨_,_,rfl,hs4,hm1.fC (beq_iff_eq.mp d)⟩)) fun d2=>?_
      rw[beq_iff_eq] at d1 d2
      have h11:fc+k+1<a.size:=by omega
      have h31:ia+ib<fc+k+eQ:=by omega
     case' refine_2 =>
      have e0:k=0:=by omega
      rw[e0,Nat.add_zero] at k3
      have hm1:=hm'
      have h11:=h1'
      have h31:=h3'
     all_goals
      refine wpS_bind (eg hy ?_)
      have hm2:=hm1.pb hy k3
      refine bA (fun d=>wpS_pure (.inl ⟨_,_,rfl,hs4,hm2.fB (beq_iff_eq.mp d)⟩)) fun d3=>?_
      rw[beq_iff_eq] at d3
      obtain⟨x,hx⟩:=at_of (Nat.lt_of_succ_lt h11)
      refine wpS_bind (eg hx ?_)
      refine wpS_bind (LZ C T (hs4.k.trans hk) hx (show eQ+1<b.size by omega) fun j j1 j2 j3=>?_)
      dsimp only
      refine bA (fun cj=>?_) fun cj=>?_
      case' refine_1 =>
       have dX:=hm2.kb j2
       refine bA (fun d=>wpS_pure (.inl ⟨_,_,rfl,hs4,dX.fB (beq_iff_eq.mp d)⟩)) fun d4=>?_
       rw[beq_iff_eq] at d4
       have h21:eQ+1+j<b.size:=by omega
      case' refine_2 =>
       have e1:j=0:=by omega
       rw[e1,Nat.add_zero] at j3
       have dX:=hm2
       have h21:eQ+1<b.size:=by omega
      all_goals
       refine wpS_bind (eg hx ?_)
       have oP:=dX.pa hx j3
       refine bA (fun d=>wpS_pure (.inl ⟨_,_,rfl,hs4,oP.last T (beq_iff_eq.mp d)⟩)) fun d5=>?_
       rw[beq_iff_eq] at d5
       refine bA (fun _=>?_) fun _=>?_
       · exact wpS_pure (.inr ⟨_,_,_,_,_,_,rfl,hs4,oP,by omega,h21,by omega⟩)
       · exact wpS_pure ⟨_,_,_,_,_,_,rfl,hs4,oP,by omega,h21,by omega⟩
end
theorem Mg.r9{α:Type}{R:α->α->Prop}{base out ra rb:List α}(h:Mg R base out ra rb)(hl:∀ x∈ra,∀ y∈rb,R x y):(out++ra++rb).Pairwise R/\(out++ra++rb).Perm base:=by
 have h':Mg R base out (ra++[]) rb:=by simpa using h
 exact(h'.a hl).oO
section
variable{a:Array Keyed}{i k:Nat}{x:Keyed}
theorem EH(h:a[i]? = some x):(a.toList.take (i+1)).reverse=[x]++(a.toList.take i).reverse:=by
 have h':a.toList[i]? = some x:=by simpa using h
 rw[List.take_succ,h',List.reverse_append]
 rfl
theorem EI(h:i<=k):(a.toList.take k).reverse=((a.extract i k).reverse).toList++(a.toList.take i).reverse:=by
 rw[Array.toList_reverse,Array.toList_extract, <- List.reverse_append]
 show _=(a.toList.take i++(a.toList.drop i).take (k - i)).reverse
 congr 1
 have:=List.take_add (l:=a.toList) (i:=i) (j:=k - i)
 rw[<- this]
 congr 1
 omega
theorem qb(k:Nat):(a.extract 0 k).toList=a.toList.take k:=by
 rw[Array.toList_extract]
 rfl
theorem vn(h:x∈a.toList.take k):∃ j,j<k/\a[j]? = some x:=by
 have:=vj (a:=a) (i:=0) (k:=k) (x:=x) (by simpa using h)
 simpa using this
theorem EJ(h:x∈((a.extract i k).reverse).toList):∃ j,i<=j/\j<k/\a[j]? = some x:=by
 rw[Array.toList_reverse,List.mem_reverse,Array.toList_extract] at h
 have h:x∈(a.toList.drop i).take (k - i):=h
 obtain⟨j,hj,e⟩:=vj h
 exact⟨i+j,by omega,by omega,e⟩
end
section
variable{M:Model}{A:Around}{E:Value->Shared->Prop}{s:Shared}{κ:SortKind}{φ:Keyed->Int}{El:Keyed->Prop}
noncomputable abbrev MH(φ:Keyed->Int)(a b out:Array Keyed)(na nb:Nat):Prop:=Mg (fun x y=>φ y<φ x) (a.toList++b.toList) out.toList (a.toList.take na).reverse (b.toList.take nb).reverse
theorem zw{a b m:Array Keyed}{l:List Keyed}(e:m.toList=l.reverse)(h:(l.Pairwise fun x y=>φ y<φ x)/\l.Perm (a.toList++b.toList)):Good φ a b m:=by
 unfold Good
 rw[e]
 exact⟨List.pairwise_reverse.mpr h.1,(List.reverse_perm l).trans h.2⟩
section
variable{a b out:Array Keyed}{na nb k:Nat}{x y:Keyed}
theorem MH.fC(h:MH φ a b out na nb)(e:na=0):Good φ a b (a.extract 0 na++b.extract 0 nb++out.reverse):=by
 subst e
 have h':Mg (fun x y=>φ y<φ x) (a.toList++b.toList) out.toList [] (b.toList.take nb).reverse:=h
 refine zw ?_ h'.oO
 rw[Array.toList_append,Array.toList_append,qb,qb,Array.toList_reverse,List.reverse_append,List.reverse_reverse]
 simp
theorem MH.fB(h:MH φ a b out na nb)(e:nb=0):Good φ a b (a.extract 0 na++b.extract 0 nb++out.reverse):=by
 subst e
 have h':Mg (fun x y=>φ y<φ x) (a.toList++b.toList) out.toList (a.toList.take na).reverse []:=h
 refine zw ?_ h'.oN
 rw[Array.toList_append,Array.toList_append,qb,qb,Array.toList_reverse,List.reverse_append,List.reverse_reverse]
 simp
theorem MH.first(T:mE φ El a b)(h:MH φ a b out na nb)(e:nb=1):Good φ a b (b.extract 0 nb++a.extract 0 na++out.reverse):=by
 refine zw ?_ (h.r9 fun x hx y hy=>?_)
 · rw[Array.toList_append,Array.toList_append,qb,qb,Array.toList_reverse,List.reverse_append,List.reverse_append,List.reverse_reverse,List.reverse_reverse]
   simp
 · obtain⟨x0,y0,hx0,jL,zu⟩:=T.h0
   obtain⟨j,hj,ej⟩:=vn (List.mem_reverse.mp hy)
   rw[show j=0 by omega,jL] at ej
   cases ej
   have:=qa T.sa hx0 (y:=x) (by simpa using List.mem_of_mem_take (List.mem_reverse.mp hx))
   omega
theorem MH.pa(h:MH φ a b out (na+1) nb)(e:a[na]? = some x)(hx:∀ y∈b.toList.take nb,φ y<φ x):MH φ a b (out.push x) na nb:=by
 unfold MH at h ⊢
 rw[EH e] at h
 rw[Array.toList_push]
 exact h.a fun z hz y hy=>by rw[List.mem_singleton.mp hz];exact hx y (List.mem_reverse.mp hy)
theorem MH.pb(h:MH φ a b out na (nb+1))(e:b[nb]? = some y)(hy:∀ x∈a.toList.take na,φ x<φ y):MH φ a b (out.push y) na nb:=by
 unfold MH at h ⊢
 rw[EH e] at h
 rw[Array.toList_push]
 exact h.b fun z hz x hx=>by rw[List.mem_singleton.mp hz];exact hy x (List.mem_reverse.mp hx)
theorem MH.ka(h:MH φ a b out na nb)(l:k<=na)(hx:∀ x j,k<=j->j<na->a[j]? = some x->∀ y∈b.toList.take nb,φ y<φ x):MH φ a b (out++(a.extract k na).reverse) k nb:=by
 unfold MH at h ⊢
 rw[EI l] at h
 rw[Array.toList_append]
 refine h.a fun x z y hy=>?_
 obtain⟨j,j1,j2,e⟩:=EJ z
 exact hx x j j1 j2 e y (List.mem_reverse.mp hy)
theorem MH.kb(h:MH φ a b out na nb)(l:k<=nb)(hx:∀ y j,k<=j->j<nb->b[j]? = some y->∀ x∈a.toList.take na,φ x<φ y):MH φ a b (out++(b.extract k nb).reverse) na k:=by
 unfold MH at h ⊢
 rw[EI l] at h
 rw[Array.toList_append]
 refine h.b fun y z x hx'=>?_
 obtain⟨j,j1,j2,e⟩:=EJ z
 exact hx y j j1 j2 e x (List.mem_reverse.mp hx')
theorem vo(sa:a.toList.Pairwise fun x y=>φ x<φ y){i:Nat}(hi:a[i]? = some x)(h:y∈a.toList.take (i+1)):φ y<=φ x:=by
 obtain⟨j,hj,e⟩:=vn h
 by_cases z:j=i
 · rw[z,hi] at e;cases e;exact Int.le_refl _
 · exact Int.le_of_lt (p_ sa e hi (by omega))
end
theorem L1(C:jr M A E s κ φ El){a b:Array Keyed}(T:mE φ El a b){st:SortSt}{na nb:Nat}{y:Keyed}{Q:Option Nat->SortSt->Prop}(hk:kindOf st=κ)(ey:b[nb]? = some y)(hi:na<a.size)
 (q:∀ k,k<=na+1->(∀ x j,k<=j->j<na+1->a[j]? = some x->∀ z∈b.toList.take (nb+1),φ z<φ x)->(∀ x∈a.toList.take k,φ x<φ y)->Q (some k) st):wpS M A E s (pY false y a 0 (na+1) na) Q st:=by
 have my:=eP ey
 refine pZ C (p:=fun i=>match a[i]? with | some x => !decide (φ y<φ x) | none=>false) hk (T.eb y my) (fun i z=>?_) (fun i j z z' h=>?_) (by omega) fun k c=>q k c.le ?_ ?_
 · obtain⟨x,hx⟩:=at_of (a:=a) (i:=i) (by omega)
   exact⟨x,by rw[Nat.zero_add];exact hx,T.ea x (eP hx),by rw[hx];rfl⟩
 · obtain⟨x,hx⟩:=at_of (a:=a) (i:=i) (by omega)
   obtain⟨x',hx'⟩:=at_of (a:=a) (i:=j) (by omega)
   dsimp only at h ⊢
   rw[hx'] at h
   rw[hx]
   dsimp only at h ⊢
   rw[Bool.not_eq_true',decide_eq_false_iff_not] at h ⊢
   by_cases e:i=j
   · subst e;rw[hx] at hx';cases hx';exact h
   · have:=p_ T.sa hx hx' (by omega);omega
 · intro x j hj hj' e z hz
   have zl:=vo T.sb ey hz
   have:=c.hi j hj hj'
   rw[e] at this
   rw[Bool.not_eq_false'] at this
   have:=of_decide_eq_true this
   omega
 · intro x hx
   obtain⟨j,hj,e⟩:=vn hx
   have:=c.lo j hj
   rw[e] at this
   rw[Bool.not_eq_true',decide_eq_false_iff_not] at this
   have n:=T.ne x (eP e) y my
   omega
theorem L3(C:jr M A E s κ φ El){a b:Array Keyed}(T:mE φ El a b){st:SortSt}{na nb:Nat}{x:Keyed}{Q:Option Nat->SortSt->Prop}(hk:kindOf st=κ)(ex:a[na]? = some x)(hi:nb<b.size)
 (q:∀ k,k<=nb+1->(∀ y j,k<=j->j<nb+1->b[j]? = some y->∀ z∈a.toList.take (na+1),φ z<φ y)->(∀ y∈b.toList.take k,φ y<φ x)->Q (some k) st):wpS M A E s (pY true x b 0 (nb+1) nb) Q st:=by
 have mx:=eP ex
 refine pZ C (p:=fun i=>match b[i]? with | some y=>decide (φ y<φ x) | none=>false) hk (T.ea x mx) (fun i z=>?_) (fun i j z z' h=>?_) (by omega) fun k c=>q k c.le ?_ ?_
 · obtain⟨y,hy⟩:=at_of (a:=b) (i:=i) (by omega)
   exact⟨y,by rw[Nat.zero_add];exact hy,T.eb y (eP hy),by rw[hy];rfl⟩
 · obtain⟨y,hy⟩:=at_of (a:=b) (i:=i) (by omega)
   obtain⟨y',hy'⟩:=at_of (a:=b) (i:=j) (by omega)
   dsimp only at h ⊢
   rw[hy'] at h
   rw[hy]
   dsimp only at h ⊢
   have h:=of_decide_eq_true h
   refine decide_eq_true ?_
   by_cases e:i=j
   · subst e;rw[hy] at hy';cases hy';exact h
   · have:=p_ T.sb hy hy' (by omega);omega
 · intro y j hj hj' e z hz
   have zl:=vo T.sa ex hz
   have:=c.hi j hj hj'
   rw[e] at this
   have:=of_decide_eq_false this
   have n:=T.ne x mx y (eP e)
   omega
 · intro y hy
   obtain⟨j,hj,e⟩:=vn hy
   have:=c.lo j hj
   rw[e] at this
   exact of_decide_eq_true this
end
section
variable{M:Model}{A:Around}{E:Value->Shared->Prop}{s:Shared}{κ:SortKind}{φ:Keyed->Int}{El:Keyed->Prop}
noncomputable abbrev F1(φ:Keyed->Int)(a b:Array Keyed)(st:SortSt)(n:Nat)(t:Option (Array Keyed)×Nat×Nat×Array Keyed×Nat)(st':SortSt):Prop:=∃ out na nb g,t=(none,na+1,nb+2,out,g)/\ae st st'/\MH φ a b out (na+1) (nb+2)/\na+1<a.size/\nb+1<b.size/\na+nb+4+n<=a.size+b.size
noncomputable abbrev F2(φ:Keyed->Int)(a b:Array Keyed)(st:SortSt)(na nb:Nat)(p:Nat->Prop)(t:Option (Array Keyed)×Nat×Nat×Array Keyed×Nat×Nat)(st'':SortSt):Prop:=∃ out' dI df ac bc,t=(none,dI+1,df+2,out',ac,bc)/\ae st st''/\MH φ a b out' (dI+1) (df+2)/\dI<=na/\df<=nb/\p (dI+df)
noncomputable abbrev F3(φ:Keyed->Int)(a b:Array Keyed)(st:SortSt)(na nb:Nat)(t:Option (Array Keyed)×Nat×Nat×Array Keyed×Nat×Nat×Nat)(st'':SortSt):Prop:=∃ out' dI df g ac bc,t=(none,dI+1,df+2,out',g,ac,bc)/\ae st st''/\MH φ a b out' (dI+1) (df+2)/\dI<=na/\df<=nb/\dI+df<na+nb
theorem L4(C:jr M A E s κ φ El){a b:Array Keyed}(T:mE φ El a b){Q:Array Keyed->SortSt->Prop}{st:SortSt}(hk:kindOf st=κ)(q:∀ m st',ae st st'->Good φ a b m->Q m st'):wpS M A E s (ED a b) Q st:=by
 obtain⟨x0,y0,hx0,jL,zu⟩:=T.h0
 obtain⟨xl,oQ,gl⟩:=T.hl
 have l0:=nI hx0
 have l1:=nI jL
 have start:MH φ a b #[xl] (a.size - 1) b.size:=by
  have m0:MH φ a b #[] (a.size - 1+1) b.size:=by
   have e1:a.toList.take (a.size - 1+1)=a.toList:=List.take_of_length_le (by simp;omega)
   have e2:b.toList.take b.size=b.toList:=List.take_of_length_le (by simp)
   unfold MH
   rw[e1,e2]
   refine⟨?_,.nil,List.pairwise_reverse.mpr T.sa,List.pairwise_reverse.mpr T.sb,fun x hx=>by simp at hx,fun x hx=>by simp at hx⟩
   exact(List.reverse_perm _).append (List.reverse_perm _)
  exact m0.pa oQ fun y hy=>gl y (List.mem_of_mem_take hy)
 unfold ED
 refine wpS_bind (wpS_lift (wpAny_rule ⟨rfl,?_⟩))
 dsimp only
 refine wpS_bind (eg oQ ?_)
 refine bA (fun c=>wpS_pure (q _ _ (ae.refl _) (start.fC (beq_iff_eq.mp c)))) fun c1=>?_
 refine bA (fun c=>wpS_pure (q _ _ (ae.refl _) (start.first T (beq_iff_eq.mp c)))) fun c2=>?_
 rw[beq_iff_eq] at c1 c2
 refine wpS_bind (wpS_get ?_)
 refine wpS_bind (wpS_mono (wpS_forRange (I:=F1 φ a b st)
  (Q:=Dq φ a b st) ?step ?fin ⟨_,a.size - 2,b.size - 2,_,by rw[show a.size - 2+1=a.size - 1 by omega,show b.size - 2+2=b.size by omega],ae.refl _,by rw[show a.size - 2+1=a.size - 1 by omega,show b.size - 2+2=b.size by omega];exact start,by omega,by omega,by omega⟩) ?post)
 case fin =>
  rintro t st' ⟨out,na,nb,g,rfl,_,_,h1,h2,h3⟩
  omega
 case post =>
  rintro t st' ⟨r,x,rfl,h,hg⟩
  exact wpS_pure (q r st' h hg)
 case step =>
  rintro n t st' _ hn ⟨out,na,nb,g,rfl,hs,hm,h1,h2,h3⟩
  dsimp only
  refine wpS_bind (wpS_mono (wpS_forRange (I:=fun n=>F2 φ a b st na nb fun m=>m+n<=na+nb)
   (Q:=fun t st''=>Dq φ a b st t st''\/F2 φ a b st na nb (fun m=>m<na+nb) t st'') ?step ?fin ⟨out,na,nb,0,0,rfl,hs,hm,Nat.le_refl _,Nat.le_refl _,Nat.le_refl _⟩) ?post)
  case fin =>
   rintro t st'' ⟨out',dI,df,ac,bc,rfl,hs',hm',h1',h2',h3'⟩
   exact .inr ⟨out',dI,df,ac,bc,rfl,hs',hm',h1',h2',by omega⟩
  case step =>
   rintro m t st'' _ hm2 ⟨out',dI,df,ac,bc,rfl,hs',hm',h1',h2',h3'⟩
   dsimp only
   obtain⟨y,hy⟩:=at_of (a:=b) (i:=df+1) (by omega)
   obtain⟨x,hx⟩:=at_of (a:=a) (i:=dI) (by omega)
   refine wpS_bind (eg hy ?_)
   refine wpS_bind (eg hx ?_)
   refine wpS_bind (C y x st'' _ (T.eb y (eP hy)) (T.ea x (eP hx)) (hs'.k.trans hk) ?_)
   dsimp only
   refine bA (fun c=>?_) fun c=>?_
   · have c:=of_decide_eq_true c
     refine wpS_bind (eg hx ?_)
     have dX:=hm'.pa hx fun z hz=>Int.lt_of_le_of_lt (vo T.sb hy hz) c
     refine bA (fun d=>wpS_pure (.inl ⟨_,_,rfl,hs',dX.fC (beq_iff_eq.mp d)⟩)) fun d=>?_
     rw[beq_iff_eq] at d
     obtain⟨p,rfl⟩:∃ p,dI=p+1:=⟨dI - 1,by omega⟩
     refine bA (fun _=>?_) fun _=>?_
     · exact wpS_pure (.inr ⟨_,p,df,_,_,rfl,hs',dX,by omega,h2',by omega⟩)
     · exact wpS_pure ⟨_,p,df,_,_,rfl,hs',dX,by omega,h2',by omega⟩
   · have c : ¬ φ y<φ x:=by simpa using c
     have nn:=T.ne x (eP hx) y (eP hy)
     refine wpS_bind (eg hy ?_)
     have dX:=hm'.pb hy fun z hz=>Int.lt_of_le_of_lt (vo T.sa hx hz) (show φ x<φ y by omega)
     refine bA (fun d=>wpS_pure (.inl ⟨_,_,rfl,hs',dX.first T (beq_iff_eq.mp d)⟩)) fun d=>?_
     rw[beq_iff_eq] at d
     obtain⟨p,rfl⟩:∃ p,df=p+1:=⟨df - 1,by omega⟩
     refine bA (fun _=>?_) fun _=>?_
     · exact wpS_pure (.inr ⟨_,dI,p,_,_,rfl,hs',dX,h1',by omega,by omega⟩)
     · exact wpS_pure ⟨_,dI,p,_,_,rfl,hs',dX,h1',by omega,by omega⟩
  case post =>
   rintro t st'' (⟨r,x,rfl,hs',hg⟩ | ⟨out',dI,df,ac,bc,rfl,hs',hm',h1',h2',h3'⟩)
   · exact wpS_pure ⟨r,_,rfl,hs',hg⟩
   dsimp only
   refine wpS_bind (wpS_lift (wpAny_rule ⟨rfl,?_⟩))
   refine wpS_bind (wpS_mono (wpS_forRange (I:=fun _=>F3 φ a b st na nb)
    (Q:=fun t st''=>Dq φ a b st t st''\/F3 φ a b st na nb t st'') ?step (fun t st'' h=>.inr h) ⟨out',dI,df,_,ac,bc,rfl,hs',hm',h1',h2',h3'⟩) ?post)
   case post =>
    rintro t st3 (⟨r,x,rfl,hs',hg⟩ | ⟨out',dI,df,g,ac,bc,rfl,hs',hm',h1',h2',h3'⟩)
    · exact wpS_pure ⟨r,_,rfl,hs',hg⟩
    · exact wpS_bind (vm hs' fun zv hs4=>wpS_pure ⟨out',dI,df,_,rfl,hs4,hm',by omega,by omega,by omega⟩)
   case step =>
    rintro m t st3 _ hm2 ⟨out',dI,df,g,ac,bc,rfl,hs',hm',h1',h2',h3'⟩
    dsimp only
    obtain⟨y,hy⟩:=at_of (a:=b) (i:=df+1) (by omega)
    refine bA (fun _=>?_) fun _=>?_
    all_goals
     refine wpS_bind (vm hs' fun zv hs4=>?_)
     refine wpS_bind (eg hy ?_)
     refine wpS_bind (L1 C T (na:=dI) (hs4.k.trans hk) hy (by omega) fun k k1 k2 k3=>?_)
     dsimp only
     refine bA (fun ck=>?_) fun ck=>?_
     case' refine_1 =>
      have hm1:=hm'.ka k1 k2
      refine bA (fun d=>wpS_pure (.inl ⟨_,_,rfl,hs4,hm1.fC (beq_iff_eq.mp d)⟩)) fun d1=>?_
      rw[beq_iff_eq] at d1
      obtain⟨p,rfl⟩:∃ p,k=p+1:=⟨k - 1,by omega⟩
      have h11:p<=na:=by omega
      have h31:p+df<na+nb:=by omega
     case' refine_2 =>
      have e0:k=dI+1:=by omega
      subst e0
      obtain⟨p,hp⟩:∃ p,p=dI:=⟨_,rfl⟩
      subst hp
      have hm1:=hm'
      have h11:=h1'
      have h31:=h3'
     all_goals
      refine wpS_bind (eg hy ?_)
      have hm2:=hm1.pb hy k3
      refine bA (fun d=>wpS_pure (.inl ⟨_,_,rfl,hs4,hm2.first T (beq_iff_eq.mp d)⟩)) fun d3=>?_
      rw[beq_iff_eq] at d3
      obtain⟨x,hx⟩:=at_of (a:=a) (i:=p) (by omega)
      refine wpS_bind (eg hx ?_)
      refine wpS_bind (L3 C T (nb:=df) (hs4.k.trans hk) hx (by omega) fun j j1 j2 j3=>?_)
      dsimp only
      refine bA (fun cj=>?_) fun cj=>?_
      case' refine_1 =>
       have dX:=hm2.kb j1 j2
       refine bA (fun d=>wpS_pure (.inl ⟨_,_,rfl,hs4,dX.first T (beq_iff_eq.mp d)⟩)) fun d4=>?_
       refine bA (fun d=>wpS_pure (.inl ⟨_,_,rfl,hs4,dX.fB (beq_iff_eq.mp d)⟩)) fun d6=>?_
       rw[beq_iff_eq] at d4 d6
       obtain⟨u,rfl⟩:∃ u,j=u+2:=⟨j - 2,by omega⟩
       have h21:u<=nb:=by omega
       have L5:p+u<na+nb:=by omega
      case' refine_2 =>
       obtain⟨u,rfl⟩:∃ u,df=u+1:=⟨df - 1,by omega⟩
       have e1:j=u+2:=by omega
       subst e1
       have dX:=hm2
       have h21:u<=nb:=by omega
       have L5:p+u<na+nb:=by omega
      all_goals
       refine wpS_bind (eg hx ?_)
       have oP:=dX.pa hx j3
       refine bA (fun d=>wpS_pure (.inl ⟨_,_,rfl,hs4,oP.fC (beq_iff_eq.mp d)⟩)) fun d5=>?_
       rw[beq_iff_eq] at d5
       obtain⟨v,rfl⟩:∃ v,p=v+1:=⟨p - 1,by omega⟩
       refine bA (fun _=>?_) fun _=>?_
       · exact wpS_pure (.inr ⟨_,v,u,_,_,_,rfl,hs4,oP,by omega,h21,by omega⟩)
       · exact wpS_pure ⟨_,v,u,_,_,_,rfl,hs4,oP,by omega,h21,by omega⟩
end
theorem wb{α:Type}:∀ (m:List α) (a:Array α) (o j:Nat),o+j+m.length<=a.size->((m.zipIdx j).foldl (fun a x=>a.setIfInBounds (o+x.2) x.1) a).toList=a.toList.take (o+j)++m++a.toList.drop (o+j+m.length)
 | [],a,o,j,h=>by simp
 |x::m,a,o,j,h=>by
   rw[List.length_cons] at h
   rw[List.zipIdx_cons,List.foldl_cons,wb m _ o (j+1) (by rw[Array.size_setIfInBounds];omega)]
   have lt:o+j<a.toList.length:=by simp;omega
   rw[Array.toList_setIfInBounds]
   show(a.toList.set (o+j) x).take (o+(j+1))++m++(a.toList.set (o+j) x).drop (o+(j+1)+m.length)=_
   rw[List.drop_set_of_lt (by omega),show o+(j+1)=o+j+1 by omega,List.take_succ,List.take_set_of_le (Nat.le_refl _),List.getElem?_set_self lt,List.length_cons]
   simp only[Option.toList_some,List.append_assoc,List.cons_append,List.nil_append]
   rw[show o+j+1+m.length=o+j+(m.length+1) by omega]
section
variable{M:Model}{A:Around}{E:Value->Shared->Prop}{s:Shared}{κ:SortKind}{φ:Keyed->Int}{El:Keyed->Prop}
section
variable{arr:Array Keyed}{pre X Y post:List Keyed}
theorem gX(ha:arr.toList=pre++X++Y++post){j:Nat}{x:Keyed}(h:X[j]? = some x):arr[pre.length+j]? = some x:=by
 rw[<- Array.getElem?_toList,ha,List.append_assoc,List.append_assoc,List.getElem?_append_right (by omega),Nat.add_sub_cancel_left,List.getElem?_append_left (List.getElem?_eq_some_iff.mp h).1]
 exact h
theorem gY(ha:arr.toList=pre++X++Y++post){j:Nat}{y:Keyed}(h:Y[j]? = some y):arr[pre.length+X.length+j]? = some y:=by
 rw[<- Array.getElem?_toList,ha,List.append_assoc,List.getElem?_append_right (by rw[List.length_append];omega),List.length_append,Nat.add_sub_cancel_left,List.getElem?_append_left (List.getElem?_eq_some_iff.mp h).1]
 exact h
theorem xX(ha:arr.toList=pre++X++Y++post){k:Nat}(h:k<=X.length):(arr.extract (pre.length+k) (pre.length+X.length)).toList=X.drop k:=by
 rw[Array.toList_extract]
 show(arr.toList.drop (pre.length+k)).take (pre.length+X.length - (pre.length+k))=_
 rw[ha,List.append_assoc,List.append_assoc,List.drop_append,List.drop_eq_nil_of_le (by omega),Nat.add_sub_cancel_left,List.nil_append,List.drop_append_of_le_length h,List.take_append_of_le_length (by rw[List.length_drop];omega),List.take_of_length_le (by rw[List.length_drop];omega)]
theorem xY(ha:arr.toList=pre++X++Y++post){k:Nat}(h:k<=Y.length):(arr.extract (pre.length+X.length) (pre.length+X.length+k)).toList=Y.take k:=by
 rw[zt,ha,List.append_assoc (pre++X),List.drop_append,List.drop_eq_nil_of_le (by simp),List.length_append,Nat.sub_self,List.drop_zero,List.nil_append,List.take_append_of_le_length h]
end
theorem L6(C:jr M A E s κ φ El){i:Nat}{Q:Bool->SortSt->Prop}{st:SortSt}{pre X Y post:List Keyed}{p1 p2:Nat}(hk:kindOf st=κ)(hf:failedOf st=none)(ha:(arrOf st).toList=pre++X++Y++post)(h1:(pendingOf st)[i]? = some (pre.length,X.length,p1))(h2:(pendingOf st)[i+1]? = some (pre.length+X.length,Y.length,p2))
 (eX:∀ x∈X,El x) (eY:∀ x∈Y,El x) (sX:X.Pairwise fun x y=>φ x<φ y) (sY:Y.Pairwise fun x y=>φ x<φ y) (ne:∀ x∈X,∀ y∈Y,φ x≠φ y) (nX:X≠[]) (nY:Y≠[])
 (q:∀ st' Z,kindOf st'=κ->failedOf st'=none->pendingOf st'=((pendingOf st).setIfInBounds i (pre.length,X.length+Y.length,p1)).eraseIdxIfInBounds (i+1)->(arrOf st').toList=pre++Z++post->(Z.Pairwise fun x y=>φ x<φ y)->Z.Perm (X++Y)->Q true st'):wpS M A E s (mergeAt' i) Q st:=by
 have lX:0<X.length:=List.length_pos_iff.mpr nX
 have lY:0<Y.length:=List.length_pos_iff.mpr nY
 have pw:∀ {l:List Keyed},(l.Pairwise fun x y=>φ x<φ y)->∀ {i j:Nat} {x y:Keyed},l[i]? = some x->l[j]? = some y->i<j->φ x<φ y:=fun {l} hl i j x y hi hj lt=>by
  obtain⟨a1,a2⟩:=List.getElem?_eq_some_iff.mp hi
  obtain⟨b1,b2⟩:=List.getElem?_eq_some_iff.mp hj
  rw[<- a2, <- b2]
  exact List.pairwise_iff_getElem.mp hl i j a1 b1 lt
 have pw':∀ {l:List Keyed},(l.Pairwise fun x y=>φ x<φ y)->∀ {i j:Nat} {x y:Keyed},l[i]? = some x->l[j]? = some y->i<=j->φ x<=φ y:=fun {l} hl i j x y hi hj le=>by
  by_cases e:i=j
  · subst e;rw[hi] at hj;cases hj;exact Int.le_refl _
  · exact Int.le_of_lt (pw hl hi hj (by omega))
 obtain⟨y0,jL⟩:∃ y,Y[0]? = some y:=⟨_,List.getElem?_eq_getElem lY⟩
 obtain⟨xl,oQ⟩:∃ x,X[X.length - 1]? = some x:=⟨_,List.getElem?_eq_getElem (by omega)⟩
 have EK:=List.mem_of_getElem? jL
 have EL:=List.mem_of_getElem? oQ
 have whole:(∀ x∈X,∀ y∈Y,φ x<φ y)->∀ st',kindOf st'=kindOf st->failedOf st'=failedOf st->pendingOf st'=((pendingOf st).setIfInBounds i (pre.length,X.length+Y.length,p1)).eraseIdxIfInBounds (i+1)->arrOf st'=arrOf st->Q true st':=fun h st' z1 z2 z3 z4 =>
  q st' (X++Y) (z1.trans hk) (z2.trans hf) z3 (by rw[z4,ha];simp) (List.pairwise_append.mpr ⟨sX,sY,h⟩) (List.Perm.refl _)
 unfold mergeAt'
 refine wpS_bind (wpS_get ?_)
 dsimp only
 rw[h1,h2]
 dsimp only
 refine wpS_bind (wpS_modify (f:=fun _=>_) ?_)
 refine wpS_bind (eg (gY ha jL) ?_)
 refine wpS_bind (pZ C (p:=fun j=>match X[j]? with | some x => !decide (φ y0<φ x) | none=>false) hk (eY y0 EK) (fun j z=>?_) (fun a b z z' h=>?_) lX fun k c=>?_)
 · obtain⟨x,hx⟩:∃ x,X[j]? = some x:=⟨_,List.getElem?_eq_getElem z⟩
   exact⟨x,gX ha hx,eX x (List.mem_of_getElem? hx),by rw[hx];rfl⟩
 · obtain⟨x,hx⟩:∃ x,X[a]? = some x:=⟨_,List.getElem?_eq_getElem (by omega)⟩
   obtain⟨x',hx'⟩:∃ x,X[b]? = some x:=⟨_,List.getElem?_eq_getElem z'⟩
   dsimp only at h ⊢
   rw[hx'] at h
   rw[hx]
   dsimp only at h ⊢
   rw[Bool.not_eq_true',decide_eq_false_iff_not] at h ⊢
   have:=pw' sX hx hx' z
   omega
 have EM:=c.le
 have lo1:∀ j x,j<k->X[j]? = some x->φ x<φ y0:=fun j x hj hx=>by
  have:=c.lo j hj
  rw[hx] at this
  dsimp only at this
  rw[Bool.not_eq_true',decide_eq_false_iff_not] at this
  have:=ne x (List.mem_of_getElem? hx) y0 EK
  omega
 have hi1:∀ j x,k<=j->X[j]? = some x->φ y0<φ x:=fun j x hj hx=>by
  have:=c.hi j hj (List.getElem?_eq_some_iff.mp hx).1
  rw[hx] at this
  dsimp only at this
  rw[Bool.not_eq_false'] at this
  exact of_decide_eq_true this
 have r_:∀ y∈Y,φ y0<=φ y:=fun y hy=>by
  obtain⟨j,hj⟩:=List.mem_iff_getElem?.mp hy
  exact pw' sY jL hj (Nat.zero_le _)
 have oR:∀ x∈X,φ x<=φ xl:=fun x hx=>by
  obtain⟨j,hj⟩:=List.mem_iff_getElem?.mp hx
  have:=(List.getElem?_eq_some_iff.mp hj).1
  exact pw' sX hj oQ (by omega)
 dsimp only
 refine bA (fun d=>wpS_pure (whole (fun x hx y hy=>?_) _ rfl rfl rfl rfl)) fun d1=>?_
 · rw[beq_iff_eq] at d
   obtain⟨j,hj⟩:=List.mem_iff_getElem?.mp hx
   have:=(List.getElem?_eq_some_iff.mp hj).1
   exact Int.lt_of_lt_of_le (lo1 j x (by omega) hj) (r_ y hy)
 rw[beq_iff_eq] at d1
 have sf:=gX ha oQ
 rw[show pre.length+(X.length - 1)=pre.length+k+(X.length - k) - 1 by omega] at sf
 refine wpS_bind (eg sf ?_)
 refine wpS_bind (pZ C (p:=fun j=>match Y[j]? with | some y=>decide (φ y<φ xl) | none=>false) hk (eX xl EL) (fun j z=>?_) (fun a b z z' h=>?_) (by omega) fun k2 c2=>?_)
 · obtain⟨y,hy⟩:∃ y,Y[j]? = some y:=⟨_,List.getElem?_eq_getElem z⟩
   exact⟨y,gY ha hy,eY y (List.mem_of_getElem? hy),by rw[hy];rfl⟩
 · obtain⟨y,hy⟩:∃ y,Y[a]? = some y:=⟨_,List.getElem?_eq_getElem (by omega)⟩
   obtain⟨y',hy'⟩:∃ y,Y[b]? = some y:=⟨_,List.getElem?_eq_getElem z'⟩
   dsimp only at h ⊢
   rw[hy'] at h
   rw[hy]
   dsimp only at h ⊢
   have h:=of_decide_eq_true h
   have:=pw' sY hy hy' z
   exact  decide_eq_true (by omega)
 have sg:=c2.le
 have lo2:∀ j y,j<k2->Y[j]? = some y->φ y<φ xl:=fun j y hj hy=>by
  have:=c2.lo j hj
  rw[hy] at this
  exact of_decide_eq_true this
 have hi2:∀ j y,k2<=j->Y[j]? = some y->φ xl<φ y:=fun j y hj hy=>by
  have:=c2.hi j hj (List.getElem?_eq_some_iff.mp hy).1
  rw[hy] at this
  have:=of_decide_eq_false this
  have:=ne xl EL y (List.mem_of_getElem? hy)
  omega
 dsimp only
 refine bA (fun d=>wpS_pure (whole (fun x hx y hy=>?_) _ rfl rfl rfl rfl)) fun d2=>?_
 · rw[beq_iff_eq] at d
   obtain⟨j,hj⟩:=List.mem_iff_getElem?.mp hy
   exact Int.lt_of_le_of_lt (oR x hx) (hi2 j y (by omega) hj)
 rw[beq_iff_eq] at d2
 have e1:=xX ha EM
 have e2:=xY ha sg
 have m5:((arrOf st).extract (pre.length+k) (pre.length+X.length)).size=X.length - k:=by rw[<- Array.length_toList,e1,List.length_drop]
 have T:mE φ El ((arrOf st).extract (pre.length+k) (pre.length+X.length)) ((arrOf st).extract (pre.length+X.length) (pre.length+X.length+k2)):=by
  refine⟨?_,?_,?_,?_,?_,?_,?_⟩
  · rw[e1];exact fun x hx=>eX x (List.mem_of_mem_drop hx)
  · rw[e2];exact fun x hx=>eY x (List.mem_of_mem_take hx)
  · rw[e1];exact sX.sublist (List.drop_sublist _ _)
  · rw[e2];exact sY.sublist (List.take_sublist _ _)
  · rw[e1,e2];exact fun x hx y hy=>ne x (List.mem_of_mem_drop hx) y (List.mem_of_mem_take hy)
  · obtain⟨x,hx⟩:∃ x,X[k]? = some x:=⟨_,List.getElem?_eq_getElem (by omega)⟩
    refine⟨x,y0,?_,?_,hi1 k x (Nat.le_refl _) hx⟩
    · rw[<- Array.getElem?_toList,e1,List.getElem?_drop];exact hx
    · rw[<- Array.getElem?_toList,e2,List.getElem?_take,if_pos (by omega)];exact jL
  · refine⟨xl,?_,?_⟩
    · rw[m5, <- Array.getElem?_toList,e1,List.getElem?_drop,show k+(X.length - k - 1)=X.length - 1 by omega];exact oQ
    · rw[e2]
      intro y hy
      obtain⟨j,hj⟩:=List.mem_iff_getElem?.mp hy
      rw[List.getElem?_take] at hj
      split at hj
      · rename_i z;exact lo2 j y z hj
      · cases hj
 have L7:(arrOf st).size=pre.length+X.length+Y.length+post.length:=by rw[<- Array.length_toList,ha];simp;omega
 have fin:∀ (m:Array Keyed) (st2:SortSt),Good φ ((arrOf st).extract (pre.length+k) (pre.length+X.length)) ((arrOf st).extract (pre.length+X.length) (pre.length+X.length+k2)) m->kindOf st2=kindOf st->failedOf st2=failedOf st->pendingOf st2=((pendingOf st).setIfInBounds i (pre.length,X.length+Y.length,p1)).eraseIdxIfInBounds (i+1)->arrOf st2=arrOf st ->
  ∀ st3,kindOf st3=kindOf st2->failedOf st3=failedOf st2->pendingOf st3=pendingOf st2->arrOf st3=m.toList.zipIdx.foldl (fun a x=>a.setIfInBounds (pre.length+k+x.2) x.1) (arrOf st2)->Q (failedOf st3).isNone st3:=by
  intro m st2 gm z1 z2 z3 z4 st3 y1 y2 y3 y4
  obtain⟨g1,g2⟩:=gm
  rw[e1,e2] at g2
  have ml:m.toList.length=X.length - k+k2:=by rw[g2.length_eq,List.length_append,List.length_drop,List.length_take];omega
  have e3:(arrOf st3).toList=pre++(X.take k++m.toList++Y.drop k2)++post:=by
   rw[y4,z4,wb m.toList (arrOf st) (pre.length+k) 0 (by rw[ml,L7];omega),Nat.add_zero,ml,ha]
   have t1:(pre++X++Y++post).take (pre.length+k)=pre++X.take k:=by
    rw[List.append_assoc,List.append_assoc,List.take_append,List.take_of_length_le (by omega),Nat.add_sub_cancel_left,List.take_append_of_le_length EM]
   have t2:(pre++X++Y++post).drop (pre.length+k+(X.length - k+k2))=Y.drop k2++post:=by
    rw[List.append_assoc (pre++X),List.drop_append,List.drop_eq_nil_of_le (by rw[List.length_append];omega),List.length_append,List.nil_append,show pre.length+k+(X.length - k+k2) - (pre.length+X.length)=k2 by omega,List.drop_append_of_le_length sg]
   rw[t1,t2]
   simp
  have hfn:failedOf st3=none:=by rw[y2,z2,hf]
  rw[hfn]
  have mm:∀ x∈m.toList,x∈X.drop k\/x∈Y.take k2:=fun x hx=>List.mem_append.mp (g2.mem_iff.mp hx)
  refine q st3 _ (y1.trans (z1.trans hk)) hfn (y3.trans z3) e3 ?_ ?_
  · refine List.pairwise_append.mpr ⟨List.pairwise_append.mpr ⟨sX.sublist (List.take_sublist _ _),g1,fun x hx y hy=>?_⟩,sY.sublist (List.drop_sublist _ _),fun x hx y hy=>?_⟩
    · obtain⟨j,hj⟩:=List.mem_iff_getElem?.mp hx
      rw[List.getElem?_take] at hj
      split at hj
      · rename_i z
        have l0:=lo1 j x z hj
        rcases mm y hy with w | w
        · obtain⟨j',hj'⟩:=List.mem_iff_getElem?.mp w
          rw[List.getElem?_drop] at hj'
          have:=hi1 _ y (by omega) hj'
          omega
        · have:=r_ y (List.mem_of_mem_take w)
          omega
      · cases hj
    · obtain⟨j,hj⟩:=List.mem_iff_getElem?.mp hy
      rw[List.getElem?_drop] at hj
      have l0:=hi2 _ y (by omega) hj
      have:φ x<=φ xl:=by
       rcases List.mem_append.mp hx with w | w
       · exact oR x (List.mem_of_mem_take w)
       · rcases mm x w with w | w
         · exact oR x (List.mem_of_mem_drop w)
         · obtain⟨j',hj'⟩:=List.mem_iff_getElem?.mp w
           rw[List.getElem?_take] at hj'
           split at hj'
           · rename_i z;exact Int.le_of_lt (lo2 j' x z hj')
           · cases hj'
      omega
  · have p1:(X.take k++m.toList++Y.drop k2).Perm (X.take k++(X.drop k++Y.take k2)++Y.drop k2):=(g2.append_left _).append_right _
    refine p1.trans (List.Perm.of_eq ?_)
    rw[<- List.append_assoc,List.take_append_drop,List.append_assoc,List.take_append_drop]
 refine bA (fun _=>?_) fun _=>?_
 · refine wpS_bind (L0 C T hk fun m st2 hs2 gm=>?_)
   refine wpS_bind (wpS_modify ?_)
   refine wpS_bind (wpS_get (wpS_pure ?_))
   exact fin m st2 gm hs2.k hs2.f hs2.p hs2.a _ rfl rfl rfl rfl
 · refine wpS_bind (L4 C T hk fun m st2 hs2 gm=>?_)
   refine wpS_bind (wpS_modify ?_)
   refine wpS_bind (wpS_get (wpS_pure ?_))
   exact fin m st2 gm hs2.k hs2.f hs2.p hs2.a _ rfl rfl rfl rfl
end
section
variable{M:Model}{A:Around}{E:Value->Shared->Prop}{s:Shared}{κ:SortKind}{φ:Keyed->Int}{El:Keyed->Prop}{a0:Array Keyed}
noncomputable def F(φ:Keyed->Int)(a:Array Keyed)(i:Nat):Int:=match a[i]? with
 |some x=>φ x
 |none=>0
noncomputable def Up(φ:Keyed->Int)(a:Array Keyed)(lo n:Nat):Prop:=∀ i j,lo<=i->i<j->j<lo+n->F φ a i<F φ a j
noncomputable def Dn(φ:Keyed->Int)(a:Array Keyed)(lo n:Nat):Prop:=∀ i j,lo<=i->i<j->j<lo+n->F φ a j<F φ a i
structure Bs(κ:SortKind)(a0:Array Keyed)(pn:Array (Nat×Nat×Nat))(lo:Nat)(b:Array Keyed)(st:SortSt):Prop where
 k:kindOf st=κ
 f:failedOf st=none
 p:pendingOf st=pn
 pm:(arrOf st).Perm a0
 out:∀ i,i<lo->(arrOf st)[i]? = b[i]?
structure Un(φ:Keyed->Int)(El:Keyed->Prop)(a0:Array Keyed):Prop where
 el:∀ x∈a0.toList,El x
 nd:(a0.toList.map φ).Nodup
theorem qc{a:Array Keyed}{i:Nat}{x:Keyed}(h:a[i]? = some x):F φ a i=φ x:=by unfold F;rw[h]
theorem jM{a b:Array Keyed}{i j:Nat}(h:a[i]? = b[j]?):F φ a i=F φ b j:=by unfold F;rw[h]
theorem Un.ne(U:Un φ El a0){a:Array Keyed}(pm:a.Perm a0){i j:Nat}(h:i<j)(hj:j<a.size):F φ a i≠F φ a j:=by
 have nd:(a.toList.map φ).Nodup:=((Array.perm_iff_toList_perm.mp pm).map φ).nodup_iff.mpr U.nd
 obtain⟨x,hx⟩:=at_of (a:=a) (i:=i) (by omega)
 obtain⟨y,hy⟩:=at_of hj
 rw[qc hx,qc hy]
 intro e
 have l1:i<(a.toList.map φ).length:=by simp;omega
 have l2:j<(a.toList.map φ).length:=by simp;omega
 have:=(List.getElem_inj (h₀:=l1) (h₁:=l2) nd).mp (by
  obtain⟨_,e1⟩:=Array.getElem?_eq_some_iff.mp hx
  obtain⟨_,e2⟩:=Array.getElem?_eq_some_iff.mp hy
  simp[e1,e2,e])
 omega
theorem qd(C:jr M A E s κ φ El)(U:Un φ El a0){st:SortSt}{Q:Option Bool->SortSt->Prop}(hk:kindOf st=κ)(pm:(arrOf st).Perm a0){i j:Nat}(hi:i<a0.size)(hj:j<a0.size)(q:Q (some (decide (F φ (arrOf st) i<F φ (arrOf st) j))) st):wpS M A E s (ltAt' i j) Q st:=by
 have sz:=pm.size_eq
 obtain⟨x,hx⟩:=at_of (a:=arrOf st) (i:=i) (by omega)
 obtain⟨y,hy⟩:=at_of (a:=arrOf st) (i:=j) (by omega)
 rw[qc hx,qc hy] at q
 rw[ltAt'_eq]
 refine wpS_bind (wpS_get ?_)
 refine wpS_bind (eg hx ?_)
 refine wpS_bind (eg hy ?_)
 have m:∀ x∈(arrOf st).toList,El x:=fun x hx=>U.el x ((Array.perm_iff_toList_perm.mp pm).mem_iff.mp hx)
 exact C x y st _ (m x (eP hx)) (m y (eP hy)) hk q
theorem Up.one{a:Array Keyed}{lo:Nat}:Up φ a lo 1:=fun i j h1 h2 h3=>by omega
theorem Up.next{a:Array Keyed}{lo n:Nat}(h:Up φ a lo n)(hn:1<=n)(e:F φ a (lo+n - 1)<F φ a (lo+n)):Up φ a lo (n+1):=fun i j h1 h2 h3=>by
 by_cases z:j<lo+n
 · exact h i j h1 h2 z
 · have:j=lo+n:=by omega
   subst this
   by_cases y:i=lo+n - 1
   · rw[y];exact e
   · exact Int.lt_trans (h i (lo+n - 1) h1 (by omega) (by omega)) e
theorem Dn.next{a:Array Keyed}{lo n:Nat}(h:Dn φ a lo n)(hn:1<=n)(e:F φ a (lo+n)<F φ a (lo+n - 1)):Dn φ a lo (n+1):=fun i j h1 h2 h3=>by
 by_cases z:j<lo+n
 · exact h i j h1 h2 z
 · have:j=lo+n:=by omega
   subst this
   by_cases y:i=lo+n - 1
   · rw[y];exact e
   · exact Int.lt_trans e (h i (lo+n - 1) h1 (by omega) (by omega))
theorem L8(C:jr M A E s κ φ El)(U:Un φ El a0){pn:Array (Nat×Nat×Nat)}{lo:Nat}{b:Array Keyed}{st:SortSt}{Q:Option Nat->SortSt->Prop}(hl:lo<a0.size)(B:Bs κ a0 pn lo b st)(q:∀ n st',1<=n->lo+n<=a0.size->Bs κ a0 pn lo b st'->Up φ (arrOf st') lo n->Q (some n) st'):wpS M A E s (countRun' lo (a0.size - lo)) Q st:=by
 unfold countRun'
 refine wpS_bind (wpS_mono (wpS_forRange (I:=fun i t st'=>st'=st/\t=(none,i)/\Up φ (arrOf st) lo i) (Q:=fun t st'=>st'=st/\∃ n,t=(none,n)/\1<=n/\lo+n<=a0.size/\Up φ (arrOf st) lo n/\(lo+n<a0.size->F φ (arrOf st) (lo+n)<F φ (arrOf st) (lo+n - 1))) ?_ ?_ ⟨rfl,rfl,Up.one⟩) ?_)
 · rintro i t st' h1 h2 ⟨rfl,rfl,up⟩
   dsimp only
   refine wpS_bind (qd C U B.k B.pm (by omega) (by omega) ?_)
   dsimp only
   refine bA (fun c=>wpS_pure ⟨rfl,i,rfl,h1,by omega,up,fun _=>of_decide_eq_true c⟩) fun c=>?_
   have c : ¬ F φ (arrOf st') (lo+i)<F φ (arrOf st') (lo+i - 1):=by simpa using c
   have ne:=U.ne B.pm (i:=lo+i - 1) (j:=lo+i) (by omega) (by rw[B.pm.size_eq];omega)
   exact wpS_pure ⟨rfl,rfl,up.next h1 (by omega)⟩
 · rintro t st' ⟨rfl,rfl,up⟩
   exact⟨rfl,_,rfl,by omega,by omega,up,by omega⟩
 · rintro t st' ⟨rfl,n,rfl,n1,n2,up,dn⟩
   dsimp only
   refine bA (fun _=>wpS_pure (q n _ n1 n2 B up)) fun c=>?_
   rw[beq_iff_eq] at c
   have dn:=dn (by omega)
   refine bA (fun c2=>?_) fun c2=>?_
   · refine wpS_bind (qd C U B.k B.pm (by omega) (by omega) ?_)
     have r:=up lo (lo+n - 1) (Nat.le_refl _) (by omega) (by omega)
     rw[decide_eq_true r]
     dsimp only
     refine bA (fun _=>wpS_pure (q n _ n1 n2 B up)) fun z=>absurd rfl z
   · have e1:n=1:=by omega
     subst e1
     refine wpS_bind (wpS_lift (wpAny_rule ⟨rfl,?_⟩))
     refine wpS_bind (wpS_mono (wpS_forRange (I:=fun i t st''=>st''=st'/\t=(none,i,0)/\Dn φ (arrOf st') lo i) (Q:=fun t st''=>st''=st'/\∃ n,t=(none,n,0)/\2<=n/\lo+n<=a0.size/\Dn φ (arrOf st') lo n) ?_ ?_ ⟨rfl,rfl,?_⟩) ?_)
     · rintro i t st'' h1 h2 ⟨rfl,rfl,up⟩
       dsimp only
       refine wpS_bind (qd C U B.k B.pm (by omega) (by omega) ?_)
       dsimp only
       refine bA (fun c=>?_) fun c=>?_
       · rw[if_neg (by omega)]
         exact wpS_pure ⟨rfl,rfl,up.next (by omega) (of_decide_eq_true c)⟩
       · refine wpS_bind (qd C U B.k B.pm (by omega) (by omega) ?_)
         have c : ¬ F φ (arrOf st'') (lo+i)<F φ (arrOf st'') (lo+i - 1):=by simpa using c
         have ne:=U.ne B.pm (i:=lo+i - 1) (j:=lo+i) (by omega) (by rw[B.pm.size_eq];omega)
         rw[decide_eq_true (show F φ (arrOf st'') (lo+i - 1)<F φ (arrOf st'') (lo+i) by omega)]
         dsimp only
         refine bA (fun _=>wpS_pure ⟨rfl,i,rfl,by omega,by omega,up⟩) fun z=>absurd rfl z
     · rintro t st'' ⟨rfl,rfl,up⟩
       exact⟨rfl,_,rfl,by omega,by omega,up⟩
     · exact Dn.next (n:=1) (fun i j h1 h2 h3=>by omega) (Nat.le_refl _) dn
     · rintro t st'' ⟨rfl,n,rfl,m1,m2,L9⟩
       dsimp only
       rw[if_neg (by omega)]
       have sz:=B.pm.size_eq
       have gm:=fun k=>getElem?_mirror_all (xs:=arrOf st'') (i:=lo) (j:=lo+n) (by omega) k
       refine wpS_bind (wpS_modify ?_)
       have B2:Bs κ a0 pn lo b (setArr st'' (mirror (arrOf st'') lo (lo+n) ((lo+n - lo) / 2))):=⟨B.k,B.f,B.p,(mirror_perm _ _ _ _).trans B.pm,fun i hi=>by
        show(mirror (arrOf st'') lo (lo+n) ((lo+n - lo) / 2))[i]? = _
        rw[gm,if_neg (by omega)]
        exact B.out i hi⟩
       have L_:Up φ (mirror (arrOf st'') lo (lo+n) ((lo+n - lo) / 2)) lo n:=fun i j h1 h2 h3=>by
        have e1:=gm i
        rw[if_pos ⟨h1,by omega⟩] at e1
        have e2:=gm j
        rw[if_pos ⟨by omega,h3⟩] at e2
        rw[jM e1,jM e2]
        exact L9 _ _ (by omega) (by omega) (by omega)
       refine wpS_bind (wpS_mono (wpS_forRange (I:=fun i t st3=>st3=setArr st'' (mirror (arrOf st'') lo (lo+n) ((lo+n - lo) / 2))/\t=(none,i)/\Up φ (mirror (arrOf st'') lo (lo+n) ((lo+n - lo) / 2)) lo i) (Q:=fun t st3=>st3=setArr st'' (mirror (arrOf st'') lo (lo+n) ((lo+n - lo) / 2))/\∃ n',t=(none,n')/\1<=n'/\lo+n'<=a0.size/\Up φ (mirror (arrOf st'') lo (lo+n) ((lo+n - lo) / 2)) lo n') ?_ ?_ ⟨rfl,rfl,L_⟩) ?_)
       · rintro i t st3 h1 h2 ⟨rfl,rfl,up⟩
         dsimp only
         refine wpS_bind (qd C U B2.k B2.pm (by omega) (by omega) ?_)
         dsimp only
         refine bA (fun c=>wpS_pure ⟨rfl,i,rfl,by omega,by omega,up⟩) fun c=>?_
         have c : ¬ F φ (mirror (arrOf st'') lo (lo+n) ((lo+n - lo) / 2)) (lo+i)<F φ (mirror (arrOf st'') lo (lo+n) ((lo+n - lo) / 2)) (lo+i - 1):=by simpa using c
         have ne:=U.ne B2.pm (i:=lo+i - 1) (j:=lo+i) (by omega) (by rw[B2.pm.size_eq];omega)
         have ne:F φ (mirror (arrOf st'') lo (lo+n) ((lo+n - lo) / 2)) (lo+i - 1)≠F φ (mirror (arrOf st'') lo (lo+n) ((lo+n - lo) / 2)) (lo+i):=ne
         exact wpS_pure ⟨rfl,rfl,up.next (by omega) (by omega)⟩
       · rintro t st3 ⟨rfl,rfl,up⟩
         exact⟨rfl,_,rfl,by omega,by omega,up⟩
       · rintro t st3 ⟨rfl,n',rfl,k1,k2,up⟩
         exact wpS_pure (q n' _ k1 k2 B2 up)
end
section
variable{M:Model}{A:Around}{E:Value->Shared->Prop}{s:Shared}{κ:SortKind}{φ:Keyed->Int}{El:Keyed->Prop}{a0:Array Keyed}
theorem Ma(C:jr M A E s κ φ El)(U:Un φ El a0){pn:Array (Nat×Nat×Nat)}{lo n ok:Nat}{b:Array Keyed}{st:SortSt}{Q:Bool->SortSt->Prop}(hn:lo+n<=a0.size)(ho:1<=ok)(ho2:ok<=n)(B:Bs κ a0 pn lo b st)(up:Up φ (arrOf st) lo ok)(q:∀ st',Bs κ a0 pn lo b st'->Up φ (arrOf st') lo n->Q true st'):wpS M A E s (binarySort' lo n ok) Q st:=by
 unfold binarySort'
 refine wpS_bind (wpS_mono (wpS_forRange (I:=fun i t st'=>t=(none,())/\Bs κ a0 pn lo b st'/\Up φ (arrOf st') lo i) (Q:=fun t st'=>t=(none,())/\Bs κ a0 pn lo b st'/\Up φ (arrOf st') lo n) ?_ ?_ ⟨rfl,B,by rw[show max ok 1=ok by omega];exact up⟩) ?_)
 · rintro k t st' h1 h2 ⟨rfl,B,up⟩
   dsimp only
   have sz:=B.pm.size_eq
   have k1:1<=k:=by omega
   refine wpS_bind (wpS_mono (wpS_forRange (I:=fun i t st''=>st''=st'/\∃ l r,t=(none,l,r)/\l<=r/\r<=k/\r - l<=k - i/\(∀ j,j<l->F φ (arrOf st') (lo+j)<F φ (arrOf st') (lo+k))/\(∀ j,r<=j->j<k->F φ (arrOf st') (lo+k)<F φ (arrOf st') (lo+j)))
    (Q:=fun t st''=>st''=st'/\∃ l r,t=(none,l,r)/\l<=k/\(∀ j,j<l->F φ (arrOf st') (lo+j)<F φ (arrOf st') (lo+k))/\(∀ j,l<=j->j<k->F φ (arrOf st') (lo+k)<F φ (arrOf st') (lo+j))) ?_ ?_ ⟨rfl,0,k,rfl,by omega,by omega,by omega,fun j hj=>by omega,fun j hj hj'=>by omega⟩) ?_)
   · rintro i t st'' _ hi ⟨rfl,l,r,rfl,l1,l2,l3,l4,l5⟩
     dsimp only
     refine bA (fun c=>wpS_pure ⟨rfl,l,r,rfl,by omega,l4,fun j hj hj'=>l5 j (by omega) hj'⟩) fun c=>?_
     refine wpS_bind (qd C U B.k B.pm (by omega) (by omega) ?_)
     dsimp only
     refine bA (fun c2=>?_) fun c2=>?_
     · have c2:=of_decide_eq_true c2
       refine wpS_pure ⟨rfl,l,_,rfl,by omega,by omega,by omega,l4,fun j hj hj'=>?_⟩
       by_cases e:j=(l+r) / 2
       · rw[e];exact c2
       · exact Int.lt_trans c2 (up _ _ (by omega) (by omega) (by omega))
     · have c2 : ¬ F φ (arrOf st'') (lo+k)<F φ (arrOf st'') (lo+(l+r) / 2):=by simpa using c2
       have ne:=U.ne B.pm (i:=lo+(l+r) / 2) (j:=lo+k) (by omega) (by omega)
       have lt:F φ (arrOf st'') (lo+(l+r) / 2)<F φ (arrOf st'') (lo+k):=by omega
       refine wpS_pure ⟨rfl,_,r,rfl,by omega,l2,by omega,fun j hj=>?_,l5⟩
       by_cases e:j=(l+r) / 2
       · rw[e];exact lt
       · exact Int.lt_trans (up _ _ (by omega) (by omega) (by omega)) lt
   · rintro t st'' ⟨rfl,l,r,rfl,l1,l2,l3,l4,l5⟩
     exact⟨rfl,l,r,rfl,by omega,l4,fun j hj hj'=>l5 j (by omega) hj'⟩
   · rintro t st'' ⟨rfl,l,r,rfl,l1,l4,l5⟩
     dsimp only
     refine wpS_bind (wpS_modify (wpS_pure ?_))
     have gb:=fun j=>getElem?_bubble (xs:=arrOf st'') (src:=lo+k) (by omega) (lo+k - (lo+l)) (by omega) j
     have dd:lo+k - (lo+k - (lo+l))=lo+l:=by omega
     rw[dd] at gb
     refine⟨rfl,⟨B.k,B.f,B.p,(bubble_perm _ _ _).trans B.pm,fun i hi=>?_⟩,fun i j h3 h4 h5=>?_⟩
     · show(bubble (arrOf st'') (lo+k) (lo+k - (lo+l)))[i]? = _
       rw[gb,if_neg (by omega),if_neg (by omega)]
       exact B.out i hi
     · show F φ (bubble (arrOf st'') (lo+k) (lo+k - (lo+l))) i<F φ (bubble (arrOf st'') (lo+k) (lo+k - (lo+l))) j
       have ei:=gb i
       have ej:=gb j
       by_cases c1:i=lo+l
       · rw[if_pos c1] at ei
         rw[if_neg (by omega),if_pos ⟨by omega,by omega⟩] at ej
         rw[jM ei,jM ej]
         have:=l5 (j - 1 - lo) (by omega) (by omega)
         rw[show lo+(j - 1 - lo)=j - 1 by omega] at this
         exact this
       · rw[if_neg c1] at ei
         by_cases c2:j=lo+l
         · rw[if_neg (by omega)] at ei
           rw[if_pos c2] at ej
           rw[jM ei,jM ej]
           have:=l4 (i - lo) (by omega)
           rw[show lo+(i - lo)=i by omega] at this
           exact this
         · rw[if_neg c2] at ej
           by_cases c3:lo+l<i
           · rw[if_pos ⟨c3,by omega⟩] at ei
             rw[if_pos ⟨by omega,by omega⟩] at ej
             rw[jM ei,jM ej]
             exact up _ _ (by omega) (by omega) (by omega)
           · rw[if_neg (by omega)] at ei
             by_cases c4:lo+l<j
             · rw[if_pos ⟨c4,by omega⟩] at ej
               rw[jM ei,jM ej]
               exact up _ _ (by omega) (by omega) (by omega)
             · rw[if_neg (by omega)] at ej
               rw[jM ei,jM ej]
               exact up _ _ (by omega) (by omega) (by omega)
 · rintro t st' ⟨rfl,B,up⟩
   rw[show max (max ok 1) n=n by omega] at up
   exact⟨rfl,B,up⟩
 · rintro t st' ⟨rfl,B,up⟩
   exact wpS_pure (q st' B up)
end
section
variable{M:Model}{A:Around}{E:Value->Shared->Prop}{s:Shared}{κ:SortKind}{φ:Keyed->Int}{El:Keyed->Prop}{a0:Array Keyed}
noncomputable abbrev Rs:=List (List Keyed×Nat)
noncomputable def flat:Rs->List Keyed
 | []=>[]
 |r::t=>r.1++flat t
noncomputable def fh:Nat->Rs->List (Nat×Nat×Nat)
 | _,[]=>[]
 |o,r::t=>(o,r.1.length,r.2)::fh (o+r.1.length) t
theorem kn:∀ a b:Rs,flat (a++b)=flat a++flat b
 | [],b=>rfl
 |r::t,b=>by rw[List.cons_append,flat,flat,kn t b,List.append_assoc]
theorem qe:∀ (o:Nat) (a b:Rs),fh o (a++b)=fh o a++fh (o+(flat a).length) b
 |o,[],b=>rfl
 |o,r::t,b=>by rw[List.cons_append,fh,fh,qe,flat,List.length_append,List.cons_append,Nat.add_assoc]
theorem sj:∀ (o:Nat) (a:Rs),(fh o a).length=a.length
 | _,[]=>rfl
 |o,r::t=>by rw[fh,List.length_cons,List.length_cons,sj]
structure Ri(κ:SortKind)(φ:Keyed->Int)(a0:Array Keyed)(rs:Rs)(rest:List Keyed)(st:SortSt):Prop where
 k:kindOf st=κ
 f:failedOf st=none
 p:pendingOf st=(fh 0 rs).toArray
 pm:(arrOf st).Perm a0
 ar:(arrOf st).toList=flat rs++rest
 so:∀ r∈rs,r.1≠[]/\r.1.Pairwise fun x y=>φ x<φ y
theorem Mb{rs:Rs}{i:Nat}(h:i+1<rs.length):∃ A X Y B,rs=A++X::Y::B/\A.length=i:=by
 refine⟨rs.take i,rs[i],rs[i+1],rs.drop (i+2),?_,by rw[List.length_take];omega⟩
 rw[<- List.drop_eq_getElem_cons, <- List.drop_eq_getElem_cons,List.take_append_drop]
theorem Ri.merge(C:jr M A E s κ φ El)(U:Un φ El a0){rs:Rs}{rest:List Keyed}{st:SortSt}(R:Ri κ φ a0 rs rest st){i:Nat}(hi:i+1<rs.length){Q:Bool->SortSt->Prop}(q:∀ rs' st',Ri κ φ a0 rs' rest st'->rs'.length+1=rs.length->(flat rs').length=(flat rs).length->Q true st'):wpS M A E s (mergeAt' i) Q st:=by
 obtain⟨As,⟨X,p1⟩,⟨Y,p2⟩,Bs,rfl,rfl⟩:=Mb hi
 have ar:=R.ar
 have e0:flat (As++(X,p1)::(Y,p2)::Bs)=flat As++X++Y++flat Bs:=by rw[kn,flat,flat];simp
 rw[e0] at ar
 have e1:fh 0 (As++(X,p1)::(Y,p2)::Bs)=fh 0 As++((flat As).length,X.length,p1)::((flat As).length+X.length,Y.length,p2)::fh ((flat As).length+X.length+Y.length) Bs:=by
  rw[qe,fh,fh,Nat.zero_add]
 have pp:=R.p
 rw[e1] at pp
 have lA:(fh 0 As).length=As.length:=sj 0 As
 have sX:=R.so (X,p1) (by simp)
 have sY:=R.so (Y,p2) (by simp)
 have pl:=Array.perm_iff_toList_perm.mp R.pm
 have mX:∀ x∈X,x∈(arrOf st).toList:=fun x hx=>by rw[ar];simp[hx]
 have mY:∀ x∈Y,x∈(arrOf st).toList:=fun x hx=>by rw[ar];simp[hx]
 have nd:((arrOf st).toList.map φ).Nodup:=(pl.map φ).nodup_iff.mpr U.nd
 have ne:∀ x∈X,∀ y∈Y,φ x≠φ y:=fun x hx y hy e=>by
  rw[ar] at nd
  simp only[List.map_append,List.append_assoc] at nd
  have nd:=(List.nodup_append.mp nd).2.1
  have dj:=(List.nodup_append.mp nd).2.2
  exact dj (φ x) (List.mem_map_of_mem hx) (φ y) (List.mem_append_left _ (List.mem_map_of_mem hy)) e
 refine L6 C (pre:=flat As) (X:=X) (Y:=Y) (post:=flat Bs++rest) (p1:=p1) (p2:=p2) R.k R.f (by rw[ar];simp) ?_ ?_ (fun x hx=>U.el x (pl.mem_iff.mp (mX x hx))) (fun x hx=>U.el x (pl.mem_iff.mp (mY x hx))) sX.2 sY.2 ne sX.1 sY.1 fun st' Z z1 z2 z3 z4 z5 z6=>?_
 · rw[pp,List.getElem?_toArray,List.getElem?_append_right (by omega),lA,Nat.sub_self];rfl
 · rw[pp,List.getElem?_toArray,List.getElem?_append_right (by omega),lA,show As.length+1 - As.length=1 by omega];rfl
 · have lZ:Z.length=X.length+Y.length:=by rw[z6.length_eq,List.length_append]
   refine q (As++(Z,p1)::Bs) st' ⟨z1,z2,?_,?_,?_,?_⟩ (by simp;omega) ?_
   · rw[z3,pp]
     apply Array.toList_inj.mp
     rw[Array.toList_eraseIdxIfInBounds,Array.toList_setIfInBounds]
     show((fh 0 As++((flat As).length,X.length,p1)::((flat As).length+X.length,Y.length,p2)::fh ((flat As).length+X.length+Y.length) Bs).set As.length _).eraseIdx (As.length+1)=fh 0 (As++(Z,p1)::Bs)
     rw[List.set_append_right _ _ (by omega),lA,Nat.sub_self,List.set_cons_zero,List.eraseIdx_append_of_length_le (by omega),lA,show As.length+1 - As.length=1 by omega,qe,fh,lZ,Nat.zero_add, <- Nat.add_assoc]
     rfl
   · refine(Array.perm_iff_toList_perm.mpr ?_).trans R.pm
     rw[z4,ar]
     have:(flat As++Z++(flat Bs++rest)).Perm (flat As++(X++Y)++(flat Bs++rest)):=(z6.append_left _).append_right _
     refine this.trans (List.Perm.of_eq (by simp))
   · rw[z4,kn,flat];simp
   · intro r hr
     rcases List.mem_append.mp hr with h | h
     · exact R.so r (by simp[h])
     · rcases List.mem_cons.1 h with rfl | h
       · refine⟨fun e=>?_,z5⟩
         have e:Z=[]:=e
         have lx:0<X.length:=List.length_pos_iff.mpr sX.1
         rw[e,List.length_nil] at lZ
         omega
       · exact R.so r (by simp[h])
   · rw[e0,kn,flat]
     simp only[List.length_append]
     omega
theorem Md{rs:Rs}{rest:List Keyed}{st st':SortSt}{n:Nat}(R:Ri κ φ a0 rs rest st)(B:Bs κ a0 (pendingOf st) (flat rs).length (arrOf st) st')(n1:1<=n)(hn:(flat rs).length+n<=a0.size)(up:Up φ (arrOf st') (flat rs).length n) :
 ∃ run rest',run.length=n/\run≠[]/\(run.Pairwise fun x y=>φ x<φ y)/\Ri κ φ a0 rs (run++rest') st':=by
 have sz:=B.pm.size_eq
 have tk:(arrOf st').toList.take (flat rs).length=flat rs:=by
  have e:(arrOf st').toList.take (flat rs).length=(arrOf st).toList.take (flat rs).length:=by
   refine List.ext_getElem? fun i=>?_
   rw[List.getElem?_take,List.getElem?_take]
   split
   · rename_i z
     have:=B.out i z
     rw[<- Array.getElem?_toList, <- Array.getElem?_toList] at this
     exact this
   · rfl
  rw[e,R.ar,List.take_left]
 refine⟨((arrOf st').toList.drop (flat rs).length).take n,((arrOf st').toList.drop (flat rs).length).drop n,?_,?_,?_,B.k,B.f,B.p.trans R.p,B.pm,?_,R.so⟩
 · rw[List.length_take,List.length_drop,Array.length_toList];omega
 · intro z
   have:=congrArg List.length z
   rw[List.length_take,List.length_drop,Array.length_toList] at this
   simp at this
   omega
 · rw[List.pairwise_iff_getElem]
   intro i j hi hj lt
   rw[List.length_take] at hi hj
   rw[List.getElem_take,List.getElem_take,List.getElem_drop,List.getElem_drop]
   have:=up ((flat rs).length+i) ((flat rs).length+j) (by omega) (by omega) (by omega)
   rw[qc (Array.getElem?_eq_getElem (by omega)),qc (Array.getElem?_eq_getElem (by omega))] at this
   simpa using this
 · rw[List.take_append_drop]
   conv=>rhs;lhs;rw[<- tk]
   rw[List.take_append_drop]
end
section
variable{M:Model}{A:Around}{E:Value->Shared->Prop}{s:Shared}{κ:SortKind}{φ:Keyed->Int}{El:Keyed->Prop}{a0:Array Keyed}
theorem EO:∀ {rs:Rs},(∀ r∈rs,r.1≠[])->rs.length<=(flat rs).length
 | [],_=>Nat.le_refl _
 |r::t,h=>by
   have:=EO (rs:=t) fun x hx=>h x (List.mem_cons_of_mem _ hx)
   have h0:=List.length_pos_iff.mpr (h r (List.mem_cons_self ..))
   rw[flat,List.length_cons,List.length_append]
   omega
theorem Ri.len{rs:Rs}{rest:List Keyed}{st:SortSt}(R:Ri κ φ a0 rs rest st):(flat rs).length+rest.length=a0.size:=by
 have:=R.pm.size_eq
 rw[<- Array.length_toList,R.ar,List.length_append] at this
 exact this
theorem Me{c:Prop}[Decidable c]{a b n:Nat}(h:a+1<n)(h':b+1<n):(if c then a else b)+1<n:=by
 split
 · exact h
 · exact h'
theorem Ri.push{rs:Rs}{run rest:List Keyed}{st:SortSt}(R:Ri κ φ a0 rs (run++rest) st)(nr:run≠[])(sr:run.Pairwise fun x y=>φ x<φ y){o:Nat}(ho:o=(flat rs).length):Ri κ φ a0 (rs++[(run,0)]) rest (setPending st ((pendingOf st).push (o,run.length,0))):=by
 refine⟨R.k,R.f,?_,R.pm,?_,fun r hr=>?_⟩
 · show(pendingOf st).push (o,run.length,0)=_
   rw[R.p,qe,ho,Nat.zero_add]
   simp[fh]
 · show(arrOf st).toList=_
   rw[R.ar,kn]
   simp[flat]
 · rcases List.mem_append.mp hr with h | h
   · exact R.so r h
   · rw[List.mem_singleton.mp h];exact⟨nr,sr⟩
theorem Ri.sk{rs:Rs}{rest:List Keyed}{st:SortSt}(R:Ri κ φ a0 rs rest st)(ne:rs≠[])(pw:Nat):∃ rs',rs'≠[]/\flat rs'=flat rs/\Ri κ φ a0 rs' rest (setPending st ((pendingOf st).modify ((pendingOf st).size - 1) fun x=>(x.1,x.2.1,pw))):=by
 obtain⟨B,r,rfl⟩:∃ B r,rs=B++[r]:=⟨rs.dropLast,rs.getLast ne,(List.dropLast_concat_getLast ne).symm⟩
 have fe:flat (B++[(r.1,pw)])=flat (B++[r]):=by rw[kn,kn];rfl
 refine⟨B++[(r.1,pw)],by simp,fe,R.k,R.f,?_,R.pm,by rw[fe];exact R.ar,fun z hz=>?_⟩
 · show(pendingOf st).modify ((pendingOf st).size - 1) (fun x=>(x.1,x.2.1,pw))=_
   rw[R.p,qe,qe]
   have lB:=sj 0 B
   apply Array.ext_getElem?
   intro i
   rw[Array.getElem?_modify]
   simp only[List.size_toArray,List.length_append,lB,fh,List.length_singleton,Nat.add_sub_cancel,List.getElem?_toArray]
   by_cases e:B.length=i
   · rw[if_pos e, <- e,List.getElem?_append_right (by omega),List.getElem?_append_right (by omega),lB,Nat.sub_self]
     rfl
   · rw[if_neg e]
     by_cases e2:i<B.length
     · rw[List.getElem?_append_left (by omega),List.getElem?_append_left (by omega)]
     · rw[List.getElem?_append_right (by omega),List.getElem?_append_right (by omega),List.getElem?_eq_none (by simp;omega),List.getElem?_eq_none (by simp;omega)]
 · rcases List.mem_append.mp hz with h | h
   · exact R.so z (List.mem_append_left _ h)
   · rw[List.mem_singleton.mp h];exact R.so r (by simp)
theorem mF(C:jr M A E s κ φ El)(U:Un φ El a0){st:SortSt}{Q:Unit->SortSt->Prop}(h2:2<=a0.size)(R0:Ri κ φ a0 [] a0.toList st)(q:∀ st',failedOf st'=none->(arrOf st').Perm a0->((arrOf st').toList.Pairwise fun x y=>φ x<φ y)->Q () st'):wpS M A E s sortRuns' Q st:=by
 rw[sortRuns'_eq]
 refine wpS_bind (wpS_get ?_)
 dsimp only
 rw[R0.pm.size_eq]
 refine wpS_bind (wpS_mono (wpS_forRange (I:=fun n t st'=>∃ rs rest,t=(none,(flat rs).length)/\Ri κ φ a0 rs rest st'/\(n<=(flat rs).length\/a0.size<=(flat rs).length)) (Q:=fun t st'=>∃ rs,t=(none,(flat rs).length)/\Ri κ φ a0 rs [] st') ?step ?fin ⟨[],a0.toList,rfl,R0,.inl (Nat.le_refl _)⟩) ?post)
 case fin =>
  rintro t st' ⟨rs,rest,rfl,R,h⟩
  have:=R.len
  have e:rest=[]:=List.length_eq_zero_iff.mp (by omega)
  subst e
  exact⟨rs,rfl,R⟩
 case step =>
  rintro n t st' _ hn ⟨rs,rest,rfl,R,h⟩
  dsimp only
  have ln:=R.len
  refine bA (fun c=>?_) fun c=>?_
  · have e:rest=[]:=List.length_eq_zero_iff.mp (by omega)
    subst e
    exact wpS_pure ⟨rs,rfl,R⟩
  have B0:Bs κ a0 (pendingOf st') (flat rs).length (arrOf st') st':=⟨R.k,R.f,rfl,R.pm,fun _ _=>rfl⟩
  refine wpS_bind (L8 C U (by omega) B0 fun m st2 m1 m2 B up=>?_)
  dsimp only
  refine bA (fun c3=>?_) fun c3=>?_
  case' refine_1 =>
   refine wpS_bind (wpS_lift (wpAny_rule ⟨rfl,?_⟩))
   refine wpS_bind (Ma C U (n:=min (a0.size - (flat rs).length) (minRun' a0.size a0.size 0)) (by omega) m1 (by omega) B up fun st3 B3 zx=>?_)
   refine bA (fun z=>by simp at z) fun _=>?_
   obtain⟨K,hK⟩:∃ K,K=min (a0.size - (flat rs).length) (minRun' a0.size a0.size 0):=⟨_,rfl⟩
   rw[<- hK] at zx ⊢
   have k1:1<=K:=by omega
   have k2:(flat rs).length+K<=a0.size:=by omega
  case' refine_2 =>
   obtain⟨K,hK⟩:∃ K,K=m:=⟨_,rfl⟩
   subst hK
   have k1:=m1
   have k2:=m2
   have zx:=up
   have B3:=B
  all_goals
   obtain⟨run,rest',lr,nr,sr,R3⟩:=Md R B3 k1 k2 zx
   subst lr
   refine wpS_bind (wpS_get ?_)
   cases hb:(pendingOf _).back? with
   |none=>exact wpS_bind (wpS_modify (wpS_pure ⟨rs++[(run,0)],rest',by rw[kn,List.length_append];simp[flat],R3.push nr sr rfl,by rw[kn,List.length_append];simp[flat];omega⟩))
   |some v =>
     obtain⟨s1,n1,v⟩:=v
     have Mf:rs≠[]:=fun z=>by
      rw[R3.p,z] at hb
      cases hb
     dsimp only
     refine wpS_bind (wpS_mono (wpS_forRange (I:=fun n t st'=>t=(none,())/\∃ rs',Ri κ φ a0 rs' (run++rest') st'/\rs'≠[]/\(flat rs').length=(flat rs).length) (Q:=fun t st'=>t=(none,())/\∃ rs',Ri κ φ a0 rs' (run++rest') st'/\rs'≠[]/\(flat rs').length=(flat rs).length) ?_ (fun _ _ h=>h) ⟨rfl,rs,R3,Mf,rfl⟩) ?_)
     · rintro j t eJ _ _ ⟨rfl,ko,R5,ne5,l5⟩
       refine wpS_bind (wpS_get ?_)
       have ps:(pendingOf eJ).size=ko.length:=by rw[R5.p];simp[sj]
       by_cases c5:(pendingOf eJ).size > 1
       · rw[if_pos c5]
         obtain⟨⟨a,b,w⟩,hw⟩:∃ w,(pendingOf eJ)[(pendingOf eJ).size - 2]? = some w:=⟨_,Array.getElem?_eq_getElem (by omega)⟩
         rw[hw]
         dsimp only
         refine bA (fun _=>wpS_pure ⟨rfl,ko,R5,ne5,l5⟩) fun _=>?_
         refine wpS_bind (R5.merge C U (by omega) fun sq Mh R6 l6 f6=>?_)
         refine bA (fun z=>by simp at z) fun _=>wpS_pure ⟨rfl,sq,R6,fun z=>?_,f6.trans l5⟩
         rw[z,List.length_nil] at l6
         omega
       · rw[if_neg c5]
         exact wpS_pure ⟨rfl,ko,R5,ne5,l5⟩
     · rintro t eJ ⟨rfl,ko,R5,ne5,l5⟩
       dsimp only
       refine wpS_bind (wpS_modify ?_)
       obtain⟨sq,PM,f6,R6⟩:=R5.sk ne5 _
       refine wpS_bind (wpS_modify (wpS_pure ⟨sq++[(run,0)],rest',?_,R6.push nr sr (by rw[f6,l5]),?_⟩))
       · rw[kn,List.length_append,f6,l5];simp[flat]
       · rw[kn,List.length_append,f6,l5]
         have:=List.length_pos_iff.mpr nr
         simp[flat]
         omega
 case post =>
  rintro t st' ⟨rs,rfl,R⟩
  dsimp only
  have ln:=R.len
  rw[List.length_nil] at ln
  have fg:=EO fun r hr=>(R.so r hr).1
  refine wpS_bind (wpS_mono (wpS_forRange (I:=fun n t st'=>t=(none,())/\∃ rs',Ri κ φ a0 rs' [] st'/\rs'.length+n<=a0.size) (Q:=fun t st'=>t=(none,())/\∃ rs',Ri κ φ a0 rs' [] st'/\rs'.length<=1) ?_ ?_ ⟨rfl,rs,R,by omega⟩) ?_)
  · rintro j t eJ _ _ ⟨rfl,ko,R5,l5⟩
    refine wpS_bind (wpS_get ?_)
    have ps:(pendingOf eJ).size=ko.length:=by rw[R5.p];simp[sj]
    refine bA (fun c=>wpS_pure ⟨rfl,ko,R5,by omega⟩) fun c=>?_
    refine wpS_bind (R5.merge C U (Me (by omega) (by omega)) fun sq Mh R6 l6 f6=>?_)
    exact bA (fun z=>by simp at z) fun _=>wpS_pure ⟨rfl,sq,R6,by omega⟩
  · rintro t eJ ⟨rfl,ko,R5,l5⟩
    exact⟨rfl,ko,R5,by omega⟩
  · rintro t eJ ⟨rfl,ko,R5,l5⟩
    refine wpS_pure (q eJ R5.f R5.pm ?_)
    rw[R5.ar,List.append_nil]
    match ko,l5,R5 with
    | [],_,_=>exact .nil
    | [r],_,R5=>rw[flat,flat,List.append_nil];exact(R5.so r (by simp)).2
    | _::_::_,h,_=>simp at h
end
end Ti
namespace So
open PySem PySem.W PyProof.Rows St
theorem zy{α β:Type}(f:α->β):∀ {zs:List α} {vs:List β},vs.Perm (zs.map f)->∃ zs':List α,vs=zs'.map f/\zs'.Perm zs
 | [],vs,h=>⟨[],by simpa using h,.nil⟩
 |z::r,vs,h=>by
   have hm:f z∈vs:=h.mem_iff.mpr (by simp)
   obtain⟨a,b,rfl⟩:=List.append_of_mem hm
   have h':(a++b).Perm (r.map f):=by
    have:=List.perm_middle.symm.trans h
    exact(List.perm_cons (f z)).mp this
   obtain⟨zs',e,pm⟩:=zy f h'
   refine⟨zs'.take a.length++z::zs'.drop a.length,?_,?_⟩
   · rw[List.map_append,List.map_cons,List.map_take,List.map_drop, <- e]
     simp
   · refine List.perm_middle.trans ?_
     rw[List.take_append_drop]
     exact List.Perm.cons z pm
section
variable{prog:Program}{w:World}{A:Around}{E:Value->Shared->Prop}{s:Shared}{a p q:Addr}
noncomputable def enc(z:Int×Int):Int:=31 * z.1+z.2
theorem Mi{y z:Int×Int}(hy:cn y)(hz:cn z):enc y<enc z ↔ y.1<z.1\/y.1=z.1/\y.2<z.2:=by
 obtain⟨⟨a1,a2⟩,a3,a4⟩:=hy
 obtain⟨⟨b1,b2⟩,b3,b4⟩:=hz
 unfold enc
 omega
theorem ES{y z:Int×Int}(hy:cn y)(hz:cn z)(e:enc y=enc z):y=z:=by
 obtain⟨⟨a1,a2⟩,a3,a4⟩:=hy
 obtain⟨⟨b1,b2⟩,b3,b4⟩:=hz
 unfold enc at e
 exact Prod.ext (by omega) (by omega)
theorem Mj{y z:Int×Int}{Q:Bool->Shared->Prop}(hy:bN s.heap y p)(hz:bN s.heap z q)(sy:cn y)(sz:cn z)(h:Q (decide (enc y<enc z)) s):wpAny (model prog w) A (keyLt' (tuples' true) (.ref p) (.ref q)) Q E s:=by
 obtain⟨o1,i1,n1,t1,u1,g1,c1,d1,e1⟩:=hy
 obtain⟨o2,i2,n2,t2,u2,g2,c2,d2,e2⟩:=hz
 refine kat_lt g1 d1 g2 d2 ?_
 rw[e1,e2]
 have el:=Mi sy sz
 refine kat_cons (wpAny_eqBool_int ?_)
 refine kat_go (fun c=>?_) fun c=>?_
 · have c:=of_decide_eq_true c
   refine kat_yes (kat_cons (wpAny_eqBool_int ?_))
   refine kat_go (fun c'=>?_) fun c'=>?_
   · have c':=of_decide_eq_true c'
     refine kat_yes (kat_nil ?_)
     have z1:i1.size=2:=by have:=congrArg List.length e1;simpa using this
     have z2:i2.size=2:=by have:=congrArg List.length e2;simpa using this
     rw[z1,z2]
     have : ¬ enc y<enc z:=fun z=>by rcases el.mp z with z | z<;>omega
     rw[decide_eq_false this] at h
     exact h
   · have c':=of_decide_eq_false c'
     refine kat_no (kat_one _ _ (PyProof.Rows.lt_int ?_))
     have:decide (y.2<z.2)=decide (enc y<enc z):=decide_eq_decide.mpr ⟨fun z=>el.mpr (.inr ⟨c,z⟩),fun z=>by rcases el.mp z with z | z;exact absurd c (Int.ne_of_lt z);exact z.2⟩
     show Q (decide (y.2<z.2)) s
     rw[this]
     exact h
 · have c:=of_decide_eq_false c
   refine kat_no ?_
   show wpAny _ _ (keyLt' oneType' _ _) _ _ _
   refine kat_lt_int ?_
   have:decide (y.1<z.1)=decide (enc y<enc z):=decide_eq_decide.mpr ⟨fun z=>el.mpr (.inl z),fun z=>by rcases el.mp z with z | z;exact z;exact absurd z.1 c⟩
   rw[this]
   exact h
theorem bN.ref{z:Int×Int}{h:Heap}(x:bN h z p):∃ o xs n t,h.get? p=some o/\o.cls = .type "tuple" /\ o.data = .seq xs n/\xs[0]? = some (.int z.1 t):=by
 obtain⟨o,i,n,t,u,g,c,d,e⟩:=x
 exact⟨o,i,n,t,g,c,d,by rw[<- Array.getElem?_toList,e];rfl⟩
noncomputable def refs(zs:List Z):List Value:=zs.map fun z=>.ref z.2
theorem ET{h:Heap}:∀ (zs:List Z),(∀ z∈zs,bN h z.1 z.2)->∃ fs,KatTups h (refs zs) fs/\fs.length=zs.length/\∀ v∈fs,∃ k t,v = .int k t
 | [],_=>⟨[],trivial,rfl,fun v hv=>(nomatch hv)⟩
 |z::r,h0=>by
   obtain⟨fs,a,b,c⟩:=ET r fun y hy=>h0 y (.tail _ hy)
   obtain⟨o,xs,n,t,g,cl,d,e⟩:=bN.ref (h0 z (.head _))
   exact⟨.int z.1.1 t::fs,KatTups.cons g cl d e a,by simp[b],fun v hv=>by
    rcases List.mem_cons.mp hv with q | q
    · exact⟨_,_,q⟩
    · exact c v q⟩
theorem Ml{M:Model}{h:Heap}(k:Int)(t:Tok):Looks M h (typeOf (.int k t)) (.type "int"):=fun A Q E s _ q=>wpAny_typeOf (typeIs_int s k t) q
noncomputable def kd(z:Z):Value×Value:=(.ref z.2,.ref z.2)
open Classical in
noncomputable def kf(zs:List Z)(x:Value×Value):Int:=if h:∃ z∈zs,x=kd z then enc h.choose.1 else 0
theorem bN.inj{h:Heap}{y z:Int×Int}(hy:bN h y p)(hz:bN h z p):y=z:=by
 obtain⟨o1,i1,n1,t1,u1,g1,c1,d1,e1⟩:=hy
 obtain⟨o2,i2,n2,t2,u2,g2,c2,d2,e2⟩:=hz
 rw[g1] at g2
 cases g2
 rw[d1] at d2
 cases d2
 rw[e1] at e2
 simp only[List.cons.injEq,Value.int.injEq,and_true] at e2
 exact Prod.ext e2.1.1 e2.2.1
theorem kf_at{h:Heap}{zs:List Z}(hz:∀ z∈zs,bN h z.1 z.2):∀ z∈zs,kf zs (kd z)=enc z.1:=fun z hm=>by
 have ex:∃ y∈zs,kd z=kd y:=⟨z,hm,rfl⟩
 unfold kf
 rw[dif_pos ex]
 have c:=ex.choose_spec
 have e:z.2=ex.choose.2:=by have:=congrArg Prod.fst c.2;exact Value.ref.inj this
 have:=hz _ c.1
 rw[<- e] at this
 rw[bN.inj this (hz z hm)]
theorem EU:∀ {l:List (Int×Int)},(∀ x∈l,cn x)->l.Nodup->(l.map enc).Nodup
 | [],_,_=>.nil
 |x::r,sm,nd=>by
   rw[List.nodup_cons] at nd
   rw[List.map_cons,List.nodup_cons]
   refine⟨fun h=>?_,EU (fun y hy=>sm y (.tail _ hy)) nd.2⟩
   obtain⟨y,hy,e⟩:=List.mem_map.mp h
   exact nd.1 (by rw[<- ES (sm y (.tail _ hy)) (sm x (.head _)) e];exact hy)
theorem Mm{n:Nat}{zs:List Z}{P:PySem.Fin->Shared->Prop}(ho:s.heap.get? a=some (seqObj "list" (refs zs).toArray n))(hz:∀ z∈zs,bN s.heap z.1 z.2)(sm:∀ z∈zs,cn z.1)(nd:(zs.map (·.1)).Nodup)(hl:zs.length<512)
 (h:∀ zs',zs'.Perm zs->zs'.Pairwise (fun y z=>enc y.1<=enc z.1)->P (.done (.ret .none)) { s with heap:=sortedHeap s.heap a (refs zs) (refs zs').toArray }):wpAny (model prog w) A (Builtin.«list.sort» ⟨[.ref a],[]⟩) P E s:=by
 have ha:a<s.heap.objs.size:=Heap.lt_size ho
 have rl:(refs zs).length=zs.length:=by simp[refs]
 have big:(512:Nat)<=sizeLine:=by decide
 rw[list_sort_plain]
 refine  wpAny_bind (listItems_at ho rfl ?_)
 refine wpAny_bind (listUpdate_at ho rfl ?_ (by rw[List.size_toArray,rl];omega) (Nat.zero_le _))
 obtain⟨e1,ho1⟩:∃ e1,(s.heap.update a (Obj.mapSeq fun _=>(#[]:Array Value))).get? a=some (seqObj "list" #[] e1):=⟨_,get?_update_seq ho fun _ => #[]⟩
 refine  wpAny_bind (seqEpoch_at ho1 rfl ?_)
 refine wpAny_bind (wpAny_newTuple ?_ (by show(refs zs).length<=_;rw[rl];omega))
 refine  wpAny_bind (wpAny_newList ?_ (Nat.zero_le _))
 refine wpAny_holding ?_
 generalize hH:((s.heap.update a (Obj.mapSeq fun _=>(#[]:Array Value))).push (seqObj "tuple" (refs zs).toArray 0)).push (seqObj "list" #[] 0)=H
 show wpAny (model prog w) A _ P E { s with heap:=H }
 have ho6:H.get? a=some (seqObj "list" #[] e1):=by
  rw[<- hH,Heap.get?_push_ne _ _ _ (by rw[size_push',Heap.size_update];exact Nat.ne_of_lt (Nat.lt_succ_of_lt ha)),Heap.get?_push_ne _ _ _ (by rw[Heap.size_update];exact Nat.ne_of_lt ha)]
  exact ho1
 have vp:∀ z∈zs,bN H z.1 z.2:=fun z EV=>(hz z EV).at fun o e=>by
  have ne:z.2≠a:=fun q=>by
   obtain⟨o',xs,n',t,g,cl,_⟩:=bN.ref (hz z EV)
   rw[q,ho] at g
   have g:=Option.some.inj g
   rw[<- g] at cl
   exact absurd cl (show(Value.type "list") ≠ .type "tuple" by decide)
  rw[<- hH]
  exact Heap.get?_push_of_some _ (Heap.get?_push_of_some _ ((Heap.get?_update_other _ _ (Ne.symm ne)).trans e))
 have fin:∀ (zs':List Z) (st:SortSt),zs'.Perm zs->zs'.Pairwise (fun y z=>enc y.1<=enc z.1)->(arrOf st).map (·.2)=(refs zs').toArray->failedOf st=none->wpAny (model prog w) A (do
  let touched:=(<- seqEpoch a) != e1
  Builtin.List.listUpdate (.ref a) fun _=>(arrOf st).map (·.2)
  if let some e:=failedOf st then rule "list.sort.comparison-raised";throw e
  if touched then rule "list.sort.modified";raiseError "ValueError" "list modified during sort"
  ret .none) P E { s with heap:=H }:=fun zs' st pm pw har hf=>by
  refine wpAny_bind (seqEpoch_at (s:={ s with heap:=H }) ho6 rfl ?_)
  rw[har]
  refine wpAny_bind (listUpdate_at (s:={ s with heap:=H }) ho6 rfl ?_ (Nat.zero_le _) (by show(refs zs').toArray.size<=_;have:=pm.length_eq;simp[refs];omega))
  rw[hf]
  simp only[bne_self_eq_false,Bool.false_eq_true,if_false]
  refine wpAny_pure ?_
  have:=h zs' pm pw
  unfold sortedHeap at this
  rw[hH] at this
  exact this
 dsimp only
 have sz:(refs zs).toArray.size=zs.length:=by rw[List.size_toArray,rl]
 have snd:((refs zs).toArray.zip (refs zs).toArray).map (·.2)=(refs zs).toArray:=by
  apply Array.toList_inj.mp
  simp[Array.toList_zip,List.map_snd_zip]
 by_cases h2:(refs zs).toArray.size<2
 · rw[if_pos h2,if_pos h2]
   refine wpAny_bind (wpAny_pure ?_)
   rw[StateT.run_pure]
   refine wpAny_bind (wpAny_pure ?_)
   dsimp only
   refine fin zs (SortSt.mk' general' ((refs zs).toArray.zip (refs zs).toArray) #[] 7 none) (.refl _) ?_ snd rfl
   rw[sz] at h2
   match zs,h2 with
   | [],_=>exact .nil
   | [z],_=>simp
   | _::_::_,h2=>exact absurd h2 (by simp only[List.length_cons];omega)
 · rw[if_neg h2,if_neg h2]
   rw[sz] at h2
   have h2':2<=zs.length:=by omega
   obtain⟨fs,kt,fl,fi⟩:=ET zs vp
   refine wpAny_bind (kat_kind (s:={ s with heap:=H }) (T:=.type "int") kt (by omega) (fun v hv=>by obtain⟨k,t,rfl⟩:=fi v hv;exact Ml k t) (by decide) ?_)
   have tt:(Value.type "int" != Value.type "tuple")=true:=by decide
   rw[tt]
   have zl:((refs zs).toArray.zip (refs zs).toArray).toList=zs.map kd:=by
    rw[Array.toList_zip]
    unfold refs
    simp only[List.zip_map']
    rfl
   have fE:=kf_at vp
   have fin':∀ x,(∃ z∈zs,x=kd z)->∃ z∈zs,x=kd z:=fun x h=>h
   refine wpAny_bind (wpAny_mono (Ti.mF (M:=model prog w) (A:=A) (E:=E) (s:={ s with heap:=H }) (κ:=tuples' true) (φ:=kf zs) (El:=fun x=>∃ z∈zs,x=kd z) (a0:=(refs zs).toArray.zip (refs zs).toArray) (st:=SortSt.mk' (tuples' true) ((refs zs).toArray.zip (refs zs).toArray) #[] 7 none)
    (Q:=fun _ st'=>∃ zs',(arrOf st').map (·.2)=(refs zs').toArray/\zs'.Perm zs/\zs'.Pairwise (fun y z=>enc y.1<=enc z.1)/\failedOf st'=none) ?_ ⟨?_,?_⟩ ?_ ⟨rfl,rfl,rfl,.refl _,rfl,fun r hr=>by cases hr⟩ ?_) ?_ fun _ _ x=>x)
   · rintro x y st Q ⟨z,hz,rfl⟩ ⟨z',hz',rfl⟩ hk q
     rw[fE z hz,fE z' hz'] at q
     rw[lt'_eq]
     refine wpS_bind (wpS_get ?_)
     rw[hk]
     refine wpS_bind (wpS_lift (wpAny_attempt (Mj (s:={ s with heap:=H }) (vp z hz) (vp z' hz') (sm z hz) (sm z' hz') ⟨rfl,?_⟩)))
     exact wpS_pure q
   · rw[zl]
     intro x hx
     obtain⟨z,hz,rfl⟩:=List.mem_map.mp hx
     exact⟨z,hz,rfl⟩
   · rw[zl,List.map_map,show zs.map (kf zs ∘ kd)=(zs.map (·.1)).map enc by rw[List.map_map];exact List.map_congr_left fun z hz=>fE z hz]
     exact EU (fun x hx=>by obtain⟨z,hz,rfl⟩:=List.mem_map.mp hx;exact sm z hz) nd
   · rw[Array.size_zip];simp[refs];omega
   · intro st' hf pm so
     have pl:=Array.perm_iff_toList_perm.mp pm
     rw[zl] at pl
     obtain⟨zs',e,pz⟩:=zy kd pl
     refine⟨zs',?_,pz,?_,hf⟩
     · apply Array.toList_inj.mp
       rw[Array.toList_map,e,List.map_map]
       rfl
     · rw[e,List.pairwise_map] at so
       refine(List.pairwise_iff_forall_sublist.mpr fun {a b} h=>?_)
       have:=List.pairwise_iff_forall_sublist.mp so h
       have ma:a∈zs:=pz.mem_iff.mp (h.subset (by simp))
       have mb:b∈zs:=pz.mem_iff.mp (h.subset (by simp))
       rw[fE a ma,fE b mb] at this
       exact Int.le_of_lt this
   · rintro⟨⟨⟩,st'⟩ s' ⟨rfl,zs',har,pz,pw,hfl⟩
     exact fin zs' st' pz pw har hfl
end
section
variable{prog:Program}{w:World}{A:Around}{E:Value->Shared->Prop}{s:Shared}{a:Addr}
theorem Mn{zs:List Z}{Q:Value->Shared->Prop}(hh:A.handled=none)(hS:bO (w.params.followText "set-order") s.heap a zs)(hz:∀ z∈zs,bN s.heap z.1 z.2)(h64:zs.length<512)
 (h:∀ (h':Heap) (d:Drawn) (tk:Nat) (p:Addr) (e:Nat) (zs':List Z),s.heap.objs.size<=p->(∀ b o,s.heap.get? b=some o->h'.get? b=some o)->h'.get? p=some { cls:=.type "list",dict:=none,data:=.seq (refs zs').toArray e,slots := #[] }->zs'.Perm zs->zs'.Pairwise (fun y z=>enc y.1<=enc z.1)->Q (.ref p) { s with heap:=h',drawn:=d,toks:=tk }) :
 wpAny (model prog w) A (call (.builtin "sorted") [.ref a]) Q E s:=by
 obtain⟨es,ep,t,ha,T,nf⟩:=hS
 have big:(512:Nat)<=sizeLine:=by decide
 have len:=T.len
 refine Calls.call_function_entry kind_sorted plain_sorted entry_sorted (args_sorted1 _) (show wpAny _ _ (checkCount "sorted" 1 1 1 >>= _) _ _ _ from wpAny_bind (wpAny_pure ?_))
 refine wpAny_bind (GJ hh ha T.hon T.fits (by omega) fun vs h1 d tk le k1 pv=>?_)
 have em:es.toList.map (·.2)=refs zs:=by
  rw[T.el,List.map_map]
  unfold refs
  exact List.map_congr_left fun z _=>by rw[Function.comp_apply,qw]
 rw[em] at pv
 obtain⟨qf,rfl,cK⟩:=zy (fun z:Z=>Value.ref z.2) pv
 have l1:=cK.length_eq
 have vl:(qf.map fun z:Z=>Value.ref z.2).length=qf.length:=by simp
 refine wpAny_bind (wpAny_newList ?_ (by rw[vl];omega))
 show wpAny _ _ _ _ _ { s with heap:=h1.push (seqObj "list" (refs qf).toArray 0),drawn:=d,toks:=tk }
 have hoL:(h1.push (seqObj "list" (refs qf).toArray 0)).get? h1.objs.size=some (seqObj "list" (refs qf).toArray 0):=Heap.get?_push_size _ rfl
 refine wpAny_bind (wpAny_holding (wpAny_call_entry slot_list_sort ⟨_,hoL,rfl⟩ entry_list_sort (Mm (s:={ s with heap:=h1.push (seqObj "list" (refs qf).toArray 0),drawn:=d,toks:=tk }) hoL (fun z hz1=>(hz z (cK.mem_iff.mp hz1)).at fun o e=>Heap.get?_push_of_some _ (k1 _ _ e)) (fun z hz1=>T.sm z (cK.mem_iff.mp hz1)) ((cK.map _).nodup_iff.mpr T.nd) (by omega) fun zs' pm pw=>⟨_,rfl,?_⟩) (args_list_sort _)))
 obtain⟨e,ge⟩:=GK hoL (refs zs').toArray
 exact wpAny_pure ⟨_,rfl,h _ d tk h1.objs.size e zs' le (fun b o z=>GL (Nat.ne_of_lt (Heap.lt_size (k1 b o z))) (Heap.get?_push_of_some _ (k1 b o z))) ge (pm.trans cK) pw⟩
end
end So
namespace L2
open PySem PySem.Spec PyProof.Rows Ex St So
section
variable{X:Cx}
noncomputable def EW(X:Cx)(xs:List V)(H:Hp)(Q:VK):Prop:=∃ (p:Addr) (zs:List Z),xs=[.ref p]/\H p=some (rZ X p zs)/\(∀ z∈zs,H z.2=some (.tup [.int z.1.1,.int z.1.2]))/\zs.length<512 /\
 ∀ (q:Addr) (zs':List Z),H q=none->zs'.Perm zs->zs'.Pairwise (fun y z=>enc y.1<=enc z.1)->Q (.ref q) (upd H q (.lst (zs'.map fun z=>V.ref z.2)))
theorem EX:∀ zs:List Z,Vals (zs.map fun z=>V.ref z.2) (refs zs)
 | []=>.nil
 |z::r=>.cons rfl (EX r)
theorem EY(calm:X.calm=true):aS X (.builtin "sorted") (EW X):=by
 intro pins s σ H xs us Q I r h
 obtain⟨p,zs,rfl,hp,ht,hn,q⟩:=h
 obtain⟨u,rfl,ru⟩:=r.one
 cases ru
 obtain⟨S,_⟩:=I.hok p _ hp
 refine Mn (I.ok.hd calm) S (fun z hz=>vg I.hok (ht z hz)) hn fun h' d tk p' e zs' le k g pm pw=>?_
 refine⟨.ref p',upd H p' (.lst (zs'.map fun z=>V.ref z.2)),(I.laid (t':=tk) (o:=.lst (zs'.map fun z=>V.ref z.2)) k le ⟨?_,refs zs',e,EX zs',g⟩).drawn d,rfl,q _ zs' (I.hok.fresh le) pm pw⟩
 rw[List.length_map,pm.length_eq]
 have z:(512:Nat)<=sizeLine:=by decide
 omega
end
end L2
namespace Dv
open PySem L2 Ex St So
variable[KC]
noncomputable def pD(c:Int×Int):D:=.tup [.int c.1,.int c.2]
noncomputable def asP:List D->Option (List (Int×Int))
 | []=>some []
 | .tup [.int i,.int j]::r=>if decide (0<=i) && decide (i<=30) && decide (0<=j) && decide (j<=30) then (asP r).map ((i,j) :: ·) else none
 | _=>none
omit [KC] in
theorem su{d:D}{r:List D}{cs:List (Int×Int)}(h:asP (d::r)=some cs):∃ c cs',d=pD c/\cn c/\asP r=some cs'/\cs=c::cs':=by
 unfold asP at h
 split at h
 · cases ‹d::r=[]›
 · rename_i i j r' e
   cases e
   split at h
   · rename_i c
     simp only[Bool.and_eq_true,decide_eq_true_eq] at c
     cases q:asP r with
     |none=>rw[q] at h;cases h
     |some cs'=>rw[q] at h;cases h;exact⟨(i,j),cs',rfl,⟨⟨c.1.1.1,c.1.1.2⟩,c.1.2,c.2⟩,rfl,rfl⟩
   · cases h
 · cases h
omit [KC] in
theorem zz:∀ {a b:List D} {cs:List (Int×Int)},asP (a++b)=some cs->∃ c1 c2,asP a=some c1/\asP b=some c2/\cs=c1++c2
 | [],b,cs,h=>⟨[],cs,rfl,h,rfl⟩
 |d::a,b,cs,h=>by
   obtain⟨c,cs',rfl,sm,h',rfl⟩:=su (r:=a++b) h
   obtain⟨c1,c2,e1,e2,rfl⟩:=zz h'
   refine⟨c::c1,c2,?_,e2,rfl⟩
   show(if decide (0<=c.1) && decide (c.1<=30) && decide (0<=c.2) && decide (c.2<=30) then (asP a).map (c :: ·) else none)=_
   rw[if_pos (by simp only[Bool.and_eq_true,decide_eq_true_eq];exact⟨⟨⟨sm.1.1,sm.1.2⟩,sm.2.1⟩,sm.2.2⟩),e1]
   rfl
omit [KC] in
theorem Mp{K:Type}[BEq K][LawfulBEq K](σ:List K)(v x:K):x∈PyProof.Rows.step_dedup σ v ↔ x∈σ\/x=v:=by
 unfold PyProof.Rows.step_dedup
 split
 · rename_i h
   rw[List.any_eq_true] at h
   obtain⟨y,hy,e⟩:=h
   have e:y=v:=by simpa using e
   subst e
   exact⟨.inl,fun z=>z.elim id fun e=>by rw[e];exact hy⟩
 · simp
omit [KC] in
theorem Mq{K:Type}[BEq K][LawfulBEq K]{σ:List K}(h:σ.Nodup)(v:K):(PyProof.Rows.step_dedup σ v).Nodup:=by
 unfold PyProof.Rows.step_dedup
 split
 · exact h
 · rename_i q
   rw[List.nodup_append]
   refine⟨h,by simp,fun a ha b hb e=>?_⟩
   rw[List.mem_singleton] at hb
   subst hb
   subst e
   exact q (List.any_eq_true.mpr ⟨a,ha,by simp⟩)
omit [KC] in
theorem zA{K:Type}[BEq K][LawfulBEq K]:∀ (ns σ:List K),σ.Nodup->(ns.foldl PyProof.Rows.step_dedup σ).Nodup/\∀ x,x∈ns.foldl PyProof.Rows.step_dedup σ ↔ x∈σ\/x∈ns
 | [],σ,h=>⟨h,fun x=>by simp⟩
 |v::r,σ,h=>by
   obtain⟨a,b⟩:=zA r _ (Mq h v)
   refine⟨a,fun x=>?_⟩
   rw[List.foldl_cons,b x,Mp,List.mem_cons,or_assoc]
noncomputable def sv(cs:List (Int×Int)):List (Int×Int):=cs.foldl PyProof.Rows.step_dedup []
noncomputable def aH(cs:List (Int×Int)):List (Int×Int):=(sv cs).mergeSort fun a b=>decide (enc a<=enc b)
omit [KC] in
theorem zB(cs:List (Int×Int)):(aH cs).Perm (sv cs):=List.mergeSort_perm ..
omit [KC] in
theorem eh{cs:List (Int×Int)}{c:Int×Int}:c∈aH cs ↔ c∈cs:=by
 rw[(zB cs).mem_iff]
 have:=(zA cs [] List.nodup_nil).2 c
 simpa [sv] using this
omit [KC] in
theorem Mr(cs:List (Int×Int)):(aH cs).Nodup:=(zB cs).nodup_iff.mpr (zA cs [] List.nodup_nil).1
omit [KC] in
theorem Ms(cs:List (Int×Int)):(aH cs).Pairwise fun a b=>enc a<=enc b:=by
 have h:=List.pairwise_mergeSort (le:=fun a b:Int×Int=>decide (enc a<=enc b)) (fun a b c h1 h2=>decide_eq_true (Int.le_trans (of_decide_eq_true h1) (of_decide_eq_true h2))) (fun a b=>by
  rcases Int.le_total (enc a) (enc b) with h | h
  · rw[decide_eq_true h];rfl
  · rw[decide_eq_true h,Bool.or_true]) (sv cs)
 exact h.imp fun h=>of_decide_eq_true h
omit [KC] in
theorem zC{cs l:List (Int×Int)}(sm:∀ c∈cs,cn c)(nd:l.Nodup)(pw:l.Pairwise fun a b=>enc a<=enc b)(hm:∀ c,c∈l ↔ c∈cs):l=aH cs:=by
 have pm:l.Perm (aH cs):=(List.perm_ext_iff_of_nodup nd (Mr cs)).mpr fun c=>by rw[hm c,eh]
 refine List.Perm.eq_of_pairwise (le:=fun a b=>enc a<=enc b) (fun a b ha hb h1 h2=>?_) pw (Ms cs) pm
 exact ES (sm a ((hm a).mp ha)) (sm b (eh.mp hb)) (Int.le_antisymm h1 h2)
omit [KC] in
theorem zD:∀ {ds:List D} {cs:List (Int×Int)},asP ds=some cs->∀ c∈cs,cn c
 | [],cs,h=>by cases h;intro c hc;cases hc
 |d::r,cs,h=>by
   obtain⟨c,cs',rfl,sm,h',rfl⟩:=su h
   intro x hx
   rcases List.mem_cons.mp hx with e | e
   · rw[e];exact sm
   · exact zD h' x e
noncomputable def vq(out:List D->Option RV)(items:M (List D))(fr:List Nat)(own:Nat)(m:D->M Unit)(p:M Bool)(f:M RV):M RV:=M.bind items fun ds=>if ds.length<256 then M.bind (c_ fr own m p f ds) fun ys=>M.cH (out ys) else M.st
noncomputable def qg(ys:List D):Option RV:=(asP ys).map fun cs=>.new (.lst ((aH cs).map pD))
noncomputable abbrev EZ:=vq qg
section
variable{X:Cx}{EE:a9}{ios:List Addr}{p:M Bool}{f:M RV}
omit [KC] in
theorem E1[KC]{R:Hp}{x:V}{c:Int×Int}(h:Rp R x (pD c)):∃ a,x = .ref a/\R a=some (.tup [.int c.1,.int c.2]):=by
 unfold pD at h
 cases h with
 |tup e hs =>
   cases hs with
   |cons h1 hs =>
     cases hs with
     |cons h2 hs =>
       cases hs
       cases h1
       cases h2
       exact⟨_,rfl,e⟩
theorem zE{R:Hp}:∀ (zs:List Z),(∀ z∈zs,R z.2=some (.tup [.int z.1.1,.int z.1.2]))->aB R (zs.map fun z=>V.ref z.2) ((zs.map (·.1)).map pD)
 | [],_=>.nil
 |z::r,h=>.cons (.tup (h z (.head _)) (.cons (.int _) (.cons (.int _) .nil))) (zE r fun y hy=>h y (.tail _ hy))
theorem Mt{fr:List Nat}{own:Nat}{m:D->M Unit}{p:M Bool}{f:M RV}:∀ (ds:List D) (Γ:En) (x:Xc) (Γ':En) (_ _ _:Unit),c_ fr own m p f ds Γ ≠ .ex x Γ'
 | [],_,_,_,_,_,_=>fun h=>by cases h
 |d::r,Γ,x,Γ',_,_,_=>fun h=>by
   unfold c_ at h
   split at h
   · split at h<;>cases h
   · cases h
theorem Mu{β:Type}(S:SK X β){rS:List V->Hp->VK->Prop}{out:List D->Option RV}(inv:β->List D->Hp->Prop)(hmono:∀ b ys R R',inv b ys R->ae R R'->inv b ys R')(h0:∀ R,inv S.e0 [] R)
 (hstep:∀ b ys dy zr rv y R H P,inv b ys R->ys.length<256->out (ys++dy::zr)=some rv->Rp R y dy->ae R H->(∀ b',inv b' (ys++[dy]) R->P b')->S.AD b y H P)
 (hfin:∀ b ys R H A (Q:VK) rv,inv b ys R->ae R H->H A=some (S.O A b)->ys.length<256->out ys=some rv->(∀ z H' R',Al R H R' H'->iX R' H H' z rv->Q z H')->rS [.ref A] H Q)
 {wi:TI} {gt:TG} {tc:TT} {te:TE} {items:M (List D)} {m:D->M Unit} {fr:List Nat} {own:Nat} (hn:fr.Nodup) (hi:rH EE ios wi items) (hg:jm ios own gt m) (hk:nE own m) (hc:k_ EN ios tc p) (he:fT EN ios te f) :
 fT EE ios (fun σ H Q=>zq S fr own wi gt tc te σ H (fun x H1=>rS [x] H1 Q)) (vq out items fr own m p f):=by
 intro σ H R Γ Q er w
 unfold vq at w
 rw[ZY] at w
 refine hi σ H R Γ _ er (aT w (fun ds ah w J H1 R1 p1 hJ=>?_) fun _ _ z=>z)
 split at w
 · rename_i hsz
   rw[ZY] at w
   cases hall:c_ fr own m p f ds ah with
   |ex _ _=>exact absurd hall (Mt _ _ _ _ () () ())
   |st=>rw[hall] at w;exact False.elim w
   |ok E2 zF =>
   rw[hall] at w
   obtain⟨rv,hout,zG⟩:=iy (nD w)
   clear w
   intro A hA
   have yh:R1 A=none:=p1.er.sub.free hA
   have yi:Al R1 H1 R1 (upd H1 A (S.O A S.e0)):=⟨p1.er.sub.trans (ix hA),ae.refl _,ix hA,fun _ _ _ z=>z⟩
   refine⟨fun i n zs H2=>n=ds.length - i/\i<=ds.length/\∃ R2 au gy zr,aM ios R H σ Γ R2 H2 au/\ae R1 R2/\R2 A=none/\c_ fr own m p f (ds.drop i) au = .ok zr zF/\gy++zr=E2/\inv zs gy R2/\gy.length<=i,
    ⟨ds.length,rfl,Nat.zero_le _,R1,ah,[],E2,p1.al yi,ae.refl _,yh,hall,rfl,h0 _,Nat.le_refl _⟩,?_⟩
   rintro i n zs H2 oE ⟨rfl,hi',R2,au,gy,zr,p2,s2,mi,hL,hys,hinv,hyl⟩
   obtain⟨go,stop⟩:=hJ i H2 R2 s2 p2.er.sub
   have rO : ¬ Ow σ Γ A:=fun z=>by
    obtain⟨_,xs,q⟩:=er.ow z
    rw[p1.back er A hA] at q;cases q
   by_cases hlt:i<ds.length
   · have hd:ds[i]? = some ds[i]:=List.getElem?_eq_getElem hlt
     obtain⟨g1,g2⟩:=go _ hd
     rw[List.drop_eq_getElem_cons hlt] at hL
     refine .inr ⟨g1,fun x H3 hx=>?_⟩
     obtain⟨R3,al,rx⟩:=g2 x H3 hx
     unfold c_ at hL
     have p3:aM ios R H σ Γ R3 H3 au:=p2.al al
     have mj:H3 A=some (S.O A zs):=al.hh _ _ oE
     have j_:R3 A=none:=al.no _ _ oE mi
     have yj:ER ios R3 H3 (aj fr own σ) (bW fr own au):=p3.er.blk hn
     have fV : ¬ Ow (aj fr own σ) (bW fr own au) A:=fun z=>rO (p3.sh A z.blk)
     have run:bx (j9 m p f ds[i] (bW fr own au)) (fun y bQ=>∃ kq,c_ fr own m p f (ds.drop (i+1)) (Dv.aF fr own au bQ) = .ok kq zF/\y.toList++kq=zr) rE:=by
      cases q:j9 m p f ds[i] (bW fr own au) with
      |ok y bQ =>
        rw[q] at hL
        dsimp only at hL
        cases q':c_ fr own m p f (ds.drop (i+1)) (Dv.aF fr own au bQ) with
        |ok kq Γ' =>
          rw[q'] at hL
          cases hL
          exact⟨kq,q',rfl⟩
        |ex _ _=>rw[q'] at hL;cases hL
        |st=>rw[q'] at hL;cases hL
      |ex _ _=>rw[q] at hL;cases hL
      |st=>rw[q] at hL;cases hL
     unfold j9 at run
     rw[ZY] at run
     cases hm:m ds[i] (bW fr own au) with
     |ex _ _=>have:=nC run;rw[hm] at this;exact this.elim
     |st=>have:=nC run;rw[hm] at this;exact this.elim
     |ok u nu =>
       obtain⟨k1,k2⟩:=hk _ _ _ hm
       have wm:=nC run
       rw[hm] at wm
       refine hg (aj fr own σ) H3 R3 (bW fr own au) x _ _ yj rx ?_
       rw[hm]
       refine mh fun cW H4 R4 p4 keep s4=>?_
       have w1:=nD wm
       rw[ZY] at w1
       have ke:∀ b,Ow cW nu b->Ow (aj fr own σ) (bW fr own au) b:=by
        rintro b ⟨j,k,d,h1,h2,h3⟩
        by_cases hj:own<=j
        · rw[k1 j hj] at h1
          rw[keep j hj] at h3
          exact⟨j,k,d,h1,h2,h3⟩
        · rcases k2 j (k,d) (by omega) h1 with z | z
          · unfold bW at z;rw[ye (by omega)] at z;cases z
          · cases z;cases h2
       refine hc cW H4 R4 nu _ p4.er (aT w1 (fun b mn w1 H6 R6 p6=>?_) fun _ _ z=>z.elim)
       have p46:bu ios R3 H3 (aj fr own σ) (bW fr own au) R6 H6 cW mn:=p4.trans p6.eO
       have rQ:∀ b,Ow cW mn b->Ow (aj fr own σ) (bW fr own au) b:=fun b z=>ke b (p6.sh b z)
       have yk:H6 A=some (S.O A zs):=p46.go.hh _ _ mj fV
       have oF:R6 A=none:=p46.go.no _ _ mj fV j_
       cases b with
       |false =>
         simp only[Bool.false_eq_true,if_false] at w1 ⊢
         have pu:aM ios R3 H3 σ au R6 H6 (Dv.aF fr own au mn):=aM.aF p3.er hn p46 keep rQ
         obtain⟨kq,e1,e2⟩:=nD w1
         refine⟨yk,_,Nat.sub_lt_sub_left hlt (Nat.lt_succ_self i),rfl,hlt,R6,_,gy,kq,p3.trans pu,(s2.trans al.rr).trans p46.go.rr,oF,e1,by rw[<- hys, <- e2];rfl,hmono _ _ _ _ hinv (al.rr.trans p46.go.rr),by omega⟩
       |true =>
         simp only[if_true] at w1 ⊢
         rw[ZY] at w1
         refine he cW H6 R6 mn _ p6.er (aT w1 (fun PQ K3 w1 y H7 R7 p7 hy=>?_) fun _ _ z=>z.elim)
         rw[ZY] at w1
         obtain⟨dy,kg,R8,p8,s8,ry,w1⟩:=jh p6.er p7 hy w1
         have mq:bu ios R3 H3 (aj fr own σ) (bW fr own au) R8 H7 cW kg:=p46.trans p8.eO
         have yl:∀ b,Ow cW kg b->Ow (aj fr own σ) (bW fr own au) b:=fun b z=>rQ b (p8.sh b z)
         have pu:aM ios R3 H3 σ au R8 H7 (Dv.aF fr own au kg):=aM.aF p3.er hn mq keep yl
         have ym:H7 A=some (S.O A zs):=mq.go.hh _ _ mj fV
         have kh:R8 A=none:=mq.go.no _ _ mj fV j_
         have dW:=p3.trans pu
         have yn : ¬ Ow σ (Dv.aF fr own au kg) A:=fun z=>rO (dW.sh A z)
         obtain⟨kq,e1,e2⟩:=nD w1
         have e2:dy::kq=zr:=e2
         have hsplit:out (gy++dy::kq)=some rv:=by rw[e2,hys];exact hout
         have rr:=al.rr.trans mq.go.rr
         refine⟨ym,hstep zs gy dy kq rv y R8 H7 _ (hmono _ _ _ _ hinv rr) (by omega) hsplit ry dW.er.sub fun zs' hinv'=>?_⟩
         have pA:aM ios R H σ Γ R8 (upd H7 A (S.O A zs')) (Dv.aF fr own au kg):=by
          have up:∀ b,b≠A->upd H7 A (S.O A zs') b=H7 b:=fun b hb=>aV hb
          refine⟨⟨fun b o q=>?_,dW.er.len,fun j t hj=>?_,dW.er.dj⟩,⟨dW.go.rr,fun b o q n=>?_,dW.go.no,dW.go.oo,fun b o q=>?_⟩,dW.sh⟩
          · rw[up b (fun z=>by rw[z,kh] at q;cases q)];exact dW.er.sub b o q
          · obtain⟨v,hv,q⟩:=dW.er.sl j t hj
            refine⟨v,hv,q.mono (ae.refl _) fun ho b zs eb hb rb=>⟨?_,rb⟩⟩
            rw[up b]
            · exact hb
            · rintro rfl;subst eb;exact yn ⟨j,t.1,t.2,hj,ho,hv⟩
          · rw[up b (fun z=>by rw[z,p1.back er A hA] at q;cases q)];exact dW.go.hh b o q n
          · by_cases hb:b=A
            · subst hb;exact⟨_,cJ⟩
            · rw[up b hb];exact dW.go.th b o q
         refine⟨_,Nat.sub_lt_sub_left hlt (Nat.lt_succ_self i),rfl,hlt,R8,_,gy++[dy],kq,pA,(s2.trans al.rr).trans mq.go.rr,kh,e1,by rw[<- hys, <- e2];simp,hinv',by rw[List.length_append];simp;omega⟩
   · have e:ds.drop i=[]:=List.drop_eq_nil_of_le (by omega)
     rw[e] at hL
     have hL:Res.ok [] au=Res.ok zr zF:=hL
     cases hL
     rw[List.append_nil] at hys
     subst hys
     refine .inl ⟨stop (by omega),hfin zs gy R2 H2 A Q rv hinv p2.er.sub oE (by omega) hout fun z H' R' al ra=>?_⟩
     exact zG z H' R' (p2.al al) (ra.rv (p2.back er))
 · exact False.elim w
noncomputable def vt(zs:List Z)(ys:List D)(R:Hp):Prop:=(∀ c1,asP ys=some c1->∀ c,c∈zs.map (·.1) ↔ c∈c1)/\(zs.map (·.1)).Nodup/\(∀ z∈zs,R z.2=some (.tup [.int z.1.1,.int z.1.2]))/\zs.length<=ys.length
omit [KC] in
theorem E3{ys:List D}{rv:RV}(h:qg ys=some rv):∃ cs,asP ys=some cs/\rv = .new (.lst ((aH cs).map pD)):=by
 unfold qg at h
 obtain⟨cs,h1,h2⟩:=Option.map_eq_some_iff.mp h
 exact⟨cs,h1,h2.symm⟩
theorem Mv{hu:X.A.units+1<cLine}(b:List Z)(ys:List D)(dy:D)(zr:List D)(rv:RV)(y:V)(R H:Hp)(P:List Z->Prop)(hinv:vt b ys R)(hl:ys.length<256)(hout:qg (ys++dy::zr)=some rv)(ry:Rp R y dy)(sub:ae R H)(k:∀ b',vt b' (ys++[dy]) R->P b'):(vh (X:=X) hu).AD b y H P:=by
 obtain⟨cs,hcs,_⟩:=E3 hout
 obtain⟨hkeys,hnd,hzs,Mw⟩:=hinv
 obtain⟨c1,c2,q1,q2,_⟩:=zz hcs
 obtain⟨c,c3,rfl,sm,q3,_⟩:=su q2
 obtain⟨pa,rfl,hpa⟩:=E1 ry
 have kz:=hkeys c1 q1
 refine⟨by omega,pa,c,rfl,sub _ _ hpa,sm,fun z hz=>sub _ _ (hzs z hz),fun zs' zH=>k zs' ?_⟩
 have ap:∀ c1',asP (ys++[pD c])=some c1'->∀ x,x∈c1' ↔ x∈c1\/x=c:=fun c1' h x=>by
  obtain⟨d1,d2,r1,r2,rfl⟩:=zz h
  rw[q1] at r1
  cases r1
  obtain⟨c',c4,e,_,e4,rfl⟩:=su r2
  cases e4
  have:c=c':=by
   unfold pD at e
   injection e with e
   injection e with e5 e6
   injection e5 with e5
   injection e6 with e6
   injection e6 with e6
   exact Prod.ext e5 e6
  subst this
  simp
 rcases zH with ⟨rfl,hin⟩ | ⟨pm,oS⟩
 · exact⟨fun c1' h x=>Iff.trans ⟨fun h=>.inl ((kz x).mp h),fun h=>h.elim (kz x).mpr fun e=>by rw[e];exact hin⟩ (ap c1' h x).symm,hnd,hzs,by rw[List.length_append];simp;omega⟩
 · have cK:=pm.map (·.1)
   refine⟨fun c1' h x=>Iff.trans ?_ (ap c1' h x).symm,cK.nodup_iff.mpr (List.nodup_cons.mpr ⟨oS,hnd⟩),fun z hz=>?_,by rw[pm.length_eq,List.length_cons,List.length_append];simp;omega⟩
   · rw[cK.mem_iff,List.map_cons,List.mem_cons,kz x]
     exact Or.comm
   · rcases List.mem_cons.mp (pm.mem_iff.mp hz) with e | e
     · rw[e];exact hpa
     · exact hzs z e
theorem Mx{hu:X.A.units+1<cLine}(b:List Z)(ys:List D)(R H:Hp)(A:Addr)(Q:VK)(rv:RV)(hinv:vt b ys R)(sub:ae R H)(hA:H A=some ((vh (X:=X) hu).O A b))(hl:ys.length<256)(hout:qg ys=some rv)(w:∀ z H' R',Al R H R' H'->iX R' H H' z rv->Q z H'):EW X [.ref A] H Q:=by
 obtain⟨cs,hcs,rfl⟩:=E3 hout
 obtain⟨hkeys,hnd,hzs,Mw⟩:=hinv
 refine⟨A,b,rfl,hA,fun z hz=>sub _ _ (hzs z hz),by omega,fun q zs' hq pm pw=>?_⟩
 have zI:(zs'.map (·.1)).Nodup:=(pm.map _).nodup_iff.mpr hnd
 have ez:zs'.map (·.1)=aH cs:=zC (zD hcs) zI (List.pairwise_map.mpr pw) fun c=>by rw[(pm.map _).mem_iff];exact hkeys cs hcs c
 obtain⟨al,rv⟩:=lT sub hq (zE zs' fun z hz=>hzs z (pm.mem_iff.mp hz))
 rw[ez] at rv
 exact w _ _ _ al rv
theorem My{elt tg iter:Expr}{ifs:List Expr}{pos pos' p0:Pos}{k:Nat}{scope:Scope}{Nc:List Str}{own:Nat}{fr:List Nat}{gt:TG}{items:M (List D)}{m:D->M Unit}(hl:X.mg "sorted" = none)(Mz:Gl X "sorted")(hr0:ax k X.A)(hc:X.calm=true)(B:eV X scope Nc own fr)(hn:fr.Nodup)(hi:VI X EE ios tg iter items)(hog:k6 own gt)
 (hg:∀ cl C s3 H3 fp pn',PG (mv X Nc scope cl C s3 H3 fp pn') tg gt) (hr:jm ios own gt m) (hk:nE own m) (ht:∀ cl C s3 H3 fp pn',uP (mv X Nc scope cl C s3 H3 fp pn') EN ios ifs p) (he:∀ cl C s3 H3 fp pn',VE (mv X Nc scope cl C s3 H3 fp pn') EN ios elt f)
 (hs:∀ x,foldedSetIterable iter X.env x=pure x:=by intro _;rfl) (hst:starEach [.SetComp elt [⟨tg,iter,ifs,0⟩] scope pos] X.env=[(false,eval (.SetComp elt [⟨tg,iter,ifs,0⟩] scope pos) X.env)]:=by rfl):VE X EE ios (.Call (.Name "sorted" p0) [.SetComp elt [⟨tg,iter,ifs,0⟩] scope pos] [] pos') (EZ items fr own m p f) :=
 let ⟨_,h1,h2⟩:=hi
 ⟨_,cz (EY hc) Mz hl (by decide +kernel) (bp (LW (vh (by have:=hr0.un;omega)) hc B h1 hog hg ht (fun cl C s3 H3 fp pn'=>(he cl C s3 H3 fp pn').pe) hs) dv (hs:=hst)) (he:=hst) (hpl:=rfl),Mu (vh _) vt (fun b ys R R' h q=>⟨h.1,h.2.1,fun z hz=>q _ _ (h.2.2.1 z hz),h.2.2.2⟩) (fun R=>⟨fun c1 h c=>by cases h;exact Iff.rfl,List.nodup_nil,(fun z hz=>nomatch hz),Nat.le_refl _⟩) Mv Mx hn h2 hr hk (fun σ H R Γ Q er w=>⟨R,Γ,er,w⟩) (fun σ H R Γ Q er w=>⟨R,Γ,er,w⟩)⟩
end
end Dv
namespace L2
open PySem PySem.Spec PyProof.Rows Ex
section
variable{X:Cx}{EE:a9}{k:Nat}{f C:Addr}{fd:FuncData}{ps:List Str}{sp:Sp}{dvs:List V}{ds:List Value}{x:Str}{p pos:Pos}{e:Expr}{es:List Expr}{t:TA}
theorem E4{pins:List (Addr×Obj)}{σ:St}{H:Hp}{s:Shared}{Q:VK}{us:List Value}{vs:List V}(M:Mk X.K C f)(F:a8 X.prog X.w X.K X.mg X.base (fP X.prog X.w) k f fd ps sp)(hr:ax (k+1) X.A)(hb:Binds X.K fd ps ds)(hd:Vals dvs ds)(hX:XOk X EE)(I:Inv X pins σ H s)(r:Vals vs us)
 (h:∀ x dx,H x=none->H dx=none->dx≠x->sp (.ref x::(vs++dvs)) (upd (upd H dx (.own x)) x (.ins C dx [])) (fun v H2=>v = .ao/\Q (.ref x) H2) (EE σ)):wpAny (model X.prog X.w) X.A (call (.ref C) us) (EP X pins σ Q) X.xe s:=by
 have hq:=h (s.heap.objs.size+1) s.heap.objs.size (I.hok.fresh (Nat.le_succ _)) (I.hok.fresh (Nat.le_refl _)) (Nat.ne_of_lt (Nat.lt_succ_self _))
 have I2:=Inv.made (C:=C) I
 have r2:Vals (V.ref (s.heap.objs.size+1)::(vs++dvs)) (Value.ref (s.heap.objs.size+1)::(us++ds)):=.cons rfl (r.append hd)
 have hl:(Value.ref (s.heap.objs.size+1)::us++ds).length=ps.length:=by
  have e:=r2.length
  rw[F.len _ _ _ _ hq] at e
  exact e.symm
 refine wpAny_call (BW (f:=f) I.bf M.makes M.init (beq_iff_eq.mp M.fn) (codeAny_mono (F.run _ X.stack _ _ ⟨Value.ref (s.heap.objs.size+1)::us,[]⟩ (Value.ref (s.heap.objs.size+1)::(us++ds)) _ _ (EE σ) (hr.make C us [])
  (I2.env0.make C us []) (hb _ (Value.ref (s.heap.objs.size+1)::us) I2.bf hl) r2 hq) fun r s' hq'=>?_))
 cases r with
 |error e=>exact xm hX I2 hq'
 |ok fl =>
   cases fl with
   |ret u =>
     obtain⟨v,H',I3,rv,ev,q3⟩:=I2.after hq'
     subst ev
     exact⟨rv,⟨V.ref (s.heap.objs.size+1),H',I3,rfl,q3⟩⟩
   |next=>exact False.elim hq'
   |brk=>exact False.elim hq'
   |cont=>exact False.elim hq'
noncomputable def Made(C:Addr)(sp si:Sp):Prop:=∀ vs H Q E,sp vs H Q E->∀ x dx,H x=none->H dx=none->dx≠x->si (.ref x::vs) (upd (upd H dx (.own x)) x (.ins C dx [])) (fun v H2=>v = .ao/\Q (.ref x) H2) E
theorem MA{si:Sp}(M:Mk X.K C f)(F:a8 X.prog X.w X.K X.mg X.base (fP X.prog X.w) k f fd ps si)(hr:ax (k+1) X.A)(hg:Gl X x)(hm:X.mg x=some (.ref C))(hb:Binds X.K fd ps ds)(hd:Vals dvs ds)(hX:XOk X EE)(hsp:Made C sp si)
 (ha:PA X (e::es) t) (hdb:(x == ("__debug__" : Str))=false:=by decide) (he:starEach (e::es) X.env=(false,eval e X.env)::starEach es X.env:=by rfl) (hpl:(backTo pos (starEach es X.env)).any (·.1)=false:=by rfl) :
 PE X (.Call (.Name x p) (e::es) [] pos) (oH sp dvs EE t):=by
 intro pins s σ H Q I h
 refine wpAny_Call_Name_kw (nP I hg hm ?_ hdb)
 refine W.callWith_K (h₀:=X.base) I.ok.mod.m8 M.kp (aL (ha pos pins s σ H _ I h) fun us s1 ⟨vs,H1,I1,r,q⟩=>⟨I1.bf,?_⟩) he hpl
 exact E4 M F hr hb hd hX I1 r (hsp _ _ _ _ q)
theorem MB{si:Sp}(M:Mk X.K C f)(F:a8 X.prog X.w X.K X.mg X.base (fP X.prog X.w) k f fd ps si)(hr:ax (k+1) X.A)(hg:Gl X x)(hm:X.mg x=some (.ref C))(hb:Binds X.K fd ps ds)(hd:Vals dvs ds)(hX:XOk X EE)(hsp:Made C sp si)
 (hdb:(x == ("__debug__" : Str))=false:=by decide):PE X (.Call (.Name x p) [] [] pos) (oH sp dvs EE lL):=by
 intro pins s σ H Q I h
 refine wpAny_Call_Name_kw (nP I hg hm ?_ hdb)
 exact W.callWith_K0 I.bf M.kp (E4 (us:=[]) M F hr hb hd hX I .nil (hsp _ _ _ _ h))
end
end L2
namespace Dv
open PySem L2 Ex
variable[KC]
section
variable{X:Cx}{EE:a9}{ios:List Addr}
structure vv(x:Addr)(R H R' H':Hp):Prop where
 sub:ae R' H'
 rr:ae R R'
 hh:∀ b o,b≠x->H b=some o->H' b=some o
 no:∀ b o,b≠x->H b=some o->R b=none->R' b=none
noncomputable def zJ(j:Nat)(ios:List Addr)(R H:Hp)(σ:St)(Γ:En)(D:Ends):Fl->En->Prop:=fun fl Γ'=>∀ ay H' R',bu ios R H σ Γ R' H' ay Γ'->ay[j]? = σ[j]? -> match fl with
 | .nx=>D.nx ay H'
 | .brk=>D.bk ay H'
 | .cont=>D.ct ay H'
 | .ret rv=>∀ x,dS R' H H' ay x rv->D.rt x H'
noncomputable def E5(j:Nat)(EE:a9)(ios:List Addr)(t:TS)(f:M Fl):Prop:=∀ σ H R Γ D,ER ios R H σ Γ->bx (f Γ) (zJ j ios R H σ Γ D) (gw EE ios R H σ Γ)->t D σ H
noncomputable def VJ(j:Nat)(X:Cx)(EE:a9)(ios:List Addr)(st:Stmt)(f:M Fl):Prop:=∃ t,PS X st t/\E5 j EE ios t f
noncomputable def vw(j:Nat)(X:Cx)(EE:a9)(ios:List Addr)(st:List Stmt)(f:M Fl):Prop:=∃ t,PSs X st t/\E5 j EE ios t f
section
variable{X:Cx}{EE:a9}{ios:List Addr}{e c:Expr}{f:M RV}{p:M Bool}{s s':M Fl}{st:Stmt}{sts e_:List Stmt}{pos:Pos}{j:Nat}
theorem MC:vw j X EE ios [] (M.pure .nx):=⟨_,Bw,fun σ H R Γ D er w=>w σ H R (bu.refl er) rfl⟩
theorem MD(h:VJ j X EE ios st s):vw j X EE ios [st] s:=let ⟨_,h1,h2⟩:=h; ⟨_,t6 h1,h2⟩
theorem ME(h:VE X EE ios e f)(hs:swapsWith e none pos.line X.env=pure false:=by rfl):VJ j X EE ios (.Expr e pos) (lj f):=by
 obtain⟨t,h1,h2⟩:=h
 refine⟨_,wD h1 hs,fun σ H R Γ D er w=>?_⟩
 unfold lj at w
 rw[ZY] at w
 exact h2 σ H R Γ _ er (aT w (fun rv ah w x H1 R1 p1 hx=>w σ H1 R1 p1.eO rfl) fun _ _ z=>z.exp)
theorem MF(hc:VT X EE ios c p)(h:vw j X EE ios sts s)(h':vw j X EE ios e_ s'):VJ j X EE ios (.If c sts e_ pos) (dz p s s'):=by
 obtain⟨_,h0,h0'⟩:=hc
 obtain⟨t,h1,h2⟩:=h
 obtain⟨u,h3,h4⟩:=h'
 refine⟨_,Bx h0 h1 h3,fun σ H R Γ D er w=>?_⟩
 unfold dz at w
 rw[ZY] at w
 refine h0' σ H R Γ _ er (aT w (fun b ah w H1 R1 p1=>?_) fun _ _ z=>z.exp)
 have go:∀ fl au,zJ j ios R H σ Γ D fl au->zJ j ios R1 H1 σ ah D fl au:=fun fl au w eI H2 R2 p2 q2=>by
  have:=w eI H2 R2 (p1.eO.trans p2) q2
  cases fl with
  |nx=>exact this
  |brk=>exact this
  |cont=>exact this
  |ret rv=>exact fun x hx=>this x (uG p1.eO.back hx)
 cases b with
 |true=>exact qP (h2 σ H1 R1 ah D p1.er (aT w go fun _ _ z=>gw.trans p1.eO z))
 |false=>exact qO (h4 σ H1 R1 ah D p1.er (aT w go fun _ _ z=>gw.trans p1.eO z))
theorem MG{i:Nat}{x:Str}{pos':Pos}(hij:i≠j)(hN:X.N.Nodup)(hi:X.N[i]? = some x)(hx:Loc X.env.scope x)(he:VE X EE ios e f)(hs:swapsWith e (some (.Name x pos')) pos.line X.env=pure false:=by rfl)(hf:X.fn x=true\/X.env.scope.names.lookup x=some .local:=by first | exact .inl rfl | exact .inr rfl | assumption) :
 VJ j X EE ios (.Assign [.Name x pos'] e pos) (bw i f):=by
 obtain⟨t,h1,h2⟩:=he
 refine⟨_,BC hN hi hx h1 hs hf,fun σ H R Γ D er w=>?_⟩
 unfold bw at w
 rw[ZY] at w
 refine h2 σ H R Γ _ er (aT w (fun rv ah w x H1 R1 p1 hx=>?_) fun _ _ z=>z.exp)
 show D.nx (σ.set i (some x)) H1
 have k:∀ v,(σ.set i (some v))[j]? = σ[j]? := fun v=>List.getElem?_set_ne hij
 rw[ZY] at w
 cases rv with
 |val d=>exact w _ H1 R1 (bu.set er p1 (s:=(.ak,d)) hx fun z=>by cases z) (k _)
 |new d =>
   obtain⟨h1,a,h2,h3⟩:=hx
   exact w _ H1 R1 (bu.set er p1 (s:=(.own,d)) h1 fun _ b eb=>by rw[h2] at eb;cases eb;exact h3) (k _)
 |var j =>
   rw[ZY] at w
   obtain⟨d,au,R2,p2,_,r2,w⟩:=jh er p1 hx w
   exact w _ H1 R2 (bu.set er p2 (s:=(.ak,d)) r2 fun z=>by cases z) (k _)
end
section
variable{X:Cx}{EE:a9}{ios:List Addr}{k:Nat}{f:Addr}{fd:FuncData}{ps:List Str}{C:Cn}{fl x:Str}{p pos apos:Pos}{e o:Expr}{es:List Expr}{fs:M (List RV)}{fo:M RV}{G:List D->Option Rx}{Gp:List D->Option Rt}
noncomputable def sx(C:Cn)(y:Str)(f:M RV):M RV:=M.bind f fun rv=>M.bind (mat rv) fun d=>match d with
 | .obj C' ns vs=>if cd (C'=C) then M.cH (((ns.zip vs).lookup y).map .val) else M.st
 | _=>M.st
theorem MI{y:Str}(hcl:g9 X.K (KC.cls C))(hna:aU X.K (KC.cls C) y)(ha:VE X EE ios e fo)(hb:attributeBase e y X.env (eval e X.env)=eval e X.env):VE X EE ios (.Attribute e y pos) (sx C y fo):=by
 obtain⟨t,h1,h2⟩:=ha
 refine⟨_,IB h1 hb,fun σ H R Γ Q er w=>?_⟩
 unfold sx at w
 rw[ZY] at w
 refine h2 σ H R Γ _ er (aT w (fun rx ah w1 x H1 R1 p1 hx=>?_) fun _ _ z=>z)
 clear w
 rw[ZY] at w1
 obtain⟨d,au,R2,p2,s2,r2,w2⟩:=jh er p1 hx w1
 clear w1
 cases d with
 |obj C' ns vs =>
   dsimp only at w2
   split at w2
   · rename_i hc
     have hc:=lg hc
     subst hc
     obtain⟨rv,hg,w'⟩:=iy w2
     obtain⟨d,hd,rfl⟩:=Option.map_eq_some_iff.mp hg
     clear w2
     cases r2 with
     |obj q hv =>
       obtain⟨v,l1,l2⟩:=zj hv hd
       exact⟨_,_,_,_,v,rfl,p2.er.sub _ _ q,hcl,hna,l1,w' v H1 R2 p2 l2⟩
   · exact False.elim w2
 | _=>exact False.elim w2
noncomputable def gD(C:Cn)(m:Str)(G:List D->Option Rt)(f:M RV):M RV:=M.bind f fun rv=>M.bind (mat rv) fun d=>match d with
 | .obj C' ns vs=>if cd (C'=C/\m ∉ ns) then M.cH ((G [.obj C' ns vs]).map Rt.rv) else M.st
 | _=>M.st
theorem MJ{m:Str}{pl:Sem Bool}(hcl:g9 X.K (KC.cls C))(hm:Meth X.K (KC.cls C) m f)(F:a8 X.prog X.w X.K X.mg X.base eK k f fd ps (cM Gp))(hr:ax k X.A)(hb:Binds X.K fd ps [])(ha:VE X EE ios o fo)
 (ht:eval (.Call (.Attribute o m apos) [] [] pos) X.env=(do
  let ov <- eval o X.env
  standAt apos.atName
  let (f,first) <- holding [ov] (getMethod ov m pl)
  callWith pos f first (backTo pos (starEach [] X.env)) (backToKw pos (keywordEach [] X.env))):=by rfl):VE X EE ios (.Call (.Attribute o m apos) [] [] pos) (gD C m Gp fo):=by
 obtain⟨t,h1,h2⟩:=ha
 refine⟨_,IK h1 hcl hm F hr hb .nil xg ht,fun σ H R Γ Q er w=>?_⟩
 unfold gD at w
 rw[ZY] at w
 refine h2 σ H R Γ _ er (aT w (fun rx ah w1 x H1 R1 p1 hx=>?_) fun _ _ z=>z)
 clear w
 rw[ZY] at w1
 obtain⟨d,au,R2,p2,s2,r2,w2⟩:=jh er p1 hx w1
 clear w1
 cases d with
 |obj C' ns vs =>
   dsimp only at w2
   split at w2
   · rename_i hc
     obtain⟨hc,hn⟩:=lg hc
     subst hc
     obtain⟨rv,hg,w'⟩:=iy w2
     obtain⟨r,hG,rfl⟩:=Option.map_eq_some_iff.mp hg
     clear w2
     have r3:=r2
     cases r2 with
     |obj q hv =>
       refine⟨_,_,_,rfl,p2.er.sub _ _ q,?_,R2,[_],p2.er.sub,.cons r3 .nil,?_⟩
       · rw[List.lookup_eq_none_iff]
         intro z hz
         rw[bne_iff_ne]
         intro e
         exact hn (List.mem_map.mpr ⟨z,hz,e.symm⟩)
       · rw[hG]
         exact fun z H' R' al ra=>w' z H' R' (p2.al al) (ra.rv (p2.back er))
   · exact False.elim w2
 | _=>exact False.elim w2
end
end
end Dv
namespace L2
open PySem PySem.Spec PyProof.Rows Ex
section
variable{X:Cx}{pins:List (Addr×Obj)}{σ:St}{H:Hp}{s:Shared}{A:Around}{E:Value->Shared->Prop}{Q:Value->Shared->Prop}{b:Bool}
theorem MK{x:V}{u t:Value}{tp:Addr}{its:List Value}(I:Inv X pins σ H s)(rx:RelV x u)(ty:cy X.K H x t)(ht:IsTup s.heap tp its.toArray)(e:W.kitAny X.K t its=some b)(h:∀ tk,Q (.bool b) { s with toks:=tk }) :
 wpAny (model X.prog X.w) A (call (.builtin "isinstance") [u,.ref tp]) Q E s:=by
 obtain⟨ob,g1,g2,n,g3⟩:=ht
 obtain⟨oc,od,oda,osl⟩:=ob
 dsimp only at g2 g3
 subst g2 g3
 cases ty with
 |ao=>cases (show u=Value.none from rx);exact W.kia_tup W.kitx_none I.bf True.intro g1 e (fun z=>nomatch z) h
 |bl y=>cases (show u=Value.bool y from rx);exact W.kia_tup W.kitx_bool I.bf True.intro g1 e (fun z=>nomatch z) h
 |int i=>obtain⟨t,q⟩:=(show ∃ t,u=Value.int i t from rx);cases q;exact W.kia_tup W.kitx_int I.bf True.intro g1 e (fun z=>nomatch z) h
 |str y=>obtain⟨t,q⟩:=(show ∃ t,u=Value.str y t from rx);cases q;exact W.kia_tup W.kitx_str I.bf True.intro g1 e (fun z=>nomatch z) h
 |flt y=>obtain⟨t,q⟩:=(show ∃ t,u=Value.float y t from rx);cases q;exact W.kia_tup W.kitx_float I.bf True.intro g1 e (fun z=>nomatch z) h
 | @lst a xs ea =>
   cases (show u=Value.ref a from rx)
   obtain⟨_,_,n,_,h1⟩:=(show aD X.prog X.w H s.heap a (.lst xs) from I.hok a _ ea)
   exact W.kia_tup W.kitx_list I.bf ⟨_,h1,rfl⟩ g1 e (fun z=>nomatch z) h
 | @ak a ob xs ea =>
   cases (show u=Value.ref a from rx)
   obtain⟨_,_,_,n,_,h1⟩:=(show aD X.prog X.w H s.heap a (.ak ob (.lst xs)) from I.hok a _ ea)
   exact W.kia_tup W.kitx_list I.bf ⟨_,h1,rfl⟩ g1 e (fun z=>nomatch z) h
 | @tup a xs ea =>
   cases (show u=Value.ref a from rx)
   obtain⟨_,_,_,p⟩:=(show aD X.prog X.w H s.heap a (.tup xs) from I.hok a _ ea)
   obtain⟨o,h1,h2,_⟩:=p
   exact W.kia_tup W.kitx_tuple I.bf ⟨o,h1,h2⟩ g1 e (fun z=>nomatch z) h
 | @dK a kvs ea =>
   cases (show u=Value.ref a from rx)
   obtain⟨_,_,vs,_,p⟩:=(show aD X.prog X.w H s.heap a (.dK kvs) from I.hok a _ ea)
   obtain⟨o,es,ep,h1,h2,_⟩:=p
   exact W.kia_tup W.kitx_dict I.bf ⟨o,h1,h2.1⟩ g1 e (fun z=>nomatch z) h
 | @dT a kvs ea =>
   cases (show u=Value.ref a from rx)
   obtain⟨_,_,xs,_,o,es,ep,h1,h2,_⟩:=(show aD X.prog X.w H s.heap a (.dT kvs) from I.hok a _ ea)
   exact W.kia_tup W.kitx_dict I.bf ⟨o,h1,h2.1⟩ g1 e (fun z=>nomatch z) h
 | @ins a C dx fs ea cl ha hn htk hm =>
   cases (show u=Value.ref a from rx)
   obtain⟨mA,O,_⟩:=qJ I.hok ea
   obtain⟨od,J,_⟩:=O.look
   exact W.kia_tup (W.kitx_own (cl.get _) cl.hd ha hn htk hm) I.bf J g1 e (fun z=>nomatch z) h
noncomputable def E6(K:W.Frag):List V->Hp->VK->Prop:=fun xs H Q=>∃ x p T U t b,xs=[x,.ref p]/\H p=some (.tup [.ty T,.ty U])/\cy K H x t/\W.kitAny K t [.type T,.type U]=some b/\Q (.bl b) H
theorem MM:aS X (.builtin "isinstance") (E6 X.K):=by
 intro pins s σ H xs us Q I r h
 obtain⟨x,p,T,U,t,b,rfl,hp,ty,e,q⟩:=h
 obtain⟨u,u2,rfl,rx,rc⟩:=Vals.two r
 obtain rfl:u2=Value.ref p:=rc
 obtain⟨_,its,rv,ht⟩:=(show aD X.prog X.w H s.heap p (.tup [.ty T,.ty U]) from I.hok p _ hp)
 obtain⟨v1,v2,rfl,r1,r2⟩:=Vals.two rv
 obtain rfl:v1=Value.type T:=r1
 obtain rfl:v2=Value.type U:=r2
 exact MK I rx ty ht e fun tk=>⟨.bl b,H,I.tok _,rfl,q⟩
end
end L2
namespace Dv
open PySem L2 Ex
variable[KC]
section
variable{X:Cx}{EE:a9}{ios:List Addr}{a o c:Expr}{f fo:M RV}{p:M Bool}{es:List Expr}{fs:M (List RV)}
omit [KC] in
theorem MN[KC](K:W.Frag)(d:D)(hd:plain d=true):W.kitAny K (.type (rj d)) [.type "list",.type "tuple"]=some (hV .list d || hV .tuple d):=by
 cases d<;>first | kernel_rfl | cases hd
noncomputable def qh:D->Option RV
 | .bL _=>none
 | .ins _ _ _=>none
 | .obj _ _ _=>none
 |d=>some (.val (.bl (hV .list d || hV .tuple d)))
noncomputable def sA(f:M RV):M RV:=M.bind (j6 f) fun x=>M.bind (peek x) fun d=>M.cH (qh d)
theorem MO{e0:Expr}(hp:∀ t,PE X a t->PE X e0 (pj (E6 X.K) (jD t (jD (B4 (jD (tC (.ty "list")) (jD (tC (.ty "tuple")) lL))) lL))))(ha:VE X EE ios a f):VE X EE ios e0 (sA f):=by
 obtain⟨t,h1,h2⟩:=ha
 refine⟨_,hp t h1,fun σ H R Γ Q er w=>?_⟩
 unfold sA at w
 rw[ZY] at w
 refine uC h2 er (aT w (fun rx ah w x H1 R1 p1 hx=>?_) fun _ _ z=>z)
 rw[ZY] at w
 obtain⟨d,pd,w⟩:=jg (H:=H) p1.er hx.rv w
 obtain⟨rv,hg,w⟩:=iy w
 have ns:plain d=true:=by cases d<;>first | rfl | cases hg
 have hg:rv = .val (.bl (hV .list d || hV .tuple d)):=by cases d<;>first | (cases hg;done) | exact(Option.some.inj hg).symm
 subst hg
 refine⟨by show 2<=sizeLine;decide +kernel,fun q hq=>?_⟩
 have al:Al R1 H1 R1 (upd H1 q (.tup [.ty "list",.ty "tuple"])):=⟨fun b o z=>by rw[aV (fun e=>by rw[e,p1.er.sub.free hq] at z;cases z)];exact p1.er.sub b o z,ae.refl _,ix hq,fun _ _ _ h=>h⟩
 have hv:=(pd.hv p1.er.sub).sm (H':=upd H1 q (.tup [.ty "list",.ty "tuple"])) (ix hq)
 have ty:=hv.ty (K:=X.K) ns
 exact⟨x,q,_,_,_,_,rfl,cJ,ty,MN X.K d ns,w _ _ R1 (p1.al al) (.bl _)⟩
noncomputable def hid(Γ:En):En:=Γ.map fun s=>s.map fun t=>(.ak,t.2)
theorem zK{j:Nat}{Γ:En}{t:Kd×D}(h:(hid Γ)[j]? = some (some t)):∃ k e,t=(.ak,e)/\Γ[j]? = some (some (k,e)):=by
 unfold hid at h
 rw[List.getElem?_map] at h
 cases q:Γ[j]? with
 |none=>rw[q] at h;cases h
 |some s =>
   rw[q] at h
   cases s with
   |none=>cases h
   |some s=>cases h;exact⟨s.1,s.2,rfl,rfl⟩
theorem E7{σ:St}{Γ:En}{b:Addr} : ¬ Ow σ (hid Γ) b:=by
 rintro⟨j,k,e,h1,h2,_⟩
 obtain⟨_,_,z,_⟩:=zK h1
 cases z
 cases h2
theorem MP{σ:St}{H R:Hp}{Γ:En}(er:ER ios R H σ Γ):ER ios (lent (Ow σ Γ) R H) H σ (hid Γ):=by
 have ss:ae R (lent (Ow σ Γ) R H):=yr fun b z=>(er.ow z).1
 refine⟨uT er.sub,by rw[er.len];unfold hid;rw[List.length_map],fun j t hj=>?_,fun j j' k l e e' b h1 h2 _ _ _ _=>?_⟩
 · obtain⟨k,e,rfl,he⟩:=zK hj
   obtain⟨v,hv,sl⟩:=er.sl j _ he
   refine⟨v,hv,?_⟩
   have own:OwR R H v e->owned k=true->Rp (lent (Ow σ Γ) R H) v e:=fun q ho=>by
    obtain⟨a,xs,ds,rfl,h1,h2,rfl,h3⟩:=q
    refine .lst ?_ (h3.sm ss)
    unfold lent
    rw[if_pos ⟨j,k,_,he,ho,hv⟩]
    exact h2
   cases k with
   |ak=>exact Rp.sm ss sl
   |own=>exact own sl rfl
   |io n=>exact own sl.1 rfl
 · obtain⟨_,_,z,_⟩:=zK h1
   cases z
   cases h2
theorem MQ{σ:St}{H R H' R':Hp}{Γ Γ':En}(er:ER ios R H σ Γ)(p:aM ios (lent (Ow σ Γ) R H) H σ (hid Γ) R' H' Γ'):aM ios R H σ Γ (cq (Ow σ Γ) R') H' Γ/\∀ b o,H b=some o->H' b=some o:=by
 have un:∀ b, ¬ Ow σ Γ b->cq (Ow σ Γ) R' b=R' b:=fun b z=>by unfold cq;rw[if_neg z]
 have un':∀ b,Ow σ Γ b->cq (Ow σ Γ) R' b=none:=fun b z=>by unfold cq;rw[if_pos z]
 have s1:ae R (lent (Ow σ Γ) R H):=yr fun b z=>(er.ow z).1
 have no:∀ b,R b=none -> ¬ Ow σ Γ b->lent (Ow σ Γ) R H b=none:=fun b hb nb=>by unfold lent;rw[if_neg nb];exact hb
 have hh:∀ b o,H b=some o->H' b=some o:=fun b o h=>p.go.hh b o h E7
 have rr:ae R (cq (Ow σ Γ) R'):=fun b o z=>by
  rw[un b fun q=>by rw[(er.ow q).1] at z;cases z]
  exact p.go.rr b o (s1 b o z)
 refine⟨⟨⟨fun b o z=>?_,er.len,fun j t hj=>?_,er.dj⟩,⟨rr,fun b o h _=>hh b o h,fun b o h nb rb=>?_,fun b z=>.inl z,fun b o h=>⟨o,hh b o h⟩⟩,fun b z=>z⟩,hh⟩
 · by_cases nb:Ow σ Γ b
   · rw[un' b nb] at z;cases z
   · rw[un b nb] at z;exact p.er.sub b o z
 · obtain⟨v,hv,q⟩:=er.sl j t hj
   refine⟨v,hv,q.mono rr fun ho a xs e h1 h2=>⟨hh a _ h1,un' a ?_⟩⟩
   subst e
   exact⟨j,t.1,t.2,hj,ho,hv⟩
 · rw[un b nb]
   exact p.go.no b o h E7 (no b rb nb)
end
noncomputable def js(H R':Hp)(x:V)(r:Rt):Prop:=∃ C fl a dx b xs ds,x = .ref a/\r = .val (.obj C [fl] [.lst ds])/\R' a=some (.ins (KC.cls C) dx [(fl,.ref b)])/\R' b=some (.lst xs)/\H a=none/\H b=none/\aB R' xs ds/\gz ds=true
theorem js.rp{H R' H' H0:Hp}{σ:St}{x:V}{r:Rt}(h:js H R' x r):dS R' H0 H' σ x r.rv:=by
 obtain⟨C,fl,a,dx,b,xs,ds,rfl,rfl,h1,h2,_,_,h3,_⟩:=h
 exact Rp.obj (fs:=[(fl,.ref b)]) h1 (.cons (.lst h2 h3) .nil)
noncomputable def sC(G:List D->Option Rx):Sp:=fun vs H Q E=>∃ R ds,ae R H/\aB R vs ds/\match G ds with
 |some (.ok r)=>∀ x H' R',Al R H R' H'->js H R' x r->Q x H'
 |some (.ex x)=>∀ e H' R',Al R H R' H'->k9 R' H H' e x->E (.ref (KC.cls x.C)) (some e) H'
 |none=>False
noncomputable def zL(C:Cn)(fl:Str)(G:List D->Option Rx):Sp:=fun vs H Q E=>∃ x dx vs' R ds,vs = .ref x::vs'/\H x=some (.ins (KC.cls C) dx [])/\R x=none/\ae R H/\aB R vs' ds/\(match G ds with
 |some (.ok r)=>∃ es,r = .val (.obj C [fl] [.lst es])/\gz es=true/\∀ H' R' b xs,vv x R H R' H'->R' x=some (.ins (KC.cls C) dx [(fl,.ref b)])->R' b=some (.lst xs)->H b=none->aB R' xs es->Q .ao H'
 |some (.ex xc)=>∀ e H' R',vv x R H R' H'->k9 R' H H' e xc->E (.ref (KC.cls xc.C)) (some e) H'
 |none=>False)
theorem zM{C:Cn}{fl:Str}{G:List D->Option Rx}(hG:∀ ds r,G ds=some (.ok r)->∃ es,r = .val (.obj C [fl] [.lst es])/\gz es=true):Made (KC.cls C) (sC G) (zL C fl G):=by
 intro vs H Q E h x dx hx hdx ne
 obtain⟨R,ds,s,rp,k⟩:=h
 have ex:upd (upd H dx (.own x)) x (.ins (KC.cls C) dx []) x=some (.ins (KC.cls C) dx []):=cJ
 have old:∀ b o,H b=some o->upd (upd H dx (.own x)) x (.ins (KC.cls C) dx []) b=some o:=fun b o h=>by
  rw[aV (fun z=>by rw[z,hx] at h;cases h),aV (fun z=>by rw[z,hdx] at h;cases h)]
  exact h
 have back:∀ a,upd (upd H dx (.own x)) x (.ins (KC.cls C) dx []) a=none->H a=none:=fun a ha=>by
  cases q:H a with
  |none=>rfl
  |some o=>rw[old a o q] at ha;cases ha
 have rx:R x=none:=s.free hx
 have sD:∀ {R' H'},vv x R (upd (upd H dx (.own x)) x (.ins (KC.cls C) dx [])) R' H'->Al R H R' H':=fun al=>⟨al.sub,al.rr,fun b o h=>al.hh b o (fun z=>by rw[z,hx] at h;cases h) (old b o h),fun b o h r=>al.no b o (fun z=>by rw[z,hx] at h;cases h) (old b o h) r⟩
 refine⟨x,dx,vs,R,ds,rfl,ex,rx,fun b o h=>old b o (s b o h),rp,?_⟩
 cases q:G ds with
 |none=>rw[q] at k;exact k
 |some r =>
   rw[q] at k
   cases r with
   |ok r =>
     obtain⟨es,rfl,fW⟩:=hG ds r q
     exact⟨es,rfl,fW,fun H' R' b xs al h1 h2 h3 h4=>⟨rfl,k _ H' R' (sD al) ⟨C,fl,x,dx,b,xs,es,rfl,rfl,h1,h2,hx,back b h3,h4,fW⟩⟩⟩
   |ex xc =>
     intro e H' R' al xr
     exact k e H' R' (sD al) (k9.back back xr)
noncomputable def lF(s1 s2:M Fl)(fe:M RV):M (List D):=M.bind s1 fun l1=>match l1 with
 | .nx=>M.bind s2 fun l2=>match l2 with
   | .nx=>M.bind fe fun rv=>match rv with
     | .new (.lst es)=>if gz es=true then M.pure es else M.st
     | _=>M.st
   | _=>M.st
 | _=>M.st
noncomputable def oU(C:Cn)(fl:Str):Res (List D)->Option Rx
 | .ok es _=>some (.ok (.val (.obj C [fl] [.lst es])))
 | .ex x _=>some (.ex x)
 | .st=>none
theorem MR{P:Program}{w:World}{K:W.Frag}{mg:Str->Option Value}{base:Heap}{name qual:Str}{fa:Addr}{params:Arguments}{body:List Stmt}{scope:Scope}{dV kV doc pm cdv ct oc:Value}{an od:Option Addr}{osl:Array (Option Value)}{N ps:List Str}{k:Nat}{C:Cn}{fl:Str}{G:List D->Option Rx}{s1 s2:M Fl}{fe:M RV}{st1 st2:Stmt}{self:Str}{p0 p1 p2:Pos}{e:Expr}
 (lk:K.lookup fa=some ⟨oc,od,.func (W.fnOf name qual params body scope dV kV doc pm an cdv ct),osl⟩) (hcd:W.codeIn K cdv qual=true) (S:aq N ps scope) (hbody:body=[st1,st2,.Assign [.Attribute (.Name self p0) fl p1] e p2]) (hcl:g9 K (KC.cls C)) (hna:aU K (KC.cls C) fl)
 (hb:∀ (A:Around) (outer:List Env) (s:Shared) (H:Hp) (E:XK),ax k (A.deeper (PyProof.Rows.envOfC qual scope s.heap.objs.size fa cdv))->let X:=gj (fP P w) P w K mg base N qual scope fa cdv A outer s H E
  VJ 0 X (fun _=>E) [] st1 s1/\VJ 0 X (fun _=>E) [] st2 s2/\VE X (fun _=>E) [] e fe/\PE X (.Name self p0) (m_ 0)/\swapsWith e (some (.Attribute (.Name self p0) fl p1)) p2.line X.env=pure false)
 (h:∀ ds r,G ds=some r->ds.length+1=ps.length/\ds.length<N.length/\oU C fl (lF s1 s2 fe (none::(gam N.tail ds)))=some r):a8 P w K mg base (fP P w) (k+1) fa (W.fnOf name qual params body scope dV kV doc pm an cdv ct) ps (zL C fl G):=by
 refine wZ lk hcd S (fun vs H Q E q=>?_) fun A outer s H vs Q E hr q=>?_
 · obtain⟨x,dx,vs',R,ds,rfl,_,_,_,h2,h3⟩:=q
   cases e:G ds with
   |none=>rw[e] at h3;exact h3.elim
   |some r=>rw[List.length_cons,h2.len];exact(h ds r e).1
 · obtain⟨x,dx,vs',R,ds,rfl,hx,MS,h1,h2,h3⟩:=q
   cases eG:G ds with
   |none=>rw[eG] at h3;exact h3.elim
   |some r =>
     rw[eG] at h3
     obtain⟨⟨t1,a1,a2⟩,⟨t2,b1,b2⟩,⟨t3,c1,c2⟩,hv,hsw⟩:=hb A outer s H E hr
     obtain⟨hl1,hl2,fin⟩:=h ds r eG
     have hn0:N≠[]:=fun z=>by rw[z] at hl2;simp at hl2
     obtain⟨n0,N',rfl⟩:=List.exists_cons_of_ne_nil hn0
     have MT:ER [] R H (L2.start (n0::N') (.ref x::vs')) (none::gam N' ds):=by
      have er:=yp (N:=N') h1 h2
      have es:L2.start (n0::N') (.ref x::vs')=some (.ref x)::L2.start N' vs':=by
       unfold L2.start
       simp
      rw[es]
      refine⟨er.sub,by simp[er.len],fun i sl q=>?_,fun i j k l d e b q1 q2 q3 q4 q5 q6=>?_⟩
      · cases i with
        |zero=>simp at q
        |succ i=>simpa using er.sl i sl (by simpa using q)
      · cases i with
        |zero=>simp at q1
        |succ i =>
          cases j with
          |zero=>simp at q3
          |succ j=>rw[er.dj i j k l d e b (by simpa using q1) q2 (by simpa using q3) q4 (by simpa using q5) (by simpa using q6)]
     have mG:∀ b, ¬ Ow (L2.start (n0::N') (.ref x::vs')) (none::gam N' ds) b:=fun b=>by
      rintro⟨i,k,d,q1,q2,_⟩
      cases i with
      |zero=>simp at q1
      |succ i =>
        obtain⟨_,_,z⟩:=uR (N:=N') (by simpa using q1)
        cases z
        cases q2
     have mH:∀ {R' H':Hp} {ay:St} {Γ':En},bu [] R H (L2.start (n0::N') (.ref x::vs')) (none::gam N' ds) R' H' ay Γ'->vv x R H R' H'/\H' x=some (.ins (KC.cls C) dx [])/\R' x=none:=fun p =>
      ⟨⟨p.er.sub,p.go.rr,fun b o _ h=>p.go.hh b o h (mG b),fun b o _ h r=>p.go.no b o h (mG b) r⟩,p.go.hh x _ hx (mG x),p.go.no x _ hx (mG x) MS⟩
     rw[hbody]
     refine⟨_,t5 a1 (t5 b1 (t6 (IC hv c1 hsw))),?_⟩
     have s0:(L2.start (n0::N') (.ref x::vs'))[0]? = some (some (.ref x)):=yo rfl
     have fin:oU C fl (lF s1 s2 fe (none::gam N' ds))=some r:=fin
     unfold lF M.bind at fin
     show t1 _ _ _
     refine a2 _ H R _ _ MT ?_
     cases q1:s1 (none::gam N' ds) with
     |st=>rw[q1] at fin;cases fin
     |ex xc Γ' =>
       rw[q1] at fin
       cases fin
       exact fun e ay H' R' p qx=>h3 e H' R' (mH p).1 qx
     |ok f1 ah =>
       rw[q1] at fin
       refine mh fun dr H1 R1 p1 k1=>?_
       cases f1 with
       |brk=>cases fin
       |cont=>cases fin
       |ret rv=>cases fin
       |nx =>
         dsimp only at fin ⊢
         show t2 _ _ _
         refine b2 _ H1 R1 _ _ p1.er ?_
         cases q2:s2 ah with
         |st=>rw[q2] at fin;cases fin
         |ex xc Γ' =>
           rw[q2] at fin
           cases fin
           exact fun e ay H' R' p qx=>h3 e H' R' (mH (p1.trans p)).1 (qx.back p1.back)
         |ok f2 au =>
           rw[q2] at fin
           refine mh fun eI H2 R2 p2 k2=>?_
           cases f2 with
           |brk=>cases fin
           |cont=>cases fin
           |ret rv=>cases fin
           |nx =>
             dsimp only at fin ⊢
             have lb:=p1.trans p2
             have k12:eI[0]? = some (some (.ref x)):=by rw[k2,k1];exact s0
             refine c2 eI H2 R2 au _ p2.er ?_
             cases q3:fe au with
             |st=>rw[q3] at fin;cases fin
             |ex xc Γ' =>
               rw[q3] at fin
               cases fin
               exact fun e H' R' p qx=>h3 e H' R' (mH (lb.trans p.eO)).1 (qx.back lb.back)
             |ok rv l9 =>
               rw[q3] at fin
               dsimp only at fin
               refine mh fun y H3 R3 p3 hy=>?_
               cases rv with
               |val d=>cases fin
               |var i=>cases fin
               |new d =>
                 cases d with
                 |lst es =>
                   dsimp only at fin
                   by_cases fW:gz es=true
                   · rw[if_pos fW] at fin
                     cases fin
                     obtain⟨⟨b,ys,fb,rfl,r1,r2,r3,r4⟩,b',eb,hf⟩:=hy
                     cases eb
                     cases r3
                     obtain⟨vx,MU,MV⟩:=mH (lb.trans p3.eO)
                     have vy:H b=none:=lb.back b hf
                     have hbx:b≠x:=fun z=>by rw[z,hx] at vy;cases vy
                     refine⟨.ref x,k12,x,KC.cls C,dx,[],rfl,MU,hcl,hna,by simp,?_⟩
                     obtain⟨es',ee,_,h3⟩:=h3
                     cases ee
                     have re:ae R3 (ext R3 H3 b):=pE r1
                     have MW:ext R3 H3 b x=none:=by rw[k7 (Ne.symm hbx)];exact MV
                     have r':ae (ext R3 H3 b) (upd (ext R3 H3 b) x (.ins (KC.cls C) dx [(fl,.ref b)])):=ix MW
                     refine h3 _ (upd (ext R3 H3 b) x (.ins (KC.cls C) dx [(fl,.ref b)])) b ys ⟨fun c o hc=>?_,(vx.rr.trans re).trans r',fun c o hc ho=>by rw[aV hc];exact vx.hh c o hc ho,fun c o hc ho hr=>?_⟩ cJ ?_ vy (r4.sm (re.trans r'))
                     · by_cases z:c=x
                       · subst z
                         rw[cJ] at hc ⊢
                         exact hc
                       · rw[aV z] at hc ⊢
                         exact uu vx.sub c o hc
                     · rw[aV hc,k7]
                       · exact vx.no c o hc ho hr
                       · rintro rfl
                         rw[vy] at ho
                         cases ho
                     · rw[aV hbx,lR]
                       exact r2
                   · rw[if_neg fW] at fin
                     cases fin
                 | _=>cases fin
noncomputable def h8(G:List D->Option Rx)(fs:M (List RV)):M RV:=M.bind fs fun rvs=>M.bind (cL rvs) fun ds=>match G ds with
 |some (.ok r)=>M.pure r.rv
 |some (.ex x)=>M.bind (b8 rvs) fun ds'=>match G ds' with
  |some (.ex x)=>M.thr x
  | _=>M.st
 |none=>M.st
section
variable{X:Cx}{EE:a9}{ios:List Addr}{e:Expr}{es:List Expr}{fs:M (List RV)}{G:List D->Option Rx}{t:TA}
theorem zN(h2:pF EE ios t fs){σ:St}{H R:Hp}{Γ:En}{Q:VK}(er:ER ios R H σ Γ)
 (w:bx (h8 G fs Γ) (fun rv Γ'=>∀ x H' R' r,rv=Rt.rv r->aM ios R H σ Γ R' H' Γ'->js H R' x r->Q x H') (d9 EE ios R H σ Γ)):oH (sC G) [] EE t σ H Q:=by
 unfold h8 at w
 rw[ZY] at w
 refine h2 σ H R Γ _ er (aT w (fun rvs ah w xs H1 R1 p1 hx=>?_) fun _ _ z=>z)
 show sC G (xs++[]) H1 Q (EE σ)
 rw[List.append_nil]
 rw[ZY] at w
 obtain⟨ds,q,w⟩:=yt w
 obtain⟨ds',pk,e⟩:=pN (K:=fun ds' _=>ds'=ds) (E:=fun _ _=>False) p1.er hx (by rw[q];exact rfl)
 subst e
 cases hG:G ds' with
 |none=>rw[hG] at w;exact False.elim w
 |some rx =>
   rw[hG] at w
   cases rx with
   |ex x =>
     have w:bx (M.bind (b8 rvs) (fun ds'=>match G ds' with
      |some (.ex x)=>M.thr x
      | _=>M.st) ah) _ _:=w
     rw[ZY] at w
     obtain⟨fb,au,R2,p2,s2,r2,w⟩:=ji er p1 hx w
     refine⟨R2,fb,p2.er.sub,r2,?_⟩
     cases ki:G fb with
     |none=>rw[ki] at w;exact False.elim w
     |some ry =>
       rw[ki] at w
       cases ry with
       |ok r=>exact False.elim w
       |ex y=>exact fun e H' R' al xr=>w e H' R' (p2.al al) (xr.back p2.since)
   |ok r =>
     have w:∀ x H' R' r',r.rv=Rt.rv r'->aM ios R H σ Γ R' H' ah->js H R' x r'->Q x H':=w
     refine⟨lent (Ow σ ah) R1 H1,ds',uT p1.er.sub,Pks.lent p1.er hx pk q,?_⟩
     rw[hG]
     intro x H' R' al ra
     have ow:∀ b,Ow σ ah b->R1 b=none/\∃ xs,H1 b=some (.lst xs):=fun b z=>p1.er.ow z
     have un:∀ b, ¬ Ow σ ah b->cq (Ow σ ah) R' b=R' b:=fun b z=>by unfold cq;rw[if_neg z]
     have un':∀ b,Ow σ ah b->cq (Ow σ ah) R' b=none:=fun b z=>by unfold cq;rw[if_pos z]
     have tup:∀ b ys,R' b=some (.tup ys)->cq (Ow σ ah) R' b=some (.tup ys):=fun b ys z=>by
      rw[un b]
      · exact z
      · intro o
        obtain⟨_,zs,hz⟩:=ow b o
        have:=al.sub _ _ z
        rw[al.hh _ _ hz] at this
        cases this
     have rr:ae R1 (cq (Ow σ ah) R'):=fun b o z=>by
      have nb : ¬ Ow σ ah b:=fun q=>by rw[(ow b q).1] at z;cases z
      rw[un b nb]
      apply al.rr
      unfold lent
      rw[if_neg nb]
      exact z
     have no:∀ b o,H1 b=some o->R1 b=none->cq (Ow σ ah) R' b=none:=fun b o hb rb=>by
      by_cases nb:Ow σ ah b
      · exact un' b nb
      · rw[un b nb]
        apply al.no b o hb
        unfold lent
        rw[if_neg nb]
        exact rb
     have al':Al R1 H1 (cq (Ow σ ah) R') H':=⟨fun b o z=>by
      by_cases nb:Ow σ ah b
      · rw[un' b nb] at z;cases z
      · rw[un b nb] at z;exact al.sub b o z,rr,al.hh,no⟩
     refine w x H' _ r rfl (p1.al al') ?_
     obtain⟨C,fl,a,dx,b,xs',fb,rfl,rfl,h1,h3,h4,h5,h6,h7⟩:=ra
     have nw:∀ c,H1 c=none -> ¬ Ow σ ah c:=fun c hc z=>by obtain⟨_,zs,hz⟩:=ow c z;rw[hc] at hz;cases hz
     exact⟨C,fl,a,dx,b,xs',fb,rfl,rfl,by rw[un a (nw a h4)];exact h1,by rw[un b (nw b h5)];exact h3,p1.back er a h4,p1.back er b h5,h6.less tup h7,h7⟩
noncomputable def VY(X:Cx)(EE:a9)(ios:List Addr)(e:Expr)(G:List D->Option Rx)(fs:M (List RV)):Prop:=∃ t,PE X e (oH (sC G) [] EE t)/\pF EE ios t fs
theorem VY.ve(h:VY X EE ios e G fs):VE X EE ios e (h8 G fs):=by
 obtain⟨t,h1,h2⟩:=h
 exact⟨_,h1,fun σ H R Γ Q er w=>zN h2 er (aT w (fun rv Γ' w x H' R' r e p so=>by subst e;exact w x H' R' p so.rp) fun _ _ z=>z)⟩
noncomputable def KBd(K:W.Frag)(fd:FuncData)(ps:List Str):Prop:=∀ (s:Shared) (a:Value) (us:List Value),K.In s.heap->us.length=ps.length->BindsTo s fd ⟨[a],ps.zip us⟩ ((("self" : Str)::ps).zip (a::us))
noncomputable def qi(P:Program)(w:World)(mg:Str->Option Value)(base:Heap)(x:Str)(k:Nat)(ps:List Str)(dvs:List V)(C:Cn)(fl:Str)(G:List D->Option Rx):Prop:=mg x=some (.ref (KC.cls C))/\(∀ ds r,G ds=some (.ok r)->∃ es,r = .val (.obj C [fl] [.lst es])/\gz es=true)/\∃ f fd,Mk KC.K (KC.cls C) f/\a8 P w KC.K mg base (fP P w) k f fd ("self" :: ps) (zL C fl G)/\Binds KC.K fd ("self" :: ps) []/\(∃ dd,Binds KC.K fd ("self" :: ps) dd/\Vals dvs dd)/\KBd KC.K fd ps
theorem zP{x fl:Str}{k:Nat}{ps:List Str}{p0 pos:Pos}{dvs:List V}{C:Cn}(hX:XOk X EE)(Mc:qi X.prog X.w X.mg X.base x k ps dvs C fl G)(hr:ax (k+1) X.A)(hg:Gl X x)(ha:VA X EE ios (e::es) fs)(hK:X.K=KC.K:=by rfl)(hdb:(x == ("__debug__" : Str))=false:=by decide)
 (he:starEach (e::es) X.env=(false,eval e X.env)::starEach es X.env:=by rfl) (hpl:(backTo pos (starEach es X.env)).any (·.1)=false:=by rfl):VY X EE ios (.Call (.Name x p0) (e::es) [] pos) G fs:=by
 obtain⟨hm,hG,f,fd,Mo,F,hb,_⟩:=Mc
 rw[<- hK] at F hb Mo
 obtain⟨t,h1,h2⟩:=ha
 exact⟨t,MA Mo F hr hg hm hb .nil hX (zM hG) h1 hdb he hpl,h2⟩
theorem MX{x fl:Str}{k:Nat}{ps:List Str}{p0 pos:Pos}{C:Cn}(hX:XOk X EE)(Mc:qi X.prog X.w X.mg X.base x k ps [.ao] C fl G)(hr:ax (k+1) X.A)(hg:Gl X x)(hK:X.K=KC.K:=by rfl)(hdb:(x == ("__debug__" : Str))=false:=by decide):VE X EE ios (.Call (.Name x p0) [] [] pos) (h8 G (M.pure [.val .ao])):=by
 obtain⟨hm,hG,f,fd,Mo,F,_,⟨dd,hb,hd⟩,_⟩:=Mc
 rw[<- hK] at F hb Mo
 refine⟨_,MB (dvs:=[.ao]) Mo F hr hg hm hb hd hX (zM hG) hdb,fun σ H R Γ Q er w=>?_⟩
 show sC G [.ao] H Q (EE σ)
 exact zN (t:=fun _ H Q=>Q [.ao] H) (EE:=EE) (fs:=M.pure [.val .ao]) (fun σ H R Γ Q er w=>w [.ao] H R (aM.refl er) (.cons .ao .nil)) er (aT w (fun rv Γ' w x H' R' r e p so=>by subst e;exact w x H' R' p so.rp) fun _ _ z=>z)
end
noncomputable def E8(C:Cn)(m qual:Str)(st:Stmt):Prop:=∃ f fd,jf KC.K m qual st f fd/\Meth KC.K (KC.cls C) m f
noncomputable def vz(P:Program)(w:World)(mg:Str->Option Value)(base:Heap)(C:Cn)(m:Str)(k:Nat)(ps:List Str)(sp:Sp):Prop:=∃ f fd,Meth KC.K (KC.cls C) m f/\a8 P w KC.K mg base eK k f fd ps sp/\Binds KC.K fd ps []
section
variable{P:Program}{w:World}{mg:Str->Option Value}{base:Heap}{k:Nat}{N ps:List Str}{C:Cn}{m qual fl:Str}{st:Stmt}
theorem MY{G:List D->Option Rt}{bm:M Fl}(A0:E8 C m qual st)(S:aq N ps (aa st))
 (bd:∀ (kV doc pm:Value) (an:Option Addr) (cdv ct:Value) (us:List Value),us.length=ps.length->bindArgs (W.fnOf m qual (aW st) (ag st) (aa st) .none kV doc pm an cdv ct) ⟨us,[]⟩=pure (ps.zip us))
 (hb:∀ (fa:Addr) (cdv:Value) (A:Around) (outer:List Env) (s:Shared) (H:Hp) (E:XK),ax k (A.deeper (PyProof.Rows.envOfC qual (aa st) s.heap.objs.size fa cdv))->cD (gj eK P w KC.K mg base N qual (aa st) fa cdv A outer s H E).jT EN [] (ag st) bm)
 (h:∀ ds r,G ds=some r->ds.length=ps.length/\b6 (bm (gam N ds))=some r):vz P w mg base C m (k+1) ps (cM G) :=
 let ⟨f,fd,F,hm⟩:=A0
 ⟨f,fd,hm,yq F S (hb f) h,F.binds bd⟩
noncomputable def E9(C:Cn)(qual:Str)(st:Stmt)(ps:List Str):Prop:=∃ (fa:Addr) (dV kV doc pm cdv ct oc:Value) (an od:Option Addr) (osl:Array (Option Value)),KC.K.lookup fa=some ⟨oc,od,.func (W.fnOf "__init__" qual (aW st) (ag st) (aa st) dV kV doc pm an cdv ct),osl⟩/\W.codeIn KC.K cdv qual=true/\Mk KC.K (KC.cls C) fa /\
 Binds KC.K (W.fnOf "__init__" qual (aW st) (ag st) (aa st) dV kV doc pm an cdv ct) ("self" :: ps) []/\Binds KC.K (W.fnOf "__init__" qual (aW st) (ag st) (aa st) dV kV doc pm an cdv ct) ("self" :: ps) [.none]/\KBd KC.K (W.fnOf "__init__" qual (aW st) (ag st) (aa st) dV kV doc pm an cdv ct) ps
noncomputable def runN(C:Cn)(fl:Str)(n:Nat)(N:List Str)(s1 s2:M Fl)(fe:M RV):List D->Option Rx:=fun ds=>if ds.length=n then oU C fl (lF s1 s2 fe (none::gam N ds)) else none
theorem E_{n:Nat}{s1 s2:M Fl}{fe:M RV}{ds:List D}{r:Rx}(h:runN C fl n N s1 s2 fe ds=some r):ds.length=n/\oU C fl (lF s1 s2 fe (none::gam N ds))=some r:=by
 unfold runN at h
 split at h
 · rename_i c;exact⟨c,h⟩
 · cases h
omit [KC] in
theorem zQ{α β:Type}{f:M α}{g:α->M β}{Γ Γ':En}{b:β}(h:M.bind f g Γ = .ok b Γ'):∃ a ah,f Γ = .ok a ah/\g a ah = .ok b Γ':=by
 unfold M.bind at h
 cases q:f Γ with
 |ok a ah=>rw[q] at h;exact⟨a,ah,rfl,h⟩
 |ex x ah=>rw[q] at h;cases h
 |st=>rw[q] at h;cases h
theorem MZ{n:Nat}{s1 s2:M Fl}{fe:M RV}(ds:List D)(r:Rt)(h:runN C fl n N s1 s2 fe ds=some (.ok r)):∃ es,r = .val (.obj C [fl] [.lst es])/\gz es=true:=by
 have h:=(E_ h).2
 cases q:lF s1 s2 fe (none::gam N ds) with
 |st=>rw[q] at h;cases h
 |ex x Γ=>rw[q] at h;cases h
 |ok es Γ =>
   rw[q] at h
   cases h
   refine⟨es,rfl,?_⟩
   unfold lF at q
   obtain⟨l1,ah,_,q⟩:=zQ q
   cases l1 with
   |nx =>
     obtain⟨l2,au,_,q⟩:=zQ q
     cases l2 with
     |nx =>
       obtain⟨rv,l9,_,q⟩:=zQ q
       cases rv with
       |new d =>
         cases d with
         |lst zs =>
           dsimp only at q
           split at q
           · rename_i hm
             cases q
             exact hm
           · cases q
         | _=>cases q
       | _=>cases q
     | _=>cases q
   | _=>cases q
theorem M0{x:Str}{n:Nat}{s1 s2:M Fl}{fe:M RV}{st1 st2:Stmt}{self:Str}{p0 p1 p2:Pos}{e:Expr}(A0:E9 C qual st ps)(hm:mg x=some (.ref (KC.cls C)))(S:aq ("self" :: N) ("self" :: ps) (aa st))(hbd:ag st=[st1,st2,.Assign [.Attribute (.Name self p0) fl p1] e p2])(hcl:g9 KC.K (KC.cls C))(hna:aU KC.K (KC.cls C) fl)(hn:ps.length=n)(hN:n<N.length+1)
 (hb:∀ (fa:Addr) (cdv:Value) (A:Around) (outer:List Env) (s:Shared) (H:Hp) (E:XK),ax k (A.deeper (PyProof.Rows.envOfC qual (aa st) s.heap.objs.size fa cdv))->let X:=gj (fP P w) P w KC.K mg base ("self" :: N) qual (aa st) fa cdv A outer s H E
  VJ 0 X (fun _=>E) [] st1 s1/\VJ 0 X (fun _=>E) [] st2 s2/\VE X (fun _=>E) [] e fe/\PE X (.Name self p0) (m_ 0)/\swapsWith e (some (.Attribute (.Name self p0) fl p1)) p2.line X.env=pure false):qi P w mg base x (k+1) ps [.ao] C fl (runN C fl n N s1 s2 fe):=by
 obtain⟨fa,dV,kV,doc,pm,cdv,ct,oc,an,od,osl,lk,hcd,Mo,b0,b1,b2⟩:=A0
 refine⟨hm,MZ,fa,_,Mo,MR lk hcd S hbd hcl hna (hb fa cdv) (fun ds r q=>?_),b0,⟨[.none],b1,.cons rfl .nil⟩,b2⟩
 obtain⟨h1,h2⟩:=E_ q
 exact⟨by rw[List.length_cons,hn,h1],by rw[h1];exact hN,h2⟩
end
section
variable{X:Cx}{EE:a9}{ios:List Addr}{k:Nat}{ps:List Str}{C:Cn}{m:Str}{pos apos:Pos}{e o:Expr}{es:List Expr}{fs:M (List RV)}{fo:M RV}{Gp:List D->Option Rt}
theorem oV{pl:Sem Bool}(hcl:g9 KC.K (KC.cls C))(Mc:vz X.prog X.w X.mg X.base C m k ps (cM Gp))(hr:ax k X.A)(ha:VE X EE ios o fo)(hK:X.K=KC.K:=by rfl)
 (ht:eval (.Call (.Attribute o m apos) [] [] pos) X.env=(do
  let ov <- eval o X.env
  standAt apos.atName
  let (f,first) <- holding [ov] (getMethod ov m pl)
  callWith pos f first (backTo pos (starEach [] X.env)) (backToKw pos (keywordEach [] X.env))):=by rfl):VE X EE ios (.Call (.Attribute o m apos) [] [] pos) (gD C m Gp fo):=by
 obtain⟨f,fd,hm,F,hb⟩:=Mc
 rw[<- hK] at hcl hm F hb
 exact MJ hcl hm F hr hb ha ht
theorem M1{y:Str}(hcl:g9 KC.K (KC.cls C))(hna:aU KC.K (KC.cls C) y)(ha:VE X EE ios e fo)(hb:attributeBase e y X.env (eval e X.env)=eval e X.env:=by rfl)(hK:X.K=KC.K:=by rfl):VE X EE ios (.Attribute e y pos) (sx C y fo):=by
 rw[<- hK] at hcl hna
 exact MI hcl hna ha hb
end
end Dv
namespace Dv
open PySem L2 Ex
section
variable{Γ:En}{f fo:M RV}{fs:M (List RV)}{G:List D->Option Rt}{GX:List D->Option Rx}{C:Cn}{m y:Str}
@[simp] theorem zR:gD C m G f Γ=M.bind f (fun rv=>M.bind (mat rv) fun d=>match d with
 | .obj C' ns vs=>if cd (C'=C/\m ∉ ns) then M.cH ((G [.obj C' ns vs]).map Rt.rv) else M.st
 | _=>M.st) Γ:=(rfl)
@[simp] theorem zS:sx C y f Γ=M.bind f (fun rv=>M.bind (mat rv) fun d=>match d with
 | .obj C' ns vs=>if cd (C'=C) then M.cH (((ns.zip vs).lookup y).map .val) else M.st
 | _=>M.st) Γ:=(rfl)
@[simp] theorem vA:h8 GX fs Γ=M.bind fs (fun rvs=>M.bind (cL rvs) fun ds=>match GX ds with
 |some (.ok r)=>M.pure r.rv
 |some (.ex x)=>M.bind (b8 rvs) fun ds'=>match GX ds' with
  |some (.ex x)=>M.thr x
  | _=>M.st
 |none=>M.st) Γ:=(rfl)
@[simp] theorem vB:sA f Γ=M.bind (j6 f) (fun x=>M.bind (peek x) fun d=>M.cH (qh d)) Γ:=(rfl)
@[simp] theorem vC{xs:List D}:qh (.lst xs)=some (.val (.bl true)):=(rfl)
@[simp] theorem Fb{out:List D->Option RV}{items:M (List D)}{fr:List Nat}{own:Nat}{t:D->M Unit}{p:M Bool}:vq out items fr own t p f Γ=M.bind items (fun ds=>if ds.length<256 then M.bind (c_ fr own t p f ds) fun ys=>M.cH (out ys) else M.st) Γ:=(rfl)
@[simp] theorem zT{ys:List D}:qg ys=(asP ys).map fun cs=>.new (.lst ((aH cs).map pD)):=(rfl)
@[simp] theorem Fc:cd (¬ ("points" : Str) = "held")=true:=jH (by decide +kernel)
@[simp] theorem Fd:cd True=true:=jH trivial
end
noncomputable def zrk(sc:Scope)(y:Str):Bool:=match sc.names.lookup y with
 |some .local=>true
 |some .cell=>true
 | _=>false
theorem bG{sc:Scope}{y:Str}(h:zrk sc y=true):Loc sc y:=by
 unfold zrk at h
 split at h
 · rename_i e;exact .inl e
 · rename_i e;exact .inr e
 · cases h
end Dv
namespace L2
open PySem PySem.Spec PyProof.Rows Ex
mutual
inductive cN(H:Hp):V->PyData->Prop
 |ao:cN H .ao .none
 |bl (b:Bool):cN H (.bl b) (.bool b)
 |int (i:Int):cN H (.int i) (.int i)
 |str (x:Str):cN H (.str x) (.str x)
 |lst {a:Addr} {xs:List V} {ds:List PyData}:H a=some (.lst xs)->cm H xs ds->cN H (.ref a) (.list ds)
 |tup {a:Addr} {xs:List V} {ds:List PyData}:H a=some (.tup xs)->cm H xs ds->cN H (.ref a) (.tuple ds)
 |gk {a:Addr}:H a=some (.dK [])->cN H (.ref a) (.dict [])
inductive cm(H:Hp):List V->List PyData->Prop
 |nil:cm H [] []
 |cons {x:V} {d:PyData} {xs:List V} {ds:List PyData}:cN H x d->cm H xs ds->cm H (x::xs) (d::ds)
end
noncomputable def zU(K:W.Frag):Prop:=∃ o,K.lookup sysModules=some o/\o.cls = .type "dict"
mutual
theorem cN.reads{P:Program}{w:World}{H:Hp}{h:Heap}(ok:bZ P w H h)(hs:∀ o,h.get? sysModules=some o->o.cls = .type "dict"):∀ {x:V} {d:PyData} {u:Value},cN H x d->RelV x u->∃ as,Reads h u d as/\sysModules ∉ as
 | _,_,_,.ao,r=>by cases r;exact⟨_,.none,by simp⟩
 | _,_,_,.bl b,r=>by cases r;exact⟨_,.bool b,by simp⟩
 | _,_,_,.int i,r=>by obtain⟨t,rfl⟩:=r;exact⟨_,.int i t,by simp⟩
 | _,_,_,.str x,r=>by obtain⟨t,rfl⟩:=r;exact⟨_,.str x t,by simp⟩
 | _,_,_,.lst e D,r=>by
   cases r
   obtain⟨_,its,n,rv,q⟩:=ok _ _ e
   obtain⟨as,R,ns⟩:=cm.reads ok hs D rv
   refine⟨_,.list q rfl rfl R,fun z=>?_⟩
   rcases List.mem_cons.mp z with z | z
   · exact absurd (show Value.type "list" = Value.type "dict" from hs _ (z ▸ q)) (by decide)
   · exact ns z
 | _,_,_,.tup e D,r=>by
   cases r
   obtain⟨_,its,rv,o,q,c,n,d⟩:=ok _ _ e
   obtain⟨as,R,ns⟩:=cm.reads ok hs D rv
   exact⟨_,.tuple q c d R,ns⟩
 | _,_,_,.gk e,r=>by
   cases r
   obtain⟨R,nb⟩:=Lq ok e
   exact⟨_,R,fun z=>nb (List.mem_singleton.mp z).symm⟩
theorem cm.reads{P:Program}{w:World}{H:Hp}{h:Heap}(ok:bZ P w H h)(hs:∀ o,h.get? sysModules=some o->o.cls = .type "dict"):∀ {xs:List V} {ds:List PyData} {us:List Value},cm H xs ds->Vals xs us->∃ as,ReadsAll h us ds as/\sysModules ∉ as
 | _,_,_,.nil,r=>by cases r;exact⟨_,.nil,by simp⟩
 | _,_,_,.cons a b,r=>by
   cases r with
   |cons r1 r2 =>
     obtain⟨_,R1,n1⟩:=cN.reads ok hs a r1
     obtain⟨_,R2,n2⟩:=cm.reads ok hs b r2
     exact⟨_,.cons R1 R2,fun z=>(List.mem_append.1 z).elim n1 n2⟩
end
section
variable{X:Cx}
theorem M3{k:Nat}(hr:ax k X.A)(sm:zU X.K):aS X (.builtin "repr") (fun xs H Q=>∃ (a:Addr) (d:PyData),xs=[.ref a]/\cN H (.ref a) d/\d.showable=true/\d.depth<=50/\d.shown.length<=sizeLine/\Q (.str d.shown) H):=by
 intro pins s σ H xs us Q I r h
 obtain⟨a,d,rfl,D,sh,dp,sz,q⟩:=h
 obtain⟨u,rfl,ru⟩:=r.one
 cases ru
 obtain⟨o,so,sc⟩:=sm
 obtain⟨as,R,ns⟩:=D.reads I.hok (fun o' e=>by rw[I.bf _ _ so] at e;cases e;exact sc) (u:=.ref a) rfl
 have un:=hr.units
 exact repr_of_reads' R sh (fun _=>ns) hr.gd (by omega) (fun _ _ z=>z) (fun h' u tk kp=>⟨.str d.shown,H,I.kept kp,⟨u,rfl⟩,q⟩) sz
theorem M4:aS X (.builtin "repr") (fun xs H Q=>xs=[.ao]/\Q (.str "None") H):=by
 intro pins s σ H xs us Q I r h
 obtain⟨rfl,q⟩:=h
 obtain⟨u,rfl,ru⟩:=r.one
 cases ru
 exact PySem.P.repr_of_none ⟨.str _,H,I.kept (fun _ _ e=>e),⟨_,rfl⟩,q⟩
end
end L2
namespace Dv
open PySem L2 Ex
variable[KC]
mutual
noncomputable def h9:D->Bool
 | .ao=>true
 | .bl _=>true
 | .int _=>true
 | .str _=>true
 | .lst xs=>mI xs
 | .tup xs=>mI xs
 | .gk [] []=>true
 | _=>false
noncomputable def mI:List D->Bool
 | []=>true
 |x::r=>h9 x && mI r
end
mutual
theorem Rp.jt{H:Hp}:∀ {x:V} {d:D},Rp H x d->h9 d=true->cN H x d.py
 | _,_,.ao,_=>.ao
 | _,_,.bl b,_=>.bl b
 | _,_,.int i,_=>.int i
 | _,_,.str x,_=>.str x
 | _,_,.lst e h,p=>.lst e (aB.jt h (by simpa [h9] using p))
 | _,_,.tup e h,p=>.tup e (aB.jt h (by simpa [h9] using p))
 | _,_,.gu e,p=>.gk e
 | _,_,.bL e,p=>by simp[h9] at p
 | _,_,.fS e,p=>by simp[h9] at p
 | _,_,.exc e e' h,p=>by simp[h9] at p
 | _,_,.obj e h,p=>by simp[h9] at p
theorem aB.jt{H:Hp}:∀ {xs:List V} {ds:List D},aB H xs ds->mI ds=true->cm H xs (D.eL ds)
 | _,_,.nil,_=>.nil
 | _,_,.cons a b,p=>by
   have p:=Bool.and_eq_true_iff.mp (show(h9 _ && mI _)=true from by simpa only [mI] using p)
   exact .cons (Rp.jt a p.1) (aB.jt b p.2)
end
noncomputable def M5:D->Bool
 | .lst _=>true
 | .tup _=>true
 | .gk _ _=>true
 | _=>false
noncomputable def sE(d:D):Bool:=h9 d && d.py.showable && decide (d.py.depth<=50) && decide (d.py.shown.length<=sizeLine)
noncomputable def iD:List D->Option RV
 | [.str x]=>if cd ((reprText x).length<=sizeLine) then some (.val (.str (reprText x))) else none
 | [.int i]=>if cd (i.natAbs.log2<1920) then some (.val (.str (toString i))) else none
 | [.bl b]=>some (.val (.str (if b then "True" else "False")))
 | [.ao]=>some (.val (.str "None"))
 | [d]=>if M5 d && sE d then some (.val (.str d.py.shown)) else none
 | _=>none
noncomputable def Fe(xs:List V)(H:Hp)(Q:VK):Prop:=(∃ (a:Addr) (d:PyData),xs=[.ref a]/\cN H (.ref a) d/\d.showable=true/\d.depth<=50/\d.shown.length<=sizeLine/\Q (.str d.shown) H) \/
 (∃ i:Int,xs=[.int i]/\i.natAbs.log2<1920/\Q (.str (toString i)) H) \/
 (∃ x:Str,xs=[.str x]/\(reprText x).length<=sizeLine/\Q (.str (reprText x)) H) \/
 (∃ b:Bool,xs=[.bl b]/\Q (.str (if b then "True" else "False")) H)\/(xs=[.ao]/\Q (.str "None") H)
omit [KC] in
theorem vD{X:Cx}{k:Nat}(hr:ax k X.A)(sm:zU X.K):aS X (.builtin "repr") Fe:=(M3 hr sm).or (gA.or (gB.or (gC.or M4)))
theorem vE:nA Fe iD:=by
 intro R H xs ds rv Q s px hg q
 unfold iD at hg
 split at hg
 · rename_i x
   split at hg
   · rename_i c
     cases hg
     obtain⟨x,rfl,p⟩:=px.one
     have e:=p.str
     subst e
     exact .inr (.inr (.inl ⟨_,rfl,lg c,q _ H R (Al.refl s) (.str _)⟩))
   · cases hg
 · rename_i i
   split at hg
   · rename_i c
     cases hg
     obtain⟨x,rfl,p⟩:=px.one
     have e:=p.int
     subst e
     exact .inr (.inl ⟨_,rfl,lg c,q _ H R (Al.refl s) (.str _)⟩)
   · cases hg
 · rename_i b
   cases hg
   obtain⟨x,rfl,p⟩:=px.one
   have e:=p.bl
   subst e
   exact .inr (.inr (.inr (.inl ⟨_,rfl,q _ H R (Al.refl s) (.str _)⟩)))
 · cases hg
   obtain⟨x,rfl,p⟩:=px.one
   have hv:=p.hv s
   cases hv
   exact .inr (.inr (.inr (.inr ⟨rfl,q _ H R (Al.refl s) (.str _)⟩)))
 · rename_i d _ _ _ _
   obtain⟨x,rfl,p⟩:=px.one
   split at hg
   · rename_i c
     cases hg
     rw[Bool.and_eq_true] at c
     obtain⟨c1,c0⟩:=c
     unfold sE at c0
     simp only[Bool.and_eq_true,decide_eq_true_eq] at c0
     obtain⟨⟨⟨c2,c3⟩,c5⟩,c6⟩:=c0
     have hv:=p.hv s
     have D:=hv.jt c2
     have:∃ a,x = .ref a:=by cases hv<;>first | exact⟨_,rfl⟩ | cases c1
     obtain⟨a,rfl⟩:=this
     exact .inl ⟨a,d.py,rfl,D,c3,c5,c6,q _ H R (Al.refl s) (.str _)⟩
   · cases hg
 · cases hg
end Dv
namespace St
open PySem PyProof.Rows PySem.Spec
section
variable{prog:Program}{w:World}{A:Around}{E:Value->Shared->Prop}{s:Shared}
noncomputable def vF(cs:List Z)(i:Nat)(zs:List Z):Prop:=(∀ c,c∈zs.map (·.1) ↔ c∈(cs.take i).map (·.1))/\(∀ z∈zs,z∈cs)/\zs.length<=i/\(zs.map (·.1)).Nodup
theorem M6{R:Result->Shared->Prop}{I S:Addr}{fp wr:List Addr}{n:Nat}{P:Nat->Value->Prop}{Wt:Nat->Heap->Prop}(W:Walks prog w A.in1 I fp wr n P Wt)(hSf:S ∉ fp)(hu:A.units+1<cLine){B:Bool}(cs:List Z)(hl:cs.length=n)
 (hv:∀ i v,P i v->∃ z,cs[i]? = some z/\v = .ref z.2) (hn:n<600) (sm:∀ z∈cs,cn z.1) (Ff:∀ z∈cs,z.2 ∉ S::wr):∀ (k i:Nat) (s:Shared) (zs:List Z),n - i=k->i<=n->Wt i s.heap->(∀ z∈cs,bN s.heap z.1 z.2)->bO B s.heap S zs->vF cs i zs ->
  (∀ h' tk zs',(∀ b o,b ∉ S::wr->s.heap.get? b=some o->h'.get? b=some o)->bO B h' S zs'->vF cs n zs'->R (.ok (.ret .none)) { s with heap:=h',toks:=tk }) ->
  codeAny (model prog w) A (.builtin "set.update.loop" ⟨[.ref S,.ref I],[]⟩) R s:=by
 have hSw:S ∉ wr:=fun z=>hSf (W.sub _ z)
 intro k
 induction k with
 |zero =>
   intro i s zs hk hi st hP hS hT hR
   obtain rfl:i=n:=by omega
   refine codeAny_builtin PyProof.Rows.F.entry_set_update_loop ?_
   rw[Around.under_plainId PyProof.Rows.F.plain_set_update_loop _]
   show wpAny _ _ (pyNext (.ref I) >>= _) _ _ _
   refine wpAny_bind (W.done s _ _ st fun h' tk hk=>?_)
   show  wpAny _ _ (ret Value.none) _ _ _
   exact wpAny_pure (hR h' tk zs (fun b o hb e=>hk b o (fun z=>hb (.tail _ z)) e) (hS.at fun o e=>hk _ _ hSw e) hT)
 |succ k ih =>
   intro i s zs hk hi st hP hS hT hR
   have lt:i<n:=by omega
   refine codeAny_builtin PyProof.Rows.F.entry_set_update_loop ?_
   rw[Around.under_plainId PyProof.Rows.F.plain_set_update_loop _]
   show wpAny _ _ (pyNext (.ref I) >>= _) _ _ _
   refine wpAny_bind (W.item i s _ _ lt st fun v h1 M7 hv1 st1 hk1=>?_)
   obtain⟨z,hz,rfl⟩:=hv i v hv1
   have zV:z∈cs:=List.mem_of_getElem? hz
   have hS1:bO B h1 S zs:=hS.at fun o e=>hk1 _ _ hSw e
   have vG:∀ z∈cs,bN h1 z.1 z.2:=fun y hy=>(hP y hy).at fun o e=>hk1 _ _ (fun q=>Ff y hy (.tail _ q)) e
   have e1:cs.take (i+1)=cs.take i++[z]:=by
    obtain⟨h1,h2⟩:=List.getElem?_eq_some_iff.mp hz
    rw[List.take_succ_eq_append_getElem h1,h2]
   show wpAny _ _ (holding [Value.ref z.2] (setAdd S (.ref z.2)) >>= _) _ _ _
   refine  wpAny_bind (wpAny_holding ?_)
   refine Bk (s:={ s with heap:=h1,toks:=M7 }) hu hS1 (fun y hy=>vG y (hT.2.1 y hy)) (vG z zV) (sm z zV) (by have:=hT.2.2.1;omega) (fun hin tk=>?_) fun oS h2 tk zs' sb S2 pm=>?_
   · refine wpAny_pure ⟨plainId_quiet PyProof.Rows.F.plain_set_update_loop _,ih (i+1) _ zs (by omega) lt st1 vG hS1 ⟨fun c=>?_,hT.2.1,by have:=hT.2.2.1;omega,hT.2.2.2⟩ fun h3 tk3 zW hk3 S3 T3=>?_⟩
     · rw[e1,List.map_append,List.mem_append,hT.1 c]
       constructor
       · exact .inl
       · rintro(q | q)
         · exact q
         · simp at q;rw[q];exact(hT.1 _).mp hin
     · exact hR h3 tk3 zW (fun b o hb e=>hk3 b o hb (hk1 b o (fun z=>hb (.tail _ z)) e)) S3 T3
   · have cK:=pm.map (·.1)
     refine wpAny_pure ⟨plainId_quiet PyProof.Rows.F.plain_set_update_loop _,ih (i+1) _ zs' (by omega) lt (W.frame _ _ _ st1 fun b hb o e=>?_) (fun y hy=>(vG y hy).at fun o e=>?_) S2 ⟨fun c=>?_,fun y hy=>?_,?_,?_⟩ fun h3 tk3 zW hk3 S3 T3=>?_⟩
     · rw[sb.2 b fun z=>hSf (by rw[<- z];exact hb)];exact e
     · rw[sb.2 y.2 fun q=>Ff y hy (by rw[q];exact List.mem_cons_self)];exact e
     · rw[cK.mem_iff,e1,List.map_append,List.mem_append,List.map_cons,List.mem_cons,hT.1 c]
       simp[or_comm]
     · rcases List.mem_cons.mp (pm.mem_iff.mp hy) with e | e
       · rw[e];exact zV
       · exact hT.2.1 y e
     · rw[pm.length_eq,List.length_cons];have:=hT.2.2.1;omega
     · exact cK.nodup_iff.mpr (List.nodup_cons.mpr ⟨oS,hT.2.2.2⟩)
     · refine hR h3 tk3 zW (fun b o hb e=>hk3 b o hb ?_) S3 T3
       rw[sb.2 b fun z=>hb (by rw[z];exact List.mem_cons_self)]
       exact hk1 b o (fun z=>hb (.tail _ z)) e
theorem ju{l:Addr}{items:Array Value}{cs:List Z}{Q:Value->Shared->Prop}(hh:A.handled=none)(hu:A.units+10<cLine)(hl:s.heap.IsList l items)(hi:items.toList=cs.map fun z=>Value.ref z.2)(hP:∀ z∈cs,bN s.heap z.1 z.2)(sm:∀ z∈cs,cn z.1)(hn:cs.length<600)
 (h:∀ (h':Heap) (tk:Nat) (zs:List Z),bO (w.params.followText "set-order") h' s.heap.objs.size zs->vF cs cs.length zs->(∀ b o,s.heap.get? b=some o->h'.get? b=some o)->Q (.ref s.heap.objs.size) { s with heap:=h',toks:=tk }) :
 wpAny (model prog w) A (call (.type "set") [.ref l]) Q E s:=by
 have len:cs.length=items.size:=by have:=congrArg List.length hi;simpa using this.symm
 refine Gm rfl ?_
 generalize w.params.followText "set-order" = B at h ⊢
 obtain⟨⟨cl,di,da,sl⟩,g,rfl,n,rfl⟩:=hl
 have new:(s.heap.push (bh #[] 0 (.fresh 0 0 (!B)))).get? s.heap.objs.size=some (bh #[] 0 (.fresh 0 0 (!B))):=Heap.get?_push_size _ rfl
 generalize hH:s.heap.push (bh #[] 0 (.fresh 0 0 (!B)))=H at new ⊢
 have up:∀ b o,s.heap.get? b=some o->H.get? b=some o:=fun b o e=>by rw[<- hH];exact Heap.get?_push_of_some _ e
 have sz:H.objs.size=s.heap.objs.size+1:=by rw[<- hH];exact Heap.size_push ..
 have gl:=up _ _ g
 have lt:l<s.heap.objs.size:=Heap.lt_size g
 have il:H.IsList l items:=⟨_,gl,rfl,n,rfl⟩
 have no:=F.sub_list_set
 have PR:=F.sub_list_frozenset
 have PU:(Value.type "list" == Value.type "dict")=false:=by decide
 have new':=new
 unfold bh at new
 unfold Builtin.«set.__init__» noKeywords
 unfold Builtin.Frozenset.updateFrom
 generalize M8:pyIter=PI
 wp_walk
 rw[<- M8]
 refine PySem.wpAny_pyIter_list (s:={ s with heap:=H }) il ?_
 refine wpAny_bind ?_
 have M9:∀ z∈cs,z.2<s.heap.objs.size:=fun z hz=>by obtain⟨o,_,_,_,_,e,_⟩:=hP z hz;exact Heap.lt_size e
 refine wpAny_runValue (M6 (Walks.list (by simp[hh]) H.objs.size l (Nat.ne_of_lt (by rw[sz];exact Nat.lt_succ_of_lt lt)) items) (S:=s.heap.objs.size) (B:=B) (fun z=>?_) (by simp[Around.in1];omega) cs len (fun i v hv=>?_) (by omega) sm (fun z hz q=>?_) (items.size - 0) 0 _ [] rfl (Nat.zero_le _)
  ⟨⟨_,Heap.get?_push_size _ rfl,rfl,rfl⟩,il.push _⟩ (fun z hz=>(hP z hz).at fun o e=>Heap.get?_push_of_some _ (up _ _ e)) (bO.fresh B (Heap.get?_push_of_some _ new')) ⟨fun c=>by simp,(fun z hz=>nomatch hz),Nat.le_refl _,List.nodup_nil⟩ fun h' tk zs hk S' T'=>?_)
 · rcases List.mem_cons.mp z with z | z
   · rw[sz] at z
     exact absurd z (Nat.ne_of_lt (Nat.lt_succ_self _))
   · exact absurd (List.mem_singleton.mp z) (Nat.ne_of_gt lt)
 · have hv:items.toList[i]? = some v:=by rw[Array.getElem?_toList];exact hv
   rw[hi,List.getElem?_map] at hv
   cases q:cs[i]? with
   |none=>rw[q] at hv;cases hv
   |some z=>rw[q] at hv;cases hv;exact⟨z,rfl,rfl⟩
 · have:=M9 z hz
   rcases List.mem_cons.mp q with q | q
   · exact absurd q (Nat.ne_of_lt this)
   · rw[List.mem_singleton,sz] at q
     exact absurd q (Nat.ne_of_lt (Nat.lt_succ_of_lt this))
 · show wpAny _ _ _ _ _ _
   refine wpAny_pure (show wpAny _ _ (ret Value.none) _ _ _ from wpAny_pure ⟨rfl,h h' tk zs S' (by rw[len];exact T') fun b o e=>hk b o (fun z=>?_) (Heap.get?_push_of_some _ (up b o e))⟩)
   have bl:=Heap.lt_size e
   rcases List.mem_cons.mp z with z | z
   · exact absurd z (Nat.ne_of_lt bl)
   · rw[List.mem_singleton,sz] at z
     exact absurd z (Nat.ne_of_lt (Nat.lt_succ_of_lt bl))
end
end St
namespace L2
open PySem PySem.Spec PyProof.Rows Ex St So
section
variable{X:Cx}
theorem M_{k:Nat}(hr:ax k X.A)(calm:X.calm=true):aS X (.type "set") (fun xs H Q=>∃ (p:Addr) (cs:List Z),xs=[.ref p]/\bP X.K H p (cs.map fun z=>V.ref z.2)/\(∀ z∈cs,H z.2=some (.tup [.int z.1.1,.int z.1.2]))/\(∀ z∈cs,cn z.1)/\cs.length<600 /\
 ∀ l zs,H l=none->vF cs cs.length zs->Q (.ref l) (upd H l (rZ X l zs))):=by
 intro pins s σ H xs us Q I r h
 obtain⟨p,cs,rfl,hS,ht,sm,hn,q⟩:=h
 obtain⟨u,rfl,ru⟩:=r.one
 cases ru
 obtain⟨its,rv,pl,hz⟩:=I.list hS
 have e:its=cs.map fun z=>Value.ref z.2:=by
  clear hS hz pl q hn
  induction cs generalizing its with
  |nil=>cases rv;rfl
  |cons z r ih =>
    cases rv with
    |cons a b =>
      cases a
      rw[List.map_cons,ih (fun y hy=>ht y (.tail _ hy)) (fun y hy=>sm y (.tail _ hy)) _ b]
 have hu:=hr.un
 refine St.ju (I.ok.hd calm) (by omega) pl.isList (by simpa using e) (fun z hz=>vg I.hok (ht z hz)) sm hn fun h' tk zs S T k=>?_
 exact⟨.ref s.heap.objs.size,_,I.laid (t':=tk) (o:=rZ X s.heap.objs.size zs) k (Nat.le_refl _) (LU S),rfl,q _ zs (I.hok.fresh (Nat.le_refl _)) T⟩
end
end L2
namespace Dv
open PySem L2 Ex St So
variable[KC]
noncomputable def vH:List D->Option RV
 | [.lst ds]=>(asP ds).bind fun cs=>if cs.length<512 then some (.new (.lst ((aH cs).map pD))) else none
 | _=>none
theorem Fg{R:Hp}:∀ {ys:List V} {ds:List D} {cs:List (Int×Int)},aB R ys ds->asP ds=some cs->∃ zs:List Z,ys=(zs.map fun z=>V.ref z.2)/\zs.map (·.1)=cs/\(∀ z∈zs,R z.2=some (.tup [.int z.1.1,.int z.1.2]))/\∀ z∈zs,cn z.1
 | _,_,cs,.nil,h=>by cases h;exact⟨[],rfl,rfl,(fun z hz=>nomatch hz),fun z hz=>nomatch hz⟩
 | _,_,cs,.cons a b,h=>by
   obtain⟨c,cs',rfl,sm,h',rfl⟩:=su h
   obtain⟨zs,e1,e2,e3,e4⟩:=Fg b h'
   obtain⟨p,rfl,hp⟩:=E1 a
   refine⟨(c,p)::zs,by rw[List.map_cons,e1],by rw[List.map_cons,e2],fun z hz=>?_,fun z hz=>?_⟩
   · rcases List.mem_cons.mp hz with rfl | hz
     · exact hp
     · exact e3 z hz
   · rcases List.mem_cons.mp hz with rfl | hz
     · exact sm
     · exact e4 z hz
section
variable{X:Cx}{EE:a9}{ios:List Addr}{e:Expr}{fs:M (List RV)}{pos p0 p1 p2:Pos}
theorem Na{k:Nat}(hr0:ax k X.A)(hl:X.mg "sorted" = none)(hg:Gl X "sorted")(hr:X.mg "set" = none)(hg':Gl X "set")(hc:X.calm=true)(ha:VA X EE ios [e] fs)(hs:starEach [.Call (.Name "set" p1) [e] [] p2] X.env=[(false,eval (.Call (.Name "set" p1) [e] [] p2) X.env)]:=by rfl)
 (he:starEach [e] X.env=[(false,eval e X.env)]:=by rfl):VE X EE ios (.Call (.Name "sorted" p0) [.Call (.Name "set" p1) [e] [] p2] [] pos) (cf vH fs):=by
 obtain⟨t,h1,h2⟩:=ha
 refine⟨_,cz (EY hc) hg hl (by decide +kernel) (bp (nU (M_ hr0 hc) hg' hr (by decide +kernel) h1 (he:=he) (hpl:=rfl)) dv (hs:=hs)) (he:=hs) (hpl:=rfl),fun σ H R Γ Q er w=>?_⟩
 unfold cf at w
 rw[ZY] at w
 refine h2 σ H R Γ _ er (aT w (fun rvs ah w xs H1 R1 p1 hx=>?_) fun _ _ z=>z)
 rw[ZY] at w
 obtain⟨ds,pd,w⟩:=pN p1.er hx w
 obtain⟨rv,hg,w⟩:=iy w
 unfold vH at hg
 split at hg
 · rename_i l
   cases h:asP l with
   |none=>rw[h] at hg;cases hg
   |some cs =>
     rw[h] at hg
     have hg:(if cs.length<512 then some (RV.new (.lst ((aH cs).map pD))) else none)=some rv:=hg
     split at hg
     · rename_i c
       cases hg
       obtain⟨x,rfl,p⟩:=pd.one
       obtain⟨a,ys,rfl,g1,g2⟩:=p.lst p1.er.sub
       obtain⟨zs,rfl,e2,e3,e4⟩:=Fg g2 h
       have zl:zs.length=cs.length:=by rw[<- e2,List.length_map]
       refine⟨a,zs,rfl,bP.of g1,fun z hz=>p1.er.sub _ _ (e3 z hz),e4,by omega,fun l ws hl T=>?_⟩
       have mH:Al R1 H1 R1 (upd H1 l (rZ X l ws)):=LC p1.er.sub hl
       refine⟨l,ws,rfl,cJ,fun z hz=>mH.sub _ _ (e3 z (T.2.1 z hz)),by have:=T.2.2.1;omega,fun q ws' hq pm pw=>?_⟩
       have zI:(ws'.map (·.1)).Nodup:=(pm.map _).nodup_iff.mpr T.2.2.2
       have ez:ws'.map (·.1)=aH cs:=zC (zD h) zI (List.pairwise_map.mpr pw) fun c=>by rw[(pm.map _).mem_iff,T.1 c,List.take_length,e2]
       obtain⟨al,rv⟩:=lT mH.sub hq (zE ws' fun z hz=>e3 z (T.2.1 z (pm.mem_iff.mp hz)))
       rw[ez] at rv
       exact w _ _ _ ((p1.al mH).al al) (rv.rv ((p1.al mH).back er))
     · cases hg
 · cases hg
end
end Dv
namespace Dv
open PySem L2 Ex
variable[KC]
section
variable{X:Cx}{EE:a9}{ios:List Addr}{R H R0 H0 R1 H1:Hp}{σ PV:St}{Γ fU ah:En}
section
variable{a b:Expr}{f g:M RV}{j:Nat}{as bs:List D}{sts:List Stmt}{st:Stmt}{s s':M Fl}{pos:Pos}
noncomputable def sF(_ es:List D):Option (List D×D):=match es with
 | []=>some ([],.ao)
 | _=>none
theorem Nb:rq Cv sF:=by
 intro R H p xs ds ys es ds' res Q s hr hp hx hy hg q
 unfold sF at hg
 split at hg
 · cases hg
   cases hy
   exact⟨p,xs,rfl,rfl,hp,q _ _ .nil .ao⟩
 · cases hg
end
end
end Dv
namespace L2
open PySem PySem.Spec PyProof.Rows PySem.Calls Builtin.SmallTypes
section
variable{prog:Program}{w:World}{A:Around}{E:Value->Shared->Prop}{s:Shared}
theorem Fh{it t:Addr}{k:Nat}{xs:Array Value}{Q:Value->Shared->Prop}(hh:A.handled=none)(st1:s.heap.IsTupleIter it t k)(st2:s.heap.IsTuple t xs)(hx:xs[k]? = none)
 (q:∀ h' e,Heap.ExtBut it s.heap h'->(∃ o,h'.get? e=some o/\o.cls = .type "StopIteration")->E (.ref e) { s with heap:=h' }):wpAny (model prog w) A (nextOf (.ref it)) Q E s:=by
 obtain⟨o,ho,hc,hd⟩:=id st1
 obtain⟨ol,hol,_,nl,hdl⟩:=id st2
 delta nextOf
 apply wpAny_bind
 apply wpAny_callSpecial?_slot (name:=Str.ofString "__next__") st1.typeIs F.slot_tuple_iterator_next
 apply wpAny_call_entry F.slot_tuple_iterator_next st1.typeIs F.entry_tuple_iterator_next _ (F.args_tuple_iterator_next_1 _)
 change wpAny _ _ (field (.ref it) 0 >>= _) _ _ _
 apply wpAny_bind;apply wpAny_field ho hd (x:=.ref t) rfl
 change wpAny _ _ (if (Value.ref t == Value.none)=true then _ else _) _ _ _
 rw[if_neg (by intro z;cases beq_iff_eq.mp z)]
 change wpAny _ _ (field (.ref it) 1 >>= _) _ _ _
 apply wpAny_bind;apply wpAny_field ho hd (x:=.int k 0) rfl
 change wpAny _ _ (seqItems? (.ref t) >>= _) _ _ _
 apply wpAny_bind;apply wpAny_seqItems hol hdl
 rw[Int.toNat_natCast]
 dsimp only
 rw[hx]
 dsimp only
 apply wpAny_bind;apply wpAny_rule;apply wpAny_bind;apply wpAny_setField ho hd (by simp)
 change wpAny _ _ (newExc (.type "StopIteration") [] >>= _) _ _ _
 apply wpAny_bind
 simp only[newExc,newTuple]
 apply wpAny_bind;apply wpAny_newObj_type _ (by size_fits)
 refine wpAny_bind (m:=firstArgMember _ _) (wpAny_of_eq (a:=Value.none) rfl ?_)
 apply wpAny_newObj_type _ (by size_fits)
 simp only[raiseNew]
 apply wpAny_bind;apply wpAny_handled
 rw[show A.in1.handled=none from hh]
 apply wpAny_throw
 exact q _ _ (((Heap.SameBut.update ..).extBut.push _).push _) ⟨_,Heap.get?_push_size _ rfl,rfl⟩
theorem Nd{it t:Addr}{xs:Array Value}(hh:A.handled=none)(ne:t≠it):Draws prog w A it [it,t] xs.size (fun i x=>xs[i]? = some x) (fun k h=>h.IsTupleIter it t k/\h.IsTuple t xs) where
 live:=fun i h st=>let ⟨o,e,_⟩:=st.1; ⟨o,e⟩
 frame:=fun i h h' st kp=>(Ex.fv (prog:=prog) (w:=w) ne).keep i h h' st fun b hb=>kp b hb
 item:=fun i s Q E hi st q=>by
  obtain⟨x,hx⟩:∃ x,xs[i]? = some x:=⟨xs[i],Array.getElem?_eq_getElem hi⟩
  exact(Ex.fv ne).item A E s i x Q st hx fun h' a sb=>q x h' s.toks hx a sb
 done:=fun s Q E st q=>Fh hh st.1 st.2 (by simp) q
theorem Nf(l:Addr)(items:Array Value)(n:Nat)(dct:Option Addr)(sl:Array (Option Value)) :
 Meets (Builtin.«enumerate.__new__» ⟨[.type "enumerate",.ref l],[]⟩) (fun _ R s=>s.heap.get? l=some { cls:=.type "tuple",dict:=dct,data:=.seq items n,slots:=sl } /\
  R (.ok (.ret (.ref (s.heap.push { cls:=.type "tuple_iterator",data:=.fields #[.ref l,.int 0 0] }).objs.size)))
   { s with heap:=(s.heap.push { cls:=.type "tuple_iterator",data:=.fields #[.ref l,.int 0 0] }).push { cls:=.type "enumerate",data:=.fields #[.none,.bool false,.ref s.heap.objs.size,rawInt 0,.none,.none] } }) :=
 .of_wp fun prog w A R s h=>by
  obtain⟨hp,g,d,tk,os⟩:=s
  obtain⟨hl,h⟩:=h
  have hsub:=sub_enumerate
  have hL:Heap.IsTuple (Shared.heap ⟨hp,g,d,tk,os⟩) l items:=⟨_,hl,rfl,n,rfl⟩
  wp_walk using AutoSeq1.wpAny_loadPart' hl
  refine wpAny_stack_any fun st=>wpAny_pure ?_
  split
  · rename_i c _ _ _ _ _
    cases (c == Value.type "enumerate")<;>(wp_walk using AutoSeq1.wpAny_loadPart' hl,wpAny_pyIter_tuple hL;exact⟨_,rfl,h⟩)
  · wp_walk using AutoSeq1.wpAny_loadPart' hl,wpAny_pyIter_tuple hL
    exact⟨_,rfl,h⟩
theorem Ng{l:Addr}{items:Array Value}{Q:Value->Shared->Prop}(hL:s.heap.IsTuple l items)
 (q:∀ h',IsEnum h' (s.heap.objs.size+1) s.heap.objs.size 0 .none->h'.IsTupleIter s.heap.objs.size l 0->h'.objs.size=s.heap.objs.size+2->(∀ b o,s.heap.get? b=some o->h'.get? b=some o)->Q (.ref (s.heap.objs.size+1)) { s with heap:=h' }) :
 wpAny (model prog w) A (call (.type "enumerate") [.ref l]) Q E s:=by
 obtain⟨⟨c,dct,dt,sl⟩,hl,hc,n,hd⟩:=hL
 have hc:c = .type "tuple" := hc
 have hd:dt = .seq items n:=hd
 subst hc hd
 apply callType_new F.called_enumerate (by decide) (F.typeCall_enumerate_1 _) (F.newCall_enumerate_1 _) (fun obj=>F.args_object_init_2 obj _) F.entry_enumerate_new (Nf l items n dct sl)
 refine⟨hl,?_⟩
 have hz:(s.heap.push { cls:=.type "tuple_iterator",data:=.fields #[.ref l,.int 0 0] }).objs.size=s.heap.objs.size+1:=Heap.size_push ..
 have he:=Heap.get?_push_size (s.heap.push { cls:=.type "tuple_iterator",data:=.fields #[.ref l,.int 0 0] }) (o:={ cls:=.type "enumerate",data:=.fields #[.none,.bool false,.ref s.heap.objs.size,rawInt 0,.none,.none] }) rfl
 rw[hz] at he
 change _/\_
 rw[hz]
 exact⟨⟨_,he,rfl⟩,q _ he ⟨_,Heap.get?_push_of_some _ (Heap.get?_push_size _ rfl),rfl,rfl⟩ (by rw[Heap.size_push,hz]) fun b o x=>Heap.get?_push_of_some _ (Heap.get?_push_of_some _ x)⟩
end
noncomputable def zX(l:Addr):It where
 go:=fun i H=>∃ xs x,H l=some (.tup xs)/\xs[i]? = some x
 ng:=fun i H v H'=>∃ p xs x,v = .ref p/\H p=none/\H'=upd H p (.tup [.int i,x])/\H l=some (.tup xs)/\xs[i]? = some x
 stop:=fun i H=>∃ xs,H l=some (.tup xs)/\xs.length<=i
noncomputable def Nh(n l:Addr)(i:Nat)(h:Heap):Prop:=∃ old,IsEnum h (n+1) n i old/\h.IsTupleIter n l i
theorem Ni{prog:Program}{w:World}{A:Around}{E:Value->Shared->Prop}{s:Shared}{e it t:Addr}{i:Int}{k:Nat}{xs:Array Value}{old:Value}{Q:Option Value->Shared->Prop}(hh:A.handled=none)(he:IsEnum s.heap e it i old)(st1:s.heap.IsTupleIter it t k)(st2:s.heap.IsTuple t xs)(hx:xs[k]? = none)(q:∀ h',Heap.ExtBut it s.heap h'->Q none { s with heap:=h' }):wpAny (model prog w) A (pyNext (.ref e)) Q E s:=by
 have ty:s.TypeIs (.ref e) "enumerate" := ⟨_,he,rfl⟩
 unfold pyNext
 apply wpAny_bind;apply wpAny_attempt
 apply wpAny_callSpecial?_slot (name:=Str.ofString "__next__") ty F.slot_enumerate_next
 apply wpAny_call_entry F.slot_enumerate_next ty F.entry_enumerate_next _ (F.args_enumerate_next_1 _)
 change wpAny _ _ (field (.ref e) 2 >>= _) _ _ _
 apply wpAny_bind;apply wpAny_field he rfl (x:=.ref it) rfl
 apply wpAny_bind
 refine Fh (A:=A.in1) hh st1 st2 hx fun h' x he' hx'=>?_
 obtain⟨o,ho,hc⟩:=hx'
 refine wpAny_bind (wpAny_isInstance (T := "StopIteration") (b:=true) ⟨o,ho,hc⟩ isSubtype_stop ?_)
 exact wpAny_pure (q _ he')
theorem Nj{P:Program}{w:World}{K:PySem.W.Frag}{es:List Expr}{x1}{pos:Pos}(l n:Addr)(ln:l≠n)(Nk:l≠n+1):Turn P w K (.Tuple es x1 pos) (zX l) (jF n) (n+1) (Nh n l) where
 mem:=by simp[jF]
 obj:=fun i h st b hb=>by
  obtain⟨old,he,⟨o,e,c,d⟩⟩:=st
  rcases aK.mp hb with z | z<;>subst z
  · exact⟨_,he,fun v z=>nomatch z⟩
  · exact⟨_,e,fun v z=>by rw[d] at z;cases z⟩
 keep:=fun i h h' st k=>by
  obtain⟨old,he,⟨o,e,r⟩⟩:=st
  exact⟨old,k _ (aK.mpr (.inl rfl)) _ he,⟨o,k _ (aK.mpr (.inr rfl)) _ e,r⟩⟩
 item:=by
  intro X hP hw hK hc i pins s σ H E I hf st hg
  subst hP hw hK
  obtain⟨xs,x,q1,hx⟩:=hg
  obtain⟨old,he,st1⟩:=st
  have ne:n+1≠n:=Nat.succ_ne_self n
  obtain⟨us,r1,p1,z1⟩:=I.tuple (cV.of q1)
  obtain⟨u,hu,ru⟩:=r1.get hx
  have new:∀ b∈jF n,b<s.heap.objs.size:=fun b hb=>by
   rcases aK.mp hb with e | e<;>subst e
   · exact Heap.lt_size he
   · obtain⟨_,e,_⟩:=st1;exact Heap.lt_size e
  have hi:i<us.toArray.size:=by simpa using (List.getElem?_eq_some_iff.mp hu).1
  apply wpAny_pyNext_enum_itemD (Nd (A:=X.A.in1) (prog:=X.prog) (w:=X.w) (xs:=us.toArray) (I.ok.hd hc) ln) he ⟨st1,p1⟩ hi ne (by simp[Ne.symm Nk])
  intro y h1 tk hy ho1 s1 np sz kept
  have ey:y=u:=by
   have hu':us.toArray[i]? = some u:=by simpa using hu
   rw[hu'] at hy
   exact(Option.some.inj hy).symm
  subst ey
  refine⟨_,rfl,wpAny_letOwnedTupleGo_enum ho1 fun h2 he2 sb=>?_⟩
  have k2:∀ b o,b ∉ jF n->s.heap.get? b=some o->h2.get? b=some o:=fun b o hb e=>by
   rw[aK] at hb
   exact sb.extBut _ _ (fun z=>hb (.inl z)) (kept b o (fun z=>hb (.inl z)) (fun z=>hb (.inr z)) e)
  have fr:H s.heap.objs.size=none:=I.hok.fresh (Nat.le_refl _)
  have nz:s.heap.objs.size≠n+1:=fun e=>absurd (new (n+1) (aK.mpr (.inl rfl))) (by rw[e];exact Nat.lt_irrefl _)
  refine⟨.ref s.heap.objs.size,upd H s.heap.objs.size (.tup [.int i,x]),I.fz (t':=tk+1) k2 hf (Nat.le_refl _) ?_,rfl,⟨_,xs,x,rfl,fr,rfl,q1,hx⟩,⟨y,?_,?_⟩,fun b hb=>?_⟩
  · exact⟨by show(2:Nat)<=sizeLine;decide,[.int i tk,y],.cons ⟨_,rfl⟩ (.cons ru .nil),⟨_,sb.extBut _ _ nz np,rfl,_,rfl⟩⟩
  · exact he2
  · obtain⟨⟨o,e,r⟩,_⟩:=s1
    exact⟨o,sb.extBut _ _ (Ne.symm ne) e,r⟩
  · rw[aV (Nat.ne_of_lt (new b hb))];exact(hf b hb).1
 done:=by
  intro X hP hw hK hc i pins s σ H E I hf st hg
  subst hP hw hK
  obtain⟨xs,q1,hx⟩:=hg
  obtain⟨old,he,st1⟩:=st
  obtain⟨us,r1,p1,z1⟩:=I.tuple (cV.of q1)
  have hl:=r1.length
  apply Ni (I.ok.hd hc) he st1 p1 (by simp;omega)
  intro h1 kept
  exact⟨rfl,I.fw (t':=s.toks) (fun b o hb e=>kept b o (fun z=>hb (aK.mpr (.inr z))) e) hf⟩
 self:=fun A i s Q E st h=>by
  obtain⟨old,he,_⟩:=st
  exact wpAny_pyIter_enum he h
noncomputable def vJ(ta:TA):TI:=fun σ H R=>ta σ H fun vs H1=>∃ l xs,vs=[.ref l]/\H1 l=some (.tup xs)/\R (zX l) H1
section
variable{X:Cx}
theorem Nl{a:Expr}{es:List Expr}{x1}{tp:Pos}{ta:TA}{p pos:Pos}(hg:Gl X "enumerate")(hm:X.mg "enumerate" = none)(ha:PA X [a] ta)(hs:starEach [a] X.env=[(false,eval a X.env)]:=by rfl):PI X (.Tuple es x1 tp) (.Call (.Name "enumerate" p) [a] [] pos) (vJ ta):=by
 intro pins s σ H R I h
 refine Call_ (o7 I hg hm C6 (PyProof.Rows.callWith_type1 (aL (ha pos pins s σ H _ I h) fun us s1 ⟨vs,H1,I1,r1,q1⟩=>?_) hs rfl))
 obtain⟨l,xs,e,q1,q⟩:=q1
 subst e
 obtain⟨u,rfl,e1⟩:=vals1 r1
 cases e1
 obtain⟨us,r1,p1,z1⟩:=I1.tuple (cV.of q1)
 apply Ng p1
 intro h' he st sz kept
 have ll:l<s1.heap.objs.size:=by obtain⟨o,e,_⟩:=p1;exact Heap.lt_size e
 have T:=Nj (P:=X.prog) (w:=X.w) (K:=X.K) (es:=es) (x1:=x1) (pos:=tp) l s1.heap.objs.size (Nat.ne_of_lt ll) (Nat.ne_of_lt (Nat.lt_succ_of_lt ll))
 apply T.self X.A 0 _ _ _ ⟨.none,he,st⟩
 refine⟨_,jF s1.heap.objs.size,_,_,H1,rfl,I1.kept (t':=s1.toks) kept,T,⟨.none,he,st⟩,fun b hb=>?_,q⟩
 have le:s1.heap.objs.size<=b:=by
  rw[aK] at hb
  rcases hb with e | e<;>rw[e]<;>first | exact Nat.le_refl _ | exact Nat.le_add_right _ _
 exact I1.ij le (I1.hok.fresh le)
end
end L2
namespace L2
open PySem PySem.W PyProof.Rows Ex
section
variable{X:Cx}{EE:a9}{k:Nat}{f C:Addr}{fd:FuncData}{ps:List Str}{sp:Sp}{x nm:Str}{p pos kp:Pos}{e:Expr}{te:TE}
theorem Nn{si:Sp}(M:Mk X.K C f)(F:a8 X.prog X.w X.K X.mg X.base (fP X.prog X.w) k f fd ["self",nm] si)(hr:ax (k+1) X.A)(hg:Gl X x)(hm:X.mg x=some (.ref C))(hb:∀ (s:Shared) (a u:Value),X.K.In s.heap->BindsTo s fd ⟨[a],[(nm,u)]⟩ [("self",a),(nm,u)])(hX:XOk X EE)(hsp:Made C sp si)
 (ha:PE X e te) (hdb:(x == ("__debug__" : Str))=false:=by decide) (hall:(backToKw pos (keywordEach [⟨some nm,e,kp⟩] X.env)).all (·.1.isSome)=true:=by rfl) (hks:(backToKw pos (keywordEach [⟨some nm,e,kp⟩] X.env)).filterMap (·.1)=[nm]:=by rfl)
 (hpl:((backTo pos (starEach [] X.env)).any (·.1) || (backToKw pos (keywordEach [⟨some nm,e,kp⟩] X.env)).any (·.1.isNone))=false:=by rfl):PE X (.Call (.Name x p) [] [⟨some nm,e,kp⟩] pos) (oH sp [] EE (jD te lL)):=by
 intro pins s σ H Q I h
 refine wpAny_Call_Name_kw (nP I hg hm ?_ hdb)
 refine PySem.W.callWith_KW0 (h₀:=X.base) I.ok.mod.m8 M.kp hall (aL ((IM ha IL) pos pins s σ H _ I h) fun us s1 ⟨vs,H1,I,r,q⟩=>⟨I.bf,?_⟩) hpl
 rw[hks]
 have q:=hsp _ _ _ _ q
 rw[List.append_nil] at q
 have hq:=q (s1.heap.objs.size+1) s1.heap.objs.size (I.hok.fresh (Nat.le_succ _)) (I.hok.fresh (Nat.le_refl _)) (Nat.ne_of_lt (Nat.lt_succ_self _))
 have I2:=Inv.made (C:=C) I
 have r2:Vals (V.ref (s1.heap.objs.size+1)::vs) (Value.ref (s1.heap.objs.size+1)::us):=.cons rfl r
 have hl:vs.length=1:=by have:=F.len _ _ _ _ hq;simpa using this
 obtain⟨u,rfl⟩:∃ u,us=[u]:=by
  have:=r.length
  match us,this with
  | [u],_=>exact⟨u,rfl⟩
  | [],h=>rw[hl] at h;cases h
  | _::_::_,h=>rw[hl] at h;simp at h
 refine wpAny_call (BW (f:=f) I.bf M.makes M.init (beq_iff_eq.mp M.fn) (codeAny_mono (F.run _ X.stack _ _ ⟨[Value.ref (s1.heap.objs.size+1)],[(nm,u)]⟩ [Value.ref (s1.heap.objs.size+1),u] _ _ (EE σ) (hr.make C [] [(nm,u)])
  (I2.env0.make C [] [(nm,u)]) (hb _ _ u I2.bf) r2 hq) fun r s' hq'=>?_))
 cases r with
 |error e=>exact xm hX I2 hq'
 |ok fl =>
   cases fl with
   |ret u =>
     obtain⟨v,H',I3,rv,ev,q3⟩:=I2.after hq'
     subst ev
     exact⟨rv,⟨V.ref (s1.heap.objs.size+1),H',I3,rfl,q3⟩⟩
   |next=>exact False.elim hq'
   |brk=>exact False.elim hq'
   |cont=>exact False.elim hq'
end
end L2
namespace Dv
open PySem L2 Ex
variable[KC]
section
variable{X:Cx}{EE:a9}{ios:List Addr}{e a tg:Expr}{es:List Expr}{f:M RV}{fs:M (List RV)}{G:List D->Option Rx}
theorem Np{x fl nm:Str}{k:Nat}{p0 pos kp:Pos}{dvs:List V}{C:Cn}(hX:XOk X EE)(Mc:qi X.prog X.w X.mg X.base x k [nm] dvs C fl G)(hr:ax (k+1) X.A)(hg:Gl X x)(ha:VE X EE ios e f)(hK:X.K=KC.K:=by rfl)(hdb:(x == ("__debug__" : Str))=false:=by decide)
 (hall:(backToKw pos (keywordEach [⟨some nm,e,kp⟩] X.env)).all (·.1.isSome)=true:=by rfl) (hks:(backToKw pos (keywordEach [⟨some nm,e,kp⟩] X.env)).filterMap (·.1)=[nm]:=by rfl)
 (hpl:((backTo pos (starEach [] X.env)).any (·.1) || (backToKw pos (keywordEach [⟨some nm,e,kp⟩] X.env)).any (·.1.isNone))=false:=by rfl)
 (hs:starEach [e] X.env=(false,eval e X.env)::starEach [] X.env:=by rfl):VY X EE ios (.Call (.Name x p0) [] [⟨some nm,e,kp⟩] pos) G (ZS f (M.pure [])):=by
 obtain⟨hm,hG,fa,fd,Mo,F,_,_,kb⟩:=Mc
 rw[<- hK] at F Mo kb
 obtain⟨te,h1,h2⟩:=ha
 exact⟨_,Nn Mo F hr hg hm (fun s a u hi=>kb s a [u] hi rfl) hX (zM hG) h1 hdb hall hks hpl,(Dj h2 fun σ H R Γ Q er w=>w [] H R (aM.refl er) .nil)⟩
noncomputable def vK(f:M RV):M (List D):=fun Γ=>match M.bind f mat Γ with
 | .ok (.tup _) _=>tupI f Γ
 | _=>ly f Γ
theorem Nq(h:VE X EE ios e f)(hK:X.K=KC.K:=by rfl):VI X EE ios tg e (vK f):=by
 obtain⟨w1,p1,r1⟩:=rJ (tg:=tg) h hK
 obtain⟨w2,p2,r2⟩:=Dy (tg:=tg) h
 refine⟨fun σ H R=>w1 σ H R\/w2 σ H R,fun pins s σ H R I q=>q.elim (p1 pins s σ H R I) (p2 pins s σ H R I),fun σ H R Γ Rk er w=>?_⟩
 unfold vK at w
 split at w
 · exact .inr (r2 σ H R Γ Rk er w)
 · exact .inl (r1 σ H R Γ Rk er w)
noncomputable def sG(fs:M (List RV)):M (List D):=M.bind fs fun rvs=>M.bind (b8 rvs) fun ds=>match ds with
 | [.tup ds]=>M.pure (mf ds)
 | _=>M.st
theorem Nr{R0:Hp}{l:Addr}{xs:List V}{ds:List D}(h:R0 l=some (.tup xs))(r:aB R0 xs ds):pR (zX l) R0 (mf ds):=by
 intro i H R s1 s2
 have hl:H l=some (.tup xs):=s2 _ _ (s1 _ _ h)
 refine⟨fun d hd=>?_,fun hl'=>⟨xs,hl,by rw[r.len];simpa [mf] using hl'⟩⟩
 have hd:((ds.zipIdx)[i]?).map (fun p=>D.tup [.int p.2,p.1])=some d:=by rw[<- List.getElem?_map];exact hd
 rw[List.getElem?_zipIdx] at hd
 cases q:ds[i]? with
 |none=>rw[q] at hd;cases hd
 |some d0 =>
   rw[q] at hd
   cases hd
   obtain⟨x,hx,rx⟩:=r.ta q
   refine⟨⟨xs,x,hl,hx⟩,fun v H' hv=>?_⟩
   obtain⟨p,ys,y,rfl,hp,rfl,hy,rK⟩:=hv
   rw[hl] at hy
   cases hy
   rw[hx] at rK
   cases rK
   obtain⟨al,rv⟩:=uB (xs:=[.int i,x]) (ds:=[.int i,d0]) s2 hp (.cons (.int _) (.cons (rx.sm s1) .nil))
   refine⟨_,al,?_⟩
   have rv:Rp _ _ _:=rv
   simpa using rv
theorem Nt{t:TA}(h2:pF EE ios t fs):rH EE ios (vJ t) (sG fs):=by
 intro σ H R Γ Rk er w
 unfold sG at w
 rw[ZY] at w
 refine h2 σ H R Γ _ er (aT w (fun rvs ah w xs H1 R1 p1 hx=>?_) fun _ _ z=>z)
 rw[ZY] at w
 obtain⟨ds,au,R2,p2,_,r2,w⟩:=ji er p1 hx w
 split at w
 · cases r2 with
   |cons a b =>
     cases b
     cases a with
     |tup e q=>exact⟨_,_,rfl,p2.er.sub _ _ e,w _ H1 R2 p2 (Nr e q)⟩
 · exact False.elim w
noncomputable def sH(fs:M (List RV)):M (List D):=fun Γ=>match M.bind fs b8 Γ with
 | .ok [.tup _] _=>sG fs Γ
 | _=>rL fs Γ
theorem Nu{e0:Expr}(hp:∀ t,PA X es t->PI X tg e0 (xI t))(hp':∀ t,PA X es t->PI X tg e0 (vJ t))(ha:VA X EE ios es fs):VI X EE ios tg e0 (sH fs):=by
 obtain⟨w1,p1,r1⟩:=KZ (X:=X) (EE:=EE) hp ha
 obtain⟨t,h1,h2⟩:=ha
 refine⟨fun σ H R=>w1 σ H R\/vJ t σ H R,fun pins s σ H R I q=>q.elim (p1 pins s σ H R I) (hp' t h1 pins s σ H R I),fun σ H R Γ Rk er w=>?_⟩
 unfold sH at w
 split at w
 · exact .inr (Nt h2 σ H R Γ Rk er w)
 · exact .inl (r1 σ H R Γ Rk er w)
noncomputable def sI(f:M RV):M RV:=fun Γ=>match f (hid Γ) with
 | .ok (.val d) _=>.ok (.val d) Γ
 | _=>.st
theorem Nv(h:VY X EE ios e G fs):VE X EE ios e (sI (h8 G fs)):=by
 obtain⟨t,h1,h2⟩:=h
 refine⟨_,h1,fun σ H R Γ Q er w=>zN h2 (MP er) ?_⟩
 unfold sI at w
 cases q:h8 G fs (hid Γ) with
 |st=>rw[q] at w;exact False.elim w
 |ex xc Γ'=>rw[q] at w;exact False.elim w
 |ok rv Γ' =>
   rw[q] at w
   refine mh fun x H' R' r e p so=>?_
   subst e
   obtain⟨C,fl,a,dx,b,xs',fb,rfl,rfl,h1,h3,h4,h5,h6,h7⟩:=so
   have w:=nD w
   have ow:∀ b,Ow σ Γ b->R b=none/\∃ xs,H b=some (.lst xs):=fun b z=>er.ow z
   have nw:∀ c,H c=none -> ¬ Ow σ Γ c:=fun c hc z=>by obtain⟨_,zs,hz⟩:=ow c z;rw[hc] at hz;cases hz
   have un:∀ b, ¬ Ow σ Γ b->cq (Ow σ Γ) R' b=R' b:=fun b z=>by unfold cq;rw[if_neg z]
   obtain⟨p2,hh⟩:=MQ er p
   have tup:∀ b ys,R' b=some (.tup ys)->cq (Ow σ Γ) R' b=some (.tup ys):=fun b ys z=>by
    rw[un b]
    · exact z
    · intro o
      obtain⟨_,zs,hz⟩:=ow b o
      have:=p.er.sub _ _ z
      rw[hh _ _ hz] at this
      cases this
   have Nw:js H (cq (Ow σ Γ) R') (.ref a) (.val (.obj C [fl] [.lst fb])):=⟨C,fl,a,dx,b,xs',fb,rfl,rfl,by rw[un a (nw a h4)];exact h1,by rw[un b (nw b h5)];exact h3,h4,h5,h6.less tup h7,h7⟩
   exact w _ H' _ p2 Nw.rp
end
end Dv
namespace Dv
open PySem L2 Ex
section
variable{Γ:En}{f:M RV}{fs:M (List RV)}
@[simp] theorem zY:vK f Γ=match M.bind f mat Γ with
 | .ok (.tup _) _=>tupI f Γ
 | _=>ly f Γ:=(rfl)
@[simp] theorem zZ:sG fs Γ=M.bind fs (fun rvs=>M.bind (b8 rvs) fun ds=>match ds with
 | [.tup ds]=>M.pure (mf ds)
 | _=>M.st) Γ:=(rfl)
@[simp] theorem z_:sH fs Γ=match M.bind fs b8 Γ with
 | .ok [.tup _] _=>sG fs Γ
 | _=>rL fs Γ:=(rfl)
@[simp] theorem Aa:sI f Γ=match f (hid Γ) with
 | .ok (.val d) _=>.ok (.val d) Γ
 | _=>.st:=(rfl)
end
end Dv
namespace L2
open PySem PySem.W PyProof.Rows Ex
open PySem.SeqAt MeetsSeq
section
variable(l b:Addr)(its:Array Value)(n:Nat)(dd de:Option Addr)(da:Data)(sl sm:Array (Option Value))
theorem Fi:isSubtype (.type "tuple") (.type "dict")=pure false:=by rw[isSubtype_type];kernel_rfl
theorem Nx:isSubtype (.type "dict") (.type "tuple")=pure false:=by rw[isSubtype_type];kernel_rfl
noncomputable abbrev Fj:Obj:={ cls:=.type "dict",dict:=de,data:=da,slots:=sm }
noncomputable abbrev Fm:Obj:={ cls:=.type "tuple",dict:=dd,data:=.seq its n,slots:=sl }
theorem Ny:Meets (Builtin.«dict.__eq__» ⟨[.ref l,.ref b],[]⟩) (fun _ R s=>s.heap.get? l=some (Fj de da sm)/\s.heap.get? b=some (Fm its n dd sl)/\R (.ok (.ret .notImplemented)) s) :=
 .of_wp fun prog w A R s h=>by obtain⟨hp,g,d,tk,os⟩:=s;obtain⟨hl,hb,h⟩:=h;have f1:=Fi;wp_walk using wpAny_loadPart' hl,wpAny_loadPart' hb;exact⟨_,rfl,h⟩
theorem Nz:Meets (Builtin.«tuple.__eq__» ⟨[.ref l,.ref b],[]⟩) (fun _ R s=>s.heap.get? l=some (Fm its n dd sl)/\s.heap.get? b=some (Fj de da sm)/\R (.ok (.ret .notImplemented)) s) :=
 .of_wp fun prog w A R s h=>by obtain⟨hp,g,d,tk,os⟩:=s;obtain⟨hl,hb,h⟩:=h;have f1:=Nx;wp_walk using wpAny_loadPart' hl,wpAny_loadPart' hb;exact⟨_,rfl,h⟩
end
variable{X:Cx}
noncomputable def Fn:R2:=fun x y H Q=>∃ a b xs,x = .ref a/\y = .ref b/\H a=some (.dK [])/\H b=some (.tup xs)/\Q (.bl false) H
theorem NA{k:Nat}(hr:ax k X.A):bU X (compareOp .Eq) Fn:=by
 intro pins s σ H x y v u Q I rx ry h
 obtain⟨a,b,xs,rfl,rfl,ha,hb,q⟩:=h
 cases rx
 cases ry
 obtain⟨_,_,vs,_,⟨cls,de,da,sm⟩,es,ep,ho,ex,_⟩:=I.hok _ _ ha
 obtain⟨_,its,_,tu⟩:=I.hok _ _ hb
 obtain⟨⟨cls2,dd,data2,sl⟩,ho2,hc2,n,hd2⟩:=tu
 have hc:=ex.1
 simp only at hc hc2 hd2
 subst hc hc2 hd2
 have hne:a≠b:=fun e=>by subst e;rw[ha] at hb;cases hb
 have hu:=hr.units
 exact(rc_eq_decline_or (k:=false) ⟨_,ho,rfl⟩ ⟨_,ho2,rfl⟩ (by decide) Fi F.slot_dict_eq F.slot_tuple_eq_refl
  (fun _ hq=>call_meets F.slot_dict_eq ⟨_,ho,rfl⟩ F.entry_dict_eq (F.args_dict_eq_2 _ _) (Ny a b its.toArray n dd de da sl sm) ⟨ho,ho2,hq⟩)
  (fun _ hq=>call_meets F.slot_tuple_eq_refl ⟨_,ho2,rfl⟩ F.entry_tuple_eq (F.args_tuple_eq_2 _ _) (Nz b a its.toArray n dd de da sl sm) ⟨ho2,ho,hq⟩)
  (fun _ hq=>wpAny_isSame_ref_other hne ho ho2 (by simp) hq) (.inr (by omega)) ⟨.bl _,H,I,rfl,q⟩)
end L2
namespace Dv
open PySem L2 Ex
variable[KC]
noncomputable def qj:D->D->Option RV
 | .gk [] [],.tup _=>some (.val (.bl false))
 |d,e=>eZ d e
noncomputable def Fo:R2:=fun x y H Q=>Fn x y H Q\/xN x y H Q
omit [KC] in
theorem NB{X:Cx}{k:Nat}(hr:ax k X.A):bU X (compareOp .Eq) Fo:=(NA hr).or (pI hr)
theorem NC:dw Fo qj:=by
 intro R H x y d e rv Q s px py hg q
 unfold qj at hg
 split at hg
 · cases hg
   obtain⟨b,xs,rfl,hb,_⟩:=py.tup
   have ha:=px.hv s
   cases ha with
   |gu e=>exact .inl ⟨_,_,_,rfl,rfl,e,s _ _ hb,q _ H R (Al.refl s) (.bl _)⟩
 · exact .inr (pJ R H x y _ _ rv Q s px py hg q)
end Dv
namespace cu
open PySem L2 Ex Dv
noncomputable def Ab:Nat:=100000
noncomputable def bX:List Cn:=[.NoPoints,.NoBox,.NoAsks,.NoRun,.NoText,.NoTurn,.NoTree,.NoTop,.NotServed,.NoRow,.NoPoint,.NoName,.NoKey,.NoBack,.TooMany]
noncomputable def Ac:Cn->Bool:=fun C=>([.NoPoints,.NoBox,.NoAsks,.NoRun,.NoText,.NoTurn,.NoTree,.NoTop,.NotServed,.NoRow,.NoPoint,.TooMany]:List Cn).contains C
noncomputable def Ad  : M Fl :=
 (cE (jJ (ly (EZ (vK (ai 0)) [] 2 (gT 2 (cY (gN 0) (cY (gN 1) iB))) (M.pure true) (cp (ZS (ai 1) (ZS (ai 0) (M.pure [])))))) [] 2 (gT 2 (cY (gN 0) (cY (gN 1) iB))) (M.pure true) (cp (ZS (ai 1) (ZS (ai 0) (M.pure []))))))
noncomputable def Ae  : M Fl :=
 (cE (jG (oB .int (ai 0)) (jG (uw (jY (M.bind (oB .bool (ai 0)) bz))) (qY xR xR (M.pure (.val (.int 0))) (ai 0) (M.pure (.val (.int 30)))))))
noncomputable def vL(fD:List D->Option Rt):M Fl :=
 (cE (jG (oB .tuple (ai 0)) (jG (op2 eZ (cf j7 (ZS (ai 0) (M.pure []))) (M.pure (.val (.int 2)))) (jG (dA fD (ZS (op2 c9 (ai 0) (M.pure (.val (.int 0)))) (M.pure []))) (dA fD (ZS (op2 c9 (ai 0) (M.pure (.val (.int 1)))) (M.pure [])))))))
noncomputable def Af(eo:List D->Option Rt):M Fl :=
 (aI (dz (orM (jY (M.bind (sA (ai 0)) bz)) (M.bind (op2 uz (cf j7 (ZS (ai 0) (M.pure []))) (M.pure (.val (.int 200)))) bz))
 (oK .NoPoints ["number"] (ZS (M.pure (.val .ao)) (M.pure [])))
 (M.pure .nx))
 (forM (sH (ZS (ai 0) (M.pure []))) (gT 2 (cY (gN 1) (cY (gN 2) iB)))
 (dz (jY (M.bind (dA eo (ZS (ai 2) (M.pure []))) bz))
 (oK .NoPoints ["number"] (ZS (ai 1) (M.pure [])))
 (M.pure .nx))))
noncomputable def sJ(gF:List D->Option Rt)(dB:List D->Option Rx):M Fl :=
 (dz (M.bind (op2 rf (ai 1) (M.pure (.val .ao))) bz) (bw 1 (av (M.pure []))) (M.pure .nx))
noncomputable def sL(gF:List D->Option Rt)(dB:List D->Option Rx):M Fl :=
 (lj (rR dB (ZS (ai 1) (M.pure []))))
noncomputable def sM(gF:List D->Option Rt)(dB:List D->Option Rx):M RV :=
 (dA gF (ZS (ai 1) (M.pure [])))
noncomputable def Ag  : M Fl :=
 (cE (cf pP (ZS (sx .Points "held" (ai 0)) (M.pure []))))
noncomputable def vM  : M Fl :=
 (aI (dz (M.bind (op2 uz (op2 c9 (ai 0) (M.pure (.val (.int 0)))) (M.pure (.val (.int 0)))) bz)
 (aI (bw 2 (op2 jI (op2 c9 (ai 0) (M.pure (.val (.int 0)))) (ai 1)))
 (aI (pQ (gS 0 (M.pure (.val (.int 0)))) (op2 uA (op2 c9 (ai 0) (M.pure (.val (.int 0)))) (ai 1)))
 (cE (ai 2))))
 (M.pure .nx))
 (aI (pQ (gS 0 (M.pure (.val (.int 1)))) (op2 jI (op2 dU (op2 lh (op2 c9 (ai 0) (M.pure (.val (.int 1)))) (M.pure (.val (.int 48271)))) (M.pure (.val (.int 11)))) (M.pure (.val (.int 2147483647)))))
 (cE (op2 jI (op2 uA (op2 jI (op2 lh (op2 c9 (ai 0) (M.pure (.val (.int 1)))) (op2 c9 (ai 0) (M.pure (.val (.int 1))))) (M.pure (.val (.int 2147483629)))) (M.pure (.val (.int 64)))) (ai 1)))))
noncomputable def Ah(cP:GI):M Fl :=
 (aI (bw 1 (av (ZS (M.pure (.val .ao)) (ZS (cp (ZS (M.pure (.val (.int 1))) (M.pure []))) (ZS (cp (ZS (M.pure (.val (.int 1))) (ZS (M.pure (.val (.int 2))) (ZS (M.pure (.val (.int 3))) (M.pure []))))) (ZS (av (ZS (M.pure (.val (.int 1))) (ZS (M.pure (.val (.int 2))) (M.pure [])))) (ZS (cp (ZS (M.pure (.val (.int 31))) (ZS (M.pure (.val (.int 0))) (M.pure [])))) (ZS (cp (ZS (M.pure (.val (.int 0))) (ZS (M.pure (.val (.int 31))) (M.pure [])))) (ZS (cp (ZS (op1 oA (M.pure (.val (.int 1)))) (ZS (M.pure (.val (.int 0))) (M.pure [])))) (ZS (cp (ZS (M.pure (.val (.int 0))) (ZS (op1 oA (M.pure (.val (.int 1)))) (M.pure [])))) (ZS (cp (ZS (M.pure (.val (.bl true))) (ZS (M.pure (.val (.int 0))) (M.pure [])))) (ZS (cp (ZS (M.pure (.val (.int 0))) (ZS (M.pure (.val (.bl false))) (M.pure [])))) (ZS (cp (ZS (M.pure (.val (.str "1"))) (ZS (M.pure (.val (.int 0))) (M.pure [])))) (ZS (M.pure (.val (.int 3))) (ZS (cp (M.pure [])) (ZS (cp (ZS (op2 nv (M.pure (.val (.int 10))) (M.pure (.val (.int 30)))) (ZS (M.pure (.val (.int 1))) (M.pure [])))) (M.pure [])))))))))))))))))
 (cE (op2 c9 (ai 1) (fA cP (ZS (ai 0) (ZS (M.pure (.val (.int 14))) (M.pure [])))))))
noncomputable def Ai(cP:GI):M Fl :=
 (cE (cp (ZS (fA cP (ZS (ai 0) (ZS (ai 1) (M.pure [])))) (ZS (fA cP (ZS (ai 0) (ZS (ai 2) (M.pure [])))) (M.pure [])))))
noncomputable def vN  : M Fl :=
 (aI (dz (M.bind (op2 uy (ai 1) (cf j7 (ZS (ai 0) (M.pure [])))) bz)
 (cE (op2 c9 (ai 0) (ai 1)))
 (M.pure .nx))
 (cE (M.pure (.val (.int 0)))))
noncomputable def vO(jN:List D->Option Rt):M Fl :=
 (aI (bw 2 (dA jN (ZS (ai 0) (ZS (ai 1) (M.pure [])))))
 (aI (bw 3 (op2 jI (op2 lh (op2 dU (op2 dU (op2 dU (op2 jI (ai 2) (M.pure (.val (.int 2147483629)))) (op2 lh (op2 lh (M.pure (.val (.int 7919))) (ai 1)) (ai 1))) (op2 lh (M.pure (.val (.int 104729))) (ai 1))) (M.pure (.val (.int 1)))) (M.pure (.val (.int 48271)))) (M.pure (.val (.int 2147483647)))))
 (aI (dz (M.bind (op2 uy (ai 2) (op2 nv (M.pure (.val (.int 10))) (M.pure (.val (.int 18))))) bz)
 (bw 2 (M.pure (.val (.int 0))))
 (M.pure .nx))
 (cE (av (ZS (ai 2) (ZS (op2 jI (op2 lh (ai 3) (ai 3)) (M.pure (.val (.int 2147483629)))) (M.pure []))))))))
noncomputable def Aj  : M Fl :=
 (cE (jJ (ly (cf vH (ZS (jJ (ly (ai 0)) [] 2 (gT 2 (cY (gN 0) (cY (gN 1) iB))) (M.pure true) (cp (ZS (ai 1) (ZS (ai 0) (M.pure []))))) (M.pure [])))) [] 2 (gT 2 (cY (gN 0) (cY (gN 1) iB))) (M.pure true) (cp (ZS (ai 1) (ZS (ai 0) (M.pure []))))))
noncomputable def Fp  : M Fl :=
 (aI (bw 1 (av (ZS (gp bX .NoPoints (ai 0)) (ZS (gp bX .NoBox (ai 0)) (ZS (gp bX .NoAsks (ai 0)) (ZS (gp bX .NoRun (ai 0)) (M.pure [])))))))
 (aI (bw 1 (op2 dU (ai 1) (av (ZS (gp bX .NoText (ai 0)) (ZS (gp bX .NoTurn (ai 0)) (ZS (gp bX .NoTree (ai 0)) (M.pure [])))))))
 (aI (bw 1 (op2 dU (ai 1) (av (ZS (gp bX .NoTop (ai 0)) (ZS (gp bX .NotServed (ai 0)) (ZS (gp bX .NoRow (ai 0)) (M.pure [])))))))
 (aI (bw 1 (op2 dU (ai 1) (av (ZS (gp bX .NoPoint (ai 0)) (ZS (gp bX .NoName (ai 0)) (ZS (gp bX .NoKey (ai 0)) (M.pure [])))))))
 (aI (bw 1 (op2 dU (ai 1) (av (ZS (gp bX .NoBack (ai 0)) (ZS (gp bX .TooMany (ai 0)) (M.pure []))))))
 (aI (dz (orM (M.bind (op2 c8 (rV 1 zh (ZS (M.pure (.val (.bl true))) (M.pure []))) (M.pure (.val (.int 1)))) bz) (M.bind (op2 c8 (gp bX .PointError (ai 0)) (op2 uy (rV 1 vc (ZS (M.pure (.val (.bl true))) (M.pure []))) (M.pure (.val (.int 10))))) bz))
 (cE (M.pure (.val (.str "odd"))))
 (M.pure .nx))
 (aI (bw 2 (av (ZS (M.pure (.val (.str "points"))) (ZS (M.pure (.val (.str "box"))) (ZS (M.pure (.val (.str "asks"))) (ZS (M.pure (.val (.str "run"))) (ZS (M.pure (.val (.str "text"))) (ZS (M.pure (.val (.str "turn"))) (ZS (M.pure (.val (.str "tree"))) (ZS (M.pure (.val (.str "top"))) (ZS (M.pure (.val (.str "served"))) (ZS (M.pure (.val (.str "row"))) (ZS (M.pure (.val (.str "point"))) (ZS (M.pure (.val (.str "name"))) (ZS (M.pure (.val (.str "key"))) (M.pure []))))))))))))))))
 (cE (op2 c9 (op2 dU (ai 2) (av (ZS (M.pure (.val (.str "back"))) (ZS (M.pure (.val (.str "many"))) (M.pure []))))) (rV 1 vc (ZS (M.pure (.val (.bl true))) (M.pure []))))))))))))
noncomputable def vP(cQ:List D->Option Rx)(cZ:List D->Option Rt)(lG:List D->Option Rt):M Fl :=
 (aI (bw 1 (M.pure (.val .ao)))
 (aI (bw 2 (M.pure (.val .ao)))
 (aI (rT Ac 3
 (bw 2 (h8 cQ (ZS (ai 0) (M.pure []))))
 (bw 1 (ai 3)))
 (aI (dz (M.bind (op2 rf (ai 1) (M.pure (.val .ao))) bz)
 (cE (av (ZS (M.pure (.val (.str "points"))) (ZS (gD .Points "points" cZ (ai 2)) (M.pure [])))))
 (M.pure .nx))
 (aI (dz (orM (M.bind (op2 c8 (dA lG (ZS (ai 1) (M.pure []))) (M.pure (.val (.str "points")))) bz) (M.bind (oB .bool (rX bX "number" (ai 1))) bz))
 (cE (av (ZS (M.pure (.val (.str "odd"))) (M.pure []))))
 (M.pure .nx))
 (cE (av (ZS (M.pure (.val (.str "refused"))) (ZS (rX bX "number" (ai 1)) (M.pure []))))))))))
noncomputable def Ak(cQ:List D->Option Rx)(cZ:List D->Option Rt)(jv:GI)(h_:GI)(i5:List D->Option Rt)(jw:List D->Option Rt)(cP:GI)(dC:List D->Option Rt)(fD:List D->Option Rt):M Fl :=
 (aI (forM (me (ZS (cf rg (ZS (M.pure (.val (.int 1))) (ZS (cf rh (ZS (M.pure (.val (.int 8))) (ZS (cf j7 (ZS (ai 0) (M.pure []))) (M.pure [])))) (M.pure [])))) (M.pure []))) (gN 1)
 (aI (bw 2 (dA i5 (ZS (ai 0) (ZS (ai 1) (M.pure [])))))
 (aI (bw 3 (op2 c9 (av (ZS (M.pure (.val (.int 0))) (ZS (M.pure (.val (.int 1))) (ZS (M.pure (.val (.int 2))) (ZS (M.pure (.val (.int 5))) (ZS (M.pure (.val (.int 12))) (ZS (M.pure (.val (.int 40))) (ZS (M.pure (.val (.int 200))) (ZS (M.pure (.val (.int 199))) (M.pure [])))))))))) (fA cP (ZS (ai 2) (ZS (M.pure (.val (.int 8))) (M.pure []))))))
 (aI (bw 4 (op2 c9 (av (ZS (M.pure (.val (.int 3))) (ZS (M.pure (.val (.int 31))) (M.pure [])))) (fA cP (ZS (ai 2) (ZS (M.pure (.val (.int 2))) (M.pure []))))))
 (aI (bw 5 (jJ (me (ZS (ai 3) (M.pure []))) [2,4] 1 (gN 0) (M.pure true) (fA h_ (ZS (ai 1) (ZS (ai 2) (ZS (ai 2) (M.pure [])))))))
 (aI (bw 6 (dA jw (ZS (ai 5) (M.pure []))))
 (aI (bw 7 (cf pP (ZS (ai 5) (M.pure []))))
 (aI (bw 8 (sI (h8 cQ (ZS (op2 c9 (av (ZS (ai 7) (ZS (cf lU (ZS (ai 7) (M.pure []))) (M.pure [])))) (op2 jI (ai 1) (M.pure (.val (.int 2))))) (M.pure [])))))
 (aI (lj (rB 7 sF (M.pure [])))
 (aI (lj (rY (gD .Points "points" cZ (ai 8)) rC (ZS (M.pure (.val .ao)) (M.pure []))))
 (aI (dz (orM (M.bind (op2 c8 (gD .Points "points" cZ (ai 8)) (ai 6)) bz) (M.bind (op2 c8 (cf iD (ZS (gD .Points "points" cZ (ai 8)) (M.pure []))) (cf iD (ZS (ai 6) (M.pure [])))) bz))
 (cE (M.pure (.val (.bl false))))
 (M.pure .nx))
 (aI (dz (M.bind (op2 c8 (dA dC (ZS (op2 dU (ai 5) (op2 mC (av (ZS (cp (ZS (M.pure (.val (.int 0))) (ZS (M.pure (.val (.int 0))) (M.pure [])))) (M.pure []))) (M.pure (.val (.int 201))))) (M.pure []))) (av (ZS (M.pure (.val (.str "refused"))) (ZS (M.pure (.val .ao)) (M.pure []))))) bz)
 (cE (M.pure (.val (.bl false))))
 (M.pure .nx))
 (aI (forM (me (ZS (M.pure (.val (.int 6))) (M.pure []))) (gN 9)
 (aI (bw 10 (fA cP (ZS (ai 2) (ZS (op2 dU (ai 3) (M.pure (.val (.int 1)))) (M.pure [])))))
 (aI (bw 11 (l7 lV (op2 dU (op2 dU (l7 lV (ai 5) (M.pure none) (M.bind (ai 10) lW)) (av (ZS (fA jv (ZS (ai 2) (M.pure []))) (M.pure [])))) (l7 lV (ai 5) (M.bind (ai 10) lW) (M.pure none))) (M.pure none) (M.bind (M.pure (.val (.int 200))) lW)))
 (aI (bw 12 (cf iD (ZS (ai 11) (M.pure []))))
 (aI (bw 13 (op2 c9 (av (ZS (av (ZS (M.pure (.val (.str "refused"))) (ZS (ai 10) (M.pure [])))) (ZS (av (ZS (M.pure (.val (.str "points"))) (ZS (ai 6) (M.pure [])))) (M.pure [])))) (cf oz (ZS (op2 eZ (ai 10) (M.pure (.val (.int 200)))) (M.pure [])))))
 (dz (orM (M.bind (op2 c8 (dA dC (ZS (ai 11) (M.pure []))) (ai 13)) bz) (orM (M.bind (op2 c8 (dA dC (ZS (cf lU (ZS (ai 11) (M.pure []))) (M.pure []))) (ai 13)) bz) (M.bind (op2 c8 (cf iD (ZS (ai 11) (M.pure []))) (ai 12)) bz)))
 (cE (M.pure (.val (.bl false))))
 (M.pure .nx)))))))
 (forM (ly (av (ZS (M.pure (.val (.str ""))) (ZS (M.pure (.val (.int 3))) (ZS (M.pure (.val (.bl true))) (ZS (M.pure (.val (.gk [] []))) (ZS (cp (ZS (M.pure (.val (.int 0))) (ZS (M.pure (.val (.int 0))) (M.pure [])))) (M.pure [])))))))) (gN 14)
 (dz (M.bind (op2 c8 (dA dC (ZS (ai 14) (M.pure []))) (op2 c9 (av (ZS (av (ZS (M.pure (.val (.str "refused"))) (ZS (M.pure (.val .ao)) (M.pure [])))) (ZS (av (ZS (M.pure (.val (.str "refused"))) (ZS (M.pure (.val (.int 0))) (M.pure [])))) (M.pure [])))) (cf oz (ZS (op2 qj (ai 14) (cp (ZS (M.pure (.val (.int 0))) (ZS (M.pure (.val (.int 0))) (M.pure []))))) (M.pure []))))) bz)
 (cE (M.pure (.val (.bl false))))
 (M.pure .nx))))))))))))))))
 (aI (dz (M.bind (op2 c8 (jJ (tupI (cp (ZS (M.pure (.val (.int 0))) (ZS (M.pure (.val (.int 30))) (ZS (M.pure (.val (.int 31))) (ZS (op1 oA (M.pure (.val (.int 1)))) (ZS (M.pure (.val (.bl true))) (ZS (M.pure (.val .ao)) (ZS (M.pure (.val (.str "1"))) (ZS (op2 nv (M.pure (.val (.int 10))) (M.pure (.val (.int 40)))) (M.pure []))))))))))) [] 1 (gN 0) (M.pure true) (dA fD (ZS (ai 0) (M.pure [])))) (op2 dU (av (ZS (M.pure (.val (.bl true))) (ZS (M.pure (.val (.bl true))) (M.pure [])))) (op2 mC (av (ZS (M.pure (.val (.bl false))) (M.pure []))) (M.pure (.val (.int 6)))))) bz)
 (cE (M.pure (.val (.bl false))))
 (M.pure .nx))
 (cE (jG (op2 eZ (gD .Points "points" cZ (h8 cQ (M.pure [.val .ao]))) (av (M.pure []))) (jG (op2 eZ (gD .Points "points" cZ (h8 cQ (ZS (M.pure (.val .ao)) (M.pure [])))) (av (M.pure []))) (op2 eZ (gD .Points "points" cZ (h8 cQ (ZS (av (ZS (cp (ZS (M.pure (.val (.int 1))) (ZS (M.pure (.val (.int 2))) (M.pure [])))) (M.pure []))) (M.pure [])))) (av (ZS (cp (ZS (M.pure (.val (.int 1))) (ZS (M.pure (.val (.int 2))) (M.pure [])))) (M.pure [])))))))))
noncomputable def gF:List D->Option Rt:=dH 1 ["points"] (Ad )
noncomputable def fD:List D->Option Rt:=dH 1 ["thing"] (Ae )
noncomputable def eo:List D->Option Rt:=dH 1 ["thing"] (vL fD)
noncomputable def dB:List D->Option Rx:=oJ 1 ["thing","number","point"] (Af eo)
noncomputable def cQ:List D->Option Rx:=runN .Points "held" 1 ["points"] (sJ gF dB) (sL gF dB) (sM gF dB)
noncomputable def cZ:List D->Option Rt:=dH 1 ["self"] (Ag )
noncomputable def cP:GI:=mB 2 ["_law_pool_here","_law_many","_law_found"] (vM )
noncomputable def jv:GI:=mB 1 ["_law_pool_here","_law_some"] (Ah cP)
noncomputable def h_:GI:=mB 3 ["_law_pool_here","_law_keys","_law_moments"] (Ai cP)
noncomputable def jN:List D->Option Rt:=dH 2 ["_law_script","_law_k"] (vN )
noncomputable def i5:List D->Option Rt:=dH 2 ["_law_script","_law_k","_law_cell","_law_seed"] (vO jN)
noncomputable def jw:List D->Option Rt:=dH 1 ["_law_spots"] (Aj )
noncomputable def lG:List D->Option Rt:=dH 1 ["_law_error","_law_kinds","_law_words"] (Fp )
noncomputable def dC:List D->Option Rt:=dH 1 ["_law_thing","_law_caught","_law_found","e"] (vP cQ cZ lG)
noncomputable def sN:List D->Option Rt:=dH 1 ["_law_script","_law_k","_law_pool_here","_law_size","_law_wide","_law_spots","_law_due","_law_handed","_law_made","_law_turn","_law_at","_law_bent","_law_word","_law_wanted","_law_thing"] (Ak cQ cZ jv h_ i5 jw cP dC fD)
end cu
namespace Tr
open PySem L2 Ex Dv
theorem line:20000<=sizeLine:=by decide
theorem ND{ds:List PyData}(h:∀ d∈ds,d.canLay0=true):PyData.canLayAll0 ds=true:=by
 induction ds with
 |nil=>rfl
 |cons d r ih=>simp[PyData.canLayAll0,h d (by simp),ih fun x hx=>h x (by simp[hx])]
theorem NF{ds:List PyData}{n:Nat}(h:∀ d∈ds,d.depth<=n):PyData.depthAll ds<=n:=by
 induction ds with
 |nil=>simp[PyData.depthAll]
 |cons d r ih=>have:=h d (by simp);have:=ih fun x hx=>h x (by simp[hx]);simp[PyData.depthAll];omega
theorem Fq{d:D}(h:eW d=true):eqB d d=true:=SeqAt.eqv_refl _ (SeqAt.canLay_of_shaped h)
theorem NG{d e:D}(h:∀ x,d ≠ .str x):eZ d e=pH d e:=by
 unfold eZ
 split
 · exact absurd rfl (h _)
 · rfl
theorem Am{d e:D}(h:∀ x,d ≠ .str x):c8 d e=q9 d e:=by
 unfold c8
 split
 · exact absurd rfl (h _)
 · rfl
theorem An{d:D}(h:eW d=true):eZ d d=some (.val (.bl true)):=by
 unfold eZ
 split
 · simp
 · unfold pH;rw[h,Fq h];rfl
theorem nJ{d:D}(h:eW d=true):c8 d d=some (.val (.bl false)):=by
 unfold c8
 split
 · simp
 · unfold q9;rw[h,Fq h];rfl
theorem NH(ns:List Int):gz (ns.map D.int)=true:=by
 induction ns with
 |nil=>rfl
 |cons t r ih=>simp[gz,jK,ih]
@[simp] theorem vQ{ns:List Int}:gn (.new (.lst (ns.map D.int)))=true:=NH ns
@[simp] theorem sO{n:Int}:gn (.val (.int n))=true:=rfl
@[simp] theorem vR{n:Bool}:gn (.val (.bl n))=true:=rfl
@[simp] theorem sP:gn (.val .ao)=true:=rfl
end Tr
namespace cu
open PySem L2 Ex Dv Tr St So
theorem Fs(i:Int):fD [.int i]=some (.val (.bl (decide (0<=i) && decide (i<=30)))):=by
 by_cases h:0<=i<;>by_cases h':i<=30<;>simp[fD,Ae,dH,b6,gam,hV,h,h']
theorem NI(i j:Int):eZ (.int i) (.int j)=some (.val (.bl (decide (i=j)))):=by
 have:eqB (.int i) (.int j)=decide (i=j):=by show(i == j)=_;by_cases h:i=j<;>simp[h]
 rw[NG (by intro x z;cases z)]
 unfold pH;rw[this];rfl
theorem Ft{α:Type}(xs:List α)(n:Nat):i4 xs none (some (n:Int))=xs.take n:=by
 unfold i4
 rw[HT.iT]
 simp[HT.eU]
theorem NJ{α:Type}(xs:List α)(n:Nat):i4 xs (some (n:Int)) none=xs.drop n:=by
 unfold i4
 rw[HT.iT]
 simp[HT.eU]
 by_cases h:n<=xs.length
 · rw[Nat.min_eq_left h,List.take_of_length_le (by rw[List.length_drop];omega)]
 · rw[Nat.min_eq_right (by omega),List.drop_eq_nil_of_le (by omega:xs.length<=n)];simp
noncomputable abbrev pl(c s:Int):List D:=[.int c,.int s]
noncomputable def Sd(s:Int):Prop:=0<=s/\s<2147483648
theorem qk(a b:D):L2.cA [a,b] 0=some a:=rfl
theorem ql(a b:D):L2.cA [a,b] 1=some b:=rfl
theorem Fu:L2.jd 2 0=some 0:=rfl
theorem Fv:L2.jd 2 1=some 1:=rfl
theorem qm{c s m:Int}(h:Sd s)(hm:0<m)(hm2:m<1073741824):∃ x c' s',cP (pl c s) [.int m]=some (.val (.int x),pl c' s')/\(0<=x/\x<m)/\Sd s':=by
 obtain⟨h1,h2⟩:=h
 have m1:=oG (i:=s) (j:=48271) (by omega)
 by_cases hc:0<c
 · refine⟨c % m,c / m,s,?_,⟨Int.emod_nonneg _ (by omega),Int.emod_lt_of_pos _ hm⟩,h1,h2⟩
   simp[cP,vM,mB,mw,b6,jo,qk,ql,Fu,Fv,hc,hm,hm2]
 · have q1:0<=(s * 48271+11) % 2147483647:=Int.emod_nonneg _ (by decide)
   have q2:(s * 48271+11) % 2147483647<2147483647:=Int.emod_lt_of_pos _ (by decide)
   have m2:=oG (i:=(s * 48271+11) % 2147483647) (j:=(s * 48271+11) % 2147483647) (by omega)
   refine⟨(s * 48271+11) % 2147483647 * ((s * 48271+11) % 2147483647) % 2147483629 / 64 % m,c,(s * 48271+11) % 2147483647,?_,⟨Int.emod_nonneg _ (by omega),Int.emod_lt_of_pos _ hm⟩,q1,by omega⟩
   simp[cP,vM,mB,mw,b6,jo,qk,ql,Fu,Fv,hc,hm,hm2,m1,m2]
theorem NK(ns:List Int)(k:Nat)(hk:k<100):∃ c,jN [.bL ns,.int k]=some (.val (.int c)):=by
 by_cases h:k<ns.length
 · refine⟨ns[k],?_⟩
   have a:L2.cA ns (k:Int)=some ns[k]:=iU (List.getElem?_eq_getElem h)
   simp[jN,vN,dH,b6,gam,a,h]
 · refine⟨0,?_⟩
   simp[jN,vN,dH,b6,gam,h]
theorem NL(ns:List Int)(k:Nat)(hk:k<100):∃ c s,i5 [.bL ns,.int k]=some (.new (.lst (pl c s)))/\Sd s:=by
 obtain⟨c,hc⟩:=NK ns k hk
 have q1:0<=c % 2147483629:=Int.emod_nonneg _ (by decide)
 have q2:c % 2147483629<2147483629:=Int.emod_lt_of_pos _ (by decide)
 have k1:=oG (i:=7919) (j:=k) (by omega)
 have k2:ou (7919 * (k:Int)) k=true:=oG (by omega)
 have k3:=oG (i:=104729) (j:=k) (by omega)
 have hkk:(k:Int) * k<=10000:=by
  have:k * k<=100 * 100:=Nat.mul_le_mul (by omega) (by omega)
  exact_mod_cast this
 have hk0:0<=(k:Int) * k:=by exact_mod_cast Nat.zero_le (k * k)
 have e1:7919 * (k:Int) * k=7919 * ((k:Int) * k):=by rw[Int.mul_assoc]
 have k4:ou (c % 2147483629+7919 * (k:Int) * k+104729 * k+1) 48271=true:=oG (by omega)
 generalize hs:(c % 2147483629+7919 * (k:Int) * k+104729 * k+1) * 48271 % 2147483647=s
 have s1:0<=s:=by rw[<- hs];exact Int.emod_nonneg _ (by decide)
 have s2:s<2147483647:=by rw[<- hs];exact Int.emod_lt_of_pos _ (by decide)
 have k5:ou s s=true:=oG (by omega)
 have ln:=line
 have l2:2<=sizeLine:=by omega
 by_cases hd:c<u9
 · refine⟨0,s * s % 2147483629,?_,Int.emod_nonneg _ (by decide),Int.lt_trans (Int.emod_lt_of_pos _ (by decide)) (by decide)⟩
   simp[i5,vO,dH,b6,gam,hc,D8,k1,k2,k3,k4,hs,k5,hd,l2]
 · refine⟨c,s * s % 2147483629,?_,Int.emod_nonneg _ (by decide),Int.lt_trans (Int.emod_lt_of_pos _ (by decide)) (by decide)⟩
   simp[i5,vO,dH,b6,gam,hc,D8,k1,k2,k3,k4,hs,k5,hd,l2]
theorem Fw(lo:Int)(n:Nat):(hW lo n).length=n:=by simp[hW]
theorem Fx{lo:Int}{n i:Nat}{d:D}(h:(hW lo n)[i]? = some d):d = .int (lo+i)/\i<n:=by
 unfold hW at h
 rw[List.getElem?_map] at h
 cases q:(List.range n)[i]? with
 |none=>rw[q] at h;cases h
 |some j =>
   rw[q] at h
   cases h
   obtain⟨h1,h2⟩:=List.getElem?_eq_some_iff.mp q
   rw[List.getElem_range] at h2
   subst h2
   exact⟨rfl,by simpa using h1⟩
theorem fF{s s':M Fl}{Γ ah:En}{r:Res Fl}(h:s Γ = .ok .nx ah)(h':s' ah=r):aI s s' Γ=r:=by rw[DV,h];exact h'
noncomputable def oW(i:Nat)(ds:List D):List D:=(ds.zipIdx i).map fun p=>D.tup [.int p.2,p.1]
theorem Fy(i:Nat)(d:D)(r:List D):oW i (d::r) = .tup [.int i,d]::oW (i+1) r:=rfl
theorem Fz(ds:List D):mf ds=oW 0 ds:=rfl
noncomputable def sQ:D->D
 | .tup [a,b]=>.tup [b,a]
 |d=>d
theorem FA{ds:List D}{Γ:En}(h:∀ d∈ds,∃ a b,d = .tup [a,b]):c_ [] 2 (gT 2 (cY (gN 0) (cY (gN 1) iB))) (M.pure true) (cp (ZS (ai 1) (ZS (ai 0) (M.pure [])))) ds Γ = .ok (ds.map sQ) Γ:=by
 have ln:=line
 have l2:2<=sizeLine:=by omega
 refine Lr sQ fun d hd=>?_
 obtain⟨a,b,rfl⟩:=h d hd
 refine⟨[some (.ak,a),some (.ak,b)],?_,rfl⟩
 simp[bW,sQ,l2]
theorem Ao:∀ {cs:List (Int×Int)},(∀ c∈cs,cn c)->asP (cs.map pD)=some cs
 | [],_=>rfl
 |c::r,h=>by
   obtain⟨⟨h1,h2⟩,h3,h4⟩:=h c (List.mem_cons_self ..)
   rw[List.map_cons]
   show(if decide (0<=c.1) && decide (c.1<=30) && decide (0<=c.2) && decide (c.2<=30) then (asP (r.map pD)).map (c :: ·) else none)=_
   rw[if_pos (by simp only[Bool.and_eq_true,decide_eq_true_eq];exact⟨⟨⟨h1,h2⟩,h3⟩,h4⟩),Ao fun x hx=>h x (List.mem_cons_of_mem _ hx)]
   rfl
noncomputable abbrev sw(cs:List (Int×Int)):List D:=(cs.map pD).map sQ
theorem jO(cs:List (Int×Int)):(sw cs).length=cs.length:=by simp
theorem NM(c:Int×Int)(r:List (Int×Int)):sw (c::r) = .tup [.int c.2,.int c.1]::sw r:=rfl
theorem FC:∀ cs:List (Int×Int),(sw cs).map sQ=cs.map pD
 | []=>rfl
 |c::r=>by rw[NM,List.map_cons,List.map_cons,FC r];rfl
theorem NN(cs:List (Int×Int)):∀ d∈cs.map pD,∃ a b,d=D.tup [a,b]:=fun d hd=>by
 obtain⟨c,_,rfl⟩:=List.mem_map.mp hd
 exact⟨_,_,rfl⟩
theorem sR{cs:List (Int×Int)}{d:D}(h:d∈sw cs):∃ c∈cs,d = .tup [.int c.2,.int c.1]:=by
 obtain⟨e,he,rfl⟩:=List.mem_map.mp h
 obtain⟨c,hc,rfl⟩:=List.mem_map.mp he
 exact⟨c,hc,rfl⟩
theorem NO(cs:List (Int×Int)):∀ d∈sw cs,∃ a b,d=D.tup [a,b]:=fun d hd=>by
 obtain⟨c,_,rfl⟩:=sR hd
 exact⟨_,_,rfl⟩
theorem sS(cs:List (Int×Int)):(aH cs).length<=cs.length:=by
 rw[(zB cs).length_eq]
 have go:∀ (l σ:List (Int×Int)),(l.foldl PyProof.Rows.step_dedup σ).length<=σ.length+l.length:=by
  intro l
  induction l with
  |nil=>intro σ;simp
  |cons c r ih =>
    intro σ
    rw[List.foldl_cons]
    refine Nat.le_trans (ih _) ?_
    unfold PyProof.Rows.step_dedup
    split<;>simp<;>omega
 have:=go cs []
 simpa [sv] using this
theorem FD{cs:List (Int×Int)}{Γ:En}:c_ [] 2 (gT 2 (cY (gN 0) (cY (gN 1) iB))) (M.pure true) (cp (ZS (ai 1) (ZS (ai 0) (M.pure [])))) (sw cs) Γ = .ok (cs.map pD) Γ:=by
 have z:=FA (Γ:=Γ) (NO cs)
 rw[FC] at z
 exact z
theorem FE{cs:List (Int×Int)}{Γ:En}:c_ [] 2 (gT 2 (cY (gN 0) (cY (gN 1) iB))) (M.pure true) (cp (ZS (ai 1) (ZS (ai 0) (M.pure [])))) (cs.map pD) Γ = .ok (sw cs) Γ:=FA (NN cs)
noncomputable def Sq(x:D)(ds:List D):Prop:=x = .lst ds\/x = .tup ds
theorem order_eq{x:D}{cs:List (Int×Int)}(hx:Sq x (sw cs))(sm:∀ c∈cs,cn c)(hl:cs.length<=200):gF [x]=some (.new (.lst (sw (aH cs)))):=by
 have ln:=line
 have l1:(sw cs).length<256:=by rw[jO];omega
 have l2:((aH cs).map pD).length<sizeLine:=by rw[List.length_map];have:=sS cs;omega
 have e1:=fun Γ=>FD (cs:=cs) (Γ:=Γ)
 have e2:=fun Γ=>FE (cs:=aH cs) (Γ:=Γ)
 have e3:=Ao sm
 generalize hS:sw cs=S at *
 generalize hT:sw (aH cs)=T at *
 generalize hP:cs.map pD=P at *
 generalize hQ:(aH cs).map pD=Q at *
 rcases hx with rfl | rfl<;>simp[gF,Ad,dH,b6,gam,l1,e1,e3,hQ,l2,e2]
theorem NP{cs:List (Int×Int)}(sm:∀ c∈cs,cn c)(hl:cs.length<=200):jw [.lst (sw cs)]=some (.new (.lst (sw (aH cs)))):=by
 have ln:=line
 have l1:(sw cs).length<sizeLine:=by rw[jO];omega
 have l2:((aH cs).map pD).length<sizeLine:=by rw[List.length_map];have:=sS cs;omega
 have e1:=fun Γ=>FD (cs:=cs) (Γ:=Γ)
 have e2:=fun Γ=>FE (cs:=aH cs) (Γ:=Γ)
 have e3:vH [.lst (cs.map pD)]=some (.new (.lst ((aH cs).map pD))):=by
  show(asP (cs.map pD)).bind _=_
  rw[Ao sm]
  show(if cs.length<512 then _ else _)=_
  rw[if_pos (by omega)]
 generalize hS:sw cs=S at *
 generalize hT:sw (aH cs)=T at *
 generalize hP:cs.map pD=P at *
 generalize hQ:(aH cs).map pD=Q at *
 simp[jw,Aj,dH,b6,gam,l1,e1,e3,l2,e2]
theorem NQ(k i:Int):eo [.tup [.int k,.int i]]=some (.val (.bl ((decide (0<=k) && decide (k<=30)) && (decide (0<=i) && decide (i<=30))))):=by
 have q:eZ (.int 2) (.int 2)=some (.val (.bl true)):=An (by decide)
 have k1:=Fs k
 have k2:=Fs i
 generalize (decide (0<=k) && decide (k<=30))=b1 at *
 generalize (decide (0<=i) && decide (i<=30))=b2 at *
 cases b1<;>cases b2<;>simp[eo,vL,dH,b6,gam,hV,q,qk,ql,k1,k2]
theorem NR{c:Int×Int}(h:cn c):eo [.tup [.int c.2,.int c.1]]=some (.val (.bl true)):=by
 obtain⟨⟨h1,h2⟩,h3,h4⟩:=h
 rw[NQ]
 simp[h1,h2,h3,h4]
noncomputable def qp:M Fl:=(dz (jY (M.bind (dA eo (ZS (ai 2) (M.pure []))) bz))
 (oK .NoPoints ["number"] (ZS (ai 1) (M.pure [])))
 (M.pure .nx))
theorem vT:Af eo=aI (dz (orM (jY (M.bind (sA (ai 0)) bz)) (M.bind (op2 uz (cf j7 (ZS (ai 0) (M.pure []))) (M.pure (.val (.int 200)))) bz))
 (oK .NoPoints ["number"] (ZS (M.pure (.val .ao)) (M.pure []))) (M.pure .nx)) (forM (sH (ZS (ai 0) (M.pure []))) (gT 2 (cY (gN 1) (cY (gN 2) iB))) qp):=rfl
theorem Ap{x0:Sl}:∀ (ds:List D) (i:Nat) (x1 x2:Sl) (r:List D),(∀ d∈ds,eo [d]=some (.val (.bl true))) ->
 ∃ y1 y2,iC (gT 2 (cY (gN 1) (cY (gN 2) iB))) qp (oW i (ds++r)) [x0,x1,x2]=iC (gT 2 (cY (gN 1) (cY (gN 2) iB))) qp (oW (i+ds.length) r) [x0,y1,y2]
 | [],i,x1,x2,r,_=>⟨x1,x2,rfl⟩
 |d::ds,i,x1,x2,r,h=>by
   obtain⟨y1,y2,ih⟩:=Ap (x0:=x0) ds (i+1) (some (.ak,.int i)) (some (.ak,d)) r fun b hb=>h b (List.mem_cons_of_mem _ hb)
   refine⟨y1,y2,?_⟩
   rw[List.cons_append,Fy,u5]
   rw[show i+(d::ds).length=i+1+ds.length by simp;omega, <- ih]
   simp[qp,h d (List.mem_cons_self ..)]
theorem FG(ds:List D):qh (.tup ds)=some (.val (.bl true)):=rfl
theorem FH(ds:List D):qh (.lst ds)=some (.val (.bl true)):=rfl
theorem NS{d:D}(h:d = .str "" \/ d = .int 3\/d = .bl true\/d = .gk [] []):qh d=some (.val (.bl false)):=by rcases h with rfl | rfl | rfl | rfl<;>rfl
noncomputable abbrev xP(d:D):Xc:=⟨.NoPoints,[("number",d)]⟩
theorem FI{x:D}{ds:List D}(hx:Sq x ds)(hl:ds.length<=200)(h:∀ d∈ds,eo [d]=some (.val (.bl true))):dB [x]=some (.ok (.val .ao)):=by
 obtain⟨y1,y2,hy⟩:=Ap (x0:=some (.ak,x)) ds 0 none none [] h
 rw[List.append_nil] at hy
 rw[show oW (0+ds.length) []=[] from rfl,Lj] at hy
 have h1 : ¬ (200<(ds.length:Int)):=by omega
 unfold dB
 rw[vT]
 rcases hx with rfl | rfl<;>simp[oJ,b6,gam,h1,Fz,hy,FG,FH]
theorem NT{ds:List D}(hl:200<ds.length):dB [.lst ds]=some (.ex (xP .ao)):=by
 have h1:200<(ds.length:Int):=by omega
 unfold dB
 rw[vT]
 simp[oJ,b6,gam,h1]
theorem NU{d:D}(h:d = .str "" \/ d = .int 3\/d = .bl true\/d = .gk [] []):dB [d]=some (.ex (xP .ao)):=by
 have i:=NS h
 unfold dB
 rw[vT]
 simp[oJ,b6,gam,i]
theorem Aq{x:D}{ds:List D}{d:D}{r:List D}(hx:Sq x (ds++d::r))(hl:ds.length+r.length<200)(h:∀ d∈ds,eo [d]=some (.val (.bl true)))(hd:eo [d]=some (.val (.bl false))):dB [x]=some (.ex (xP (.int ds.length))):=by
 obtain⟨y1,y2,hq⟩:=Ap (x0:=some (.ak,x)) ds 0 none none (d::r) h
 have hb:∃ Γ',iC (gT 2 (cY (gN 1) (cY (gN 2) iB))) qp (oW (0+ds.length) (d::r)) [some (.ak,x),y1,y2] = .ex (xP (.int ds.length)) Γ':=by
  rw[Fy,u5]
  exact⟨_,by simp[qp,hd];rfl⟩
 obtain⟨Γ',hb⟩:=hb
 rw[hb] at hq
 have h1 : ¬ (200<((ds++d::r).length:Int)):=by simp;omega
 generalize ds++d::r=L at *
 unfold dB
 rw[vT]
 rcases hx with rfl | rfl<;>simp[oJ,b6,gam,h1,Fz,hq,FG,FH]
noncomputable abbrev pO(ds:List D):D:=.obj .Points ["held"] [.lst ds]
theorem Ar:∀ cs:List (Int×Int),gz (sw cs)=true
 | []=>rfl
 |c::r=>Ar r
theorem FJ{cs:List (Int×Int)}(sm:∀ c∈cs,cn c):∀ d∈sw cs,eo [d]=some (.val (.bl true)):=fun d hd=>by
 obtain⟨c,hc,rfl⟩:=sR hd
 exact NR (sm c hc)
theorem vU{x:D}{cs:List (Int×Int)}(hx:Sq x (sw cs))(sm:∀ c∈cs,cn c)(hl:cs.length<=200):cQ [x]=some (.ok (.val (pO (sw (aH cs))))):=by
 have e1:=order_eq hx sm hl
 have e2:=FI hx (by rw[jO];omega) (FJ sm)
 have e3:=Ar (aH cs)
 generalize sw cs=S at *
 generalize sw (aH cs)=T at *
 rcases hx with rfl | rfl<;>simp[cQ,Dv.runN,lF,sJ,sL,sM,gam,e1,e2,e3,oU,isNone]
theorem NV:cQ [.ao]=some (.ok (.val (pO []))):=by
 have l0:0<=sizeLine:=Nat.zero_le _
 have z:aH []=[]:=List.eq_nil_of_length_eq_zero (Nat.le_zero.mp (sS []))
 have e1:=order_eq (x:=.lst []) (cs:=[]) (.inl rfl) (fun c hc=>by cases hc) (by decide)
 rw[z,show sw []=[] from rfl] at e1
 have im:gn (.new (.lst []))=true:=rfl
 have e2:dB [.lst []]=some (.ok (.val .ao)):=FI (.inl rfl) (by decide) (fun c hc=>by cases hc)
 have e3:gz []=true:=rfl
 simp[cQ,Dv.runN,lF,sJ,sL,sM,gam,e1,e2,e3,oU,isNone,l0,im]
theorem NW{x n:D}(h:dB [x]=some (.ex (xP n)))(hx:isNone x=false):cQ [x]=some (.ex (xP n)):=by
 simp[cQ,Dv.runN,lF,sJ,sL,sM,gam,h,oU,hx]
theorem NX:cd True=true:=jH trivial
theorem vV:cd (¬ ("points" : Str) = "held")=true:=jH (by decide +kernel)
theorem sT(ds:List D):cZ [pO ds]=some (.new (.lst ds)):=by
 simp[cZ,Ag,dH,b6,gam,NX]
theorem NY(d:D):lG [.ins .NoPoints ["number"] [d]]=some (.val (.str "points")):=by kernel_rfl
theorem FK{x:D}{cs:List (Int×Int)}(hx:Sq x (sw cs))(sm:∀ c∈cs,cn c)(hl:cs.length<=200):dC [x]=some (.new (.lst [.str "points",.lst (sw (aH cs))])):=by
 have ln:=line
 have s2:2<=sizeLine:=by omega
 have e1:=vU hx sm hl
 have e2:=sT (sw (aH cs))
 generalize sw (aH cs)=T at *
 generalize sw cs=S at *
 simp[dC,vP,dH,b6,gam,e1,e2,s2,isNone,vV]
theorem sU{x n:D}(h:dB [x]=some (.ex (xP n)))(hx:isNone x=false)(hn:n = .ao\/∃ i,n = .int i):dC [x]=some (.new (.lst [.str "refused",n])):=by
 have ln:=line
 have s2:2<=sizeLine:=by omega
 have e1:=NW h hx
 have k:=NY n
 have m:Ac .NoPoints=true:=by decide
 have q2:c8 (.str "points") (.str "points")=some (.val (.bl false)):=nJ (by decide +kernel)
 have c:Cn.NoPoints∈bX:=by decide
 rcases hn with rfl | ⟨i,rfl⟩<;>simp[dC,vP,dH,b6,gam,e1,m,lD,k,isNone,s2,q2,c,hV]
theorem vW{ds:List D}{n:Nat}(hn:n<=50)(h:∀ d∈ds,d.py.canLay0=true/\d.py.depth<=n):eW (.lst ds)=true/\(D.lst ds).py.canLay0=true/\(D.lst ds).py.depth<=n+1:=by
 have e0:(D.lst ds).py = .list (ds.map fun d=>d.py):=by show PyData.list (D.eL ds)=_;congr 1;induction ds with | nil=>rfl | cons a r ih=>simp[D.eL,ih fun d hd=>h d (List.mem_cons_of_mem _ hd)]
 have h1:PyData.canLayAll0 (ds.map fun d=>d.py)=true:=ND fun x hx=>by obtain⟨d,hd,rfl⟩:=List.mem_map.mp hx;exact(h d hd).1
 have h2:PyData.depthAll (ds.map fun d=>d.py)<=n:=NF fun x hx=>by obtain⟨d,hd,rfl⟩:=List.mem_map.mp hx;exact(h d hd).2
 refine⟨?_,?_,?_⟩
 · unfold eW SeqAt.shaped;rw[e0];simp[PyData.canLay0,PyData.depth,h1];omega
 · rw[e0];simp[PyData.canLay0,h1]
 · rw[e0];simp[PyData.depth];omega
theorem NZ(cs:List (Int×Int)):eW (.lst (sw cs))=true:=(vW (n:=1) (by omega) fun d hd=>by
 obtain⟨c,hc,rfl⟩:=sR hd
 constructor<;>simp[D.py,D.eL,PyData.canLay0,PyData.canLayAll0,PyData.depth,PyData.depthAll]).1
structure Gs(k n:Nat)(d:D):Prop where
 sh:d.py.showable=true
 ls:d.py.leavesShort 40=true
 dp:d.py.depth<=k
 bk:d.py.bulk<=n
theorem Gs.mono{k k' n n':Nat}{d:D}(h:Gs k n d)(hk:k<=k')(hn:n<=n'):Gs k' n' d:=⟨h.sh,h.ls,Nat.le_trans h.dp hk,Nat.le_trans h.bk hn⟩
theorem N0:∀ r:Nat,r<200->((PyData.int ((r:Int) - 100)).showable && (PyData.int ((r:Int) - 100)).leavesShort 40)=true:=by decide +kernel
theorem Gs.int{i:Int}(h : -100<=i)(h':i<100):Gs 0 1 (.int i):=by
 have:=N0 (i+100).toNat (by omega)
 rw[show(((i+100).toNat:Int) - 100)=i by omega,Bool.and_eq_true] at this
 exact⟨this.1,this.2,by simp[D.py,PyData.depth],by simp[D.py,PyData.bulk]⟩
theorem Au{k n:Nat}:∀ {ds:List D},(∀ d∈ds,Gs k n d)->PyData.showableAll (D.eL ds)=true/\PyData.leavesShortAll 40 (D.eL ds)=true/\PyData.depthAll (D.eL ds)<=k/\PyData.bulkAll (D.eL ds)<=ds.length * (n+1)
 | [],_=>⟨rfl,by decide +kernel,by simp[D.eL,PyData.depthAll],by simp[D.eL,PyData.bulkAll]⟩
 |d::r,h=>by
   obtain⟨a2,a3,a4,a5⟩:=Au (ds:=r) fun x hx=>h x (List.mem_cons_of_mem _ hx)
   obtain⟨b2,b3,b4,b5⟩:=h d (List.mem_cons_self ..)
   refine⟨by simp[D.eL,PyData.showableAll,a2,b2],by simp[D.eL,PyData.leavesShortAll,a3,b3],by simp[D.eL,PyData.depthAll];omega,?_⟩
   simp only[D.eL,PyData.bulkAll,List.length_cons]
   rw[Nat.add_mul,Nat.one_mul]
   omega
theorem Gs.tup{k n:Nat}{ds:List D}(h:∀ d∈ds,Gs k n d):Gs (k+1) (ds.length * (n+1)) (.tup ds):=by
 obtain⟨a2,a3,a4,a5⟩:=Au h
 exact⟨by simpa [D.py,PyData.showable] using a2,by simpa [D.py,PyData.leavesShort] using a3,by simp[D.py,PyData.depth];omega,by simpa [D.py,PyData.bulk] using a5⟩
theorem Gs.lst{k n:Nat}{ds:List D}(h:∀ d∈ds,Gs k n d):Gs (k+1) (ds.length * (n+1)) (.lst ds):=by
 obtain⟨a2,a3,a4,a5⟩:=Au h
 exact⟨by simpa [D.py,PyData.showable] using a2,by simpa [D.py,PyData.leavesShort] using a3,by simp[D.py,PyData.depth];omega,by simpa [D.py,PyData.bulk] using a5⟩
theorem N1:1000000<=sizeLine:=by decide
theorem N2{k n:Nat}{ds:List D}(hp:mI ds=true)(g:Gs k n (.lst ds))(hk:k<=50)(hn:n<=20000):iD [.lst ds]=some (.val (.str (D.lst ds).py.shown)):=by
 have ln:=N1
 have sh:=PyData.shown_le_bulk 40 (by decide) (D.lst ds).py g.ls
 have b:=g.bk
 have dp:=g.dp
 have rt:sE (.lst ds)=true:=by
  unfold sE
  rw[show h9 (.lst ds)=true from hp,g.sh,decide_eq_true (by omega:(D.lst ds).py.depth<=50),decide_eq_true (by omega)]
  rfl
 show(if (true && sE (.lst ds))=true then some (RV.val (.str (D.lst ds).py.shown)) else none)=_
 rw[rt]
 rfl
theorem vX{cs:List (Int×Int)}(sm:∀ c∈cs,cn c):∀ d∈sw cs,h9 d=true/\Gs 2 10 d:=fun d hd=>by
 obtain⟨c,hc,rfl⟩:=sR hd
 obtain⟨⟨h1,h2⟩,h3,h4⟩:=sm c hc
 refine⟨rfl,(Gs.tup (k:=0) (n:=1) fun d hd=>?_).mono (by decide) (by simp)⟩
 simp only[List.mem_cons,List.not_mem_nil,or_false] at hd
 rcases hd with rfl | rfl
 · exact Gs.int (by omega) (by omega)
 · exact Gs.int (by omega) (by omega)
theorem FL:∀ {ds:List D},(∀ d∈ds,h9 d=true)->mI ds=true
 | [],_=>rfl
 |d::r,h=>by
   show(h9 d && mI r)=true
   rw[h d (List.mem_cons_self ..),FL fun x hx=>h x (List.mem_cons_of_mem _ hx)]
   rfl
theorem Av{ds:List D}(hl:ds.length<=401)(h:∀ d∈ds,h9 d=true/\Gs 2 10 d):∃ z,iD [.lst ds]=some (.val (.str z)) :=
 ⟨_,N2 (k:=3) (n:=ds.length * 11) (FL fun d hd=>(h d hd).1) (Gs.lst (k:=2) (n:=10) fun d hd=>(h d hd).2) (by decide) (by omega)⟩
theorem N3:(D.str "points").py.canLay0=true:=by decide +kernel
theorem N4:(D.str "refused").py.canLay0=true:=by decide +kernel
theorem N5(cs:List (Int×Int)):eW (.lst [.str "points",.lst (sw cs)])=true:=by
 refine(vW (n:=2) (by decide) fun x hx=>?_).1
 simp only[List.mem_cons,List.not_mem_nil,or_false] at hx
 rcases hx with rfl | rfl
 · exact⟨N3,by simp[D.py,PyData.depth]⟩
 · refine(vW (n:=1) (by decide) fun x hx=>?_).2
   obtain⟨c,_,rfl⟩:=sR hx
   exact⟨by simp[D.py,D.eL,PyData.canLay0,PyData.canLayAll0],by simp[D.py,D.eL,PyData.depth,PyData.depthAll]⟩
theorem vY{n:D}(hn:n = .ao\/∃ i,n = .int i):eW (.lst [.str "refused",n])=true:=by
 refine(vW (n:=0) (by decide) fun x hx=>?_).1
 simp only[List.mem_cons,List.not_mem_nil,or_false] at hx
 rcases hx with rfl | rfl
 · exact⟨N4,by simp[D.py,PyData.depth]⟩
 · rcases hn with rfl | ⟨i,rfl⟩<;>exact⟨rfl,by simp[D.py,PyData.depth]⟩
noncomputable def dJ:List D:=[.ao,.tup [.int 1],.tup [.int 1,.int 2,.int 3],.lst [.int 1,.int 2],.tup [.int 31,.int 0],.tup [.int 0,.int 31],.tup [.int (-1),.int 0],.tup [.int 0,.int (-1)],.tup [.bl true,.int 0],.tup [.int 0,.bl false],.tup [.str "1",.int 0],.int 3,.tup [],.tup [.int 1000000000000000000000000000000,.int 1]]
theorem N6:∀ d∈dJ,h9 d=true/\Gs 2 10 d:=by
 intro d hd
 simp only[dJ,List.mem_cons,List.not_mem_nil,or_false] at hd
 rcases hd with rfl | rfl | rfl | rfl | rfl | rfl | rfl | rfl | rfl | rfl | rfl | rfl | rfl | rfl<;>exact⟨rfl,⟨by decide +kernel,by decide +kernel,by decide +kernel,by decide +kernel⟩⟩
theorem N7:∀ d∈dJ,eo [d]=some (.val (.bl false)):=by
 intro d hd
 simp only[dJ,List.mem_cons,List.not_mem_nil,or_false] at hd
 rcases hd with rfl | rfl | rfl | rfl | rfl | rfl | rfl | rfl | rfl | rfl | rfl | rfl | rfl | rfl<;>kernel_rfl
theorem N8:nv (.int 10) (.int 30)=some (.val (.int 1000000000000000000000000000000)):=by
 show(if cd ((0:Int)<=30/\(30:Int)<=1000000/\(10:Int).natAbs<2 ^ 64)=true then some (RV.val (.int (10 ^ (30:Int).toNat))) else none)=_
 rw[if_pos (jH (by decide))]
 have:(10:Int) ^ (30:Int).toNat=1000000000000000000000000000000:=by decide +kernel
 rw[this]
theorem N9:nv (.int 10) (.int 40)=some (.val (.int 10000000000000000000000000000000000000000)):=by
 show(if cd ((0:Int)<=40/\(40:Int)<=1000000/\(10:Int).natAbs<2 ^ 64)=true then some (RV.val (.int (10 ^ (40:Int).toNat))) else none)=_
 rw[if_pos (jH (by decide))]
 have:(10:Int) ^ (40:Int).toNat=10000000000000000000000000000000000000000:=by decide +kernel
 rw[this]
theorem N_{c s:Int}(h:Sd s):∃ (d:D) (c' s':Int),jv (pl c s) []=some (.val d,pl c' s')/\d∈dJ/\Sd s':=by
 have ln:=line
 have l0:0<=sizeLine:=Nat.zero_le _
 have l1:1<=sizeLine:=by omega
 have l2:2<=sizeLine:=by omega
 have l3:3<=sizeLine:=by omega
 have Oa:14<=sizeLine:=by omega
 obtain⟨x,c1,s1,h1,b1,d1⟩:=qm (c:=c) (m:=14) h (by omega) (by omega)
 obtain⟨j,rfl⟩:∃ j:Nat,x=j:=⟨x.toNat,by omega⟩
 have hj:j<dJ.length:=by show j<14;omega
 have e:L2.cA dJ (j:Int)=some dJ[j]:=L2.iU (List.getElem?_eq_getElem hj)
 refine⟨dJ[j],c1,s1,?_,List.getElem_mem hj,d1⟩
 generalize dJ[j]=q at *
 unfold dJ at e
 simp[jv,Ah,mB,mw,b6,jo,h1,l0,l1,l2,l3,Oa,N8,e]
noncomputable def s1:M Fl:=(bw 2 (dA i5 (ZS (ai 0) (ZS (ai 1) (M.pure [])))))
noncomputable def s2:M Fl:=(bw 3 (op2 c9 (av (ZS (M.pure (.val (.int 0))) (ZS (M.pure (.val (.int 1))) (ZS (M.pure (.val (.int 2))) (ZS (M.pure (.val (.int 5))) (ZS (M.pure (.val (.int 12))) (ZS (M.pure (.val (.int 40))) (ZS (M.pure (.val (.int 200))) (ZS (M.pure (.val (.int 199))) (M.pure [])))))))))) (fA cP (ZS (ai 2) (ZS (M.pure (.val (.int 8))) (M.pure []))))))
noncomputable def s3:M Fl:=(bw 4 (op2 c9 (av (ZS (M.pure (.val (.int 3))) (ZS (M.pure (.val (.int 31))) (M.pure [])))) (fA cP (ZS (ai 2) (ZS (M.pure (.val (.int 2))) (M.pure []))))))
noncomputable def s4:M Fl:=(bw 5 (jJ (me (ZS (ai 3) (M.pure []))) [2,4] 1 (gN 0) (M.pure true) (fA h_ (ZS (ai 1) (ZS (ai 2) (ZS (ai 2) (M.pure [])))))))
noncomputable def s5:M Fl:=(bw 6 (dA jw (ZS (ai 5) (M.pure []))))
noncomputable def s6:M Fl:=(bw 7 (cf pP (ZS (ai 5) (M.pure []))))
noncomputable def s7:M Fl:=(bw 8 (sI (h8 cQ (ZS (op2 c9 (av (ZS (ai 7) (ZS (cf lU (ZS (ai 7) (M.pure []))) (M.pure [])))) (op2 jI (ai 1) (M.pure (.val (.int 2))))) (M.pure [])))))
noncomputable def s8:M Fl:=(lj (rB 7 sF (M.pure [])))
noncomputable def s9:M Fl:=(lj (rY (gD .Points "points" cZ (ai 8)) rC (ZS (M.pure (.val .ao)) (M.pure []))))
noncomputable def vZ:M Fl:=(dz (orM (M.bind (op2 c8 (gD .Points "points" cZ (ai 8)) (ai 6)) bz) (M.bind (op2 c8 (cf iD (ZS (gD .Points "points" cZ (ai 8)) (M.pure []))) (cf iD (ZS (ai 6) (M.pure [])))) bz)) (cE (M.pure (.val (.bl false)))) (M.pure .nx))
noncomputable def v3:M Fl:=(dz (M.bind (op2 c8 (dA dC (ZS (op2 dU (ai 5) (op2 mC (av (ZS (cp (ZS (M.pure (.val (.int 0))) (ZS (M.pure (.val (.int 0))) (M.pure [])))) (M.pure []))) (M.pure (.val (.int 201))))) (M.pure []))) (av (ZS (M.pure (.val (.str "refused"))) (ZS (M.pure (.val .ao)) (M.pure []))))) bz) (cE (M.pure (.val (.bl false)))) (M.pure .nx))
noncomputable def Aw:M Fl:=(bw 10 (fA cP (ZS (ai 2) (ZS (op2 dU (ai 3) (M.pure (.val (.int 1)))) (M.pure [])))))
noncomputable def Ax:M Fl:=(bw 11 (l7 lV (op2 dU (op2 dU (l7 lV (ai 5) (M.pure none) (M.bind (ai 10) lW)) (av (ZS (fA jv (ZS (ai 2) (M.pure []))) (M.pure [])))) (l7 lV (ai 5) (M.bind (ai 10) lW) (M.pure none))) (M.pure none) (M.bind (M.pure (.val (.int 200))) lW)))
noncomputable def Ay:M Fl:=(bw 12 (cf iD (ZS (ai 11) (M.pure []))))
noncomputable def v5:M Fl:=(bw 13 (op2 c9 (av (ZS (av (ZS (M.pure (.val (.str "refused"))) (ZS (ai 10) (M.pure [])))) (ZS (av (ZS (M.pure (.val (.str "points"))) (ZS (ai 6) (M.pure [])))) (M.pure [])))) (cf oz (ZS (op2 eZ (ai 10) (M.pure (.val (.int 200)))) (M.pure [])))))
noncomputable def sV:M Fl:=(dz (orM (M.bind (op2 c8 (dA dC (ZS (ai 11) (M.pure []))) (ai 13)) bz) (orM (M.bind (op2 c8 (dA dC (ZS (cf lU (ZS (ai 11) (M.pure []))) (M.pure []))) (ai 13)) bz) (M.bind (op2 c8 (cf iD (ZS (ai 11) (M.pure []))) (ai 12)) bz))) (cE (M.pure (.val (.bl false)))) (M.pure .nx))
noncomputable def Az:M Fl:=(aI Aw (aI Ax (aI Ay (aI v5 sV))))
noncomputable def s12:M Fl:=(forM (me (ZS (M.pure (.val (.int 6))) (M.pure []))) (gN 9) Az)
noncomputable def AA:M Fl:=(dz (M.bind (op2 c8 (dA dC (ZS (ai 14) (M.pure []))) (op2 c9 (av (ZS (av (ZS (M.pure (.val (.str "refused"))) (ZS (M.pure (.val .ao)) (M.pure [])))) (ZS (av (ZS (M.pure (.val (.str "refused"))) (ZS (M.pure (.val (.int 0))) (M.pure [])))) (M.pure [])))) (cf oz (ZS (op2 qj (ai 14) (cp (ZS (M.pure (.val (.int 0))) (ZS (M.pure (.val (.int 0))) (M.pure []))))) (M.pure []))))) bz) (cE (M.pure (.val (.bl false)))) (M.pure .nx))
noncomputable def sW:M Fl:=AA
noncomputable def m4:M Fl:=(forM (ly (av (ZS (M.pure (.val (.str ""))) (ZS (M.pure (.val (.int 3))) (ZS (M.pure (.val (.bl true))) (ZS (M.pure (.val (.gk [] []))) (ZS (cp (ZS (M.pure (.val (.int 0))) (ZS (M.pure (.val (.int 0))) (M.pure [])))) (M.pure [])))))))) (gN 14) sW)
noncomputable def v7:M Fl:=(aI s1 (aI s2 (aI s3 (aI s4 (aI s5 (aI s6 (aI s7 (aI s8 (aI s9 (aI vZ (aI v3 (aI s12 m4))))))))))))
theorem Ob:Ak cQ cZ jv h_ i5 jw cP dC fD=(aI (forM (me (ZS (cf rg (ZS (M.pure (.val (.int 1))) (ZS (cf rh (ZS (M.pure (.val (.int 8))) (ZS (cf j7 (ZS (ai 0) (M.pure []))) (M.pure [])))) (M.pure [])))) (M.pure []))) (gN 1) v7) (aI (dz (M.bind (op2 c8 (jJ (tupI (cp (ZS (M.pure (.val (.int 0))) (ZS (M.pure (.val (.int 30))) (ZS (M.pure (.val (.int 31))) (ZS (op1 oA (M.pure (.val (.int 1)))) (ZS (M.pure (.val (.bl true))) (ZS (M.pure (.val .ao)) (ZS (M.pure (.val (.str "1"))) (ZS (op2 nv (M.pure (.val (.int 10))) (M.pure (.val (.int 40)))) (M.pure []))))))))))) [] 1 (gN 0) (M.pure true) (dA fD (ZS (ai 0) (M.pure [])))) (op2 dU (av (ZS (M.pure (.val (.bl true))) (ZS (M.pure (.val (.bl true))) (M.pure [])))) (op2 mC (av (ZS (M.pure (.val (.bl false))) (M.pure []))) (M.pure (.val (.int 6)))))) bz) (cE (M.pure (.val (.bl false)))) (M.pure .nx)) (cE (jG (op2 eZ (gD .Points "points" cZ (h8 cQ (M.pure [.val .ao]))) (av (M.pure []))) (jG (op2 eZ (gD .Points "points" cZ (h8 cQ (ZS (M.pure (.val .ao)) (M.pure [])))) (av (M.pure []))) (op2 eZ (gD .Points "points" cZ (h8 cQ (ZS (av (ZS (cp (ZS (M.pure (.val (.int 1))) (ZS (M.pure (.val (.int 2))) (M.pure [])))) (M.pure []))) (M.pure [])))) (av (ZS (cp (ZS (M.pure (.val (.int 1))) (ZS (M.pure (.val (.int 2))) (M.pure [])))) (M.pure []))))))))):=rfl
noncomputable abbrev C:=Int×Int
noncomputable abbrev pt(c:C):D:=.tup [.int c.2,.int c.1]
theorem Oc{c s w:Int}(h:Sd s)(hw:0<w)(hw2:w<=31):∃ (p:C) (c' s':Int),h_ (pl c s) [.int w,.int w]=some (.val (pt p),pl c' s')/\cn p/\Sd s':=by
 have ln:=line
 have l2:2<=sizeLine:=by omega
 obtain⟨k,c1,s1,h1,b1,d1⟩:=qm (c:=c) (m:=w) h hw (by omega)
 obtain⟨m,c2,s2,h2,b2,d2⟩:=qm (c:=c1) (m:=w) d1 hw (by omega)
 refine⟨(m,k),c2,s2,?_,⟨⟨by show 0<=m;omega,by show m<=30;omega⟩,by show 0<=k;omega,by show k<=30;omega⟩,d2⟩
 simp[h_,Ai,mB,mw,b6,jo,h1,h2,l2]
theorem FN{w:Int}(hw:0<w)(hw2:w<=31){x0 x1 x3:Sl}{xs:En}:∀ (ds:List D) (c s:Int),Sd s->∃ (cs:List C) (c' s':Int),
 c_ [2,4] 1 (gN 0) (M.pure true) (fA h_ (ZS (ai 1) (ZS (ai 2) (ZS (ai 2) (M.pure []))))) ds (x0::x1::some (.own,.lst (pl c s))::x3::some (.ak,.int w)::xs) = .ok (sw cs) (x0::x1::some (.own,.lst (pl c' s'))::x3::some (.ak,.int w)::xs)/\Sd s'/\cs.length=ds.length/\∀ a∈cs,cn a
 | [],c,s,h=>⟨[],c,s,rfl,h,rfl,fun a ha=>by cases ha⟩
 |d::r,c,s,h=>by
   obtain⟨p,c1,s1,hx,hx1,hs1⟩:=Oc (c:=c) h hw hw2
   obtain⟨cs,c2,s2,hl,hs2,hn',hk⟩:=FN hw hw2 r c1 s1 hs1
   refine⟨p::cs,c2,s2,?_,hs2,by simp[hn'],fun a ha=>?_⟩
   · have e:j9 (gN 0) (M.pure true) (fA h_ (ZS (ai 1) (ZS (ai 2) (ZS (ai 2) (M.pure []))))) d (bW [2,4] 1 (x0::x1::some (.own,.lst (pl c s))::x3::some (.ak,.int w)::xs)) = .ok (some (pt p)) [some (.ak,d),some (.own,.lst (pl c1 s1)),some (.ak,.int w)]:=by
      simp[bW,hx]
     unfold c_
     rw[e]
     show(match c_ [2,4] 1 (gN 0) (M.pure true) (fA h_ (ZS (ai 1) (ZS (ai 2) (ZS (ai 2) (M.pure []))))) r (x0::x1::some (.own,.lst (pl c1 s1))::x3::some (.ak,.int w)::xs) with
      | .ok ys Γ'=>Res.ok ([pt p]++ys) Γ'
      | _=>.st)=_
     rw[hl]
     rfl
   · rcases List.mem_cons.1 ha with rfl | ha
     · exact hx1
     · exact hk a ha
noncomputable abbrev lE(ns:List Int)(k c s:Int)(xs:En):En :=
 some (.ak,.bL ns)::some (.ak,.int k)::some (.own,.lst (pl c s))::xs
theorem Od{x:Int}(h:0<=x/\x<2):∃ w,L2.cA [D.int 3,.int 31] x=some (.int w)/\0<w/\w<=31:=by
 have:x=0\/x=1:=by omega
 rcases this with rfl | rfl
 · exact⟨3,rfl,by decide,by decide⟩
 · exact⟨31,rfl,by decide,by decide⟩
theorem Oe{x:Int}(h:0<=x/\x<8):∃ n:Nat,L2.cA [D.int 0,.int 1,.int 2,.int 5,.int 12,.int 40,.int 200,.int 199] x=some (.int n)/\n<=200:=by
 have:x=0\/x=1\/x=2\/x=3\/x=4\/x=5\/x=6\/x=7:=by omega
 rcases this with rfl | rfl | rfl | rfl | rfl | rfl | rfl | rfl
 · exact⟨0,rfl,by decide⟩
 · exact⟨1,rfl,by decide⟩
 · exact⟨2,rfl,by decide⟩
 · exact⟨5,rfl,by decide⟩
 · exact⟨12,rfl,by decide⟩
 · exact⟨40,rfl,by decide⟩
 · exact⟨200,rfl,by decide⟩
 · exact⟨199,rfl,by decide⟩
structure Gc(cs:List C):Prop where
 len:cs.length<=200
 sm:∀ c∈cs,cn c
theorem Of{ns:List Int}{k:Nat}(hk:k<100){x2 x3 x4 x5 x6 x7 x8 x9 x10 x11 x12 x13 x14:Sl}:∃ (c s w:Int) (cs:List C),
 aI s1 (aI s2 (aI s3 (aI s4 (aI s5 s6)))) [some (.ak,.bL ns),some (.ak,.int k),x2,x3,x4,x5,x6,x7,x8,x9,x10,x11,x12,x13,x14] = .ok .nx (lE ns k c s [some (.ak,.int cs.length),some (.ak,.int w),some (.own,.lst (sw cs)),some (.own,.lst (sw (aH cs))),some (.own,.lst (sw cs)),x8,x9,x10,x11,x12,x13,x14])/\Sd s/\Gc cs:=by
 have ln:=line
 have l8:8<=sizeLine:=by omega
 have l2:2<=sizeLine:=by omega
 obtain⟨c,s,hp,hs⟩:=NL ns k hk
 obtain⟨x,c1,s1',hx,hx1,hs1⟩:=qm (c:=c) (m:=8) hs (by omega) (by omega)
 obtain⟨n,hn,hn2⟩:=Oe hx1
 obtain⟨y,c2,s2',hy,hy1,hs2⟩:=qm (c:=c1) (m:=2) hs1 (by omega) (by omega)
 obtain⟨w,hw,w1,w2⟩:=Od hy1
 obtain⟨cs,c5,qq,hl,Og,ml,mb⟩:=FN (w:=w) w1 w2 (x0:=some (.ak,.bL ns)) (x1:=some (.ak,.int k)) (x3:=some (.ak,.int n)) (xs:=[x5,x6,x7,x8,x9,x10,x11,x12,x13,x14]) (hW 0 n) c2 s2' hs2
 rw[Fw] at ml
 subst ml
 have sm:small (cs.length:Int)=true:=zb (by omega)
 have e0:(hW 0 cs.length).length<sizeLine:=by rw[Fw];omega
 have e1:=NP mb hn2
 have im:gn (.new (.lst (sw (aH cs))))=true:=Ar _
 have f1:s1 [some (.ak,.bL ns),some (.ak,.int k),x2,x3,x4,x5,x6,x7,x8,x9,x10,x11,x12,x13,x14] = .ok .nx (lE ns k c s [x3,x4,x5,x6,x7,x8,x9,x10,x11,x12,x13,x14]):=by simp[s1,hp]
 have f2:s2 (lE ns k c s [x3,x4,x5,x6,x7,x8,x9,x10,x11,x12,x13,x14]) = .ok .nx (lE ns k c1 s1' [some (.ak,.int cs.length),x4,x5,x6,x7,x8,x9,x10,x11,x12,x13,x14]):=by simp[s2,hx,hn,l8]
 have f3:s3 (lE ns k c1 s1' [some (.ak,.int cs.length),x4,x5,x6,x7,x8,x9,x10,x11,x12,x13,x14]) = .ok .nx (lE ns k c2 s2' [some (.ak,.int cs.length),some (.ak,.int w),x5,x6,x7,x8,x9,x10,x11,x12,x13,x14]):=by simp[s3,hy,hw,l2]
 have f4:s4 (lE ns k c2 s2' [some (.ak,.int cs.length),some (.ak,.int w),x5,x6,x7,x8,x9,x10,x11,x12,x13,x14]) = .ok .nx (lE ns k c5 qq [some (.ak,.int cs.length),some (.ak,.int w),some (.own,.lst (sw cs)),x6,x7,x8,x9,x10,x11,x12,x13,x14]):=by
  generalize sw cs=T at *
  simp[s4,sm,e0,hl]
 have f5:s5 (lE ns k c5 qq [some (.ak,.int cs.length),some (.ak,.int w),some (.own,.lst (sw cs)),x6,x7,x8,x9,x10,x11,x12,x13,x14]) = .ok .nx (lE ns k c5 qq [some (.ak,.int cs.length),some (.ak,.int w),some (.own,.lst (sw cs)),some (.own,.lst (sw (aH cs))),x7,x8,x9,x10,x11,x12,x13,x14]):=by
  generalize sw (aH cs)=S at *
  generalize sw cs=T at *
  simp[s5,e1,im]
 have f6:s6 (lE ns k c5 qq [some (.ak,.int cs.length),some (.ak,.int w),some (.own,.lst (sw cs)),some (.own,.lst (sw (aH cs))),x7,x8,x9,x10,x11,x12,x13,x14]) = .ok .nx (lE ns k c5 qq [some (.ak,.int cs.length),some (.ak,.int w),some (.own,.lst (sw cs)),some (.own,.lst (sw (aH cs))),some (.own,.lst (sw cs)),x8,x9,x10,x11,x12,x13,x14]):=by
  generalize sw (aH cs)=S at *
  generalize sw cs=T at *
  simp[s6]
 exact⟨c5,qq,w,cs,fF f1 (fF f2 (fF f3 (fF f4 (fF f5 f6)))),Og,hn2,mb⟩
theorem AB(z:Str):c8 (.str z) (.str z)=some (.val (.bl false)):=by
 show some (RV.val (.bl (!decide (z=z))))=_
 simp
theorem rep1{d:D}{n:Nat}(hn:n<=1000):mC (.lst [d]) (.int n)=some (.new (.lst (List.replicate n d))):=by
 have ln:=line
 have c:cd (-(2 ^ 63)<=(n:Int)/\(n:Int)<2 ^ 63/\[d].length * (n:Int).toNat<=sizeLine)=true:=jH ⟨by omega,by omega,by simp;omega⟩
 show(if cd (-(2 ^ 63)<=(n:Int)/\(n:Int)<2 ^ 63/\[d].length * (n:Int).toNat<=sizeLine)=true then some (RV.new (.lst (List.replicate (n:Int).toNat [d]).flatten)) else none)=_
 rw[if_pos c,Int.toNat_natCast,List.flatten_replicate_singleton]
section
variable{ns:List Int}{c s w:Int}{k:Nat}{cs:List C}{x8 x9 x10 x11 x12 x13 x14:Sl}
noncomputable abbrev gE(ns:List Int)(k c s m w:Int)(T S hd:List D)(xs:En):En:=lE ns k c s (some (.ak,.int m)::some (.ak,.int w)::some (.own,.lst T)::some (.own,.lst S)::some (.own,.lst hd)::xs)
theorem Oh(G:Gc cs):s7 (gE ns k c s cs.length w (sw cs) (sw (aH cs)) (sw cs) [x8,x9,x10,x11,x12,x13,x14]) = .ok .nx (gE ns k c s cs.length w (sw cs) (sw (aH cs)) (sw cs) [some (.ak,pO (sw (aH cs))),x9,x10,x11,x12,x13,x14]):=by
 have ln:=line
 have l2:2<=sizeLine:=by omega
 have e1:=vU (x:=.lst (sw cs)) (.inl rfl) G.sm G.len
 have e2:=vU (x:=.tup (sw cs)) (.inr rfl) G.sm G.len
 have md:jI (.int (k:Int)) (.int 2)=some (.val (.int ((k:Int) % 2))):=Lk (by decide)
 have tp:lU [.lst (sw cs)]=some (.val (.tup (sw cs))):=rfl
 have kk:(k:Int) % 2=0\/(k:Int) % 2=1:=by omega
 generalize cs.length=m at *
 generalize sw (aH cs)=S at *
 generalize sw cs=T at *
 rcases kk with kk | kk
 · rw[kk] at md
   simp[s7,hid,l2,md,tp,qk,e1]
 · rw[kk] at md
   simp[s7,hid,l2,md,tp,ql,e2]
theorem Oi{hd:List D}:s8 (gE ns k c s cs.length w (sw cs) (sw (aH cs)) hd [x8,x9,x10,x11,x12,x13,x14]) = .ok .nx (gE ns k c s cs.length w (sw cs) (sw (aH cs)) [] [x8,x9,x10,x11,x12,x13,x14]):=by
 have cl:sF hd []=some ([],.ao):=rfl
 generalize cs.length=m at *
 generalize sw (aH cs)=S at *
 generalize sw cs=T at *
 simp[s8,cl]
theorem Oj(G:Gc cs):s9 (gE ns k c s cs.length w (sw cs) (sw (aH cs)) [] [some (.ak,pO (sw (aH cs))),x9,x10,x11,x12,x13,x14]) = .ok .nx (gE ns k c s cs.length w (sw cs) (sw (aH cs)) [] [some (.ak,pO (sw (aH cs))),x9,x10,x11,x12,x13,x14]):=by
 have ln:=line
 have e:=sT (sw (aH cs))
 have ap:rC (sw (aH cs)) [.ao]=some (sw (aH cs)++[.ao],.ao):=if_pos (by rw[jO];have:=sS cs;have:=G.len;omega)
 generalize cs.length=m at *
 generalize sw (aH cs)=S at *
 generalize sw cs=T at *
 simp[s9,rY,e,vV,ap]
theorem Ol(G:Gc cs):vZ (gE ns k c s cs.length w (sw cs) (sw (aH cs)) [] [some (.ak,pO (sw (aH cs))),x9,x10,x11,x12,x13,x14]) = .ok .nx (gE ns k c s cs.length w (sw cs) (sw (aH cs)) [] [some (.ak,pO (sw (aH cs))),x9,x10,x11,x12,x13,x14]):=by
 have ln:=line
 have e:=sT (sw (aH cs))
 have sl:=sS cs
 have gl:=G.len
 obtain⟨z,hz⟩:=Av (ds:=sw (aH cs)) (by rw[jO];omega) (vX fun c hc=>G.sm c (eh.mp hc))
 have q:=nJ (NZ (aH cs))
 have q2:=AB z
 generalize cs.length=m at *
 generalize sw (aH cs)=S at *
 generalize sw cs=T at *
 simp[vZ,e,vV,q,hz,q2]
theorem Om(G:Gc cs):v3 (gE ns k c s cs.length w (sw cs) (sw (aH cs)) [] [x8,x9,x10,x11,x12,x13,x14]) = .ok .nx (gE ns k c s cs.length w (sw cs) (sw (aH cs)) [] [x8,x9,x10,x11,x12,x13,x14]):=by
 have ln:=line
 have l2:2<=sizeLine:=by omega
 have l1:1<=sizeLine:=by omega
 have rp:mC (.lst [.tup [.int 0,.int 0]]) (.int 201)=_:=rep1 (d:=.tup [.int 0,.int 0]) (n:=201) (by decide)
 have gl:=G.len
 have ad:dU (.lst (sw cs)) (.lst (List.replicate 201 (.tup [.int 0,.int 0])))=some (.new (.lst (sw cs++List.replicate 201 (.tup [.int 0,.int 0])))):=yS (by rw[jO,List.length_replicate];omega)
 have tl:=sU (x:=.lst (sw cs++List.replicate 201 (.tup [.int 0,.int 0]))) (NT (by rw[List.length_append,List.length_replicate];omega)) rfl (.inl rfl)
 have q:=nJ (vY (n:=.ao) (.inl rfl))
 generalize sw cs++List.replicate 201 (.tup [.int 0,.int 0])=B at *
 generalize List.replicate 201 (D.tup [.int 0,.int 0])=A at *
 generalize cs.length=m at *
 generalize sw (aH cs)=S at *
 generalize sw cs=T at *
 simp[v3,l1,l2,rp,ad,tl,q]
end
theorem Oo{T:List D}{j:Nat}(d:D)(hj:j<=T.length)(hl:T.length<=200):(T.take j++[d]++T.drop j).take 200=if j=200 then T else T.take j++d::(T.drop j).take (199 - j):=by
 have e:(T.take j).length=j:=by rw[List.length_take];omega
 split
 · rename_i h
   subst h
   rw[List.append_assoc,List.take_append_of_le_length (by omega),List.take_take,Nat.min_self,List.take_of_length_le hl]
 · rename_i h
   rw[List.append_assoc,List.take_append,e,List.take_of_length_le (by omega:(T.take j).length<=200),List.singleton_append,show 200 - j=(199 - j)+1 by omega,List.take_succ_cons]
section
variable{ns:List Int}{c s w:Int}{k:Int}{cs:List C}{kd:Kd}{x9 x10 x11 x12 x13 x14:Sl}
noncomputable abbrev tE(ns:List Int)(k c s m w:Int)(T S:List D)(kd:Kd)(xs:En):En:=lE ns k c s (some (.ak,.int m)::some (.ak,.int w)::some (.own,.lst T)::some (kd,.lst S)::some (.own,.lst [])::some (.ak,pO S)::xs)
theorem Oq(G:Gc cs)(hs:Sd s):∃ (j:Nat) (c' s':Int),Aw (tE ns k c s cs.length w (sw cs) (sw (aH cs)) kd [x9,x10,x11,x12,x13,x14]) = .ok .nx (tE ns k c' s' cs.length w (sw cs) (sw (aH cs)) kd [x9,some (.ak,.int j),x11,x12,x13,x14])/\Sd s'/\j<=cs.length:=by
 have gl:=G.len
 obtain⟨x,c1,s1',hx,hx1,hs1⟩:=qm (c:=c) (m:=cs.length+1) hs (by omega) (by omega)
 obtain⟨j,rfl⟩:∃ j:Nat,x=j:=⟨x.toNat,by omega⟩
 refine⟨j,c1,s1',?_,hs1,by omega⟩
 generalize (cs.length:Int)=m at *
 generalize sw (aH cs)=S at *
 generalize sw cs=T at *
 simp[Aw,hx]
theorem Ot(G:Gc cs)(hs:Sd s){j:Nat}(hj:j<=cs.length):∃ (d:D) (c' s':Int),Ax (tE ns k c s cs.length w (sw cs) (sw (aH cs)) kd [x9,some (.ak,.int j),x11,x12,x13,x14]) = .ok .nx (tE ns k c' s' cs.length w (sw cs) (sw (aH cs)) kd [x9,some (.ak,.int j),some (.own,.lst (if j=200 then sw cs else (sw cs).take j++d::((sw cs).drop j).take (199 - j))),x12,x13,x14])/\Sd s'/\d∈dJ:=by
 have ln:=line
 have gl:=G.len
 have l1:1<=sizeLine:=by omega
 obtain⟨d,c1,s1',hd,ho,hs1⟩:=N_ (c:=c) hs
 refine⟨d,c1,s1',?_,hs1,ho⟩
 have tl:((sw cs).take j).length=j:=by rw[List.length_take,jO];omega
 have dl:((sw cs).drop j).length<=200:=by rw[List.length_drop,jO];omega
 have a1:=yS (xs:=(sw cs).take j) (ys:=[d]) (by simp only[tl,List.length_singleton];omega)
 have a2:=yS (xs:=(sw cs).take j++[d]) (ys:=(sw cs).drop j) (by rw[List.length_append,tl,List.length_singleton];omega)
 have c1:=Ft (sw cs) j
 have c2:=NJ (sw cs) j
 have c3:=Ft ((sw cs).take j++[d]++(sw cs).drop j) 200
 rw[Oo d (by rw[jO];omega) (by rw[jO];omega)] at c3
 generalize (if j=200 then sw cs else (sw cs).take j++d::((sw cs).drop j).take (199 - j))=B at *
 generalize (sw cs).take j++[d]++(sw cs).drop j=A2 at *
 generalize (sw cs).take j++[d]=A1 at *
 generalize (sw cs).take j=B1 at *
 generalize (sw cs).drop j=B2 at *
 generalize (cs.length:Int)=m at *
 generalize sw (aH cs)=S at *
 generalize sw cs=T at *
 have c3:i4 A2 none (some 200)=B:=c3
 simp[Ax,hd,l1,c1,c2,c3,a1,a2]
theorem FO{B:List D}{z:Str}(hz:iD [.lst B]=some (.val (.str z))):Ay (tE ns k c s cs.length w (sw cs) (sw (aH cs)) kd [x9,x10,some (.own,.lst B),x12,x13,x14]) = .ok .nx (tE ns k c s cs.length w (sw cs) (sw (aH cs)) kd [x9,x10,some (.own,.lst B),some (.ak,.str z),x13,x14]):=by
 generalize (cs.length:Int)=m at *
 generalize sw (aH cs)=S at *
 generalize sw cs=T at *
 simp[Ay,hz]
theorem Ou(hk:kd = .own\/kd = .ak){j:Nat}:v5 (tE ns k c s cs.length w (sw cs) (sw (aH cs)) kd [x9,some (.ak,.int j),x11,x12,x13,x14]) = .ok .nx (tE ns k c s cs.length w (sw cs) (sw (aH cs)) .ak [x9,some (.ak,.int j),x11,x12,some (.ak,if j=200 then .lst [.str "points",.lst (sw (aH cs))] else .lst [.str "refused",.int j]),x14]):=by
 have ln:=line
 have l2:2<=sizeLine:=by omega
 have e:=NI (j:Int) 200
 generalize (cs.length:Int)=m at *
 generalize sw (aH cs)=S at *
 generalize sw cs=T at *
 by_cases h:j=200
 · subst h
   rw[decide_eq_true (by rfl)] at e
   have e:eZ (.int 200) (.int 200)=_:=e
   rw[if_pos rfl]
   rcases hk with rfl | rfl<;>simp[v5,l2,e,ql]
 · rw[decide_eq_false (by omega)] at e
   rw[if_neg h]
   rcases hk with rfl | rfl<;>simp[v5,l2,e,qk]
theorem Ov{B:List D}{j:Nat}{z:Str}(h1:dC [.lst B]=some (.new (.lst [.str "refused",.int j])))(h2:dC [.tup B]=some (.new (.lst [.str "refused",.int j])))(hz:iD [.lst B]=some (.val (.str z))):sV (tE ns k c s cs.length w (sw cs) (sw (aH cs)) kd [x9,x10,some (.own,.lst B),some (.ak,.str z),some (.ak,.lst [.str "refused",.int j]),x14]) = .ok .nx (tE ns k c s cs.length w (sw cs) (sw (aH cs)) kd [x9,x10,some (.own,.lst B),some (.ak,.str z),some (.ak,.lst [.str "refused",.int j]),x14]):=by
 have q:=nJ (vY (n:=.int j) (.inr ⟨_,rfl⟩))
 have q2:=AB z
 have im:gn (.new (.lst [.str "refused",.int j]))=true:=rfl
 generalize (cs.length:Int)=m at *
 generalize sw (aH cs)=S at *
 generalize sw cs=T at *
 have tp:lU [.lst B]=some (.val (.tup B)):=rfl
 simp[sV,h1,h2,hz,q,q2,im,tp]
theorem Ox{B S:List D}{z:Str}{m:Int}{T:List D}(ok:eW (.lst [.str "points",.lst S])=true)(h1:dC [.lst B]=some (.new (.lst [.str "points",.lst S])))(h2:dC [.tup B]=some (.new (.lst [.str "points",.lst S])))(hz:iD [.lst B]=some (.val (.str z))):sV (tE ns k c s m w T S kd [x9,x10,some (.own,.lst B),some (.ak,.str z),some (.ak,.lst [.str "points",.lst S]),x14]) = .ok .nx (tE ns k c s m w T S kd [x9,x10,some (.ak,.lst B),some (.ak,.str z),some (.ak,.lst [.str "points",.lst S]),x14]):=by
 have q:=nJ ok
 have q2:=AB z
 have im:gn (.new (.lst [.str "points",.lst S]))=false:=rfl
 have tp:lU [.lst B]=some (.val (.tup B)):=rfl
 simp[sV,h1,h2,hz,q,q2,im,tp]
theorem Oy(G:Gc cs)(hs:Sd s)(hk:kd = .own\/kd = .ak):∃ (c' s':Int) (y10 y11 y12 y13:Sl),Az (tE ns k c s cs.length w (sw cs) (sw (aH cs)) kd [x9,x10,x11,x12,x13,x14]) = .ok .nx (tE ns k c' s' cs.length w (sw cs) (sw (aH cs)) .ak [x9,y10,y11,y12,y13,x14])/\Sd s':=by
 have gl:=G.len
 obtain⟨j,c1,s1',e1,hs1,hj⟩:=Oq (ns:=ns) (k:=k) (c:=c) (w:=w) (kd:=kd) (x9:=x9) (x10:=x10) (x11:=x11) (x12:=x12) (x13:=x13) (x14:=x14) G hs
 obtain⟨d,c2,s2',e2,hs2,hd⟩:=Ot (ns:=ns) (k:=k) (c:=c1) (w:=w) (kd:=kd) (x9:=x9) (x11:=x11) (x12:=x12) (x13:=x13) (x14:=x14) G hs1 hj
 have e4:=fun z=>Ou (ns:=ns) (k:=k) (c:=c2) (s:=s2') (w:=w) (cs:=cs) (j:=j) (x9:=x9) (x11:=some (.own,.lst (if j=200 then sw cs else (sw cs).take j++d::((sw cs).drop j).take (199 - j)))) (x12:=some (.ak,.str z)) (x13:=x13) (x14:=x14) hk
 by_cases h:j=200
 · rw[if_pos h] at e2
   simp only[if_pos h] at e4
   obtain⟨z,hz⟩:=Av (ds:=sw cs) (by rw[jO];omega) (vX G.sm)
   exact⟨_,_,_,_,_,_,fF e1 (fF e2 (fF (FO hz) (fF (e4 z) (Ox (N5 _) (FK (.inl rfl) G.sm gl) (FK (.inr rfl) G.sm gl) hz)))),hs2⟩
 · rw[if_neg h] at e2
   simp only[if_neg h] at e4
   have tl:((sw cs).take j).length=j:=by rw[List.length_take,jO];omega
   have dl:(((sw cs).drop j).take (199 - j)).length<=199 - j:=List.length_take_le ..
   have hp:∀ d∈(sw cs).take j,eo [d]=some (.val (.bl true)):=fun d hd=>FJ G.sm d (List.mem_of_mem_take hd)
   have nd:=N7 d hd
   obtain⟨z,hz⟩:=Av (ds:=(sw cs).take j++d::((sw cs).drop j).take (199 - j)) (by rw[List.length_append,List.length_cons];omega) (fun x hx=>by
    rcases List.mem_append.1 hx with hx | hx
    · exact vX G.sm x (List.mem_of_mem_take hx)
    · rcases List.mem_cons.mp hx with rfl | hx
      · exact N6 _ hd
      · exact vX G.sm x (List.mem_of_mem_drop (List.mem_of_mem_take hx)))
   have t1:=sU (Aq (x:=.lst ((sw cs).take j++d::((sw cs).drop j).take (199 - j))) (.inl rfl) (by omega) hp nd) rfl (.inr ⟨_,rfl⟩)
   have t2:=sU (Aq (x:=.tup ((sw cs).take j++d::((sw cs).drop j).take (199 - j))) (.inr rfl) (by omega) hp nd) rfl (.inr ⟨_,rfl⟩)
   rw[tl] at t1 t2
   exact⟨_,_,_,_,_,_,fF e1 (fF e2 (fF (FO hz) (fF (e4 z) (Ov t1 t2 hz)))),hs2⟩
theorem Oz(G:Gc cs)(hs:Sd s):∃ (c' s':Int) (kd:Kd) (y9 y10 y11 y12 y13:Sl),s12 (tE ns k c s cs.length w (sw cs) (sw (aH cs)) .own [x9,x10,x11,x12,x13,x14]) = .ok .nx (tE ns k c' s' cs.length w (sw cs) (sw (aH cs)) kd [y9,y10,y11,y12,y13,x14])/\Sd s':=by
 have sm:small 6=true:=zb (by decide)
 obtain⟨Γ',hl,c',s',kd,y9,y10,y11,y12,y13,hs',_,rfl⟩:=Eg (m:=gN 9) (s:=Az)
  (fun _ Γ=>∃ (c' s':Int) (kd:Kd) (y9 y10 y11 y12 y13:Sl),Sd s'/\(kd = .own\/kd = .ak)/\Γ=tE ns k c' s' cs.length w (sw cs) (sw (aH cs)) kd [y9,y10,y11,y12,y13,x14])
  (ds:=hW 0 6) (Γ:=tE ns k c s cs.length w (sw cs) (sw (aH cs)) .own [x9,x10,x11,x12,x13,x14]) ⟨c,s,.own,x9,x10,x11,x12,x13,hs,.inl rfl,rfl⟩ (by
   rintro i d Γ hd ⟨c,s,kd,y9,y10,y11,y12,y13,hs,hk,rfl⟩
   obtain⟨rfl,_⟩:=Fx hd
   rw[Int.zero_add]
   obtain⟨c',s',AE,AF,AG,AH,e,hs'⟩:=Oy (ns:=ns) (k:=k) (c:=c) (w:=w) (x9:=some (.ak,.int i)) (x10:=y10) (x11:=y11) (x12:=y12) (x13:=y13) (x14:=x14) G hs hk
   exact⟨_,_,rfl,.inl e,c',s',.ak,some (.ak,.int i),AE,AF,AG,AH,hs',.inr rfl,rfl⟩)
 refine⟨c',s',kd,y9,y10,y11,y12,y13,?_,hs'⟩
 generalize (cs.length:Int)=m at *
 generalize sw (aH cs)=S at *
 generalize sw cs=T at *
 simp[s12,sm,hl]
theorem OA{d:D}(h:d = .str "" \/ d = .int 3\/d = .bl true\/d = .gk [] []){Γ:En}(tS:Γ[14]? = some (some (.ak,d))):sW Γ = .ok .nx Γ:=by
 have ln:=line
 have l2:2<=sizeLine:=by omega
 have t:=sU (NU h) (by rcases h with rfl | rfl | rfl | rfl<;>rfl) (.inl rfl)
 have q:=nJ (vY (n:=.ao) (.inl rfl))
 have e:qj d (.tup [.int 0,.int 0])=some (.val (.bl false)):=by
  rcases h with rfl | rfl | rfl | rfl
  · show(if eW (.str "") && eW (.tup [.int 0,.int 0]) then some (RV.val (.bl (eqB (.str "") (.tup [.int 0,.int 0])))) else none)=_
    rw[show eW (.str "")=true by decide +kernel,show eW (.tup [.int 0,.int 0])=true by decide +kernel]
    rfl
  all_goals rfl
 simp[sW,AA,tS,t,l2,e,q,qk]
theorem OB{Γ:En}(tS:Γ[14]? = some (some (.ak,.tup [.int 0,.int 0]))):sW Γ = .ok .nx Γ:=by
 have ln:=line
 have l2:2<=sizeLine:=by omega
 have np:eo [.int 0]=some (.val (.bl false)):=by simp[eo,vL,dH,b6,gam,hV]
 have t:dC [.tup [.int 0,.int 0]]=some (.new (.lst [.str "refused",.int 0])):=sU (Aq (ds:=[]) (r:=[.int 0]) (.inr rfl) (by decide) (fun d hd=>by cases hd) np) rfl (.inr ⟨_,rfl⟩)
 have q:=nJ (vY (n:=.int 0) (.inr ⟨_,rfl⟩))
 have e:qj (.tup [.int 0,.int 0]) (.tup [.int 0,.int 0])=some (.val (.bl true)):=by
  show(if eW (.tup [.int 0,.int 0]) && eW (.tup [.int 0,.int 0]) then some (RV.val (.bl (eqB (.tup [.int 0,.int 0]) (.tup [.int 0,.int 0])))) else none)=_
  rw[show eW (.tup [.int 0,.int 0])=true by decide +kernel]
  rfl
 simp[sW,AA,tS,t,l2,e,q,ql]
theorem OC{S T:List D}{m:Int}:m4 (tE ns k c s m w T S kd [x9,x10,x11,x12,x13,x14]) = .ok .nx (tE ns k c s m w T S kd [x9,x10,x11,x12,x13,some (.ak,.tup [.int 0,.int 0])]):=by
 have ln:=line
 have l2:2<=sizeLine:=by omega
 have l5:5<=sizeLine:=by omega
 have g:=fun d h=>OA (d:=d) h (Γ:=tE ns k c s m w T S kd [x9,x10,x11,x12,x13,some (.ak,d)]) rfl
 have g1:=g (.str "") (.inl rfl)
 have g2:=g (.int 3) (.inr (.inl rfl))
 have g3:=g (.bl true) (.inr (.inr (.inl rfl)))
 have g4:=g (.gk [] []) (.inr (.inr (.inr rfl)))
 have g5:=OB (Γ:=tE ns k c s m w T S kd [x9,x10,x11,x12,x13,some (.ak,.tup [.int 0,.int 0])]) rfl
 simp[m4,l2,l5,u5,g1,g2,g3,g4,g5]
end
theorem sb(a b c:M Fl):aI a (aI b c)=aI (aI a b) c:=funext fun Γ=>by
 simp only[DV]
 cases a Γ with
 |ok fl Γ'=>cases fl<;>rfl
 |ex x Γ'=>rfl
 |st=>rfl
theorem OD{ns:List Int}{k:Nat}(hk:k<100){x2 x3 x4 x5 x6 x7 x8 x9 x10 x11 x12 x13 x14:Sl}:∃ y2 y3 y4 y5 y6 y7 y8 y9 y10 y11 y12 y13 y14,v7 [some (.ak,.bL ns),some (.ak,.int k),x2,x3,x4,x5,x6,x7,x8,x9,x10,x11,x12,x13,x14] = .ok .nx [some (.ak,.bL ns),some (.ak,.int k),y2,y3,y4,y5,y6,y7,y8,y9,y10,y11,y12,y13,y14]:=by
 obtain⟨c,s,w,cs,e1,hs,G⟩:=Of (ns:=ns) (k:=k) hk (x2:=x2) (x3:=x3) (x4:=x4) (x5:=x5) (x6:=x6) (x7:=x7) (x8:=x8) (x9:=x9) (x10:=x10) (x11:=x11) (x12:=x12) (x13:=x13) (x14:=x14)
 have e7:=Oh (ns:=ns) (k:=k) (c:=c) (s:=s) (w:=w) (x8:=x8) (x9:=x9) (x10:=x10) (x11:=x11) (x12:=x12) (x13:=x13) (x14:=x14) G
 have e8:=Oi (ns:=ns) (k:=k) (c:=c) (s:=s) (w:=w) (cs:=cs) (hd:=sw cs) (x8:=some (.ak,pO (sw (aH cs)))) (x9:=x9) (x10:=x10) (x11:=x11) (x12:=x12) (x13:=x13) (x14:=x14)
 have e9:=Oj (ns:=ns) (k:=k) (c:=c) (s:=s) (w:=w) (x9:=x9) (x10:=x10) (x11:=x11) (x12:=x12) (x13:=x13) (x14:=x14) G
 have e10:=Ol (ns:=ns) (k:=k) (c:=c) (s:=s) (w:=w) (x9:=x9) (x10:=x10) (x11:=x11) (x12:=x12) (x13:=x13) (x14:=x14) G
 have OE:=Om (ns:=ns) (k:=k) (c:=c) (s:=s) (w:=w) (x8:=some (.ak,pO (sw (aH cs)))) (x9:=x9) (x10:=x10) (x11:=x11) (x12:=x12) (x13:=x13) (x14:=x14) G
 obtain⟨c1,s1',kd,y9,y10,y11,y12,y13,OF,_⟩:=Oz (ns:=ns) (k:=k) (c:=c) (w:=w) (x9:=x9) (x10:=x10) (x11:=x11) (x12:=x12) (x13:=x13) (x14:=x14) G hs
 have OG:=OC (ns:=ns) (k:=k) (c:=c1) (s:=s1') (w:=w) (kd:=kd) (S:=sw (aH cs)) (T:=sw cs) (m:=cs.length) (x9:=y9) (x10:=y10) (x11:=y11) (x12:=y12) (x13:=y13) (x14:=x14)
 have as:v7=aI (aI s1 (aI s2 (aI s3 (aI s4 (aI s5 s6))))) (aI s7 (aI s8 (aI s9 (aI vZ (aI v3 (aI s12 m4)))))):=by
  show aI s1 (aI s2 (aI s3 (aI s4 (aI s5 (aI s6 _)))))=_
  rw[sb s5 s6,sb s4,sb s3,sb s2,sb s1]
 rw[as]
 exact⟨_,_,_,_,_,_,_,_,_,_,_,_,_,fF e1 (fF e7 (fF e8 (fF e9 (fF e10 (fF OE (fF OF OG))))))⟩
end cu
namespace Hd
open PySem PySem.W PyProof.Rows
noncomputable def sZ(tb:String->Option Builtin)(p:Program)(w:World)(m:Nat)(an:Option Value):Nat->SharedT->Thread->Option SharedT
 | 0,_,_=>none
 |k+1,x,y=>match through y with
   |true=>some x
   |false=>match stepOk m an y with
     |false=>none
     |true=>match stepT (denote tb) p w x y with
       |some (x',y')=>sZ tb p w m an k x' y'
       |none=>none
theorem FP{tb:String->Option Builtin}{p:Program}{w:World}{m:Nat}{an:Option Value}:∀ {k:Nat} {x r:SharedT} {y:Thread},sZ tb p w m an k x y=some r->topRun tb p w m an k x.abs y=some r.abs
 | 0,_,_,_,h=>by cases h
 |k+1,x,r,y,h=>by
   unfold sZ at h
   unfold topRun
   cases c1:through y with
   |true=>rw[c1] at h;cases h;rfl
   |false =>
     rw[c1] at h
     cases c2:stepOk m an y with
     |false=>rw[c2] at h;cases h
     |true =>
       rw[c2] at h
       cases c3:stepT (denote tb) p w x y with
       |none=>rw[c3] at h;cases h
       |some z=>obtain⟨x2,y2⟩:=z;rw[c3] at h;rw[stepT_spec c3];exact FP h
noncomputable def s_(tb:String->Option Builtin)(p:Program)(w:World)(m:Nat)(an:Option Value):Nat->SharedT->Thread->Option SharedT
 | 0,_,_=>none
 |k+1,x,y=>match through y with
   |true=>some x
   |false=>match Fast.tw6613529449190102663 m an y with
     |false=>none
     |true=>match Fast.tw10156331382660048174 (Fast.tw11892475500146522536 tb) p w x y with
       |some (x',y')=>s_ tb p w m an k x' y'
       |none=>none
theorem FQ{tb:String->Option Builtin}{p:Program}{w:World}{m:Nat}{an:Option Value}:∀ (k:Nat) (x:SharedT) (y:Thread),sZ tb p w m an k x y=s_ tb p w m an k x y
 | 0,_,_=>rfl
 |k+1,x,y=>by
   unfold sZ s_
   rw[<- Fast.te6613529449190102663, <- Fast.te10156331382660048174, <- Fast.te11892475500146522536]
   split
   · rfl
   · split
     · rfl
     · split
       · exact FQ k _ _
       · rfl
noncomputable def AI(P:Params)(os:OsState):SharedT :=
 ⟨(.node (boot_o_0 P) (.node (boot_o_1 P) (.node (boot_o_3 P) (.node (boot_o_7 P) .nil .nil) .nil) (.node (boot_o_5 P) (.node (boot_o_9 P) .nil .nil) .nil)) (.node (boot_o_2 P) (.node (boot_o_4 P) (.node (boot_o_8 P) .nil .nil) .nil) (.node (boot_o_6 P) (.node (boot_o_10 P) .nil .nil) .nil))),11,(boot_heap P).life,Array.mk [],boot_drawn,boot_toks,os⟩
theorem OH(P:Params)(os:OsState):(AI P os).abs=⟨boot_heap P,Array.mk [],boot_drawn,boot_toks,os⟩:=by kernel_rfl
theorem OI{p r:Program}{keep:List Nat}{R:WRecords}{K:Params->Frag}{as:List Addr}{N:Nat}(ep:p=r)(e0:opening p=plainProg p.main.scope.names)(hN:Nat.ble 600 N=true)(f:∀ s,fenceModules? p s=some s)
 (run:∀ (w:World) (os:OsState),(s_ Fast.tw14364793385576792824 r w 11 (some (.ref 6)) N (AI w.params os) (topStub r)).map (fun s=>((staticsOk (importedModules r.main.body) (boot_heap w.params) s.abs.heap && namesBound r s.abs.heap && gensDone s.abs && laidKept (boot_heap w.params) s.abs.heap),
  Fast.tw4187177175401517315 (view r keep) [] (importedModules r.main.body) (fun s=>xlAt (view r keep) [] s && recOk R s) true s.abs,as.map s.abs.heap.get?))=some (true,openGood (view r keep) [],(K w.params).map fun x=>some x.2)) :
 LeftO p (view p keep) [] (fun s=>xlAt (view p keep) [] s && recOk R s) (fun s=>as.map s.heap.get?) (fun w=>(K w.params).map fun x=>some x.2) N:=by
 subst ep
 intro w
 obtain⟨⟨h,gs,d,k,os⟩,e,e'⟩:=Option.map_eq_some_iff.mp (boot_open e0 hN f w)
 obtain⟨rfl,rfl,rfl,rfl⟩:h=boot_heap w.params/\gs=Array.mk []/\d=boot_drawn/\k=boot_toks:=by simpa using e'
 obtain⟨s,h1,h2⟩:=Option.map_eq_some_iff.mp (run w os)
 rw[<- Fast.te14364793385576792824, <- FQ] at h1
 have h1:=FP h1
 rw[OH] at h1
 rw[<- Fast.te4187177175401517315] at h2
 obtain⟨l1,l2,l3⟩:_/\_/\_:=by simpa only [Prod.mk.injEq] using h2
 have z:((boot_heap w.params).isNs mainGlobals && (Array.mk []:Array GenState).size == 0,(boot_heap w.params).objs.size,(boot_heap w.params).nsMap mainGlobals "__annotations__")=(true,11,some (.ref 6)):=by kernel_rfl
 obtain⟨z1,z2,z3⟩:_/\_/\_:=by simpa only [Prod.mk.injEq] using z
 have t:topFrom treeTable p w N ⟨boot_heap w.params,Array.mk [],boot_drawn,boot_toks,os⟩=some s.abs:=by
  unfold topFrom
  dsimp only
  rw[z1,z2,z3,h1]
  show(match staticsOk (importedModules p.main.body) (boot_heap w.params) s.abs.heap && namesBound p s.abs.heap && gensDone s.abs && laidKept (boot_heap w.params) s.abs.heap with | true=>_ | false=>_)=_
  rw[l1]
 unfold openEnds
 rw[e]
 show((topFrom treeTable p w N _).map _)=_
 rw[t]
 exact congrArg some (Prod.ext l2 (by exact l3))
noncomputable abbrev vS(s:Str)(t:Tok):Value:=.str s t
noncomputable abbrev vI(i:Int)(t:Tok):Value:=.int i t
noncomputable abbrev de(s:Str)(t:Tok)(v:Value):Str×Tok×Value:=(s,t,v)
noncomputable abbrev dO(P:Params)(l:List (Str×Tok×Value))(n:Nat):Obj:={ cls:=.type "dict",data:=.dict (l.map fun x=>⟨PyData.keyHash P x.1,.str x.1 x.2.1,x.2.2⟩).toArray n }
noncomputable abbrev dN(P:Params)(l:List (Str×Tok×Value))(n:Nat):Obj:={ cls:=.none,data:=.dict (l.map fun x=>⟨PyData.keyHash P x.1,.str x.1 x.2.1,x.2.2⟩).toArray n }
noncomputable abbrev fO(x q:Str)(st:Stmt)(dV pm:Value)(cd:Addr):Obj:={ cls:=.type "function",data:=.func (fnOf x q (L2.aW st) (L2.ag st) (L2.aa st) dV .none .none pm none (.ref cd) .none) }
noncomputable abbrev kO(x q:Str)(t:Tok)(a b:Int)(l:List Value):Obj:={ cls:=.type "code",data:=.fields (.str x t :: .str q (t+1) :: .str "/claim/cut.py" (t+2) :: .int a 0 :: .int b 0::l).toArray }
noncomputable abbrev cO(x:Str)(bs mr:List Value)(ns:Addr)(sb:List Value)(sl:Array (Option Value)):Obj:={ cls:=.type "type",data:=.cls { name:=x,bases:=bs,mro:=mr,ns:=ns,qualname:=x,subclasses:=sb },slots:=sl }
end Hd
namespace cu
open PySem L2 Ex Dv
variable[KC]
noncomputable def top(i:Nat):Stmt:=PySem.Challenge.pw_thirdpoint_k01_points_made.main.body.getD i (.Pass ⟨0,0,0,0⟩)
structure Nm(mg:Str->Option Value):Prop where
 kr:mg "bool" = none
 dD:mg "enumerate" = none
 ku:mg "int" = none
 af:mg "isinstance" = none
 i6:mg "len" = none
 iE:mg "list" = none
 td:mg "max" = none
 tj:mg "min" = none
 fX:mg "range" = none
 fZ:mg "repr" = none
 tq:mg "set" = none
 gG:mg "sorted" = none
 dY:mg "tuple" = none
 iF:∃ t,mg "LAST_KEY" = some (.int 30 t)
 fj:∃ t,mg "MOST_POINTS" = some (.int 200 t)
 kA:mg "NoAsks" = some (.ref (KC.cls .NoAsks))
 kB:mg "NoBack" = some (.ref (KC.cls .NoBack))
 mJ:mg "NoBox" = some (.ref (KC.cls .NoBox))
 mK:mg "NoKey" = some (.ref (KC.cls .NoKey))
 kC:mg "NoName" = some (.ref (KC.cls .NoName))
 fG:mg "NoPoint" = some (.ref (KC.cls .NoPoint))
 cI:mg "NoPoints" = some (.ref (KC.cls .NoPoints))
 mL:mg "NoRow" = some (.ref (KC.cls .NoRow))
 mM:mg "NoRun" = some (.ref (KC.cls .NoRun))
 kD:mg "NoText" = some (.ref (KC.cls .NoText))
 mN:mg "NoTop" = some (.ref (KC.cls .NoTop))
 kE:mg "NoTree" = some (.ref (KC.cls .NoTree))
 kF:mg "NoTurn" = some (.ref (KC.cls .NoTurn))
 gH:mg "NotServed" = some (.ref (KC.cls .NotServed))
 cR:mg "PointError" = some (.ref (KC.cls .PointError))
 kG:mg "Points" = some (.ref (KC.cls .Points))
 fH:mg "TooMany" = some (.ref (KC.cls .TooMany))
 et:∀ (P:Program) (w:World) (base:Heap),Ek P w mg base .NoPoints ["self","number"] (ze (KC.cls .NoPoints) "number")
 kH:KitX bX .NoAsks
 kI:KitX bX .NoBack
 mO:KitX bX .NoBox
 mP:KitX bX .NoKey
 kJ:KitX bX .NoName
 jx:KitX bX .NoPoint
 iG:KitX bX .NoPoints
 mQ:KitX bX .NoRow
 mR:KitX bX .NoRun
 kK:KitX bX .NoText
 mS:KitX bX .NoTop
 kL:KitX bX .NoTree
 kM:KitX bX .NoTurn
 gI:KitX bX .NotServed
 f_:KitX bX .PointError
 jy:KitX bX .TooMany
 bo:∀ C,Ac C=true->aQ KC.K (KC.cls C) [.ref (KC.cls .PointError),.ref (KC.cls .NoPoint),.ref (KC.cls .TooMany)]=some true
 gJ:∀ C,bX.contains C=true->XC KC.K (KC.cls C)/\aU KC.K (KC.cls C) "number"
 mT:zU KC.K
 aX:g9 KC.K (KC.cls .Points)
 i7:aU KC.K (KC.cls .Points) "held"
noncomputable abbrev oX:Stmt:=top 24
noncomputable abbrev tw:Stmt:=top 21
noncomputable abbrev tx:Stmt:=top 22
noncomputable abbrev tD:Stmt:=top 23
noncomputable abbrev mU:Stmt:=(L2.inClass (top 25) 0)
noncomputable abbrev qr:Stmt:=(L2.inClass (top 25) 1)
noncomputable abbrev tF:Stmt:=top 29
noncomputable abbrev tG:Stmt:=top 34
noncomputable abbrev tH:Stmt:=top 30
noncomputable abbrev tI:Stmt:=top 27
noncomputable abbrev tJ:Stmt:=top 28
noncomputable abbrev oY:Stmt:=top 31
noncomputable abbrev tK:Stmt:=top 32
noncomputable abbrev tL:Stmt:=top 33
noncomputable abbrev mV:Stmt:=top 35
noncomputable def OJ:Stmt->Expr
 | .Assign _ e _=>e
 | .Return (some e) _=>e
 | _=>.Constant .none 0 ⟨0,0,0,0⟩
noncomputable abbrev FR:Stmt:=(ag mU).getD 0 (.Pass ⟨0,0,0,0⟩)
noncomputable abbrev FT:Stmt:=(ag mU).getD 1 (.Pass ⟨0,0,0,0⟩)
noncomputable abbrev FU:Expr:=OJ ((ag mU).getD 2 (.Pass ⟨0,0,0,0⟩))
section
variable{P:Program}{w:World}{mg:Str->Option Value}{base:Heap}{fa:Addr}{cdv:Value}{A:Around}{outer:List Env}{s:Shared}{H:Hp}{E:XK}{k:Nat}{ios:List Addr}
noncomputable abbrev iH(k:Nat)(A:Around)(s:Shared)(fa:Addr)(cdv:Value)(q:Str)(st:Stmt):Prop:=ax k (A.deeper (PyProof.Rows.envOfC q (aa st) s.heap.objs.size fa cdv))
noncomputable abbrev jz(P:Program)(w:World)(mg:Str->Option Value)(base:Heap)(fa:Addr)(cdv:Value)(A:Around)(outer:List Env)(s:Shared)(H:Hp)(E:XK)(N:List Str)(q:Str)(st:Stmt):Cx:=(gj eK P w KC.K mg base N q (aa st) fa cdv A outer s H E).jT
noncomputable abbrev v8(P:Program)(w:World)(mg:Str->Option Value)(base:Heap)(fa:Addr)(cdv:Value)(A:Around)(outer:List Env)(s:Shared)(H:Hp)(E:XK)(N:List Str)(q:Str)(st:Stmt):Cx:=gj (fP P w) P w KC.K mg base N q (aa st) fa cdv A outer s H E
noncomputable abbrev FV(P:Program)(w:World)(mg:Str->Option Value)(base:Heap)(bH:Nat)(cQ:List D->Option Rx):Prop:=qi P w mg base "Points" bH ["points"] [.ao] .Points "held" cQ
noncomputable abbrev FW(P:Program)(w:World)(mg:Str->Option Value)(base:Heap)(aJ:Nat)(cZ:List D->Option Rt):Prop:=vz P w mg base .Points "points" aJ ["self"] (cM cZ)
noncomputable abbrev OK(P:Program)(w:World)(mg:Str->Option Value)(base:Heap)(a_:Nat)(jN:List D->Option Rt):Prop:=dc P w mg base "_law_cell_at" a_ ["_law_script","_law_k"] (cM jN)
noncomputable abbrev OL(P:Program)(w:World)(mg:Str->Option Value)(base:Heap)(bB:Nat)(lG:List D->Option Rt):Prop:=dc P w mg base "_law_kind" bB ["_law_error"] (cM lG)
noncomputable abbrev OM(P:Program)(w:World)(mg:Str->Option Value)(base:Heap)(bR:Nat)(jv:GI):Prop:=dc P w mg base "_law_odd" bR ["_law_pool_here"] (kj jv)
noncomputable abbrev ON(P:Program)(w:World)(mg:Str->Option Value)(base:Heap)(br:Nat)(h_:GI):Prop:=dc P w mg base "_law_point" br ["_law_pool_here","_law_keys","_law_moments"] (kj h_)
noncomputable abbrev OO(P:Program)(w:World)(mg:Str->Option Value)(base:Heap)(bC:Nat)(i5:List D->Option Rt):Prop:=dc P w mg base "_law_pool" bC ["_law_script","_law_k"] (cM i5)
noncomputable abbrev OP(P:Program)(w:World)(mg:Str->Option Value)(base:Heap)(bg:Nat)(jw:List D->Option Rt):Prop:=dc P w mg base "_law_sorted" bg ["_law_spots"] (cM jw)
noncomputable abbrev AJ(P:Program)(w:World)(mg:Str->Option Value)(base:Heap)(aN:Nat)(cP:GI):Prop:=dc P w mg base "_law_take" aN ["_law_pool_here","_law_many"] (kj cP)
noncomputable abbrev OQ(P:Program)(w:World)(mg:Str->Option Value)(base:Heap)(bD:Nat)(dC:List D->Option Rt):Prop:=dc P w mg base "_law_told" bD ["_law_thing"] (cM dC)
noncomputable abbrev OR(P:Program)(w:World)(mg:Str->Option Value)(base:Heap)(bS:Nat)(gF:List D->Option Rt):Prop:=dc P w mg base "in_order" bS ["points"] (cM gF)
noncomputable abbrev FX(P:Program)(w:World)(mg:Str->Option Value)(base:Heap)(bI:Nat)(fD:List D->Option Rt):Prop:=dc P w mg base "is_key" bI ["thing"] (cM fD)
noncomputable abbrev OS(P:Program)(w:World)(mg:Str->Option Value)(base:Heap)(bT:Nat)(eo:List D->Option Rt):Prop:=dc P w mg base "is_point" bT ["thing"] (cM eo)
noncomputable abbrev OT(P:Program)(w:World)(mg:Str->Option Value)(base:Heap)(aY:Nat)(dB:List D->Option Rx):Prop:=va P w mg base "look_at_points" aY ["thing"] (oI dB)
variable{cQ:List D->Option Rx}{bH:Nat}{cZ:List D->Option Rt}{aJ:Nat}{jN:List D->Option Rt}{a_:Nat}{lG:List D->Option Rt}{bB:Nat}{jv:GI}{bR:Nat}{h_:GI}{br:Nat}{i5:List D->Option Rt}{bC:Nat}{jw:List D->Option Rt}{bg:Nat}{cP:GI}{aN:Nat}{dC:List D->Option Rt}{bD:Nat}{gF:List D->Option Rt}{bS:Nat}{fD:List D->Option Rt}{bI:Nat}{eo:List D->Option Rt}{bT:Nat}{dB:List D->Option Rx}{aY:Nat}
theorem OU:aq ["points"] ["points"] (aa oX):=⟨rfl,rfl,rfl,by decide +kernel,rfl,by decide +kernel,by decide +kernel⟩
theorem OV(M:Nm mg)  (hr:iH k A s fa cdv "in_order" oX) :
 cD (jz P w mg base fa cdv A outer s H E ["points"] "in_order" oX) EN ios (ag oX) (Ad ) :=
 (cC (ef (uQ rfl (pV (Nc:=["moment","key"]) (own:=2) (fr:=[]) (sc:=aa oX) (N:=["points"]) rfl rfl (by decide +kernel)) (by decide) (rJ (My M.gG rfl hr rfl (pV (Nc:=["key","moment"]) (own:=2) (fr:=[]) (sc:=aa oX) (N:=["points"]) rfl rfl (by decide +kernel)) (by decide) (Nq (aw (pv 0))) (uq (nq (by decide) (nq (by decide) uo))) (fun _ _ _ _ _ _=>(qF rfl (kW (ig (i:=0) (show(["key","moment"]:List Str).Nodup by decide +kernel) rfl (bG rfl)) (kW (ig (i:=1) (show(["key","moment"]:List Str).Nodup by decide +kernel) rfl (bG rfl)) qE)))) (rG (lq (iA (by decide)) (lq (iA (by decide)) rF))) (uO (nF (lC (by decide)) (nF (lC (by decide)) uN))) (fun _ _ _ _ _ _=>pU) (fun _ _ _ _ _ _=>(eM (Zj (aw (pv 1)) (Zj (aw (pv 0)) aC)))))) (uq (nq (by decide) (nq (by decide) uo))) (fun _ _ _ _ _ _=>(qF rfl (kW (ig (i:=0) (show(["moment","key"]:List Str).Nodup by decide +kernel) rfl (bG rfl)) (kW (ig (i:=1) (show(["moment","key"]:List Str).Nodup by decide +kernel) rfl (bG rfl)) qE)))) (rG (lq (iA (by decide)) (lq (iA (by decide)) rF))) (uO (nF (lC (by decide)) (nF (lC (by decide)) uN))) (fun _ _ _ _ _ _=>pU) (fun _ _ _ _ _ _=>(eM (Zj (aw (pv 1)) (Zj (aw (pv 0)) aC)))))))
theorem OW:aq ["thing"] ["thing"] (aa tw):=⟨rfl,rfl,rfl,by decide +kernel,rfl,by decide +kernel,by decide +kernel⟩
theorem OX(M:Nm mg)  (hr:iH k A s fa cdv "is_key" tw) :
 cD (jz P w mg base fa cdv A outer s H E ["thing"] "is_key" tw) EN ios (ag tw) (Ae ) :=
 (cC (ef (ot (uF (T:=.int) (fun _ ha=>cz fu rfl M.af (by decide +kernel) (bp ha (bp (o8 (v:=.ty "int") (u:=.type "int") rfl M.ku (by decide +kernel) rfl) dv))) (aw (pv 0))) (ot (Kx (uF (T:=.bool) (fun _ ha=>cz fu rfl M.af (by decide +kernel) (bp ha (bp (o8 (v:=.ty "bool") (u:=.type "bool") rfl M.kr (by decide +kernel) rfl) dv))) (aw (pv 0)))) (xM (Kt BP BP Dd Dd aG (aw (pv 0)) (DH M.iF rfl)))))))
theorem OY:aq ["thing"] ["thing"] (aa tx):=⟨rfl,rfl,rfl,by decide +kernel,rfl,by decide +kernel,by decide +kernel⟩
theorem OZ(M:Nm mg)(cS:FX P w mg base bI fD)(cT:bI<=k)(hr:iH k A s fa cdv "is_point" tx) :
 cD (jz P w mg base fa cdv A outer s H E ["thing"] "is_point" tx) EN ios (ag tx) (vL fD) :=
 (cC (ef (ot (uF (T:=.tuple) (fun _ ha=>cz fu rfl M.af (by decide +kernel) (bp ha (bp (o8 (v:=.ty "tuple") (u:=.type "tuple") rfl M.dY (by decide +kernel) rfl) dv))) (aw (pv 0))) (ot (oq (pI hr) pJ (g_ (fun _ ha=>cz uD rfl M.i6 PySem.boot_len ha) uE (Zj (aw (pv 0)) aC)) aG (dR _)) (ot (jq cS (hr.mono cT) rfl (Zj (hU (aw (pv 0)) aG) aC)) (xM (jq cS (hr.mono cT) rfl (Zj (hU (aw (pv 0)) aG) aC))))))))
theorem ba:aq ["thing","number","point"] ["thing"] (aa tD):=⟨rfl,rfl,rfl,by decide +kernel,rfl,by decide +kernel,by decide +kernel⟩
theorem O0(M:Nm mg)(iI:OS P w mg base bT eo)(iJ:bT<=k)(hr:iH k A s fa cdv "look_at_points" tD)(hk2:2<=k) :
 cD (v8 P w mg base fa cdv A outer s H E ["thing","number","point"] "look_at_points" tD) (fun _=>E) ios (ag tD) (Af eo) :=
 (bM (jk (q8 (pG (C9 (xK (MO (fun _ ha=>cz MM rfl M.af (by decide +kernel) (bp ha (bp (B5 (bp (o8 (v:=.ty "list") (u:=.type "list") rfl M.iE (by decide +kernel) rfl) (bp (o8 (v:=.ty "tuple") (u:=.type "tuple") rfl M.dY (by decide +kernel) rfl) dv))) dv))) (aw (pv 0))))) (qZ (gv BQ De (g_ (fun _ ha=>cz uD rfl M.i6 PySem.boot_len ha) uE (Zj (aw (pv 0)) aC)) (DH M.fj rfl) (dR _)))))
  (cC (Em xn (M.et _ _ _) hr (by omega) M.cI (Zj jX aC)))
  jj)
  (cC (uJ (n:=3) (Nu (fun _ ha=>Kn rfl M.dD ha) (fun _ ha=>Nl rfl M.dD ha) (Zj (aw (pv 0)) aC)) (rG (lq (iA (by decide)) (lq (iA (by decide)) rF)))
  (cC (jk (C9 (xK (jq iI (hr.mono iJ) rfl (Zj (aw (pv 2)) aC))))
  (cC (Em xn (M.et _ _ _) hr (by omega) M.cI (Zj (aw (pv 1)) aC)))
  jj)) (fun _ _ h1 h2=>t8 PassesOwn.leaving rfl h1 (qF rfl (kW (ig (i:=1) ba.nd rfl (bG rfl)) (kW (ig (i:=2) ba.nd rfl (bG rfl)) qE))) h2))))
theorem fJ:aq ["self","points"] ["self","points"] (aa mU):=⟨rfl,rfl,rfl,by decide +kernel,rfl,by decide +kernel,by decide +kernel⟩
theorem O3(M:Nm mg)(iK:OR P w mg base bS gF)(iL:bS<=k)(dg:OT P w mg base aY dB)(dh:aY<=k)(hr:iH k A s fa cdv "Points.__init__" mU)(hk2:2<=k) :
 VJ 0 (v8 P w mg base fa cdv A outer s H E ["self","points"] "Points.__init__" mU) (fun _=>E) ios FR (sJ gF dB)/\VJ 0 (v8 P w mg base fa cdv A outer s H E ["self","points"] "Points.__init__" mU) (fun _=>E) ios FT (sL gF dB)/\VE (v8 P w mg base fa cdv A outer s H E ["self","points"] "Points.__init__" mU) (fun _=>E) ios FU (sM gF dB) :=
 ⟨(MF (gv BR Dh (aw (pv 1)) jX (dR _)) (MD (MG (i:=1) (by decide) fJ.nd rfl (bG rfl) (cB aC))) MC),
   (ME (Lz xn dg (hr.mono dh) rfl (Zj (aw (pv 1)) aC))),
   (jq iK (hr.mono iL) rfl (Zj (aw (pv 1)) aC))⟩
theorem O4:aq ["self"] ["self"] (aa qr):=⟨rfl,rfl,rfl,by decide +kernel,rfl,by decide +kernel,by decide +kernel⟩
theorem O5(M:Nm mg)  (hr:iH k A s fa cdv "Points.points" qr) :
 cD (jz P w mg base fa cdv A outer s H E ["self"] "Points.points" qr) EN ios (ag qr) (Ag ) :=
 (cC (ef (g_ (fun _ ha=>nU Co rfl M.iE (by decide +kernel) ha) Dm (Zj (M1 M.aX M.i7 (aw (pv 0))) aC))))
theorem cU:aq ["_law_pool_here","_law_many","_law_found"] ["_law_pool_here","_law_many"] (aa tF):=⟨rfl,rfl,rfl,by decide +kernel,rfl,by decide +kernel,by decide +kernel⟩
theorem O6(M:Nm mg)  (hr:iH k A s fa cdv "_law_take" tF) :
 cD (jz P w mg base fa cdv A outer s H E ["_law_pool_here","_law_many","_law_found"] "_law_take" tF) EN ios (ag tF) (vM ) :=
 (bM (jk (gv BQ De (hU (aw (pv 0)) aG) aG (dR _))
  (bM (dG (i:=2) cU.nd rfl (bG rfl) (b7 ni ny (hU (aw (pv 0)) aG) (aw (pv 1))))
  (bM (Du (n:=0) (b7 BH Df (hU (aw (pv 0)) aG) (aw (pv 1))) (Dw (EE:=EN) DG) (fun _ h=>BB h (BA (pv 0) (VE.pe (EE:=EN) aG) set_list)))
  (cC (ef (aw (pv 2))))))
  jj)
  (bM (Du (n:=0) (b7 ni ny (b7 iY iZ (b7 nR oy (hU (aw (pv 0)) aG) aG) aG) aG) (Dw (EE:=EN) DG) (fun _ h=>BB h (BA (pv 0) (VE.pe (EE:=EN) aG) set_list)))
  (cC (ef (b7 ni ny (b7 BH Df (b7 ni ny (b7 nR oy (hU (aw (pv 0)) aG) (hU (aw (pv 0)) aG)) aG) aG) (aw (pv 1)))))))
theorem dE:aq ["_law_pool_here","_law_some"] ["_law_pool_here"] (aa tG):=⟨rfl,rfl,rfl,by decide +kernel,rfl,by decide +kernel,by decide +kernel⟩
theorem O7(M:Nm mg)(aO:AJ P w mg base aN cP)(aP:aN<=k)(hr:iH k A s fa cdv "_law_odd" tG) :
 cD (jz P w mg base fa cdv A outer s H E ["_law_pool_here","_law_some"] "_law_odd" tG) EN ios (ag tG) (Ah cP) :=
 (bM (dG (i:=1) dE.nd rfl (bG rfl) (cB (Zj jX (Zj (eM (Zj aG aC)) (Zj (eM (Zj aG (Zj aG (Zj aG aC)))) (Zj (cB (Zj aG (Zj aG aC))) (Zj (eM (Zj aG (Zj aG aC))) (Zj (eM (Zj aG (Zj aG aC))) (Zj (eM (Zj (ya aG) (Zj aG aC))) (Zj (eM (Zj aG (Zj (ya aG) aC))) (Zj (eM (Zj iz (Zj aG aC))) (Zj (eM (Zj aG (Zj iz aC))) (Zj (eM (Zj cX (Zj aG aC))) (Zj aG (Zj (eM aC) (Zj (eM (Zj (b7 wV xT aG aG) (Zj aG aC))) aC))))))))))))))))
  (cC (ef (hU (aw (pv 1)) (nG aO (hr.mono aP) rfl (Zj (aw (pv 0)) (Zj aG aC)))))))
theorem O8:aq ["_law_pool_here","_law_keys","_law_moments"] ["_law_pool_here","_law_keys","_law_moments"] (aa tH):=⟨rfl,rfl,rfl,by decide +kernel,rfl,by decide +kernel,by decide +kernel⟩
theorem O9(M:Nm mg)(aO:AJ P w mg base aN cP)(aP:aN<=k)(hr:iH k A s fa cdv "_law_point" tH) :
 cD (jz P w mg base fa cdv A outer s H E ["_law_pool_here","_law_keys","_law_moments"] "_law_point" tH) EN ios (ag tH) (Ai cP) :=
 (cC (ef (eM (Zj (nG aO (hr.mono aP) rfl (Zj (aw (pv 0)) (Zj (aw (pv 1)) aC))) (Zj (nG aO (hr.mono aP) rfl (Zj (aw (pv 0)) (Zj (aw (pv 2)) aC))) aC)))))
theorem O_:aq ["_law_script","_law_k"] ["_law_script","_law_k"] (aa tI):=⟨rfl,rfl,rfl,by decide +kernel,rfl,by decide +kernel,by decide +kernel⟩
theorem Pa(M:Nm mg)  (hr:iH k A s fa cdv "_law_cell_at" tI) :
 cD (jz P w mg base fa cdv A outer s H E ["_law_script","_law_k"] "_law_cell_at" tI) EN ios (ag tI) (vN ) :=
 (bM (jk (gv wW xS (aw (pv 1)) (g_ (fun _ ha=>cz uD rfl M.i6 PySem.boot_len ha) uE (Zj (aw (pv 0)) aC)) (dR _))
  (cC (ef (hU (aw (pv 0)) (aw (pv 1)))))
  jj)
  (cC (ef aG)))
theorem bt:aq ["_law_script","_law_k","_law_cell","_law_seed"] ["_law_script","_law_k"] (aa tJ):=⟨rfl,rfl,rfl,by decide +kernel,rfl,by decide +kernel,by decide +kernel⟩
theorem Pb(M:Nm mg)(eA:OK P w mg base a_ jN)(eB:a_<=k)(hr:iH k A s fa cdv "_law_pool" tJ) :
 cD (jz P w mg base fa cdv A outer s H E ["_law_script","_law_k","_law_cell","_law_seed"] "_law_pool" tJ) EN ios (ag tJ) (vO jN) :=
 (bM (dG (i:=2) bt.nd rfl (bG rfl) (jq eA (hr.mono eB) rfl (Zj (aw (pv 0)) (Zj (aw (pv 1)) aC))))
  (bM (dG (i:=3) bt.nd rfl (bG rfl) (b7 ni ny (b7 nR oy (b7 iY iZ (b7 iY iZ (b7 iY iZ (b7 ni ny (aw (pv 2)) aG) (b7 nR oy (b7 nR oy aG (aw (pv 1))) (aw (pv 1)))) (b7 nR oy aG (aw (pv 1)))) aG) aG) aG))
  (bM (jk (gv wW xS (aw (pv 2)) (b7 wV xT aG aG) (dR _))
  (cC (dG (i:=2) bt.nd rfl (bG rfl) aG))
  jj)
  (cC (ef (cB (Zj (aw (pv 2)) (Zj (b7 ni ny (b7 nR oy (aw (pv 3)) (aw (pv 3))) aG) aC))))))))
theorem Pc:aq ["_law_spots"] ["_law_spots"] (aa oY):=⟨rfl,rfl,rfl,by decide +kernel,rfl,by decide +kernel,by decide +kernel⟩
theorem Pd(M:Nm mg)  (hr:iH k A s fa cdv "_law_sorted" oY) :
 cD (jz P w mg base fa cdv A outer s H E ["_law_spots"] "_law_sorted" oY) EN ios (ag oY) (Aj ) :=
 (cC (ef (uQ rfl (pV (Nc:=["_law_moment","_law_key"]) (own:=2) (fr:=[]) (sc:=aa oY) (N:=["_law_spots"]) rfl rfl (by decide +kernel)) (by decide) (rJ (Na hr M.gG rfl M.tq rfl rfl (Zj (uQ rfl (pV (Nc:=["_law_key","_law_moment"]) (own:=2) (fr:=[]) (sc:=aa oY) (N:=["_law_spots"]) rfl rfl (by decide +kernel)) (by decide) (rJ (aw (pv 0))) (uq (nq (by decide) (nq (by decide) uo))) (fun _ _ _ _ _ _=>(qF rfl (kW (ig (i:=0) (show(["_law_key","_law_moment"]:List Str).Nodup by decide +kernel) rfl (bG rfl)) (kW (ig (i:=1) (show(["_law_key","_law_moment"]:List Str).Nodup by decide +kernel) rfl (bG rfl)) qE)))) (rG (lq (iA (by decide)) (lq (iA (by decide)) rF))) (uO (nF (lC (by decide)) (nF (lC (by decide)) uN))) (fun _ _ _ _ _ _=>pU) (fun _ _ _ _ _ _=>(eM (Zj (aw (pv 1)) (Zj (aw (pv 0)) aC))))) aC))) (uq (nq (by decide) (nq (by decide) uo))) (fun _ _ _ _ _ _=>(qF rfl (kW (ig (i:=0) (show(["_law_moment","_law_key"]:List Str).Nodup by decide +kernel) rfl (bG rfl)) (kW (ig (i:=1) (show(["_law_moment","_law_key"]:List Str).Nodup by decide +kernel) rfl (bG rfl)) qE)))) (rG (lq (iA (by decide)) (lq (iA (by decide)) rF))) (uO (nF (lC (by decide)) (nF (lC (by decide)) uN))) (fun _ _ _ _ _ _=>pU) (fun _ _ _ _ _ _=>(eM (Zj (aw (pv 1)) (Zj (aw (pv 0)) aC)))))))
theorem aR:aq ["_law_error","_law_kinds","_law_words"] ["_law_error"] (aa tK):=⟨rfl,rfl,rfl,by decide +kernel,rfl,by decide +kernel,by decide +kernel⟩
theorem Pe(M:Nm mg)  (hr:iH k A s fa cdv "_law_kind" tK) :
 cD (jz P w mg base fa cdv A outer s H E ["_law_error","_law_kinds","_law_words"] "_law_kind" tK) EN ios (ag tK) (Fp ) :=
 (bM (dG (i:=1) aR.nd rfl (bG rfl) (cB (Zj (hZ M.iG (fun _ ha=>cz fu rfl M.af (by decide +kernel) (bp ha (bp (gh (v:=.ref (KC.cls .NoPoints)) rfl M.cI rfl) dv))) (aw (pv 0))) (Zj (hZ M.mO (fun _ ha=>cz fu rfl M.af (by decide +kernel) (bp ha (bp (gh (v:=.ref (KC.cls .NoBox)) rfl M.mJ rfl) dv))) (aw (pv 0))) (Zj (hZ M.kH (fun _ ha=>cz fu rfl M.af (by decide +kernel) (bp ha (bp (gh (v:=.ref (KC.cls .NoAsks)) rfl M.kA rfl) dv))) (aw (pv 0))) (Zj (hZ M.mR (fun _ ha=>cz fu rfl M.af (by decide +kernel) (bp ha (bp (gh (v:=.ref (KC.cls .NoRun)) rfl M.mM rfl) dv))) (aw (pv 0))) aC))))))
  (bM (dG (i:=1) aR.nd rfl (bG rfl) (b7 iY iZ (aw (pv 1)) (cB (Zj (hZ M.kK (fun _ ha=>cz fu rfl M.af (by decide +kernel) (bp ha (bp (gh (v:=.ref (KC.cls .NoText)) rfl M.kD rfl) dv))) (aw (pv 0))) (Zj (hZ M.kM (fun _ ha=>cz fu rfl M.af (by decide +kernel) (bp ha (bp (gh (v:=.ref (KC.cls .NoTurn)) rfl M.kF rfl) dv))) (aw (pv 0))) (Zj (hZ M.kL (fun _ ha=>cz fu rfl M.af (by decide +kernel) (bp ha (bp (gh (v:=.ref (KC.cls .NoTree)) rfl M.kE rfl) dv))) (aw (pv 0))) aC))))))
  (bM (dG (i:=1) aR.nd rfl (bG rfl) (b7 iY iZ (aw (pv 1)) (cB (Zj (hZ M.mS (fun _ ha=>cz fu rfl M.af (by decide +kernel) (bp ha (bp (gh (v:=.ref (KC.cls .NoTop)) rfl M.mN rfl) dv))) (aw (pv 0))) (Zj (hZ M.gI (fun _ ha=>cz fu rfl M.af (by decide +kernel) (bp ha (bp (gh (v:=.ref (KC.cls .NotServed)) rfl M.gH rfl) dv))) (aw (pv 0))) (Zj (hZ M.mQ (fun _ ha=>cz fu rfl M.af (by decide +kernel) (bp ha (bp (gh (v:=.ref (KC.cls .NoRow)) rfl M.mL rfl) dv))) (aw (pv 0))) aC))))))
  (bM (dG (i:=1) aR.nd rfl (bG rfl) (b7 iY iZ (aw (pv 1)) (cB (Zj (hZ M.jx (fun _ ha=>cz fu rfl M.af (by decide +kernel) (bp ha (bp (gh (v:=.ref (KC.cls .NoPoint)) rfl M.fG rfl) dv))) (aw (pv 0))) (Zj (hZ M.kJ (fun _ ha=>cz fu rfl M.af (by decide +kernel) (bp ha (bp (gh (v:=.ref (KC.cls .NoName)) rfl M.kC rfl) dv))) (aw (pv 0))) (Zj (hZ M.mP (fun _ ha=>cz fu rfl M.af (by decide +kernel) (bp ha (bp (gh (v:=.ref (KC.cls .NoKey)) rfl M.mK rfl) dv))) (aw (pv 0))) aC))))))
  (bM (dG (i:=1) aR.nd rfl (bG rfl) (b7 iY iZ (aw (pv 1)) (cB (Zj (hZ M.kI (fun _ ha=>cz fu rfl M.af (by decide +kernel) (bp ha (bp (gh (v:=.ref (KC.cls .NoBack)) rfl M.kB rfl) dv))) (aw (pv 0))) (Zj (hZ M.jy (fun _ ha=>cz fu rfl M.af (by decide +kernel) (bp ha (bp (gh (v:=.ref (KC.cls .TooMany)) rfl M.fH rfl) dv))) (aw (pv 0))) aC)))))
  (bM (jk (q8 (pG (gv (jZ hr) j4 (zg (fun _ ha=>uc PySem.F.plainAttrs_list PySem.F.slot_list_count PySem.F.type_list_count Kh (pv 1) ha) LJ (Zj iz aC)) aG (dR _)) (qZ (gv (jZ hr) j4 (hZ M.f_ (fun _ ha=>cz fu rfl M.af (by decide +kernel) (bp ha (bp (gh (v:=.ref (KC.cls .PointError)) rfl M.cR rfl) dv))) (aw (pv 0))) (oq wW xS (zg (fun _ ha=>uc PySem.F.plainAttrs_list PySem.F.slot_list_index PySem.F.type_list_index C5 (pv 1) ha) Ew (Zj iz aC)) aG (dR _)) (dR _)))))
  (cC (ef cX))
  jj)
  (bM (dG (i:=2) aR.nd rfl (bG rfl) (cB (Zj cX (Zj cX (Zj cX (Zj cX (Zj cX (Zj cX (Zj cX (Zj cX (Zj cX (Zj cX (Zj cX (Zj cX (Zj cX aC)))))))))))))))
  (cC (ef (hU (b7 iY iZ (aw (pv 2)) (cB (Zj cX (Zj cX aC)))) (zg (fun _ ha=>uc PySem.F.plainAttrs_list PySem.F.slot_list_index PySem.F.type_list_index C5 (pv 1) ha) Ew (Zj iz aC))))))))))))
theorem aZ:aq ["_law_thing","_law_caught","_law_found","e"] ["_law_thing"] (aa tL):=⟨rfl,rfl,rfl,by decide +kernel,rfl,by decide +kernel,by decide +kernel⟩
theorem Pf(M:Nm mg)(bJ:FV P w mg base bH cQ)(bK:bH+1<=k)(az:FW P w mg base aJ cZ)(aA:aJ<=k)(gK:OL P w mg base bB lG)(gL:bB<=k)(hr:iH k A s fa cdv "_law_told" tL) :
 cD (jz P w mg base fa cdv A outer s H E ["_law_thing","_law_caught","_law_found","e"] "_law_told" tL) EN ios (ag tL) (vP cQ cZ lG) :=
 (bM (dG (i:=1) aZ.nd rfl (bG rfl) jX)
  (bM (dG (i:=2) aZ.nd rfl (bG rfl) jX)
  (bM (LH (i:=3) aZ.nd rfl rfl (xu rfl M.cR (xu rfl M.fG (xu rfl M.fH JZ))) (by simp) M.bo (fun E0 pn0 PX ok =>
  (cC (dG (i:=2) aZ.nd rfl (bG rfl) (VY.ve (zP ok bJ (hr.mono bK) rfl (Zj (aw (pv 0)) aC)))))) (fun a0 =>
  (cC (dG (i:=1) aZ.nd rfl (bG rfl) (aw (pv 3))))))
  (bM (jk (gv BR Dh (aw (pv 1)) jX (dR _))
  (cC (ef (cB (Zj cX (Zj (oV M.aX az (hr.mono aA) (aw (pv 2))) aC)))))
  jj)
  (bM (jk (q8 (pG (gv (jZ hr) j4 (jq gK (hr.mono gL) rfl (Zj (aw (pv 1)) aC)) cX (dR _)) (qZ (xK (uF (T:=.bool) (fun _ ha=>cz fu rfl M.af (by decide +kernel) (bp ha (bp (o8 (v:=.ty "bool") (u:=.type "bool") rfl M.kr (by decide +kernel) rfl) dv))) (Ez M.gJ (aw (pv 1)) rfl))))))
  (cC (ef (cB (Zj cX aC))))
  jj)
  (cC (ef (cB (Zj cX (Zj (Ez M.gJ (aw (pv 1)) rfl) aC))))))))))
theorem a6:aq ["_law_script","_law_k","_law_pool_here","_law_size","_law_wide","_law_spots","_law_due","_law_handed","_law_made","_law_turn","_law_at","_law_bent","_law_word","_law_wanted","_law_thing"] ["_law_script"] (aa mV):=⟨rfl,rfl,rfl,by decide +kernel,rfl,by decide +kernel,by decide +kernel⟩
theorem FY(M:Nm mg)(bJ:FV P w mg base bH cQ)(bK:bH+1<=k)(az:FW P w mg base aJ cZ)(aA:aJ<=k)(iM:OM P w mg base bR jv)(iN:bR<=k)(gc:ON P w mg base br h_)(gf:br<=k)(gM:OO P w mg base bC i5)(gO:bC<=k)(fk:OP P w mg base bg jw)(fm:bg<=k)(aO:AJ P w mg base aN cP)(aP:aN<=k)(bE:OQ P w mg base bD dC)(bF:bD<=k)(cS:FX P w mg base bI fD)(cT:bI<=k)(hr:iH k A s fa cdv "law" mV) :
 cD (jz P w mg base fa cdv A outer s H E ["_law_script","_law_k","_law_pool_here","_law_size","_law_wide","_law_spots","_law_due","_law_handed","_law_made","_law_turn","_law_at","_law_bent","_law_word","_law_wanted","_law_thing"] "law" mV) EN ios (ag mV) (Ak cQ cZ jv h_ i5 jw cP dC fD) :=
 (bM (uJ (n:=15) (yc (fun _ ha=>wM rfl M.fX ha) (Zj (g_ (fun _ ha=>cz (Io rfl) rfl M.td (by decide +kernel) ha) KD (Zj aG (Zj (g_ (fun _ ha=>cz (Ip rfl) rfl M.tj (by decide +kernel) ha) KG (Zj aG (Zj (g_ (fun _ ha=>cz uD rfl M.i6 PySem.boot_len ha) uE (Zj (aw (pv 0)) aC)) aC))) aC))) aC)) (iA (by decide))
  (bM (dG (i:=2) a6.nd rfl (bG rfl) (jq gM (hr.mono gO) rfl (Zj (aw (pv 0)) (Zj (aw (pv 1)) aC))))
  (bM (dG (i:=3) a6.nd rfl (bG rfl) (hU (cB (Zj aG (Zj aG (Zj aG (Zj aG (Zj aG (Zj aG (Zj aG (Zj aG aC))))))))) (nG aO (hr.mono aP) rfl (Zj (aw (pv 2)) (Zj aG aC)))))
  (bM (dG (i:=4) a6.nd rfl (bG rfl) (hU (cB (Zj aG (Zj aG aC))) (nG aO (hr.mono aP) rfl (Zj (aw (pv 2)) (Zj aG aC)))))
  (bM (K5 (i:=5) a6.nd rfl (bG rfl) rfl (pV (Nc:=["_law_turn","_law_pool_here","_law_wide"]) (own:=1) (fr:=[2,4]) (sc:=aa mV) (N:=["_law_script","_law_k","_law_pool_here","_law_size","_law_wide","_law_spots","_law_due","_law_handed","_law_made","_law_turn","_law_at","_law_bent","_law_word","_law_wanted","_law_thing"]) rfl rfl (by decide +kernel)) (by decide) (yc (fun _ ha=>wM rfl M.fX ha) (Zj (aw (pv 3)) aC)) (CW (by decide)) (fun _ _ _ _ _ _=>(ig (i:=0) (show(["_law_turn","_law_pool_here","_law_wide"]:List Str).Nodup by decide +kernel) rfl (bG rfl))) (iA (by decide)) (lC (by decide)) (fun _ _ _ _ _ _=>pU) (fun _ _ _ _ _ _=>(nG gc (hr.mono gf) rfl (Zj (aw (pv 1)) (Zj (aw (pv 2)) (Zj (aw (pv 2)) aC))))))
  (bM (dG (i:=6) a6.nd rfl (bG rfl) (jq fk (hr.mono fm) rfl (Zj (aw (pv 5)) aC)))
  (bM (dG (i:=7) a6.nd rfl (bG rfl) (g_ (fun _ ha=>nU Co rfl M.iE (by decide +kernel) ha) Dm (Zj (aw (pv 5)) aC)))
  (bM (dG (i:=8) a6.nd rfl (bG rfl) (Nv (zP u_ bJ (hr.mono bK) rfl (Zj (hU (cB (Zj (aw (pv 7)) (Zj (g_ (fun _ ha=>nU Cp rfl M.dY (by decide +kernel) ha) Dp (Zj (aw (pv 7)) aC)) aC))) (b7 ni ny (aw (pv 1)) aG)) aC))))
  (bM (Ds (KP (Jf PySem.F.plainAttrs_list PySem.F.slot_list_clear PySem.F.type_list_clear Jh (pv 7)) Nb))
  (bM (Ds (LM (fun _ _ ho ha=>uc PySem.F.plainAttrs_list PySem.F.slot_list_append PySem.F.type_list_append Cu ho ha) KQ (oV M.aX az (hr.mono aA) (aw (pv 8))) (Zj jX aC)))
  (bM (jk (q8 (pG (gv (jZ hr) j4 (oV M.aX az (hr.mono aA) (aw (pv 8))) (aw (pv 6)) (dR _)) (qZ (gv (jZ hr) j4 (g_ (fun _ ha=>cz (vD hr M.mT) rfl M.fZ (by decide +kernel) ha) vE (Zj (oV M.aX az (hr.mono aA) (aw (pv 8))) aC)) (g_ (fun _ ha=>cz (vD hr M.mT) rfl M.fZ (by decide +kernel) ha) vE (Zj (aw (pv 6)) aC)) (dR _)))))
  (cC (ef iz))
  jj)
  (bM (jk (gv (jZ hr) j4 (jq bE (hr.mono bF) rfl (Zj (b7 iY iZ (aw (pv 5)) (b7 Cz Eh (cB (Zj (eM (Zj aG (Zj aG aC))) aC)) aG)) aC)) (cB (Zj cX (Zj jX aC))) (dR _))
  (cC (ef iz))
  jj)
  (bM (uJ (n:=15) (yc (fun _ ha=>wM rfl M.fX ha) (Zj aG aC)) (iA (by decide))
  (bM (dG (i:=10) a6.nd rfl (bG rfl) (nG aO (hr.mono aP) rfl (Zj (aw (pv 2)) (Zj (b7 iY iZ (aw (pv 3)) aG) aC))))
  (bM (dG (i:=11) a6.nd rfl (bG rfl) (x_ (b7 iY iZ (b7 iY iZ (x_ (aw (pv 5)) xW (xZ (aw (pv 10)))) (cB (Zj (nG iM (hr.mono iN) rfl (Zj (aw (pv 2)) aC)) aC))) (x_ (aw (pv 5)) (xZ (aw (pv 10))) xW)) xW (xZ aG)))
  (bM (dG (i:=12) a6.nd rfl (bG rfl) (g_ (fun _ ha=>cz (vD hr M.mT) rfl M.fZ (by decide +kernel) ha) vE (Zj (aw (pv 11)) aC)))
  (bM (dG (i:=13) a6.nd rfl (bG rfl) (hU (cB (Zj (cB (Zj cX (Zj (aw (pv 10)) aC))) (Zj (cB (Zj cX (Zj (aw (pv 6)) aC))) aC))) (g_ (fun _ ha=>nU BV rfl M.ku (by decide +kernel) ha) Dl (Zj (oq (pI hr) pJ (aw (pv 10)) aG (dR _)) aC))))
  (cC (jk (q8 (pG (gv (jZ hr) j4 (jq bE (hr.mono bF) rfl (Zj (aw (pv 11)) aC)) (aw (pv 13)) (dR _)) (pG (gv (jZ hr) j4 (jq bE (hr.mono bF) rfl (Zj (g_ (fun _ ha=>nU Cp rfl M.dY (by decide +kernel) ha) Dp (Zj (aw (pv 11)) aC)) aC)) (aw (pv 13)) (dR _)) (qZ (gv (jZ hr) j4 (g_ (fun _ ha=>cz (vD hr M.mT) rfl M.fZ (by decide +kernel) ha) vE (Zj (aw (pv 11)) aC)) (aw (pv 12)) (dR _))))))
  (cC (ef iz))
  jj)))))) (fun _ _ h1 h2=>t8 PassesOwn.never rfl h1 (ig (i:=9) a6.nd rfl (bG rfl)) h2))
  (cC (uJ (n:=15) (rJ (cB (Zj cX (Zj aG (Zj iz (Zj Lp (Zj (eM (Zj aG (Zj aG aC))) aC))))))) (iA (by decide))
  (cC (jk (gv (jZ hr) j4 (jq bE (hr.mono bF) rfl (Zj (aw (pv 14)) aC)) (hU (cB (Zj (cB (Zj cX (Zj jX aC))) (Zj (cB (Zj cX (Zj aG aC))) aC))) (g_ (fun _ ha=>nU BV rfl M.ku (by decide +kernel) ha) Dl (Zj (oq (NB hr) NC (aw (pv 14)) (eM (Zj aG (Zj aG aC))) (dR _)) aC))) (dR _))
  (cC (ef iz))
  jj)) (fun _ _ h1 h2=>t8 PassesOwn.never rfl h1 (ig (i:=14) a6.nd rfl (bG rfl)) h2))))))))))))))) (fun _ _ h1 h2=>t8 PassesOwn.never rfl h1 (ig (i:=1) a6.nd rfl (bG rfl)) h2))
  (bM (jk (gv (jZ hr) j4 (uQ rfl (pV (Nc:=["_law_thing"]) (own:=1) (fr:=[]) (sc:=aa mV) (N:=["_law_script","_law_k","_law_pool_here","_law_size","_law_wide","_law_spots","_law_due","_law_handed","_law_made","_law_turn","_law_at","_law_bent","_law_word","_law_wanted","_law_thing"]) rfl rfl (by decide +kernel)) (by decide) (Dy (eM (Zj aG (Zj aG (Zj aG (Zj (ya aG) (Zj iz (Zj jX (Zj cX (Zj (b7 wV xT aG aG) aC)))))))))) (CW (by decide)) (fun _ _ _ _ _ _=>(ig (i:=0) (show(["_law_thing"]:List Str).Nodup by decide +kernel) rfl (bG rfl))) (iA (by decide)) (lC (by decide)) (fun _ _ _ _ _ _=>pU) (fun _ _ _ _ _ _=>(jq cS (hr.mono cT) rfl (Zj (aw (pv 0)) aC)))) (b7 iY iZ (cB (Zj iz (Zj iz aC))) (b7 Cz Eh (cB (Zj iz aC)) aG)) (dR _))
  (cC (ef iz))
  jj)
  (cC (ef (ot (oq (pI hr) pJ (oV M.aX az (hr.mono aA) (MX u_ bJ (hr.mono bK) rfl)) (cB aC) (dR _)) (ot (oq (pI hr) pJ (oV M.aX az (hr.mono aA) (VY.ve (zP u_ bJ (hr.mono bK) rfl (Zj jX aC)))) (cB aC) (dR _)) (xM (oq (pI hr) pJ (oV M.aX az (hr.mono aA) (VY.ve (Np u_ bJ (hr.mono bK) rfl (cB (Zj (eM (Zj aG (Zj aG aC))) aC))))) (cB (Zj (eM (Zj aG (Zj aG aC))) aC)) (dR _)))))))))
end
end cu
namespace cu
open PySem L2 Ex Dv
section
variable[KC]{P:Program}{w:World}{mg:Str->Option Value}{base:Heap}
structure gP(mg:Str->Option Value):Prop where
 iO:At mg "in_order" oX
 kN:At mg "is_key" tw
 iP:At mg "is_point" tx
 dk:At mg "look_at_points" tD
 kP:E9 .Points "Points.__init__" mU ["points"]
 dM:E8 .Points "points" "Points.points" qr
 gQ:At mg "_law_take" tF
 iQ:At mg "_law_odd" tG
 gg:At mg "_law_point" tH
 eC:At mg "_law_cell_at" tI
 gR:At mg "_law_pool" tJ
 fq:At mg "_law_sorted" oY
 gU:At mg "_law_kind" tK
 gW:At mg "_law_told" tL
 tM:At mg "law" mV
theorem Pg(T:gP mg)(M:Nm mg):dc P w mg base "in_order" 1 ["points"] (cM gF) :=
 mz (k:=0) T.iO OU (fun _ _ _ _ _ _ us hl=>match us,hl with | [_],_=>rfl) (fun _ _ _ _ _ _ _ hr=>OV M  hr) (fun _ _ h=>km h)
theorem AK(T:gP mg)(M:Nm mg):dc P w mg base "is_key" 1 ["thing"] (cM fD) :=
 mz (k:=0) T.kN OW (fun _ _ _ _ _ _ us hl=>match us,hl with | [_],_=>rfl) (fun _ _ _ _ _ _ _ hr=>OX M  hr) (fun _ _ h=>km h)
theorem Ph(T:gP mg)(M:Nm mg):dc P w mg base "is_point" 2 ["thing"] (cM eo) :=
 mz (k:=1) T.iP OY (fun _ _ _ _ _ _ us hl=>match us,hl with | [_],_=>rfl) (fun _ _ _ _ _ _ _ hr=>OZ M (AK T M) (by omega) hr) (fun _ _ h=>km h)
theorem Pj(T:gP mg)(M:Nm mg):va P w mg base "look_at_points" 3 ["thing"] (oI dB) :=
 LA (k:=2) T.dk ba (fun _ _ _ _ _ _ us hl=>match us,hl with | [_],_=>rfl) (fun _ _ _ _ _ _ _ hr=>O0 M (Ph T M) (by omega) hr (by omega)) (fun _ _ h=>LB h)
theorem AL(T:gP mg)(M:Nm mg):qi P w mg base "Points" 4 ["points"] [.ao] .Points "held" cQ :=
 M0 (k:=3) (st1:=FR) (st2:=FT) (e:=FU) T.kP M.kG fJ rfl M.aX M.i7 rfl (by decide) (fun _ _ _ _ _ _ _ hr=>let ⟨h1,h2,h3⟩:=O3 M (Pg T M) (by omega) (Pj T M) (by omega) hr (by omega); ⟨h1,h2,h3,pv 0,rfl⟩)
theorem AM(T:gP mg)(M:Nm mg):vz P w mg base .Points "points" 1 ["self"] (cM cZ) :=
 MY (k:=0) T.dM O4 (fun _ _ _ _ _ _ us hl=>match us,hl with | [_],_=>rfl) (fun _ _ _ _ _ _ _ hr=>O5 M  hr) (fun _ _ h=>km h)
theorem v9(T:gP mg)(M:Nm mg):dc P w mg base "_law_take" 1 ["_law_pool_here","_law_many"] (kj cP) :=
 yv (k:=0) T.gQ cU (fun _ _ _ _ _ _ us hl=>match us,hl with | [_,_],_=>rfl) (fun _ _ _ _ _ _ _ _ hr=>O6 M  hr) (fun _ _ _ h=>yw h)
theorem FZ(T:gP mg)(M:Nm mg):dc P w mg base "_law_odd" 2 ["_law_pool_here"] (kj jv) :=
 yv (k:=1) T.iQ dE (fun _ _ _ _ _ _ us hl=>match us,hl with | [_],_=>rfl) (fun _ _ _ _ _ _ _ _ hr=>O7 M (v9 T M) (by omega) hr) (fun _ _ _ h=>yw h)
theorem F0(T:gP mg)(M:Nm mg):dc P w mg base "_law_point" 2 ["_law_pool_here","_law_keys","_law_moments"] (kj h_) :=
 yv (k:=1) T.gg O8 (fun _ _ _ _ _ _ us hl=>match us,hl with | [_,_,_],_=>rfl) (fun _ _ _ _ _ _ _ _ hr=>O9 M (v9 T M) (by omega) hr) (fun _ _ _ h=>yw h)
theorem Pl(T:gP mg)(M:Nm mg):dc P w mg base "_law_cell_at" 1 ["_law_script","_law_k"] (cM jN) :=
 mz (k:=0) T.eC O_ (fun _ _ _ _ _ _ us hl=>match us,hl with | [_,_],_=>rfl) (fun _ _ _ _ _ _ _ hr=>Pa M  hr) (fun _ _ h=>km h)
theorem F5(T:gP mg)(M:Nm mg):dc P w mg base "_law_pool" 2 ["_law_script","_law_k"] (cM i5) :=
 mz (k:=1) T.gR bt (fun _ _ _ _ _ _ us hl=>match us,hl with | [_,_],_=>rfl) (fun _ _ _ _ _ _ _ hr=>Pb M (Pl T M) (by omega) hr) (fun _ _ h=>km h)
theorem F6(T:gP mg)(M:Nm mg):dc P w mg base "_law_sorted" 1 ["_law_spots"] (cM jw) :=
 mz (k:=0) T.fq Pc (fun _ _ _ _ _ _ us hl=>match us,hl with | [_],_=>rfl) (fun _ _ _ _ _ _ _ hr=>Pd M  hr) (fun _ _ h=>km h)
theorem Pm(T:gP mg)(M:Nm mg):dc P w mg base "_law_kind" 1 ["_law_error"] (cM lG) :=
 mz (k:=0) T.gU aR (fun _ _ _ _ _ _ us hl=>match us,hl with | [_],_=>rfl) (fun _ _ _ _ _ _ _ hr=>Pe M  hr) (fun _ _ h=>km h)
theorem F7(T:gP mg)(M:Nm mg):dc P w mg base "_law_told" 6 ["_law_thing"] (cM dC) :=
 mz (k:=5) T.gW aZ (fun _ _ _ _ _ _ us hl=>match us,hl with | [_],_=>rfl) (fun _ _ _ _ _ _ _ hr=>Pf M (AL T M) (by omega) (AM T M) (by omega) (Pm T M) (by omega) hr) (fun _ _ h=>km h)
theorem v_(T:gP mg)(M:Nm mg):dc P w mg base "law" 7 ["_law_script"] (cM sN) :=
 mz (k:=6) T.tM a6 (fun _ _ _ _ _ _ us hl=>match us,hl with | [_],_=>rfl) (fun _ _ _ _ _ _ _ hr=>FY M (AL T M) (by omega) (AM T M) (by omega) (FZ T M) (by omega) (F0 T M) (by omega) (F5 T M) (by omega) (F6 T M) (by omega) (v9 T M) (by omega) (F7 T M) (by omega) (AK T M) (by omega) hr) (fun _ _ h=>km h)
theorem Pn(T:gP mg)(M:Nm mg){f:Addr}{fd:FuncData}(U:jf KC.K "law" "law" mV f fd):a8 P w KC.K mg base eK 7 f fd ["_law_script"] (cM sN) :=
 yq (k:=6) U a6 (fun _ _ _ _ _ _ hr=>FY M (AL T M) (by omega) (AM T M) (by omega) (FZ T M) (by omega) (F0 T M) (by omega) (F5 T M) (by omega) (F6 T M) (by omega) (v9 T M) (by omega) (F7 T M) (by omega) (AK T M) (by omega) hr) (fun _ _ h=>km h)
end
end cu
namespace cu
open PySem L2 Ex Dv Tr St So
theorem Po{Γ:En}:c_ [] 1 (gN 0) (M.pure true) (dA fD (ZS (ai 0) (M.pure []))) [.int 0,.int 30,.int 31,.int (-1),.bl true,.ao,.str "1",.int 10000000000000000000000000000000000000000] Γ = .ok [.bl true,.bl true,.bl false,.bl false,.bl false,.bl false,.bl false,.bl false] Γ:=by kernel_rfl
theorem Pp(ns:List Int)(h:ns.length<=63):sN [.bL ns]=some (.val (.bl true)):=by
 have ln:=line
 have l0:0<=sizeLine:=Nat.zero_le _
 have l1:1<=sizeLine:=by omega
 have l2:2<=sizeLine:=by omega
 have l8:8<=sizeLine:=by omega
 have Pq:8<sizeLine:=by omega
 generalize hn:(if (ns.length:Int)<8 then (ns.length:Int) else 8)=n1
 generalize hn2:(if n1 > 1 then n1 else 1)=n2
 have b1:0<=n1/\n1<=8:=by rw[<- hn];split<;>omega
 have b2:1<=n2/\n2<=8:=by rw[<- hn2];split<;>omega
 have sm:small n2=true:=zb (by omega)
 obtain⟨Γ',hl,y1,y2,y3,y4,y5,y6,y7,y8,y9,y10,y11,y12,y13,y14,rfl⟩:=Eg (m:=gN 1) (s:=v7)
  (fun _ Γ=>∃ (y1 y2 y3 y4 y5 y6 y7 y8 y9 y10 y11 y12 y13 y14:Sl),Γ=[some (.ak,.bL ns),y1,y2,y3,y4,y5,y6,y7,y8,y9,y10,y11,y12,y13,y14])
  (ds:=hW 0 n2.toNat) (Γ:=[some (.ak,.bL ns),none,none,none,none,none,none,none,none,none,none,none,none,none,none])
  ⟨none,none,none,none,none,none,none,none,none,none,none,none,none,none,rfl⟩ (by
   rintro i d Γ hd ⟨y1,y2,y3,y4,y5,y6,y7,y8,y9,y10,y11,y12,y13,y14,rfl⟩
   obtain⟨rfl,hi⟩:=Fx hd
   obtain⟨z2,z3,z4,z5,z6,z7,z8,z9,AE,AF,AG,AH,Pr,hz⟩:=OD (ns:=ns) (k:=i) (x2:=y2) (x3:=y3) (x4:=y4) (x5:=y5) (x6:=y6) (x7:=y7) (x8:=y8) (x9:=y9) (x10:=y10) (x11:=y11) (x12:=y12) (x13:=y13) (x14:=y14) (by omega)
   exact⟨_,_,rfl,.inl (by simpa using hz),some (.ak,.int i),z2,z3,z4,z5,z6,z7,z8,z9,AE,AF,AG,AH,Pr,rfl⟩)
 have kl:=fun Γ=>Po (Γ:=Γ)
 have rp:mC (.lst [.bl false]) (.int 6)=_:=rep1 (d:=.bl false) (n:=6) (by decide)
 have q:=nJ (d:=.lst [.bl true,.bl true,.bl false,.bl false,.bl false,.bl false,.bl false,.bl false]) (by decide +kernel)
 have p0:=NV
 have Pt:=sT []
 have q0:eZ (.lst []) (.lst [])=some (.val (.bl true)):=An (by decide +kernel)
 have so:aH [(2,1)]=[(2,1)]:=zC (cs:=[(2,1)]) (l:=[(2,1)]) (fun c hc=>by simp at hc;subst hc;exact⟨⟨by decide,by decide⟩,by decide,by decide⟩) (by simp) (by simp) (fun c=>Iff.rfl) |>.symm
 have p1:=vU (x:=.lst [.tup [.int 1,.int 2]]) (cs:=[(2,1)]) (.inl rfl) (fun c hc=>by simp at hc;subst hc;exact⟨⟨by decide,by decide⟩,by decide,by decide⟩) (by decide)
 rw[so] at p1
 have p1:cQ [.lst [.tup [.int 1,.int 2]]]=some (.ok (.val (pO [.tup [.int 1,.int 2]]))):=p1
 have Pu:=sT [.tup [.int 1,.int 2]]
 have q1:eZ (.lst [.tup [.int 1,.int 2]]) (.lst [.tup [.int 1,.int 2]])=some (.val (.bl true)):=An (by decide +kernel)
 unfold sN
 rw[Ob]
 simp[dH,b6,gam,hn,hn2,sm,hl,l0,l1,l2,l8,Pq,kl,rp,q,N9,p0,Pt,q0,p1,Pu,q1,vV,List.replicate]
end cu
namespace cu
open PySem PySem.W PyProof.Rows Hd
noncomputable abbrev pm0:Value:=vS "law_thirdpoint_k01_points_made" 713
noncomputable abbrev cK:Value:=vS "thirdpoint.errors" 194
noncomputable abbrev ie:Value:=vS "thirdpoint.points" 564
noncomputable def KK(P:Params):Frag:=[
 (nat_lit 1,dO P [de "builtins" 162 (.ref 4),de "__main__" 163 (.ref 5)] 2),
 (nat_lit 2,dN P [de "type.__subclasses__.KeyError.0" 455 (vI 213 0),de "type.__subclasses__.KeyError.n" 456 (vI 2 0),de "type.__subclasses__.KeyError.1" 484 (vI 233 0),de "type.__subclasses__.IndexError.0" 531 (vI 266 0),de "type.__subclasses__.IndexError.n" 532 (vI 1 0),de "type.__subclasses__.OverflowError.0" 560 (vI 286 0),de "type.__subclasses__.OverflowError.n" 561 (vI 1 0)] 7),
 (nat_lit 3,dO P [de "__name__" 165 pm0,de "__doc__" 166 .none,de "__package__" 167 .none,de "__loader__" 168 (.builtin "__main__.__loader__#opaque"),de "__spec__" 169 .none,de "__annotations__" 170 (.ref 6),de "__builtins__" 171 (.ref 4),de "__file__" 173 (vS "/claim/cut.py" 172),de "__cached__" 174 .none,de "_wall" 193 (.ref 21),de "PointError" 213 (.ref 31),de "NoPoints" 238 (.ref 51),de "NoBox" 265 (.ref 70),de "NoAsks" 290 (.ref 89),de "NoRun" 315 (.ref 108),de "NoText" 340 (.ref 127),de "NoTurn" 365 (.ref 146),de "NoTree" 381 (.ref 158),de "NoTop" 397 (.ref 170),de "NotServed" 413 (.ref 182),de "NoRow" 429 (.ref 194),de "NoPoint" 458 (.ref 213),de "NoName" 487 (.ref 233),de "NoKey" 514 (.ref 253),de "NoBack" 534 (.ref 266),de "TooMany" 563 (.ref 286),de "LAST_KEY" 567 (vI 30 566),de "MOST_POINTS" 569 (vI 200 568),de "is_key" 576 (.ref 296),de "is_point" 583 (.ref 303),de "look_at_points" 592 (.ref 310),de "in_order" 598 (.ref 315),de "Points" 712 (.ref 410),de "_law_cell_at" 722 (.ref 421),de "_law_pool" 732 (.ref 428),de "_law_take" 741 (.ref 435),de "_law_point" 750 (.ref 442),de "_law_sorted" 756 (.ref 447),de "_law_kind" 765 (.ref 454),de "_law_told" 775 (.ref 461),de "_law_odd" 783 (.ref 468),de "law" 789 (.ref 473)] 42),
 (nat_lit 30,dO P [de "__module__" 203 cK,de "__firstlineno__" 207 (vI 5 206),de "__static_attributes__" 208 (.ref 29),de "__weakref__" 210 (.ref 32),de "__doc__" 211 .none] 3),
 (nat_lit 31,cO "PointError" [(.type "ValueError")] [(.ref 31),(.type "ValueError"),(.type "Exception"),(.type "BaseException"),(.type "object")] 30 [(.ref 51),(.ref 70),(.ref 89),(.ref 108),(.ref 127),(.ref 146),(.ref 158),(.ref 170),(.ref 182),(.ref 194)] #[some (.ref 22),none,some (vS "PointError" 196),some (vS "PointError" 204),some (.builtin "ValueError.__new__"),some (.bool true)]),
 (nat_lit 47,kO "__init__" "NoPoints.__init__" 226 9 2 [(vI 0 0),(vI 0 0),(vI 3 0),(.ref 42),(.bool true),(vI 181 0),(.ref 43),.none,(.ref 44),(.ref 45),(.ref 46),(vI 231 0),(vI 9 0),(vS "/claim/cut.py" 232)]),
 (nat_lit 48,fO "__init__" "NoPoints.__init__" (L2.inClass (top 3) 0) .none cK 47),
 (nat_lit 50,dO P [de "__module__" 221 cK,de "__firstlineno__" 225 (vI 7 224),de "__init__" 233 (.ref 48),de "__static_attributes__" 235 (.ref 49),de "__doc__" 236 .none] 2),
 (nat_lit 51,cO "NoPoints" [(.ref 31)] [(.ref 51),(.ref 31),(.type "ValueError"),(.type "Exception"),(.type "BaseException"),(.type "object")] 50 [] #[some (.ref 35),none,some (vS "NoPoints" 214),some (vS "NoPoints" 222),some (.builtin "ValueError.__new__"),some (.bool true)]),
 (nat_lit 69,dO P [de "__module__" 246 cK,de "__firstlineno__" 250 (vI 12 249),de "__init__" 259 (.ref 67),de "__static_attributes__" 262 (.ref 68),de "__doc__" 263 .none] 2),
 (nat_lit 70,cO "NoBox" [(.ref 31)] [(.ref 70),(.ref 31),(.type "ValueError"),(.type "Exception"),(.type "BaseException"),(.type "object")] 69 [] #[some (.ref 54),none,some (vS "NoBox" 239),some (vS "NoBox" 247),some (.builtin "ValueError.__new__"),some (.bool true)]),
 (nat_lit 88,dO P [de "__module__" 273 cK,de "__firstlineno__" 277 (vI 18 276),de "__init__" 285 (.ref 86),de "__static_attributes__" 287 (.ref 87),de "__doc__" 288 .none] 2),
 (nat_lit 89,cO "NoAsks" [(.ref 31)] [(.ref 89),(.ref 31),(.type "ValueError"),(.type "Exception"),(.type "BaseException"),(.type "object")] 88 [] #[some (.ref 73),none,some (vS "NoAsks" 266),some (vS "NoAsks" 274),some (.builtin "ValueError.__new__"),some (.bool true)]),
 (nat_lit 107,dO P [de "__module__" 298 cK,de "__firstlineno__" 302 (vI 23 301),de "__init__" 310 (.ref 105),de "__static_attributes__" 312 (.ref 106),de "__doc__" 313 .none] 2),
 (nat_lit 108,cO "NoRun" [(.ref 31)] [(.ref 108),(.ref 31),(.type "ValueError"),(.type "Exception"),(.type "BaseException"),(.type "object")] 107 [] #[some (.ref 92),none,some (vS "NoRun" 291),some (vS "NoRun" 299),some (.builtin "ValueError.__new__"),some (.bool true)]),
 (nat_lit 126,dO P [de "__module__" 323 cK,de "__firstlineno__" 327 (vI 28 326),de "__init__" 335 (.ref 124),de "__static_attributes__" 337 (.ref 125),de "__doc__" 338 .none] 2),
 (nat_lit 127,cO "NoText" [(.ref 31)] [(.ref 127),(.ref 31),(.type "ValueError"),(.type "Exception"),(.type "BaseException"),(.type "object")] 126 [] #[some (.ref 111),none,some (vS "NoText" 316),some (vS "NoText" 324),some (.builtin "ValueError.__new__"),some (.bool true)]),
 (nat_lit 145,dO P [de "__module__" 348 cK,de "__firstlineno__" 352 (vI 33 351),de "__init__" 360 (.ref 143),de "__static_attributes__" 362 (.ref 144),de "__doc__" 363 .none] 2),
 (nat_lit 146,cO "NoTurn" [(.ref 31)] [(.ref 146),(.ref 31),(.type "ValueError"),(.type "Exception"),(.type "BaseException"),(.type "object")] 145 [] #[some (.ref 130),none,some (vS "NoTurn" 341),some (vS "NoTurn" 349),some (.builtin "ValueError.__new__"),some (.bool true)]),
 (nat_lit 157,dO P [de "__module__" 373 cK,de "__firstlineno__" 377 (vI 38 376),de "__static_attributes__" 378 (.ref 156),de "__doc__" 379 .none] 2),
 (nat_lit 158,cO "NoTree" [(.ref 31)] [(.ref 158),(.ref 31),(.type "ValueError"),(.type "Exception"),(.type "BaseException"),(.type "object")] 157 [] #[some (.ref 149),none,some (vS "NoTree" 366),some (vS "NoTree" 374),some (.builtin "ValueError.__new__"),some (.bool true)]),
 (nat_lit 169,dO P [de "__module__" 389 cK,de "__firstlineno__" 393 (vI 40 392),de "__static_attributes__" 394 (.ref 168),de "__doc__" 395 .none] 2),
 (nat_lit 170,cO "NoTop" [(.ref 31)] [(.ref 170),(.ref 31),(.type "ValueError"),(.type "Exception"),(.type "BaseException"),(.type "object")] 169 [] #[some (.ref 161),none,some (vS "NoTop" 382),some (vS "NoTop" 390),some (.builtin "ValueError.__new__"),some (.bool true)]),
 (nat_lit 181,dO P [de "__module__" 405 cK,de "__firstlineno__" 409 (vI 42 408),de "__static_attributes__" 410 (.ref 180),de "__doc__" 411 .none] 2),
 (nat_lit 182,cO "NotServed" [(.ref 31)] [(.ref 182),(.ref 31),(.type "ValueError"),(.type "Exception"),(.type "BaseException"),(.type "object")] 181 [] #[some (.ref 173),none,some (vS "NotServed" 398),some (vS "NotServed" 406),some (.builtin "ValueError.__new__"),some (.bool true)]),
 (nat_lit 193,dO P [de "__module__" 421 cK,de "__firstlineno__" 425 (vI 44 424),de "__static_attributes__" 426 (.ref 192),de "__doc__" 427 .none] 2),
 (nat_lit 194,cO "NoRow" [(.ref 31)] [(.ref 194),(.ref 31),(.type "ValueError"),(.type "Exception"),(.type "BaseException"),(.type "object")] 193 [] #[some (.ref 185),none,some (vS "NoRow" 414),some (vS "NoRow" 422),some (.builtin "ValueError.__new__"),some (.bool true)]),
 (nat_lit 212,dO P [de "__module__" 437 cK,de "__firstlineno__" 441 (vI 46 440),de "__init__" 449 (.ref 210),de "__static_attributes__" 451 (.ref 211),de "__weakref__" 453 (.ref 214),de "__doc__" 454 .none] 3),
 (nat_lit 213,cO "NoPoint" [(.type "KeyError")] [(.ref 213),(.type "KeyError"),(.type "LookupError"),(.type "Exception"),(.type "BaseException"),(.type "object")] 212 [] #[some (.ref 197),none,some (vS "NoPoint" 430),some (vS "NoPoint" 438),some (.builtin "LookupError.__new__"),some (.bool true)]),
 (nat_lit 232,dO P [de "__module__" 466 cK,de "__firstlineno__" 470 (vI 51 469),de "__init__" 478 (.ref 230),de "__static_attributes__" 480 (.ref 231),de "__weakref__" 482 (.ref 234),de "__doc__" 483 .none] 3),
 (nat_lit 233,cO "NoName" [(.type "KeyError")] [(.ref 233),(.type "KeyError"),(.type "LookupError"),(.type "Exception"),(.type "BaseException"),(.type "object")] 232 [] #[some (.ref 217),none,some (vS "NoName" 459),some (vS "NoName" 467),some (.builtin "LookupError.__new__"),some (.bool true)]),
 (nat_lit 252,dO P [de "__module__" 495 cK,de "__firstlineno__" 499 (vI 56 498),de "__init__" 507 (.ref 250),de "__static_attributes__" 509 (.ref 251),de "__weakref__" 511 (.ref 254),de "__doc__" 512 .none] 3),
 (nat_lit 253,cO "NoKey" [(.type "LookupError")] [(.ref 253),(.type "LookupError"),(.type "Exception"),(.type "BaseException"),(.type "object")] 252 [] #[some (.ref 237),none,some (vS "NoKey" 488),some (vS "NoKey" 496),some (.builtin "LookupError.__new__"),some (.bool true)]),
 (nat_lit 265,dO P [de "__module__" 522 cK,de "__firstlineno__" 526 (vI 61 525),de "__static_attributes__" 527 (.ref 264),de "__weakref__" 529 (.ref 267),de "__doc__" 530 .none] 3),
 (nat_lit 266,cO "NoBack" [(.type "IndexError")] [(.ref 266),(.type "IndexError"),(.type "LookupError"),(.type "Exception"),(.type "BaseException"),(.type "object")] 265 [] #[some (.ref 257),none,some (vS "NoBack" 515),some (vS "NoBack" 523),some (.builtin "IndexError.__new__"),some (.bool true)]),
 (nat_lit 285,dO P [de "__module__" 542 cK,de "__firstlineno__" 546 (vI 63 545),de "__init__" 554 (.ref 283),de "__static_attributes__" 556 (.ref 284),de "__weakref__" 558 (.ref 287),de "__doc__" 559 .none] 3),
 (nat_lit 286,cO "TooMany" [(.type "OverflowError")] [(.ref 286),(.type "OverflowError"),(.type "ArithmeticError"),(.type "Exception"),(.type "BaseException"),(.type "object")] 285 [] #[some (.ref 270),none,some (vS "TooMany" 535),some (vS "TooMany" 543),some (.builtin "OverflowError.__new__"),some (.bool true)]),
 (nat_lit 295,kO "is_key" "is_key" 570 71 1 [(vI 0 0),(vI 0 0),(vI 3 0),(.ref 290),(.bool true),(vI 181 0),(.ref 291),.none,(.ref 292),(.ref 293),(.ref 294),(vI 574 0),(vI 71 0),(vS "/claim/cut.py" 575)]),
 (nat_lit 296,fO "is_key" "is_key" (top 21) .none ie 295),
 (nat_lit 302,kO "is_point" "is_point" 577 73 1 [(vI 0 0),(vI 0 0),(vI 3 0),(.ref 297),(.bool true),(vI 181 0),(.ref 298),.none,(.ref 299),(.ref 300),(.ref 301),(vI 581 0),(vI 73 0),(vS "/claim/cut.py" 582)]),
 (nat_lit 303,fO "is_point" "is_point" (top 22) .none ie 302),
 (nat_lit 309,kO "look_at_points" "look_at_points" 584 75 1 [(vI 0 0),(vI 0 0),(vI 3 0),(.ref 304),(.bool true),(vI 181 0),(.ref 305),.none,(.ref 306),(.ref 307),(.ref 308),(vI 590 0),(vI 75 0),(vS "/claim/cut.py" 591)]),
 (nat_lit 310,fO "look_at_points" "look_at_points" (top 23) .none ie 309),
 (nat_lit 314,kO "in_order" "in_order" 593 81 1 [(vI 0 0),(vI 0 0),(vI 3 0),(.ref 311),(.bool true),(vI 181 0),(.ref 312),.none,.none,.none,(.ref 313),(vI 596 0),(vI 81 0),(vS "/claim/cut.py" 597)]),
 (nat_lit 315,fO "in_order" "in_order" (top 24) .none ie 314),
 (nat_lit 323,{ cls:=.type "tuple",data:=.seq #[.none] }),
 (nat_lit 329,kO "__init__" "Points.__init__" 611 85 2 [(vI 0 0),(vI 0 0),(vI 3 0),(.ref 324),(.bool true),(vI 181 0),(.ref 325),.none,(.ref 326),(.ref 327),(.ref 328),(vI 616 0),(vI 85 0),(vS "/claim/cut.py" 617)]),
 (nat_lit 330,fO "__init__" "Points.__init__" (L2.inClass (top 25) 0) (.ref 323) ie 329),
 (nat_lit 336,kO "points" "Points.points" 619 91 1 [(vI 0 0),(vI 0 0),(vI 3 0),(.ref 331),(.bool true),(vI 181 0),(.ref 332),.none,(.ref 333),(.ref 334),(.ref 335),(vI 623 0),(vI 91 0),(vS "/claim/cut.py" 624)]),
 (nat_lit 337,fO "points" "Points.points" (L2.inClass (top 25) 1) .none ie 336),
 (nat_lit 409,dO P [de "__module__" 606 ie,de "__firstlineno__" 610 (vI 83 609),de "__init__" 618 (.ref 330),de "points" 625 (.ref 337),de "has" 633 (.ref 344),de "keys_at" 641 (.ref 351),de "moments_of" 649 (.ref 358),de "all_keys" 656 (.ref 365),de "all_moments" 663 (.ref 372),de "more" 672 (.ref 379),de "less" 680 (.ref 386),de "__eq__" 688 (.ref 393),de "__len__" 695 (.ref 400),de "__repr__" 702 (.ref 407),de "__static_attributes__" 704 (.ref 408),de "__dict__" 706 (.ref 411),de "__weakref__" 708 (.ref 412),de "__doc__" 709 .none,de "__hash__" 710 .none] 5),
 (nat_lit 410,cO "Points" [(.type "object")] [(.ref 410),(.type "object")] 409 [] #[none,none,some (vS "Points" 599),some (vS "Points" 607),some (.builtin "object.__new__"),some (.bool true)]),
 (nat_lit 420,kO "_law_cell_at" "_law_cell_at" 715 128 2 [(vI 0 0),(vI 0 0),(vI 3 0),(.ref 415),(.bool true),(vI 181 0),(.ref 416),.none,(.ref 417),(.ref 418),(.ref 419),(vI 720 0),(vI 128 0),(vS "/claim/cut.py" 721)]),
 (nat_lit 421,fO "_law_cell_at" "_law_cell_at" (top 27) .none pm0 420),
 (nat_lit 427,kO "_law_pool" "_law_pool" 723 132 2 [(vI 0 0),(vI 0 0),(vI 3 0),(.ref 422),(.bool true),(vI 181 0),(.ref 423),.none,(.ref 424),(.ref 425),(.ref 426),(vI 730 0),(vI 132 0),(vS "/claim/cut.py" 731)]),
 (nat_lit 428,fO "_law_pool" "_law_pool" (top 28) .none pm0 427),
 (nat_lit 434,kO "_law_take" "_law_take" 733 138 2 [(vI 0 0),(vI 0 0),(vI 3 0),(.ref 429),(.bool true),(vI 181 0),(.ref 430),.none,(.ref 431),(.ref 432),(.ref 433),(vI 739 0),(vI 138 0),(vS "/claim/cut.py" 740)]),
 (nat_lit 435,fO "_law_take" "_law_take" (top 29) .none pm0 434),
 (nat_lit 441,kO "_law_point" "_law_point" 742 145 3 [(vI 0 0),(vI 0 0),(vI 3 0),(.ref 436),(.bool true),(vI 181 0),(.ref 437),.none,(.ref 438),(.ref 439),(.ref 440),(vI 748 0),(vI 145 0),(vS "/claim/cut.py" 749)]),
 (nat_lit 442,fO "_law_point" "_law_point" (top 30) .none pm0 441),
 (nat_lit 446,kO "_law_sorted" "_law_sorted" 751 147 1 [(vI 0 0),(vI 0 0),(vI 3 0),(.ref 443),(.bool true),(vI 181 0),(.ref 444),.none,.none,.none,(.ref 445),(vI 754 0),(vI 147 0),(vS "/claim/cut.py" 755)]),
 (nat_lit 447,fO "_law_sorted" "_law_sorted" (top 31) .none pm0 446),
 (nat_lit 453,kO "_law_kind" "_law_kind" 757 149 1 [(vI 0 0),(vI 0 0),(vI 3 0),(.ref 448),(.bool true),(vI 181 0),(.ref 449),.none,(.ref 450),(.ref 451),(.ref 452),(vI 763 0),(vI 149 0),(vS "/claim/cut.py" 764)]),
 (nat_lit 454,fO "_law_kind" "_law_kind" (top 32) .none pm0 453),
 (nat_lit 460,kO "_law_told" "_law_told" 766 159 1 [(vI 0 0),(vI 0 0),(vI 3 0),(.ref 455),(.bool true),(vI 181 0),(.ref 456),.none,(.ref 457),(.ref 458),(.ref 459),(vI 773 0),(vI 159 0),(vS "/claim/cut.py" 774)]),
 (nat_lit 461,fO "_law_told" "_law_told" (top 33) .none pm0 460),
 (nat_lit 467,kO "_law_odd" "_law_odd" 776 171 1 [(vI 0 0),(vI 0 0),(vI 3 0),(.ref 462),(.bool true),(vI 181 0),(.ref 463),.none,(.ref 464),(.ref 465),(.ref 466),(vI 781 0),(vI 171 0),(vS "/claim/cut.py" 782)]),
 (nat_lit 468,fO "_law_odd" "_law_odd" (top 34) .none pm0 467),
 (nat_lit 472,kO "law" "law" 784 174 1 [(vI 0 0),(vI 0 0),(vI 3 0),(.ref 469),(.bool true),(vI 181 0),(.ref 470),.none,.none,.none,(.ref 471),(vI 787 0),(vI 174 0),(vS "/claim/cut.py" 788)]),
 (nat_lit 473,fO "law" "law" (top 35) .none pm0 472)]
noncomputable def nK:List Addr:=[1,2,3,30,31,47,48,50,51,69,70,88,89,107,108,126,127,145,146,157,158,169,170,181,182,193,194,212,213,232,233,252,253,265,266,285,286,295,296,302,303,309,310,314,315,323,329,330,336,337,409,410,420,421,427,428,434,435,441,442,446,447,453,454,460,461,467,468,472,473]
theorem eD(P:Params):nK=(KK P).map (·.1):=by kernel_rfl
noncomputable def fK:List Nat:=[0,2,3,4,5,6,7,8,9,10,11,12,13,14,15,16,17,19,20,21,22,23,24,25,27,28,29,30,31,32,33,34,35]
theorem twin:Nat.ble 1 PySem.Challenge.pw_thirdpoint_k01_points_made.main.body.length=true:=by k_qdec
set_option maxHeartbeats 0 in
theorem run(w:World)(os:OsState):(s_ Fast.tw14364793385576792824 Fast.tw6927157346788147330 w 11 (some (.ref 6)) 9412 (AI w.params os) (topStub Fast.tw6927157346788147330)).map (fun s=>((staticsOk (importedModules Fast.tw6927157346788147330.main.body) (boot_heap w.params) s.abs.heap && namesBound Fast.tw6927157346788147330 s.abs.heap && gensDone s.abs && laidKept (boot_heap w.params) s.abs.heap),
 Fast.tw4187177175401517315 (view Fast.tw6927157346788147330 fK) [] (importedModules Fast.tw6927157346788147330.main.body) (fun s=>xlAt (view Fast.tw6927157346788147330 fK) [] s && recOk [] s) true s.abs,nK.map s.abs.heap.get?))=some (true,openGood (view Fast.tw6927157346788147330 fK) [],(KK w.params).map fun x=>some x.2):=by kernel_rfl
theorem left:LeftO PySem.Challenge.pw_thirdpoint_k01_points_made (view PySem.Challenge.pw_thirdpoint_k01_points_made fK) [] (fun s=>xlAt (view PySem.Challenge.pw_thirdpoint_k01_points_made fK) [] s && recOk [] s) (fun s=>nK.map s.heap.get?) (fun w=>(KK w.params).map fun x=>some x.2) 9412 :=
 OI Fast.te6927157346788147330 (by kernel_rfl) rfl (fun _=>by kernel_rfl) run
end cu
namespace Xf
open PySem L2 Ex Dv
noncomputable abbrev F8:List Value:=[.type "ValueError",.type "Exception",.type "BaseException",.type "object"]
noncomputable abbrev F9:List Value:=[.type "KeyError",.type "LookupError",.type "Exception",.type "BaseException",.type "object"]
noncomputable abbrev F_:List Value:=[.type "LookupError",.type "Exception",.type "BaseException",.type "object"]
noncomputable abbrev hW:List Value:=[.type "IndexError",.type "LookupError",.type "Exception",.type "BaseException",.type "object"]
noncomputable abbrev Ga:List Value:=[.type "OverflowError",.type "ArithmeticError",.type "Exception",.type "BaseException",.type "object"]
theorem ic(self:Value):refuseLoop self "__setattr__" F8=pure ():=F.store_ValueError.passes self
theorem Gb(self:Value):refuseLoop self "__setattr__" F9=pure ():=by kernel_rfl
theorem Pw(self:Value):refuseLoop self "__setattr__" F_=pure ():=by kernel_rfl
theorem Px(self:Value):refuseLoop self "__setattr__" hW=pure ():=by kernel_rfl
theorem Py(self:Value):refuseLoop self "__setattr__" Ga=pure ():=by kernel_rfl
noncomputable def mW:Cn->List Value
 | .NoPoint | .NoName=>F9
 | .NoKey=>F_
 | .NoBack=>hW
 | .TooMany=>Ga
 | _=>F8
noncomputable def oZ:Cn->String
 | .NoPoint | .NoName | .NoKey => "LookupError.__new__"
 | .NoBack => "IndexError.__new__"
 | .TooMany => "OverflowError.__new__"
 | _ => "ValueError.__new__"
theorem Pz:∀ (C:Cn) (self:Value),refuseLoop self "__setattr__" (mW C)=pure ()
 | .PointError,s=>ic s
 | .NoPoints,s=>ic s
 | .NoBox,s=>ic s
 | .NoAsks,s=>ic s
 | .NoRun,s=>ic s
 | .NoText,s=>ic s
 | .NoTurn,s=>ic s
 | .NoTree,s=>ic s
 | .NoTop,s=>ic s
 | .NotServed,s=>ic s
 | .NoRow,s=>ic s
 | .NoPoint,s=>Gb s
 | .NoName,s=>Gb s
 | .NoKey,s=>Pw s
 | .NoBack,s=>Px s
 | .TooMany,s=>Py s
 | .Points,s=>ic s
 | .oh,s=>ic s
 | .Search,s=>ic s
 | .oi,s=>ic s
 | .xJ,s=>ic s
noncomputable def mZ(K:W.Frag)(C:Addr)(up:List Value)(nw:String):Bool:=n6 K C up nw && (W.findIn K (.ref C) "__getattribute__" == some (some (.builtin "BaseException.__getattribute__"))) && (W.findIn K (.ref C) "__getattr__" == some none) &&
 (W.findIn K (.ref C) "__setattr__" == some (some (.builtin "object.__setattr__"))) && (W.mroIn K C (.type "BaseException") == some true) && (W.mroIn K C (.type "object") == some true) && (W.findIn K (.ref C) "__class__" == some (some (.builtin "object.__class__"))) &&
 (W.specialIn K (.builtin "object.__class__") "__get__" == some (some (.builtin "getset_descriptor.__get__"))) && (W.takesIn K (.builtin "object.__class__") == some true) && (W.kitCls K (.ref C) (.ref C) == some true) && W.keepIn K (.ref C)
theorem PB{K:W.Frag}{C:Addr}{up:List Value}{nw:String}(ok:∀ self,refuseLoop self "__setattr__" up=pure ())(h:mZ K C up nw=true):n6 K C up nw=true/\qS K C:=by
 unfold mZ at h
 simp only[Bool.and_eq_true,beq_iff_eq] at h
 obtain⟨⟨⟨⟨⟨⟨⟨⟨⟨⟨a,b⟩,c⟩,d⟩,e⟩,f⟩,g⟩,i⟩,j⟩,k⟩,l⟩:=h
 exact⟨a,JP ok a b c d e f g i j k l⟩
variable[KC]
theorem i8{L:List Cn}(h:L.all (fun C=>mZ KC.K (KC.cls C) (mW C) (oZ C))=true){C:Cn}(hc:L.contains C=true):n6 KC.K (KC.cls C) (mW C) (oZ C)=true/\qS KC.K (KC.cls C) :=
 PB (Pz C) (List.all_eq_true.mp h C (List.contains_iff_mem.mp hc))
noncomputable def Gd(K:W.Frag)(cls:Cn->Addr)(L:List Cn)(T:Cn):Bool:=L.all (fun C=>W.kitOne K (.ref (cls C)) (.ref (cls T)) == some (sub C T)) && mD.all (fun t=>W.kitOne K (.type t) (.ref (cls T)) == some false)
theorem a7{L:List Cn}{T:Cn}(h:Gd KC.K KC.cls L T=true)(hx:∀ C,L.contains C=true->XC KC.K (KC.cls C)):KitX L T:=by
 unfold Gd at h
 rw[Bool.and_eq_true,List.all_eq_true,List.all_eq_true] at h
 exact⟨fun C hc=>⟨beq_iff_eq.mp (h.1 C (List.contains_iff_mem.mp hc)),hx C hc⟩,fun t ht=>beq_iff_eq.mp (h.2 t ht)⟩
theorem tN{L:List Cn}{cs:List Value}(h:L.all (fun C=>aQ KC.K (KC.cls C) cs == some true)=true):∀ C,L.contains C=true->aQ KC.K (KC.cls C) cs=some true:=fun C hc=>beq_iff_eq.mp (List.all_eq_true.mp h C (List.contains_iff_mem.mp hc))
theorem tO{L:List Cn}{y:Str}(h:L.all (fun C=>W.findIn KC.K (.ref (KC.cls C)) y == some none)=true)(hx:∀ C,L.contains C=true->XC KC.K (KC.cls C)):∀ C,L.contains C=true->XC KC.K (KC.cls C)/\aU KC.K (KC.cls C) y:=fun C hc=>⟨hx C hc,beq_iff_eq.mp (List.all_eq_true.mp h C (List.contains_iff_mem.mp hc))⟩
theorem o3{K:W.Frag}{D:Addr}(a:W.specialIn K (.ref D) "__getattribute__" = some (some (.builtin "type.__getattribute__")))(b:W.readsIn K D (.type "type")=true)(c:W.findCls K (.ref D) (.type "type") "__init__" = some (.val (.builtin "ValueError.__init__"))):xq K (.ref D) "ValueError" "ValueError.__init__" :=
 ⟨.inl ⟨D,rfl,a,b,c⟩,by decide +kernel,_,XB.of F.excBase_ValueError⟩
theorem i9{K:W.Frag}{x q:Str}{st:Stmt}{a cd:Addr}{pm:Value}(l:K.lookup a=some (Hd.fO x q st .none pm cd))(c:W.codeIn K (.ref cd) q=true)(k:W.keepIn K (.ref a)=true):∃ fd,jf K x q st a fd:=⟨_,L2.n5 l c k⟩
theorem dq{mg:Str->Option Value}{x:Str}{st:Stmt}{a cd:Addr}{pm:Value}{h:Heap}(X:KC.K.In h)(G:h.Ns mainGlobals mg)(l:KC.K.lookup a=some (Hd.fO x x st .none pm cd):=by kernel_rfl)(c:W.codeIn KC.K (.ref cd) x=true:=by kernel_rfl)(k:W.keepIn KC.K (.ref a)=true:=by kernel_rfl)(n:W.nsIn KC.K mainGlobals x=some (some (.ref a)):=by kernel_rfl):At mg x st :=
 let ⟨fd,U⟩:=i9 l c k; ⟨a,fd,U,W.mg_of X G n,k⟩
structure XT(K:W.Frag)(C:Addr)(B:String)(x:Str):Prop where
 xc:XC K C
 sub:W.mroIn K C (.type B)=some true
 no:aU K C x
end Xf
namespace cu
open PySem L2 Ex Dv
noncomputable def Ge:Cn->Addr
 | .PointError=>31
 | .NoPoints=>51
 | .NoBox=>70
 | .NoAsks=>89
 | .NoRun=>108
 | .NoText=>127
 | .NoTurn=>146
 | .NoTree=>158
 | .NoTop=>170
 | .NotServed=>182
 | .NoRow=>194
 | .NoPoint=>213
 | .NoName=>233
 | .NoKey=>253
 | .NoBack=>266
 | .TooMany=>286
 | .Points=>410
 | _=>0
section
variable{P:Program}{w:World}{K:W.Frag}{mg:Str->Option Value}{base:Heap}
theorem PC:aq ["self","number"] ["self","number"] (aa (L2.inClass (top 3) 0)):=⟨rfl,rfl,rfl,by decide +kernel,rfl,by decide +kernel,by decide +kernel⟩
theorem PD{f C D:Addr}{fd:FuncData}{ini:String}(F:jf K "__init__" "NoPoints.__init__" (L2.inClass (top 3) 0) f fd)(T:Xf.XT K C "ValueError" "number")(Z:xq K (.ref D) "ValueError" ini)(hm:mg "PointError" = some (.ref D)):a8 P w K mg base eK 1 f fd ["self","number"] (ze C "number"):=by
 refine F.ok PC (fun vs H Q E h=>?_) (fun cdv A outer s H vs Q E hr h=>?_)
 · obtain⟨a,v,fr,rfl,_⟩:=h
   rfl
 · obtain⟨a,v,fr,rfl,ha,k⟩:=h
   refine⟨_,t5 (wD (JS (gh (v:=.ref D) rfl hm rfl) Z (bp (pv 0) (bp Br dv)))) (t6 (JF (pv 0) (pv 1) rfl)),?_⟩
   refine⟨_,rfl,a,C,fr,_,rfl,ha,T.xc,T.sub,by decide,?_⟩
   exact⟨_,rfl,_,rfl,a,C,fr,rfl,T.xc,T.no,.inl ⟨ha,fun d hd ne=>k d hd ne⟩⟩
end
noncomputable def wa(K:W.Frag):Sp:=fun vs H Q _=>∃ (a:Addr) (ns:List Int),vs=[.ref a]/\bP K H a (ns.map V.int)/\ns.length<=63/\∀ H',Q (.bl true) H'
theorem PF[KC](vs:List V)(H:Hp)(Q:VK)(E:XK)(h:wa KC.K vs H Q E):cM sN vs H Q E:=by
 obtain⟨a,ns,rfl,hS,hl,hQ⟩:=h
 refine⟨H,[.bL ns],fun _ _ z=>z,.cons (.bL hS) .nil,?_⟩
 rw[Pp ns hl]
 intro x H' R' _ hx
 cases hx
 exact hQ H'
theorem all_mk{l:W.OpenLaw}{w:World}{h:Heap}{mg:Str->Option Value}{fa:Addr}(X:(KK w.params).In h)(G:h.Ns mainGlobals mg)(hfa:mg "law" = some (.ref fa)) :
 ∃ fd:FuncData,(∀ (s:Shared) (v:Value),BindsTo s fd ⟨[v],[]⟩ [("_law_script",v)])/\∀ base:Heap,(KK w.params).In base->base.Ns mainGlobals mg->a8 l.prog w (KK w.params) mg base eK 7 fa fd ["_law_script"] (wa (KK w.params)):=by
 letI:KC:=⟨KK w.params,Ge⟩
 have jA:∀ {n:Str},W.nsIn (KK w.params) mainGlobals n=some none->mg n=none:=fun z=>W.mg_none_of X G z
 have ft:∀ {n:Str} {v:Value},W.nsIn (KK w.params) mainGlobals n=some (some v)->mg n=some v:=fun z=>W.mg_of X G z
 have cl:bX.all (fun C=>Xf.mZ KC.K (KC.cls C) (Xf.mW C) (Xf.oZ C))=true:=by kernel_rfl
 have xc:∀ C,bX.contains C=true->XC KC.K (KC.cls C):=fun C hc=>(Xf.i8 cl hc).2.xc
 have xV:=Xf.o3 (K:=KK w.params) (D:=Ge .PointError) (by kernel_rfl) (by kernel_rfl) (by kernel_rfl)
 obtain⟨iR,eE⟩:=Xf.i8 cl (C:=.NoPoints) (by decide)
 obtain⟨gZ,eF⟩:=Xf.i9 (K:=KK w.params) (x := "__init__") (q := "NoPoints.__init__") (st:=(L2.inClass (top 3) 0)) (a:=48) (cd:=47) (pm:=cK) (by kernel_rfl) (by kernel_rfl) (by kernel_rfl)
 have M:Nm mg:=⟨jA (n := "bool") (by kernel_rfl),
  jA (n := "enumerate") (by kernel_rfl),
  jA (n := "int") (by kernel_rfl),
  jA (n := "isinstance") (by kernel_rfl),
  jA (n := "len") (by kernel_rfl),
  jA (n := "list") (by kernel_rfl),
  jA (n := "max") (by kernel_rfl),
  jA (n := "min") (by kernel_rfl),
  jA (n := "range") (by kernel_rfl),
  jA (n := "repr") (by kernel_rfl),
  jA (n := "set") (by kernel_rfl),
  jA (n := "sorted") (by kernel_rfl),
  jA (n := "tuple") (by kernel_rfl),
  ⟨566,ft (n := "LAST_KEY") (v:=.int 30 566) (by kernel_rfl)⟩,
  ⟨568,ft (n := "MOST_POINTS") (v:=.int 200 568) (by kernel_rfl)⟩,
  ft (n := "NoAsks") (v:=.ref 89) (by kernel_rfl),
  ft (n := "NoBack") (v:=.ref 266) (by kernel_rfl),
  ft (n := "NoBox") (v:=.ref 70) (by kernel_rfl),
  ft (n := "NoKey") (v:=.ref 253) (by kernel_rfl),
  ft (n := "NoName") (v:=.ref 233) (by kernel_rfl),
  ft (n := "NoPoint") (v:=.ref 213) (by kernel_rfl),
  ft (n := "NoPoints") (v:=.ref 51) (by kernel_rfl),
  ft (n := "NoRow") (v:=.ref 194) (by kernel_rfl),
  ft (n := "NoRun") (v:=.ref 108) (by kernel_rfl),
  ft (n := "NoText") (v:=.ref 127) (by kernel_rfl),
  ft (n := "NoTop") (v:=.ref 170) (by kernel_rfl),
  ft (n := "NoTree") (v:=.ref 158) (by kernel_rfl),
  ft (n := "NoTurn") (v:=.ref 146) (by kernel_rfl),
  ft (n := "NotServed") (v:=.ref 182) (by kernel_rfl),
  ft (n := "PointError") (v:=.ref 31) (by kernel_rfl),
  ft (n := "Points") (v:=.ref 410) (by kernel_rfl),
  ft (n := "TooMany") (v:=.ref 286) (by kernel_rfl),
  fun P w2 base=>⟨⟨48,gZ,JO F.excBase_ValueError (by decide +kernel) (XB.of F.excBase_ValueError) iR (by kernel_rfl) (by kernel_rfl),PD eF ⟨eE.xc,by kernel_rfl,by show W.findIn _ _ _=_;kernel_rfl⟩ xV (ft (by kernel_rfl)),eF.binds (ps:=["self","number"]) fun _ _ _ _ _ _ us hl=>match us,hl with | [_,_],_=>rfl⟩,eE⟩,
  Xf.a7 (by kernel_rfl) xc,
  Xf.a7 (by kernel_rfl) xc,
  Xf.a7 (by kernel_rfl) xc,
  Xf.a7 (by kernel_rfl) xc,
  Xf.a7 (by kernel_rfl) xc,
  Xf.a7 (by kernel_rfl) xc,
  Xf.a7 (by kernel_rfl) xc,
  Xf.a7 (by kernel_rfl) xc,
  Xf.a7 (by kernel_rfl) xc,
  Xf.a7 (by kernel_rfl) xc,
  Xf.a7 (by kernel_rfl) xc,
  Xf.a7 (by kernel_rfl) xc,
  Xf.a7 (by kernel_rfl) xc,
  Xf.a7 (by kernel_rfl) xc,
  Xf.a7 (by kernel_rfl) xc,
  Xf.a7 (by kernel_rfl) xc,
  Xf.tN (by kernel_rfl),
  Xf.tO (by kernel_rfl) xc,
  ⟨_,(by kernel_rfl:KC.K.lookup 1=some (Hd.dO w.params [Hd.de "builtins" 162 (.ref 4),Hd.de "__main__" 163 (.ref 5)] 2)),rfl⟩,
  ⟨by kernel_rfl,by kernel_rfl,by kernel_rfl,by kernel_rfl⟩,
  (by show W.findIn _ _ _=_;kernel_rfl)⟩
 have T:gP mg:=⟨Xf.dq (a:=315) (cd:=314) (pm:=ie) X G,
  Xf.dq (a:=296) (cd:=295) (pm:=ie) X G,
  Xf.dq (a:=303) (cd:=302) (pm:=ie) X G,
  Xf.dq (a:=310) (cd:=309) (pm:=ie) X G,
  ⟨330,(.ref 323),.none,.none,ie,.ref 329,.none,.type "function",none,none, #[],by kernel_rfl,by kernel_rfl,⟨by kernel_rfl,by kernel_rfl,by kernel_rfl,by kernel_rfl⟩,(fun s us X hl=>match us,hl with | [_,_],_=>W.kp_binds X fun S=>by kernel_rfl),(fun s us X hl=>match us,hl with | [_],_=>W.kp_binds X fun S=>by kernel_rfl | [],h=>by simp at h | _::_::_,h=>by simp at h),(fun s a us X hl=>match us,hl with | [_],_=>W.kp_binds X fun S=>by kernel_rfl | [],h=>by simp at h | _::_::_,h=>by simp at h)⟩,
  (let ⟨fd,U⟩:=Xf.i9 (K:=KK w.params) (x := "points") (q := "Points.points") (st:=qr) (a:=337) (cd:=336) (pm:=ie) (by kernel_rfl) (by kernel_rfl) (by kernel_rfl); ⟨337,fd,U,⟨by kernel_rfl,by kernel_rfl,by kernel_rfl⟩⟩),
  Xf.dq (a:=435) (cd:=434) (pm:=pm0) X G,
  Xf.dq (a:=468) (cd:=467) (pm:=pm0) X G,
  Xf.dq (a:=442) (cd:=441) (pm:=pm0) X G,
  Xf.dq (a:=421) (cd:=420) (pm:=pm0) X G,
  Xf.dq (a:=428) (cd:=427) (pm:=pm0) X G,
  Xf.dq (a:=447) (cd:=446) (pm:=pm0) X G,
  Xf.dq (a:=454) (cd:=453) (pm:=pm0) X G,
  Xf.dq (a:=461) (cd:=460) (pm:=pm0) X G,
  Xf.dq (a:=473) (cd:=472) (pm:=pm0) X G⟩
 obtain⟨d,U⟩:=Xf.i9 (K:=KK w.params) (x := "law") (q := "law") (st:=mV) (a:=473) (cd:=472) (pm:=pm0) (by kernel_rfl) (by kernel_rfl) (by kernel_rfl)
 have e:mg "law" = some (.ref 473):=ft (by kernel_rfl)
 rw[hfa] at e
 cases e
 refine⟨d,fun s v=>?_,fun base _ _=>(Pn T M U).imp fun vs H Q E q=>PF vs H Q E q⟩
 obtain⟨oc,od,kV,doc,pm,an,cdv,ct,osl,e,_,_⟩:=U.ex
 rw[e]
 exact .of_eq rfl
end cu
namespace cu
open PySem L2 Ex
theorem walk{l:W.OpenLaw}{q:Program}{loose:List Str}{XP:(Str->Option Value)->Heap->Prop}{YP:World->Heap->Prop}{d:DefRec}{K:Params->W.Frag}(hn:l.most=some 63)(hdf:d.params.defaults=[])
 (hY:∀ (w:World) (h:Heap),YP w h->(K w.params).In h)
 (F:∀ (w:World) (mg:Str->Option Value) (fa:Addr) (h:Heap),(K w.params).In h->h.Ns mainGlobals mg->mg d.name=some (.ref fa) ->
  ∃ fd:FuncData,(∀ (s:Shared) (u:Value),BindsTo s fd ⟨[u],[]⟩ [("_law_script",u)])/\∀ base:Heap,(K w.params).In base->base.Ns mainGlobals mg->a8 l.prog w (K w.params) mg base eK 7 fa fd ["_law_script"] (wa (K w.params))) :
 W.WalkO q loose XP YP l.row.toRowW d [] (fun f vs=>PySem.call f vs) :=
 L2.lO (n:=63) (k:=7) (x := "_law_script") (CX:=fun _=>eK) (sp:=fun w=>wa (K w.params)) hn (by decide) hdf ⟨rfl,by decide,by decide,rfl⟩ hY F (fun _ _ a ns hl _ hS=>⟨a,ns,rfl,hS,hl,fun _=>rfl⟩) fun _ _ _ _ _ z=>z
end cu
open PySem PySem.W PyProof.Rows
set_option maxRecDepth 100000 in
set_option maxHeartbeats 0 in
theorem PySem.Challenge.cw_thirdpoint_k01_points_made_holds : PySem.Challenge.rw_thirdpoint_k01_points_made.Holds := by
 w_on;o_law
 refine PySem.W.holds_open (q:=view PySem.Challenge.pw_thirdpoint_k01_points_made cu.fK) (Yf:=Hook.obs (kHook cu.KK cu.nK cu.eD)) (Ya:=Hook.val (kHook cu.KK cu.nK cu.eD)) (YP:=Hook.says (kHook cu.KK cu.nK cu.eD)) cu.left (Hook.of (kHook cu.KK cu.nK cu.eD)) (Hook.keeps (kHook cu.KK cu.nK cu.eD)) (fun s e=>xl_of s (Bool.and_eq_true_iff.mp e).1) XL.keeps (by rfl) (by rfl) (by rfl) (fun s e=>recFacts_of (Bool.and_eq_true_iff.mp e).2) (by rfl) (by first | assumption | decide +kernel) (by decide +kernel) ⟨rfl,rfl,rfl,rfl,rfl,by decide +kernel⟩ ?hw ?hc
 case hw=>w_witness2
 case hc=>exact cu.walk (l:=PySem.Challenge.rw_thirdpoint_k01_points_made) rfl rfl (fun w h Y=>PySem.W.kIn_of Y) fun w mg fa h KX G hmg=>cu.all_mk KX G hmg
