import PyProof.Rows.All
import PyProof.ForAny
import PyProof.TupleKey
import Wide.All
import OpenK.AllK
import Wide.FinOn
import Lean
import PyProof.EqAt
import PyProof.EqKinds
import PyProof.TupleCall
import PyProof.ExcClass3
import PyProof.ExcArgsOwn
import PyProof.InstStoreFacts
import PyProof.NsDelKeeps
import PyProof.CompUse
import PyProof.ConsumeWalk
import PyProof.ReprRoads
import PyProof.ReprBulk
import PyProof.ZipIter
import PyProof.TupleIter
import PyProof.EqLayable
import PyProof.EnumMake
import PyProof.EnumFor
import PyProof.WalkInts
import PyProof.SeqI3
import PyProof.Rows.SeqJoint
import PyProof.Rows.SortWalk
import PyProof.Rows.Range3
import KE.KSortTup
import PyProof.P3Eq
import PySem.Challenge.RW_thirdpoint_k06_thirds_told
set_option Elab.async false
set_option linter.all false
set_option maxRecDepth 100000
set_option maxHeartbeats 8000000
noncomputable section
namespace St
open PySem
def zfM(xs:Array Nat):Prop:=xs.toList.Pairwise (· < ·)
theorem znX(xs:Array Nat)(j:Nat)(hr:zfM xs):∀ (fuel lo hi:Nat),hi - lo<=fuel->lo<=hi->hi<=xs.size->(∀ i,i<lo->xs.getD i j<j)->(∀ i,hi<=i->i<xs.size->j<=xs.getD i j) ->
 let p:=SetTable.below.go xs j fuel lo hi
 p<=xs.size/\(∀ i,i<p->xs.getD i j<j)/\∀ i,p<=i->i<xs.size->j<=xs.getD i j:=by
 have mono:∀ a b,a<=b->b<xs.size->xs.getD a j<=xs.getD b j:=fun a b h hb=>by
  rcases Nat.lt_or_ge a b with h1 | h1
  · have:=(List.pairwise_iff_getElem.mp hr) a b (by simpa using Nat.lt_trans h1 hb) (by simpa using hb) h1
    simp only[Array.getElem_toList] at this
    rw[Array.getD_eq_getD_getElem?,Array.getD_eq_getD_getElem?,Array.getElem?_eq_getElem hb,Array.getElem?_eq_getElem (Nat.lt_trans h1 hb)]
    exact Nat.le_of_lt this
  · have:a=b:=by omega
    subst this;exact Nat.le_refl _
 intro fuel
 induction fuel with
 |zero =>
   intro lo hi h1 h2 h3 h4 h5
   have:lo=hi:=by omega
   subst this
   exact⟨h3,h4,h5⟩
 |succ f ih =>
   intro lo hi h1 h2 h3 h4 h5
   dsimp only
   unfold SetTable.below.go
   by_cases c:lo<hi
   · rw[if_pos c]
     dsimp only
     by_cases c2:xs.getD ((lo+hi) / 2) j<j
     · rw[if_pos c2]
       exact ih _ _ (by omega) (by omega) h3 (fun i hi'=>Nat.lt_of_le_of_lt (mono i _ (by omega) (by omega)) c2) h5
     · rw[if_neg c2]
       exact ih _ _ (by omega) (by omega) (by omega) h4 (fun i hi' hs=>Nat.le_trans (Nat.le_of_not_lt c2) (mono _ i hi' hs))
   · rw[if_neg c]
     have:lo=hi:=by omega
     subst this
     exact⟨h3,h4,h5⟩
theorem zdD{xs:Array Nat}(hr:zfM xs)(j:Nat):SetTable.below xs j<=xs.size/\(∀ i,i<SetTable.below xs j->xs.getD i j<j)/\∀ i,SetTable.below xs j<=i->i<xs.size->j<=xs.getD i j :=
 znX xs j hr xs.size 0 xs.size (by omega) (Nat.zero_le _) (Nat.le_refl _) (fun i h=>absurd h (Nat.not_lt_zero _)) (fun i h1 h2=>absurd h2 (Nat.not_lt_of_le h1))
theorem zb8{xs:Array Nat}{i j:Nat}(h:i<xs.size):xs.getD i j=xs[i]:=by
 rw[Array.getD_eq_getD_getElem?,Array.getElem?_eq_getElem h];rfl
theorem zhK{xs:Array Nat}(hr:zfM xs){j:Nat}(hj:xs[SetTable.below xs j]? ≠ some j):zfM (SetTable.insertAt xs (SetTable.below xs j) j):=by
 obtain⟨h1,h2,h3⟩:=zdD hr j
 have hr':=hr
 unfold zfM at hr ⊢
 rw[SetTable.toList_insertAt]
 have hs:(xs.toList.take (SetTable.below xs j)++xs.toList.drop (SetTable.below xs j)).Pairwise (· < ·):=by rw[List.take_append_drop];exact hr
 rw[List.pairwise_append] at hs ⊢
 have lo:∀ a∈xs.toList.take (SetTable.below xs j),a<j:=fun a ha=>by
  obtain⟨i,hi,rfl⟩:=List.mem_iff_getElem.mp ha
  have hi':i<SetTable.below xs j/\i<xs.size:=by simp at hi;omega
  have:=h2 i hi'.1
  rw[zb8 hi'.2] at this
  simpa using this
 have hi:∀ a∈xs.toList.drop (SetTable.below xs j),j<a:=fun a ha=>by
  obtain⟨i,hi,rfl⟩:=List.mem_iff_getElem.mp ha
  have hi':SetTable.below xs j+i<xs.size:=by simp at hi;omega
  have hb:SetTable.below xs j<xs.size:=by omega
  have l1:=h3 (SetTable.below xs j) (Nat.le_refl _) hb
  rw[zb8 hb] at l1
  have l2:xs[SetTable.below xs j]≠j:=fun e=>hj (by rw[Array.getElem?_eq_getElem hb,e])
  have l3:=h3 (SetTable.below xs j+i) (Nat.le_add_right _ _) hi'
  rw[zb8 hi'] at l3
  simp only[List.getElem_drop,Array.getElem_toList]
  rcases Nat.eq_zero_or_pos i with z | z
  · subst z
    exact Nat.lt_of_le_of_ne l1 (Ne.symm l2)
  · have:=(List.pairwise_iff_getElem.mp hr) (SetTable.below xs j) (SetTable.below xs j+i) (by simpa using hb) (by simpa using hi') (by omega)
    simp only[Array.getElem_toList] at this
    omega
 refine⟨hs.1,List.pairwise_cons.mpr ⟨hi,hs.2.1⟩,fun a ha b hb=>?_⟩
 rcases List.mem_cons.1 hb with rfl | hb
 · exact lo a ha
 · exact Nat.lt_trans (lo a ha) (hi b hb)
theorem zme(j:Nat):SetTable.has #[] j=false:=by
 unfold SetTable.has
 simp
theorem zj7{t:SetTable}(hd:t.dummies = #[]){j:Nat}(h:t.slot j = .empty):t.place[SetTable.below t.place j]? ≠ some j:=by
 unfold SetTable.slot at h
 dsimp only at h
 intro e
 rw[e] at h
 simp at h
theorem zbK{t:SetTable}(hd:t.dummies = #[])(j:Nat):t.slot j ≠ .dummy:=by
 unfold SetTable.slot
 dsimp only
 rw[hd,zme]
 split
 · intro h;cases h
 · intro h;cases h
theorem zl4{t:SetTable}(hd:t.dummies = #[])(f:Nat->Int)(h:Int):∀ (n:Nat) (p:SetTable.Probe) (j:Nat) (d:Option Nat),p.dummy=none->SetTable.probe.go t f h n p=some (.empty j d)->d=none/\t.slot j = .empty:=by
 intro n
 induction n with
 |zero=>intro p j d _ e;cases e
 |succ n ih =>
   intro p j d hp e
   unfold SetTable.probe.go at e
   split at e
   · rename_i q
     cases e
     exact⟨hp,q⟩
   · rename_i q
     exact absurd q (zbK hd _)
   · rename_i i q
     split at e
     · cases e
     · refine ih _ j d ?_ e
       unfold SetTable.advance
       split
       · exact hp
       · exact hp
structure Hon(t:SetTable)(B:Bool):Prop where
 rise:zfM t.place
 dum:t.dummies = #[]
 led:t.led = !B
theorem zkm(owner:Array (Option Nat))(n:Nat):((((List.range n).filterMap fun j=>(owner.getD j none).map (j, ·)).map (·.1)).toArray).toList.Pairwise (· < ·):=by
 have e:(((List.range n).filterMap fun j=>(owner.getD j none).map (j, ·)).map (·.1))=(List.range n).filter fun j=>(owner.getD j none).isSome:=by
  induction List.range n with
  |nil=>rfl
  |cons a r ih =>
    rw[List.filterMap_cons,List.filter_cons]
    cases q:owner.getD a none with
    |none=>simpa [q] using ih
    |some b=>simpa [q] using ih
 rw[e]
 exact List.Pairwise.sublist List.filter_sublist List.pairwise_lt_range
theorem Hon.fresh(B:Bool):Hon (.fresh 0 0 (!B)) B:=⟨List.Pairwise.nil,rfl,rfl⟩
end St
namespace St
open PySem PyProof.Rows
def setO(es:Array (Int×Value))(ep:Nat)(t:SetTable):Obj:={ cls:=.type "set",dict:=none,data:=.set es ep t,slots := #[] }
section
variable{prog:Program}{w:World}{A:Around}{E:Value->Shared->Prop}{s:Shared}
theorem zjv{h:Heap}{a:Addr}{es es':Array (Int×Value)}{ep:Nat}{t t':SetTable}(e:h.get? a=some (setO es ep t)):(h.update a (Obj.putSet es' t')).get? a=some (setO es' (ep+1) t') :=
 Heap.get?_update_self (Obj.putSet es' t') e rfl
end
end St
namespace St
open PySem PyProof.Rows PySem.Spec
section
variable{prog:Program}{w:World}{A:Around}{E:Value->Shared->Prop}{s:Shared}
theorem zm3(a:Value){Q₁:Value->Shared->Prop}(h:Q₁ (.ref s.heap.objs.size) { s with heap:=s.heap.push (setO #[] 0 (.fresh 0 0 (!(w.params.followText "set-order")))) }) :
 codeAny (model prog w) A (.call (.builtin "set.__new__") ⟨[.type "set",a],[]⟩) (wants Q₁ E) s:=by
 have self:=sub_set_self
 refine codeAny_call_builtin F.plain_set_new F.entry_set_new (by
  rw[F.newCall_set_1 a]
  refine wpAny_pure ?_
  unfold Builtin.«set.__new__»
  unfold Builtin.Frozenset.newClass
  cases s
  dsimp only
  wp_walk
  refine wpAny_askSetting ?_
  refine wpAny_pure ?_
  refine wpAny_bind ?_
  exact wpAny_alloc (wpAny_pure (wpAny_pure h)))
theorem zg8{Q₁:Value->Shared->Prop}{R:Result->Shared->Prop}(h:∀ v s,Q₁ v s->R (.ok (.ret v)) s)(he:∀ e s,E e s->R (.error e) s):∀ r s,wants Q₁ E r s->R r s:=by
 intro r s hr
 cases r with
 |error e=>exact he e s hr
 |ok f=>cases f<;>first | exact h _ _ hr | exact hr.elim
theorem zlY{l:Addr}{Q:Value->Shared->Prop}{O:Obj}(hO:setO #[] 0 (.fresh 0 0 (!(w.params.followText "set-order")))=O)
 (h:wpAny (model prog w) A.in1.in1 (Builtin.«set.__init__» ⟨[.ref s.heap.objs.size,.ref l],[]⟩) (fun fin s'=>match fin with
  | .done f=>wants (fun r s2=>r = .none/\Q (.ref s.heap.objs.size) s2) E (.ok f) s'
  | .again c'=>c'.quiet=true/\codeAny (model prog w) A.in1 c' (wants (fun r s2=>r = .none/\Q (.ref s.heap.objs.size) s2) E) s')
  (fun e s'=>wants (fun r s2=>r = .none/\Q (.ref s.heap.objs.size) s2) E (.error e) s') { s with heap:=s.heap.push O }):wpAny (model prog w) A (call (.type "set") [.ref l]) Q E s:=by
 obtain⟨f1,f2,⟨c,tl,f3⟩,f4,f5,f6,f7⟩:=F.called_set
 have f8:=F.typeCall_set_1 (.ref l)
 have f9:=f7.lookup
 have fa:=f7.bind (.ref s.heap.objs.size)
 have made:=zm3 (prog:=prog) (w:=w) (A:=A.in1) (E:=E) (s:=s) (.ref l) (Q₁:=fun v s1=>v = .ref s.heap.objs.size/\s1={ s with heap:=s.heap.push O }) ⟨rfl,by rw[hO]⟩
 have hT:Shared.TypeIs { s with heap:=s.heap.push O } (.ref s.heap.objs.size) "set" := ⟨O,Heap.get?_push_size _ (by rw[<- hO];rfl),by rw[<- hO];rfl⟩
 have ini:=codeAny_call_builtin f7.plain F.entry_set_init (check_set_init_1 (M:=model prog w) hT h)
 refine wpAny_call (codeAny_of_tree (show wpAny _ _ (callAny (.type "set") _) _ _ _ from wpAny_pure ⟨Code.quiet_builtin _ (by decide +kernel),codeAny_builtin F.entry_type_call (by
  rw[Around.under_plain (weight_type_call_type "set" _ []) rfl]
  repeat (any_goals (first | wp_step | assumption))
  refine codeAny_mono made (zg8 ?_ fun _ _ z=>z)
  rintro v s1 ⟨rfl,rfl⟩
  repeat (any_goals (first | wp_step | assumption))
  refine codeAny_mono ini (zg8 ?_ fun _ _ z=>z)
  rintro v s2 ⟨rfl,q⟩
  repeat (any_goals (first | wp_step | assumption)))⟩))
end
theorem sl_next:Slot "set_iterator" "__next__" "set_iterator.__next__" :=
 .of (owner := "set_iterator") (n := "__next__") (by rw[typeLookup_type,builtinLookup_eq_fast];kernel_rfl) (by decide +kernel) (by decide +kernel) (by decide +kernel) (by first | exact .inl (by decide +kernel) | exact .inr (by decide +kernel)) (by rw[isSubtype_type];kernel_rfl)
theorem zjx:Slot "set_iterator" "__iter__" "set_iterator.__iter__" :=
 .of (owner := "set_iterator") (n := "__iter__") (by rw[typeLookup_type,builtinLookup_eq_fast];kernel_rfl) (by decide +kernel) (by decide +kernel) (by decide +kernel) (by first | exact .inl (by decide +kernel) | exact .inr (by decide +kernel)) (by rw[isSubtype_type];kernel_rfl)
theorem zeJ:entryFor table "set_iterator.__next__" = some Builtin.«set_iterator.__next__» := entryFor_of_tree (by kernel_rfl)
theorem zm5:entryFor table "set_iterator.__iter__" = some Builtin.«dict_keyiterator.__iter__» := entryFor_alias (id' := "dict_keyiterator.__iter__") (by kernel_rfl) rfl (by decide +kernel) (by kernel_rfl)
theorem zmv:entryFor table "set.__iter__" = some Builtin.«frozenset.__iter__» := entryFor_alias (id' := "frozenset.__iter__") (by kernel_rfl) rfl (by decide +kernel) (by kernel_rfl)
theorem zeG(a:Value):argsOk "set_iterator.__next__" ⟨[a],[]⟩:=by unfold argsOk;kernel_rfl
theorem znO(a:Value):argsOk "set_iterator.__iter__" ⟨[a],[]⟩:=by unfold argsOk;kernel_rfl
def itO(f:Value)(i:Nat)(a:Addr)(n ep:Nat):Obj:={ cls:=.type "set_iterator",dict:=none,data:=.fields #[f,.int i 0,.ref a,.int n 0,.int ep 0],slots := #[] }
section
variable{prog:Program}{w:World}{A:Around}{E:Value->Shared->Prop}{s:Shared}{I a:Addr}{es:Array (Int×Value)}{ep i n:Nat}{t:SetTable}{f:Value}{Q:Option Value->Shared->Prop}
theorem stops{s:Shared}{I:Addr}{P:Fin->Shared->Prop}(hh:A.handled=none)(hQ:∀ h',(∀ b o,b≠I->s.heap.get? b=some o->h'.get? b=some o)->Q none { s with heap:=h' }) :
 wpAny (model prog w) A.in1 (do raiseNew (<- newExc (.type "StopIteration") []):Sem Fin) P (fun e s1=>wpAny (model prog w) A (do if <- isInstance e (.type "StopIteration") then pure none else throw e) Q E s1) s:=by
 refine wpAny_bind ?_
 unfold newExc newTuple
 refine wpAny_bind (wpAny_newObj_type (wpAny_bind (m:=firstArgMember _ _) (wpAny_of_eq (a:=Value.none) (by simp only[firstArgMember];rfl) (wpAny_newObj_type ?_ (by size_fits)))) (by size_fits))
 exact wpAny_raiseNew_none hh (wpAny_bind (wpAny_isInstance (T := "StopIteration") ⟨_,Heap.get?_push_size _ rfl,rfl⟩ isSubtype_stop (wpAny_pure (hQ _ fun b o _ e=>Heap.get?_push_of_some _ (Heap.get?_push_of_some _ e)))))
theorem zmj{slot nxt:Nat}{x:Value}(hI:s.heap.get? I=some (itO (.int slot 0) i a es.size ep))(ha:s.heap.get? a=some (setO es ep t))(hf:t.fits es.size=true)
 (hN:∀ {Q':Option (Value×Nat)->Shared->Prop} {E'},Q' (some (x,nxt)) s->wpAny (model prog w) A.in1 (setNext a slot i ep) Q' E' s)
 (hQ:∀ h',h'.get? I=some (itO (.int nxt 0) (i+1) a es.size ep)->(∀ b o,b≠I->s.heap.get? b=some o->h'.get? b=some o)->Q (some x) { s with heap:=h' }):wpAny (model prog w) A (pyNext (.ref I)) Q E s:=by
 have hTy:Shared.TypeIs _ (.ref I) "set_iterator" := ⟨_,hI,rfl⟩
 unfold pyNext
 refine wpAny_bind (wpAny_attempt (wpAny_callSpecial?_slot (name:=Str.ofString "__next__") hTy sl_next (wpAny_call_entry sl_next hTy zeJ ?_ (zeG _))))
 show wpAny _ _ (fieldsOf (.ref I) >>= _) _ _ _
 refine wpAny_bind (wpAny_fieldsOf hI rfl ?_)
 show wpAny _ _ (setEntries a >>= _) _ _ _
 refine wpAny_bind (wpAny_setEntries_of ha rfl hf ?_)
 rw[if_neg (by simp)]
 dsimp only
 refine wpAny_bind (hN ?_)
 dsimp only
 refine wpAny_bind (wpAny_setField_rec hI (by simp) fun h1 g1 sb1=>?_)
 refine wpAny_bind (wpAny_setField_rec g1 (by simp) fun h2 g2 sb2=>?_)
 exact wpAny_pure ⟨_,rfl,wpAny_pure (hQ h2 g2 fun b o hb e=>sb2.extBut b o hb (sb1.extBut b o hb e))⟩
theorem zlW{slot:Nat}(hh:A.handled=none)(hI:s.heap.get? I=some (itO (.int slot 0) i a es.size ep))(ha:s.heap.get? a=some (setO es ep t))(hf:t.fits es.size=true)
 (hN:∀ {Q':Option (Value×Nat)->Shared->Prop} {E'},Q' none s->wpAny (model prog w) A.in1 (setNext a slot i ep) Q' E' s)
 (hQ:∀ h',(∀ b o,b≠I->s.heap.get? b=some o->h'.get? b=some o)->Q none { s with heap:=h' }):wpAny (model prog w) A (pyNext (.ref I)) Q E s:=by
 have hTy:Shared.TypeIs _ (.ref I) "set_iterator" := ⟨_,hI,rfl⟩
 unfold pyNext
 refine wpAny_bind (wpAny_attempt (wpAny_callSpecial?_slot (name:=Str.ofString "__next__") hTy sl_next (wpAny_call_entry sl_next hTy zeJ ?_ (zeG _))))
 show wpAny _ _ (fieldsOf (.ref I) >>= _) _ _ _
 refine wpAny_bind (wpAny_fieldsOf hI rfl ?_)
 show wpAny _ _ (setEntries a >>= _) _ _ _
 refine wpAny_bind (wpAny_setEntries_of ha rfl hf ?_)
 rw[if_neg (by simp)]
 dsimp only
 refine wpAny_bind (hN ?_)
 dsimp only
 refine wpAny_bind (wpAny_setField_rec hI (by simp) fun h1 g1 sb1=>?_)
 exact stops (I:=I) hh fun h' k=>hQ h' fun b o hb e=>k b o hb (sb1.extBut b o hb e)
theorem zl9{T:Addr}{ps:Array Value}{c p:Nat}{x:Int×Value}(hI:s.heap.get? I=some (itO (.ref T) i a es.size ep))(ha:s.heap.get? a=some (setO es ep t))(hf:t.fits es.size=true)
 (hT:s.heap.get? T=some { cls:=.type "tuple",dict:=none,data:=.seq ps c,slots := #[] }) (hp:ps[i]? = some (.int p 0)) (hx:es[p]? = some x)
 (hQ:∀ h',h'.get? I=some (itO (.ref T) (i+1) a es.size ep)->(∀ b o,b≠I->s.heap.get? b=some o->h'.get? b=some o)->Q (some x.2) { s with heap:=h' }):wpAny (model prog w) A (pyNext (.ref I)) Q E s:=by
 have hTy:Shared.TypeIs _ (.ref I) "set_iterator" := ⟨_,hI,rfl⟩
 unfold pyNext
 refine wpAny_bind (wpAny_attempt (wpAny_callSpecial?_slot (name:=Str.ofString "__next__") hTy sl_next (wpAny_call_entry sl_next hTy zeJ ?_ (zeG _))))
 show wpAny _ _ (fieldsOf (.ref I) >>= _) _ _ _
 refine wpAny_bind (wpAny_fieldsOf hI rfl ?_)
 show wpAny _ _ (setEntries a >>= _) _ _ _
 refine wpAny_bind (wpAny_setEntries_of ha rfl hf ?_)
 rw[if_neg (by simp)]
 dsimp only
 refine wpAny_bind (wpAny_seqItems hT rfl ?_)
 simp only[Int.toNat_natCast,hp]
 refine wpAny_bind ?_
 unfold setNextDrawn
 refine wpAny_bind (wpAny_setState_of ha rfl hf ?_)
 dsimp only
 rw[if_neg (by simp)]
 simp only[Int.toNat_natCast,hx]
 refine wpAny_pure ?_
 refine wpAny_bind (wpAny_setField_rec hI (by simp) fun h1 g1 sb1=>?_)
 exact wpAny_pure ⟨_,rfl,wpAny_pure (hQ h1 g1 fun b o hb e=>sb1.extBut b o hb e)⟩
theorem zmm{T:Addr}{ps:Array Value}{c:Nat}(hh:A.handled=none)(hI:s.heap.get? I=some (itO (.ref T) i a es.size ep))(ha:s.heap.get? a=some (setO es ep t))(hf:t.fits es.size=true)
 (hT:s.heap.get? T=some { cls:=.type "tuple",dict:=none,data:=.seq ps c,slots := #[] }) (hp:ps[i]? = none)
 (hQ:∀ h',(∀ b o,b≠I->s.heap.get? b=some o->h'.get? b=some o)->Q none { s with heap:=h' }):wpAny (model prog w) A (pyNext (.ref I)) Q E s:=by
 have hTy:Shared.TypeIs _ (.ref I) "set_iterator" := ⟨_,hI,rfl⟩
 unfold pyNext
 refine wpAny_bind (wpAny_attempt (wpAny_callSpecial?_slot (name:=Str.ofString "__next__") hTy sl_next (wpAny_call_entry sl_next hTy zeJ ?_ (zeG _))))
 show wpAny _ _ (fieldsOf (.ref I) >>= _) _ _ _
 refine wpAny_bind (wpAny_fieldsOf hI rfl ?_)
 show wpAny _ _ (setEntries a >>= _) _ _ _
 refine wpAny_bind (wpAny_setEntries_of ha rfl hf ?_)
 rw[if_neg (by simp)]
 dsimp only
 refine wpAny_bind (wpAny_seqItems hT rfl ?_)
 simp only[Int.toNat_natCast,hp]
 refine wpAny_bind (wpAny_setField_rec hI (by simp) fun h1 g1 sb1=>?_)
 refine wpAny_bind (wpAny_setField_rec g1 (by simp) fun h2 g2 sb2=>?_)
 exact stops (I:=I) hh fun h' k=>hQ h' fun b o hb e=>k b o hb (sb2.extBut b o hb (sb1.extBut b o hb e))
theorem zf8{Q:Value->Shared->Prop}(hI:s.heap.get? I=some (itO f i a n ep))(hQ:Q (.ref I) s):wpAny (model prog w) A (pyIter (.ref I)) Q E s:=by
 have hT:s.TypeIs (.ref I) "set_iterator" := ⟨_,hI,rfl⟩
 refine wpAny_pyIter_slot hT zjx (wpAny_call_entry zjx hT zm5 ?_ (znO _))
 exact wpAny_pure ⟨_,rfl,"set_iterator",_,hT,sl_next.lookup,hQ⟩
end
theorem zeR{α:Type}{l:List α}{i:Nat}(h:i<l.length):(l[i]::l.eraseIdx i).Perm l:=by
 rw[List.eraseIdx_eq_take_drop_succ]
 refine List.perm_middle.symm.trans ?_
 rw[<- List.drop_eq_getElem_cons h,List.take_append_drop]
theorem znY{α:Type}(next:Nat->Nat):∀ (fuel k:Nat) (left:List α) (out:Array α),fuel=left.length->((pickOrder.go next fuel k left out).toList).Perm (out.toList++left):=by
 intro fuel
 induction fuel with
 |zero =>
   intro k left out h
   have:left=[]:=List.length_eq_zero_iff.mp h.symm
   subst this
   unfold pickOrder.go
   simp
 |succ f ih =>
   intro k left out h
   unfold pickOrder.go
   have hlt:next k % left.length<left.length:=Nat.mod_lt _ (by omega)
   rw[List.getElem?_eq_getElem hlt]
   dsimp only
   refine(ih (k+1) _ _ (by rw[List.length_eraseIdx_of_lt hlt];omega)).trans ?_
   rw[Array.toList_push,List.append_assoc]
   exact List.Perm.append_left _ (zeR hlt)
theorem zkP{α:Type}(next:Nat->Nat)(xs:Array α):(pickOrder next xs).toList.Perm xs.toList:=by
 have:=znY next xs.size 0 xs.toList #[] (by simp)
 simpa [pickOrder] using this
section
variable{prog:Program}{w:World}{A:Around}{E:Value->Shared->Prop}{s:Shared}{I a:Addr}{es:Array (Int×Value)}{ep n:Nat}{t:SetTable}
theorem zkE{src:Source}{n:Nat}(hn:n≠0){Q:Nat->Shared->Prop}(h:∀ i d,i<n->Q i { s with drawn:=d }):wpAny (model prog w) A (choose src n) Q E s:=by
 intro Γ p hΓ
 unfold choose
 rw[Sem.wp_choose]
 refine⟨hn,?_⟩
 exact h _ _ (Nat.mod_lt _ (Nat.pos_of_ne_zero hn))
theorem znM{α:Type}:∀ (n:Nat) (xs:List α) (s:Shared) (Q:List α->Shared->Prop),n=xs.length->(∀ l d,l.Perm xs->Q l { s with drawn:=d })->wpAny (model prog w) A (drawOrder n xs) Q E s:=by
 intro n
 induction n with
 |zero =>
   intro xs s Q h q
   have:xs=[]:=List.length_eq_zero_iff.mp h.symm
   subst this
   unfold drawOrder
   exact wpAny_pure (q [] s.drawn .nil)
 |succ n ih =>
   intro xs s Q h q
   cases xs with
   |nil=>cases h
   |cons x r =>
     unfold drawOrder
     refine wpAny_bind (zkE (by simp) fun i d hi=>?_)
     rw[List.getElem?_eq_getElem hi]
     dsimp only
     refine wpAny_bind (ih _ _ _ (by rw[List.length_eraseIdx_of_lt hi];simp at h ⊢;omega) fun l d' pl=>?_)
     exact wpAny_pure (q _ d' ((List.Perm.cons _ pl).trans (zeR hi)))
def pos(xs:Array Nat):Nat->Nat
 | 0=>0
 |k+1=>xs.getD k 0+1
theorem zf0{xs:Array Nat}(hr:zfM xs){i:Nat}(hi:i<=xs.size):SetTable.below xs (pos xs i)=i:=by
 obtain⟨h1,h2,h3⟩:=zdD hr (pos xs i)
 generalize SetTable.below xs (pos xs i)=p at h1 h2 h3
 cases i with
 |zero =>
   rcases Nat.eq_zero_or_pos p with z | z
   · exact z
   · exact absurd (h2 0 z) (Nat.not_lt_zero _)
 |succ k =>
   have hk:k<xs.size:=hi
   have ek:pos xs (k+1)=xs[k]+1:=by show xs.getD k 0+1=_;rw[zb8 hk]
   rw[ek] at h2 h3
   have lt:∀ a b (ha:a<b) (hb:b<xs.size),xs[a]<xs[b]:=fun a b ha hb=>by
    have:=(List.pairwise_iff_getElem.mp hr) a b (by simpa using Nat.lt_trans ha hb) (by simpa using hb) ha
    simpa using this
   have a1:k<p:=Nat.lt_of_not_le fun z=>by
    have:=h3 k z hk
    rw[zb8 hk] at this
    omega
   have a2:p<=k+1:=Nat.le_of_not_lt fun z=>by
    have l1:=h2 (k+1) z
    have hk1:k+1<xs.size:=by omega
    rw[zb8 hk1] at l1
    have:=lt k (k+1) (Nat.lt_succ_self _) hk1
    omega
   omega
theorem zfY(ha:s.heap.get? a=some (setO es ep t))(hf:t.fits es.size=true)(hB:w.params.followText "set-order" = true){slot i:Nat}{Q:Option (Value×Nat)->Shared->Prop}
 (h:Q (((pickOrder (w.params.setOrder a ep) es)[i]?).map fun e=>(e.2,slot)) s):wpAny (model prog w) A (setNext a slot i ep) Q E s:=by
 unfold setNext
 refine wpAny_bind (wpAny_setState_of ha rfl hf ?_)
 dsimp only
 refine wpAny_bind ?_
 unfold setsByText
 refine wpAny_bind (wpAny_askSetting (wpAny_pure ?_))
 dsimp only
 rw[show(model prog w).w.params.followText "set-order" = true from hB,if_pos rfl,if_neg (by simp)]
 refine wpAny_bind ?_
 unfold setWalk setsByText
 refine wpAny_bind (wpAny_setState_of ha rfl hf ?_)
 dsimp only
 refine  wpAny_bind (wpAny_bind (wpAny_askSetting (wpAny_pure ?_)))
 dsimp only
 rw[show(model prog w).w.params.followText "set-order" = true from hB,if_pos rfl]
 refine wpAny_bind (wpAny_askSetting (wpAny_pure (wpAny_pure h)))
theorem ze6(ha:s.heap.get? a=some (setO es ep t))(hf:t.fits es.size=true)(hB:w.params.followText "set-order" = false)(hl:t.led=true)(hd:(!t.plain && decide (es.size > 1))=false){slot i:Nat}{Q:Option (Value×Nat)->Shared->Prop}
 (h:Q (match es[SetTable.below t.place slot]?,t.place[SetTable.below t.place slot]? with | some (_,x),some j=>some (x,j+1) | _,_=>none) s):wpAny (model prog w) A (setNext a slot i ep) Q E s:=by
 unfold setNext
 refine wpAny_bind (wpAny_setState_of ha rfl hf ?_)
 dsimp only
 refine wpAny_bind ?_
 unfold setsByText
 refine wpAny_bind (wpAny_askSetting (wpAny_pure ?_))
 dsimp only
 rw[show(model prog w).w.params.followText "set-order" = false from hB,if_neg (by simp)]
 split
 · rename_i z
   have z':(!t.plain && decide (es.size > 1))=true:=z
   rw[hd] at z'
   cases z'
 · refine wpAny_bind (wpAny_of_eq (a:=()) ?_ ?_)
   · show(if (!t.led && !es.isEmpty)=true then unsupported "set:maker-not-led" else pure ())=pure ()
     rw[hl]
     rfl
   · exact wpAny_pure h
theorem zgd(hh:A.handled=none)(hf:t.fits es.size=true)(hne:a≠I){vs:List Value}{fst:Nat->Nat}
 (hi:∀ (i:Nat) (v:Value),vs[i]? = some v->∀ {s:Shared} {A':Around} {Q':Option (Value×Nat)->Shared->Prop} {E'},s.heap.get? a=some (setO es ep t)->Q' (some (v,fst (i+1))) s->wpAny (model prog w) A' (setNext a (fst i) i ep) Q' E' s)
 (hd:∀ {s:Shared} {A':Around} {Q':Option (Value×Nat)->Shared->Prop} {E'},s.heap.get? a=some (setO es ep t)->Q' none s->wpAny (model prog w) A' (setNext a (fst vs.length) vs.length ep) Q' E' s) :
 Walks prog w A I [I,a] [I] vs.length (fun i v=>vs[i]? = some v) (fun i h=>h.get? I=some (itO (.int (fst i) 0) i a es.size ep)/\h.get? a=some (setO es ep t)) where
 sub:=fun b hb=>by simp at hb;simp[hb]
 frame:=fun i h h' st k=>⟨k I (by simp) _ st.1,k a (by simp) _ st.2⟩
 item:=fun i s Q E hlt st hQ=>by
  refine zmj (x:=vs[i]) (nxt:=fst (i+1)) st.1 st.2 hf (fun q=>hi i _ (List.getElem?_eq_getElem hlt) st.2 q) fun h' g k=>?_
  exact hQ _ h' s.toks (List.getElem?_eq_getElem hlt) ⟨g,k a _ hne st.2⟩ fun b o hb e=>k b o (fun z=>hb (by simp[z])) e
 done:=fun s Q E st hQ=>zlW hh st.1 st.2 hf (fun q=>hd st.2 q) fun h' k=>hQ h' s.toks fun b o hb e=>k b o (fun z=>hb (by simp[z])) e
 self:=fun _ _ _ _ st hQ=>zf8 st.1 hQ
theorem zkj(hh:A.handled=none)(hf:t.fits es.size=true)(hne:a≠I){T:Addr}(hT:T≠I){ps:List Nat}{c:Nat}{vs:List Value}(hl:ps.length=vs.length)
 (hv:∀ (i p:Nat),ps[i]? = some p->∃ x,es[p]? = some x/\vs[i]? = some x.2) :
 Walks prog w A I [I,a,T] [I] vs.length (fun i v=>vs[i]? = some v) (fun i h=>h.get? I=some (itO (.ref T) i a es.size ep)/\h.get? a=some (setO es ep t)/\h.get? T=some { cls:=.type "tuple",dict:=none,data:=.seq (ps.map fun (p:Nat)=>rawInt p).toArray c,slots := #[] }) where
 sub:=fun b hb=>by simp at hb;simp[hb]
 frame:=fun i h h' st k=>⟨k I (by simp) _ st.1,k a (by simp) _ st.2.1,k T (by simp) _ st.2.2⟩
 item:=fun i s Q E hlt st hQ=>by
  have hlt':i<ps.length:=by omega
  obtain⟨x,hx,hvi⟩:=hv i ps[i] (List.getElem?_eq_getElem hlt')
  refine zl9 (p:=ps[i]) (x:=x) st.1 st.2.1 hf st.2.2 (by simp[List.getElem?_eq_getElem hlt',rawInt]) hx fun h' g k=>?_
  exact hQ _ h' s.toks hvi ⟨g,k a _ hne st.2.1,k T _ hT st.2.2⟩ fun b o hb e=>k b o (fun z=>hb (by simp[z])) e
 done:=fun s Q E st hQ=>zmm hh st.1 st.2.1 hf st.2.2 (by simp[hl]) fun h' k=>hQ h' s.toks fun b o hb e=>k b o (fun z=>hb (by simp[z])) e
 self:=fun _ _ _ _ st hQ=>zf8 st.1 hQ
end
section
variable{prog:Program}{w:World}{A:Around}{E:Value->Shared->Prop}{s:Shared}{a:Addr}{es:Array (Int×Value)}{ep:Nat}{t:SetTable}
theorem zng(hf:t.fits es.size=true):t.place.size=es.size:=by
 simp only[SetTable.fits,Bool.and_eq_true,beq_iff_eq,decide_eq_true_eq] at hf
 exact hf.1
theorem zmW{Q:Value->Shared->Prop}(ha:s.heap.get? a=some (setO es ep t))(hon:Hon t (w.params.followText "set-order"))(hf:t.fits es.size=true)(hz:es.size<=sizeLine)
 (h:∀ (I:Addr) (h':Heap) (d:Drawn) (fp:List Addr) (vs:List Value) (Wt:Nat->Heap->Prop),s.heap.objs.size<=I->(∀ b o,s.heap.get? b=some o->h'.get? b=some o)->(∀ b∈fp,b=a\/s.heap.objs.size<=b) ->
  vs.Perm (es.toList.map (·.2))->(∀ A':Around,A'.handled=none->Walks prog w A' I fp [I] vs.length (fun i v=>vs[i]? = some v) Wt)->Wt 0 h'->Q (.ref I) { s with heap:=h',drawn:=d }):wpAny (model prog w) A (pyIter (.ref a)) Q E s:=by
 have hT:s.TypeIs (.ref a) "set" := ⟨_,ha,rfl⟩
 have alt:a<s.heap.objs.size:=Heap.lt_size ha
 refine wpAny_pyIter_slot hT F.slot_set_iter (wpAny_call_entry F.slot_set_iter hT zmv ?_ (F.args_set_iter_1 _))
 show wpAny _ _ (Builtin.Frozenset.sizeOf a >>= _) _ _ _
 refine wpAny_bind ?_
 unfold Builtin.Frozenset.sizeOf
 refine wpAny_bind (wpAny_setEntries_of ha rfl hf (wpAny_pure ?_))
 refine wpAny_bind ?_
 unfold setDrawn setsByText
 refine wpAny_bind (wpAny_setState_of ha rfl hf ?_)
 dsimp only
 refine  wpAny_bind (wpAny_bind (wpAny_askSetting (wpAny_pure ?_)))
 dsimp only
 refine wpAny_pure ?_
 have fin:∀ (f:Value) (h1:Heap) (d:Drawn),h1.get? a=some (setO es ep t)->s.heap.objs.size<=h1.objs.size->(h1.get? h1.objs.size=none->Q (.ref h1.objs.size) { s with heap:=h1.push (itO f 0 a es.size ep),drawn:=d }) ->
  wpAny (model prog w) A.in1 (do ret (<- newFields "set_iterator" [f,rawInt 0,.ref a,rawInt es.size,rawInt (<- setEpoch a)]):Sem Fin) (fun r s1=>∃ v,r = .done (.ret v)/\∃ T' r,s1.TypeIs v T'/\typeLookup (.type T') "__next__" = pure (some r)/\Q v s1) E { s with heap:=h1,drawn:=d }:=by
  intro f h1 d g le q
  refine wpAny_bind (wpAny_setEpoch_of (s:={ s with heap:=h1,drawn:=d }) g rfl hf ?_)
  refine wpAny_bind (wpAny_newObj_type (wpAny_pure ⟨_,rfl,"set_iterator",_,⟨_,Heap.get?_push_size _ rfl,rfl⟩,sl_next.lookup,q ?_⟩))
  cases z:h1.get? h1.objs.size with
  |none=>rfl
  |some o=>exact absurd (Heap.lt_size z) (Nat.lt_irrefl _)
 have ez:=zng hf
 cases hB:w.params.followText "set-order" with
 |true =>
   rw[show(model prog w).w.params.followText "set-order" = true from hB,Bool.not_true,Bool.false_and,if_neg (by simp)]
   refine wpAny_bind (wpAny_pure ?_)
   refine fin _ s.heap s.drawn ha (Nat.le_refl _) fun _=>?_
   have pm:=zkP (w.params.setOrder a ep) es
   have len:((pickOrder (w.params.setOrder a ep) es).toList.map (·.2)).length=es.size:=by rw[List.length_map,pm.length_eq,Array.length_toList]
   refine h s.heap.objs.size _ s.drawn [s.heap.objs.size,a] ((pickOrder (w.params.setOrder a ep) es).toList.map (·.2)) _ (Nat.le_refl _) (fun b o e=>Heap.get?_push_of_some _ e) (fun b hb=>?_) (pm.map _)
    (fun A' hh'=>zgd (fst:=fun _=>0) hh' hf (Nat.ne_of_lt alt) (fun i v hv s A' Q' E' g q=>zfY g hf hB ?_) fun {s A' Q' E'} g q=>zfY g hf hB ?_) ⟨Heap.get?_push_size _ rfl,Heap.get?_push_of_some _ ha⟩
   · simp only[List.mem_cons,List.not_mem_nil,or_false] at hb
     exact hb.symm.imp id fun z=>Nat.le_of_eq z.symm
   · rw[List.getElem?_map,Array.getElem?_toList] at hv
     cases z:(pickOrder (w.params.setOrder a ep) es)[i]? with
     |none=>rw[z] at hv;cases hv
     |some e=>rw[z] at hv;cases hv;exact q
   · have:(pickOrder (w.params.setOrder a ep) es)[((pickOrder (w.params.setOrder a ep) es).toList.map (·.2)).length]? = none:=by simp
     rw[this];exact q
 |false =>
   rw[show(model prog w).w.params.followText "set-order" = false from hB,Bool.not_false,Bool.true_and]
   have hled:t.led=true:=by rw[hon.led,hB];rfl
   cases hd:(!t.plain && decide (es.size > 1)) with
   |false =>
     split
     · rename_i z
       have z':(!t.plain && decide (es.size > 1))=true:=z
       rw[hd] at z';cases z'
     · refine wpAny_bind ?_
       refine wpAny_pure ?_
       refine fin _ s.heap s.drawn ha (Nat.le_refl _) fun _=>?_
       have len:(es.toList.map (·.2)).length=es.size:=by simp
       refine h s.heap.objs.size _ s.drawn [s.heap.objs.size,a] (es.toList.map (·.2)) _ (Nat.le_refl _) (fun b o e=>Heap.get?_push_of_some _ e) (fun b hb=>?_) (.refl _)
        (fun A' hh'=>zgd (fst:=pos t.place) hh' hf (Nat.ne_of_lt alt) (fun i v hv s A' Q' E' g q=>ze6 g hf hB hled hd ?_) fun {s A' Q' E'} g q=>ze6 g hf hB hled hd ?_) ⟨Heap.get?_push_size _ rfl,Heap.get?_push_of_some _ ha⟩
       · simp only[List.mem_cons,List.not_mem_nil,or_false] at hb
         exact hb.symm.imp id fun z=>Nat.le_of_eq z.symm
       · have hi:i<es.size:=by
          have:=(List.getElem?_eq_some_iff.mp hv).1
          rwa[len] at this
         rw[zf0 hon.rise (by omega),Array.getElem?_eq_getElem hi,Array.getElem?_eq_getElem (by omega:i<t.place.size)]
         rw[List.getElem?_map,Array.getElem?_toList,Array.getElem?_eq_getElem hi] at hv
         cases hv
         have e:pos t.place (i+1)=t.place[i]'(by omega)+1:=by show t.place.getD i 0+1=_;rw[zb8 (by omega)]
         rw[e] at q
         exact q
       · rw[len,zf0 hon.rise (by omega)]
         have:es[es.size]? = none:=by simp
         rw[this]
         exact q
   |true =>
     split
     · refine wpAny_bind (znM _ _ _ _ (by simp) fun l d pl=>?_)
       refine wpAny_bind (wpAny_newObj_type ?_ ?_)
       · have hl:l.length=es.size:=by rw[pl.length_eq];simp
         refine fin _ _ d (Heap.get?_push_of_some _ ha) (by rw[Heap.size_push];exact Nat.le_succ _) fun _=>?_
         have inr:∀ p∈l,p<es.size:=fun p hp=>by simpa using pl.mem_iff.mp hp
         have pv:(l.filterMap fun p=>(es[p]?).map (·.2)).Perm (es.toList.map (·.2)):=by
          refine(pl.filterMap _).trans ?_
          have e:(List.range es.size).filterMap (fun p=>(es[p]?).map (·.2))=((List.range es.size).filterMap fun p=>es[p]?).map (·.2):=by rw[List.map_filterMap]
          rw[e,filterMap_getElem?_range]
         have ev:∀ (l:List Nat),(∀ p∈l,p<es.size)->(l.filterMap fun p=>(es[p]?).map (·.2)).length=l.length/\∀ (i p:Nat),l[i]? = some p->∃ x,es[p]? = some x/\(l.filterMap fun p=>(es[p]?).map (·.2))[i]? = some x.2:=by
          intro l
          induction l with
          |nil=>intro _;exact⟨rfl,fun i p z=>by simp at z⟩
          |cons k r ih =>
            intro hk
            obtain⟨i1,i2⟩:=ih fun p hp=>hk p (.tail _ hp)
            have lt:=hk k (.head _)
            have e1:(es[k]?).map (·.2)=some es[k].2:=by rw[Array.getElem?_eq_getElem lt];rfl
            rw[List.filterMap_cons_some (f:=fun p:Nat=>(es[p]?).map fun (x:Int×Value)=>x.2) e1]
            refine⟨by simp[i1],fun i p z=>?_⟩
            cases i with
            |zero=>simp at z;subst z;exact⟨es[k],Array.getElem?_eq_getElem lt,rfl⟩
            |succ i=>simpa using i2 i p (by simpa using z)
         obtain⟨v1,v2⟩:=ev l inr
         have sz:(s.heap.push { cls:=.type "tuple",dict:=none,data:=.seq (l.map fun (i:Nat)=>rawInt i).toArray }).objs.size=s.heap.objs.size+1:=Heap.size_push ..
         refine h _ _ d [_,a,s.heap.objs.size] _ _ (by rw[sz];exact Nat.le_succ _) (fun b o e=>Heap.get?_push_of_some _ (Heap.get?_push_of_some _ e)) (fun b hb=>?_) pv
          (fun A' hh'=>zkj hh' hf (by rw[sz];exact Nat.ne_of_lt (Nat.lt_succ_of_lt alt)) (T:=s.heap.objs.size) (by rw[sz];exact Nat.ne_of_lt (Nat.lt_succ_self _)) v1.symm v2) ⟨Heap.get?_push_size _ rfl,Heap.get?_push_of_some _ (Heap.get?_push_of_some _ ha),Heap.get?_push_of_some _ (Heap.get?_push_size _ rfl)⟩
         simp only[List.mem_cons,List.not_mem_nil,or_false] at hb
         rcases hb with z | z | z
         · exact .inr (by rw[z,sz];exact Nat.le_succ _)
         · exact .inl z
         · exact .inr (Nat.le_of_eq z.symm)
       · show(l.map fun (i:Nat)=>rawInt i).toArray.size<=sizeLine
         simp only[List.size_toArray,List.length_map,pl.length_eq,List.length_range]
         exact hz
     · rename_i z
       exact absurd hd z
theorem znS:typeLookup (.type "set") "__len__" = pure (some (.builtin "set.__len__")):=by rw[typeLookup_type,builtinLookup_eq_fast];kernel_rfl
theorem zha{Q:List Value->Shared->Prop}(hh:A.handled=none)(ha:s.heap.get? a=some (setO es ep t))(hon:Hon t (w.params.followText "set-order"))(hf:t.fits es.size=true)(hz:es.size<=sizeLine)
 (h:∀ (vs:List Value) (h':Heap) (d:Drawn) (tk:Nat),s.heap.objs.size<=h'.objs.size->(∀ b o,s.heap.get? b=some o->h'.get? b=some o)->vs.Perm (es.toList.map (·.2))->Q vs { s with heap:=h',drawn:=d,toks:=tk }):wpAny (model prog w) A (collect (.ref a)) Q E s:=by
 have start:∀ {R:Result->Shared->Prop},wpAny (model prog w) A.in1 (Builtin.List.listExtendWith (.ref s.heap.objs.size) (.ref a) (.ref s.heap.objs.size)) (fun fin s'=>match fin with | .done f=>R (.ok f) s' | .again c'=>c'.quiet=true/\codeAny (model prog w) A c' R s') (fun e s'=>R (.error e) s') { s with heap:=s.heap.push { cls:=.type "list",dict:=none,data:=.seq ([]:List Value).toArray } } ->
  codeAny (model prog w) A (.builtin "proto.collect" ⟨[.ref a],[]⟩) R s:=fun {R} z=>codeAny_builtin F.entry_proto_collect (by
  rw[Around.under_plainId F.plain_proto_collect]
  exact show wpAny _ _ (newList [] >>= fun v=>again (.builtin "list.__iadd__" ⟨[v,.ref a],[]⟩)) _ _ _ from wpAny_bind (wpAny_newObj_type (wpAny_pure ⟨plainId_quiet F.plain_list_iadd _,codeAny_builtin F.entry_list_iadd (by rw[Around.under_plainId F.plain_list_iadd];exact z)⟩)))
 unfold collect
 refine wpAny_bind (wpAny_runValue (start ?_))
 have alt:a<s.heap.objs.size:=Heap.lt_size ha
 generalize hH:s.heap.push { cls:=.type "list",dict:=none,data:=.seq ([]:List Value).toArray }=H
 have g0:H.get? s.heap.objs.size=some { cls:=.type "list",dict:=none,data:=.seq #[] 0,slots := #[] }:=by rw[<- hH];exact Heap.get?_push_size _ rfl
 have up:∀ b o,s.heap.get? b=some o->H.get? b=some o:=fun b o e=>by rw[<- hH];exact Heap.get?_push_of_some _ e
 have sz:H.objs.size=s.heap.objs.size+1:=by rw[<- hH];exact Heap.size_push ..
 have hT:Shared.TypeIs { s with heap:=H } (.ref a) "set" := ⟨_,up _ _ ha,rfl⟩
 unfold  Builtin.List.listExtendWith
 refine  wpAny_bind (wpAny_typeOf hT ?_)
 have n1:Builtin.List.listSameRef (.ref s.heap.objs.size) (.ref a)=false:=by
  show(s.heap.objs.size == a)=false
  simpa using Nat.ne_of_gt alt
 have n2:(Value.type "set" == Value.type "list")=false:=by decide
 have n3:(Value.type "set" == Value.type "tuple")=false:=by decide
 rw[n1,n2,n3]
 simp only[Bool.or_false,Bool.false_eq_true,if_false]
 refine wpAny_bind (zmW (up _ _ ha) hon hf hz fun I h1 d fp vs Wt hI k1 hfp pv W st=>?_)
 have hT1:Shared.TypeIs { s with heap:=h1,drawn:=d } (.ref a) "set" := ⟨_,k1 _ _ (up _ _ ha),rfl⟩
 refine  wpAny_bind (wpAny_holding ?_)
 unfold  Builtin.List.listLengthHint
 refine wpAny_bind (wpAny_specialOf hT1 znS ?_)
 wp_delta
 refine wpAny_bind (wpAny_isInstance (b:=true) hT1 (by rw[isSubtype_type];kernel_rfl) ?_)
 show wpAny _ _ (typeOf (Value.ref a) >>= _) _ _ _
 refine wpAny_bind (wpAny_typeOf hT1 ?_)
 refine wpAny_pure ?_
 rw[if_pos (by decide)]
 refine wpAny_bind (wpAny_rule ?_)
 unfold Builtin.List.listTouch
 have g1:=k1 _ _ g0
 refine  wpAny_bind (wpAny_bind ?_)
 refine PyProof.Rows.listUpdate_at g1 rfl ?_ (Nat.zero_le _) (by simp)
 have g2:=get?_update_seq g1 (fun xs=>xs.push Value.none)
 refine PyProof.Rows.listUpdate_at g2 rfl ?_ (by show 1<=sizeLine;decide) (by simp)
 have g3:=get?_update_seq g2 (fun xs=>xs.pop)
 have oth:∀ b o,b≠s.heap.objs.size->h1.get? b=some o->((h1.update s.heap.objs.size (Obj.mapSeq fun xs=>xs.push Value.none)).update s.heap.objs.size (Obj.mapSeq fun xs=>xs.pop)).get? b=some o:=fun b o hb e =>
  (Heap.get?_update_other _ _ (Ne.symm hb)).trans ((Heap.get?_update_other _ _ (Ne.symm hb)).trans e)
 have hSf:s.heap.objs.size ∉ fp:=fun z=>by
  rcases hfp _ z with e | e
  · exact absurd alt (by rw[e];exact Nat.lt_irrefl _)
  · exact absurd (show H.objs.size<=s.heap.objs.size from e) (by rw[sz];exact Nat.not_succ_le_self _)
 have W':=W A.in1 hh
 have hn:vs.length<=sizeLine:=by rw[pv.length_eq];simpa using hz
 refine wpAny_pure ⟨plainId_quiet F.plain_extend_loop _,codeAny_extend_loopS W'.toS hn _ hSf _ vs.length 0 _ _ _ rfl (Nat.zero_le _) (W'.frame _ _ _ st fun b hb o e=>oth b o (fun z=>hSf (by rw[<- z];exact hb)) e) g3 (ItemsOf.nil _) fun s' acc c hm g' hacc=>?_⟩
 show wpAny _ _ (load s.heap.objs.size >>= _) _ _ _
 refine wpAny_bind (wpAny_load g' (wpAny_pure ?_))
 have ev:acc.toList=vs:=by
  refine List.ext_getElem? fun i=>?_
  cases q:acc[i]? with
  |none =>
    have:acc.size<=i:=by simpa using q
    rw[hacc.1] at this
    rw[Array.getElem?_toList,q,List.getElem?_eq_none this]
  |some v=>rw[Array.getElem?_toList,q,hacc.2 i v q]
 rw[ev]
 obtain⟨h',g,d',tk,os⟩:=s'
 have e1:=(hm.gens:g=s.gens)
 have e2:d'=d:=hm.drawn
 have e3:os=s.os:=hm.os
 subst e1;subst e2;subst e3
 refine h vs h' d' tk (Nat.le_of_lt (Heap.lt_size g')) (fun b o e=>hm.heap b o (fun z=>?_) (oth b o (Nat.ne_of_lt (Heap.lt_size e)) (k1 b o (up b o e)))) pv
 have blt:=Heap.lt_size e
 rcases List.mem_cons.mp z with z | z
 · exact absurd blt (by rw[z];exact Nat.lt_irrefl _)
 · rw[List.mem_singleton] at z
   have:H.objs.size<=I:=hI
   rw[<- z,sz] at this
   exact absurd blt (Nat.not_lt.mpr (Nat.le_of_succ_le this))
theorem zjZ{h:Heap}{a:Addr}{vs:List Value}{n:Nat}(ho:h.get? a=some (seqObj "list" vs.toArray n))(out:Array Value):∃ e,(sortedHeap h a vs out).get? a=some (seqObj "list" out e):=by
 have lt:a<h.objs.size:=Heap.lt_size ho
 unfold sortedHeap
 have g1:=get?_update_seq ho fun _ => #[]
 have g2:(((h.update a (Obj.mapSeq fun _ => #[])).push (seqObj "tuple" vs.toArray 0)).push (seqObj "list" #[] 0)).get? a=some (seqObj "list" #[] (if ((#[]:Array Value).size == vs.toArray.size)=true then n else n+1)):=by
  rw[Heap.get?_push_ne _ _ _ (by rw[size_push',Heap.size_update];exact Nat.ne_of_lt (Nat.lt_succ_of_lt lt)),Heap.get?_push_ne _ _ _ (by rw[Heap.size_update];exact Nat.ne_of_lt lt)]
  exact g1
 exact⟨_,get?_update_seq g2 fun _=>out⟩
theorem ziq{h:Heap}{a b:Addr}{vs:List Value}{out:Array Value}{o:Obj}(hb:b≠a)(e:h.get? b=some o):(sortedHeap h a vs out).get? b=some o:=by
 unfold sortedHeap
 rw[Heap.get?_update_other _ _ (Ne.symm hb)]
 exact Heap.get?_push_of_some _ (Heap.get?_push_of_some _ ((Heap.get?_update_other _ _ (Ne.symm hb)).trans e))
end
end St
namespace St
open PySem
def lp(M:Nat)(s:Nat×Nat):Nat×Nat:=SetTable.leap M s.1 s.2
def lps(M:Nat):Nat->Nat×Nat->Nat×Nat
 | 0,s=>s
 |n+1,s=>lps M n (lp M s)
theorem zca(M:Nat):∀ (n:Nat) (s:Nat×Nat),lps M (n+1) s=lp M (lps M n s)
 | 0,s=>rfl
 |n+1,s=>by rw[lps,zca M n,lps]
theorem znv(M a b:Nat)(s:Nat×Nat):lps M (a+b) s=lps M b (lps M a s):=by
 induction b with
 |zero=>rfl
 |succ b ih=>rw[<- Nat.add_assoc,zca,ih,zca]
theorem ziZ(M:Nat):∀ (n:Nat) (s:Nat×Nat),(lps M n s).2=s.2 / 32 ^ n
 | 0,s=>by simp[lps]
 |n+1,s=>by rw[zca];show(lps M n s).2 / 32=_;rw[ziZ M n,Nat.div_div_eq_div_mul,Nat.pow_succ]
theorem zmN{M p:Nat}(hp:p<2 ^ 64)(i:Nat):(lps M 13 (i,p)).2=0:=by
 rw[ziZ]
 exact Nat.div_eq_of_lt (Nat.lt_of_lt_of_le hp (by decide))
def st(M x:Nat):Nat:=(x * 5+1) % (M+1)
def sts(M:Nat):Nat->Nat->Nat
 | 0,x=>x
 |n+1,x=>st M (sts M n x)
theorem zdW(M a:Nat)(x:Nat):∀ b,sts M (a+b) x=sts M b (sts M a x)
 | 0=>rfl
 |b+1=>by rw[<- Nat.add_assoc,sts,zdW M a x b,sts]
theorem zhm(M:Nat):∀ (n i:Nat),lps M n (i,0)=(sts M n i,0)
 | 0,i=>rfl
 |n+1,i=>by
   rw[zca,zhm M n i]
   show SetTable.leap M (sts M n i) 0=_
   simp[SetTable.leap,sts,st]
def zbZ(M:Nat):Prop:=M=7\/M=31\/M=127\/M=511
def orb(M:Nat):Nat->Nat->List Nat
 | 0,_=>[]
 |n+1,x=>x::orb M n (st M x)
theorem zjM(M:Nat):∀ (n x k:Nat),k<n->(orb M n x)[k]? = some (sts M k x)
 | 0,_,_,h=>absurd h (Nat.not_lt_zero _)
 |n+1,x,0,_=>rfl
 |n+1,x,k+1,h=>by
   show(orb M n (st M x))[k]? = _
   rw[zjM M n (st M x) k (by omega)]
   have:=zdW M 1 x k
   rw[Nat.add_comm] at this
   rw[this];rfl
theorem znq{M:Nat}(h:zbZ M):(List.range (M+1)).all (fun j=>(orb M (M+1) 0).contains j)=true/\sts M (M+1) 0=0:=by
 rcases h with rfl | rfl | rfl | rfl
 · decide +kernel
 · decide +kernel
 · decide +kernel
 · decide +kernel
theorem zhM{M:Nat}(h:sts M (M+1) 0=0):∀ q r,sts M ((M+1) * q+r) 0=sts M r 0
 | 0,r=>by simp
 |q+1,r=>by
   have e:(M+1) * (q+1)+r=(M+1)+((M+1) * q+r):=by rw[Nat.mul_succ];omega
   rw[e,zdW,h,zhM h q r]
theorem zh7{M:Nat}(h:zbZ M){x y:Nat}(hx:x<=M)(hy:y<=M):∃ m,m<=M/\sts M m x=y:=by
 obtain⟨a,b⟩:=znq h
 have f:∀ z,z<=M->∃ k,k<=M/\sts M k 0=z:=fun z hz=>by
  have:=List.all_eq_true.mp a z (by simp;omega)
  rw[List.contains_iff_mem] at this
  obtain⟨k,hk⟩:=List.getElem?_of_mem this
  have kl:k<M+1:=by
   rcases Nat.lt_or_ge k (M+1) with z | z
   · exact z
   · have len:∀ n x,(orb M n x).length=n:=fun n=>by
      induction n with
      |zero=>intro x;rfl
      |succ n ih=>intro x;simp[orb,ih]
     rw[List.getElem?_eq_none (by rw[len];exact z)] at hk
     cases hk
  rw[zjM M (M+1) 0 k kl] at hk
  exact⟨k,by omega,by injection hk⟩
 obtain⟨kx,hkx,ex⟩:=f x hx
 obtain⟨ky,hky,ey⟩:=f y hy
 rcases Nat.le_total kx ky with le | le
 · refine⟨ky - kx,by omega,?_⟩
   rw[<- ex, <- zdW, <- ey]
   congr 1
   omega
 · refine⟨(M+1+ky - kx) % (M+1),Nat.lt_succ_iff.mp (Nat.mod_lt _ (Nat.succ_pos M)),?_⟩
   rw[<- ex, <- zdW]
   have b':=zhM b 1 ky
   rcases Nat.lt_or_ge (M+1+ky - kx) (M+1) with z | z
   · rw[Nat.mod_eq_of_lt z, <- ey, <- b']
     congr 1
     omega
   · have e:kx=ky:=by omega
     subst e
     have:(M+1+kx - kx) % (M+1)=0:=by rw[Nat.add_sub_cancel];exact Nat.mod_self _
     rw[this]
     exact ey
theorem zgP(M i p:Nat):(SetTable.leap M i p).1<=M:=Nat.lt_succ_iff.mp (Nat.mod_lt _ (Nat.succ_pos M))
theorem zeY(M i:Nat):i<=SetTable.runEnd M i/\SetTable.runEnd M i - i<=9:=by unfold SetTable.runEnd;split<;>omega
def adv(t:SetTable):Nat->SetTable.Probe->SetTable.Probe
 | 0,p=>p
 |n+1,p=>adv t n (t.advance p)
theorem znc{t:SetTable}(hd:t.dummies = #[])(f:Nat->Int)(h:Int):∀ (n:Nat) (p:SetTable.Probe),SetTable.probe.go t f h n p=none->∀ k,k<n->∃ i,t.slot (adv t k p).j = .live i:=by
 intro n
 induction n with
 |zero=>intro p _ k hk;exact absurd hk (Nat.not_lt_zero _)
 |succ n ih =>
   intro p e k hk
   unfold SetTable.probe.go at e
   split at e
   · cases e
   · rename_i q
     exact absurd q (zbK hd _)
   · rename_i i q
     split at e
     · cases e
     · cases k with
       |zero=>exact⟨i,q⟩
       |succ k=>exact ih _ e k (by omega)
theorem zdh(t:SetTable):∀ (a b:Nat) (p:SetTable.Probe),adv t (a+b) p=adv t b (adv t a p)
 | 0,b,p=>by rw[Nat.zero_add];rfl
 |a+1,b,p=>by rw[show a+1+b=(a+b)+1 by omega];exact zdh t a b _
def zdo(M:Nat)(p:SetTable.Probe)(s:Nat×Nat):Prop:=p.j=s.1/\p.i=s.1/\p.perturb=s.2/\p.more=SetTable.runEnd M s.1 - s.1
theorem zeV(t:SetTable):∀ (m:Nat) (p:SetTable.Probe),p.more=m->(adv t m p).more=0/\(adv t m p).i=p.i/\(adv t m p).perturb=p.perturb
 | 0,p,h=>⟨h,rfl,rfl⟩
 |m+1,p,h=>by
   have e:t.advance p={ p with j:=p.j+1,more:=p.more - 1 }:=by unfold SetTable.advance;rw[if_pos (by omega)]
   obtain⟨a,b,c⟩:=zeV t m (t.advance p) (by rw[e];show p.more - 1=m;omega)
   refine⟨a,?_,?_⟩
   · show(adv t m (t.advance p)).i=_;rw[b,e]
   · show(adv t m (t.advance p)).perturb=_;rw[c,e]
theorem znU(t:SetTable){p:SetTable.Probe}{s:Nat×Nat}(h:zdo t.mask p s):∃ m,m<=10/\zdo t.mask (adv t m p) (lp t.mask s):=by
 obtain⟨h1,h2,h3,h4⟩:=h
 obtain⟨a,b,c⟩:=zeV t p.more p rfl
 refine⟨p.more+1,by have:=zeY t.mask s.1;omega,?_⟩
 rw[zdh]
 show zdo t.mask (t.advance (adv t p.more p)) _
 unfold SetTable.advance
 rw[if_neg (by omega),b,c,h2,h3]
 exact⟨rfl,rfl,rfl,rfl⟩
theorem zhY(t:SetTable){p:SetTable.Probe}{s:Nat×Nat}(h:zdo t.mask p s):∀ k,∃ m,m<=10 * k/\zdo t.mask (adv t m p) (lps t.mask k s)
 | 0=>⟨0,by omega,h⟩
 |k+1=>by
   obtain⟨m,hm,a⟩:=zhY t h k
   obtain⟨m',hm',a'⟩:=znU t a
   exact⟨m+m',by omega,by rw[zdh,zca];exact a'⟩
theorem zjt(h:Int):SetTable.bits h<2 ^ 64:=by
 unfold SetTable.bits
 have:=Int.emod_lt_of_pos h (show(0:Int)<2 ^ 64 by decide)
 have:=Int.emod_nonneg h (show(2 ^ 64:Int)≠0 by decide)
 omega
theorem zjm{M:Nat}(h:zbZ M){i p:Nat}(hi:i<=M)(hp:p<2 ^ 64){P:Nat->Prop}(hP:∀ k,k<=M+14->P (lps M k (i,p)).1):∀ j,j<=M->P j:=by
 intro j hj
 have z:=zmN (M:=M) hp i
 generalize hs:lps M 13 (i,p)=s13 at z
 have hi13:s13.1<=M:=by
  rw[<- hs,zca]
  exact zgP M _ _
 obtain⟨m,hm,e⟩:=zh7 h hi13 hj
 have:=hP (13+m) (by omega)
 rw[znv,hs,show s13=(s13.1,0) by rw[<- z],zhm] at this
 simp only at this
 rw[e] at this
 exact this
theorem zd7{t:SetTable}{j i:Nat}(h:t.slot j = .live i):t.place[i]? = some j:=by
 unfold SetTable.slot at h
 dsimp only at h
 split at h
 · rename_i e
   cases h
   exact eq_of_beq e
 · split at h<;>cases h
theorem ziM{t:SetTable}(hd:t.dummies = #[])(hm:zbZ t.mask)(hr:t.place.size<=t.mask)(f:Nat->Int)(h:Int):∃ m,t.probe f h (t.probeStart h)=some m:=by
 cases q:t.probe f h (t.probeStart h) with
 |some m=>exact⟨m,rfl⟩
 |none =>
   exfalso
   have st:zdo t.mask (t.probeStart h) (SetTable.bits h % (t.mask+1),SetTable.bits h):=⟨rfl,rfl,rfl,rfl⟩
   have all:=zjm hm (i:=SetTable.bits h % (t.mask+1)) (p:=SetTable.bits h) (Nat.lt_succ_iff.mp (Nat.mod_lt _ (Nat.succ_pos _))) (zjt h) (P:=fun j=>∃ i:Nat,t.place[i]? = some j) (fun k hk=>by
    obtain⟨m,hm',a⟩:=zhY t st k
    obtain⟨i,hi⟩:=znc hd f h _ _ q m (by unfold SetTable.turns;omega)
    rw[a.1] at hi
    exact⟨i,zd7 hi⟩)
   have sub:(List.range (t.mask+1)).length<=t.place.toList.length:=by
    refine List.Nodup.length_le_of_subset List.nodup_range fun j hj=>?_
    obtain⟨i,hi⟩:=all j (by simpa using Nat.lt_succ_iff.mp (List.mem_range.mp hj))
    rw[<- Array.getElem?_toList] at hi
    exact List.mem_of_getElem? hi
   simp at sub
   omega
theorem zjV(M:Nat)(owner:Array (Option Nat))(hs:owner.size=M+1):∀ (n i p j:Nat),SetTable.layClean.free M owner n i p=some j->owner[j]? = some none:=by
 intro n
 induction n with
 |zero=>intro i p j h;cases h
 |succ n ih =>
   intro i p j h
   unfold SetTable.layClean.free at h
   split at h
   · rename_i k q
     cases h
     have:=List.find?_some q
     cases e:owner[i+k]? with
     |none=>rw[Array.getD_eq_getD_getElem?,e] at this;cases this
     |some o =>
       rw[Array.getD_eq_getD_getElem?,e] at this
       cases o with
       |none=>rfl
       |some x=>cases this
   · exact ih _ _ _ h
theorem zkc(M:Nat)(owner:Array (Option Nat))(hs:owner.size=M+1):∀ (n i p:Nat),i<=M->SetTable.layClean.free M owner n i p=none->∀ k,k<n->∃ x,owner[(lps M k (i,p)).1]? = some (some x):=by
 intro n
 induction n with
 |zero=>intro i p hi h k hk;exact absurd hk (Nat.not_lt_zero _)
 |succ n ih =>
   intro i p hi h k hk
   unfold SetTable.layClean.free at h
   split at h
   · cases h
   · rename_i q
     cases k with
     |zero =>
       have:=List.find?_eq_none.mp q 0 (by simp;have:=zeY M i;omega)
       show ∃ x,owner[i]? = some (some x)
       have lt:i<owner.size:=by omega
       rw[Nat.add_zero,Array.getD_eq_getD_getElem?,Array.getElem?_eq_getElem lt] at this
       rw[Array.getElem?_eq_getElem lt]
       cases e:owner[i] with
       |none=>rw[e] at this;simp at this
       |some x=>exact⟨x,rfl⟩
     |succ k=>exact ih _ _ (zgP M i p) h k (by omega)
theorem zlV{k:Nat}:∀ (l:List (Option Nat)) (j:Nat),l[j]? = some none->((l.set j (some k)).filterMap id).Perm (k::l.filterMap id)
 | [],j,h=>by simp at h
 |o::r,0,h=>by
   simp at h
   subst h
   simp
 |o::r,j+1,h=>by
   have ih:=zlV (k:=k) r j (by simpa using h)
   cases o with
   |none=>simpa using ih
   |some x =>
     show(x::(r.set j (some k)).filterMap id).Perm (k::x::r.filterMap id)
     exact(List.Perm.cons x ih).trans (List.Perm.swap k x _)
theorem zl6:∀ (l:List (Option Nat)),(∀ o∈l,∃ x,o=some x)->(l.filterMap id).length=l.length
 | [],_=>rfl
 |o::r,h=>by
   obtain⟨x,rfl⟩:=h o (.head _)
   simpa using zl6 r fun o' ho=>h o' (.tail _ ho)
def zf7(M k:Nat)(owner:Array (Option Nat)):Prop:=owner.size=M+1/\(owner.toList.filterMap id).Perm (List.range k)
theorem zkv{M k:Nat}{owner:Array (Option Nat)}(hm:zbZ M)(h:zf7 M k owner)(hk:k<=M)(c:Int):∃ j,SetTable.layClean.free M owner (SetTable.turns M) (SetTable.bits c % (M+1)) (SetTable.bits c)=some j/\owner[j]? = some none:=by
 cases q:SetTable.layClean.free M owner (SetTable.turns M) (SetTable.bits c % (M+1)) (SetTable.bits c) with
 |some j=>exact⟨j,rfl,zjV M owner h.1 _ _ _ _ q⟩
 |none =>
   exfalso
   have hi:SetTable.bits c % (M+1)<=M:=Nat.lt_succ_iff.mp (Nat.mod_lt _ (Nat.succ_pos _))
   have all:=zjm hm hi (zjt c) (P:=fun j=>∃ x,owner[j]? = some (some x)) fun n hn=>zkc M owner h.1 _ _ _ hi q n (by unfold SetTable.turns;omega)
   have len:=zl6 owner.toList fun o ho=>by
    obtain⟨j,hj⟩:=List.getElem?_of_mem ho
    have jl:j<owner.size:=by have:=(List.getElem?_eq_some_iff.mp hj).1;simpa using this
    obtain⟨x,hx⟩:=all j (by have:=h.1;omega)
    rw[Array.getElem?_toList,hx] at hj
    exact⟨x,by injection hj with e;exact e.symm⟩
   have:=h.2.length_eq
   rw[len] at this
   simp at this
   have:=h.1
   omega
theorem zld(owner:Array (Option Nat)):((List.range owner.size).filterMap fun j=>(owner.getD j none).map (j, ·)).map (·.2)=owner.toList.filterMap id:=by
 have key:∀ (l:List (Option Nat)) (b:Nat) (f:Nat->Option Nat),(∀ i,i<l.length->f (b+i)=l.getD i none)->((List.range' b l.length).filterMap fun j=>(f j).map (j, ·)).map (·.2)=l.filterMap id:=by
  intro l
  induction l with
  |nil=>intro b f _;rfl
  |cons o r ih =>
    intro b f h
    have h0:=h 0 (by simp)
    have ih':=ih (b+1) f fun i hi=>by
     have:=h (i+1) (by simpa using hi)
     rw[show b+1+i=b+(i+1) by omega,this]
     rfl
    rw[List.length_cons,List.range'_succ,List.filterMap_cons]
    have h0:f b=o:=h0
    cases o with
    |none=>simpa [h0] using ih'
    |some x=>simpa [h0] using ih'
 have:=key owner.toList 0 (fun j=>owner.getD j none) fun i hi=>by
  rw[Nat.zero_add]
  simp[Array.getD_eq_getD_getElem?,List.getD_eq_getElem?_getD]
 rw[<- this,List.range_eq_range']
 simp
def hP(z:Int×Int):Int:=reduceHash (Builtin.Tuple.tupleHashOf [hashInt z.1,hashInt z.2])
def rP(n:Nat):Nat:=(hP ((n / 31:Nat),(n % 31:Nat)) % 8192).toNat
def apart:List Nat->Nat->Bool
 | [],_=>true
 |n::r,acc => !acc.testBit (rP n) && apart r (acc ||| 1 <<< rP n)
theorem zg6:∀ (l:List Nat) (acc:Nat),apart l acc=true->(∀ n∈l,acc.testBit (rP n)=false)/\(l.map rP).Nodup
 | [],_,_=>⟨fun n hn=>(nomatch hn),List.nodup_nil⟩
 |n::r,acc,h=>by
   unfold apart at h
   rw[Bool.and_eq_true] at h
   obtain⟨h1,h2⟩:=h
   obtain⟨a,b⟩:=zg6 r _ h2
   have a':∀ m∈r,acc.testBit (rP m)=false/\rP m≠rP n:=fun m hm=>by
    have:=a m hm
    rw[Nat.testBit_or,Bool.or_eq_false_iff] at this
    refine⟨this.1,fun e=>?_⟩
    have q:=this.2
    rw[e,Nat.one_shiftLeft,Nat.testBit_two_pow_self] at q
    cases q
   refine⟨fun m hm=>?_,List.nodup_cons.mpr ⟨fun z=>?_,b⟩⟩
   · rcases List.mem_cons.mp hm with e | e
     · rw[e];simpa using h1
     · exact(a' m e).1
   · obtain⟨m,hm,e⟩:=List.mem_map.mp z
     exact(a' m hm).2 e
theorem zoW:apart (List.range 961) 0=true:=by decide +kernel
def Sm(i:Int):Prop:=0<=i/\i<=30
def SmP(z:Int×Int):Prop:=Sm z.1/\Sm z.2
theorem zoO{y z:Int×Int}(hy:SmP y)(hz:SmP z)(e:hP y=hP z):y=z:=by
 have nd:=(zg6 _ _ zoW).2
 obtain⟨⟨a1,a2⟩,a3,a4⟩:=hy
 obtain⟨⟨b1,b2⟩,b3,b4⟩:=hz
 obtain⟨i,hi⟩:∃ i:Nat,y.1=i:=⟨y.1.toNat,by omega⟩
 obtain⟨j,hj⟩:∃ j:Nat,y.2=j:=⟨y.2.toNat,by omega⟩
 obtain⟨k,hk⟩:∃ k:Nat,z.1=k:=⟨z.1.toNat,by omega⟩
 obtain⟨l,hl⟩:∃ l:Nat,z.2=l:=⟨z.2.toNat,by omega⟩
 have q:∀ (i j:Nat),j<31->rP (31 * i+j)=(hP ((i:Int),(j:Int)) % 8192).toNat:=fun i j h=>by
  unfold rP
  rw[show(31 * i+j) / 31=i by omega,show(31 * i+j) % 31=j by omega]
 have ey:y=((i:Int),(j:Int)):=Prod.ext hi hj
 have ez:z=((k:Int),(l:Int)):=Prod.ext hk hl
 have r1:=q i j (by omega)
 have r2:=q k l (by omega)
 rw[<- ey] at r1
 rw[<- ez] at r2
 rw[e, <- r2] at r1
 have m1:31 * i+j<961:=by omega
 have m2:31 * k+l<961:=by omega
 have:=List.pairwise_iff_getElem.mp nd
 have inj:31 * i+j=31 * k+l:=by
  rcases Nat.lt_trichotomy (31 * i+j) (31 * k+l) with z | z | z
  · exact absurd (by rw[List.getElem_map,List.getElem_map,List.getElem_range,List.getElem_range];exact r1) (this _ _ (by simpa using m1) (by simpa using m2) z)
  · exact z
  · exact absurd (by rw[List.getElem_map,List.getElem_map,List.getElem_range,List.getElem_range];exact r1.symm) (this _ _ (by simpa using m2) (by simpa using m1) z)
 have:i=k:=by omega
 have:j=l:=by omega
 rw[ey,ez]
 simp_all
def tm(M:Nat):SetTable:={ SetTable.fresh 0 0 true with mask:=M }
def W(M:Nat)(h:Int)(m:Nat):Nat:=(adv (tm M) m ((tm M).probeStart h)).j
theorem zib(t:SetTable)(p:SetTable.Probe):t.advance p=(tm t.mask).advance p:=rfl
theorem zml(t:SetTable):∀ (m:Nat) (p:SetTable.Probe),adv t m p=adv (tm t.mask) m p
 | 0,p=>rfl
 |m+1,p=>by show adv t m (t.advance p)=adv (tm t.mask) m ((tm t.mask).advance p);rw[zml t m,zib]
theorem zoo(t:SetTable)(h:Int)(m:Nat):(adv t m (t.probeStart h)).j=W t.mask h m:=by rw[zml];rfl
def Rch(M:Nat)(pl:List Nat)(h:Int)(j:Nat):Prop:=∃ m,m<10 * SetTable.turns M/\W M h m=j/\∀ m',m'<m->W M h m'∈pl
theorem Rch.mono{M:Nat}{pl pl':List Nat}{h:Int}{j:Nat}(r:Rch M pl h j)(s:∀ x∈pl,x∈pl'):Rch M pl' h j:=by
 obtain⟨m,a,b,c⟩:=r
 exact⟨m,a,b,fun m' hm=>s _ (c m' hm)⟩
theorem zjK{t:SetTable}(hr:zfM t.place){i j:Nat}(h:t.place[i]? = some j):t.slot j = .live i:=by
 obtain⟨lt,e⟩:=Array.getElem?_eq_some_iff.mp h
 obtain⟨h1,h2,h3⟩:=zdD hr j
 have e0:SetTable.below t.place j=i:=by
  rcases Nat.lt_trichotomy (SetTable.below t.place j) i with z | z | z
  · have l:=h3 (SetTable.below t.place j) (Nat.le_refl _) (by omega)
    rw[zb8 (by omega:SetTable.below t.place j<t.place.size)] at l
    have:=(List.pairwise_iff_getElem.mp hr) (SetTable.below t.place j) i (by simp;omega) (by simpa using lt) z
    simp only[Array.getElem_toList] at this
    omega
  · exact z
  · have:=h2 i z
    rw[zb8 lt] at this
    omega
 unfold SetTable.slot
 dsimp only
 rw[e0,h]
 simp
theorem zlP{t:SetTable}(hd:t.dummies = #[])(f:Nat->Int)(h:Int):∀ (n:Nat) (p:SetTable.Probe) (j:Nat) (d:Option Nat),SetTable.probe.go t f h n p=some (.empty j d)->∃ m,m<n/\(adv t m p).j=j/\∀ m',m'<m->∃ i,t.slot (adv t m' p).j = .live i:=by
 intro n
 induction n with
 |zero=>intro p j d e;cases e
 |succ n ih =>
   intro p j d e
   unfold SetTable.probe.go at e
   split at e
   · cases e
     exact⟨0,by omega,rfl,fun m' h=>absurd h (Nat.not_lt_zero _)⟩
   · rename_i q
     exact absurd q (zbK hd _)
   · rename_i i q
     split at e
     · cases e
     · obtain⟨m,a,b,c⟩:=ih _ j d e
       refine⟨m+1,by omega,b,fun m' hm=>?_⟩
       cases m' with
       |zero=>exact⟨i,q⟩
       |succ m'=>exact c m' (by omega)
theorem zpt{t:SetTable}(hd:t.dummies = #[])(f:Nat->Int)(h:Int):∀ (n:Nat) (p:SetTable.Probe) (m k:Nat),m<n->(∀ m',m'<m->∃ i,t.slot (adv t m' p).j = .live i)->t.slot (adv t m p).j = .live k->f k=h->∃ j i nx,SetTable.probe.go t f h n p=some (.candidate j i nx):=by
 intro n
 induction n with
 |zero=>intro p m k hm;exact absurd hm (Nat.not_lt_zero _)
 |succ n ih =>
   intro p m k hm hb hs hf
   unfold SetTable.probe.go
   have first:∃ i,t.slot p.j = .live i:=by
    cases m with
    |zero=>exact⟨k,hs⟩
    |succ m=>exact hb 0 (by omega)
   obtain⟨i,hi⟩:=first
   rw[hi]
   dsimp only
   split
   · exact⟨_,_,_,rfl⟩
   · rename_i c
     cases m with
     |zero =>
       have hs:t.slot p.j = .live k:=hs
       rw[hi] at hs
       cases hs
       exact absurd (by simpa using hf) c
     |succ m=>exact ih _ m k (by omega) (fun m' h'=>hb (m'+1) (by omega)) hs hf
theorem ziC(M:Nat)(h:Int){m:Nat}{s:Nat×Nat}(a:zdo M (adv (tm M) m ((tm M).probeStart h)) s):∀ k,k<=SetTable.runEnd M s.1 - s.1->W M h (m+k)=s.1+k:=by
 have go:∀ (k:Nat) (p:SetTable.Probe),k<=p.more->(adv (tm M) k p).j=p.j+k:=by
  intro k
  induction k with
  |zero=>intro p _;rfl
  |succ k ih =>
    intro p hk
    have e:(tm M).advance p={ p with j:=p.j+1,more:=p.more - 1 }:=by unfold SetTable.advance;rw[if_pos (by omega)]
    show(adv (tm M) k ((tm M).advance p)).j=_
    rw[ih _ (by rw[e];show k<=p.more - 1;omega),e]
    show p.j+1+k=_
    omega
 intro k hk
 unfold W
 rw[zdh,go k _ (by rw[a.2.2.2];exact hk),a.1]
theorem zmc(M:Nat)(h:Int)(owner:Array (Option Nat)):∀ (n m g:Nat) (s:Nat×Nat) (j:Nat),zdo M (adv (tm M) m ((tm M).probeStart h)) s->m<=10 * g->(∀ m',m'<m->∃ x,owner.getD (W M h m') (some 0)=some x) ->
 SetTable.layClean.free M owner n s.1 s.2=some j->∃ m2,m2<10 * (g+n)/\W M h m2=j/\∀ m',m'<m2->∃ x,owner.getD (W M h m') (some 0)=some x:=by
 intro n
 induction n with
 |zero=>intro m g s j _ _ _ e;cases e
 |succ n ih =>
   intro m g s j a hm hb e
   unfold SetTable.layClean.free at e
   have re:=zeY M s.1
   split at e
   · rename_i k q
     cases e
     have kl:k<SetTable.runEnd M s.1+1 - s.1:=List.mem_range.mp (List.mem_of_find?_eq_some q)
     refine⟨m+k,by omega,ziC M h a k (by omega),fun m' hm'=>?_⟩
     rcases Nat.lt_or_ge m' m with z | z
     · exact hb m' z
     · have:=List.find?_range_eq_some.mp q
       have w:=ziC M h a (m' - m) (by omega)
       rw[show m+(m' - m)=m' by omega] at w
       rw[w]
       have nn:=this.2.2 (m' - m) (by omega)
       cases e:owner.getD (s.1+(m' - m)) (some 0) with
       |none=>rw[e] at nn;simp at nn
       |some x=>exact⟨x,rfl⟩
   · rename_i q
     have more:(adv (tm M) m ((tm M).probeStart h)).more=SetTable.runEnd M s.1 - s.1:=a.2.2.2
     obtain⟨a1,a2,a3⟩:=zeV (tm M) _ _ more
     have a':zdo M (adv (tm M) (m+(SetTable.runEnd M s.1 - s.1)+1) ((tm M).probeStart h)) (lp M s):=by
      rw[zdh,zdh]
      show zdo M ((tm M).advance (adv (tm M) (SetTable.runEnd M s.1 - s.1) (adv (tm M) m ((tm M).probeStart h)))) _
      unfold SetTable.advance
      rw[if_neg (by omega),a2,a3,a.2.1,a.2.2.1]
      exact⟨rfl,rfl,rfl,rfl⟩
     obtain⟨m2,b1,b2,b3⟩:=ih (m+(SetTable.runEnd M s.1 - s.1)+1) (g+1) (lp M s) j a' (by omega) (fun m' hm'=>by
      rcases Nat.lt_or_ge m' m with z | z
      · exact hb m' z
      · have w:=ziC M h a (m' - m) (by omega)
        rw[show m+(m' - m)=m' by omega] at w
        rw[w]
        have nn:=List.find?_eq_none.mp q (m' - m) (by simp;omega)
        cases e:owner.getD (s.1+(m' - m)) (some 0) with
        |none=>rw[e] at nn;simp at nn
        |some x=>exact⟨x,rfl⟩) e
     exact⟨m2,by omega,b2,b3⟩
theorem zmH{M i:Nat}(h:i<=M):SetTable.runEnd M i<=M:=by unfold SetTable.runEnd;split<;>omega
theorem zmZ(M:Nat):∀ (m:Nat) (p:SetTable.Probe),p.j+p.more<=M->(adv (tm M) m p).j+(adv (tm M) m p).more<=M
 | 0,p,h=>h
 |m+1,p,h=>by
   show(adv (tm M) m ((tm M).advance p)).j+(adv (tm M) m ((tm M).advance p)).more<=M
   refine zmZ M m _ ?_
   unfold SetTable.advance
   split
   · rename_i c
     show p.j+1+(p.more - 1)<=M
     omega
   · have a:=zgP M p.i p.perturb
     have b:=zmH a
     have c:=zeY M (SetTable.leap M p.i p.perturb).1
     show(SetTable.leap M p.i p.perturb).1+(SetTable.runEnd M (SetTable.leap M p.i p.perturb).1 - (SetTable.leap M p.i p.perturb).1)<=M
     omega
theorem zrQ(M:Nat)(h:Int)(m:Nat):W M h m<=M:=by
 have a:SetTable.bits h % (M+1)<=M:=Nat.lt_succ_iff.mp (Nat.mod_lt _ (Nat.succ_pos M))
 have:=zmZ M m ((tm M).probeStart h) (by
  show SetTable.bits h % (M+1)+(SetTable.runEnd M (SetTable.bits h % (M+1)) - SetTable.bits h % (M+1))<=M
  have b:=zmH a
  have c:=zeY M (SetTable.bits h % (M+1))
  omega)
 exact Nat.le_trans (Nat.le_add_right _ _) this
def zk3(M:Nat)(hs:List Int)(owner:Array (Option Nat)):Prop:=∀ j k,owner[j]? = some (some k)->∃ c,hs[k]? = some c/\∃ m,m<10 * SetTable.turns M/\W M c m=j/\∀ m',m'<m->∃ x,owner[W M c m']? = some (some x)
theorem zf1{M:Nat}(hm:zbZ M)(all:List Int):∀ (hs:List Int) (owner:Array (Option Nat)) (k:Nat),zf7 M k owner->zk3 M all owner->all.drop k=hs->k+hs.length<=M+1 ->
 ∃ owner',hs.foldl (fun acc h=>do
  let (owner,k) <- acc
  let j <- SetTable.layClean.free M owner (SetTable.turns M) (SetTable.bits h % (M+1)) (SetTable.bits h)
  pure (owner.setIfInBounds j (some k),k+1)) (some (owner,k))=some (owner',k+hs.length)/\zf7 M (k+hs.length) owner'/\zk3 M all owner'
 | [],owner,k,h,r,_,_=>⟨owner,rfl,h,r⟩
 |c::rs,owner,k,h,r,hd,hl=>by
   simp only[List.length_cons] at hl
   obtain⟨j,hj,hn⟩:=zkv hm h (by omega) c
   have ok:zf7 M (k+1) (owner.setIfInBounds j (some k)):=by
    refine⟨by rw[Array.size_setIfInBounds];exact h.1,?_⟩
    rw[Array.toList_setIfInBounds,List.range_succ]
    refine(zlV owner.toList j (by rw[Array.getElem?_toList];exact hn)).trans ?_
    exact(List.Perm.cons k h.2).trans (List.perm_append_singleton k _).symm
   have ck:all[k]? = some c:=by
    have:=congrArg List.head? hd
    rw[List.head?_drop] at this
    exact this
   have up:∀ i x,owner[i]? = some (some x)->(owner.setIfInBounds j (some k))[i]? = some (some x):=fun i x e=>by
    have ne:j≠i:=fun z=>by rw[z] at hn;rw[hn] at e;cases e
    rw[Array.getElem?_setIfInBounds_ne ne];exact e
   obtain⟨m2,b1,b2,b3⟩:=zmc M c owner (SetTable.turns M) 0 0 (SetTable.bits c % (M+1),SetTable.bits c) j ⟨rfl,rfl,rfl,rfl⟩ (by omega) (fun m' z=>absurd z (Nat.not_lt_zero _)) hj
   have gd:∀ i,i<=M->∀ x,owner.getD i (some 0)=some x->owner[i]? = some (some x):=fun i hi x e=>by
    have lt:i<owner.size:=by rw[h.1];omega
    rw[Array.getD_eq_getD_getElem?,Array.getElem?_eq_getElem lt] at e
    rw[Array.getElem?_eq_getElem lt]
    exact congrArg some e
   have r':zk3 M all (owner.setIfInBounds j (some k)):=fun i x e=>by
    by_cases z:j=i
    · subst z
      have lt:j<owner.size:=(Array.getElem?_eq_some_iff.mp hn).1
      rw[Array.getElem?_setIfInBounds_self_of_lt lt] at e
      cases e
      refine⟨c,ck,m2,by omega,b2,fun m' hm'=>?_⟩
      obtain⟨x,hx⟩:=b3 m' hm'
      exact⟨x,up _ x (gd _ (zrQ M c m') x hx)⟩
    · rw[Array.getElem?_setIfInBounds_ne z] at e
      obtain⟨c',hc,m,a1,a2,a3⟩:=r i x e
      exact⟨c',hc,m,a1,a2,fun m' hm'=>let ⟨y,hy⟩:=a3 m' hm'; ⟨y,up _ y hy⟩⟩
   have hd':all.drop (k+1)=rs:=by
    have:=congrArg List.tail hd
    rw[List.tail_drop] at this
    exact this
   obtain⟨o',e,ok',r2⟩:=zf1 hm all rs _ (k+1) ok r' hd' (by omega)
   refine⟨o',?_,by rw[List.length_cons,show k+(rs.length+1)=k+1+rs.length by omega];exact ok',r2⟩
   rw[List.foldl_cons,List.length_cons,show k+(rs.length+1)=k+1+rs.length by omega, <- e]
   congr 1
   show(Option.bind (SetTable.layClean.free M owner (SetTable.turns M) (SetTable.bits c % (M+1)) (SetTable.bits c)) fun j=>some (owner.setIfInBounds j (some k),k+1))=_
   rw[hj]
   rfl
theorem zkh{M:Nat}(hm:zbZ M)(hs:Array Int)(hl:hs.size<=M+1):∃ owner,SetTable.layClean M hs=some owner/\zf7 M hs.size owner/\zk3 M hs.toList owner:=by
 have ok:zf7 M 0 (Array.replicate (M+1) none):=⟨by simp,by
  rw[Array.toList_replicate]
  have:∀ n,(List.replicate n (none:Option Nat)).filterMap id=[]:=fun n=>by
   induction n with
   |zero=>rfl
   |succ n ih=>simpa [List.replicate_succ] using ih
  rw[this]
  exact .nil⟩
 have r0:zk3 M hs.toList (Array.replicate (M+1) none):=fun j k e=>by
  rw[Array.getElem?_replicate] at e
  split at e<;>cases e
 obtain⟨o',e,ok',r'⟩:=zf1 hm hs.toList hs.toList _ 0 ok r0 (by simp) (by simpa using hl)
 refine⟨o',?_,by simpa using ok',r'⟩
 unfold SetTable.layClean
 rw[<- Array.foldl_toList]
 have e:=congrArg (Option.map (·.1)) e
 exact e
theorem zh1{t:SetTable}{es:Array (Int×Value)}{n:Nat}(hm:zbZ (SetTable.sizeAbove n - 1))(hl:es.size<=SetTable.sizeAbove n - 1) :
 ∃ (t':SetTable) (live:List (Nat×Nat)),t.relaid (es.map (·.1)) n=some (t',(live.map (·.2)).toArray)/\(live.map (·.2)).Perm (List.range es.size)/\t'.mask=SetTable.sizeAbove n - 1/\zfM t'.place/\t'.dummies = #[]/\t'.led=t.led/\t'.plain=t.plain /\
  t'.place.toList=live.map (·.1)/\∀ q∈live,∃ c,(es.map (·.1)).toList[q.2]? = some c/\Rch (SetTable.sizeAbove n - 1) (live.map (·.1)) c q.1:=by
 obtain⟨owner,e,ok,rch⟩:=zkh hm (es.map (·.1)) (by simp;omega)
 rw[Array.size_map] at ok
 have lm:∀ j k,owner[j]? = some (some k)->(j,k)∈((List.range (SetTable.sizeAbove n - 1+1)).filterMap fun j=>(owner.getD j none).map (j, ·)):=fun j k h=>by
  have lt:j<owner.size:=(Array.getElem?_eq_some_iff.mp h).1
  refine List.mem_filterMap.mpr ⟨j,by rw[List.mem_range, <- ok.1];exact lt,?_⟩
  rw[Array.getD_eq_getD_getElem?,h]
  rfl
 cases q:t.relaid (es.map (·.1)) n with
 |none =>
   unfold SetTable.relaid SetTable.laid at q
   rw[e] at q
   cases q
 |some r =>
   unfold SetTable.relaid SetTable.laid at q
   rw[e] at q
   cases q
   refine⟨_,(List.range (SetTable.sizeAbove n - 1+1)).filterMap fun j=>(owner.getD j none).map (j, ·),rfl,?_,rfl,zkm owner _,rfl,rfl,rfl,rfl,?_⟩
   · have:=zld owner
     rw[ok.1] at this
     rw[this]
     exact ok.2
   · rintro⟨j,k⟩ hq
     obtain⟨j',hj,ej⟩:=List.mem_filterMap.mp hq
     have own:owner[j]? = some (some k):=by
      cases z:owner.getD j' none with
      |none=>rw[z] at ej;cases ej
      |some x =>
        rw[z] at ej
        cases ej
        rw[Array.getD_eq_getD_getElem?] at z
        cases y:owner[j]? with
        |none=>rw[y] at z;cases z
        |some o=>rw[y] at z;exact congrArg some z
     obtain⟨c,hc,m,a1,a2,a3⟩:=rch j k own
     refine⟨c,hc,m,a1,a2,fun m' hm'=>?_⟩
     obtain⟨x,hx⟩:=a3 m' hm'
     exact List.mem_map.mpr ⟨(W (SetTable.sizeAbove n - 1) c m',x),lm _ x hx,rfl⟩
abbrev Z:=(Int×Int)×Addr
def zO(z:Z):Int×Value:=(hP z.1,.ref z.2)
theorem zhP(z:Z):zO z=(hP z.1,.ref z.2):=by unfold zO;rfl
section
variable{prog:Program}{w:World}{A:Around}{E:Value->Shared->Prop}{s:Shared}{a p:Addr}{es:Array (Int×Value)}{ep:Nat}{t:SetTable}
def IsP(h:Heap)(z:Int×Int)(p:Addr):Prop:=∃ o items n t u,h.get? p=some o/\o.cls = .type "tuple" /\ o.data = .seq items n/\items.toList=[.int z.1 t,.int z.2 u]
theorem IsP.key{h:Heap}{z:Int×Int}(x:IsP h z p)(prog:Program)(w:World):IsTupleKey (intKind prog w) h [z.1,z.2] p:=by
 obtain⟨o,items,n,t,u,e,c,d,i⟩:=x
 exact⟨o,items,n,e,c,d,by rw[i];exact .cons (intKind_is _ _ _ _) (.cons (intKind_is _ _ _ _) .nil)⟩
theorem IsP.at{h h':Heap}{z:Int×Int}(x:IsP h z p)(k:∀ o,h.get? p=some o->h'.get? p=some o):IsP h' z p:=by
 obtain⟨o,items,n,t,u,e,r⟩:=x
 exact⟨o,items,n,t,u,k _ e,r⟩
theorem zkN{z:Int×Int}{Q:Int->Shared->Prop}(hu:A.units<cLine)(hp:IsP s.heap z p)(h:Q (hP z) { s with toks:=s.toks+3 }):wpAny (model prog w) A (pyHash (.ref p)) Q E s :=
 wpAny_pyHash_tuple (knd:=intKind prog w) hu (hp.key prog w) h
theorem znI{y z:Int×Int}{q:Addr}{Q:Bool->Shared->Prop}(hu:A.units<cLine)(hp:IsP s.heap y p)(hq:IsP s.heap z q)(h:Q (decide (y=z)) s):wpAny (model prog w) A (eqBool (.ref p) (.ref q)) Q E s:=by
 refine wpAny_eqBool_tuple (knd:=intKind prog w) hu (hp.key prog w) (hq.key prog w) ?_
 have e:decide ([y.1,y.2]=[z.1,z.2])=decide (y=z):=decide_eq_decide.mpr ⟨fun h=>by simp at h;exact Prod.ext h.1 h.2,fun h=>by rw[h]⟩
 rw[e]
 exact h
theorem zfg{z:Int×Int}{Q:Bool->Shared->Prop}(hp:IsP s.heap z p)(h:Q false s):wpAny (model prog w) A (ofAClassStatement 8 (.ref p)) Q E s:=by
 obtain⟨o,items,n,t,u,e,c,d,i⟩:=hp
 have hT:s.TypeIs (.ref p) "tuple" := ⟨o,e,c⟩
 unfold ofAClassStatement
 refine  wpAny_bind (wpAny_typeOf hT ?_)
 dsimp only
 rw[if_pos (show(("tuple" : String) == "tuple")=true by decide)]
 refine wpAny_bind (wpAny_pure ?_)
 rw[if_neg (by decide)]
 refine wpAny_bind (wpAny_seqItems e d ?_)
 dsimp only
 refine wpAny_bind ?_
 rw[<- Array.forIn_toList,i]
 rw[List.forIn_cons]
 unfold ofAClassStatement
 simp only[pure_bind,List.forIn_cons,List.forIn_nil]
 exact  wpAny_pure (wpAny_pure h)
theorem zia{z:Int×Int}{Q:Bool->Shared->Prop}(hp:IsP s.heap z p)(h:Q true s):wpAny (model prog w) A (hashByValue 8 (.ref p)) Q E s:=by
 obtain⟨o,items,n,t,u,e,c,d,i⟩:=hp
 have hT:s.TypeIs (.ref p) "tuple" := ⟨o,e,c⟩
 unfold hashByValue
 refine  wpAny_bind (wpAny_specialOf hT F.slot_tuple_hash.lookup ?_)
 dsimp only
 refine wpAny_bind (wpAny_seqItems e d ?_)
 refine wpAny_bind ?_
 dsimp only[Option.getD]
 rw[<- Array.forIn_toList,i]
 rw[List.forIn_cons]
 unfold hashByValue
 simp only[pure_bind,List.forIn_cons,List.forIn_nil]
 exact  wpAny_pure (wpAny_pure h)
theorem zgI{z:Int×Int}{Q:Bool->Shared->Prop}(hp:IsP s.heap z p)(h:Q false s):∀ (l:List Value),(∀ v∈l,∃ q y,v = .ref q/\IsP s.heap y q)->wpAny (model prog w) A (searchCouldBeSeen (.ref p) l) Q E s:=by
 intro l hl
 unfold searchCouldBeSeen
 refine wpAny_bind ?_
 refine wpAny_forIn_list _ (fun rest r s'=>r.1=none/\s'=s/\∀ v∈rest,∃ q y,v = .ref q/\IsP s.heap y q) _ ?_ ?_ _ _ ⟨rfl,rfl,hl⟩
 · rintro v rest r s' ⟨hr,rfl,hv⟩
   obtain⟨q,y,rfl,hq⟩:=hv v (.head _)
   have nx:∀ x∈rest,∃ q y,x=Value.ref q/\IsP s'.heap y q:=fun x hx=>hv x (.tail _ hx)
   dsimp only
   split
   · exact wpAny_pure ⟨rfl,rfl,nx⟩
   · refine wpAny_bind (wpAny_eqIsQuiet_tuple (hp.key prog w) ?_)
     rw[if_neg (by decide)]
     refine wpAny_bind (wpAny_eqIsQuiet_tuple (hq.key prog w) ?_)
     rw[if_neg (by decide)]
     refine wpAny_bind (zfg hp ?_)
     rw[if_neg (by decide)]
     refine wpAny_bind (zfg hq ?_)
     rw[if_neg (by decide)]
     exact wpAny_pure ⟨rfl,rfl,nx⟩
 · rintro⟨r1,r2⟩ s' ⟨hr,rfl,_⟩
   simp only at hr
   subst hr
   exact wpAny_pure h
structure TabP(es:Array (Int×Value))(t:SetTable)(B:Bool)(zs:List Z):Prop where
 el:es.toList=zs.map zO
 sm:∀ z∈zs,SmP z.1
 nd:(zs.map (·.1)).Nodup
 hon:Hon t B
 msk:zbZ t.mask
 sz:t.place.size=es.size
 rm:t.place.size<=t.mask
 rch:∀ q∈zs.zip t.place.toList,Rch t.mask t.place.toList (hP q.1.1) q.2
theorem TabP.fits{B:Bool}{zs:List Z}(h:TabP es t B zs):t.fits es.size=true:=by
 have:=h.sz
 have:=h.rm
 simp only[SetTable.fits,SetTable.fill,h.hon.dum,Bool.and_eq_true,beq_iff_eq,decide_eq_true_eq]
 exact⟨h.sz,by simp;omega⟩
theorem TabP.get{B:Bool}{zs:List Z}(h:TabP es t B zs)(i:Nat):es[i]? = (zs[i]?).map zO:=by
 rw[<- Array.getElem?_toList,h.el,List.getElem?_map]
theorem TabP.len{B:Bool}{zs:List Z}(h:TabP es t B zs):zs.length=es.size:=by
 have:=congrArg List.length h.el
 simpa using this.symm
theorem ziB{t:SetTable}(hd:t.dummies = #[])(f:Nat->Int)(h:Int):∀ (n:Nat) (p:SetTable.Probe) (j i:Nat) (nx:SetTable.Probe),SetTable.probe.go t f h n p=some (.candidate j i nx)->t.slot j = .live i/\f i=h:=by
 intro n
 induction n with
 |zero=>intro p j i nx e;cases e
 |succ n ih =>
   intro p j i nx e
   unfold SetTable.probe.go at e
   split at e
   · cases e
   · rename_i q
     exact absurd q (zbK hd _)
   · rename_i k q
     split at e
     · rename_i c
       cases e
       exact⟨q,eq_of_beq c⟩
     · exact ih _ j i nx e
theorem znV{t:SetTable}{j i:Nat}(h:t.slot j = .live i):i<t.place.size:=(Array.getElem?_eq_some_iff.mp (zd7 h)).1
theorem TabP.found{B:Bool}{zs:List Z}(T:TabP es t B zs){z:Int×Int}(hz:z∈zs.map (·.1)){f:Nat->Int}(hf:∀ i (h:i<zs.length),f i=hP zs[i].1):∃ j i nx,t.probe f (hP z) (t.probeStart (hP z))=some (.candidate j i nx):=by
 obtain⟨y,hy,rfl⟩:=List.mem_map.mp hz
 obtain⟨k,hk,rfl⟩:=List.mem_iff_getElem.mp hy
 have kp:k<t.place.size:=by rw[T.sz, <- T.len];exact hk
 have zm:(zs[k],t.place[k])∈zs.zip t.place.toList:=by
  refine List.mem_iff_getElem.mpr ⟨k,by simp;omega,?_⟩
  simp
 obtain⟨m,a1,a2,a3⟩:=T.rch _ zm
 refine zpt T.hon.dum f _ (10 * SetTable.turns t.mask) _ m k a1 (fun m' hm'=>?_) ?_ (hf k hk)
 · rw[zoo]
   obtain⟨i,hi⟩:=List.getElem?_of_mem (a3 m' hm')
   rw[Array.getElem?_toList] at hi
   exact⟨i,zjK T.hon.rise hi⟩
 · rw[zoo,a2]
   exact zjK T.hon.rise (Array.getElem?_eq_getElem kp)
theorem TabP.hash{B:Bool}{zs:List Z}(T:TabP es t B zs){i:Nat}(h:i<zs.length):((es[i]?).map (·.1)).getD 0=hP zs[i].1:=by
 have e:=T.get i
 rw[List.getElem?_eq_getElem h] at e
 rw[e,Option.map_some,Option.map_some,Option.getD_some,zhP]
end
section
variable{prog:Program}{w:World}{A:Around}{E:Value->Shared->Prop}{s:Shared}{a p:Addr}{es:Array (Int×Value)}{ep:Nat}{t:SetTable}
theorem zhb{z:Int×Int}{B:Bool}{zs:List Z}{Q:SetFound->Shared->Prop}(hu:A.units<cLine)(ha:s.heap.get? a=some (setO es ep t))(T:TabP es t B zs)(hz:∀ y∈zs,IsP s.heap y.1 y.2)(hp:IsP s.heap z p)(sm:SmP z)
 (there:z∈zs.map (·.1)->Q (.there none) s) (free:∀ j,z ∉ zs.map (·.1)->t.slot j = .empty->Rch t.mask t.place.toList (hP z) j->Q (.free j false) s) (n:Nat):wpAny (model prog w) A (setSearchFrom a (.ref p) (hP z) true (n+1) none) Q E s:=by
 rw[setSearchFrom]
 refine wpAny_bind (wpAny_setState_of ha rfl T.fits ?_)
 dsimp only
 have odd:t.gaveWay=false:=by
  unfold SetTable.gaveWay
  rcases T.msk with e | e | e | e<;>rw[e]<;>decide
 rw[odd,if_neg (by decide)]
 have room:t.place.size<=t.mask:=T.rm
 obtain⟨m,hm⟩:=ziM T.hon.dum T.msk room (fun i:Nat=>((es[i]?).map (·.1)).getD 0) (hP z)
 generalize hq:SetTable.probe t _ (hP z) _=r
 have hr:r=some m:=by rw[<- hq];exact hm
 clear hq
 subst hr
 dsimp only
 · generalize hf:(fun i:Nat=>((es[i]?).map (·.1)).getD 0)=f at hm
   have hfi:∀ i (h:i<zs.length),f i=hP zs[i].1:=fun i h=>by rw[<- hf];exact T.hash h
   cases m with
   |empty j d =>
     dsimp only
     obtain⟨rfl,e⟩:=zl4 T.hon.dum f (hP z) _ _ j d rfl hm
     obtain⟨m,b1,b2,b3⟩:=zlP T.hon.dum f (hP z) _ _ j none hm
     refine wpAny_pure (free j (fun zin=>?_) e ⟨m,b1,by rw[<- zoo];exact b2,fun m' hm'=>?_⟩)
     · obtain⟨j',i',nx',q⟩:=T.found zin hfi
       rw[hm] at q
       cases q
     · obtain⟨i,hi⟩:=b3 m' hm'
       rw[zoo] at hi
       have:=zd7 hi
       rw[<- Array.getElem?_toList] at this
       exact List.mem_of_getElem? this
   |candidate j i nx =>
     dsimp only
     obtain⟨e1,e2⟩:=ziB T.hon.dum f (hP z) _ _ j i nx hm
     have lz:i<zs.length:=by rw[T.len, <- T.sz];exact znV e1
     have key:zs[i].1=z:=zoO (T.sm _ (List.getElem_mem lz)) sm ((hfi i lz).symm.trans e2)
     have zin:z∈zs.map (·.1):=List.mem_map.mpr ⟨zs[i],List.getElem_mem lz,key⟩
     have ge:=T.get i
     rw[List.getElem?_eq_getElem lz] at ge
     rw[Option.map_some,zhP] at ge
     have go:∀ {k:Bool->(Array (Int×Value)×Nat×SetTable)->Sem SetFound},(∀ x,k true x=pure (SetFound.there none))->wpAny (model prog w) A (do
      let equal <- holding [Value.ref zs[i].2] (eqBool (.ref zs[i].2) (.ref p))
      let x <- setState a
      k equal x) Q E s:=fun {k} hk=>by
      refine wpAny_bind (wpAny_holding (znI hu (hz _ (List.getElem_mem lz)) hp ?_))
      rw[decide_eq_true key]
      refine wpAny_bind (wpAny_setState_of ha rfl T.fits ?_)
      rw[hk]
      exact wpAny_pure (there zin)
     split
     · refine wpAny_bind (zgI hp ?_ _ fun v hv=>?_)
       · rw[if_neg (by decide)]
         simp only[ge]
         exact go fun x=>by simp
       · obtain⟨e,he,rfl⟩:=List.mem_map.mp hv
         have he:e∈es.toList:=by
          rw[Array.mem_toList_iff] at he ⊢
          exact(Array.mem_filter.mp he).1
         rw[T.el] at he
         obtain⟨y,hy,rfl⟩:=List.mem_map.mp he
         exact⟨y.2,y.1,rfl,hz y hy⟩
     · simp only[ge]
       exact go fun x=>by simp
end
section
variable{prog:Program}{w:World}{A:Around}{E:Value->Shared->Prop}{s:Shared}{a p:Addr}{es:Array (Int×Value)}{ep:Nat}{t:SetTable}
theorem znB{α β:Type}{x:α}{y:β}:∀ (xs:List α) (ys:List β) (n:Nat),xs.length=ys.length->∀ q∈(xs.take n++x::xs.drop n).zip (ys.take n++y::ys.drop n),q=(x,y)\/q∈xs.zip ys:=by
 intro xs ys n h q hq
 have l:(xs.take n).length=(ys.take n).length:=by rw[List.length_take,List.length_take,h]
 rw[List.zip_append l,List.zip_cons_cons] at hq
 have e:xs.zip ys=(xs.take n).zip (ys.take n)++(xs.drop n).zip (ys.drop n):=by rw[<- List.zip_append l,List.take_append_drop,List.take_append_drop]
 rw[e]
 rcases List.mem_append.mp hq with z | z
 · exact .inr (List.mem_append_left _ z)
 · rcases List.mem_cons.mp z with z | z
   · exact .inl z
   · exact .inr (List.mem_append_right _ z)
theorem TabP.put{B:Bool}{zs:List Z}(T:TabP es t B zs){z:Z}(hn:z.1 ∉ zs.map (·.1))(sm:SmP z.1){j:Nat}(hj:t.slot j = .empty)(hr:Rch t.mask t.place.toList (hP z.1) j)(rm:t.place.size+1<=t.mask) :
 TabP (SetTable.insertAt es (t.put j).2 (zO z)) (t.put j).1 B (zs.take (t.put j).2++z::zs.drop (t.put j).2)/\(t.put j).1.mask=t.mask/\(t.put j).1.place.size=t.place.size+1/\(t.put j).1.dummies = #[]:=by
 have dm:(t.put j).1.dummies = #[]:=by
  unfold SetTable.put
  dsimp only
  rw[T.hon.dum,zme]
  rfl
 have pl:(t.put j).1.place=SetTable.insertAt t.place (t.put j).2 j:=rfl
 have p2:(t.put j).2=SetTable.below t.place j:=rfl
 generalize hq:(t.put j).2=q at *
 have plL:(t.put j).1.place.toList=t.place.toList.take q++j::t.place.toList.drop q:=by rw[pl,SetTable.toList_insertAt]
 have mk:(t.put j).1.mask=t.mask:=rfl
 have sz1:(t.put j).1.place.size=t.place.size+1:=by
  rw[<- Array.length_toList,plL]
  simp
  omega
 have len:zs.length=t.place.toList.length:=by rw[T.len, <- T.sz,Array.length_toList]
 have memP:∀ x∈t.place.toList,x∈(t.put j).1.place.toList:=fun x hx=>by
  rw[plL]
  rw[<- List.take_append_drop q t.place.toList] at hx
  rcases List.mem_append.mp hx with h | h
  · exact List.mem_append_left _ h
  · exact List.mem_append_right _ (List.mem_cons_of_mem _ h)
 have perm:(zs.take q++z::zs.drop q).Perm (z::zs):=by
  have:=List.perm_middle (a:=z) (l₁:=zs.take q) (l₂:=zs.drop q)
  rwa[List.take_append_drop] at this
 refine⟨⟨?_,fun y hy=>?_,?_,⟨?_,dm,T.hon.led⟩,T.msk,?_,by rw[sz1];exact rm,fun y hy=>?_⟩,rfl,sz1,dm⟩
 · rw[SetTable.toList_insertAt,T.el,List.map_append,List.map_cons,List.map_take,List.map_drop]
 · rcases List.mem_cons.mp (perm.mem_iff.mp hy) with e | e
   · rw[e];exact sm
   · exact T.sm y e
 · refine(perm.map _).nodup_iff.mpr ?_
   rw[List.map_cons]
   exact List.nodup_cons.mpr ⟨hn,T.nd⟩
 · show zfM (t.put j).1.place
   rw[pl,p2]
   exact zhK T.hon.rise (zj7 T.hon.dum hj)
 · have l2:(SetTable.insertAt es q (zO z)).toList.length=es.toList.length+1:=by
    rw[SetTable.toList_insertAt]
    simp only[List.length_append,List.length_take,List.length_cons,List.length_drop]
    omega
   rw[Array.length_toList,Array.length_toList] at l2
   rw[sz1,l2,T.sz]
 · rw[plL] at hy
   rcases znB zs t.place.toList q len y hy with e | e
   · rw[e,mk]
     exact hr.mono memP
   · rw[mk]
     exact(T.rch y e).mono memP
theorem zq8{zs:List Z}(hel:es.toList=zs.map zO)(l:List Nat):l.filterMap (fun i=>es[i]?)=(l.filterMap fun i=>zs[i]?).map zO:=by
 rw[List.map_filterMap]
 congr 1
 funext i
 rw[<- Array.getElem?_toList,hel,List.getElem?_map]
theorem TabP.relay{B:Bool}{zs:List Z}(T:TabP es t B zs){n:Nat}(hm:zbZ (SetTable.sizeAbove n - 1))(hl:es.size<=SetTable.sizeAbove n - 1) :
 ∃ (t':SetTable) (order:Array Nat) (zs':List Z),t.relaid (es.map (·.1)) n=some (t',order)/\(order.filterMap fun i=>es[i]?).size=es.size/\TabP (order.filterMap fun i=>es[i]?) t' B zs'/\zs'.Perm zs/\t'.mask=SetTable.sizeAbove n - 1/\t'.place.size=es.size:=by
 obtain⟨t',live,e,pm,mk,ri,du,le,pn,pls,rc⟩:=zh1 (t:=t) hm hl
 have zp:((live.map (·.2)).filterMap fun i=>zs[i]?).Perm zs:=by
  have q:=pm.filterMap (fun i=>zs[i]?)
  rw[<- T.len,List.filterMap_getElem?_range_length] at q
  exact q
 have esl:((live.map (·.2)).toArray.filterMap fun i=>es[i]?).toList=((live.map (·.2)).filterMap fun i=>zs[i]?).map zO:=by
  rw[Array.toList_filterMap]
  exact zq8 T.el _
 have ezs:((live.map (·.2)).toArray.filterMap fun i=>es[i]?).size=es.size:=by
  rw[<- Array.length_toList,esl,List.length_map,zp.length_eq,T.len]
 have ll:live.length=es.size:=by
  have:=pm.length_eq
  simpa using this
 have psz:t'.place.size=es.size:=by rw[<- Array.length_toList,pls,List.length_map,ll]
 refine⟨t',_,_,e,ezs,⟨esl,fun y hy=>T.sm y (zp.mem_iff.mp hy),(zp.map _).nodup_iff.mpr T.nd,⟨ri,du,le.trans T.hon.led⟩,by rw[mk];exact hm,psz.trans ezs.symm,by rw[psz,mk];exact hl,fun y hy=>?_⟩,zp,mk,psz⟩
 have lt:∀ q∈live,q.2<zs.length:=fun q hq=>by
  have:=pm.mem_iff.mp (List.mem_map.mpr ⟨q,hq,rfl⟩)
  rw[T.len]
  exact List.mem_range.mp this
 have zeq:∀ (l:List (Nat×Nat)),(∀ q∈l,q.2<zs.length)->∀ y∈((l.map (·.2)).filterMap fun i=>zs[i]?).zip (l.map (·.1)),∃ q∈l,zs[q.2]? = some y.1/\y.2=q.1:=by
  intro l
  induction l with
  |nil=>intro _ y hy;simp at hy
  |cons c r ih =>
    intro h y hy
    have lc:=h c (.head _)
    rw[List.map_cons,List.map_cons,List.filterMap_cons_some (List.getElem?_eq_getElem lc),List.zip_cons_cons] at hy
    rcases List.mem_cons.mp hy with e | e
    · exact⟨c,.head _,by rw[e];exact List.getElem?_eq_getElem lc,by rw[e]⟩
    · obtain⟨q,hq,b⟩:=ih (fun q hq=>h q (.tail _ hq)) y e
      exact⟨q,.tail _ hq,b⟩
 rw[pls] at hy ⊢
 obtain⟨q,hq,e1,e2⟩:=zeq live lt y hy
 obtain⟨c,hc,r⟩:=rc q hq
 have ec:c=hP y.1.1:=by
  have h2:(es.map (·.1)).toList[q.2]? = some (hP y.1.1):=by
   rw[Array.toList_map,T.el,List.map_map,List.getElem?_map,e1,Option.map_some,Function.comp_apply,zhP]
  rw[h2] at hc
  exact(Option.some.inj hc).symm
 rw[mk,e2]
 rw[ec] at r
 exact r
end
section
variable{prog:Program}{w:World}{A:Around}{E:Value->Shared->Prop}{s:Shared}{a p:Addr}
def SetZ(B:Bool)(h:Heap)(a:Addr)(zs:List Z):Prop:=∃ es ep t,h.get? a=some (setO es ep t)/\TabP es t B zs/\t.place.size * 5<t.mask * 3
theorem SetZ.at{B:Bool}{h h':Heap}{zs:List Z}(x:SetZ B h a zs)(k:∀ o,h.get? a=some o->h'.get? a=some o):SetZ B h' a zs:=by
 obtain⟨es,ep,t,e,r⟩:=x
 exact⟨es,ep,t,k _ e,r⟩
theorem SetZ.fresh(B:Bool){h:Heap}(e:h.get? a=some (setO #[] 0 (.fresh 0 0 (!B)))):SetZ B h a [] :=
 ⟨#[],0,_,e,⟨rfl,(fun z hz=>nomatch hz),List.nodup_nil,Hon.fresh B,.inl rfl,rfl,(show 0<=7 by decide),(fun q hq=>by simp at hq)⟩,(show 0 * 5<7 * 3 by decide)⟩
theorem grow{m n:Nat}(hm:zbZ m)(h1:n * 5<m * 3)(h2:m * 3<=(n+1) * 5)(h3:n<300):zbZ (SetTable.sizeAbove (SetTable.grown (n+1)) - 1)/\n+1<=SetTable.sizeAbove (SetTable.grown (n+1)) - 1/\(n+1) * 5<(SetTable.sizeAbove (SetTable.grown (n+1)) - 1) * 3/\SetTable.sizeAbove (SetTable.grown (n+1))<=sizeLine:=by
 rcases  hm with rfl | rfl | rfl | rfl
 · obtain rfl:n=4:=by omega
   exact⟨.inr (.inl (by decide)),by decide,by decide,by decide⟩
 · obtain rfl:n=18:=by omega
   exact⟨.inr (.inr (.inl (by decide))),by decide,by decide,by decide⟩
 · obtain rfl:n=76:=by omega
   exact⟨.inr (.inr (.inr (by decide))),by decide,by decide,by decide⟩
 · omega
theorem zhO{z:Int×Int}{B:Bool}{zs:List Z}{Q:Bool->Shared->Prop}(hu:A.units<cLine)(hS:SetZ B s.heap a zs)(hz:∀ y∈zs,IsP s.heap y.1 y.2)(hp:IsP s.heap z p)(sm:SmP z)(hl:zs.length<300)
 (same:z∈zs.map (·.1)->∀ tk,Q false { s with toks:=tk })
 (new:z ∉ zs.map (·.1)->∀ h' tk zs',Heap.SameBut a s.heap h'->SetZ B h' a zs'->zs'.Perm ((z,p)::zs)->Q true { s with heap:=h',toks:=tk }):wpAny (model prog w) A (setAdd a (.ref p)) Q E s:=by
 obtain⟨es,ep,t,ha,T,nf⟩:=hS
 unfold setAdd
 refine wpAny_holding (wpAny_bind (zkN hu hp ?_))
 unfold setAddHashed
 refine wpAny_holding ?_
 show wpAny _ _ (setAddHashedIn a (.ref p) (hP z) (99999+1)) _ _ _
 rw[setAddHashedIn]
 refine wpAny_bind (wpAny_setState_of (s:={ s with toks:=s.toks+3 }) ha rfl T.fits ?_)
 have ns:byScan (.ref p) es=false:=rfl
 dsimp only
 rw[ns,if_neg (by decide)]
 refine wpAny_bind ?_
 show wpAny _ _ (setSearchFrom a (.ref p) (hP z) true (99999+1) none) _ _ _
 refine zhb (s:={ s with toks:=s.toks+3 }) hu ha T hz hp sm (fun hin=>?_) (fun j hn hj hr=>?_) 99999
 · exact wpAny_pure (same hin _)
 · dsimp only
   refine wpAny_bind (wpAny_setState_of (s:={ s with toks:=s.toks+3 }) ha rfl T.fits ?_)
   dsimp only
   have room:t.place.size+1<=t.mask:=by
    rcases T.msk with e | e | e | e<;>omega
   obtain⟨T1,mk1,sz1,dm1⟩:=T.put (z:=(z,p)) hn sm hj hr room
   rw[zhP] at T1
   generalize hq:(t.put j).2=q at T1
   generalize ht:(t.put j).1=t1 at T1 mk1 sz1 dm1
   have perm1:(zs.take q++(z,p)::zs.drop q).Perm ((z,p)::zs):=by
    have:=List.perm_middle (a:=(z,p)) (l₁:=zs.take q) (l₂:=zs.drop q)
    rwa[List.take_append_drop] at this
   have esl:(SetTable.insertAt es q (hP z,.ref p)).size=zs.length+1:=by
    rw[<- T1.len]
    simp only[List.length_append,List.length_take,List.length_cons,List.length_drop]
    omega
   have big:(300:Nat)<=sizeLine:=by decide
   have zl:t.place.size=zs.length:=by rw[T.sz,T.len]
   have ez:es.size=zs.length:=T.len.symm
   have g1:=zjv (es':=SetTable.insertAt es q (hP z,.ref p)) (t':=t1) ha
   have sb1:=Heap.SameBut.update s.heap a (Obj.putSet (SetTable.insertAt es q (hP z,.ref p)) t1)
   have tf:t1.tooFull=decide (t1.place.size * 5 ≥ t1.mask * 3):=by
    unfold SetTable.tooFull SetTable.fill
    rw[dm1]
    rfl
   have fin:wpAny (model prog w) A (if (!false && t1.tooFull)=true then do
    setRelay a (SetTable.grown (es.size+1))
    pure true
    else pure true) Q E { s with heap:=s.heap.update a (Obj.putSet (SetTable.insertAt es q (hP z,.ref p)) t1),toks:=s.toks+3 }:=by
    split
    · rename_i c
      rw[tf,Bool.not_false,Bool.true_and,decide_eq_true_eq,sz1,mk1] at c
      obtain⟨k1,k2,k3,k4⟩:=grow T.msk nf c (by omega)
      rw[<- T.sz]
      refine wpAny_bind ?_
      unfold setRelay
      refine wpAny_bind (wpAny_setState_of (s:={ s with heap:=s.heap.update a (Obj.putSet (SetTable.insertAt es q (hP z,.ref p)) t1),toks:=s.toks+3 }) g1 rfl T1.fits ?_)
      dsimp only
      rw[if_neg (Nat.not_lt.mpr k4)]
      obtain⟨t2,order,zs2,e2,sz2,T2,pm2,mk2,ps2⟩:=T1.relay (n:=SetTable.grown (t.place.size+1)) k1 (by rw[esl, <- zl];exact k2)
      rw[e2]
      refine wpAny_bind (show wpAny _ _ (if ((order.filterMap fun i=>(SetTable.insertAt es q (hP z,.ref p))[i]?).size != (SetTable.insertAt es q (hP z,.ref p)).size)=true then (unsupported "internal:set-table-lost-an-element" >>= fun (_:PUnit)=>pure (order.filterMap fun i=>(SetTable.insertAt es q (hP z,.ref p))[i]?,t2)) else pure (order.filterMap fun i=>(SetTable.insertAt es q (hP z,.ref p))[i]?,t2)) _ _ _ from ?_)
      rw[if_neg (by rw[sz2];simp)]
      refine wpAny_pure ?_
      dsimp only
      refine wpAny_storeSet_of (s:={ s with heap:=s.heap.update a (Obj.putSet (SetTable.insertAt es q (hP z,.ref p)) t1),toks:=s.toks+3 }) g1 rfl ?_ (by rw[sz2,esl];omega)
      refine wpAny_pure (new hn _ _ zs2 (sb1.trans (Heap.SameBut.update _ a _)) ⟨_,_,t2,zjv g1,T2,?_⟩ (pm2.trans perm1))
      rw[ps2,mk2,esl, <- zl]
      exact k3
    · rename_i c
      rw[tf,Bool.not_false,Bool.true_and,decide_eq_true_eq] at c
      exact wpAny_pure (new hn _ _ _ sb1 ⟨_,_,t1,g1,T1,by omega⟩ perm1)
   split
   · refine wpAny_bind (zia (s:={ s with toks:=s.toks+3 }) hp ?_)
     rw[if_pos rfl]
     refine wpAny_bind (wpAny_storeSet_of (s:={ s with toks:=s.toks+3 }) ha rfl ?_ (by omega))
     exact fin
   · refine  wpAny_bind (wpAny_pure ?_)
     rw[if_pos rfl]
     refine wpAny_bind (wpAny_storeSet_of (s:={ s with toks:=s.toks+3 }) ha rfl ?_ (by omega))
     exact fin
end
section
variable{prog:Program}{w:World}{A:Around}{E:Value->Shared->Prop}{s:Shared}{a p:Addr}
theorem zlR{z:Int×Int}{B:Bool}{zs:List Z}{Q:Value->Shared->Prop}(hu:A.units+1<cLine)(hS:SetZ B s.heap a zs)(hz:∀ y∈zs,IsP s.heap y.1 y.2)(hp:IsP s.heap z p)(sm:SmP z)(hl:zs.length<300)
 (h:∀ h' tk zs',Heap.SameBut a s.heap h'->SetZ B h' a zs'->(zs'=zs/\z∈zs.map (·.1))\/(zs'.Perm ((z,p)::zs)/\z ∉ zs.map (·.1))->Q .none { s with heap:=h',toks:=tk }):wpAny (model prog w) A (call (.builtin "set.add") [.ref a,.ref p]) Q E s:=by
 have hT:s.TypeIs (.ref a) "set" := by obtain⟨es,ep,t,e,_⟩:=hS;exact⟨_,e,rfl⟩
 refine wpAny_call_entry F.slot_set_add hT F.entry_set_add ?_ (F.args_set_add_2 _ _)
 show wpAny _ _ (setAdd a (.ref p) >>= _) _ _ _
 refine wpAny_bind (zhO hu hS hz hp sm hl (fun hin tk=>?_) fun hn h' tk zs' sb S pm=>?_)
 · exact wpAny_pure ⟨_,rfl,h s.heap tk zs (Heap.SameBut.refl _ _) hS (.inl ⟨rfl,hin⟩)⟩
 · exact wpAny_pure ⟨_,rfl,h h' tk zs' sb S (.inr ⟨pm,hn⟩)⟩
end
end St
namespace L2
open PySem PySem.Spec PyProof.Rows
abbrev Key:=Sum Int Str
def zoJ:Key->Value->Bool
 | .inl k,v=>Value.isInt k v
 | .inr x,v=>Value.isStrOf x v
def zrW(w:World):Key->Int
 | .inl k=>hashInt k
 | .inr x=>hashStr w x
theorem za1:∀ {k:Key} {v:Value},zoJ k v=true->(∃ i t,k=Sum.inl i/\v=Value.int i t)\/(∃ x t,k=Sum.inr x/\v=Value.str x t)
 | .inl i,v,h=>by
   obtain⟨t,e⟩:=Value.isInt_shape (k:=i) (v:=v) h
   exact .inl ⟨i,t,rfl,e⟩
 | .inr x,v,h=>by
   obtain⟨t,e⟩:=Value.isStrOf_shape (x:=x) (v:=v) h
   exact .inr ⟨x,t,rfl,e⟩
theorem zp4(a b:Int):decide ((Sum.inl a:Key)=Sum.inl b)=(a == b):=by
 by_cases e:a=b
 · subst e;simp
 · have h : ¬ (Sum.inl a:Key)=Sum.inl b:=fun q=>e (Sum.inl.inj q)
   rw[decide_eq_false h]
   exact(beq_eq_false_iff_ne.mpr e).symm
theorem zo6(a b:Str):decide ((Sum.inr a:Key)=Sum.inr b)=decide (a=b):=by
 by_cases e:a=b
 · subst e;simp
 · have h : ¬ (Sum.inr a:Key)=Sum.inr b:=fun q=>e (Sum.inr.inj q)
   rw[decide_eq_false h,decide_eq_false e]
theorem zpN(a:Int)(b:Str):decide ((Sum.inl a:Key)=Sum.inr b)=false:=decide_eq_false (fun q=>nomatch q)
theorem zpu(a:Str)(b:Int):decide ((Sum.inr a:Key)=Sum.inl b)=false:=decide_eq_false (fun q=>nomatch q)
def zjk(prog:Program)(w:World):PySem.KeyKind prog w Key where
 is:=zoJ
 hash:=zrW w
 inj:=fun v a b ha hb=>by
  rcases za1 ha with ⟨i,t,rfl,rfl⟩ | ⟨x,t,rfl,rfl⟩
  · rcases za1 hb with ⟨j,u,rfl,e⟩ | ⟨y,u,rfl,e⟩
    · injection e with e1 _;rw[e1]
    · exact nomatch e
  · rcases za1 hb with ⟨j,u,rfl,e⟩ | ⟨y,u,rfl,e⟩
    · exact nomatch e
    · injection e with e1 _;rw[e1]
 byValue:=fun k v h=>by
  rcases za1 h with ⟨i,t,rfl,rfl⟩ | ⟨x,t,rfl,rfl⟩<;>rfl
 pyHash:=fun hv h=>by
  rcases za1 hv with ⟨i,t,rfl,rfl⟩ | ⟨x,t,rfl,rfl⟩
  · exact wpAny_pyHash_int h
  · exact wpAny_pyHash_str h
 eqBool:=fun hu hv h=>by
  rcases za1 hu with ⟨i,t,rfl,rfl⟩ | ⟨x,t,rfl,rfl⟩
  · rcases za1 hv with ⟨j,u,rfl,rfl⟩ | ⟨y,u,rfl,rfl⟩
    · rw[zp4] at h;exact wpAny_eqBool_int h
    · rw[zpN] at h;exact SeqAt.EqAt.int_str i t y u _ _ _ _ h
  · rcases za1 hv with ⟨j,u,rfl,rfl⟩ | ⟨y,u,rfl,rfl⟩
    · rw[zpu] at h;exact SeqAt.EqAt.str_int x t j u _ _ _ _ h
    · rw[zo6] at h;exact wpAny_eqBool_str h
 «strs» := fun k x t v h=>by
  rcases za1 h with ⟨i,u,rfl,e⟩ | ⟨y,u,rfl,e⟩
  · exact nomatch e
  · injection e with e1 _
    subst e1
    cases v<;>rfl
inductive V where
 |non | bl (b:Bool) | int (i:Int) | str (x:Str) | byt (b:Array UInt8) | flt (b:UInt64) | ref (a:Addr) | ty (n:String)
 deriving DecidableEq
def RelV:V->Value->Prop
 | .non,u=>u=Value.none
 | .bl b,u=>u=Value.bool b
 | .int i,u=>∃ t,u=Value.int i t
 | .str x,u=>∃ t,u=Value.str x t
 | .byt b,u=>∃ t,u=Value.bytes b t
 | .flt b,u=>∃ t,u=Value.float b t
 | .ref a,u=>u=Value.ref a
 | .ty n,u=>u=Value.type n
abbrev Vals:List V->List Value->Prop:=Paired RelV
theorem Vals.length{xs:List V}{us:List Value}(r:Vals xs us):xs.length=us.length:=Paired.length r
theorem Vals.get:∀ {xs:List V} {us:List Value} {i:Nat} {x:V},Vals xs us->xs[i]? = some x->∃ u,us[i]? = some u/\RelV x u
 | _,_,_,_,.nil,e=>by simp at e
 | _,_,0,_,.cons r _,e=>by simp at e;subst e;exact⟨_,rfl,r⟩
 | _,_,i+1,x,.cons _ t,e=>by
   obtain⟨u,h1,h2⟩:=Vals.get (i:=i) (x:=x) t (by simpa using e)
   exact⟨u,by simpa using h1,h2⟩
theorem Vals.set{x:V}{u:Value}(r:RelV x u):∀ {xs:List V} {us:List Value} (i:Nat),Vals xs us->Vals (xs.set i x) (us.set i u)
 | _,_,_,.nil=>.nil
 | _,_,0,.cons _ t=>.cons r t
 | _,_,i+1,.cons q t=>.cons q (Vals.set r i t)
theorem Vals.append:∀ {xs ys:List V} {us ws:List Value},Vals xs us->Vals ys ws->Vals (xs++ys) (us++ws)
 | _,_,_,_,.nil,s=>s
 | _,_,_,_,.cons r t,s=>.cons r (Vals.append t s)
def RelO:Option V->Option Value->Prop
 |some v,some u=>RelV v u
 |none,none=>True
 | _,_=>False
def KV{κ:Type}:List (κ×V)->List (κ×Value)->Prop:=Paired fun (p:κ×V) (q:κ×Value)=>p.1=q.1/\RelV p.2 q.2
def kV:Key->V
 | .inl i=>.int i
 | .inr x=>.str x
inductive HO where
 |lst (xs:List V)
 |tup (xs:List V)
 |dK (kvs:List (Key×V)) | dT (kvs:List (List Key×V))
 |set (S:Int->Bool) (n:Nat)
 |ins (C dx:Addr) (fs:List (Str×V))
 |own (x:Addr)
 |xd (fs:List (Str×V))
 |met (f x:Addr)
 |rng (lo hi:Int)
 |frz (o:Obj) (u:HO)
 |tbl (ps:Array Value)
 |ext (φ:Heap->Prop)
abbrev Hp:=Addr->Option HO
def upd(H:Hp)(a:Addr)(o:HO):Hp:=fun b=>if b=a then some o else H b
theorem zal{H:Hp}{a:Addr}{o:HO}:upd H a o a=some o:=by unfold upd;rw[if_pos rfl]
theorem zaf{H:Hp}{a b:Addr}{o:HO}(h:b≠a):upd H a o b=H b:=by unfold upd;rw[if_neg h]
theorem zer{H:Hp}{a b:Addr}{o u:HO}(h:H a=some o)(h':H b=some u)(d:o≠u):a≠b:=by
 intro e;subst e;rw[h] at h';exact d (Option.some.inj h')
theorem zaq{H:Hp}{a b:Addr}{o:HO}(h:H a=some o)(h':H b=none):a≠b:=by
 intro e;subst e;rw[h] at h';cases h'
section
variable(P:Program)(w:World)
def ObjOk(H:Hp)(h:Heap)(a:Addr):HO->Prop
 | .lst xs=>xs.length<=sizeLine/\∃ (its:List Value) (n:Nat),Vals xs its/\h.get? a=some { cls:=.type "list",data:=.seq its.toArray n }
 | .tup xs=>xs.length<=sizeLine/\∃ its:List Value,Vals xs its/\IsTup h a its.toArray
 | .dK kvs=>kvs.length<=sizeLine/\(a == sysModules)=false/\∃ vs,KV kvs vs/\h.DictOf (zjk P w) a vs
 | .dT kvs=>kvs.length<=sizeLine/\(a == sysModules)=false/\∃ xs:List (List Key×Addr×Value),
  Paired (fun (p:List Key×V) (q:List Key×Addr×Value)=>p.1=q.1/\H q.2.1=some (.tup (p.1.map kV))/\RelV p.2 q.2.2) kvs xs /\
  ∃ o es ep,h.get? a=some o/\o.ExactDict/\o.data = .dict es ep/\es.toList=xs.map (entryOfKey (tupleKind (zjk P w)))/\(xs.map (·.1)).Nodup
 | .set S n=>h.SetOf (intKind P w) a S n
 | .ins C dx fs=>H dx=some (.own a)/\fs.length<=1000/\dx≠a/\h.get? a=some (W.instObj C dx) /\
  ∃ mA,h.Ns1 dx mA/\(∀ f,RelO (fs.lookup f) (mA f))/\PySem.Within mA (fs.map (·.1))
 | .own _=>∃ o,h.get? a=some o
 | .xd fs=>∃ mA,h.Ns1 a mA/\∀ f,RelO (fs.lookup f) (mA f)
 | .rng lo hi=>∃ t u v,h.get? a=some { cls:=.type "range",data:=.fields #[.int lo t,.int hi u,.int 1 v] }
 | .frz o u=>h.get? a=some o/\ObjOk H h a u
 | .tbl ps=>h.get? a=some { cls:=.none,data:=.fields ps }
 | .met f x=>h.get? a=some (W.methodObj (.ref f) (.ref x))
 | .ext φ=>φ h/\(∃ o,h.get? a=some o)/\∀ h1 h2:Heap,φ h1->(∀ o,h1.get? a=some o->h2.get? a=some o)->φ h2
def HOk(H:Hp)(h:Heap):Prop:=∀ a o,H a=some o->ObjOk P w H h a o
end
section
variable{P:Program}{w:World}{H H':Hp}{h h':Heap}{a:Addr}{o:HO}
theorem ObjOk.lt(x:ObjOk P w H h a o):a<h.objs.size:=by
 cases o with
 |lst xs=>obtain⟨_,_,_,_,e⟩:=x;exact Heap.lt_size e
 |tup xs=>obtain⟨_,_,_,p⟩:=x;exact p.lt
 |dK kvs=>obtain⟨_,_,_,_,o,_,_,e,_⟩:=x;exact Heap.lt_size e
 |dT kvs=>obtain⟨_,_,_,_,o,_,_,e,_⟩:=x;exact Heap.lt_size e
 |set S n=>obtain⟨o,_,_,_,e,_⟩:=x;exact Heap.lt_size e
 |ins C dx fs=>obtain⟨_,_,_,e,_⟩:=x;exact Heap.lt_size e
 |own y=>obtain⟨_,e⟩:=x;exact Heap.lt_size e
 |xd fs=>obtain⟨_,⟨_,_,_,e,_⟩,_⟩:=x;exact Heap.lt_size e
 |rng lo hi=>obtain⟨_,_,_,e⟩:=x;exact Heap.lt_size e
 |frz ob u=>obtain⟨e,_⟩:=x;exact Heap.lt_size e
 |tbl ps=>exact Heap.lt_size (show h.get? a=some _ from x)
 |met f y=>exact Heap.lt_size (show h.get? a=some _ from x)
 |ext φ=>obtain⟨_,⟨_,e⟩,_⟩:=x;exact Heap.lt_size e
theorem Paired.mapP{α β:Type}{F G:α->β->Prop}:∀ {l₁:List α} {l₂:List β},Paired F l₁ l₂->(∀ a b,F a b->G a b)->Paired G l₁ l₂
 | _,_,.nil,_=>.nil
 | _,_,.cons r t,f=>.cons (f _ _ r) (Paired.mapP t f)
theorem ObjOk.stay(x:ObjOk P w H h a o)(k:∀ b u,(b=a\/H b=some (.own a))->h.get? b=some u->h'.get? b=some u)
 (ho:∀ b,H b=some (.own a)->H' b=some (.own a)) (ht:∀ b xs,H b=some (.tup xs)->H' b=some (.tup xs)):ObjOk P w H' h' a o:=by
 induction o with
 |lst xs=>obtain⟨z,its,n,r,e⟩:=x;exact⟨z,its,n,r,k _ _ (.inl rfl) e⟩
 |tup xs=>obtain⟨z,its,r,ob,e,c⟩:=x;exact⟨z,its,r,ob,k _ _ (.inl rfl) e,c⟩
 |dK kvs=>obtain⟨z,y,vs,r,ob,es,ep,e,c⟩:=x;exact⟨z,y,vs,r,ob,es,ep,k _ _ (.inl rfl) e,c⟩
 |dT kvs =>
   obtain⟨z,y,xs,r,ob,es,ep,e,c⟩:=x
   exact⟨z,y,xs,Paired.mapP r fun p q z=>⟨z.1,ht _ _ z.2.1,z.2.2⟩,ob,es,ep,k _ _ (.inl rfl) e,c⟩
 |set S n=>obtain⟨ob,es,ep,t,e,c⟩:=x;exact⟨ob,es,ep,t,k _ _ (.inl rfl) e,c⟩
 |ins C dx fs =>
   obtain⟨d,z,ne,e,mA,⟨od,es,ep,e2,c⟩,r⟩:=x
   exact⟨ho _ d,z,ne,k _ _ (.inl rfl) e,mA,⟨od,es,ep,k _ _ (.inr d) e2,c⟩,r⟩
 |own y=>obtain⟨ob,e⟩:=x;exact⟨ob,k _ _ (.inl rfl) e⟩
 |xd fs=>obtain⟨mA,⟨od,es,ep,e,c⟩,r⟩:=x;exact⟨mA,⟨od,es,ep,k _ _ (.inl rfl) e,c⟩,r⟩
 |rng lo hi=>obtain⟨t,u,v,e⟩:=x;exact⟨t,u,v,k _ _ (.inl rfl) e⟩
 |frz ob u ih=>obtain⟨e,q⟩:=x;exact⟨k _ _ (.inl rfl) e,ih q⟩
 |tbl ps =>
   have e:h.get? a=some { cls:=.none,data:=.fields ps }:=x
   show h'.get? a=some { cls:=.none,data:=.fields ps }
   exact k a _ (.inl rfl) e
 |met f y =>
   have e:h.get? a=some (W.methodObj (.ref f) (.ref y)):=x
   show h'.get? a=some (W.methodObj (.ref f) (.ref y))
   exact k a _ (.inl rfl) e
 |ext φ=>obtain⟨p,⟨o,e⟩,st⟩:=x;exact⟨st _ _ p fun o q=>k _ _ (.inl rfl) q,⟨o,k _ _ (.inl rfl) e⟩,st⟩
theorem HOk.lt(x:HOk P w H h)(e:H a=some o):a<h.objs.size:=(x a o e).lt
theorem HOk.fresh(x:HOk P w H h)(e:h.objs.size<=a):H a=none:=by
 cases q:H a with
 |none=>rfl
 |some u=>exact absurd (Nat.lt_of_lt_of_le (x.lt q) e) (Nat.lt_irrefl _)
theorem HOk.kept(x:HOk P w H h)(k:∀ b u,h.get? b=some u->h'.get? b=some u):HOk P w H h':=fun a o e =>
 (x a o e).stay (fun b u _ q=>k b u q) (fun _ q=>q) fun _ _ q=>q
theorem HOk.laid(x:HOk P w H h)(k:∀ b u,h.get? b=some u->h'.get? b=some u)(hp:h.objs.size<=a)(new:ObjOk P w (upd H a o) h' a o):HOk P w (upd H a o) h':=fun b u e=>by
 have hn:=x.fresh hp
 by_cases hb:b=a
 · subst hb;rw[zal] at e;cases e;exact new
 · rw[zaf hb] at e
   exact(x b u e).stay (fun c v _ q=>k c v q) (fun c q=>by rw[zaf (zaq q hn)];exact q) fun c xs q=>by rw[zaf (zaq q hn)];exact q
end
def Rd(H:Hp)(a:Addr)(u:HO):Prop:=H a=some u\/∃ o,H a=some (.frz o u)
theorem Rd.ok{P:Program}{w:World}{H:Hp}{h:Heap}{a:Addr}{u:HO}(r:Rd H a u)(x:HOk P w H h):ObjOk P w H h a u:=by
 rcases r with r | ⟨o,r⟩
 · exact x a u r
 · obtain⟨_,q⟩:=x a _ r
   exact q
def Mut:Option HO->Prop
 |some (.lst _)=>True
 |some (.dK _)=>True
 |some (.dT _)=>True
 |some (.set _ _)=>True
 |some (.ins _ _ _)=>True
 |some (.ext _)=>True
 | _=>False
section
variable{P:Program}{w:World}{H:Hp}{h h':Heap}{x e:Addr}{o':HO}
theorem HOk.write(ok:HOk P w H h)(mu:Mut (H x))(he:e=x\/H e=some (.own x))(k:∀ b u,b≠e->h.get? b=some u->h'.get? b=some u)(heo:∃ u,h'.get? e=some u)
 (new:ObjOk P w (upd H x o') h' x o'):HOk P w (upd H x o') h':=fun b u q=>by
 have nown:∀ c y,H c=some (.own y)->c≠x:=fun c y r z=>by subst z;rw[r] at mu;exact mu
 have ntup:∀ c xs,H c=some (.tup xs)->c≠x:=fun c xs r z=>by subst z;rw[r] at mu;exact mu
 by_cases hb:b=x
 · subst hb;rw[zal] at q;cases q;exact new
 · rw[zaf hb] at q
   by_cases hbe:b=e
   · have q':H b=some (.own x):=by
      rcases he with z | z
      · exact absurd (hbe.trans z) hb
      · rw[hbe];exact z
     rw[q] at q';cases q'
     obtain⟨v,hv⟩:=heo
     exact⟨v,by rw[hbe];exact hv⟩
   · refine(ok b u q).stay (fun c v hc r=>k c v ?_ r) (fun c r=>by rw[zaf (nown c b r)];exact r) fun c xs r=>by rw[zaf (ntup c xs r)];exact r
     rcases hc with rfl | hc
     · exact hbe
     · rintro rfl
       rcases he with z | z
       · exact nown c b hc z
       · rw[hc] at z;cases z;exact hb rfl
end
structure Un(fs ex:List Addr)(H H':Hp)(h h':Heap):Prop where
 keep:∀ b o,h.get? b=some o->H b=none->b ∉ fs->b ∉ ex->h'.get? b=some o
 slot:∀ b o,h.get? b=some o->H b=none->b∈fs->b ∉ ex->∃ sl,h'.get? b=some { o with slots:=sl }
 free:∀ b o,h.get? b=some o->H b=none->b ∉ ex->H' b=none
 there:∀ b o,h.get? b=some o->b ∉ ex->∃ o',h'.get? b=some o'
 tups:∀ b xs,H b=some (.tup xs)->H' b=some (.tup xs)
 frzs:∀ b o u,H b=some (.frz o u)->H' b=some (.frz o u)
 tbls:∀ b ps,H b=some (.tbl ps)->∃ more,H' b=some (.tbl (ps++more))
section
variable{fs fs' ex ex':List Addr}{H H1 H2:Hp}{h h1 h2 h':Heap}{a x e:Addr}{o:HO}
theorem Un.any(u:Un fs ex H H1 h h1){b:Addr}{ob:Obj}(q:h.get? b=some ob)(n:H b=none)(hx:b ∉ ex):∃ sl,h1.get? b=some { ob with slots:=sl }:=by
 by_cases hb:b∈fs
 · exact u.slot b ob q n hb hx
 · exact⟨ob.slots,u.keep b ob q n hb hx⟩
theorem Un.kept(k:∀ b u,h.get? b=some u->h'.get? b=some u):Un fs ex H H h h' :=
 ⟨fun b ob q _ _ _=>k b ob q,fun b ob q _ _ _=>⟨ob.slots,k b ob q⟩,fun _ _ _ n _=>n,fun b ob q _=>⟨ob,k b ob q⟩,fun _ _ q=>q,fun _ _ _ q=>q,fun _ ps q=>⟨#[],by rw[q];simp⟩⟩
theorem Un.refl:Un fs ex H H h h:=Un.kept fun _ _ q=>q
theorem Un.laid(k:∀ b u,h.get? b=some u->h'.get? b=some u)(hp:h.objs.size<=a)(hn:H a=none):Un fs ex H (upd H a o) h h' where
 keep:=fun b u q _ _ _=>k b u q
 slot:=fun b u q _ _ _=>⟨u.slots,k b u q⟩
 free:=fun b u q n _=>by rw[zaf (Nat.ne_of_lt (Nat.lt_of_lt_of_le (Heap.lt_size q) hp))];exact n
 there:=fun b u q _=>⟨u,k b u q⟩
 tups:=fun b xs q=>by rw[zaf (zaq q hn)];exact q
 frzs:=fun b u xs q=>by rw[zaf (zaq q hn)];exact q
 tbls:=fun b ps q=>⟨#[],by rw[zaf (zaq q hn),q];simp⟩
theorem Un.write(mu:Mut (H x))(he:e=x\/H e=some (.own x))(k:∀ b u,b≠e->h.get? b=some u->h'.get? b=some u)(heo:∃ u,h'.get? e=some u):Un fs ex H (upd H x o) h h':=by
 have hx:∀ b,H b=none->b≠x:=fun b n z=>by subst z;rw[n] at mu;exact mu
 have hb:∀ b,H b=none->b≠e:=fun b n z=>by
  subst z
  rcases he with r | r
  · exact hx b n r
  · rw[n] at r;cases r
 have hm:∀ b u,H b=some u -> ¬ Mut (some u)->b≠x:=fun b u q nm z=>by subst z;rw[q] at mu;exact nm mu
 refine⟨fun b u q n _ _=>k b u (hb b n) q,fun b u q n _ _=>⟨u.slots,k b u (hb b n) q⟩,fun b u q n _=>by rw[zaf (hx b n)];exact n,fun b u q _=>?_,
  fun b xs q=>by rw[zaf (hm b _ q fun z=>z)];exact q,fun b u xs q=>by rw[zaf (hm b _ q fun z=>z)];exact q,fun b ps q=>⟨#[],by rw[zaf (hm b _ q fun z=>z),q];simp⟩⟩
 by_cases hbe:b=e
 · subst hbe;exact heo
 · exact⟨u,k b u hbe q⟩
end
def trk(h:Heap)(H:Hp):List Addr:=(List.range h.objs.size).filter fun a=>(H a).isSome
def zgC(h:Heap)(H:Hp):Heap:=W.hideAll h (trk h H)
theorem zkl(h:Heap)(H:Hp):(zgC h H).objs.size=h.objs.size:=W.hideAll_size _ _
theorem zk0{h:Heap}{H:Hp}{b:Addr}{o:Obj}(e:h.get? b=some o)(n:H b=none):(zgC h H).get? b=some o :=
 W.hideAll_get _ e fun hm=>by
  have q:(H b).isSome=true:=(List.mem_filter.mp hm).2
  rw[n] at q;simp at q
theorem zoi{h:Heap}{H:Hp}{b:Addr}{o:Obj}(e:(zgC h H).get? b=some o):h.get? b=some o/\H b=none:=by
 have e':h.get? b=some o:=W.of_hideAll (trk h H) e
 refine⟨e',?_⟩
 cases q:H b with
 |none=>rfl
 |some x =>
   have hm:b∈trk h H:=List.mem_filter.mpr ⟨List.mem_range.mpr (Heap.lt_size e'),by simp[q]⟩
   have z:(zgC h H).get? b=none:=W.hideAll_none (trk h H) hm
   rw[z] at e;cases e
structure Mod(K:W.Frag)(mg:Str->Option Value)(base:Heap):Prop where
 kin:K.In base
 glob:base.Ns mainGlobals mg
 blt:∃ mb,base.Ns builtinsNs mb/\∀ x:Str,x ≠ "__name__" -> mb x=bootBuiltins x
 nolimit:base.NoLimit
structure Cx where
 prog:Program
 w:World
 K:W.Frag
 mg:Str->Option Value
 base:Heap
 A:Around
 N:List Str
 s₀:Shared
 H₀:Hp
 env:Env
 outer:List Env
 stack:List Env
 ex:List Addr
 fn:Str->Bool
 calm:Bool
 pn:List (Addr×Obj)
 xe:Value->Shared->Prop
def frs(l:List Env):List Addr:=l.filterMap (·.frame)
abbrev Cx.fs(X:Cx):List Addr:=frs X.outer
def Vis(sc:Scope)(x:Str):Prop:=sc.names.lookup x=some .local\/sc.names.lookup x=some .cell\/sc.names.lookup x=some .free
def Loc(sc:Scope)(x:Str):Prop:=sc.names.lookup x=some .local\/sc.names.lookup x=some .cell
def Look(env:Env)(h:Heap)(m:Str->Option Value)(x:Str)(u:Value):Prop :=
 (env.kindOf x=some .local/\m x=some u)\/((env.kindOf x=some .cell\/env.kindOf x=some .free)/\∃ c,env.cells.lookup x=some c/\h.IsCell c (some u))
structure Cx.Ok(X:Cx):Prop where
 mod:Mod X.K X.mg X.base
 kind:X.env.scope.kind = .function
 glob:X.env.globals=mainGlobals
 blt:X.env.builtins=builtinsNs
 above:X.s₀.heap.objs.size<=X.env.locals
 inj:∀ x y c,X.env.cells.lookup x=some c->X.env.cells.lookup y=some c->x=y
 has:∀ x,(X.env.kindOf x=some .cell\/X.env.kindOf x=some .free)->∃ c,X.env.cells.lookup x=some c
 cab:∀ x c,X.fn x=true->X.env.cells.lookup x=some c->X.s₀.heap.objs.size<=c
 hd:X.calm=true->X.A.handled=none
 frames:X.A.frames=some X.stack
 stk:X.stack=X.outer\/(X.stack=X.env::X.outer/\X.env.frame=some X.env.locals)
 exf:∀ b∈X.ex,b≠X.env.locals/\∀ x c,X.env.cells.lookup x=some c->c≠b
 bs:∀ b o,X.base.get? b=some o->X.s₀.heap.get? b=some o/\X.H₀ b=none
 bsz:X.base.objs.size<=X.s₀.heap.objs.size
 noex:∀ b o,X.base.get? b=some o->b ∉ X.ex
 exfs:∀ b∈X.ex,b ∉ X.fs
 funs:X.s₀.heap.FunFrames X.base X.outer
 frf:∀ b∈X.fs,X.H₀ b=none
structure Inv(X:Cx)(pins:List (Addr×Obj))(σ:List (Option V))(H:Hp)(s:Shared):Prop where
 ok:X.Ok
 os:s.os=X.s₀.os
 bare:AllBare s.gens
 base:Un X.fs X.ex X.H₀ H X.s₀.heap s.heap
 loc:∃ m,s.heap.Ns X.env.locals m/\∀ (i:Nat) (x:Str) (v:V),X.N[i]? = some x->σ[i]? = some (some v)->Vis X.env.scope x->∃ u,RelV v u/\Look X.env s.heap m x u
 cell:∀ x c,X.env.cells.lookup x=some c->∃ v,s.heap.IsCell c v
 free:H X.env.locals=none
 freeC:∀ x c,X.env.cells.lookup x=some c->H c=none
 pin:∀ p∈X.pn++pins,s.heap.get? p.1=some p.2/\H p.1=none/\p.1≠X.env.locals/\p.1 ∉ X.fs/\∀ v,p.2.data ≠ .cell v
 hok:HOk X.prog X.w H s.heap
 len:σ.length=X.N.length
section
variable{X:Cx}{pins:List (Addr×Obj)}{σ:List (Option V)}{H H':Hp}{s:Shared}{h':Heap}
theorem Cx.Ok.nofr(ok:X.Ok){b:Addr}{o:Obj}(e:X.base.get? b=some o):b ∉ X.fs:=fun hb=>by
 have:=(ok.funs.mem hb).1
 rw[e] at this;cases this
theorem Inv.bs(I:Inv X pins σ H s):∀ b o,X.base.get? b=some o->s.heap.get? b=some o/\H b=none:=fun b o e =>
 ⟨I.base.keep b o (I.ok.bs b o e).1 (I.ok.bs b o e).2 (I.ok.nofr e) (I.ok.noex b o e),I.base.free b o (I.ok.bs b o e).1 (I.ok.bs b o e).2 (I.ok.noex b o e)⟩
theorem Inv.bk(I:Inv X pins σ H s):∀ b o,X.base.get? b=some o->s.heap.get? b=some o:=fun b o e=>(I.bs b o e).1
theorem Inv.mod(I:Inv X pins σ H s):Mod X.K X.mg X.base:=I.ok.mod
theorem Inv.kIn(I:Inv X pins σ H s):X.K.In s.heap:=I.ok.mod.kin.keeps I.bk
theorem Inv.fr(I:Inv X pins σ H s):∃ m,Fr X.base X.env.locals s.heap m :=
 let ⟨m,hn,_⟩:=I.loc
 ⟨m,hn,I.bk,Nat.le_trans I.ok.bsz I.ok.above⟩
theorem Inv.lt(I:Inv X pins σ H s):X.env.locals<s.heap.objs.size:=let ⟨_,hn,_⟩:=I.loc;hn.lt
theorem Inv.sz(I:Inv X pins σ H s):X.s₀.heap.objs.size<=s.heap.objs.size:=Nat.le_trans I.ok.above (Nat.le_of_lt I.lt)
theorem Inv.nofs(I:Inv X pins σ H s){a:Addr}(h:s.heap.objs.size<=a):a ∉ X.fs:=fun hb=>by
 obtain⟨_,o,ho,_⟩:=I.ok.funs.mem hb
 exact absurd (Nat.lt_of_lt_of_le (Heap.lt_size ho) (Nat.le_trans I.sz h)) (Nat.lt_irrefl _)
theorem Inv.cne(I:Inv X pins σ H s):∀ x c,X.env.cells.lookup x=some c->c≠X.env.locals:=fun x c e z=>by
 obtain⟨v,o,ho,hd⟩:=I.cell x c e
 obtain⟨m,⟨o',es,ep,ho',hd',_⟩,_⟩:=I.loc
 rw[z,ho'] at ho;cases ho;rw[hd'] at hd;cases hd
theorem Inv.funs(I:Inv X pins σ H s):s.heap.FunFrames X.base X.outer:=by
 have all:∀ (l:List Env),(∀ b∈frs l,b∈X.fs)->X.s₀.heap.FunFrames X.base l->s.heap.FunFrames X.base l:=by
  intro l
  induction l with
  |nil=>intro _ _;trivial
  |cons env r ih =>
    intro hs hl
    obtain⟨hk,⟨L,o,hf,hn,ho,hd⟩,hr⟩:=hl
    have hL:L∈X.fs:=hs L (by unfold frs;rw[List.filterMap_cons,hf];exact List.mem_cons_self)
    obtain⟨sl,e⟩:=I.base.slot L o ho (I.ok.frf L hL) hL fun z=>I.ok.exfs L z hL
    exact⟨hk,⟨L,_,hf,hn,e,hd⟩,ih (fun b hb=>hs b (by unfold frs;rw[List.filterMap_cons,hf];exact List.mem_cons_of_mem _ hb)) hr⟩
 exact all X.outer (fun _ hb=>hb) I.ok.funs
theorem Inv.stack(I:Inv X pins σ H s):s.heap.FunFrames X.base X.stack:=by
 rcases I.ok.stk with e | ⟨e,hf⟩
 · rw[e];exact I.funs
 · rw[e]
   obtain⟨m,hn,_⟩:=I.loc
   refine .cons (by rw[I.ok.kind];decide) hf hn ?_ I.funs
   exact Heap.get?_none_of_le (Nat.le_trans I.ok.bsz I.ok.above)
theorem Inv.stkSub(I:Inv X pins σ H s):∀ b∈frs X.stack,b∈X.env.locals::X.fs:=fun b hb=>by
 rcases I.ok.stk with e | ⟨e,hf⟩
 · rw[e] at hb;exact List.mem_cons_of_mem _ hb
 · rw[e] at hb
   unfold frs at hb
   rw[List.filterMap_cons,hf] at hb
   exact hb
theorem Inv.stkFree(I:Inv X pins σ H s):∀ b∈frs X.stack,H b=none:=fun b hb=>by
 rcases List.mem_cons.mp (I.stkSub b hb) with e | hb
 · rw[e];exact I.free
 · obtain⟨_,o,ho,_⟩:=I.ok.funs.mem hb
   exact I.base.free b o ho (I.ok.frf b hb) fun z=>I.ok.exfs b z hb
theorem Inv.step{g':Array GenState}{t':Nat}{d':Drawn}{ch:List Addr}(I:Inv X pins σ H s)
 (hch:∀ b∈ch,(b∈X.ex\/X.s₀.heap.objs.size<=b)/\b≠X.env.locals/\(∀ x c,X.env.cells.lookup x=some c->c≠b)/\∀ p∈X.pn++pins,p.1≠b)
 (keep:∀ b o,b≠X.env.locals->b ∉ X.fs->b ∉ ch->s.heap.get? b=some o->H b=none->h'.get? b=some o)
 (slot:∀ b o,b≠X.env.locals->b∈X.fs->b ∉ ch->s.heap.get? b=some o->H b=none->∃ sl,h'.get? b=some { o with slots:=sl }) (free:∀ b o,b ∉ ch->s.heap.get? b=some o->H b=none->H' b=none)
 (there:∀ b o,b ∉ ch->s.heap.get? b=some o->∃ o',h'.get? b=some o')
 (tups:∀ b xs,H b=some (.tup xs)->H' b=some (.tup xs)) (frzs:∀ b o u,H b=some (.frz o u)->H' b=some (.frz o u)) (tbls:∀ b ps,H b=some (.tbl ps)->∃ more,H' b=some (.tbl (ps++more)))
 (ns:∀ m,s.heap.Ns X.env.locals m->h'.Ns X.env.locals m) (hok:HOk X.prog X.w H' h') (hg:AllBare g') :
 Inv X pins σ H' { s with heap:=h',gens:=g',drawn:=d',toks:=t' }:=by
 have neL:∀ b o,X.s₀.heap.get? b=some o->b≠X.env.locals:=fun b o e=>Nat.ne_of_lt (Nat.lt_of_lt_of_le (Heap.lt_size e) I.ok.above)
 have neC:∀ b o,X.s₀.heap.get? b=some o->b ∉ X.ex->b ∉ ch:=fun b o e hx hb=>by
  rcases(hch b hb).1 with z | z
  · exact hx z
  · exact absurd (Nat.lt_of_lt_of_le (Heap.lt_size e) z) (Nat.lt_irrefl _)
 have cellK:∀ x c,X.env.cells.lookup x=some c->∀ v,s.heap.IsCell c v->h'.IsCell c v:=fun x c e v ⟨o,ho,hd⟩=>by
  have nch:c ∉ ch:=fun z=>(hch c z).2.2.1 x c e rfl
  by_cases hc:c∈X.fs
  · obtain⟨sl,q⟩:=slot c o (I.cne x c e) hc nch ho (I.freeC x c e)
    exact⟨_,q,hd⟩
  · exact⟨o,keep c o (I.cne x c e) hc nch ho (I.freeC x c e),hd⟩
 refine⟨I.ok,I.os,hg,⟨fun b o e n hb hx=>?_,fun b o e n hb hx=>?_,fun b o e n hx=>?_,fun b o e hx=>?_,fun b xs e=>tups b xs (I.base.tups b xs e),fun b o xs e=>frzs b o xs (I.base.frzs b o xs e),fun b ps e=>?_⟩,?_,fun x c e=>?_,?_,fun x c e=>?_,fun p hp=>?_,hok,I.len⟩
 · exact keep b o (neL b o e) hb (neC b o e hx) (I.base.keep b o e n hb hx) (I.base.free b o e n hx)
 · obtain⟨sl,e1⟩:=I.base.slot b o e n hb hx
   obtain⟨sl',e2⟩:=slot b _ (neL b o e) hb (neC b o e hx) e1 (I.base.free b o e n hx)
   exact⟨sl',e2⟩
 · obtain⟨o',e1⟩:=I.base.there b o e hx
   exact free b o' (neC b o e hx) e1 (I.base.free b o e n hx)
 · obtain⟨o',e1⟩:=I.base.there b o e hx
   exact there b o' (neC b o e hx) e1
 · obtain⟨m1,e1⟩:=I.base.tbls b ps e
   obtain⟨m2,e2⟩:=tbls b _ e1
   exact⟨m1++m2,by rw[e2,Array.append_assoc]⟩
 · obtain⟨m,hn,hl⟩:=I.loc
   refine⟨m,ns m hn,fun i x v e1 e2 e3=>?_⟩
   obtain⟨u,r,l⟩:=hl i x v e1 e2 e3
   refine⟨u,r,?_⟩
   rcases l with l | ⟨k,c,e,z⟩
   · exact .inl l
   · exact .inr ⟨k,c,e,cellK x c e _ z⟩
 · obtain⟨v,z⟩:=I.cell x c e
   exact⟨v,cellK x c e v z⟩
 · obtain⟨m,⟨o,_,_,ho,_⟩,_⟩:=I.loc
   exact free _ o (fun z=>(hch _ z).2.1 rfl) ho I.free
 · obtain⟨v,o,ho,hd⟩:=I.cell x c e
   exact free c o (fun z=>(hch c z).2.2.1 x c e rfl) ho (I.freeC x c e)
 · obtain⟨e,n,ne,nf,d⟩:=I.pin p hp
   have nch:p.1 ∉ ch:=fun z=>(hch p.1 z).2.2.2 p hp rfl
   exact⟨keep p.1 p.2 ne nf nch e n,free p.1 p.2 nch e n,ne,nf,d⟩
theorem Inv.un{t':Nat}(I:Inv X pins σ H s)(u:Un X.fs [] H H' s.heap h')(hok:HOk X.prog X.w H' h'):Inv X pins σ H' { s with heap:=h',toks:=t' }:=by
 obtain⟨m,⟨o,es,ep,ho,r⟩,_⟩:=id I.loc
 obtain⟨sl,hL⟩:=u.any ho I.free (by simp)
 exact I.step (g':=s.gens) (d':=s.drawn) (ch:=[]) (fun _ z=>nomatch z) (fun b o _ hb _ e n=>u.keep b o e n hb (by simp)) (fun b o _ hb _ e n=>u.slot b o e n hb (by simp)) (fun b o _ e n=>u.free b o e n (by simp)) (fun b o _ e=>u.there b o e (by simp)) u.tups u.frzs u.tbls (fun m' hm=>by
  obtain⟨o',es',ep',ho',r'⟩:=hm
  rw[ho] at ho';cases ho'
  exact⟨_,es',ep',hL,r'⟩) hok I.bare
theorem Inv.call{g':Array GenState}{t':Nat}{d':Drawn}{ch:List Addr}(I:Inv X pins σ H s)(u:Un (frs X.stack) ch H H' s.heap h')(hok:HOk X.prog X.w H' h')(hg:AllBare g')
 (hch:∀ b∈ch,(b∈X.ex\/X.s₀.heap.objs.size<=b)/\b≠X.env.locals/\(∀ x c,X.env.cells.lookup x=some c->c≠b)/\∀ p∈X.pn++pins,p.1≠b) :
 Inv X pins σ H' { s with heap:=h',gens:=g',drawn:=d',toks:=t' }:=by
 obtain⟨m,⟨o,es,ep,ho,r⟩,_⟩:=id I.loc
 obtain⟨sl,hL⟩:=u.any ho I.free fun z=>(hch _ z).2.1 rfl
 exact I.step (ch:=ch) hch (fun b o hL hb hc e n=>u.keep b o e n (fun z=>(List.mem_cons.mp (I.stkSub b z)).elim hL hb) hc) (fun b o _ _ hc e n=>u.any e n hc) (fun b o hc e n=>u.free b o e n hc) (fun b o hc e=>u.there b o e hc) u.tups u.frzs u.tbls (fun m' hm=>by
  obtain⟨o',es',ep',ho',r'⟩:=hm
  rw[ho] at ho';cases ho'
  exact⟨_,es',ep',hL,r'⟩) hok hg
theorem Inv.turned{t':Nat}{it:Addr}(I:Inv X pins σ H s)(k:∀ b o,b≠it->s.heap.get? b=some o->h'.get? b=some o)(hn:H it=none)(hL:it≠X.env.locals)
 (h1:it∈X.ex\/X.s₀.heap.objs.size<=it) (h2:∀ x c,X.env.cells.lookup x=some c->c≠it) (h3:∀ p∈X.pn++pins,p.1≠it):Inv X pins σ H { s with heap:=h',toks:=t' }:=by
 have nit:∀ b u,H b=some u->b≠it:=fun b u e z=>by rw[z,hn] at e;cases e
 refine I.step (g':=s.gens) (d':=s.drawn) (ch:=[it]) (fun b hb=>?_) (fun b o _ _ hc e _=>k b o (fun z=>hc (by simp[z])) e) (fun b o _ _ hc e _=>⟨o.slots,k b o (fun z=>hc (by simp[z])) e⟩) (fun _ _ _ _ n=>n)
  (fun b o hc e=>⟨o,k b o (fun z=>hc (by simp[z])) e⟩) (fun _ _ e=>e) (fun _ _ _ e=>e) (fun b ps e=>⟨#[],by rw[e];simp⟩) (fun m hm=>?_) (fun b u e=>?_) I.bare
 · have e:b=it:=by simpa using hb
   subst e
   exact⟨h1,hL,h2,h3⟩
 · obtain⟨o,es,ep,ho,r⟩:=hm
   exact⟨o,es,ep,k _ o (Ne.symm hL) ho,r⟩
 · refine(I.hok b u e).stay (fun c v hc q=>k c v ?_ q) (fun _ q=>q) fun _ _ q=>q
   rcases hc with z | z
   · rw[z];exact nit b u e
   · exact nit c _ z
theorem Inv.tok(I:Inv X pins σ H s)(t:Nat):Inv X pins σ H { s with toks:=t }:=I.un (h':=s.heap) (t':=t) Un.refl I.hok
theorem Inv.kept{t':Nat}(I:Inv X pins σ H s)(k:∀ b u,s.heap.get? b=some u->h'.get? b=some u):Inv X pins σ H { s with heap:=h',toks:=t' }:=I.un (Un.kept k) (I.hok.kept k)
theorem Inv.laid{a:Addr}{o:HO}{t':Nat}(I:Inv X pins σ H s)(k:∀ b u,s.heap.get? b=some u->h'.get? b=some u)(hp:s.heap.objs.size<=a)(new:ObjOk X.prog X.w (upd H a o) h' a o) :
 Inv X pins σ (upd H a o) { s with heap:=h',toks:=t' }:=I.un (Un.laid k hp (I.hok.fresh hp)) (I.hok.laid k hp new)
theorem Inv.write{x e:Addr}{o:HO}{t':Nat}(I:Inv X pins σ H s)(mu:Mut (H x))(he:e=x\/H e=some (.own x))(k:∀ b u,b≠e->s.heap.get? b=some u->h'.get? b=some u)(heo:∃ u,h'.get? e=some u)
 (new:ObjOk X.prog X.w (upd H x o) h' x o):Inv X pins σ (upd H x o) { s with heap:=h',toks:=t' }:=I.un (Un.write mu he k heo) (I.hok.write mu he k heo new)
theorem Inv.weak{σ':List (Option V)}(I:Inv X pins σ H s)(hl:σ'.length=σ.length)(w:∀ (i:Nat) v,σ'[i]? = some (some v)->σ[i]? = some (some v)):Inv X pins σ' H s :=
 ⟨I.ok,I.os,I.bare,I.base,let ⟨m,hn,hl'⟩:=I.loc; ⟨m,hn,fun i x v e1 e2 e3=>hl' i x v e1 (w i v e2) e3⟩,I.cell,I.free,I.freeC,I.pin,I.hok,hl.trans I.len⟩
theorem Inv.pins_of{pins':List (Addr×Obj)}(I:Inv X pins σ H s)(h:∀ p∈pins',s.heap.get? p.1=some p.2/\H p.1=none/\p.1≠X.env.locals/\p.1 ∉ X.fs/\∀ v,p.2.data ≠ .cell v):Inv X pins' σ H s :=
 ⟨I.ok,I.os,I.bare,I.base,I.loc,I.cell,I.free,I.freeC,fun p hp=>(List.mem_append.mp hp).elim (fun z=>I.pin p (List.mem_append_left _ z)) (h p),I.hok,I.len⟩
theorem zeS{N:List Str}(hN:N.Nodup){i j:Nat}{x:Str}(a:N[i]? = some x)(b:N[j]? = some x):i=j:=by
 obtain⟨h1,e1⟩:=List.getElem?_eq_some_iff.mp a
 obtain⟨h2,e2⟩:=List.getElem?_eq_some_iff.mp b
 exact(List.getElem_inj hN).mp (e1.trans e2.symm)
theorem zjX{M:Model}{A:Around}{E:Value->Shared->Prop}{i:Nat}{x:Str}{v:V}{u:Value}{Q:Unit->Shared->Prop}(I:Inv X pins σ H s)(hN:X.N.Nodup)(hi:X.N[i]? = some x)(hx:Loc X.env.scope x)(r:RelV v u)
 (h:∀ s',Inv X pins (σ.set i (some v)) H s'->(∃ a,Heap.SameBut a s.heap s'.heap/\(a=X.env.locals\/X.env.cells.lookup x=some a))->Q () s') (hf:X.fn x=true\/X.env.scope.names.lookup x=some .local:=by first | exact .inl rfl | exact .inr rfl | assumption):wpAny M A (storeName X.env x u) Q E s:=by
 obtain⟨m,hn,hl⟩:=id I.loc
 have hcls:(X.env.scope.kind == .class || (X.env.scope.kind == .module && X.env.locals != X.env.globals))=false:=by rw[I.ok.kind];rfl
 have hiσ:i<σ.length:=by rw[I.len];exact(List.getElem?_eq_some_iff.mp hi).1
 have cne:=I.cne
 have tracked:∀ {a:Addr} {h':Heap},(∃ o,s.heap.get? a=some o/\H a=none)->Heap.SameBut a s.heap h'->HOk X.prog X.w H h':=fun {a h'} ha hs b ob e=>by
  obtain⟨_,_,hfree⟩:=ha
  refine(I.hok b ob e).stay (fun c w' hc q=>(hs.2 c ?_).trans q) (fun _ q=>q) fun _ _ q=>q
  rintro rfl
  rcases hc with rfl | hc
  · rw[hfree] at e;cases e
  · rw[hfree] at hc;cases hc
 rcases hx with hk | hk
 · refine wpAny_storeName_local hk hn (fun h' hn' hs=>?_) hcls
   obtain⟨oL,_,_,hoL,_⟩:=id hn
   refine h _ ⟨I.ok,I.os,I.bare,⟨fun b o e n hb hx=>?_,fun b o e n hb hx=>?_,I.base.free,fun b o e hx=>?_,I.base.tups,I.base.frzs,I.base.tbls⟩,⟨_,hn',fun j y v' e1 e2 e3=>?_⟩,fun y c e=>?_,I.free,I.freeC,fun p hp=>?_,tracked ⟨oL,hoL,I.free⟩ hs,by simpa using I.len⟩ ⟨_,hs,.inl rfl⟩
   · exact(hs.2 b (Nat.ne_of_lt (Nat.lt_of_lt_of_le (Heap.lt_size e) I.ok.above))).trans (I.base.keep b o e n hb hx)
   · obtain⟨sl,e1⟩:=I.base.slot b o e n hb hx
     exact⟨sl,(hs.2 b (Nat.ne_of_lt (Nat.lt_of_lt_of_le (Heap.lt_size e) I.ok.above))).trans e1⟩
   · obtain⟨o',e1⟩:=I.base.there b o e hx
     exact⟨o',(hs.2 b (Nat.ne_of_lt (Nat.lt_of_lt_of_le (Heap.lt_size e) I.ok.above))).trans e1⟩
   · by_cases hj:j=i
     · subst hj
       rw[hi] at e1;cases e1
       rw[List.getElem?_set_self hiσ] at e2
       cases e2
       exact⟨u,r,.inl ⟨hk,by simp⟩⟩
     · rw[List.getElem?_set_ne (Ne.symm hj)] at e2
       obtain⟨u',r',q⟩:=hl j y v' e1 e2 e3
       refine⟨u',r',?_⟩
       rcases q with ⟨k,e⟩ | ⟨k,c,e,z⟩
       · refine .inl ⟨k,?_⟩
         have:y≠x:=fun e=>hj (zeS hN e1 (e ▸ hi))
         simp[this,e]
       · exact .inr ⟨k,c,e,z.sameBut hs (cne y c e)⟩
   · obtain⟨w',z⟩:=I.cell y c e
     exact⟨w',z.sameBut hs (cne y c e)⟩
   · obtain⟨e,n,ne,nf,d⟩:=I.pin p hp
     exact⟨(hs.2 p.1 ne).trans e,n,ne,nf,d⟩
 · have hfn:X.fn x=true:=by
    rcases hf with z | z
    · exact z
    · rw[z] at hk;cases hk
   obtain⟨c,hc⟩:=I.ok.has x (.inl hk)
   obtain⟨w',z⟩:=I.cell x c hc
   refine wpAny_storeName_cell I.ok.kind hk hc z (fun h' hc' hs=>?_)
   obtain⟨oc,hoc,hocd⟩:=id z
   refine h { s with heap:=h' } ⟨I.ok,I.os,I.bare,⟨fun b o e n hb hx=>?_,fun b o e n hb hx=>?_,I.base.free,fun b o e hx=>?_,I.base.tups,I.base.frzs,I.base.tbls⟩,⟨m,hn.sameBut hs (Ne.symm (cne x c hc)),fun j y v' e1 e2 e3=>?_⟩,fun y c' e=>?_,I.free,I.freeC,fun p hp=>?_,tracked ⟨oc,hoc,I.freeC x c hc⟩ hs,by simpa using I.len⟩ ⟨c,hs,.inr hc⟩
   · exact(hs.2 b (Nat.ne_of_lt (Nat.lt_of_lt_of_le (Heap.lt_size e) (I.ok.cab x c hfn hc)))).trans (I.base.keep b o e n hb hx)
   · obtain⟨sl,e1⟩:=I.base.slot b o e n hb hx
     exact⟨sl,(hs.2 b (Nat.ne_of_lt (Nat.lt_of_lt_of_le (Heap.lt_size e) (I.ok.cab x c hfn hc)))).trans e1⟩
   · obtain⟨o',e1⟩:=I.base.there b o e hx
     exact⟨o',(hs.2 b (Nat.ne_of_lt (Nat.lt_of_lt_of_le (Heap.lt_size e) (I.ok.cab x c hfn hc)))).trans e1⟩
   · by_cases hj:j=i
     · subst hj
       rw[hi] at e1;cases e1
       rw[List.getElem?_set_self hiσ] at e2
       cases e2
       exact⟨u,r,.inr ⟨.inl hk,c,hc,hc'⟩⟩
     · rw[List.getElem?_set_ne (Ne.symm hj)] at e2
       obtain⟨u',r',q⟩:=hl j y v' e1 e2 e3
       refine⟨u',r',?_⟩
       rcases q with q | ⟨k,c',e,z'⟩
       · exact .inl q
       · refine .inr ⟨k,c',e,z'.sameBut hs ?_⟩
         rintro rfl
         exact hj (zeS hN e1 (I.ok.inj _ _ _ e hc ▸ hi))
   · by_cases hcc:c'=c
     · subst hcc;exact⟨_,hc'⟩
     · obtain⟨w2,z2⟩:=I.cell y c' e
       exact⟨w2,z2.sameBut hs hcc⟩
   · obtain⟨e,n,ne,nf,d⟩:=I.pin p hp
     refine⟨(hs.2 p.1 ?_).trans e,n,ne,nf,d⟩
     intro q
     rw[q,hoc] at e
     have q':oc=p.2:=Option.some.inj e
     exact d w' (by rw[<- q'];exact hocd)
theorem zfz{M:Model}{A:Around}{E:Value->Shared->Prop}{i:Nat}{x:Str}{v:V}{u:Value}{Q:Unit->Shared->Prop}(I:Inv X pins σ H s)(hN:X.N.Nodup)(hi:X.N[i]? = some x)(hx:Loc X.env.scope x)(r:RelV v u)
 (h:∀ s',Inv X pins (σ.set i (some v)) H s'->Q () s') (hf:X.fn x=true\/X.env.scope.names.lookup x=some .local:=by first | exact .inl rfl | exact .inr rfl | assumption):wpAny M A (storeName X.env x u) Q E s :=
 zjX I hN hi hx r (fun s' I' _=>h s' I') hf
theorem Inv.call'{s':Shared}{ch:List Addr}(I:Inv X pins σ H s)(ho:s'.os=s.os)(u:Un (frs X.stack) ch H H' s.heap s'.heap)(hok:HOk X.prog X.w H' s'.heap)(hg:AllBare s'.gens)
 (hch:∀ b∈ch,(b∈X.ex\/X.s₀.heap.objs.size<=b)/\b≠X.env.locals/\(∀ x c,X.env.cells.lookup x=some c->c≠b)/\∀ p∈X.pn++pins,p.1≠b):Inv X pins σ H' s':=by
 obtain⟨h',g',d',t',o'⟩:=s'
 have e:o'=s.os:=ho
 subst e
 exact I.call (g':=g') (t':=t') (d':=d') u hok hg hch
end
abbrev XK:=Value->Option Addr->Hp->Prop
abbrev St:=List (Option V)
abbrev VK:=V->Hp->Prop
abbrev TE:=St->Hp->VK->Prop
abbrev TT:=St->Hp->(Bool->Hp->Prop)->Prop
abbrev TA:=St->Hp->(List V->Hp->Prop)->Prop
structure Ends where
 nx:St->Hp->Prop
 rt:VK
 bk:St->Hp->Prop:=fun _ _=>False
 ct:St->Hp->Prop:=fun _ _=>False
abbrev TS:=Ends->St->Hp->Prop
def EP(X:Cx)(pins:List (Addr×Obj))(σ:St)(Q:VK)(u:Value)(s':Shared):Prop:=∃ v H',Inv X pins σ H' s'/\RelV v u/\Q v H'
def TP(X:Cx)(pins:List (Addr×Obj))(σ:St)(Q:Bool->Hp->Prop)(b:Bool)(s':Shared):Prop:=∃ H',Inv X pins σ H' s'/\Q b H'
def AP(X:Cx)(pins:List (Addr×Obj))(σ:St)(Q:List V->Hp->Prop)(us:List Value)(s':Shared):Prop:=∃ vs H',Inv X pins σ H' s'/\Vals vs us/\Q vs H'
def SP(X:Cx)(pins:List (Addr×Obj))(D:Ends)(f:Flow)(s':Shared):Prop :=
 match f with
 | .next=>∃ σ' H',Inv X pins σ' H' s'/\D.nx σ' H'
 | .brk=>∃ σ' H',Inv X pins σ' H' s'/\D.bk σ' H'
 | .cont=>∃ σ' H',Inv X pins σ' H' s'/\D.ct σ' H'
 | .ret u=>∃ v σ' H',Inv X pins σ' H' s'/\RelV v u/\D.rt v H'
def PE(X:Cx)(e:Expr)(t:TE):Prop :=
 ∀ (pins:List (Addr×Obj)) (s:Shared) (σ:St) (H:Hp) (Q:VK),Inv X pins σ H s->t σ H Q->wpAny (model X.prog X.w) X.A (eval e X.env) (EP X pins σ Q) X.xe s
def PT(X:Cx)(e:Expr)(t:TT):Prop :=
 ∀ (pins:List (Addr×Obj)) (s:Shared) (σ:St) (H:Hp) (Q:Bool->Hp->Prop),Inv X pins σ H s->t σ H Q->wpAny (model X.prog X.w) X.A (isTrue e X.env (eval e X.env)) (TP X pins σ Q) X.xe s
def PW(X:Cx)(e:Expr)(t:TT):Prop :=
 ∀ (whole:Sem Value) (pins:List (Addr×Obj)) (s:Shared) (σ:St) (H:Hp) (Q:Bool->Hp->Prop),Inv X pins σ H s->t σ H Q->wpAny (model X.prog X.w) X.A (isTrue e X.env whole) (TP X pins σ Q) X.xe s
theorem PW.pt{X:Cx}{e:Expr}{t:TT}(h:PW X e t):PT X e t:=h _
def PA(X:Cx)(es:List Expr)(t:TA):Prop :=
 ∀ (pos:Pos) (pins:List (Addr×Obj)) (s:Shared) (σ:St) (H:Hp) (Q:List V->Hp->Prop),Inv X pins σ H s->t σ H Q->wpAny (model X.prog X.w) X.A (spliced (backTo pos (starEach es X.env))) (AP X pins σ Q) X.xe s
def PS(X:Cx)(st:Stmt)(t:TS):Prop :=
 ∀ (pins:List (Addr×Obj)) (s:Shared) (σ:St) (H:Hp) (D:Ends),Inv X pins σ H s->t D σ H->wpAny (model X.prog X.w) X.A (exec st X.env) (SP X pins D) X.xe s
def PSs(X:Cx)(st:List Stmt)(t:TS):Prop :=
 ∀ (pins:List (Addr×Obj)) (s:Shared) (σ:St) (H:Hp) (D:Ends),Inv X pins σ H s->t D σ H->wpAny (model X.prog X.w) X.A (execs st X.env) (SP X pins D) X.xe s
theorem thn{α:Type}{t:Sem α}{Q Q':α->Shared->Prop}{M:Model}{A:Around}{E:Value->Shared->Prop}{s:Shared}(h:wpAny M A t Q E s)(hQ:∀ a s,Q a s->Q' a s):wpAny M A t Q' E s:=wpAny_mono h hQ fun _ _ x=>x
section
variable{X:Cx}
def zfG(i:Nat):TE:=fun σ H Q=>∃ v,σ[i]? = some (some v)/\Q v H
def tC(v:V):TE:=fun _ H Q=>Q v H
theorem zpr{i:Nat}{x:Str}{pos:Pos}(hN:X.N[i]? = some x)(hv:Vis X.env.scope x)(hd:(x == ("__debug__" : Str))=false:=by decide)(hcd:(x == ("__classdict__" : Str))=false:=by decide):PE X (.Name x pos) (zfG i):=by
 intro pins s σ H Q I h
 obtain⟨v,e,h⟩:=h
 obtain⟨m,hn,hl⟩:=I.loc
 obtain⟨u,r,l⟩:=hl i x v hN e hv
 have fin:EP X pins σ Q u s:=⟨v,H,I,r,h⟩
 rcases l with ⟨hk,hm⟩ | ⟨hk,c,hc,hcell⟩
 · exact wpAny_Name (wpAny_loadName_local I.ok.kind hk hn hm fin) hd
 · rcases hk with hk | hk
   · exact wpAny_Name (wpAny_loadName_cell I.ok.kind hk hc hcell fin) hd
   · exact wpAny_Name (wpAny_loadName_free I.ok.kind hk hc hcell fin hcd) hd
theorem zl1{i j pos}:PE X (.Constant (.int i) j pos) (tC (.int i)):=fun _ _ _ H _ I h=>wpAny_Constant_int ⟨.int i,H,I.tok _,⟨_,rfl⟩,h⟩
theorem zoA{b j pos}:PE X (.Constant (.bool b) j pos) (tC (.bl b)):=fun _ _ _ H _ I h=>Constant_bool ⟨.bl b,H,I,rfl,h⟩
theorem zlT{j pos}:PE X (.Constant .none j pos) (tC .non):=fun _ _ _ H _ I h=>Constant_none ⟨.non,H,I,rfl,h⟩
theorem zlj{x j pos}:PE X (.Constant (.str x) j pos) (tC (.str x)):=fun _ _ _ H _ I h=>Calls.Constant_str ⟨.str x,H,I.tok _,⟨_,rfl⟩,h⟩
def Gl(X:Cx)(x:Str):Prop:=X.env.kindOf x=some .globalImplicit
theorem zdF{E:Value->Shared->Prop}{pins:List (Addr×Obj)}{s:Shared}{σ:St}{H:Hp}{x:Str}{u:Value}{pos:Pos}{Q:Value->Shared->Prop}(I:Inv X pins σ H s)(hg:Gl X x)(hm:X.mg x=some u)(h:Q u s)
 (hd:(x == ("__debug__" : Str))=false:=by decide):wpAny (model X.prog X.w) X.A (eval (.Name x pos) X.env) Q E s :=
 Calls.Name_function_global I.ok.kind hg (Calls.loadGlobal_global (by rw[I.ok.glob];exact I.mod.glob.keeps I.bk) hm h) hd
theorem zeX{E:Value->Shared->Prop}{pins:List (Addr×Obj)}{s:Shared}{σ:St}{H:Hp}{x:Str}{u:Value}{pos:Pos}{Q:Value->Shared->Prop}(I:Inv X pins σ H s)(hg:Gl X x)(hm:X.mg x=none)(hv:bootBuiltins x=some u)(h:Q u s)
 (hn:x ≠ "__name__" := by decide) (hd:(x == ("__debug__" : Str))=false:=by decide):wpAny (model X.prog X.w) X.A (eval (.Name x pos) X.env) Q E s:=by
 obtain⟨mb,h1,h2⟩:=I.mod.blt
 exact Calls.Name_function_global I.ok.kind hg (Calls.loadGlobal_builtin (by rw[I.ok.glob];exact I.mod.glob.keeps I.bk) hm (by rw[I.ok.blt];exact h1.keeps I.bk) ((h2 x hn).trans hv) h) hd
theorem zaV{x:Str}{v:V}{u:Value}{pos:Pos}(hg:Gl X x)(hm:X.mg x=some u)(r:RelV v u)(hd:(x == ("__debug__" : Str))=false:=by decide):PE X (.Name x pos) (tC v) :=
 fun _ _ _ H _ I h=>zdF I hg hm ⟨v,H,I,r,h⟩ hd
theorem zdV{x:Str}{v:V}{u:Value}{pos:Pos}(hg:Gl X x)(hm:X.mg x=none)(hv:bootBuiltins x=some u)(r:RelV v u)(hn:x ≠ "__name__" := by decide)(hd:(x == ("__debug__" : Str))=false:=by decide):PE X (.Name x pos) (tC v) :=
 fun _ _ _ H _ I h=>zeX I hg hm hv ⟨v,H,I,r,h⟩ hn hd
variable{a b:Expr}{ta tb:TE}{pos:Pos}
def tB(t:TE):TT:=fun σ H Q=>t σ H fun x H1=>∃ c,x = .bl c/\Q c H1
theorem zpl{e:Expr}{t:TE}(h:PE X e t)(he:∀ whole,isTrue e X.env whole=(do let v <- whole;standAt e.pos;holding [v] (truthy v)):=by intro _;rfl):PT X e (tB t):=by
 intro pins s σ H Q I hw
 refine isTrue_plain (thn (h pins s σ H _ I hw) fun v s1 ⟨x,H1,I1,r1,q1⟩=>?_) (he _)
 obtain⟨d,rfl,q⟩:=q1
 cases r1
 exact wpAny_truthy_bool ⟨H1,I1,q⟩
variable{tA tB':TT}{rest:List Expr}
def zrA(t u:TT):TT:=fun σ H Q=>t σ H fun c H1=>if c=true then u σ H1 Q else Q false H1
def tOr(t u:TT):TT:=fun σ H Q=>t σ H fun c H1=>if c=true then Q true H1 else u σ H1 Q
def zrd(t:TT):TT:=fun σ H Q=>t σ H fun c H1=>Q (!c) H1
theorem znK(ha:PT X a tA):PW X (.BoolOp .And [a] pos) tA:=by
 intro wh pins s σ H Q I h
 refine isTrue_and (thn (ha pins s σ H Q I h) fun c s1 e=>?_)
 cases c with
 |true=>exact isTrue_and_nil e
 |false=>exact e
theorem zlq(ha:PT X a tA):PW X (.BoolOp .Or [a] pos) tA:=by
 intro wh pins s σ H Q I h
 refine isTrue_or (thn (ha pins s σ H Q I h) fun c s1 e=>?_)
 cases c with
 |false=>exact isTrue_or_nil e
 |true=>exact e
theorem zpT(ha:PT X a tA)(hb:PW X (.BoolOp .And (b::rest) pos) tB'):PW X (.BoolOp .And (a::b::rest) pos) (zrA tA tB'):=by
 intro wh pins s σ H Q I h
 refine isTrue_and (thn (ha pins s σ H _ I h) fun c s1 ⟨H1,I1,q1⟩=>?_)
 cases c with
 |true=>exact hb wh pins s1 σ H1 Q I1 q1
 |false=>exact⟨H1,I1,q1⟩
theorem zot(ha:PT X a tA)(hb:PW X (.BoolOp .Or (b::rest) pos) tB'):PW X (.BoolOp .Or (a::b::rest) pos) (tOr tA tB'):=by
 intro wh pins s σ H Q I h
 refine isTrue_or (thn (ha pins s σ H _ I h) fun c s1 ⟨H1,I1,q1⟩=>?_)
 cases c with
 |true=>exact⟨H1,I1,q1⟩
 |false=>exact hb wh pins s1 σ H1 Q I1 q1
theorem zqa(ha:PT X a tA):PT X (.UnaryOp .Not a pos) (zrd tA):=by
 intro pins s σ H Q I h
 exact isTrue_not (ha pins s σ H (fun c H1=>Q (!c) H1) I h)
def zqL(ta tb:TE):TE:=fun σ H Q=>ta σ H fun x H1=>∃ c,x = .bl c/\if c=true then tb σ H1 Q else Q (.bl false) H1
def zrJ(ta tb:TE):TE:=fun σ H Q=>ta σ H fun x H1=>∃ c,x = .bl c/\if c=true then Q (.bl true) H1 else tb σ H1 Q
def zqA(ta:TE):TE:=fun σ H Q=>ta σ H fun x H1=>∃ c,x = .bl c/\Q (.bl (!c)) H1
theorem zoS{op}{t:TE}(h:PE X a t):PE X (.BoolOp op [a] pos) t:=fun pins s σ H Q I hw=>BoolOp_one (h pins s σ H Q I hw)
theorem zoT(ha:PE X a ta)(hb:PE X (.BoolOp .And (b::rest) pos) tb):PE X (.BoolOp .And (a::b::rest) pos) (zqL ta tb):=by
 intro pins s σ H Q I h
 refine BoolOp_and (thn (ha pins s σ H _ I h) fun v s1 ⟨x,H1,I1,r1,q1⟩=>?_)
 obtain⟨c,rfl,q1⟩:=q1
 cases r1
 refine wpAny_truthy_bool ?_
 cases c with
 |true=>exact hb pins s1 σ H1 Q I1 q1
 |false=>exact⟨.bl false,H1,I1,rfl,q1⟩
theorem zq9(ha:PE X a ta)(hb:PE X (.BoolOp .Or (b::rest) pos) tb):PE X (.BoolOp .Or (a::b::rest) pos) (zrJ ta tb):=by
 intro pins s σ H Q I h
 refine BoolOp_or (thn (ha pins s σ H _ I h) fun v s1 ⟨x,H1,I1,r1,q1⟩=>?_)
 obtain⟨c,rfl,q1⟩:=q1
 cases r1
 refine wpAny_truthy_bool ?_
 cases c with
 |false=>exact hb pins s1 σ H1 Q I1 q1
 |true=>exact⟨.bl true,H1,I1,rfl,q1⟩
theorem zpB(ha:PE X a ta):PE X (.UnaryOp .Not a pos) (zqA ta):=by
 intro pins s σ H Q I h
 refine UnaryOp_ (thn (ha pins s σ H _ I h) fun v s1 ⟨x,H1,I1,r1,q1⟩=>?_)
 obtain⟨c,rfl,q1⟩:=q1
 cases r1
 exact not_of (wpAny_truthy_bool ⟨.bl (!c),H1,I1,rfl,q1⟩)
def tIf(t:TT)(ta tb:TE):TE:=fun σ H Q=>t σ H fun c H1=>if c=true then ta σ H1 Q else tb σ H1 Q
theorem zmu{c:Expr}(hc:PT X c tA)(ha:PE X a ta)(hb:PE X b tb):PE X (.IfExp c a b pos) (tIf tA ta tb):=by
 intro pins s σ H Q I h
 refine wpAny_IfExp (thn (hc pins s σ H _ I h) fun d s1 ⟨H1,I1,q1⟩=>?_)
 cases d with
 |true=>exact ha pins s1 σ H1 Q I1 q1
 |false=>exact hb pins s1 σ H1 Q I1 q1
end
def SqL(K:W.Frag)(H:Hp)(a:Addr)(xs:List V):Prop :=
 Rd H a (.lst xs) \/
  ∃ (o:Obj) (its:Array Value) (n:Nat),K.lookup a=some o/\o.cls = .type "list" /\ o.dict=none/\o.data = .seq its n/\its.size<=sizeLine/\Vals xs its.toList
def SqT(K:W.Frag)(H:Hp)(a:Addr)(xs:List V):Prop :=
 Rd H a (.tup xs) \/
  ∃ (o:Obj) (its:Array Value) (n:Nat),K.lookup a=some o/\o.cls = .type "tuple" /\ o.data = .seq its n/\its.size<=sizeLine/\Vals xs its.toList
def zrO:Value->Option V
 | .none=>some .non
 | .bool b=>some (.bl b)
 | .int i _=>some (.int i)
 | .str x _=>some (.str x)
 | .bytes b _=>some (.byt b)
 | .float b _=>some (.flt b)
 | .ref a=>some (.ref a)
 | .type n=>some (.ty n)
 | _=>none
theorem RelV.abs{x:V}{u:Value}(r:RelV x u):zrO u=some x:=by
 cases x with
 |non=>cases r;rfl
 |bl _=>cases r;rfl
 |int _=>obtain⟨t,rfl⟩:=r;rfl
 |str _=>obtain⟨t,rfl⟩:=r;rfl
 |byt _=>obtain⟨t,rfl⟩:=r;rfl
 |flt _=>obtain⟨t,rfl⟩:=r;rfl
 |ref _=>cases r;rfl
 |ty _=>cases r;rfl
theorem RelV.inj{x y:V}{u:Value}(r:RelV x u)(q:RelV y u):x=y:=Option.some.inj (r.abs.symm.trans q.abs)
theorem Vals.inj:∀ {xs ys:List V} {us:List Value},Vals xs us->Vals ys us->xs=ys
 | _,_,_,.nil,.nil=>rfl
 | _,_,_,.cons r t,.cons r' t'=>by rw[r.inj r',Vals.inj t t']
section
variable{X:Cx}{pins:List (Addr×Obj)}{σ:St}{H:Hp}{s:Shared}{a:Addr}{xs ys:List V}
theorem SqL.of{K:W.Frag}(h:H a=some (.lst xs)):SqL K H a xs:=.inl (.inl h)
theorem SqT.of{K:W.Frag}(h:H a=some (.tup xs)):SqT K H a xs:=.inl (.inl h)
theorem Inv.list(I:Inv X pins σ H s)(h:SqL X.K H a xs):∃ its:List Value,Vals xs its/\PlainL s.heap a its.toArray/\xs.length<=sizeLine:=by
 rcases h with h | ⟨o,its,n,hk,hc,hd,hs,hz,r⟩
 · obtain⟨z,its,n,r,e⟩:=h.ok I.hok
   exact⟨its,r,⟨_,n,e,rfl,rfl,rfl⟩,z⟩
 · refine⟨its.toList,r,⟨o,n,I.kIn a o hk,hc,hd,by simpa using hs⟩,?_⟩
   have e:=r.length
   simp only[Array.length_toList] at e
   omega
theorem Inv.tuple(I:Inv X pins σ H s)(h:SqT X.K H a xs):∃ its:List Value,Vals xs its/\IsTup s.heap a its.toArray/\xs.length<=sizeLine:=by
 rcases h with h | ⟨o,its,n,hk,hc,hs,hz,r⟩
 · obtain⟨z,its,r,p⟩:=h.ok I.hok
   exact⟨its,r,p,z⟩
 · refine⟨its.toList,r,⟨o,I.kIn a o hk,hc,n,by simpa using hs⟩,?_⟩
   have e:=r.length
   simp only[Array.length_toList] at e
   omega
theorem Inv.list_inj(I:Inv X pins σ H s)(h:SqL X.K H a xs)(h':SqL X.K H a ys):xs=ys:=by
 obtain⟨its,r,⟨o,n,e,_,_,d⟩,_⟩:=I.list h
 obtain⟨its',r',⟨o',n',e',_,_,d'⟩,_⟩:=I.list h'
 rw[e] at e';cases e'
 rw[d] at d'
 injection d' with d1 _
 have:its=its':=by simpa using congrArg Array.toList d1
 subst this
 exact r.inj r'
end
abbrev Cx.wish(X:Cx)(E:Value->Shared->Prop):Cx:={ X with xe:=E }
abbrev Cx.nox(X:Cx):Cx:=X.wish fun _ _=>False
theorem Cx.Ok.wish{X:Cx}(ok:X.Ok)(E:Value->Shared->Prop):(X.wish E).Ok :=
 ⟨ok.mod,ok.kind,ok.glob,ok.blt,ok.above,ok.inj,ok.has,ok.cab,ok.hd,ok.frames,ok.stk,ok.exf,ok.bs,ok.bsz,ok.noex,ok.exfs,ok.funs,ok.frf⟩
theorem Cx.Ok.unwish{X:Cx}{E:Value->Shared->Prop}(ok:(X.wish E).Ok):X.Ok :=
 ⟨ok.mod,ok.kind,ok.glob,ok.blt,ok.above,ok.inj,ok.has,ok.cab,ok.hd,ok.frames,ok.stk,ok.exf,ok.bs,ok.bsz,ok.noex,ok.exfs,ok.funs,ok.frf⟩
section
variable{X:Cx}{pins:List (Addr×Obj)}{σ:St}{H:Hp}{s:Shared}{E:Value->Shared->Prop}
theorem Inv.wish(I:Inv X pins σ H s)(E:Value->Shared->Prop):Inv (X.wish E) pins σ H s:=⟨I.ok.wish E,I.os,I.bare,I.base,I.loc,I.cell,I.free,I.freeC,I.pin,I.hok,I.len⟩
theorem Inv.unwish(I:Inv (X.wish E) pins σ H s):Inv X pins σ H s:=⟨I.ok.unwish,I.os,I.bare,I.base,I.loc,I.cell,I.free,I.freeC,I.pin,I.hok,I.len⟩
theorem SP.unwish{D:Ends}{f:Flow}{s':Shared}(h:SP (X.wish E) pins D f s'):SP X pins D f s':=by
 cases f with
 |next=>obtain⟨σ',H',I,q⟩:=h;exact⟨σ',H',I.unwish,q⟩
 |brk=>obtain⟨σ',H',I,q⟩:=h;exact⟨σ',H',I.unwish,q⟩
 |cont=>obtain⟨σ',H',I,q⟩:=h;exact⟨σ',H',I.unwish,q⟩
 |ret u=>obtain⟨v,σ',H',I,r,q⟩:=h;exact⟨v,σ',H',I.unwish,r,q⟩
theorem PSs.nox{st:List Stmt}{t:TS}(h:PSs X.nox st t):PSs X st t:=fun pins s σ H D I hw =>
 wpAny_mono (h pins s σ H D (I.wish _) hw) (fun _ _ q=>q.unwish) fun _ _ z=>False.elim z
end
section
variable{X:Cx}{st:Stmt}{rest:List Stmt}{t u:TS}{e:Expr}{te:TE}{pos:Pos}
def zrc:TS:=fun D σ H=>D.nx σ H
def zrK(t u:TS):TS:=fun D σ H=>t { D with nx:=u D } σ H
theorem zdH:PSs X [] zrc:=fun _ _ σ H _ I h=>wpAny_execs_nil ⟨σ,H,I,h⟩
theorem zbx(h1:PS X st t)(h2:PSs X rest u):PSs X (st::rest) (zrK t u):=by
 intro pins s σ H D I h
 refine wpAny_execs_cons (thn (h1 pins s σ H { D with nx:=u D } I h) fun f s1 q=>?_)
 cases f with
 |next =>
   obtain⟨σ',H',I',q⟩:=q
   exact h2 pins s1 σ' H' D I' q
 |ret v=>exact q
 |brk=>exact q
 |cont=>exact q
theorem zck(h1:PS X st t):PSs X [st] t:=by
 intro pins s σ H D I h
 refine wpAny_execs_cons (thn (h1 pins s σ H D I h) fun f s1 q=>?_)
 cases f with
 |next=>exact wpAny_execs_nil q
 |ret v=>exact q
 |brk=>exact q
 |cont=>exact q
theorem Inv.quiet{pins:List (Addr×Obj)}{σ:St}{H:Hp}{s:Shared}(I:Inv X pins σ H s):interactive X.env=false:=by simp[interactive,I.ok.kind]
def zqv(te:TE):TS:=fun D σ H=>te σ H fun _ H1=>D.nx σ H1
theorem zgU(he:PE X e te)(hs:swapsWith e none pos.line X.env=pure false:=by rfl):PS X (.Expr e pos) (zqv te):=by
 intro pins s σ H D I h
 exact wpAny_Expr_any (thn (he pins s σ H _ I h) fun v s1 ⟨x,H1,I1,r1,q1⟩=>⟨σ,H1,I1,q1⟩) I.quiet hs
def zr2(te:TE):TS:=fun D σ H=>te σ H D.rt
theorem zgt(he:PE X e te):PS X (.Return (some e) pos) (zr2 te):=by
 intro pins s σ H D I h
 exact wpAny_Return_some (thn (he pins s σ H _ I h) fun v s1 ⟨x,H1,I1,r1,q1⟩=>⟨x,σ,H1,I1,r1,q1⟩)
def zrU(c:TT)(t u:TS):TS:=fun D σ H=>c σ H fun b H1=>if b=true then t D σ H1 else u D σ H1
theorem zhr{c:Expr}{a b:List Stmt}{tc:TT}(hc:PT X c tc)(ha:PSs X a t)(hb:PSs X b u):PS X (.If c a b pos) (zrU tc t u):=by
 intro pins s σ H D I h
 refine wpAny_If (thn (hc pins s σ H _ I h) fun d s1 ⟨H1,I1,q1⟩=>?_)
 cases d with
 |true=>exact ha pins s1 σ H1 D I1 q1
 |false=>exact hb pins s1 σ H1 D I1 q1
def zpQ:TS:=fun _ _ _=>False
theorem zmD:PS X st zpQ:=fun _ _ _ _ _ _ h=>h.elim
end
abbrev TG:=V->St->Hp->(St->Hp->Prop)->Prop
abbrev TGs:=List V->St->Hp->(St->Hp->Prop)->Prop
def PG(X:Cx)(target:Expr)(t:TG):Prop :=
 ∀ (pins:List (Addr×Obj)) (s:Shared) (σ:St) (H:Hp) (v:V) (u:Value) (Q:St->Hp->Prop),Inv X pins σ H s->RelV v u->t v σ H Q ->
  wpAny (model X.prog X.w) X.A (assign target X.env u) (fun _ s'=>∃ σ' H',Inv X pins σ' H' s'/\Q σ' H') X.xe s
def PGs(X:Cx)(ts:List Expr)(t:TGs):Prop :=
 ∀ (pins:List (Addr×Obj)) (s:Shared) (σ:St) (H:Hp) (vs:List V) (us:List Value) (Q:St->Hp->Prop),Inv X pins σ H s->Vals vs us->t vs σ H Q ->
  wpAny (model X.prog X.w) X.A (assignInOrder ((assignEach ts X.env).map (·.2)) us) (fun _ s'=>∃ σ' H',Inv X pins σ' H' s'/\Q σ' H') X.xe s
abbrev zpS:=V->V->V->Hp->(Hp->Prop)->Prop
def zqs(X:Cx)(t:zpS):Prop :=
 ∀ (pins:List (Addr×Obj)) (s:Shared) (σ:St) (H:Hp) (o i v:V) (ov iv u:Value) (Q:Hp->Prop),Inv X pins σ H s->RelV o ov->RelV i iv->RelV v u->t o i v H Q ->
  wpAny (model X.prog X.w) X.A (setItem ov iv u) (fun _ s'=>∃ H',Inv X pins σ H' s'/\Q H') X.xe s
section
variable{X:Cx}{pos:Pos}
def zf6(i:Nat):TG:=fun v σ H Q=>Q (σ.set i (some v)) H
theorem zaW{i:Nat}{x:Str}(hN:X.N.Nodup)(hi:X.N[i]? = some x)(hx:Loc X.env.scope x)(hf:X.fn x=true\/X.env.scope.names.lookup x=some .local:=by first | exact .inl rfl | exact .inr rfl | assumption):PG X (.Name x pos) (zf6 i):=by
 intro pins s σ H v u Q I r h
 exact wpAny_assign_Name (zfz I hN hi hx r (fun s' I'=>⟨_,H,I',h⟩) hf)
def zpR:TGs:=fun vs σ H Q=>vs=[]/\Q σ H
def zmr(t:TG)(u:TGs):TGs:=fun vs σ H Q=>∃ v r,vs=v::r/\t v σ H fun σ' H'=>u r σ' H' Q
theorem zdc:PGs X [] zpR:=by
 intro pins s σ H vs us Q I r h
 obtain⟨e,h⟩:=h
 subst e
 cases r
 exact assignInOrder_nil ⟨σ,H,I,h⟩
theorem zbj{e:Expr}{es:List Expr}{t:TG}{u:TGs}(h1:PG X e t)(h2:PGs X es u)
 (hs:(assignEach (e::es) X.env).map (·.2)=assign e X.env::(assignEach es X.env).map (·.2):=by rfl):PGs X (e::es) (zmr t u):=by
 intro pins s σ H vs us Q I r h
 obtain⟨v,vr,e1,h⟩:=h
 subst e1
 cases r with
 |cons r rr =>
   rw[hs]
   refine assignInOrder_cons (thn (h1 pins s σ H _ _ _ I r h) fun _ s1 ⟨σ1,H1,I1,q1⟩=>?_)
   exact h2 pins s1 σ1 H1 _ _ Q I1 rr q1
def zqf(K:W.Frag)(n:Nat)(t:TGs):TG:=fun v σ H Q=>∃ a xs,v = .ref a/\SqT K H a xs/\xs.length=n/\t xs σ H Q
theorem zel{es:List Expr}{k:Nat}{t:TGs}{n:Nat}(hc:X.calm=true)(h:PGs X es t)
 (hn:(assignEach es X.env).length=n:=by rfl) (hst:(assignEach es X.env).findIdx? (·.1)=none:=by rfl):PG X (.Tuple es k pos) (zqf X.K n t):=by
 intro pins s σ H v u Q I r hw
 obtain⟨a,xs,e1,hq,hl,hw⟩:=hw
 subst e1
 cases r
 obtain⟨its,rv,ht,hz⟩:=I.tuple hq
 refine assign_Tuple_tuple (I.ok.hd hc) ht (by simp[hn, <- hl,rv.length]) hst fun h' hx=>?_
 have I1:Inv X pins σ H { s with heap:=h' }:=I.kept (t':=s.toks) fun b o e=>hx b o (Nat.ne_of_lt (Heap.lt_size e)) e
 exact h pins _ σ H xs _ Q I1 (by simpa using rv) hw
def zru(to ti:TE)(t:zpS):TG:=fun v σ H Q=>to σ H fun o H1=>ti σ H1 fun i H2=>t o i v H2 fun H3=>Q σ H3
theorem zk6{o i:Expr}{to ti:TE}{t:zpS}(ho:PE X o to)(hi:PE X i ti)(hs:zqs X t)
 (ha:∀ v,assign (.Subscript o i pos) X.env v=(do
  let ov <- holding [v] (eval o X.env)
  let iv <- holding [v,ov] (eval i X.env)
  standAt pos
  holding [v,ov,iv] (setItem ov iv v)
  release [v,ov,iv] []):=by intro _;rfl):PG X (.Subscript o i pos) (zru to ti t):=by
 intro pins s σ H v u Q I r h
 rw[ha]
 refine wpAny_bind (wpAny_holding (thn (ho pins s σ H _ I h) fun ov s1 ⟨x,H1,I1,r1,q1⟩=>?_))
 refine wpAny_bind (wpAny_holding (thn (hi pins s1 σ H1 _ I1 q1) fun iv s2 ⟨y,H2,I2,r2,q2⟩=>?_))
 refine wpAny_bind (wpAny_standAt (wpAny_bind (wpAny_holding (thn (hs pins s2 σ H2 x y v ov iv u _ I2 r1 r2 r q2) fun _ s3 ⟨H3,I3,q3⟩=>?_))))
 exact wpAny_release ⟨σ,H3,I3,q3⟩
def zle(te:TE)(g:TG):TS:=fun D σ H=>te σ H fun x H1=>g x σ H1 D.nx
theorem zih{tg e:Expr}{te:TE}{g:TG}(he:PE X e te)(hg:PG X tg g)(hs:swapsWithSole [tg] e pos.line X.env=pure false:=by rfl)(hw:swappedStores [tg] e X.env=pure none:=by rfl)
 (h1:(assignEach [tg] X.env).map (·.2)=[assign tg X.env]:=by rfl):PS X (.Assign [tg] e pos) (zle te g):=by
 intro pins s σ H D I h
 refine wpAny_Assign_stores (thn (he pins s σ H _ I h) fun v s1 ⟨x,H1,I1,r1,q1⟩=>?_) hs hw
 rw[h1]
 exact thn (hg pins s1 σ H1 x v _ I1 r1 q1) fun _ s2 q=>q
theorem ziE{i:Nat}{x:Str}{e:Expr}{te:TE}{pos':Pos}(hN:X.N.Nodup)(hi:X.N[i]? = some x)(hx:Loc X.env.scope x)(he:PE X e te)(hs:swapsWith e (some (.Name x pos')) pos.line X.env=pure false:=by rfl)(hf:X.fn x=true\/X.env.scope.names.lookup x=some .local:=by first | exact .inl rfl | exact .inr rfl | assumption) :
 PS X (.Assign [.Name x pos'] e pos) (zle te (zf6 i)):=by
 intro pins s σ H D I h
 refine wpAny_Assign_Name (thn (he pins s σ H _ I h) fun v s1 ⟨y,H1,I1,r1,q1⟩=>?_) hs
 exact zfz I1 hN hi hx r1 (fun s2 I2=>⟨_,H1,I2,q1⟩) hf
end
structure It where
 go:Nat->Hp->Prop
 yld:Nat->Hp->V->Hp->Prop
 stop:Nat->Hp->Prop
def zdl(X:Cx)(pins:List (Addr×Obj))(H:Hp)(b:Addr):Prop :=
 H b=none/\b≠X.env.locals/\b ∉ X.fs/\(b∈X.ex\/X.s₀.heap.objs.size<=b)/\(∀ x c,X.env.cells.lookup x=some c->c≠b)/\∀ p∈X.pn++pins,p.1≠b
theorem Inv.fpOk{X:Cx}{pins:List (Addr×Obj)}{σ:St}{H H':Hp}{s:Shared}{b:Addr}(I:Inv X pins σ H s)(hb:s.heap.objs.size<=b)(hn:H' b=none):zdl X pins H' b:=by
 refine⟨hn,Nat.ne_of_gt (Nat.lt_of_lt_of_le I.lt hb),I.nofs hb,.inr (Nat.le_trans I.sz hb),fun x c e z=>?_,fun p hp z=>?_⟩
 · obtain⟨v,q⟩:=I.cell x c e
   exact absurd (Nat.lt_of_lt_of_le q.lt (by rw[z];exact hb)) (Nat.lt_irrefl _)
 · exact absurd (Nat.lt_of_lt_of_le (Heap.lt_size (I.pin p hp).1) (by rw[z];exact hb)) (Nat.lt_irrefl _)
structure Turn(P:Program)(w:World)(K:W.Frag)(tg:Expr)(J:It)(fp:List Addr)(it:Addr)(tn:Nat->Heap->Prop):Prop where
 mem:it∈fp
 obj:∀ i h,tn i h->∀ b∈fp,∃ o,h.get? b=some o/\∀ v,o.data ≠ .cell v
 keep:∀ i h h',tn i h->(∀ b∈fp,∀ o,h.get? b=some o->h'.get? b=some o)->tn i h'
 item:∀ (X:Cx),X.prog=P->X.w=w->X.K=K->X.calm=true->∀ (i:Nat) (pins:List (Addr×Obj)) (s:Shared) (σ:St) (H:Hp) (E:Value->Shared->Prop),Inv X pins σ H s->(∀ b∈fp,zdl X pins H b)->tn i s.heap->J.go i H ->
  wpAny (model P w) X.A (pyNext (.ref it)) (fun r s1=>∃ u,r=some u /\
   wpAny (model P w) X.A (letOwnedTupleGo tg (.ref it) u) (fun _ s2=>∃ x H',Inv X pins σ H' s2/\RelV x u/\J.yld i H x H'/\tn (i+1) s2.heap/\∀ b∈fp,H' b=none) E s1) E s
 done:∀ (X:Cx),X.prog=P->X.w=w->X.K=K->X.calm=true->∀ (i:Nat) (pins:List (Addr×Obj)) (s:Shared) (σ:St) (H:Hp) (E:Value->Shared->Prop),Inv X pins σ H s->(∀ b∈fp,zdl X pins H b)->tn i s.heap->J.stop i H ->
  wpAny (model P w) X.A (pyNext (.ref it)) (fun r s1=>r=none/\Inv X pins σ H s1) E s
 self:∀ (A:Around) (i:Nat) (s:Shared) (Q:Value->Shared->Prop) (E:Value->Shared->Prop),tn i s.heap->Q (.ref it) s->wpAny (model P w) A (pyIter (.ref it)) Q E s
abbrev TI:=St->Hp->(It->Hp->Prop)->Prop
def PIE(X:Cx)(pins:List (Addr×Obj))(σ:St)(tg:Expr)(R:It->Hp->Prop)(itv:Value)(s2:Shared):Prop :=
 ∃ (it:Addr) (fp:List Addr) (tn:Nat->Heap->Prop) (J:It) (H':Hp),itv = .ref it/\Inv X pins σ H' s2/\Turn X.prog X.w X.K tg J fp it tn/\tn 0 s2.heap/\(∀ b∈fp,zdl X pins H' b)/\R J H'
def PI(X:Cx)(tg iter:Expr)(wi:TI):Prop :=
 ∀ (pins:List (Addr×Obj)) (s:Shared) (σ:St) (H:Hp) (R:It->Hp->Prop),Inv X pins σ H s->wi σ H R ->
  wpAny (model X.prog X.w) X.A (eval iter X.env) (fun v s1=>wpAny (model X.prog X.w) X.A (pyIter v) (PIE X pins σ tg R) X.xe s1) X.xe s
theorem zoz{M:Model}{A:Around}{E:Value->Shared->Prop}{s:Shared}{tg:Expr}{it:Addr}{u:Value}{o:Obj}{n:String}{vs:Array Value}{Q:Unit->Shared->Prop}(ho:s.heap.get? it=some o)(hc:o.cls = .type n)(hd:o.data = .fields vs)
 (hn:["enumerate","zip","dict_itemiterator","dict_reverseitemiterator","odict_iterator","itertools.zip_longest","itertools.pairwise"].contains n=false) (hQ:Q () s):wpAny M A (letOwnedTupleGo tg (.ref it) u) Q E s:=by
 unfold letOwnedTupleGo
 cases tg<;>first
  |exact wpAny_pure hQ
  | (cases u<;>first
   |exact wpAny_pure hQ
   | (refine wpAny_bind (wpAny_load ho ?_)
      rw[hc,hd]
      show wpAny M A (if (["enumerate","zip","dict_itemiterator","dict_reverseitemiterator","odict_iterator","itertools.zip_longest","itertools.pairwise"].contains n && vs[0]? == some (rawInt _))=true then _ else _) Q E s
      rw[if_neg (by intro h;rw[hn,Bool.false_and] at h;cases h)]
      exact wpAny_pure hQ))
def Itl(K:W.Frag)(a:Addr):It :=
 ⟨fun i H=>∃ xs x,SqL K H a xs/\xs[i]? = some x,fun i H x H'=>H'=H/\∀ xs,SqL K H a xs->xs[i]? = some x,fun i H=>∃ xs,SqL K H a xs/\xs.length<=i⟩
def Itr(lo:Int)(n:Nat):It:=⟨fun i _=>i<n,fun i H x H'=>H'=H/\x = .int (lo+i),fun i _=>n<=i⟩
theorem zjT{P:Program}{w:World}{K:W.Frag}{tg:Expr}(a it:Addr):Turn P w K tg (Itl K a) [it] it (fun i h=>h.IsListIter it a i) where
 mem:=by simp
 obj:=fun i h st b hb=>by
  have e:b=it:=by simpa using hb
  subst e
  obtain⟨o,e,c,d⟩:=st
  exact⟨o,e,fun v z=>by rw[d] at z;cases z⟩
 keep:=fun i h h' st k=>st.at fun o e=>k it (by simp) o e
 item:=by
  intro X hP hw hK hc i pins s σ H E I hf st hg
  subst hP hw hK
  obtain⟨xs,x,hq,hx⟩:=hg
  obtain⟨its,rv,p,hz⟩:=I.list hq
  obtain⟨u,hu,ru⟩:=rv.get hx
  obtain⟨f0,f1,f2,f3,f4,f5⟩:=hf it (by simp)
  refine wpAny_pyNext_list_item st p.isList (x:=u) (by simpa using hu) fun h' st' sb=>?_
  have I1:Inv X pins σ H { s with heap:=h' }:=I.turned (t':=s.toks) (fun b o hb e=>(sb.2 b hb).trans e) f0 f1 f3 f4 f5
  obtain⟨o,e,c,d⟩:=id st'
  exact⟨u,rfl,zoz (s:={ s with heap:=h' }) e c d (by decide) ⟨x,H,I1,ru,⟨rfl,fun ys hy=>by rw[I.list_inj hy hq];exact hx⟩,st',fun b hb=>(hf b hb).1⟩⟩
 done:=by
  intro X hP hw hK hc i pins s σ H E I hf st hg
  subst hP hw hK
  obtain⟨xs,hq,hx⟩:=hg
  obtain⟨its,rv,p,hz⟩:=I.list hq
  obtain⟨f0,f1,f2,f3,f4,f5⟩:=hf it (by simp)
  have hl:=rv.length
  exact wpAny_pyNext_list_end (I.ok.hd hc) st p.isList (by simp;omega) fun h' eb=>⟨rfl,I.turned (t':=s.toks) (fun b o hb e=>eb b o hb e) f0 f1 f3 f4 f5⟩
 self:=fun _ _ _ _ _ st h=>wpAny_pyIter_listiter st h
theorem ziF{P:Program}{w:World}{K:W.Frag}{tg:Expr}(it:Addr)(lo:Int)(n:Nat):Turn P w K tg (Itr lo n) [it] it (fun i h=>IsRangeIter h it (lo+(i:Nat) * 1) ((n:Int) - (i:Nat)) 1) where
 mem:=by simp
 obj:=fun i h st b hb=>by
  have e:b=it:=by simpa using hb
  subst e
  exact⟨_,st,fun v z=>by
   have z':Data.fields _=Data.cell v:=z
   cases z'⟩
 keep:=fun i h h' st k=>k it (by simp) _ st
 item:=by
  intro X hP hw hK hc i pins s σ H E I hf st hg
  subst hP hw hK
  obtain⟨f0,f1,f2,f3,f4,f5⟩:=hf it (by simp)
  have W:=Walks.range (prog:=X.prog) (w:=X.w) (I.ok.hd hc) it lo 1 n
  refine W.item i s _ _ hg st fun v h' tk hv st' kk=>?_
  obtain⟨t,rfl⟩:=hv
  have I1:Inv X pins σ H { s with heap:=h',toks:=tk }:=I.turned (fun b o hb e=>kk b o (by simpa using hb) e) f0 f1 f3 f4 f5
  refine⟨_,rfl,zoz (s:={ s with heap:=h',toks:=tk }) (n := "range_iterator") st' rfl rfl (by decide) ⟨.int (lo+i),H,I1,⟨t,?_⟩,⟨rfl,rfl⟩,st',fun b hb=>(hf b hb).1⟩⟩
  rw[Int.mul_one]
 done:=by
  intro X hP hw hK hc i pins s σ H E I hf st hg
  subst hP hw hK
  obtain⟨f0,f1,f2,f3,f4,f5⟩:=hf it (by simp)
  exact wpAny_pyNext_range_end (I.ok.hd hc) st (by have:n<=i:=hg;omega) fun h' eb=>⟨rfl,I.turned (t':=s.toks) (fun b o hb e=>eb b o hb e) f0 f1 f3 f4 f5⟩
 self:=fun _ _ _ _ _ st h=>wpAny_pyIter_rangeiter st h
section
variable{X:Cx}{tg:Expr}
def zqx(K:W.Frag)(tl:TE):TI:=fun σ H R=>tl σ H fun x H1=>∃ a,x = .ref a/\(∃ xs,SqL K H1 a xs)/\R (Itl K a) H1
theorem znf{l:Expr}{tl:TE}(hl:PE X l tl):PI X tg l (zqx X.K tl):=by
 intro pins s σ H R I h
 refine thn (hl pins s σ H _ I h) fun v s1 ⟨x,H1,I1,r1,q1⟩=>?_
 obtain⟨a,e,⟨xs,hq⟩,q⟩:=q1
 subst e
 cases r1
 obtain⟨its,rv,p,hz⟩:=I1.list hq
 refine wpAny_pyIter_list p.isList ?_
 refine⟨s1.heap.objs.size,[s1.heap.objs.size],_,_,H1,rfl,I1.kept (t':=s1.toks) fun b o e=>Heap.get?_push_of_some _ e,zjT a _,⟨_,Heap.get?_push_size _ rfl,rfl,rfl⟩,fun b hb=>?_,q⟩
 have e:b=s1.heap.objs.size:=by simpa using hb
 subst e
 exact I1.fpOk (Nat.le_refl _) (I1.hok.fresh (Nat.le_refl _))
theorem zlH{pins:List (Addr×Obj)}{σ:St}{H:Hp}{s:Shared}{R:It->Hp->Prop}{E:Value->Shared->Prop}{lo hi:Int}{t u v:Tok}{tk:Nat}(I:Inv X pins σ H s)(h1 : -(2 ^ 62)<=lo)(h2:lo<2 ^ 62)(h3 : -(2 ^ 62)<=hi)(h4:hi<2 ^ 62)
 (q:R (Itr lo (hi - lo).toNat) H):wpAny (model X.prog X.w) X.A (pyIter (.ref s.heap.objs.size)) (PIE X pins σ tg R) E { s with heap:=s.heap.push { cls:=.type "range",data:=.fields #[.int lo t,.int hi u,.int 1 v] },toks:=tk }:=by
 refine wpAny_pyIter_range (IsRange.new ..) (small_one h1 h2 h3 h4) ?_
 have I1:Inv X pins σ H { s with heap:=s.heap.push { cls:=.type "range",data:=.fields #[.int lo t,.int hi u,.int 1 v] },toks:=tk }:=I.kept fun b o e=>Heap.get?_push_of_some _ e
 refine⟨(s.heap.push { cls:=.type "range",data:=.fields #[.int lo t,.int hi u,.int 1 v] }).objs.size,[(s.heap.push { cls:=.type "range",data:=.fields #[.int lo t,.int hi u,.int 1 v] }).objs.size],_,_,H,rfl,
  I1.kept (t':=tk) fun b o e=>Heap.get?_push_of_some _ e,ziF _ lo (hi - lo).toNat,?_,fun b hb=>?_,q⟩
 · have e1:lo+((0:Nat):Int) * 1=lo:=by simp
   have e2:(((hi - lo).toNat:Nat):Int) - ((0:Nat):Int)=Builtin.Range.rangeSize lo hi 1:=by rw[rangeSize_one];split<;>omega
   show IsRangeIter _ _ (lo+((0:Nat):Int) * 1) ((((hi - lo).toNat:Nat):Int) - ((0:Nat):Int)) 1
   rw[e1,e2]
   exact Heap.get?_push_size _ rfl
 · have e:b=(s.heap.push { cls:=.type "range",data:=.fields #[.int lo t,.int hi u,.int 1 v] }).objs.size:=by simpa using hb
   subst e
   exact I1.fpOk (Nat.le_refl _) (I1.hok.fresh (Nat.le_refl _))
def zos(ta:TA):TI:=fun σ H R=>ta σ H fun vs H1=>∃ j:Int,vs=[.int j] /\ -(2 ^ 62)<=j/\j<2 ^ 62/\R (Itr 0 j.toNat) H1
theorem zee{a:Expr}{ta:TA}{p pos:Pos}(hg:Gl X "range")(hm:X.mg "range" = none)(ha:PA X [a] ta)(hs:starEach [a] X.env=[(false,eval a X.env)]:=by rfl):PI X tg (.Call (.Name "range" p) [a] [] pos) (zos ta):=by
 intro pins s σ H R I h
 refine Call_ (zeX I hg hm boot_range (PyProof.Rows.callWith_type1 (thn (ha pos pins s σ H _ I h) fun us s1 ⟨vs,H1,I1,r1,q1⟩=>?_) hs rfl))
 obtain⟨j,e,q1,q2,q⟩:=q1
 subst e
 cases r1 with
 |cons r rr =>
   cases rr
   obtain⟨t,rfl⟩:=r
   exact call_range_1 (zlH I1 (by omega) (by omega) q1 q2 (by simpa using q))
def zpP(wi:TI)(g:TG)(tb:TS):TS:=fun D σ H=>wi σ H fun J H1=>∃ W:Nat->Nat->St->Hp->Prop,(∃ m,W 0 m σ H1)/\∀ i m σ H,W i m σ H ->
 (J.stop i H/\D.nx σ H)\/(J.go i H/\∃ N:St->Hp->Prop,(∀ σ' H',N σ' H'->∃ m',m'<m/\W (i+1) m' σ' H')/\∀ x H',J.yld i H x H'->g x σ H' fun σ2 H2=>tb { D with nx:=N,ct:=N,bk:=D.nx } σ2 H2)
def zef(fp:List Addr)(h:Heap):List (Addr×Obj):=fp.filterMap fun b=>(h.get? b).map fun o=>(b,o)
theorem zbQ{fp:List Addr}{h:Heap}{b:Addr}{o:Obj}(hb:b∈fp)(e:h.get? b=some o):(b,o)∈zef fp h:=List.mem_filterMap.mpr ⟨b,hb,by rw[e];rfl⟩
theorem zkw{fp:List Addr}{h:Heap}{p:Addr×Obj}(hp:p∈zef fp h):p.1∈fp/\h.get? p.1=some p.2:=by
 obtain⟨b,hb,e⟩:=List.mem_filterMap.mp hp
 cases q:h.get? b with
 |none=>rw[q] at e;cases e
 |some o =>
   rw[q] at e
   have e':(b,o)=p:=Option.some.inj e
   subst e'
   exact⟨hb,q⟩
theorem Inv.pinned{pins:List (Addr×Obj)}{σ:St}{H:Hp}{s:Shared}{fp:List Addr}(I:Inv X pins σ H s)(hf:∀ b∈fp,zdl X pins H b)(ho:∀ b∈fp,∃ o,s.heap.get? b=some o/\∀ v,o.data ≠ .cell v):Inv X (pins++zef fp s.heap) σ H s :=
 I.pins_of fun p hp=>(List.mem_append.mp hp).elim (fun z=>I.pin p (List.mem_append_right _ z)) fun z=>by
  obtain⟨hb,e⟩:=zkw z
  obtain⟨f0,f1,f2,_⟩:=hf p.1 hb
  obtain⟨o,e',d⟩:=ho p.1 hb
  rw[e] at e';cases e'
  exact⟨e,f0,f1,f2,d⟩
theorem Inv.unpinned{pins pl:List (Addr×Obj)}{σ:St}{H:Hp}{s:Shared}(I:Inv X (pins++pl) σ H s):Inv X pins σ H s:=I.pins_of fun p hp=>I.pin p (List.mem_append_right _ (List.mem_append_left _ hp))
theorem zgK{iter:Expr}{body:List Stmt}{wi:TI}{g:TG}{tb:TS}{pos:Pos}(hp:PassesOwn (model X.prog X.w) X.A X.env X.xe)(hc:X.calm=true)(hi:PI X tg iter wi)(hg:PG X tg g)(hb:PSs X body tb)
 (hs:∀ x,foldedSetIterable iter X.env x=pure x:=by intro _;rfl):PS X (.For tg iter body [] pos) (zpP wi g tb):=by
 intro pins s σ H D I h
 refine wpAny_For (thn (hi pins s σ H _ I h) fun v s1 h1=>thn h1 fun itv s2 h2=>?_) hs
 obtain⟨it,fp,tn,J,H2,e,I2,T,st2,f2,W,⟨m0,w0⟩,turn⟩:=h2
 subst e
 have stat:∀ {H':Hp},(∀ b∈fp,H' b=none)->∀ b∈fp,zdl X pins H' b:=fun hn b hb=>⟨hn b hb,(f2 b hb).2⟩
 refine codeAny_forLoop_any (fun n s'=>∃ i σ' H',Inv X pins σ' H' s'/\tn i s'.heap/\(∀ b∈fp,H' b=none)/\W i n σ' H') ?_ m0 ⟨0,σ,H2,I2,st2,fun b hb=>(f2 b hb).1,w0⟩
 rintro n s3 ⟨i,σ3,H3,I3,st3,fr3,w3⟩
 rcases turn i n σ3 H3 w3 with ⟨stop,qn⟩ | ⟨go,N,hN,step⟩
 · refine wpAny_passesOwn hp (thn (T.done X rfl rfl rfl hc i pins s3 σ3 H3 X.xe I3 (stat fr3) st3 stop) fun r s4 ⟨hr,I4⟩=>?_)
   subst hr
   exact wpAny_execs_nil ⟨σ3,H3,I4,qn⟩
 · refine wpAny_passesOwn hp (thn (T.item X rfl rfl rfl hc i pins s3 σ3 H3 X.xe I3 (stat fr3) st3 go) fun r s4 ⟨u,hr,h4⟩=>?_)
   subst hr
   refine wpAny_passesOwn hp (thn h4 fun _ s5 ⟨x,H5,I5,r5,y5,st5,fr5⟩=>?_)
   have I5':=I5.pinned (stat fr5) (T.obj _ _ st5)
   refine wpAny_passesOwn hp (thn (hg _ s5 σ3 H5 x u _ I5' r5 (step x H5 y5)) fun _ s6 ⟨σ6,H6,I6,q6⟩=>?_)
   refine wpAny_passesOwn hp (thn (hb _ s6 σ6 H6 _ I6 q6) fun f s7 q7=>?_)
   have again:∀ {σ7:St} {H7:Hp},Inv X (pins++zef fp s5.heap) σ7 H7 s7->N σ7 H7->∃ m,m<n/\∃ i σ' H',Inv X pins σ' H' s7/\tn i s7.heap/\(∀ b∈fp,H' b=none)/\W i m σ' H':=fun {σ7 H7} I7 n7=>by
    obtain⟨m',hm,w7⟩:=hN σ7 H7 n7
    refine⟨m',hm,i+1,σ7,H7,I7.unpinned,T.keep _ _ _ st5 fun b hb o e=>(I7.pin (b,o) (List.mem_append_right _ (List.mem_append_right _ (zbQ hb e)))).1,fun b hb=>?_,w7⟩
    obtain⟨o,e,d⟩:=T.obj _ _ st5 b hb
    exact(I7.pin (b,o) (List.mem_append_right _ (List.mem_append_right _ (zbQ hb e)))).2.1
   cases f with
   |next=>obtain⟨σ7,H7,I7,n7⟩:=q7;exact again I7 n7
   |cont=>obtain⟨σ7,H7,I7,n7⟩:=q7;exact again I7 n7
   |brk=>obtain⟨σ7,H7,I7,q7⟩:=q7;exact⟨σ7,H7,I7.unpinned,q7⟩
   |ret v=>obtain⟨x7,σ7,H7,I7,r7,q7⟩:=q7;exact⟨x7,σ7,H7,I7.unpinned,r7,q7⟩
end
abbrev R2:=V->V->Hp->VK->Prop
def OpR(X:Cx)(f:Value->Value->Sem Value)(r:R2):Prop :=
 ∀ (pins:List (Addr×Obj)) (s:Shared) (σ:St) (H:Hp) (x y:V) (v u:Value) (Q:VK),Inv X pins σ H s->RelV x v->RelV y u->r x y H Q ->
  wpAny (model X.prog X.w) X.A (f v u) (EP X pins σ Q) X.xe s
def UnR(X:Cx)(f:Value->Sem Value)(r:V->Hp->VK->Prop):Prop :=
 ∀ (pins:List (Addr×Obj)) (s:Shared) (σ:St) (H:Hp) (x:V) (v:Value) (Q:VK),Inv X pins σ H s->RelV x v->r x H Q ->
  wpAny (model X.prog X.w) X.A (f v) (EP X pins σ Q) X.xe s
def CallR(X:Cx)(f:Value)(r:List V->Hp->VK->Prop):Prop :=
 ∀ (pins:List (Addr×Obj)) (s:Shared) (σ:St) (H:Hp) (xs:List V) (us:List Value) (Q:VK),Inv X pins σ H s->Vals xs us->r xs H Q ->
  wpAny (model X.prog X.w) X.A (call f us) (EP X pins σ Q) X.xe s
def tOp(r:R2)(ta tb:TE):TE:=fun σ H Q=>ta σ H fun x H1=>tb σ H1 fun y H2=>r x y H2 Q
def tUn(r:V->Hp->VK->Prop)(ta:TE):TE:=fun σ H Q=>ta σ H fun x H1=>r x H1 Q
def rI(C:Int->Int->Prop)(g:Int->Int->V):R2:=fun x y H Q=>∃ i j,x = .int i/\y = .int j/\C i j/\Q (g i j) H
def rI0(g:Int->Int->V):R2:=fun x y H Q=>∃ i j,x = .int i/\y = .int j/\Q (g i j) H
def rU(g:Int->V):V->Hp->VK->Prop:=fun x H Q=>∃ i,x = .int i/\Q (g i) H
section
variable{X:Cx}{a b c:Expr}{ta tb tc:TE}{pos:Pos}
theorem zo5(ha:PE X a ta)(hb:PE X b tb){pins:List (Addr×Obj)}{s:Shared}{σ:St}{H:Hp}{R:V->V->Hp->Prop}(I:Inv X pins σ H s)
 (h:ta σ H fun x H1=>tb σ H1 fun y H2=>R x y H2) {Q:Value->Shared->Prop} {f:Value->Value->Sem Value}
 (hf:∀ v u s2 x y H2,Inv X pins σ H2 s2->RelV x v->RelV y u->R x y H2->wpAny (model X.prog X.w) X.A (f v u) Q X.xe s2) :
 wpAny (model X.prog X.w) X.A (eval a X.env) (fun v s₁=>wpAny (model X.prog X.w) X.A (eval b X.env) (fun u s₂=>wpAny (model X.prog X.w) X.A (f v u) Q X.xe s₂) X.xe s₁) X.xe s:=by
 refine thn (ha pins s σ H _ I h) fun v s1 ⟨x,H1,I1,r1,q1⟩=>?_
 refine thn (hb pins s1 σ H1 _ I1 q1) fun u s2 ⟨y,H2,I2,r2,q2⟩=>?_
 exact hf v u s2 x y H2 I2 r1 r2 q2
theorem zqG{op:Operator}{r:R2}(ho:OpR X (binaryOp op) r)(ha:PE X a ta)(hb:PE X b tb):PE X (.BinOp a op b pos) (tOp r ta tb):=by
 intro pins s σ H Q I h
 exact wpAny_BinOp (zo5 ha hb I h fun v u s2 x y H2 I2 rx ry q=>ho pins s2 σ H2 x y v u Q I2 rx ry q)
theorem zri{op:UnaryOp}{r:V->Hp->VK->Prop}(ho:UnR X (unaryOp op) r)(ha:PE X a ta):PE X (.UnaryOp op a pos) (tUn r ta):=by
 intro pins s σ H Q I h
 exact UnaryOp_ (thn (ha pins s σ H _ I h) fun v s1 ⟨x,H1,I1,r1,q1⟩=>ho pins s1 σ H1 x v Q I1 r1 q1)
theorem opI{f:Value->Value->Sem Value}{C:Int->Int->Prop}{g:Int->Int->Int}
 (rule:∀ (i j:Int) (t u:Tok) (s:Shared) (Q:Value->Shared->Prop) (E:Value->Shared->Prop),C i j->Q (.int (g i j) s.toks) { s with toks:=s.toks+1 }->wpAny (model X.prog X.w) X.A (f (.int i t) (.int j u)) Q E s) :
 OpR X f (rI C fun i j=>.int (g i j)):=by
 intro pins s σ H x y v u Q I rx ry h
 obtain⟨i,j,rfl,rfl,hc,q⟩:=h
 obtain⟨t,rfl⟩:=rx
 obtain⟨t',rfl⟩:=ry
 exact rule i j t t' s _ _ hc ⟨.int (g i j),H,I.tok _,⟨_,rfl⟩,q⟩
theorem zrR{f:Value->Value->Sem Value}{g:Int->Int->Int}
 (rule:∀ (i j:Int) (t u:Tok) (s:Shared) (Q:Value->Shared->Prop) (E:Value->Shared->Prop),Q (.int (g i j) s.toks) { s with toks:=s.toks+1 }->wpAny (model X.prog X.w) X.A (f (.int i t) (.int j u)) Q E s) :
 OpR X f (rI0 fun i j=>.int (g i j)):=by
 intro pins s σ H x y v u Q I rx ry h
 obtain⟨i,j,rfl,rfl,q⟩:=h
 obtain⟨t,rfl⟩:=rx
 obtain⟨t',rfl⟩:=ry
 exact rule i j t t' s _ _ ⟨.int (g i j),H,I.tok _,⟨_,rfl⟩,q⟩
theorem zpf{f:Value->Value->Sem Value}{g:Int->Int->Bool}
 (rule:∀ (i j:Int) (t u:Tok) (s:Shared) (Q:Value->Shared->Prop) (E:Value->Shared->Prop),Q (.bool (g i j)) s->wpAny (model X.prog X.w) X.A (f (.int i t) (.int j u)) Q E s) :
 OpR X f (rI0 fun i j=>.bl (g i j)):=by
 intro pins s σ H x y v u Q I rx ry h
 obtain⟨i,j,rfl,rfl,q⟩:=h
 obtain⟨t,rfl⟩:=rx
 obtain⟨t',rfl⟩:=ry
 exact rule i j t t' s _ _ ⟨.bl (g i j),H,I,rfl,q⟩
def zqM(i j:Int):Prop:=0<j/\j<1073741824
def zqW(i j:Int):Prop:=0<=j/\j<=1000000/\i.natAbs<2 ^ 64
def CMul(i j:Int):Prop:=(-(2 ^ 64)<i/\i<2 ^ 64)\/(-(2 ^ 64)<j/\j<2 ^ 64)
theorem CMul.ok{i j:Int}(h:CMul i j):IntMulOk i j:=by
 rcases h with ⟨h1,h2⟩ | ⟨h1,h2⟩
 · exact .of_left (intBits_le_64 h1 h2)
 · exact .of_right (intBits_le_64 h1 h2)
theorem op_add:OpR X (binaryOp .Add) (rI0 fun i j=>.int (i+j)):=zrR fun _ _ _ _ _ _ _ q=>add_int q
theorem zdu:OpR X (binaryOp .Mult) (rI CMul fun i j=>.int (i * j)):=opI fun _ _ _ _ _ _ _ hc q=>mul_int q hc.ok
theorem zjL:OpR X (binaryOp .FloorDiv) (rI zqM fun i j=>.int (i / j)):=opI fun i j _ _ _ _ _ hc q=>by
 have h1:(0:Int)<j:=hc.1
 have h2:j<1073741824:=hc.2
 exact floordiv_int (by omega) (by rw[Int.fdiv_eq_ediv_of_nonneg i (by omega)];exact q) (.inl (PyProof.noPylong_small (by omega)))
theorem zc7:OpR X (binaryOp .Mod) (rI (fun _ j=>0<j) fun i j=>.int (i % j)):=opI fun i j _ _ _ _ _ hc q=>by
 have h1:(0:Int)<j:=hc
 exact mod_int' (by omega) (by rw[Int.fmod_eq_emod_of_nonneg i (by omega)];exact q)
theorem zph:OpR X (binaryOp .Pow) (rI zqW fun i j=>.int (i ^ j.toNat)):=opI fun _ _ _ _ _ _ _ hc q=>pow_int_small hc.1 hc.2.1 hc.2.2 q
theorem unI{f:Value->Sem Value}{g:Int->Int}
 (rule:∀ (i:Int) (t:Tok) (s:Shared) (Q:Value->Shared->Prop) (E:Value->Shared->Prop),Q (.int (g i) s.toks) { s with toks:=s.toks+1 }->wpAny (model X.prog X.w) X.A (f (.int i t)) Q E s) :
 UnR X f (rU fun i=>.int (g i)):=by
 intro pins s σ H x v Q I rx h
 obtain⟨i,rfl,q⟩:=h
 obtain⟨t,rfl⟩:=rx
 exact rule i t s _ _ ⟨.int (g i),H,I.tok _,⟨_,rfl⟩,q⟩
theorem zpx:UnR X (unaryOp .USub) (rU fun i=>.int (-i)):=unI fun _ _ _ _ _ q=>neg_int q
end
def zrz:V->V->Bool
 | .non,.non=>true | .non,.int _=>true | .int _,.non=>true | .non,.bl _=>true | .bl _,.non=>true | .non,.str _=>true | .str _,.non=>true
 | .int _,.int _=>true | .bl _,.bl _=>true | .str _,.str _=>true | .byt _,.byt _=>true
 | .int _,.str _=>true | .str _,.int _=>true | .bl _,.str _=>true | .str _,.bl _=>true
 | _,_=>false
def rEq:R2:=fun x y H Q=>zrz x y=true/\Q (.bl (decide (x=y))) H
def rNe:R2:=fun x y H Q=>zrz x y=true/\Q (.bl (!decide (x=y))) H
theorem zi8{i j:Int}:decide (V.int i=V.int j)=(i == j):=by
 rw[Bool.eq_iff_iff]
 simp
theorem zmC{i j:Bool}:decide (V.bl i=V.bl j)=(i == j):=by
 rw[Bool.eq_iff_iff]
 simp
theorem zju{i j:Str}:decide (V.str i=V.str j)=(i == j):=by
 rw[Bool.eq_iff_iff]
 simp
theorem zjQ{i j:Array UInt8}:decide (V.byt i=V.byt j)=(i.toList == j.toList):=by
 rw[Bool.eq_iff_iff]
 cases i
 cases j
 simp
section
variable{X:Cx}{a b c:Expr}{ta tb tc:TE}{pos:Pos}
theorem zaG{pins:List (Addr×Obj)}{σ:St}{H:Hp}{s:Shared}{Q:VK}{k k':Bool}(I:Inv X pins σ H s)(q:Q (.bl k) H)(e:k=k'):EP X pins σ Q (.bool k') s:=by
 subst e
 exact⟨.bl k,H,I,rfl,q⟩
theorem op_eq:OpR X (compareOp .Eq) rEq:=by
 intro pins s σ H x y v u Q I rx ry h
 obtain⟨hs,q⟩:=h
 cases x with
 |non =>
   cases rx
   cases y with
   |non=>cases ry;exact PySem.EqNone.eq_none_none (zaG I q (by simp))
   |bl j=>cases ry;exact PySem.EqNone.eq_none_bool (zaG I q (by simp))
   |int j=>obtain⟨t',rfl⟩:=ry;exact PySem.EqNone.eq_none_int (zaG I q (by simp))
   |str j=>obtain⟨t',rfl⟩:=ry;exact PySem.EqNone.eq_none_str (zaG I q (by simp))
   | _=>exact absurd (show false=true from hs) Bool.false_ne_true
 |bl i =>
   cases rx
   cases y with
   |non=>cases ry;exact PySem.EqNone.eq_bool_none (zaG I q (by simp))
   |bl j=>cases ry;exact eq_bool (zaG I q zmC)
   |str j=>obtain⟨t',rfl⟩:=ry;exact PySem.EqMixed.eq_bool_str (zaG I q (by simp))
   | _=>exact absurd (show false=true from hs) Bool.false_ne_true
 |int i =>
   obtain⟨t,rfl⟩:=rx
   cases y with
   |non=>cases ry;exact PySem.EqNone.eq_int_none (zaG I q (by simp))
   |int j=>obtain⟨t',rfl⟩:=ry;exact eq_int (zaG I q zi8)
   |str j=>obtain⟨t',rfl⟩:=ry;exact PySem.EqMixed.eq_int_str (zaG I q (by simp))
   | _=>exact absurd (show false=true from hs) Bool.false_ne_true
 |str i =>
   obtain⟨t,rfl⟩:=rx
   cases y with
   |non=>cases ry;exact PySem.EqNone.eq_str_none (zaG I q (by simp))
   |bl j=>cases ry;exact PySem.EqMixed.eq_str_bool (zaG I q (by simp))
   |int j=>obtain⟨t',rfl⟩:=ry;exact PySem.EqMixed.eq_str_int (zaG I q (by simp))
   |str j=>obtain⟨t',rfl⟩:=ry;exact eq_str (zaG I q zju)
   | _=>exact absurd (show false=true from hs) Bool.false_ne_true
 |byt i =>
   obtain⟨t,rfl⟩:=rx
   cases y with
   |byt j=>obtain⟨t',rfl⟩:=ry;exact W.eq_bytes (zaG I q zjQ)
   | _=>exact absurd (show false=true from hs) Bool.false_ne_true
 | _=>cases y<;>exact absurd (show false=true from hs) Bool.false_ne_true
theorem zro:OpR X (compareOp .NotEq) rNe:=by
 intro pins s σ H x y v u Q I rx ry h
 obtain⟨hs,q⟩:=h
 cases x with
 |non =>
   cases rx
   cases y with
   |non=>cases ry;exact PySem.EqNone.ne_none_none (zaG I q (by simp))
   |bl j=>cases ry;exact PySem.EqNone.ne_none_bool (zaG I q (by simp))
   |int j=>obtain⟨t',rfl⟩:=ry;exact PySem.EqNone.ne_none_int (zaG I q (by simp))
   |str j=>obtain⟨t',rfl⟩:=ry;exact PySem.EqNone.ne_none_str (zaG I q (by simp))
   | _=>exact absurd (show false=true from hs) Bool.false_ne_true
 |bl i =>
   cases rx
   cases y with
   |non=>cases ry;exact PySem.EqNone.ne_bool_none (zaG I q (by simp))
   |bl j=>cases ry;exact ne_bool (zaG I q (congrArg not zmC))
   |str j=>obtain⟨t',rfl⟩:=ry;exact PySem.EqMixed.ne_bool_str (zaG I q (by simp))
   | _=>exact absurd (show false=true from hs) Bool.false_ne_true
 |int i =>
   obtain⟨t,rfl⟩:=rx
   cases y with
   |non=>cases ry;exact PySem.EqNone.ne_int_none (zaG I q (by simp))
   |int j=>obtain⟨t',rfl⟩:=ry;exact ne_int (zaG I q (congrArg not zi8))
   |str j=>obtain⟨t',rfl⟩:=ry;exact PySem.EqMixed.ne_int_str (zaG I q (by simp))
   | _=>exact absurd (show false=true from hs) Bool.false_ne_true
 |str i =>
   obtain⟨t,rfl⟩:=rx
   cases y with
   |non=>cases ry;exact PySem.EqNone.ne_str_none (zaG I q (by simp))
   |bl j=>cases ry;exact PySem.EqMixed.ne_str_bool (zaG I q (by simp))
   |int j=>obtain⟨t',rfl⟩:=ry;exact PySem.EqMixed.ne_str_int (zaG I q (by simp))
   |str j=>obtain⟨t',rfl⟩:=ry;exact ne_str (zaG I q (congrArg not zju))
   | _=>exact absurd (show false=true from hs) Bool.false_ne_true
 |byt i =>
   obtain⟨t,rfl⟩:=rx
   cases y with
   |byt j=>obtain⟨t',rfl⟩:=ry;exact W.ne_bytes (zaG I q (congrArg not zjQ))
   | _=>exact absurd (show false=true from hs) Bool.false_ne_true
 | _=>cases y<;>exact absurd (show false=true from hs) Bool.false_ne_true
theorem zmy:OpR X (compareOp .Lt) (rI0 fun i j=>.bl (decide (i<j))):=zpf fun _ _ _ _ _ _ _ q=>lt_int q
theorem zcq:OpR X (compareOp .LtE) (rI0 fun i j=>.bl (decide (i<=j))):=zpf fun _ _ _ _ _ _ _ q=>le_int q
theorem zow:OpR X (compareOp .Gt) (rI0 fun i j=>.bl (decide (j<i))):=zpf fun _ _ _ _ _ _ _ q=>gt_int q
theorem zlf:OpR X (compareOp .Is) (fun x y H Q=>y = .non/\Q (.bl (decide (x = .non))) H):=by
 intro pins s σ H x y v u Q I rx ry h
 obtain⟨rfl,q⟩:=h
 cases ry
 refine is_none_gen (zaG I q ?_)
 cases x<;>first
  | (cases rx;rfl)
  | (obtain⟨t,rfl⟩:=rx;rfl)
theorem OpR.or{f:Value->Value->Sem Value}{r r':R2}(h:OpR X f r)(h':OpR X f r'):OpR X f (fun x y H Q=>r x y H Q\/r' x y H Q):=by
 intro pins s σ H x y v u Q I rx ry q
 rcases q with q | q
 · exact h pins s σ H x y v u Q I rx ry q
 · exact h' pins s σ H x y v u Q I rx ry q
theorem zaH(b:Expr){op:CmpOp}(h:op ≠ .In:=by decide)(h2:op ≠ .NotIn:=by decide):behindInMarks op b=false:=by
 have e1:(op == CmpOp.In)=false:=by cases op<;>first | rfl | exact absurd rfl h
 have e2:(op == CmpOp.NotIn)=false:=by cases op<;>first | rfl | exact absurd rfl h2
 cases b<;>simp[behindInMarks,e1,e2]
theorem zn3{op:CmpOp}{r:R2}(ho:OpR X (compareOp op) r)(ha:PE X a ta)(hb:PE X b tb)(hm:behindInMarks op b=false):PE X (.Compare a [op] [b] pos) (tOp r ta tb):=by
 intro pins s σ H Q I h
 exact wpAny_Compare1 (zo5 ha hb I h fun v u s2 x y H2 I2 rx ry q=>ho pins s2 σ H2 x y v u Q I2 rx ry q) hm
def zoB(t:TE):TT:=fun σ H Q=>t σ H fun x H'=>∃ k,x = .bl k/\Q k H'
theorem zji{op:CmpOp}{r:R2}(ho:OpR X (compareOp op) r)(ha:PE X a ta)(hb:PE X b tb)(hm:behindInMarks op b=false):PT X (.Compare a [op] [b] pos) (zoB (tOp r ta tb)):=by
 intro pins s σ H Q I h
 refine wpAny_isTrue_Compare1 (thn (ha pins s σ H _ I h) fun v s1 ⟨x,H1,I1,r1,q1⟩=>thn (hb pins s1 σ H1 _ I1 q1) fun u s2 ⟨y,H2,I2,r2,q2⟩ =>
  thn (ho pins s2 σ H2 x y v u _ I2 r1 r2 q2) fun c s3 ⟨z,H3,I3,r3,k,e,q3⟩=>?_) hm
 subst e
 cases r3
 exact wpAny_truthy_bool ⟨H3,I3,q3⟩
def zlM(r r':R2)(ta tb tc:TE):TE:=fun σ H Q=>ta σ H fun x H1=>tb σ H1 fun y H2=>r x y H2 fun z H3=>∃ k,z = .bl k /\
 (if k=true then tc σ H3 fun w' H4=>r' y w' H4 Q else Q (.bl false) H3)
theorem zlC{op op':CmpOp}{r r':R2}(ho:OpR X (compareOp op) r)(ho':OpR X (compareOp op') r')(ha:PE X a ta)(hb:PE X b tb)(hc:PE X c tc)
 (hm:lastMarks [op,op'] [b,c]=false:=by with_unfolding_all rfl):PE X (.Compare a [op,op'] [b,c] pos) (zlM r r' ta tb tc):=by
 intro pins s σ H Q I h
 refine Compare_chain (thn (ha pins s σ H _ I h) fun v s1 ⟨x,H1,I1,r1,q1⟩=>chain_link (thn (hb pins s1 σ H1 _ I1 q1) fun u s2 ⟨y,H2,I2,r2,q2⟩ =>
  thn (ho pins s2 σ H2 x y v u _ I2 r1 r2 q2) fun d s3 ⟨z,H3,I3,r3,k,e,q3⟩=>?_)) hm
 subst e
 cases r3
 refine wpAny_truthy_bool ?_
 cases k with
 |false=>exact ite_ff ⟨.bl false,H3,I3,rfl,q3⟩
 |true=>exact ite_tt (chain_last (thn (hc pins s3 σ H3 _ I3 q3) fun w' s4 ⟨z',H4,I4,r4,q4⟩=>ho' pins s4 σ H4 y z' u w' Q I4 r2 r4 q4))
theorem zd4:(sizeLine:Nat)<2 ^ 63:=by rw[sizeLine_eq];decide
theorem zii:OpR X (binaryOp .Add) (fun x y H Q=>∃ i j,x = .str i/\y = .str j/\i.length+j.length<=sizeLine/\Q (.str (i++j)) H):=by
 intro pins s σ H x y v u Q I rx ry h
 obtain⟨i,j,rfl,rfl,hz,q⟩:=h
 obtain⟨t,rfl⟩:=rx
 obtain⟨t',rfl⟩:=ry
 exact add_str (fun t' tk=>⟨.str (i++j),H,I.tok _,⟨_,rfl⟩,q⟩) hz
theorem vals1{x:V}{us:List Value}(r:Vals [x] us):∃ u,us=[u]/\RelV x u:=by
 cases r with
 |cons r1 r2=>cases r2;exact⟨_,rfl,r1⟩
theorem vals2{x y:V}{us:List Value}(r:Vals [x,y] us):∃ u w',us=[u,w']/\RelV x u/\RelV y w':=by
 cases r with
 |cons r1 r2 =>
   cases r2 with
   |cons r3 r4=>cases r4;exact⟨_,_,rfl,r1,r3⟩
theorem zkS(hc:X.calm=true):CallR X (.builtin "max") (fun xs H Q=>∃ i j,xs=[.int i,.int j]/\Q (.int (if j > i then j else i)) H):=by
 intro pins s σ H xs us Q I r h
 obtain⟨i,j,rfl,q⟩:=h
 obtain⟨u,w',rfl,⟨t,rfl⟩,⟨t',rfl⟩⟩:=vals2 r
 refine max_two_ints (I.ok.hd hc) fun h' tk k=>⟨_,H,I.kept k,?_,q⟩
 by_cases hj:j > i
 · rw[if_pos hj,if_pos hj];exact⟨_,rfl⟩
 · rw[if_neg hj,if_neg hj];exact⟨_,rfl⟩
theorem zj0(hc:X.calm=true):CallR X (.builtin "min") (fun xs H Q=>∃ i j,xs=[.int i,.int j]/\Q (.int (if j<i then j else i)) H):=by
 intro pins s σ H xs us Q I r h
 obtain⟨i,j,rfl,q⟩:=h
 obtain⟨u,w',rfl,⟨t,rfl⟩,⟨t',rfl⟩⟩:=vals2 r
 refine min_two_ints (I.ok.hd hc) fun h' tk k=>⟨_,H,I.kept k,?_,q⟩
 by_cases hj:j<i
 · rw[if_pos hj,if_pos hj];exact⟨_,rfl⟩
 · rw[if_neg hj,if_neg hj];exact⟨_,rfl⟩
end
structure ObjM(h:Heap)(x dx C:Addr)(mA:Str->Option Value):Prop where
 obj:h.get? x=some (W.instObj C dx)
 ns:h.Ns1 dx mA
 ne:dx≠x
theorem lookIn_ns{h:Heap}{dx:Addr}{mA:Str->Option Value}(n:h.Ns1 dx mA):∃ od,h.get? dx=some od/\∀ name,W.lookIn name od=some (mA name):=by
 obtain⟨o,es,ep,ho,hd,hk,_,hm⟩:=n
 refine⟨o,ho,fun name=>?_⟩
 have e:=hm name
 unfold nsFind findBy at e
 rw[<- Array.find?_toList] at e
 unfold W.lookIn
 rw[hd]
 dsimp only
 split
 · rename_i y q
   rw[q] at e
   exact congrArg some e
 · rename_i q
   rw[q] at e
   have a:es.toList.any (·.refKey)=false:=by
    rw[List.any_eq_false]
    intro y hy
    obtain⟨z,t,hkey⟩:=hk y (Array.mem_toList_iff.mp hy)
    simp[DictEntry.refKey,hkey]
   have a' : ¬ es.toList.any (·.refKey)=true:=by rw[a];exact Bool.false_ne_true
   rw[if_neg a']
   exact congrArg some e
theorem ObjM.look{h:Heap}{x dx C:Addr}{mA:Str->Option Value}(I:ObjM h x dx C mA):∃ od,W.InstAt h x (W.instObj C dx) C (some od)/\∀ name,W.lookIn name od=some (mA name) :=
 let ⟨od,ho,hl⟩:=lookIn_ns I.ns
 ⟨od,⟨I.obj,rfl,rfl,ho⟩,hl⟩
section
variable{prog:Program}{w:World}{A:Around}{E:Value->Shared->Prop}{s:Shared}{K:W.Frag}{x dx C f:Addr}{mA:Str->Option Value}{name:Str}{v:Value}
theorem znC{expr:Bool}{Q:Value->Shared->Prop}(X:K.In s.heap)(I:ObjM s.heap x dx C mA)(hg:W.plainGet K C name=true)(hh:W.hasDictIn K C=true)
 (ha:W.findIn K (.ref C) name=some none) (hv:mA name=some v) (hv':W.handedIn v=true) (h:Q v { s with toks:=s.toks+1 }) :
 wpAny (model prog w) A (getAttr (.ref x) name expr) Q E s:=by
 obtain⟨od,J,hl⟩:=I.look
 exact W.get_value X J (W.plainGet_of hg).1 (W.findObj_own hh ha rfl (by rw[hl,hv])) hv' h
theorem zkY{pl:Sem Bool}{Q:Value×List Value->Shared->Prop}(X:K.In s.heap)(I:ObjM s.heap x dx C mA)(hg:W.plainGet K C name=true)
 (hf:W.findIn K (.ref C) name=some (some (.ref f))) (ht:W.isFn K (.ref f)=true) (hv:mA name=none) (h:Q (.ref f,[.ref x]) s) :
 wpAny (model prog w) A (getMethod (.ref x) name pl) Q E s:=by
 obtain⟨od,J,hl⟩:=I.look
 exact W.method_fn X J (W.plainGet_of hg).1 (W.plainGet_of hg).2 hf (beq_iff_eq.mp ht) (by show(W.lookIn name od).map (·.isSome)=some false;rw[hl,hv];rfl) h
theorem zn9{ns:List Str}{Q:Unit->Shared->Prop}(X:K.In s.heap)(I:ObjM s.heap x dx C mA)
 (hs:W.findIn K (.ref C) "__setattr__" = some (some (.builtin "object.__setattr__"))) (hp:W.plainOver K C=true) (ht:W.takerIn K C name=some none) (hh:W.hasDictIn K C=true)
 (hw:PySem.Within mA ns) (hsz:ns.length<=sizeLine)
 (h:∀ h',ObjM h' x dx C (fun y=>if y=name then some v else mA y)->Heap.SameBut dx s.heap h'->Q () { s with heap:=h',toks:=s.toks+2 }) :
 wpAny (model prog w) A (setAttr (.ref x) name v) Q E s:=by
 obtain⟨od,J,hl⟩:=I.look
 refine W.set_plain X J hs (W.osa_open (s:={ s with toks:=s.toks+1 }) (r:=none) X J hp ht fun b=>?_)
 obtain⟨cd,hc,hd'⟩:=W.any_some hh
 have hx:s.heap.get? x=some ⟨.ref C,some dx,.plain, #[]⟩:=I.obj
 refine wpAny_bind (wpAny_pure (wpAny_bind (wpAny_bind (wpAny_loadPart hx (wpAny_bind (W.Looks.here (s:={ s with toks:=s.toks+1 }) (W.looks_clsIn X hc) ?_))))))
 rw[hd']
 refine wpAny_pure (a:=some dx) (wpAny_bind (wpAny_pure (wpAny_bind ?_)))
 refine wpAny_nsSet1 (s:={ s with toks:=s.toks+1 }) I.ns fun h' hn2 hs2=>?_
 obtain⟨oD,esD,epD,hoD,hdD,hcD⟩:=hn2.count (PySem.Within.cons name v hw)
 refine wpAny_bind (wpAny_lookBehind hoD (by rw[hdD];exact pastItsLine_dict (Nat.le_trans hcD (by rw[List.length_cons];omega))) ?_)
 exact wpAny_pure (h _ ⟨(hs2.2 _ (Ne.symm I.ne)).trans I.obj,hn2,I.ne⟩ hs2)
theorem zlE{R:Result->Shared->Prop}{vs:List Value}{kw:List (Str×Value)}(X:K.In s.heap)(hm:W.makesIn K C=true)
 (hi:W.findIn K (.ref C) "__init__" = some (some (.ref f))) (hf:W.typeIn K (.ref f)=some (.type "function"))
 (h:codeAny (model prog w) (A.under (.builtin "type.__call__" ⟨.ref C::vs,kw⟩)) (.call (.ref f) ⟨.ref (s.heap.objs.size+1)::vs,kw⟩) (W.InitBack (s.heap.objs.size+1) R)
  { s with heap:=(s.heap.push W.emptyDict).push (W.instObj C s.heap.objs.size) }) :
 codeAny (model prog w) A (.call (.ref C) ⟨vs,kw⟩) R s:=by
 obtain⟨hh,g,d,t,os⟩:=s
 exact W.make_core (W.makes_of X hm) (W.looks_findIn X hi) (fun self=>W.bind_fn X self hf) (.inl rfl) h
end
def zcw(f:Str)(v:V):List (Str×V)->List (Str×V)
 | []=>[(f,v)]
 | (g,x)::r=>if g=f then (g,v)::r else (g,x)::zcw f v r
theorem zc9(f g:Str)(v:V):∀ fs:List (Str×V),(zcw f v fs).lookup g=if g=f then some v else fs.lookup g
 | []=>by
   show List.lookup g [(f,v)]=_
   by_cases h:g=f
   · have hb:(g == f)=true:=beq_iff_eq.mpr h
     simp only[List.lookup,hb,if_pos h]
   · have hb:(g == f)=false:=beq_eq_false_iff_ne.mpr h
     simp only[List.lookup,hb,if_neg h]
 | (k,x)::r=>by
   have ih:=zc9 f g v r
   rw[show zcw f v ((k,x)::r)=(if k=f then (k,v)::r else (k,x)::zcw f v r) from rfl]
   by_cases hk:k=f
   · rw[if_pos hk]
     by_cases h:g=k
     · have hb:(g == k)=true:=beq_iff_eq.mpr h
       simp only[List.lookup,hb,if_pos (h.trans hk)]
     · have hb:(g == k)=false:=beq_eq_false_iff_ne.mpr h
       simp only[List.lookup,hb,if_neg (fun e:g=f=>h (e.trans hk.symm))]
   · rw[if_neg hk]
     by_cases h:g=k
     · have hb:(g == k)=true:=beq_iff_eq.mpr h
       simp only[List.lookup,hb,if_neg (fun e:g=f=>hk (h.symm.trans e))]
     · have hb:(g == k)=false:=beq_eq_false_iff_ne.mpr h
       simp only[List.lookup,hb]
       exact ih
theorem zcA(f:Str)(v:V):∀ fs:List (Str×V),f∈(zcw f v fs).map (·.1)/\∀ g,g∈fs.map (·.1)->g∈(zcw f v fs).map (·.1)
 | []=>⟨by simp[zcw],fun g h=>by simp at h⟩
 | (k,x)::r=>by
   obtain⟨i1,i2⟩:=zcA f v r
   rw[show zcw f v ((k,x)::r)=(if k=f then (k,v)::r else (k,x)::zcw f v r) from rfl]
   by_cases hk:k=f
   · rw[if_pos hk]
     subst hk
     exact⟨by simp,fun g h=>by simpa using h⟩
   · rw[if_neg hk]
     refine⟨?_,fun g h=>?_⟩
     · rw[List.map_cons]
       exact List.mem_cons_of_mem _ i1
     · rw[List.map_cons] at h ⊢
       rcases List.mem_cons.mp h with e | e
       · exact List.mem_cons.mpr (.inl e)
       · exact List.mem_cons_of_mem _ (i2 g e)
theorem zen(f:Str)(v:V):∀ fs:List (Str×V),(zcw f v fs).length<=fs.length+1
 | []=>by simp[zcw]
 | (k,x)::r=>by
   have ih:=zen f v r
   rw[show zcw f v ((k,x)::r)=(if k=f then (k,v)::r else (k,x)::zcw f v r) from rfl]
   by_cases hk:k=f
   · rw[if_pos hk,List.length_cons,List.length_cons];omega
   · rw[if_neg hk,List.length_cons,List.length_cons];omega
theorem RelO.some_of{v:V}{o:Option Value}(r:RelO (some v) o):∃ u,o=some u/\RelV v u:=by
 cases o with
 |none=>exact(show False from r).elim
 |some u=>exact⟨u,rfl,r⟩
theorem RelO.none_of{o:Option Value}(r:RelO none o):o=none:=by
 cases o with
 |none=>rfl
 |some u=>exact(show False from r).elim
theorem zga{v:V}{u:Value}(r:RelV v u):W.handedIn u=true:=by
 cases v with
 |non=>cases (show u=Value.none from r);rfl
 |bl b=>cases (show u=Value.bool b from r);rfl
 |int i=>obtain⟨t,e⟩:=(show ∃ t,u=Value.int i t from r);cases e;rfl
 |str x=>obtain⟨t,e⟩:=(show ∃ t,u=Value.str x t from r);cases e;rfl
 |byt b=>obtain⟨t,e⟩:=(show ∃ t,u=Value.bytes b t from r);cases e;rfl
 |flt b=>obtain⟨t,e⟩:=(show ∃ t,u=Value.float b t from r);cases e;rfl
 |ref a=>cases (show u=Value.ref a from r);rfl
 |ty n=>cases (show u=Value.type n from r);rfl
section
variable{P:Program}{w:World}{H H':Hp}{h h':Heap}{a C dx:Addr}{fs fs':List (Str×V)}
theorem zdM(hok:HOk P w H h)(e:H a=some (.ins C dx fs)):∃ mA,ObjM h a dx C mA/\(∀ f,RelO (fs.lookup f) (mA f))/\PySem.Within mA (fs.map (·.1))/\fs.length<=1000/\H dx=some (.own a):=by
 obtain⟨d,z,ne,ob,mA,n,r,q⟩:=(show ObjOk P w H h a (.ins C dx fs) from hok a _ e)
 exact⟨mA,⟨ob,n,ne⟩,r,q,z,d⟩
end
structure Cls(K:W.Frag)(C:Addr):Prop where
 pg:W.plainGet K C Str.empty=true
 hd:W.hasDictIn K C=true
 po:W.plainOver K C=true
 sa:W.findIn K (.ref C) "__setattr__" = some (some (.builtin "object.__setattr__"))
theorem Cls.get{K:W.Frag}{C:Addr}(c:Cls K C)(f:Str):W.plainGet K C f=true:=c.pg
def NoAttr(K:W.Frag)(C:Addr)(f:Str):Prop:=W.findIn K (.ref C) f=some none
theorem NoAttr.taker{K:W.Frag}{C:Addr}{f:Str}(n:NoAttr K C f):W.takerIn K C f=some none:=by
 unfold W.takerIn
 rw[show W.findIn K (.ref C) f=some none from n]
 rfl
structure Meth(K:W.Frag)(C:Addr)(m:Str)(f:Addr):Prop where
 at_:W.findIn K (.ref C) m=some (some (.ref f))
 fn:W.isFn K (.ref f)=true
 kp:W.keepIn K (.ref f)=true
section
variable{X:Cx}{pins:List (Addr×Obj)}{σ:St}{H:Hp}{s:Shared}{a C dx:Addr}{fs:List (Str×V)}{f:Str}{v:V}{A:Around}{E:Value->Shared->Prop}
theorem zie{b:Bool}{Q:Value->Shared->Prop}(I:Inv X pins σ H s)(e:H a=some (.ins C dx fs))(c:Cls X.K C)(n:NoAttr X.K C f)(l:fs.lookup f=some v)
 (h:∀ u s',Inv X pins σ H s'->RelV v u->Q u s'):wpAny (model X.prog X.w) A (getAttr (.ref a) f b) Q E s:=by
 obtain⟨mA,O,r,_,_,_⟩:=zdM I.hok e
 obtain⟨u,hu,ru⟩:=RelO.some_of (v:=v) (o:=mA f) (by rw[<- l];exact r f)
 exact znC I.kIn O (c.get f) c.hd n hu (zga ru) (h u _ (I.tok _) ru)
theorem ziz{m:Str}{g:Addr}{pl:Sem Bool}{Q:Value×List Value->Shared->Prop}(I:Inv X pins σ H s)(e:H a=some (.ins C dx fs))(c:Cls X.K C)(k:Meth X.K C m g)(l:fs.lookup m=none)
 (h:Q (.ref g,[.ref a]) s):wpAny (model X.prog X.w) A (getMethod (.ref a) m pl) Q E s:=by
 obtain⟨mA,O,r,_,_,_⟩:=zdM I.hok e
 have hn:mA m=none:=RelO.none_of (by rw[<- l];exact r m)
 exact zkY I.kIn O (c.get m) k.at_ k.fn hn h
theorem ziN{y:V}{u:Value}{Q:Unit->Shared->Prop}(I:Inv X pins σ H s)(e:H a=some (.ins C dx fs))(c:Cls X.K C)(n:NoAttr X.K C f)(hl:fs.length<1000)(ry:RelV y u)
 (h:∀ s',Inv X pins σ (upd H a (.ins C dx (zcw f y fs))) s'->Q () s'):wpAny (model X.prog X.w) A (setAttr (.ref a) f u) Q E s:=by
 obtain⟨mA,O,r,wi,_,ho⟩:=zdM I.hok e
 have hz:(fs.map (·.1)).length<=sizeLine:=by rw[List.length_map,sizeLine_eq];omega
 refine zn9 I.kIn O c.sa c.po n.taker c.hd wi hz fun h' O' sb=>h _ ?_
 have hd:∃ o,h'.get? dx=some o:=let ⟨o,_,_,e',_⟩:=O'.ns; ⟨o,e'⟩
 refine I.write (x:=a) (e:=dx) (by rw[e];exact True.intro) (.inr ho) (fun b q hb z=>(sb.2 b hb).trans z) hd ?_
 refine⟨by rw[zaf O.ne];exact ho,?_,O.ne,O'.obj,_,O'.ns,fun g=>?_,fun g hg=>?_⟩
 · have:=zen f y fs;omega
 · show RelO ((zcw f y fs).lookup g) (if g=f then some u else mA g)
   rw[zc9]
   by_cases q:g=f
   · rw[if_pos q,if_pos q];exact ry
   · rw[if_neg q,if_neg q];exact r g
 · by_cases q:g=f
   · rw[q];exact(zcA f y fs).1
   · refine(zcA f y fs).2 g (wi g fun z=>hg ?_)
     show(if g=f then some u else mA g)=none
     rw[if_neg q];exact z
theorem Inv.made(I:Inv X pins σ H s):Inv X pins σ (upd (upd H s.heap.objs.size (.own (s.heap.objs.size+1))) (s.heap.objs.size+1) (.ins C s.heap.objs.size []))
 { s with heap:=(s.heap.push W.emptyDict).push (W.instObj C s.heap.objs.size) }:=by
 have e1:(s.heap.push W.emptyDict).get? s.heap.objs.size=some W.emptyDict:=Heap.get?_push_size s.heap rfl
 have e2:((s.heap.push W.emptyDict).push (W.instObj C s.heap.objs.size)).get? (s.heap.objs.size+1)=some (W.instObj C s.heap.objs.size):=by
  have:=Heap.get?_push_size (s.heap.push W.emptyDict) (o:=W.instObj C s.heap.objs.size) rfl
  rwa[Heap.size_push] at this
 have e3:(s.heap.push W.emptyDict).Ns s.heap.objs.size (fun _=>none):=⟨W.emptyDict, #[],_,e1,rfl,(fun e he=>absurd he (by simp)),fun _=>rfl⟩
 have I1:=I.laid (a:=s.heap.objs.size) (o:=.own (s.heap.objs.size+1)) (h':=s.heap.push W.emptyDict) (t':=s.toks) (fun b u q=>Heap.get?_push_of_some _ q) (Nat.le_refl _) ⟨_,e1⟩
 refine I1.laid (a:=s.heap.objs.size+1) (o:=.ins C s.heap.objs.size []) (t':=s.toks) (fun b u q=>Heap.get?_push_of_some _ q) (Nat.le_of_eq (Heap.size_push _ _)) ?_
 have ne:s.heap.objs.size≠s.heap.objs.size+1:=Nat.ne_of_lt (Nat.lt_succ_self _)
 refine⟨by rw[zaf ne,zal],Nat.zero_le _,ne,e2,fun _=>none,(Heap.Ns1.of_empty e3).at fun o q=>Heap.get?_push_of_some _ q,fun _=>True.intro,fun y hy=>absurd rfl hy⟩
theorem zi5{prog:Program}{w:World}{env:Env}{e:Expr}{f:Str}{pos:Pos}{s:Shared}{Q:Value->Shared->Prop}(hb:attributeBase e f env (eval e env)=eval e env)
 (h:wpAny (model prog w) A (eval e env) (fun o s₁=>wpAny (model prog w) A (getAttr o f true) Q E s₁) E s):wpAny (model prog w) A (eval (.Attribute e f pos) env) Q E s :=
 Attribute_any_ h (by rw[arm_eval_Attribute,hb])
end
def zr1(K:W.Frag)(ta:TE)(f:Str):TE:=fun σ H Q=>ta σ H fun x H1=>∃ a C dx fs v,x = .ref a/\H1 a=some (.ins C dx fs)/\Cls K C/\NoAttr K C f/\fs.lookup f=some v/\Q v H1
def zrS(K:W.Frag)(ta tv:TE)(f:Str):TS:=fun D σ H=>tv σ H fun y H1=>ta σ H1 fun x H2=>∃ a C dx fs,x = .ref a/\H2 a=some (.ins C dx fs)/\Cls K C/\NoAttr K C f/\fs.length<1000 /\
 D.nx σ (upd H2 a (.ins C dx (zcw f y fs)))
section
variable{X:Cx}{o e value:Expr}{f:Str}{pos pos' tpos:Pos}{ta tv:TE}
theorem zqb(he:PE X e ta)(hb:attributeBase e f X.env (eval e X.env)=eval e X.env):PE X (.Attribute e f pos) (zr1 X.K ta f):=by
 intro pins s σ H Q I h
 refine zi5 hb (thn (he pins s σ H _ I h) fun u s1 ⟨x,H1,I1,rx,a,C,dx,fs,v,ex,ea,c,n,l,q⟩=>?_)
 subst ex
 obtain rfl:u=Value.ref a:=rx
 exact zie I1 ea c n l fun u' s2 I2 ru=>⟨v,H1,I2,ru,q⟩
theorem zpg(ha:PE X o ta)(hv:PE X value tv)(hs:swapsWith value (some (.Attribute o f pos')) pos.line X.env=pure false):PS X (.Assign [.Attribute o f pos'] value pos) (zrS X.K ta tv f):=by
 intro pins s σ H D I h
 refine plainObj_wpAny_Assign_Attribute (thn (hv pins s σ H _ I h) fun u s1 ⟨y,H1,I1,ry,q⟩=>thn (ha pins s1 σ H1 _ I1 q) fun ov s2 ⟨x,H2,I2,rx,a,C,dx,fs,ex,ea,c,n,l,q2⟩=>?_) hs
 subst ex
 obtain rfl:ov=Value.ref a:=rx
 exact ziN I2 ea c n l ry fun s3 I3=>⟨σ,_,I3,q2⟩
end
section
variable{X:Cx}{pins:List (Addr×Obj)}{σ:St}{H:Hp}{s:Shared}{A:Around}{E:Value->Shared->Prop}{Q:Value->Shared->Prop}{c:Value}{b:Bool}
inductive TyOf(K:W.Frag)(H:Hp):V->Value->Prop where
 |non:TyOf K H .non (.type "NoneType")
 |bl (x:Bool):TyOf K H (.bl x) (.type "bool")
 |int (i:Int):TyOf K H (.int i) (.type "int")
 |str (x:Str):TyOf K H (.str x) (.type "str")
 |flt (x:UInt64):TyOf K H (.flt x) (.type "float")
 |lst {a:Addr} {xs:List V} (e:H a=some (.lst xs)):TyOf K H (.ref a) (.type "list")
 |frz {a:Addr} {o:Obj} {xs:List V} (e:H a=some (.frz o (.lst xs))):TyOf K H (.ref a) (.type "list")
 |tup {a:Addr} {xs:List V} (e:H a=some (.tup xs)):TyOf K H (.ref a) (.type "tuple")
 |dK {a:Addr} {kvs:List (Key×V)} (e:H a=some (.dK kvs)):TyOf K H (.ref a) (.type "dict")
 |dT {a:Addr} {kvs:List (List Key×V)} (e:H a=some (.dT kvs)):TyOf K H (.ref a) (.type "dict")
 |ins {a C dx:Addr} {fs:List (Str×V)} (e:H a=some (.ins C dx fs)) (cl:Cls K C) (ha:W.findIn K (.ref C) "__class__" = some (some (.builtin "object.__class__")))
  (hn:W.specialIn K (.builtin "object.__class__") "__get__" = some (some (.builtin "getset_descriptor.__get__"))) (htk:W.takesIn K (.builtin "object.__class__")=some true)
  (hm:W.mroIn K C (.type "object")=some true):TyOf K H (.ref a) (.ref C)
theorem zkA{x:V}{u t:Value}(I:Inv X pins σ H s)(rx:RelV x u)(ty:TyOf X.K H x t)(e:W.kitOne X.K t c=some b)(h:∀ tk,Q (.bool b) { s with toks:=tk }) :
 wpAny (model X.prog X.w) A (call (.builtin "isinstance") [u,c]) Q E s:=by
 cases ty with
 |non=>cases (show u=Value.none from rx);exact W.kia_one W.kitx_none I.kIn True.intro e (fun z=>nomatch z) h
 |bl y=>cases (show u=Value.bool y from rx);exact W.kia_one W.kitx_bool I.kIn True.intro e (fun z=>nomatch z) h
 |int i=>obtain⟨t,q⟩:=(show ∃ t,u=Value.int i t from rx);cases q;exact W.kia_one W.kitx_int I.kIn True.intro e (fun z=>nomatch z) h
 |str y=>obtain⟨t,q⟩:=(show ∃ t,u=Value.str y t from rx);cases q;exact W.kia_one W.kitx_str I.kIn True.intro e (fun z=>nomatch z) h
 |flt y=>obtain⟨t,q⟩:=(show ∃ t,u=Value.float y t from rx);cases q;exact W.kia_one W.kitx_float I.kIn True.intro e (fun z=>nomatch z) h
 | @lst a xs ea =>
   cases (show u=Value.ref a from rx)
   obtain⟨_,_,n,_,h1⟩:=(show ObjOk X.prog X.w H s.heap a (.lst xs) from I.hok a _ ea)
   exact W.kia_one W.kitx_list I.kIn ⟨_,h1,rfl⟩ e (fun z=>nomatch z) h
 | @frz a ob xs ea =>
   cases (show u=Value.ref a from rx)
   obtain⟨_,_,_,n,_,h1⟩:=(show ObjOk X.prog X.w H s.heap a (.frz ob (.lst xs)) from I.hok a _ ea)
   exact W.kia_one W.kitx_list I.kIn ⟨_,h1,rfl⟩ e (fun z=>nomatch z) h
 | @tup a xs ea =>
   cases (show u=Value.ref a from rx)
   obtain⟨_,_,_,p⟩:=(show ObjOk X.prog X.w H s.heap a (.tup xs) from I.hok a _ ea)
   obtain⟨o,h1,h2,_⟩:=p
   exact W.kia_one W.kitx_tuple I.kIn ⟨o,h1,h2⟩ e (fun z=>nomatch z) h
 | @dK a kvs ea =>
   cases (show u=Value.ref a from rx)
   obtain⟨_,_,vs,_,p⟩:=(show ObjOk X.prog X.w H s.heap a (.dK kvs) from I.hok a _ ea)
   obtain⟨o,es,ep,h1,h2,_⟩:=p
   exact W.kia_one W.kitx_dict I.kIn ⟨o,h1,h2.1⟩ e (fun z=>nomatch z) h
 | @dT a kvs ea =>
   cases (show u=Value.ref a from rx)
   obtain⟨_,_,xs,_,o,es,ep,h1,h2,_⟩:=(show ObjOk X.prog X.w H s.heap a (.dT kvs) from I.hok a _ ea)
   exact W.kia_one W.kitx_dict I.kIn ⟨o,h1,h2.1⟩ e (fun z=>nomatch z) h
 | @ins a C dx fs ea cl ha hn htk hm =>
   cases (show u=Value.ref a from rx)
   obtain⟨mA,O,_⟩:=zdM I.hok ea
   obtain⟨od,J,_⟩:=O.look
   exact W.kia_one (W.kitx_own (cl.get _) cl.hd ha hn htk hm) I.kIn J e (fun z=>nomatch z) h
end
structure Room(k:Nat)(A:Around):Prop where
 hd:A.handled=none
 dp:A.depth+3 * k+5<recursionLimit
 un:A.units+16 * k+200<cLine
 gd:A.guards=some []
theorem Room.mono{j k:Nat}{A:Around}(r:Room k A)(h:j<=k):Room j A:=⟨r.hd,by have:=r.dp;omega,by have:=r.un;omega,r.gd⟩
theorem Room.deeper{k:Nat}{A:Around}(r:Room (k+1) A)(env:Env):Room k (A.deeper env) :=
 ⟨r.hd,by have:=r.dp;show A.depth+1+3 * k+5<_;omega,by have:=r.un;show A.units+3+16 * k+200<_;omega,r.gd⟩
theorem ziA{A:Around}{C:Addr}{us:List Value}{kw:List (Str×Value)}:(A.under (.builtin "type.__call__" ⟨.ref C::us,kw⟩)).depth=A.depth+1:=by
 first | rfl | simp[Around.under,Code.weight,Code.isCreation,Code.isGuard,Code.isCaller,Code.frames,Code.isFrame,guardIds]
theorem ziL{A:Around}{C:Addr}{us:List Value}{kw:List (Str×Value)}:(A.under (.builtin "type.__call__" ⟨.ref C::us,kw⟩)).units=A.units+1:=by
 first | rfl | simp[Around.under,Code.cUnits,Code.frames,Code.isFrame]
theorem zhv{A:Around}{C:Addr}{us:List Value}{kw:List (Str×Value)}(h:A.guards=some []):(A.under (.builtin "type.__call__" ⟨.ref C::us,kw⟩)).guards=some []:=by
 show pushGuards (Code.guards (.builtin "type.__call__" ⟨.ref C::us,kw⟩)) A.guards=some []
 rw[h];first | rfl | (simp[Code.guards,Code.isGuard,guardIds,pushGuards])
theorem Room.make{k:Nat}{A:Around}(r:Room (k+1) A)(C:Addr)(us:List Value)(kw:List (Str×Value)):Room k (A.under (.builtin "type.__call__" ⟨.ref C::us,kw⟩)) :=
 ⟨r.hd,by have:=r.dp;rw[ziA];omega,by have:=r.un;rw[ziL];omega,zhv r.gd⟩
theorem Room.depth{k:Nat}{A:Around}(r:Room k A):A.depth<recursionLimit:=by have:=r.dp;omega
theorem Room.units{k:Nat}{A:Around}(r:Room k A):A.units+64<cLine:=by have:=r.un;omega
def zkt:TA:=fun _ H Q=>Q [] H
def zdp(ta:TE)(tr:TA):TA:=fun σ H Q=>ta σ H fun x H1=>tr σ H1 fun xs H2=>Q (x::xs) H2
section
variable{X:Cx}{e:Expr}{es:List Expr}{te:TE}{t:TA}{pos:Pos}
theorem zaK:PA X [] zkt:=fun _ _ _ _ H Q I h=>Calls.spliced_nil ⟨[],H,I,.nil,h⟩
theorem zag(ha:PE X e te)(hr:PA X es t)(hs:starEach (e::es) X.env=(false,eval e X.env)::starEach es X.env:=by rfl):PA X (e::es) (zdp te t):=by
 intro pos pins s σ H Q I h
 rw[hs]
 show wpAny _ _ (spliced ((false,eval e X.env)::backTo pos (starEach es X.env))) _ _ s
 refine Calls.spliced_cons (thn (ha pins s σ H _ I h) fun u s1 ⟨x,H1,I1,r1,q1⟩=>?_)
 exact thn (hr pos pins s1 σ H1 _ I1 q1) fun us s2 ⟨xs,H2,I2,r2,q2⟩=>⟨x::xs,H2,I2,.cons r1 r2,q2⟩
def zrw(t:TA):TE:=fun σ H Q=>t σ H fun xs H1=>xs.length<=sizeLine/\∀ p,H1 p=none->Q (.ref p) (upd H1 p (.tup xs))
def zrM(t:TA):TE:=fun σ H Q=>t σ H fun xs H1=>xs.length<=sizeLine/\∀ p,H1 p=none->Q (.ref p) (upd H1 p (.lst xs))
theorem zlJ{x1}(h:PA X es t):PE X (.Tuple es x1 pos) (zrw t):=by
 intro pins s σ H Q I hq
 refine wpAny_Tuple_spliced (thn (h pos pins s σ H _ I hq) fun us s1 ⟨xs,H1,I1,r,z,q⟩=>⟨by rw[<- r.length];exact z,?_⟩)
 have hf:H1 s1.heap.objs.size=none:=I1.hok.fresh (Nat.le_refl _)
 refine⟨.ref s1.heap.objs.size,upd H1 s1.heap.objs.size (.tup xs),I1.laid (t':=s1.toks) (fun b u e=>Heap.get?_push_of_some _ e) (Nat.le_refl _) ?_,rfl,q _ hf⟩
 exact⟨z,us,r,⟨_,Heap.get?_push_size _ rfl,rfl,_,rfl⟩⟩
theorem ziv(h:PA X es t):PE X (.List es pos) (zrM t):=by
 intro pins s σ H Q I hq
 refine wpAny_List_spliced (thn (h pos pins s σ H _ I hq) fun us s1 ⟨xs,H1,I1,r,z,q⟩=>⟨by rw[<- r.length];exact z,?_⟩)
 have hf:H1 s1.heap.objs.size=none:=I1.hok.fresh (Nat.le_refl _)
 refine⟨.ref s1.heap.objs.size,upd H1 s1.heap.objs.size (.lst xs),I1.laid (t':=s1.toks) (fun b u e=>Heap.get?_push_of_some _ e) (Nat.le_refl _) ?_,rfl,q _ hf⟩
 exact⟨z,us,0,r,Heap.get?_push_size _ rfl⟩
end
abbrev Sp:=List V->Hp->VK->XK->Prop
abbrev CXT:=List Env->Hp->Shared->XK->Value->Shared->Prop
structure Env0(P:Program)(w:World)(K:W.Frag)(mg:Str->Option Value)(base:Heap)(A:Around)(outer:List Env)(s:Shared)(H:Hp):Prop where
 frames:A.frames=some outer
 mod:Mod K mg base
 bs:∀ b o,base.get? b=some o->s.heap.get? b=some o/\H b=none
 bsz:base.objs.size<=s.heap.objs.size
 funs:s.heap.FunFrames base outer
 frf:∀ b∈frs outer,H b=none
 hok:HOk P w H s.heap
 bare:AllBare s.gens
def CE(outer:List Env)(P:Program)(w:World)(H:Hp)(s:Shared)(Q:VK)(u:Value)(s':Shared):Prop :=
 ∃ v H',s'.os=s.os/\AllBare s'.gens/\Un (frs outer) [] H H' s.heap s'.heap/\HOk P w H' s'.heap/\RelV v u/\Q v H'
def CR(CX:CXT)(outer:List Env)(P:Program)(w:World)(H:Hp)(s:Shared)(Q:VK)(E:XK)(r:Result)(s':Shared):Prop :=
 match r with
 | .ok (.ret u)=>CE outer P w H s Q u s'
 | .ok _=>False
 | .error e=>CX outer H s E e s'
structure FnOk(P:Program)(w:World)(K:W.Frag)(mg:Str->Option Value)(base:Heap)(CX:CXT)(k:Nat)(f:Addr)(fd:FuncData)(ps:List Str)(sp:Sp):Prop where
 len:∀ vs H Q E,sp vs H Q E->vs.length=ps.length
 run:∀ (A:Around) (outer:List Env) (s:Shared) (H:Hp) (args:Args) (us:List Value) (vs:List V) (Q:VK) (E:XK),Room k A->Env0 P w K mg base A outer s H->BindsTo s fd args (ps.zip us)->Vals vs us->sp vs H Q E ->
  codeAny (model P w) A (.call (.ref f) args) (CR CX outer P w H s Q E) s
theorem FnOk.imp{P:Program}{w:World}{K:W.Frag}{mg:Str->Option Value}{base:Heap}{CX:CXT}{k:Nat}{f:Addr}{fd:FuncData}{ps:List Str}{sp sp':Sp}(F:FnOk P w K mg base CX k f fd ps sp)
 (h:∀ vs H Q E,sp' vs H Q E->sp vs H Q E):FnOk P w K mg base CX k f fd ps sp' :=
 ⟨fun vs H Q E q=>F.len vs H Q E (h _ _ _ _ q),fun A outer s H args us vs Q E hr he hb hv hs=>F.run A outer s H args us vs Q E hr he hb hv (h _ _ _ _ hs)⟩
theorem Env0.make{P:Program}{w:World}{K:W.Frag}{mg:Str->Option Value}{base:Heap}{A:Around}{outer:List Env}{s:Shared}{H:Hp}(e:Env0 P w K mg base A outer s H)(C:Addr)(us:List Value)(kw:List (Str×Value)) :
 Env0 P w K mg base (A.under (.builtin "type.__call__" ⟨.ref C::us,kw⟩)) outer s H:=⟨by first | exact e.frames | (simpa [Around.under,Code.envs,Code.isFrame,pushEnvs] using e.frames),e.mod,e.bs,e.bsz,e.funs,e.frf,e.hok,e.bare⟩
section
variable{X:Cx}{pins:List (Addr×Obj)}{σ:St}{H:Hp}{s s':Shared}
theorem Inv.env0(I:Inv X pins σ H s):Env0 X.prog X.w X.K X.mg X.base X.A X.stack s H :=
 ⟨I.ok.frames,I.ok.mod,I.bs,Nat.le_trans I.ok.bsz I.sz,I.stack,I.stkFree,I.hok,I.bare⟩
theorem Inv.after{Q:VK}{u:Value}(I:Inv X pins σ H s)(h:CE X.stack X.prog X.w H s Q u s'):EP X pins σ Q u s':=by
 obtain⟨v,H',os,bare,un,hok,r,q⟩:=h
 obtain⟨hh,g,d,t,os'⟩:=s'
 obtain rfl:os'=s.os:=os
 exact⟨v,H',I.call (h':=hh) (g':=g) (d':=d) (t':=t) (ch:=[]) un hok bare (fun b z=>absurd z (by simp)),r,q⟩
end
def zlS(sp:Sp)(dvs:List V)(E:XK)(t:TA):TE:=fun σ H Q=>t σ H fun vs H1=>sp (vs++dvs) H1 Q E
def zrs(C:Addr)(m:Str)(sp:Sp)(dvs:List V)(E:XK)(ta:TE)(t:TA):TE:=fun σ H Q=>ta σ H fun x H1=>∃ a dx fs,x = .ref a/\H1 a=some (.ins C dx fs)/\fs.lookup m=none /\
 t σ H1 fun vs H2=>sp (x::(vs++dvs)) H2 Q E
def Binds(K:W.Frag)(fd:FuncData)(ps:List Str)(ds:List Value):Prop :=
 ∀ (s:Shared) (us:List Value),K.In s.heap->(us++ds).length=ps.length->BindsTo s fd ⟨us,[]⟩ (ps.zip (us++ds))
theorem Binds.all{K:W.Frag}{fd:FuncData}{ps:List Str}(h:∀ us:List Value,us.length=ps.length->bindArgs fd ⟨us,[]⟩=pure (ps.zip us)):Binds K fd ps []:=fun s us _ hl=>by
 rw[List.append_nil] at hl ⊢
 exact .of_eq (h us hl)
def zgR(CX:CXT)(X:Cx)(E:XK):Prop:=∀ (pins:List (Addr×Obj)) (σ:St) (H:Hp) (s:Shared) (e:Value) (s':Shared),Inv X pins σ H s->CX X.stack H s E e s'->X.xe e s'
section
variable{X:Cx}{CX:CXT}{k:Nat}{f C:Addr}{fd:FuncData}{ps:List Str}{sp:Sp}{dvs:List V}{ds:List Value}{E:XK}{x m:Str}{p pos apos:Pos}{e o:Expr}{es:List Expr}{ta:TE}{t:TA}
theorem zlr{pins:List (Addr×Obj)}{σ:St}{H:Hp}{s:Shared}{Q:VK}{us:List Value}{vs:List V}(F:FnOk X.prog X.w X.K X.mg X.base CX k f fd ps sp)(hr:Room k X.A)(hb:Binds X.K fd ps ds)(hd:Vals dvs ds)(hx:zgR CX X E)
 (I:Inv X pins σ H s) (r:Vals vs us) (h:sp (vs++dvs) H Q E):wpAny (model X.prog X.w) X.A (call (.ref f) us) (EP X pins σ Q) X.xe s:=by
 have r2:Vals (vs++dvs) (us++ds):=r.append hd
 have hl:(us++ds).length=ps.length:=by rw[<- r2.length];exact F.len _ _ _ _ h
 refine wpAny_call (codeAny_mono (F.run X.A X.stack s H ⟨us,[]⟩ (us++ds) (vs++dvs) Q E hr I.env0 (hb s us I.kIn hl) r2 h) fun r s' hq=>?_)
 cases r with
 |error e=>exact hx pins σ H s e s' I hq
 |ok fl =>
   cases fl with
   |ret u=>exact I.after hq
   |next=>exact False.elim hq
   |brk=>exact False.elim hq
   |cont=>exact False.elim hq
theorem zgA(F:FnOk X.prog X.w X.K X.mg X.base CX k f fd ps sp)(hr:Room k X.A)(hg:Gl X x)(hm:X.mg x=some (.ref f))(hk:W.keepIn X.K (.ref f)=true)(hb:Binds X.K fd ps ds)(hd:Vals dvs ds)(hx:zgR CX X E)
 (ha:PA X (e::es) t) (hdb:(x == ("__debug__" : Str))=false:=by decide) (he:starEach (e::es) X.env=(false,eval e X.env)::starEach es X.env:=by rfl) (hpl:(backTo pos (starEach es X.env)).any (·.1)=false:=by rfl) :
 PE X (.Call (.Name x p) (e::es) [] pos) (zlS sp dvs E t):=by
 intro pins s σ H Q I h
 refine wpAny_Call_Name_kw (zdF I hg hm ?_ hdb)
 refine W.callWith_K (h₀:=X.base) I.ok.mod.kin hk (thn (ha pos pins s σ H _ I h) fun us s1 ⟨vs,H1,I1,r,q⟩=>⟨I1.kIn,?_⟩) he hpl
 exact zlr F hr hb hd hx I1 r q
theorem zl5{pl:Sem Bool}(he:PE X o ta)(c:Cls X.K C)(hm:Meth X.K C m f)(F:FnOk X.prog X.w X.K X.mg X.base CX k f fd ps sp)(hr:Room k X.A)(hb:Binds X.K fd ps ds)(hd:Vals dvs ds)(hx:zgR CX X E)
 (ht:eval (.Call (.Attribute o m apos) [] [] pos) X.env=(do
  let ov <- eval o X.env
  standAt apos.atName
  let (f,first) <- holding [ov] (getMethod ov m pl)
  callWith pos f first (backTo pos (starEach [] X.env)) (backToKw pos (keywordEach [] X.env))):=by rfl) :
 PE X (.Call (.Attribute o m apos) [] [] pos) (zrs C m sp dvs E ta zkt):=by
 intro pins s σ H Q I h
 refine W.methodCall_KW (pl:=pl) (thn (he pins s σ H _ I h) fun u s1 ⟨x,H1,I1,rx,a,dx,fs,ex,ea,l,q⟩=>?_) ht
 subst ex
 obtain rfl:u=Value.ref a:=rx
 refine ziz I1 ea c hm l ?_
 exact W.callWith_K0 (first:=[.ref a]) I1.kIn hm.kp (zlr (us:=[.ref a]) (vs:=[.ref a]) F hr hb hd hx I1 (.cons rfl .nil) q)
structure Mk(K:W.Frag)(C f:Addr):Prop where
 makes:W.makesIn K C=true
 init:W.findIn K (.ref C) "__init__" = some (some (.ref f))
 fn:W.isFn K (.ref f)=true
 kp:W.keepIn K (.ref C)=true
end
structure FnScope(N P:List Str)(sc:Scope):Prop where
 kind:sc.kind = .function
 co:sc.isCoroutine=false
 gen:sc.isGenerator=false
 nd:N.Nodup
 pre:N.take P.length=P
 par:∀ x∈P,sc.names.lookup x=some .local\/sc.names.lookup x=some .cell
 nofree:∀ y∈sc.names,y.2 ≠ .free
theorem zfO{kindOf:Str->Option NameKind}{x:Str}:∀ {binds:List (Str×Value)} {m:Str->Option Value},(∀ v,(x,v) ∉ binds)->bindL kindOf binds m x=m x
 | [],_,_=>rfl
 | (n,v)::r,m,h=>by
   unfold bindL
   rw[zfO fun w hw=>h w (List.mem_cons_of_mem _ hw)]
   split
   · have:x≠n:=by rintro rfl;exact h v List.mem_cons_self
     simp[this]
   · rfl
theorem zf3{kindOf:Str->Option NameKind}{x:Str}:∀ {binds:List (Str×Value)} {m:Str->Option Value},(∀ v,(x,v) ∉ binds)->bindC kindOf binds m x=m x
 | [],_,_=>rfl
 | (n,v)::r,m,h=>by
   unfold bindC
   rw[zf3 fun w hw=>h w (List.mem_cons_of_mem _ hw)]
   split
   · rfl
   · have:x≠n:=by rintro rfl;exact h v List.mem_cons_self
     simp[this]
theorem zf4{kindOf:Str->Option NameKind}{x:Str}{v:Value}:∀ {P:List Str} {vs:List Value} {i:Nat} {m:Str->Option Value},P.Nodup->P[i]? = some x->vs[i]? = some v->kindOf x=some .local ->
 bindL kindOf (P.zip vs) m x=some v
 | [],_,_,_,_,h,_,_=>by simp at h
 | _::_,[],_,_,_,_,h,_=>by simp at h
 |p::P,w::vs,0,m,nd,h1,h2,hk=>by
   simp at h1 h2;subst h1;subst h2
   show bindL kindOf ((p,w)::P.zip vs) m p=_
   unfold bindL
   rw[zfO fun v hv=>(List.nodup_cons.mp nd).1 (List.of_mem_zip hv).1,if_pos hk]
   simp
 |p::P,w::vs,i+1,m,nd,h1,h2,hk=>by
   show bindL kindOf ((p,w)::P.zip vs) m x=_
   unfold bindL
   exact zf4 (i:=i) (List.nodup_cons.mp nd).2 (by simpa using h1) (by simpa using h2) hk
theorem zf5{kindOf:Str->Option NameKind}{x:Str}{v:Value}:∀ {P:List Str} {vs:List Value} {i:Nat} {m:Str->Option Value},P.Nodup->P[i]? = some x->vs[i]? = some v->kindOf x≠some .local ->
 bindC kindOf (P.zip vs) m x=some v
 | [],_,_,_,_,h,_,_=>by simp at h
 | _::_,[],_,_,_,_,h,_=>by simp at h
 |p::P,w::vs,0,m,nd,h1,h2,hk=>by
   simp at h1 h2;subst h1;subst h2
   show bindC kindOf ((p,w)::P.zip vs) m p=_
   unfold bindC
   rw[zf3 fun v hv=>(List.nodup_cons.mp nd).1 (List.of_mem_zip hv).1,if_neg hk]
   simp
 |p::P,w::vs,i+1,m,nd,h1,h2,hk=>by
   show bindC kindOf ((p,w)::P.zip vs) m x=_
   unfold bindC
   exact zf5 (i:=i) (List.nodup_cons.mp nd).2 (by simpa using h1) (by simpa using h2) hk
def start(N:List Str)(vs:List V):St:=vs.map some++List.replicate (N.length - vs.length) none
def zcG(CX:CXT)(P:Program)(w:World)(K:W.Frag)(mg:Str->Option Value)(base:Heap)(N:List Str)(qual:Str)(scope:Scope)(f:Addr)(cd:Value)(A:Around)(outer:List Env)(s:Shared)(H:Hp)(E:XK):Cx where
 prog:=P
 w:=w
 K:=K
 mg:=mg
 base:=base
 A:=A.deeper (envOfC qual scope s.heap.objs.size f cd)
 N:=N
 s₀:=s
 H₀:=H
 env:=envOfC qual scope s.heap.objs.size f cd
 outer:=outer
 stack:=envOfC qual scope s.heap.objs.size f cd::outer
 ex:=[]
 calm:=true
 fn:=fun _=>true
 pn:=[]
 xe:=fun e s'=>wpAny (model P w) (A.deeper (envOfC qual scope s.heap.objs.size f cd)) (leaving (envOfC qual scope s.heap.objs.size f cd) e) (fun _ s''=>CX outer H s E e s'') (fun e' s''=>CX outer H s E e' s'') s'
theorem zhJ{sc:Scope}{n:Nat}{x:Str}(h:sc.names.lookup x=some .cell):∃ c,(cellsFrom n sc.names []).lookup x=some c:=by
 have q:=W.cellsFrom_some sc.names n [] (.inl h)
 exact Option.isSome_iff_exists.mp q
theorem zke{CX:CXT}{P:Program}{w:World}{K:W.Frag}{mg:Str->Option Value}{base:Heap}{N ps:List Str}{qual:Str}{scope:Scope}{f:Addr}{cd:Value}{A:Around}{outer:List Env}{s s1:Shared}{H:Hp}{E:XK}{us:List Value}{vs:List V}
 (S:FnScope N ps scope) (hd:A.handled=none) (e0:Env0 P w K mg base A outer s H) (hl:vs.length=ps.length) (r:Vals vs us)
 (x:InCallC s s.heap.objs.size (bindL (envOfC qual scope s.heap.objs.size f cd).kindOf (ps.zip us) fun _=>none) (cellsFrom (s.heap.objs.size+1) scope.names []) (bindC (envOfC qual scope s.heap.objs.size f cd).kindOf (ps.zip us) fun _=>none) s1) :
 Inv (zcG CX P w K mg base N qual scope f cd A outer s H E) [] (start N vs) H s1:=by
 have hpl:ps.length<=N.length:=by have:=congrArg List.length S.pre;rw[List.length_take] at this;omega
 obtain⟨h1,tk,rfl,hk⟩:=x.done
 have noA:∀ b:Addr,b ∉ (zcG CX P w K mg base N qual scope f cd A outer s H E).ex:=fun b z=>absurd (show b∈([]:List Addr) from z) (by simp)
 refine⟨⟨e0.mod,S.kind,rfl,rfl,Nat.le_refl _,fun y z c h1 h2=>?_,fun y hy=>?_,fun y c _ h=>?_,fun _=>hd,Around.frames_deeper e0.frames,.inr ⟨rfl,rfl⟩,fun b z=>absurd z (noA b),e0.bs,e0.bsz,fun b _ _=>noA b,fun b z=>absurd z (noA b),e0.funs,e0.frf⟩,
  rfl,e0.bare,Un.kept hk,⟨_,x.toInCall.ns,fun i y v h1 h2 h3=>?_⟩,fun y c h=>⟨_,x.cell y c h⟩,e0.hok.fresh (Nat.le_refl _),fun y c h=>?_,fun p hp=>absurd (show p∈([]:List (Addr×Obj)) from hp) (by simp),e0.hok.kept hk,?_⟩
 · exact name_of_addr x.apart (PySem.mem_of_lookup h1) (PySem.mem_of_lookup h2)
 · have hy:scope.names.lookup y=some .cell\/scope.names.lookup y=some .free:=hy
   rcases hy with hy | hy
   · exact zhJ hy
   · exact absurd rfl (S.nofree _ (PySem.mem_of_lookup hy))
 · exact Nat.le_of_lt (x.above y c (PySem.mem_of_lookup h))
 · have hi:i<vs.length:=by
    unfold start at h2
    by_cases hi:i<vs.length
    · exact hi
    · rw[List.getElem?_append_right (by simpa using hi)] at h2
      rw[List.getElem?_replicate] at h2
      split at h2<;>cases h2
   have ha:vs[i]? = some v:=by
    unfold start at h2
    rw[List.getElem?_append_left (by simpa using hi),List.getElem?_map] at h2
    cases e:vs[i]? with
    |none=>rw[e] at h2;cases h2
    |some a=>rw[e] at h2;cases h2;rfl
   obtain⟨u,hu,rv⟩:=r.get ha
   have hp:ps[i]? = some y:=by
    rw[<- S.pre,List.getElem?_take_of_lt (by omega)];exact h1
   have ndP:ps.Nodup:=by rw[<- S.pre];exact S.nd.sublist (List.take_sublist _ _)
   refine⟨u,rv,?_⟩
   rcases S.par y (List.mem_of_getElem? hp) with k | k
   · exact .inl ⟨k,zf4 ndP hp hu k⟩
   · obtain⟨c,e⟩:=zhJ (n:=s.heap.objs.size+1) k
     refine .inr ⟨.inl k,c,e,?_⟩
     have q:=x.cell y c e
     rw[zf5 ndP hp hu (by show scope.names.lookup y≠_;rw[k];decide)] at q
     exact q
 · exact e0.hok.fresh (Nat.le_of_lt (x.above y c (PySem.mem_of_lookup h)))
 · unfold start
   show _=N.length
   rw[List.length_append,List.length_map,List.length_replicate]
   omega
theorem zmG{CX:CXT}{P:Program}{w:World}{K:W.Frag}{mg:Str->Option Value}{base:Heap}{k:Nat}{f:Addr}{name qual:Str}{params:Arguments}{body:List Stmt}{scope:Scope}{dV kV doc pm cdv ct oc:Value}{an od:Option Addr}
 {osl:Array (Option Value)} {N ps:List Str} {sp:Sp} (lk:K.lookup f=some ⟨oc,od,.func (W.fnOf name qual params body scope dV kV doc pm an cdv ct),osl⟩) (hcd:W.codeIn K cdv qual=true) (S:FnScope N ps scope)
 (len:∀ vs H Q E,sp vs H Q E->vs.length=ps.length)
 (hbody:∀ (A:Around) (outer:List Env) (s:Shared) (H:Hp) (vs:List V) (Q:VK) (E:XK),Room k (A.deeper (envOfC qual scope s.heap.objs.size f cdv))->sp vs H Q E ->
  ∃ t,PSs (zcG CX P w K mg base N qual scope f cdv A outer s H E) body t/\t { nx:=fun _ H'=>Q .non H',rt:=Q } (start N vs) H) :
 FnOk P w K mg base CX (k+1) f (W.fnOf name qual params body scope dV kV doc pm an cdv ct) ps sp:=by
 refine⟨len,fun A outer s H args us vs Q E hr e0 hb r hsp=>?_⟩
 have hl:=len _ _ _ _ hsp
 have KX:K.In s.heap:=e0.mod.kin.keeps fun b o e=>(e0.bs b o e).1
 have lim:s.heap.NoLimit:=e0.mod.nolimit.keeps fun b o e=>(e0.bs b o e).1
 have hkind:∀ y∈ps.zip us,scope.names.lookup y.1=some .local\/(scope.names.lookup y.1=some .cell/\((cellsFrom (s.heap.objs.size+1) scope.names []).lookup y.1).isSome=true):=fun ⟨n,v⟩ hy=>by
  rcases S.par n (List.of_mem_zip hy).1 with q | q
  · exact .inl q
  · exact .inr ⟨q,W.cellsFrom_some _ _ _ (.inl q)⟩
 refine codeAny_call_function hr.depth (KX _ _ lk) rfl S.co S.gen rfl (W.codeRec_of KX hcd) (hb _ _ _ _ ?_)
 refine wpAny_newFunctionEnv_cells S.kind hkind fun env he s1 x=>?_
 subst he
 refine⟨lim.keeps x.toInCall.keep,codeAny_func ?_⟩
 obtain⟨t,ht,hq⟩:=hbody A outer s H vs Q E (hr.deeper _) hsp
 have I:Inv (zcG CX P w K mg base N qual scope f cdv A outer s H E) [] (start N vs) H s1:=zke S hr.hd e0 hl r x
 refine wpAny_mono (ht [] s1 (start N vs) H _ I hq) (fun fl s' hs=>?_) fun e s' hs=>hs
 have fin:∀ {σ':St} {H':Hp} {v:V} {u:Value},Inv (zcG CX P w K mg base N qual scope f cdv A outer s H E) [] σ' H' s'->RelV v u->Q v H'->CE outer P w H s Q u s' :=
  fun {σ' H' v u} J rv q=>⟨v,H',J.os,J.bare,J.base,J.hok,rv,q⟩
 cases fl with
 |ret u =>
   obtain⟨v,σ',H',J,rv,q⟩:=hs
   exact fin J rv q
 |next =>
   obtain⟨σ',H',J,q⟩:=hs
   exact fin (v:=V.non) (u:=Value.none) J rfl q
 |brk =>
   obtain⟨_,_,_,q⟩:=hs
   exact False.elim q
 |cont =>
   obtain⟨_,_,_,q⟩:=hs
   exact False.elim q
section
variable{X:Cx}{x:Str}{p pos:Pos}{e:Expr}{es:List Expr}{t:TA}{id T:String}{r:List V->Hp->VK->Prop}
def tCB(r:List V->Hp->VK->Prop)(t:TA):TE:=fun σ H Q=>t σ H fun vs H1=>r vs H1 Q
theorem zao(hc:CallR X (.builtin id) r)(hg:Gl X x)(hm:X.mg x=none)(hv:bootBuiltins x=some (.builtin id))(ha:PA X (e::es) t)(hn:x ≠ "__name__" := by decide)(hdb:(x == ("__debug__" : Str))=false:=by decide)
 (he:starEach (e::es) X.env=(false,eval e X.env)::starEach es X.env:=by rfl) (hpl:(backTo pos (starEach es X.env)).any (·.1)=false:=by rfl):PE X (.Call (.Name x p) (e::es) [] pos) (tCB r t):=by
 intro pins s σ H Q I h
 refine wpAny_Call_Name_kw (zeX I hg hm hv ?_ hn hdb)
 exact PyProof.Rows.callWith_builtin1 (thn (ha pos pins s σ H _ I h) fun us s1 ⟨vs,H1,I1,r1,q1⟩=>hc pins s1 σ H1 vs us Q I1 r1 q1) he hpl
theorem zeh(hc:CallR X (.type T) r)(hg:Gl X x)(hm:X.mg x=none)(hv:bootBuiltins x=some (.type T))(ha:PA X (e::es) t)(hn:x ≠ "__name__" := by decide)(hdb:(x == ("__debug__" : Str))=false:=by decide)
 (he:starEach (e::es) X.env=(false,eval e X.env)::starEach es X.env:=by rfl) (hpl:(backTo pos (starEach es X.env)).any (·.1)=false:=by rfl):PE X (.Call (.Name x p) (e::es) [] pos) (tCB r t):=by
 intro pins s σ H Q I h
 refine wpAny_Call_Name_kw (zeX I hg hm hv ?_ hn hdb)
 exact PyProof.Rows.callWith_type1 (thn (ha pos pins s σ H _ I h) fun us s1 ⟨vs,H1,I1,r1,q1⟩=>hc pins s1 σ H1 vs us Q I1 r1 q1) he hpl
end
end L2
namespace HT
open PySem PyProof.Rows
section
variable{prog:Program}{w:World}{A:Around}{E:Value->Shared->Prop}{s:Shared}
def sIx(n d:Nat):Option Int->Nat
 |none=>d
 |some v=>if v<0 then (v+(n:Int)).toNat else min v.toNat n
theorem sIx_nat(n d k:Nat):sIx n d (some (k:Int))=min k n:=by
 show(if (k:Int)<0 then ((k:Int)+(n:Int)).toNat else min (k:Int).toNat n)=min k n
 rw[if_neg (by omega),Int.toNat_natCast]
end
end HT
namespace L2
open PySem PySem.Spec PyProof.Rows
theorem intsAre_of{ns:List Int}:∀ {us:List Value},Vals (ns.map V.int) us->IntsAre us ns:=by
 induction ns with
 |nil=>intro us r;rw[List.map_nil] at r;cases r;exact .nil
 |cons n ns ih =>
   intro us r
   rw[List.map_cons] at r
   cases r with
   |cons r1 r2 =>
     obtain⟨t,e⟩:=r1
     subst e
     exact .cons n t (ih r2)
def ixN(n:Nat)(i:Int):Option Nat:=if 0<=i then (if i<n then some i.toNat else none) else if -(n:Int)<=i then some (i+n).toNat else none
def atI{α:Type}(xs:List α)(i:Int):Option α:=(ixN xs.length i).bind fun j=>xs[j]?
theorem zi3{n:Nat}{i:Int}{j:Nat}(h:ixN n i=some j):seqIndex? i n=some j/\j<n /\ -(n:Int)<=i/\i<n:=by
 unfold ixN at h
 by_cases h0:0<=i
 · rw[if_pos h0] at h
   by_cases h1:i<n
   · rw[if_pos h1] at h
     have e:i.toNat=j:=Option.some.inj h
     exact⟨by rw[seqIndex_of h0 h1,e],by omega,by omega,h1⟩
   · rw[if_neg h1] at h;cases h
 · rw[if_neg h0] at h
   by_cases h1 : -(n:Int)<=i
   · rw[if_pos h1] at h
     have e:(i+n).toNat=j:=Option.some.inj h
     exact⟨by rw[seqIndex_neg (by omega) h1,e],by omega,h1,by omega⟩
   · rw[if_neg h1] at h;cases h
theorem zgi{α:Type}{xs:List α}{i:Int}{v:α}(h:atI xs i=some v):∃ j,seqIndex? i xs.length=some j/\xs[j]? = some v/\j<xs.length /\ -(xs.length:Int)<=i/\i<xs.length:=by
 unfold atI at h
 cases e:ixN xs.length i with
 |none=>rw[e] at h;cases h
 |some j =>
   rw[e] at h
   obtain⟨h1,h2,h3,h4⟩:=zi3 e
   exact⟨j,h1,h,h2,h3,h4⟩
theorem atI_nat{α:Type}{xs:List α}{j:Nat}{v:α}(h:xs[j]? = some v):atI xs (j:Int)=some v:=by
 have hj:j<xs.length:=(List.getElem?_eq_some_iff.mp h).1
 have e:ixN xs.length (j:Int)=some j:=by
  unfold ixN
  rw[if_pos (by omega),if_pos (by omega)];simp
 unfold atI;rw[e];exact h
def zi0(b:Expr):Prop:=∀ o i,subscripted b false o i=operate [o,i] (getItem o i)
def IxR(X:Cx)(r:R2):Prop :=
 ∀ (value slice:Expr) (pins:List (Addr×Obj)) (s:Shared) (σ:St) (H:Hp) (x y:V) (v u:Value) (Q:VK),Inv X pins σ H s->RelV x v->RelV y u->r x y H Q ->
  subscripted slice false v u=operate [v,u] (getItem v u)->wpAny (model X.prog X.w) X.A (subscriptTail value slice v u) (EP X pins σ Q) X.xe s
def MtR(X:Cx)(id:String)(r:V->List V->Hp->VK->Prop):Prop :=
 ∀ (pins:List (Addr×Obj)) (s:Shared) (σ:St) (H:Hp) (x:V) (xs:List V) (v:Value) (us:List Value) (Q:VK),Inv X pins σ H s->RelV x v->Vals xs us->r x xs H Q ->
  wpAny (model X.prog X.w) X.A (call (.builtin id) (v::us)) (EP X pins σ Q) X.xe s
section
variable{X:Cx}{a b:Expr}{ta tb:TE}{pos:Pos}
theorem IxR.or{r r':R2}(h:IxR X r)(h':IxR X r'):IxR X (fun x y H Q=>r x y H Q\/r' x y H Q):=by
 intro value slice pins s σ H x y v u Q I rx ry q hs
 rcases q with q | q
 · exact h value slice pins s σ H x y v u Q I rx ry q hs
 · exact h' value slice pins s σ H x y v u Q I rx ry q hs
theorem zoI{r:R2}(hr:IxR X r)(ha:PE X a ta)(hb:PE X b tb)(hs:zi0 b):PE X (.Subscript a b pos) (tOp r ta tb):=by
 intro pins s σ H Q I h
 exact Subscript_ (zo5 ha hb I h fun v u s2 x y H2 I2 rx ry q=>hr a b pins s2 σ H2 x y v u Q I2 rx ry q (hs _ _))
def zq1(K:W.Frag):R2:=fun x y H Q=>∃ p xs i v,x = .ref p/\y = .int i/\SqL K H p xs/\atI xs i=some v/\Q v H
def zq0(K:W.Frag):R2:=fun x y H Q=>∃ p xs i v,x = .ref p/\y = .int i/\SqT K H p xs/\atI xs i=some v/\Q v H
def zqK:R2:=fun x y H Q=>∃ z i c,x = .str z/\y = .int i/\z.length<=sizeLine/\atI z.cps.toList i=some c/\Q (.str ⟨#[c]⟩) H
theorem ix_list:IxR X (zq1 X.K):=by
 intro value slice pins s σ H x y v u Q I rx ry h hs
 obtain⟨p,xs,i,z,rfl,rfl,hq,he,q⟩:=h
 cases rx
 obtain⟨t,rfl⟩:=ry
 obtain⟨its,r,pl,hz⟩:=I.list hq
 obtain⟨j,h1,h2,h3,h4,h5⟩:=zgi he
 obtain⟨w,ew,rw'⟩:=r.get h2
 have hl:=r.length
 have hn:=zd4
 have fin:EP X pins σ Q w s:=⟨z,H,I,rw',q⟩
 by_cases h0:0<=i
 · have hj:i.toNat=j:=by
    rw[seqIndex_of h0 h5] at h1
    exact Option.some.inj h1
   exact item_listR pl.isList h0 (by omega) (by rw[hj];simpa using ew) fin hs
 · have hj:(i+(its.toArray.size:Int)).toNat=j:=by
    rw[seqIndex_neg (by omega) h4] at h1
    rw[List.size_toArray, <- hl]
    exact Option.some.inj h1
   exact subscriptTail_builtinR (x:=w) pl.isList.typeIs slot_list_getitem.lookup
    (wpAny_getItem_list_neg (Q:=fun r s'=>r=w/\EP X pins σ Q r s') pl.isList (by omega) (by rw[List.size_toArray]<;>omega) (by omega) (by rw[hj];simpa using ew) ⟨rfl,fin⟩) hs
theorem ix_tup:IxR X (zq0 X.K):=by
 intro value slice pins s σ H x y v u Q I rx ry h hs
 obtain⟨p,xs,i,z,rfl,rfl,hq,he,q⟩:=h
 cases rx
 obtain⟨t,rfl⟩:=ry
 obtain⟨its,r,pl,hz⟩:=I.tuple hq
 obtain⟨j,h1,h2,h3,h4,h5⟩:=zgi he
 obtain⟨w,ew,rw'⟩:=r.get h2
 have hl:=r.length
 have hn:=zd4
 have fin:EP X pins σ Q w s:=⟨z,H,I,rw',q⟩
 exact subscriptTail_builtinR (x:=w) pl.typeIs slot_tuple_getitem.lookup
  (getItem_tuple (j:=j) (Q:=fun r s'=>r=w/\EP X pins σ Q r s') pl (by omega) (by omega) (by rw[List.size_toArray, <- hl];exact h1) (by simpa using ew) ⟨rfl,fin⟩) hs
theorem zpL:IxR X zqK:=by
 intro value slice pins s σ H x y v u Q I rx ry h hs
 obtain⟨z,i,c,rfl,rfl,hz,he,q⟩:=h
 obtain⟨t,rfl⟩:=rx
 obtain⟨t',rfl⟩:=ry
 obtain⟨j,h1,h2,h3,h4,h5⟩:=zgi he
 have hl:z.cps.toList.length=z.length:=by simp[Str.length]
 rw[hl] at h1 h4 h5
 have hn:=zd4
 exact tail_any (typeIs_str s z t) slot_str_getitem.lookup (getItem_str (c:=c) (by
  have e1:decide (i < -(2 ^ 63:Int))=false:=decide_eq_false (by omega)
  have e2:decide (i ≥ 2 ^ 63)=false:=decide_eq_false (by omega)
  rw[e1,e2,Bool.or_false]) (by rw[h1];simpa using h2) ⟨.str ⟨#[c]⟩,H,I.tok _,⟨_,rfl⟩,q⟩) hs
def rIx(K:W.Frag):R2:=fun x y H Q=>zq1 K x y H Q\/zq0 K x y H Q\/zqK x y H Q
theorem zmi:IxR X (rIx X.K):=ix_list.or (ix_tup.or zpL)
theorem ziP(its:List Value)(n j:Nat)(u:Value):Obj.mapSeq (·.setIfInBounds j u) { cls:=.type "list",data:=.seq its.toArray n }={ cls:=.type "list",data:=.seq (its.set j u).toArray n }:=by
 simp[Obj.mapSeq]
theorem Inv.lst{pins:List (Addr×Obj)}{σ:St}{H:Hp}{s:Shared}{p:Addr}{xs:List V}(I:Inv X pins σ H s)(h:H p=some (.lst xs)) :
 ∃ (its:List Value) (n:Nat),Vals xs its/\s.heap.get? p=some { cls:=.type "list",data:=.seq its.toArray n }/\xs.length<=sizeLine:=by
 obtain⟨z,its,n,r,e⟩:=I.hok p _ h
 exact⟨its,n,r,e,z⟩
theorem Inv.lstUpd{pins:List (Addr×Obj)}{σ:St}{H:Hp}{s:Shared}{p:Addr}{xs ys:List V}{its its':List Value}{n n':Nat}{f:Obj->Obj}(I:Inv X pins σ H s)(h:H p=some (.lst xs))
 (ho:s.heap.get? p=some { cls:=.type "list",data:=.seq its.toArray n }) (hf:f { cls:=.type "list",data:=.seq its.toArray n }={ cls:=.type "list",data:=.seq its'.toArray n' }) (r:Vals ys its') (hz:ys.length<=sizeLine) (t:Nat) :
 Inv X pins σ (upd H p (.lst ys)) { s with heap:=s.heap.update p f,toks:=t }:=by
 have e:(s.heap.update p f).get? p=some { cls:=.type "list",data:=.seq its'.toArray n' }:=by
  rw[Heap.get?_update_self f ho (by rw[hf]<;>rfl),hf]
 refine I.write (x:=p) (e:=p) (by rw[h];trivial) (.inl rfl) (fun b u hb q=>(Heap.get?_update_other _ _ (Ne.symm hb)).trans q) ⟨_,e⟩ ?_
 exact⟨hz,its',n',r,e⟩
def zoM:V->V->V->Hp->(Hp->Prop)->Prop:=fun o i v H Q=>∃ p xs k j,o = .ref p/\i = .int k/\H p=some (.lst xs)/\ixN xs.length k=some j/\Q (upd H p (.lst (xs.set j v)))
theorem set_list:zqs X zoM:=by
 intro pins s σ H o i v ov iv u Q I ro ri rv h
 obtain⟨p,xs,k,j,rfl,rfl,hp,hj,q⟩:=h
 cases ro
 obtain⟨t,rfl⟩:=ri
 obtain⟨its,n,r,ho,hz⟩:=I.lst hp
 obtain⟨h1,h2,h3,h4⟩:=zi3 hj
 have hl:=r.length
 have hn:=zd4
 have I':Inv X pins σ (upd H p (.lst (xs.set j v))) { s with heap:=s.heap.update p (Obj.mapSeq (·.setIfInBounds j u)) } :=
  I.lstUpd hp ho (ziP its n j u) (r.set rv j) (by rw[List.length_set];exact hz) s.toks
 by_cases h0:0<=k
 · have hk:k.toNat=j:=by
    rw[seqIndex_of h0 h4] at h1
    exact Option.some.inj h1
   exact W.ki_setAt ho h0 (by omega) (by rw[List.size_toArray, <- hl];exact h4) (by rw[hk];exact⟨_,I',q⟩)
 · have hk:(k+(its.toArray.size:Int)).toNat=j:=by
    rw[seqIndex_neg (by omega) h3] at h1
    rw[List.size_toArray, <- hl]
    exact Option.some.inj h1
   exact W.ki_setBack ho (by omega) (by rw[List.size_toArray, <- hl];exact h3) (by omega) (by rw[hk];exact⟨_,I',q⟩)
def zcF:V->Bool
 | .non=>true
 | .bl _=>true
 | .int _=>true
 | .str _=>true
 | _=>false
def eqV:V->V->Bool
 | .non,.non=>true
 | .bl a,.bl b=>a == b
 | .bl a,.int b=>(if a then 1 else 0) == b
 | .int a,.bl b=>a == (if b then 1 else 0)
 | .int a,.int b=>a == b
 | .str a,.str b=>a == b
 | _,_=>false
theorem zpa{A:Around}{s:Shared}{y x:V}{u v:Value}(ry:RelV y u)(rx:RelV x v)(fy:zcF y=true)(fx:zcF x=true):SeqAt.EqAt A s u v (eqV y x):=by
 cases y with
 |non =>
   cases ry
   cases x with
   |non=>cases rx;exact SeqAt.EqAt.same _
   |bl b=>cases rx;exact SeqAt.EqAt.none_bool b
   |int b=>obtain⟨t,rfl⟩:=rx;exact SeqAt.EqAt.none_int b t
   |str b=>obtain⟨t,rfl⟩:=rx;exact SeqAt.EqAt.none_str b t
   | _=>exact absurd (show false=true from fx) Bool.false_ne_true
 |bl a =>
   cases ry
   cases x with
   |non=>cases rx;exact SeqAt.EqAt.bool_none a
   |bl b=>cases rx;exact SeqAt.EqAt.bool_bool a b
   |int b=>obtain⟨t,rfl⟩:=rx;exact SeqAt.EqAt.bool_int a b t
   |str b=>obtain⟨t,rfl⟩:=rx;exact SeqAt.EqAt.bool_str a b t
   | _=>exact absurd (show false=true from fx) Bool.false_ne_true
 |int a =>
   obtain⟨t',rfl⟩:=ry
   cases x with
   |non=>cases rx;exact SeqAt.EqAt.int_none a t'
   |bl b=>cases rx;exact SeqAt.EqAt.int_bool a t' b
   |int b=>obtain⟨t,rfl⟩:=rx;exact SeqAt.EqAt.int_int a t' b t
   |str b=>obtain⟨t,rfl⟩:=rx;exact SeqAt.EqAt.int_str a t' b t
   | _=>exact absurd (show false=true from fx) Bool.false_ne_true
 |str a =>
   obtain⟨t',rfl⟩:=ry
   cases x with
   |non=>cases rx;exact SeqAt.EqAt.str_none a t'
   |bl b=>cases rx;exact SeqAt.EqAt.str_bool a t' b
   |int b=>obtain⟨t,rfl⟩:=rx;exact SeqAt.EqAt.str_int a t' b t
   |str b=>obtain⟨t,rfl⟩:=rx;exact SeqAt.EqAt.str_str a t' b t
   | _=>exact absurd (show false=true from fx) Bool.false_ne_true
 | _=>exact absurd (show false=true from fy) Bool.false_ne_true
def eqU(x:V)(u:Value):Bool:=match u with
 | .none=>eqV .non x
 | .bool b=>eqV (.bl b) x
 | .int i _=>eqV (.int i) x
 | .str z _=>eqV (.str z) x
 | _=>false
theorem zh6{x y:V}{u:Value}(r:RelV y u)(f:zcF y=true):eqU x u=eqV y x:=by
 cases y with
 |non=>cases r;rfl
 |bl b=>cases r;rfl
 |int i=>obtain⟨t,rfl⟩:=r;rfl
 |str z=>obtain⟨t,rfl⟩:=r;rfl
 | _=>exact absurd (show false=true from f) Bool.false_ne_true
theorem zeL{A:Around}{s:Shared}{x:V}{v:Value}(rx:RelV x v)(fx:zcF x=true):∀ {xs:List V} {us:List Value},Vals xs us->xs.all zcF=true->∀ u∈us,SeqAt.EqAt A s u v (eqU x u)
 | _,_,.nil,_=>fun u hu=>by cases hu
 |y::xs,u::us,.cons r t,f=>fun u' hu=>by
   rw[List.all_cons,Bool.and_eq_true] at f
   rcases List.mem_cons.mp hu with rfl | hu
   · rw[zh6 r f.1];exact zpa r rx f.1 fx
   · exact zeL rx fx t f.2 u' hu
theorem call_len_seq:CallR X (.builtin "len") (fun xs H Q=>∃ p ys,xs=[.ref p]/\(SqL X.K H p ys\/SqT X.K H p ys)/\Q (.int ys.length) H):=by
 intro pins s σ H xs us Q I r h
 obtain⟨p,ys,rfl,hq,q⟩:=h
 obtain⟨u,rfl,rx⟩:=vals1 r
 cases rx
 have hn:=zd4
 rcases hq with hq | hq
 · obtain⟨its,r',pl,hz⟩:=I.list hq
   have hlen:=r'.length
   exact Calls.call_len_list pl.isList (by simp only[List.size_toArray]<;>omega) ⟨.int ys.length,H,I.tok _,⟨s.toks+1,by rw[List.size_toArray,hlen]⟩,q⟩
 · obtain⟨its,r',pl,hz⟩:=I.tuple hq
   have hlen:=r'.length
   exact len_tuple pl (by simp only[List.size_toArray]<;>omega) ⟨.int ys.length,H,I.tok _,⟨s.toks+1,by rw[List.size_toArray,hlen]⟩,q⟩
theorem zgg:CallR X (.builtin "len") (fun xs H Q=>∃ z,xs=[.str z]/\z.length<=sizeLine/\Q (.int z.length) H):=by
 intro pins s σ H xs us Q I r h
 obtain⟨z,rfl,hz,q⟩:=h
 obtain⟨u,rfl,t,rfl⟩:=vals1 r
 have hn:=zd4
 exact len_str (by omega) ⟨.int z.length,H,I.tok _,⟨_,rfl⟩,q⟩
theorem CallR.or{f:Value}{r r':List V->Hp->VK->Prop}(h:CallR X f r)(h':CallR X f r'):CallR X f (fun xs H Q=>r xs H Q\/r' xs H Q):=by
 intro pins s σ H xs us Q I rs q
 rcases q with q | q
 · exact h pins s σ H xs us Q I rs q
 · exact h' pins s σ H xs us Q I rs q
theorem zdN:CallR X (.type "list") (fun xs H Q=>∃ p ys,xs=[.ref p]/\(SqL X.K H p ys\/SqT X.K H p ys)/\∀ l,H l=none->Q (.ref l) (upd H l (.lst ys))):=by
 intro pins s σ H xs us Q I r h
 obtain⟨p,ys,rfl,hq,q⟩:=h
 obtain⟨u,rfl,rx⟩:=vals1 r
 cases rx
 have fin:∀ (its:List Value),Vals ys its->ys.length<=sizeLine->∀ (h':Heap) (c':Nat),(∀ b o',s.heap.get? b=some o'->h'.get? b=some o') ->
  h'.get? s.heap.objs.size=some { cls:=.type "list",dict:=none,data:=.seq its.toArray c',slots := #[] }->EP X pins σ Q (.ref s.heap.objs.size) { s with heap:=h' }:=fun its r' hz h' c' kp e =>
  ⟨.ref s.heap.objs.size,_,I.laid (t':=s.toks) kp (Nat.le_refl _) (show ObjOk X.prog X.w _ h' _ (.lst ys) from⟨hz,its,c',r',e⟩),rfl,q _ (I.hok.fresh (Nat.le_refl _))⟩
 rcases hq with hq | hq
 · obtain⟨its,r',pl,hz⟩:=I.list hq
   have hlen:=r'.length
   obtain⟨o,ho,hc,n,hd⟩:=pl.isList
   exact call_list_seq p (.inl rfl) ho hc hd (fun h' c' kp e=>fin its r' hz h' c' kp e) (by simp only[List.size_toArray]<;>omega)
 · obtain⟨its,r',pl,hz⟩:=I.tuple hq
   have hlen:=r'.length
   obtain⟨o,ho,hc,n,hd⟩:=pl
   exact call_list_seq p (.inr rfl) ho hc hd (fun h' c' kp e=>fin its r' hz h' c' kp e) (by simp only[List.size_toArray]<;>omega)
def tyV(K:W.Frag)(T:String)(x:V)(H:Hp):Prop:=match x with
 | .str _=>T = "str"
 | .int _=>T = "int"
 | .ref p=>(T = "list" /\ ∃ xs,SqL K H p xs)\/(T = "tuple" /\ ∃ o,K.lookup p=some o/\o.cls = .type "tuple" /\ o.dict=none) \/
  (T = "dict" /\ ((∃ kvs,H p=some (.dK kvs))\/∃ kvs,H p=some (.dT kvs)))\/(T = "set" /\ ∃ S n,H p=some (.set S n))
 | _=>False
theorem zpG{pins:List (Addr×Obj)}{σ:St}{H:Hp}{s:Shared}{T:String}{x:V}{v:Value}(I:Inv X pins σ H s)(r:RelV x v)(ty:tyV X.K T x H) :
 s.TypeIs v T/\∀ a,v = .ref a->∃ ob,s.heap.get? a=some ob/\ob.dict=none:=by
 cases x with
 |str z =>
   obtain⟨t,rfl⟩:=r
   cases (show T = "str" from ty)
   exact⟨typeIs_str s z t,fun _ e=>nomatch e⟩
 |int i =>
   obtain⟨t,rfl⟩:=r
   cases (show T = "int" from ty)
   exact⟨typeIs_int s i t,fun _ e=>nomatch e⟩
 |ref p =>
   cases r
   rcases ty with ⟨rfl,xs,hq⟩ | ⟨rfl,o,hk,hc,hd⟩ | ⟨rfl,hk⟩ | ⟨rfl,S,n,hk⟩
   · obtain⟨its,_,pl,_⟩:=I.list hq
     refine⟨pl.isList.typeIs,fun a e=>?_⟩
     cases e
     obtain⟨o,n,e,c,hd,_⟩:=pl
     exact⟨o,e,hd⟩
   · refine⟨⟨o,I.kIn p o hk,hc⟩,fun a e=>?_⟩
     cases e
     exact⟨o,I.kIn _ o hk,hd⟩
   · have z:∃ o,s.heap.get? p=some o/\o.ExactDict:=by
      rcases hk with ⟨kvs,hk⟩ | ⟨kvs,hk⟩
      · obtain⟨_,_,_,_,o,_,_,e,ex,_⟩:=I.hok p _ hk
        exact⟨o,e,ex⟩
      · obtain⟨_,_,_,_,o,_,_,e,ex,_⟩:=I.hok p _ hk
        exact⟨o,e,ex⟩
     obtain⟨o,e,ex⟩:=z
     refine⟨⟨o,e,ex.1⟩,fun a e2=>?_⟩
     cases e2
     exact⟨o,e,ex.2.1⟩
   · obtain⟨o,_,_,_,e,ex,_⟩:=I.hok p _ hk
     refine⟨⟨o,e,ex.1⟩,fun a e2=>?_⟩
     cases e2
     exact⟨o,e,ex.2.1⟩
 | _=>exact False.elim ty
def tBM(K:W.Frag)(T:String)(r:V->List V->Hp->VK->Prop)(to:TE)(t:TA):TE:=fun σ H Q=>to σ H fun x H1=>tyV K T x H1/\t σ H1 fun xs H2=>r x xs H2 Q
variable{o e:Expr}{es:List Expr}{to:TE}{t:TA}{name:Str}{apos cpos:Pos}{T id:String}{r:V->List V->Hp->VK->Prop}
theorem zjg(pa:PlainAttrs T)(slot:Slot T name id)(hty:typeOf (.builtin id)=pure (.type "method_descriptor"))(hm:MtR X id r)(ho:PE X o to)(ha:PA X (e::es) t)
 (hbase:attributeBase o name X.env (eval o X.env)=eval o X.env:=by rfl)
 (hfew:((backTo cpos (starEach (e::es) X.env)).all (fun x => !x.1) && (backToKw cpos (keywordEach [] X.env)).all (fun x=>x.1.isSome)
  && decide ((e::es).length+([]:List Keyword).length+(if ([]:List Keyword).isEmpty then 0 else 1)<30))=true:=by rfl)
 (hline:(apos.endLine == cpos.line)=true:=by rfl) (hs:starEach (e::es) X.env=(false,eval e X.env)::starEach es X.env:=by rfl) (hplain:(backTo cpos (starEach es X.env)).any (·.1)=false:=by rfl) :
 PE X (.Call (.Attribute o name apos) (e::es) [] cpos) (tBM X.K T r to t):=by
 intro pins s σ H Q I h
 refine wpAny_Call_method_late hbase hfew hline rfl (thn (ho pins s σ H _ I h) fun v s1 ⟨x,H1,I1,r1,ty,q1⟩=>?_)
 obtain⟨h1,h2⟩:=zpG I1 r1 ty
 refine⟨T,id,pa,slot,hty,h1,h2,?_⟩
 have hA:=ha cpos pins s1 σ H1 _ I1 q1
 rw[hs] at hA ⊢
 refine Calls.callWith_builtin (by show(false || (backTo cpos (starEach es X.env)).any (·.1))=false;rw[hplain]<;>rfl) (Calls.evalArgs_plain ?_)
 exact thn hA fun us s2 ⟨vs,H2,I2,r2,q2⟩=>hm pins s2 σ H2 x vs v us Q I2 r1 r2 q2
end
def MtM(X:Cx)(id:String)(r:V->List V->Hp->VK->Prop):Prop :=
 ∀ (pins:List (Addr×Obj)) (s:Shared) (σ:St) (H:Hp) (x:V) (xs:List V) (v:Value) (us:List Value) (Q:VK),Inv X pins σ H s->RelV x v->Vals xs us->r x xs H Q ->
  wpAny (model X.prog X.w) X.A (call (.builtin id) (v::us)) (EP X pins σ Q) X.xe s
theorem Vals.one:∀ {x:V} {us:List Value},Vals [x] us->∃ u,us=[u]/\RelV x u
 | _,_,.cons r .nil=>⟨_,rfl,r⟩
theorem Vals.two:∀ {x y:V} {us:List Value},Vals [x,y] us->∃ u v,us=[u,v]/\RelV x u/\RelV y v
 | _,_,_,.cons r (.cons q .nil)=>⟨_,_,rfl,r,q⟩
section
variable{X:Cx}{pins:List (Addr×Obj)}{σ:St}{H:Hp}{s:Shared}{l b:Addr}{xs ys zs:List V}
theorem Inv.lset{its its':List Value}{n:Nat}{f:Array Value->Array Value}{t':Nat}(I:Inv X pins σ H s)(hH:H l=some (.lst xs))
 (e:s.heap.get? l=some { cls:=.type "list",data:=.seq its.toArray n }) (hf:f its.toArray=its'.toArray) (hv:Vals ys its') (hz:ys.length<=sizeLine) :
 Inv X pins σ (upd H l (.lst ys)) { s with heap:=s.heap.update l (Obj.mapSeq f),toks:=t' }:=by
 have q:=PySem.IsL.update e f
 rw[hf] at q
 refine I.write (x:=l) (e:=l) (by rw[hH];exact trivial) (.inl rfl) (fun b' u hb hu=>(Heap.get?_update_other s.heap (Obj.mapSeq f) (Ne.symm hb)).trans hu) ⟨_,q⟩ ?_
 exact⟨hz,its',_,hv,q⟩
theorem Inv.lnew{its:List Value}{t':Nat}(I:Inv X pins σ H s)(hv:Vals ys its)(hz:ys.length<=sizeLine) :
 Inv X pins σ (upd H s.heap.objs.size (.lst ys)) { s with heap:=s.heap.push { cls:=.type "list",data:=.seq its.toArray },toks:=t' } :=
 I.laid (fun _ _ q=>Heap.get?_push_of_some _ q) (Nat.le_refl _) ⟨hz,its,0,hv,Heap.get?_push_size _ rfl⟩
theorem Inv.fresh(I:Inv X pins σ H s):H s.heap.objs.size=none:=I.hok.fresh (Nat.le_refl _)
theorem Inv.lstM(I:Inv X pins σ H s)(hH:H l=some (.lst xs)):xs.length<=sizeLine/\∃ (its:List Value) (n:Nat),Vals xs its/\xs.length=its.length/\s.heap.get? l=some { cls:=.type "list",data:=.seq its.toArray n }:=by
 obtain⟨z,its,n,r,e⟩:=I.hok l _ hH
 exact⟨z,its,n,r,r.length,e⟩
end
section
variable{X:Cx}
def zi1:V->List V->Hp->VK->Prop:=fun x vs H Q=>∃ l xs y,x = .ref l/\vs=[y]/\H l=some (.lst xs)/\xs.length<sizeLine/\Q .non (upd H l (.lst (xs++[y])))
theorem zgb:MtM X "list.append" zi1:=by
 intro pins s σ H x vs v us Q I rx rv h
 obtain⟨l,xs,y,rfl,rfl,hH,hz,q⟩:=h
 cases rx
 obtain⟨u,rfl,ru⟩:=rv.one
 obtain⟨z,its,n,r,hl,e⟩:=I.lstM hH
 refine call_meets F.slot_list_append ⟨_,e,rfl⟩ F.entry_list_append (F.args_list_append_2 _ _) (PySem.list_append l its.toArray n u (by rw[List.size_toArray];omega)) ⟨e,?_⟩
 refine⟨.non,_,I.lset (its':=its++[u]) hH e (by simp) (r.append (.cons ru .nil)) ?_,rfl,q⟩
 rw[List.length_append,List.length_singleton]
 omega
def zqo:R2:=fun x y H Q=>∃ l b xs zs,x = .ref l/\y = .ref b/\H l=some (.lst xs)/\H b=some (.lst zs)/\xs.length+zs.length<=sizeLine/\∀ p,H p=none->Q (.ref p) (upd H p (.lst (xs++zs)))
theorem op_cat:OpR X (binaryOp .Add) zqo:=by
 intro pins s σ H x y v u Q I rx ry h
 obtain⟨l,b,xs,zs,rfl,rfl,hH,hB,hz,q⟩:=h
 cases rx
 cases ry
 obtain⟨z,its,n,r,hl,e⟩:=I.lstM hH
 obtain⟨z2,its2,n2,r2,hl2,e2⟩:=I.lstM hB
 refine PySem.P.add_list e e2 ?_ (by rw[List.size_toArray,List.size_toArray];omega)
 have ea:its.toArray++its2.toArray=(its++its2).toArray:=by simp
 rw[ea]
 exact⟨.ref _,_,I.lnew (t':=s.toks) (r.append r2) (by rw[List.length_append];omega),rfl,q _ I.fresh⟩
end
end L2
namespace Att
open PySem PySem.W PySem.Calls PyProof.Rows
theorem zeA{P:Params}{h:Heap}:∀ (ns:List Int) (vs:List Value),WellAll P h vs (ns.map WData.int)->IntsAre vs ns:=by
 intro ns
 induction ns with
 |nil =>
   intro vs w
   rw[List.map_nil] at w
   cases w
   exact .nil
 |cons n ns ih =>
   intro vs w
   rw[List.map_cons] at w
   cases w with
   |cons a b =>
     cases a
     exact .cons _ _ (ih _ b)
theorem zkL{l:OpenLaw}{n:Nat}(hn:l.most=some n){P:Params}{h:Heap}{args:List WData}{vals:List Value}
 (hpre:l.row.toRowW.claim.pre args=true) (hwl:WellAll P h vals args) :
 ∃ a vs ns,vals=[Value.ref a]/\args=[WData.list (ns.map WData.int)]/\h.get? a=some { cls:=.type "list",data:=.seq vs.toArray }/\IntsAre vs ns/\ns.length<=n:=by
 have hsh:WShape.hasAll [] args [.list .int]=true:=(pre_splitW hpre).1
 have hc:l.pre.holds [] { args:=args }=true:=(pre_splitW hpre).2
 obtain⟨d,r,rfl,h1,h2⟩:=hasAllW_cons hsh
 obtain rfl:=hasAllW_nil h2
 obtain⟨xs,rfl,h3⟩:=hasW_list h1
 obtain⟨ns,rfl⟩:=items_int h3
 have hlen:ns.length<=n:=by
  unfold OpenLaw.pre at hc
  have h4:(WTm.not (.lt (.lit (.int (n:Int))) (.len (.arg 0)))).holds [] { args:=[.list (ns.map .int)] }=true:=by
   have h4:=(holds_andW hc).1
   rw[hn] at h4
   exact h4
  have h5:=condW_of h4 (w_not (w_lt w_lit (w_len_list (w_arg rfl))))
  rw[List.length_map] at h5
  refine Nat.le_of_not_lt fun q=>?_
  have q':(n:Int)<((ns.length:Nat):Int):=by omega
  first
   | (rw[decide_eq_true q'] at h5;exact absurd h5 (by decide))
   | (simp at h5;omega)
 cases hwl with
 |cons w1 w2 =>
   cases w2
   cases w1 with
   |list ho hall=>exact⟨_,_,ns,rfl,rfl,ho,zeA ns _ hall,hlen⟩
theorem zkG(l:OpenLaw)(args:List WData):l.row.toRowW.claim.post args (.bool true) args=true :=
 postW_of (r:=l.row.toRowW) (X:=(true == true))
  (show WShape.has [] (.bool true) .bool=true by first | rfl | decide | simp[WShape.has,WShape.arms,WShape.armsAll])
  (show(WTm.eq .res (.lit (.bool true))).value [] { args:=args,res:=some (.bool true),after:=args }=some (.bool (true == true)) from w_eq_bool (w_res rfl) w_lit) rfl
theorem attach_call{l:OpenLaw}{n:Nat}{q:Program}{loose:List Str}{XP:(Str->Option Value)->Heap->Prop}{YP:World->Heap->Prop}{d:DefRec}
 (hn:l.most=some n) (hdf:d.params.defaults=[])
 (call:∀ (w:World) (s₀ s₁:Shared) (mg mb:Str->Option Value) (fa:Addr) (o:Obj) (pm cd doc:Value) (a:Addr) (vs:List Value) (ns:List Int),
  Ground q loose [] XP w s₀ mg mb s₁.heap->YP w s₁.heap ->
  s₁.heap.get? fa=some o->o.data = .func (docDef d.name d.params d.body d.scope pm cd doc)->s₁.heap.CodeRec cd d.name->mg d.name=some (.ref fa) ->
  s₁.heap.get? a=some { cls:=.type "list",data:=.seq vs.toArray }->IntsAre vs ns->ns.length<=n->s₁.gens = #[] ->
  codeAny (model l.prog w) callerA (.call (.ref fa) ⟨[.ref a],[]⟩) (fun r s'=>r = .ok (.ret (.bool true))/\OldK s₁.heap s'.heap/\s'.os=s₁.os/\AllBare s'.gens) s₁) :
 WalkO q loose XP YP l.row.toRowW d [] (fun f vs=>PySem.call f vs):=by
 intro w s₀ s₁ mg mb G Y fa o pm cd doc dV kV ho hd hcd hD hmg hg args vals as hpre hlay hrd hwl hlo
 obtain rfl:dV = .none:=Dflts.none hD hdf
 obtain rfl:kV = .none:=Dflts.noKw hD
 obtain⟨a,vs,ns,rfl,rfl,hobj,hints,hlen⟩:=zkL hn hpre hwl
 refine enter_call (codeAny_mono (call w s₀ s₁ mg mb fa o pm cd doc a vs ns G Y ho (fd_plain hd) hcd hmg hobj hints hlen hg) fun r s' hq=>?_)
 obtain⟨rfl,h2,h3,h4⟩:=hq
 exact⟨.inl ⟨.bool true,.bool true,[],rfl,fun _=>rfl,.bool true,zkG l _,fun _=>⟨List.Pairwise.nil,fun _ hm=>(nomatch hm)⟩⟩,h2,h3,h4⟩
end Att
namespace L2
open PySem PySem.Spec PyProof.Rows
theorem zf9:∀ {vs:List Value} {ns:List Int},IntsAre vs ns->Vals (ns.map V.int) vs
 | _,_,.nil=>.nil
 | _,_,.cons n t h=>.cons ⟨t,rfl⟩ (zf9 h)
def zpw(H:Hp):Prop:=∀ b,H b=none\/∃ o xs,H b=some (.frz o (.lst xs))
theorem zmS{P:Program}{w:World}{K:W.Frag}{mg mb:Str->Option Value}{CX:CXT}{k:Nat}{fa a:Addr}{fd:FuncData}{x:Str}{sp:Sp}{s₁:Shared}{vs:List Value}{ns:List Int}
 (KX:K.In s₁.heap) (hns:s₁.heap.Ns mainGlobals mg) (hb:s₁.heap.Ns builtinsNs mb) (hbb:∀ x:Str,x ≠ "__name__" -> mb x=bootBuiltins x) (hlim:s₁.heap.NoLimit) (hg:s₁.gens = #[])
 (ha:s₁.heap.get? a=some { cls:=.type "list",data:=.seq vs.toArray }) (hi:IntsAre vs ns) (hl:ns.length<=sizeLine) (hr:Room k callerA)
 (F:∀ base:Heap,K.In base->base.Ns mainGlobals mg->FnOk P w K mg base CX k fa fd [x] sp) (hbind:∀ (s:Shared) (u:Value),BindsTo s fd ⟨[u],[]⟩ [(x,u)])
 (hsp:∀ H:Hp,zpw H->SqL K H a (ns.map V.int)->sp [.ref a] H (fun v _=>v = .bl true) fun _ _ _=>False)
 (hCX:∀ H e s',CX [] H s₁ (fun _ _ _=>False) e s'->False) :
 codeAny (model P w) callerA (.call (.ref fa) ⟨[.ref a],[]⟩) (fun r s'=>r = .ok (.ret (.bool true))/\OldK s₁.heap s'.heap/\s'.os=s₁.os/\AllBare s'.gens) s₁:=by
 have rv:=zf9 hi
 have lenV:=hi.length
 have core:∀ H:Hp,zpw H->SqL K H a (ns.map V.int)->HOk P w H s₁.heap->(∀ b,H b≠none->b=a)->(H a≠none->K.lookup a=none) ->
  codeAny (model P w) callerA (.call (.ref fa) ⟨[.ref a],[]⟩) (fun r s'=>r = .ok (.ret (.bool true))/\OldK s₁.heap s'.heap/\s'.os=s₁.os/\AllBare s'.gens) s₁:=by
  intro H hO hS hok hA hK
  have base_of:∀ {b:Addr} {o:Obj},s₁.heap.get? b=some o->H b=none->(zgC s₁.heap H).get? b=some o:=fun e n=>zk0 e n
  have noA:∀ {b:Addr} {o:Obj} {es:Array DictEntry} {ep:Nat},s₁.heap.get? b=some o->o.data = .dict es ep->H b=none:=fun {b o es ep} e d=>by
   cases q:H b with
   |none=>rfl
   |some u =>
     have e':b=a:=hA b (by rw[q];simp)
     subst e'
     rw[ha] at e;cases e
     have d':Data.seq vs.toArray _=Data.dict es ep:=d
     cases d'
  have nsK:∀ {b:Addr} {m:Str->Option Value},s₁.heap.Ns b m->(zgC s₁.heap H).Ns b m:=fun {b m} ⟨o,es,ep,e,d,r⟩=>⟨o,es,ep,base_of e (noA e d),d,r⟩
  have hKb:K.In (zgC s₁.heap H):=fun b o e=>base_of (KX b o e) (by
   cases q:H b with
   |none=>rfl
   |some u =>
     have e':b=a:=hA b (by rw[q];simp)
     subst e'
     rw[hK (by rw[q];simp)] at e;cases e)
  have hM:Mod K mg (zgC s₁.heap H):=⟨hKb,nsK hns,⟨mb,nsK hb,hbb⟩,let ⟨mc,h1,h2⟩:=hlim; ⟨mc,nsK h1,h2⟩⟩
  have e0:Env0 P w K mg (zgC s₁.heap H) callerA [] s₁ H:=⟨rfl,hM,fun b o e=>zoi e,Nat.le_of_eq (zkl _ _),trivial,fun b hb=>absurd (show b∈([]:List Addr) from hb) (by simp),hok,.of_eq hg⟩
  refine codeAny_mono ((F _ hKb (nsK hns)).run callerA [] s₁ H ⟨[.ref a],[]⟩ [.ref a] [.ref a] _ _ hr e0 (hbind s₁ (.ref a)) (.cons rfl .nil) (hsp H hO hS)) fun r s' h=>?_
  cases r with
  |error e=>exact(hCX H e s' h).elim
  |ok fl =>
    cases fl with
    |next=>exact False.elim h
    |brk=>exact False.elim h
    |cont=>exact False.elim h
    |ret u =>
      obtain⟨v,H',os,bare,un,hok',r',q⟩:=h
      have q':v = .bl true:=q
      subst q'
      obtain rfl:u=Value.bool true:=r'
      refine⟨rfl,OldK.of_keep fun b o e=>?_,os,bare⟩
      cases q:H b with
      |none=>exact un.keep b o e q (by intro z;exact absurd (show b∈([]:List Addr) from z) (by simp)) (by simp)
      |some u =>
        rcases hO b with z | ⟨ob,xs,z⟩
        · rw[q] at z;cases z
        · have z2:=un.frzs b ob _ z
          obtain⟨e1,_⟩:=hok b _ z
          obtain⟨e2,_⟩:=hok' b _ z2
          rw[e] at e1;cases e1
          exact e2
 cases hk:K.lookup a with
 |some o =>
   have e:=KX a o hk
   rw[ha] at e
   cases e
   refine core (fun _=>none) (fun _=>.inl rfl) (.inr ⟨_,vs.toArray,_,hk,rfl,rfl,rfl,by rw[List.size_toArray,lenV];exact hl,by simpa using rv⟩) (fun b u z=>by have z':(none:Option HO)=some u:=z;cases z') (fun b z=>absurd rfl z) fun z=>absurd rfl z
 |none =>
   refine core (fun b=>if b=a then some (.frz { cls:=.type "list",data:=.seq vs.toArray } (.lst (ns.map V.int))) else none) (fun b=>?_) (.inl (.inr ⟨{ cls:=.type "list",data:=.seq vs.toArray },if_pos rfl⟩)) (fun b u z=>?_) (fun b z=>?_) fun _=>hk
   · by_cases hb:b=a
     · exact .inr ⟨_,_,if_pos hb⟩
     · exact .inl (if_neg hb)
   · by_cases hb:b=a
     · have z':=(if_pos hb).symm.trans z
       cases z'
       subst hb
       exact⟨ha,by rw[List.length_map];exact hl,vs,_,rv,ha⟩
     · have z':=(if_neg hb).symm.trans z
       cases z'
   · by_cases hb:b=a
     · exact hb
     · exact absurd (if_neg hb) z
theorem walk_of{l:W.OpenLaw}{n k:Nat}{q:Program}{loose:List Str}{XP:(Str->Option Value)->Heap->Prop}{YP:World->Heap->Prop}{d:DefRec}{K:Params->W.Frag}{CX:World->CXT}{sp:World->Sp}{x:Str}
 (hn:l.most=some n) (hn2:n<=sizeLine) (hdf:d.params.defaults=[]) (hr:Room k callerA)
 (hY:∀ (w:World) (h:Heap),YP w h->(K w.params).In h)
 (F:∀ (w:World) (mg:Str->Option Value) (fa:Addr) (h:Heap),(K w.params).In h->h.Ns mainGlobals mg->mg d.name=some (.ref fa) ->
  ∃ fd:FuncData,(∀ (s:Shared) (u:Value),BindsTo s fd ⟨[u],[]⟩ [(x,u)]) /\
   ∀ base:Heap,(K w.params).In base->base.Ns mainGlobals mg->FnOk l.prog w (K w.params) mg base (CX w) k fa fd [x] (sp w))
 (hsp:∀ (w:World) (H:Hp) (a:Addr) (ns:List Int),ns.length<=n->zpw H->SqL (K w.params) H a (ns.map V.int)->sp w [.ref a] H (fun v _=>v = .bl true) fun _ _ _=>False)
 (hCX:∀ (w:World) (H:Hp) (s:Shared) (e:Value) (s':Shared),CX w [] H s (fun _ _ _=>False) e s'->False) :
 W.WalkO q loose XP YP l.row.toRowW d [] (fun f vs=>PySem.call f vs):=by
 refine Att.attach_call hn hdf fun w s₀ s₁ mg mb fa o pm cd doc a vs ns G Y ho hd hcd hmg hobj hints hlen hg=>?_
 have KX:=hY w _ Y
 obtain⟨fd,hb,hF⟩:=F w mg fa _ KX G.T.g hmg
 exact zmS KX G.T.g G.T.b G.T.builtins G.T.nolimit hg hobj hints (Nat.le_trans hlen hn2) hr hF hb (fun H hO hS=>hsp w H a ns hlen hO hS) fun H e s'=>hCX w H s₁ e s'
def inClass(s:Stmt)(j:Nat):Stmt:=match s with
 | .ClassDef _ _ _ body _ _ _ _ _ _ _=>body.getD j (.Pass ⟨0,0,0,0⟩)
 | _=>.Pass ⟨0,0,0,0⟩
def defArgs(s:Stmt):Arguments:=match s with
 | .FunctionDef _ a _ _ _ _ _ _ _ _=>a
 | _=>{ posonlyargs:=[],args:=[],vararg:=none,kwonlyargs:=[],kw_defaults:=[],kwarg:=none,defaults:=[] }
def defBody(s:Stmt):List Stmt:=match s with
 | .FunctionDef _ _ b _ _ _ _ _ _ _=>b
 | _=>[]
def defScope(s:Stmt):Scope:=match s with
 | .FunctionDef _ _ _ _ _ _ sc _ _ _=>sc
 | _=>{ kind:=.function,names:=[],isGenerator:=false,isCoroutine:=false }
abbrev CX0:CXT:=fun _ _ _ _ _ _=>False
abbrev E0:XK:=fun _ _ _=>False
theorem zjJ{X:Cx}:zgR CX0 X E0:=fun _ _ _ _ _ _ _ h=>h.elim
structure Fun(K:W.Frag)(x qual:Str)(st:Stmt)(f:Addr)(fd:FuncData):Prop where
 ex:∃ (oc:Value) (od:Option Addr) (kV doc pm:Value) (an:Option Addr) (cdv ct:Value) (osl:Array (Option Value)),
  fd=W.fnOf x qual (defArgs st) (defBody st) (defScope st) .none kV doc pm an cdv ct/\K.lookup f=some ⟨oc,od,.func fd,osl⟩/\W.codeIn K cdv qual=true
 kp:W.keepIn K (.ref f)=true
section
variable{P:Program}{w:World}{K:W.Frag}{mg:Str->Option Value}{base:Heap}
theorem Fun.ok{x qual:Str}{st:Stmt}{f:Addr}{fd:FuncData}{N ps:List Str}{k:Nat}{sp:Sp}(F:Fun K x qual st f fd)(S:FnScope N ps (defScope st))(len:∀ vs H Q E,sp vs H Q E->vs.length=ps.length)
 (hbody:∀ (cdv:Value) (A:Around) (outer:List Env) (s:Shared) (H:Hp) (vs:List V) (Q:VK) (E:XK),Room k (A.deeper (envOfC qual (defScope st) s.heap.objs.size f cdv))->sp vs H Q E ->
  ∃ t,PSs (zcG CX0 P w K mg base N qual (defScope st) f cdv A outer s H E).nox (defBody st) t/\t { nx:=fun _ H'=>Q .non H',rt:=Q } (start N vs) H):FnOk P w K mg base CX0 (k+1) f fd ps sp:=by
 obtain⟨oc,od,kV,doc,pm,an,cdv,ct,osl,rfl,lk,hcd⟩:=F.ex
 refine zmG lk hcd S len fun A outer s H vs Q E hr hsp=>?_
 obtain⟨t,h,q⟩:=hbody cdv A outer s H vs Q E hr hsp
 exact⟨t,h.nox,q⟩
theorem Fun.binds{x qual:Str}{st:Stmt}{f:Addr}{fd:FuncData}{ps:List Str}(F:Fun K x qual st f fd)
 (h:∀ (kV doc pm:Value) (an:Option Addr) (cdv ct:Value) (us:List Value),us.length=ps.length->bindArgs (W.fnOf x qual (defArgs st) (defBody st) (defScope st) .none kV doc pm an cdv ct) ⟨us,[]⟩=pure (ps.zip us)):Binds K fd ps []:=by
 obtain⟨oc,od,kV,doc,pm,an,cdv,ct,osl,rfl,lk,hcd⟩:=F.ex
 exact .all (h kV doc pm an cdv ct)
theorem fun_mk{x qual:Str}{st:Stmt}{f:Addr}{oc:Value}{od an:Option Addr}{osl:Array (Option Value)}{kV doc pm cdv ct:Value}(l:K.lookup f=some ⟨oc,od,.func (W.fnOf x qual (defArgs st) (defBody st) (defScope st) .none kV doc pm an cdv ct),osl⟩)
 (c:W.codeIn K cdv qual=true) (k:W.keepIn K (.ref f)=true):Fun K x qual st f (W.fnOf x qual (defArgs st) (defBody st) (defScope st) .none kV doc pm an cdv ct):=⟨⟨oc,od,kV,doc,pm,an,cdv,ct,osl,rfl,l,c⟩,k⟩
end
section
variable{X:Cx}
theorem pv(i:Nat){x:Str}{pos:Pos}(hN:X.N[i]? = some x:=by rfl)(hv:Vis X.env.scope x:=by first | exact Or.inl rfl | exact Or.inr (Or.inl rfl) | exact Or.inr (Or.inr rfl))(hd:(x == ("__debug__" : Str))=false:=by decide)
 (hcd:(x == ("__classdict__" : Str))=false:=by decide):PE X (.Name x pos) (zfG i):=zpr hN hv hd hcd
end
theorem zeu{A B:Prop}(h:B):if false=true then A else B:=by
 rw[if_neg Bool.false_ne_true]
 exact h
theorem zeg{A B:Prop}(h:A):if true=true then A else B:=by
 rw[if_pos rfl]
 exact h
def Same(H H':Hp):Prop:=∀ b o,H b=some o->H' b=some o
theorem Same.refl(H:Hp):Same H H:=fun _ _ h=>h
theorem Same.trans{H H1 H2:Hp}(a:Same H H1)(b:Same H1 H2):Same H H2:=fun c o h=>b c o (a c o h)
theorem Same.free{H H':Hp}(e:Same H H'){l:Addr}(h:H' l=Option.none):H l=Option.none:=by
 cases q:H l with
 |none=>rfl
 |some o =>
   rw[e l o q] at h
   cases h
theorem Same.seq{K:W.Frag}{H H':Hp}{a:Addr}{xs:List V}(e:Same H H')(h:SqL K H a xs):SqL K H' a xs:=by
 rcases h with (h | ⟨o,h⟩) | h
 · exact .inl (.inl (e _ _ h))
 · exact .inl (.inr ⟨o,e _ _ h⟩)
 · exact .inr h
end L2
namespace Ex
open PySem PySem.Spec PyProof.Rows PySem.W
structure XB(B ini:String)(up:List Value):Prop where
 mroIs:mroOf (.type B)=pure up
 hasB:up.contains (.type B)=true
 noAttr:up.contains (.type "AttributeError")=false
 noName:up.contains (.type "NameError")=false
 slot:Slot B "__init__" ini
 entry:entryFor table ini=some Builtin.«BaseException.__init__»
 split:splitId ini=some (B,"__init__")
 kind:builtinKind ini=some .slot
 row:Manifest.signature? ini=some ⟨.positional,"*",B,.self,[⟨"args",.varPos,false⟩]⟩
 star:(B != "*")=true
theorem XB.of{B nw ini:String}{up:List Value}(f:ExcBaseFacts B nw ini up):XB B ini up:=⟨f.mroIs,f.hasB,f.noAttr,f.noName,f.init,f.initEntry,f.initSplit,f.initKind,f.initRow,f.noStar⟩
def zd2(h:Heap)(C:Addr)(as:List Value):Heap :=
 (h.push { cls:=.type "tuple",data:=.seq as.toArray }).push { cls:=.ref C,data:=.fields #[.ref h.objs.size,.none,.none,.none,.bool false,.none] }
theorem zb5{h:Heap}{C:Addr}{as:List Value}:∀ b o,h.get? b=some o->(zd2 h C as).get? b=some o:=fun b o e=>Heap.get?_push_of_some _ (Heap.get?_push_of_some _ e)
theorem zfQ{h:Heap}{C:Addr}{as:List Value}:(zd2 h C as).get? (h.objs.size+1)=some { cls:=.ref C,data:=.fields #[.ref h.objs.size,.none,.none,.none,.bool false,.none] } :=
 Heap.get?_push_at (by rw[Heap.size_push]) rfl
section
variable{prog:Program}{w:World}{A:Around}{E:Value->Shared->Prop}{h:Heap}{g:Array GenState}{d:Drawn}{t:Nat}{os:OsState}{nm qn:Str}{C N:Addr}{bs tl up un:List Value}{hd:Bool}{sn:List Str}{sub:List Value}{ab:Bool}{col:Option Bool}
 {dd:Option Addr} {j0 j1 j2 j3 j5:Option Value} {B D nw ini iniD:String} {K:Frag} {fI:Addr} {as:List Value}
theorem zod{R:Result->Shared->Prop}(fn:ExcBaseFacts D nw iniD un)(hD:up.contains (.type D)=true)(F:XB B ini up)(T:OwnTail h up tl)(hC:h.get? C=some (excClassObj nm qn C N bs tl hd sn sub ab col dd j0 j1 j2 j3 j5 nw))
 (hl:as.length<=sizeLine) (q:R (.ok (.ret (.ref (h.objs.size+1)))) ⟨zd2 h C as,g,d,t,os⟩):codeAny (model prog w) A (.builtin nw ⟨.ref C::as,[]⟩) R ⟨h,g,d,t,os⟩:=by
 have isIn:∀ {n:String} {b:Bool},up.contains (.type n)=b->(Value.ref C::tl).contains (.type n)=b:=fun {n b} e=>by rw[List.contains_cons,T.hasType e];exact Bool.false_or _
 have c1:=isIn hD;have c2:=isIn F.noAttr;have c3:=isIn F.noName;have ends:=fn.ends
 apply codeAny_builtinAt fn.entry
 delta Builtin.«BaseException.__new__»
 apply PySem.wpAt_bind
 change PySem.wpAt _ _ _ (stack >>= _) _ _ _
 apply PySem.wpAt_bind;apply PySem.wpAt_stack;intro p below;apply PySem.wpAt_of_wpAny
 wp_walk
 apply PySem.wpAt_of_wpAny
 rw[fn.owner]
 repeat (first
  | (with_reducible apply wpAny_madeHere_exc fn.canon hC)
  | (with_reducible apply wpAny_loadPart_at hC)
  | (with_reducible apply wpAny_isSubtype_exc hC;first | rw[c1] | rw[c2] | rw[c3])
  |wp_step)
 change R _ _
 rw[Heap.size_push]
 exact q
theorem zll{Q:Value->Shared->Prop}{iv:Value}(fn:ExcBaseFacts D nw iniD un)(hD:up.contains (.type D)=true)(F:XB B ini up)(T:OwnTail h up tl)(X:K.In h)(hC:h.get? C=some (excClassObj nm qn C N bs tl hd sn sub ab col dd j0 j1 j2 j3 j5 nw))
 (at_:findIn K (.ref C) "__init__" = some (some iv)) (bd:Looks (model prog w) (zd2 h C as) (bindSpecial iv (.ref (h.objs.size+1))) (iv,[.ref (h.objs.size+1)])) (hl:as.length<=sizeLine)
 (q:wpAny (model prog w) (A.under (.builtin "type.__call__" ⟨.ref C::as,[]⟩)) (call iv (.ref (h.objs.size+1)::as)) (fun r s'=>r = .none/\Q (.ref (h.objs.size+1)) s') E ⟨zd2 h C as,g,d,t,os⟩) :
 wpAny (model prog w) A (call (.ref C) as) Q E ⟨h,g,d,t,os⟩:=by
 have look:=tc_lookup;have bnd:=tc_bind (.ref C)
 have tyC:(⟨h,g,d,t,os⟩:Shared).TypeIs (.ref C) "type" := ⟨_,hC,rfl⟩
 have X':K.In (zd2 h C as):=X.keeps zb5
 have hC':=zb5 (as:=as) (C:=C) _ _ hC
 have self:(Value.ref C::tl).contains (.ref C)=true:=by rw[List.contains_cons,beq_self_eq_true];exact Bool.true_or _
 apply wpAny_call;apply codeAny_of_tree
 change wpAny _ _ (callAny (.ref C) _) _ _ _
 repeat (any_goals (first | assumption | (with_reducible apply wpAny_loadPart_at hC) | wp_step))
 constructor
 · rfl
 apply codeAny_call_builtin_at (Code.quiet_builtin _ (by decide +kernel)) entry_typeCall
 apply wpAny_check_type_call_sub hC
 repeat (first | (with_reducible apply wpAny_loadPart_at hC) | (with_reducible apply wpAny_madeBy_exc hC) | wp_step)
 apply codeAny_call_builtin_code (Code.quiet_builtin _ fn.quiet)
 apply wpAny_check_new_subU fn hD T hC
 apply zod fn hD F T hC hl
 change wpAny _ _ _ _ _ _
 delta isInstance
 repeat (first | (with_reducible apply wpAny_loadPart_at zfQ) | (with_reducible apply wpAny_isSubtype_exc hC';rw[self]) | wp_step)
 change wpAny _ _ (typeLookup (.ref C) _) _ _ _
 apply (looks_findIn X' at_).here (s:=⟨_,g,d,t,os⟩)
 apply wpAny_holding;apply wpAny_bind
 apply bd.here (s:=⟨_,g,d,t,os⟩)
 apply wpAny_bind
 apply wpAny_mono q
 · rintro r s' ⟨rfl,k⟩
   wp_walk
   exact k
 · exact fun _ _ z=>z
end
end Ex
namespace Ex
open PySem PySem.Spec PyProof.Rows PySem.W PySem.Calls Builtin Builtin.ObjectAttr
structure XC(K:Frag)(C:Addr):Prop where
 ga:findIn K (.ref C) "__getattribute__" = some (some (.builtin "BaseException.__getattribute__"))
 gt:findIn K (.ref C) "__getattr__" = some none
 sa:findIn K (.ref C) "__setattr__" = some (some (.builtin "object.__setattr__"))
 be:mroIn K C (.type "BaseException")=some true
 ob:mroIn K C (.type "object")=some true
 pass:∃ cd,clsIn K C=some cd/\cd.hasDict=true/\∀ self,refuseLoop self "__setattr__" cd.mro=pure ()
 ca:findIn K (.ref C) "__class__" = some (some (.builtin "object.__class__"))
 cg:specialIn K (.builtin "object.__class__") "__get__" = some (some (.builtin "getset_descriptor.__get__"))
 ct:takesIn K (.builtin "object.__class__")=some true
 kc:kitCls K (.ref C) (.ref C)=some true
section
variable{prog:Program}{w:World}{A:Around}{E:Value->Shared->Prop}{s:Shared}{K:Frag}{x C:Addr}{ox:Obj}{od:Option Obj}{n:Str}{ex fl:Bool}{tk:Tok}
theorem xby{Q:Value->Shared->Prop}(X:K.In s.heap)(I:InstAt s.heap x ox C od)(c:XC K C)
 (k:wpAny (model prog w) A.in1 (Builtin.«object.__getattribute__» ⟨[.ref x,.str n tk],[]⟩) (fun r s'=>∃ v,r = .done (.ret v)/\wpAny (model prog w) A (handedOut v) Q E s') (fun _ _=>False) s) :
 wpAny (model prog w) A (getAttrBy (.ref x) (.str n tk) fl ex) Q E s:=by
 have noObj:(Value.builtin "BaseException.__getattribute__" == Value.builtin "object.__getattribute__")=false:=by decide +kernel
 have SL:=PySem.F.attr_ValueError.ga
 have hook:Looks (model prog w) s.heap (hookBefore (.ref C)) none:=looks_hook X (mc:=.ref C) (show findIn K (.ref C) "__getattr__" = some none from c.gt)
 apply wpAny_holding;apply wpAny_bind;apply I.type.here;apply wpAny_bind;apply (looks_findIn X c.ga).here
 dsimp only
 rw[noObj,Bool.and_false,if_neg Bool.false_ne_true]
 apply wpAny_bind;apply hook.here;apply wpAny_bind;apply wpAny_attempt;apply wpAny_holding
 unfold callGetattribute
 rw[show(ex && onTheHeap (Value.builtin "BaseException.__getattribute__"))=false from Bool.and_false ex,if_neg Bool.false_ne_true]
 unfold boundAndCalled
 rw[SL.bind]
 apply wpAny_bind;apply wpAny_pure
 change wpAny _ _ (call (.builtin "BaseException.__getattribute__") [.ref x,.str n tk]) _ _ _
 apply wpAny_call;apply codeAny_call_builtin SL.plain PySem.F.entry_bexc_ga
 apply @check_slot (model prog w) A.in1 _ s "BaseException.__getattribute__" "BaseException" "__getattribute__" (.ref x) [.str n tk] []
 · decide +kernel
 · decide +kernel
 · exact I.type.andThen (looks_mroIn X c.be)
 · exact PySem.F.args_bexc_ga _ _
 · exact wpAny_mono k (fun r s' ⟨v,e,z⟩=>by subst e;exact z) fun _ _ z=>z.elim
theorem zrN{v:Value}{Q:Value->Shared->Prop}(X:K.In s.heap)(I:InstAt s.heap x ox C od)(c:XC K C)(hf:findObj K C od n=some (.value v))(hh:handedIn v=true)(q:Q v { s with toks:=s.toks+1 }) :
 wpAny (model prog w) A (getAttr (.ref x) n ex) Q E s:=by
 apply wpAny_bind;apply wpAny_mkText
 apply xby (s:={ s with toks:=s.toks+1 }) X I c
 delta Builtin.«object.__getattribute__»
 apply wpAny_bind;apply wpAny_pure;apply wpAny_bind;apply wpAny_pure
 apply wpAny_bind;apply I.type.here (s:={ s with toks:=s.toks+1 })
 apply wpAny_bind;apply (looks_find X I hf).here (s:={ s with toks:=s.toks+1 })
 exact wpAny_pure ⟨v,rfl,by rw[handedOut_of hh];exact wpAny_pure q⟩
theorem zo1{Q:Option Value->Shared->Prop}(X:K.In s.heap)(I:InstAt s.heap x ox C od)(c:XC K C)(q:Q (some (.ref C)) { s with toks:=s.toks+1 }):wpAny (model prog w) A (getAttr? (.ref x) "__class__") Q E s:=by
 obtain⟨cd,hc,_,_⟩:=c.pass
 have fnd:findObj K C od "__class__" = some (.bind (.builtin "getset_descriptor.__get__") (.builtin "object.__class__")):=by
  unfold findObj
  rw[hc,Option.bind_some,c.ca,Option.bind_some];dsimp only
  rw[c.cg,Option.bind_some];dsimp only
  rw[c.ct,Option.bind_some]
 apply wpAny_bind;apply wpAny_mkText;apply wpAny_bind;apply wpAny_attempt
 apply xby (s:={ s with toks:=s.toks+1 }) X I c
 delta Builtin.«object.__getattribute__»
 apply wpAny_bind;apply wpAny_pure;apply wpAny_bind;apply wpAny_pure
 apply wpAny_bind;apply I.type.here (s:={ s with toks:=s.toks+1 })
 apply wpAny_bind;apply (looks_find X I fnd).here (s:={ s with toks:=s.toks+1 })
 change wpAny _ _ (holding [_] (call (.builtin "getset_descriptor.__get__") [.builtin "object.__class__",.ref x,.ref C]) >>= ret) _ _ _
 apply wpAny_bind;apply wpAny_holding;apply wpAny_call
 exact class_get (s:={ s with toks:=s.toks+1 }) (ox:=ox) (od:=od) X I c.ob (wpAny_pure ⟨_,rfl,handed_on rfl (wpAny_pure q)⟩)
end
theorem zmX{K:Frag}{x C:Addr}(c:XC K C):KitX K (.ref x) (.ref C) (fun h=>∃ ox od,InstAt h x ox C od) where
 ty:=fun _ _ _ ⟨_,_,I⟩=>I.type
 it:=fun _ _ X _=>(kit_cls X c.kc).2.1
 ne:=fun h tp _ _ _ _ X e=>by
  obtain⟨cd,hc,_⟩:=c.pass
  cases z:(Value.ref C == Value.ref tp) with
  |false=>rfl
  |true =>
    cases beq_iff_eq.mp z
    unfold clsIn at hc
    split at hc
    · rename_i a
      cases (X _ _ a).symm.trans e
    · cases hc
 ca:=fun X ⟨_,_,I⟩ k=>zo1 X I c k
section
variable{prog:Program}{w:World}{A:Around}{E:Value->Shared->Prop}{s:Shared}{K:Frag}{x C:Addr}{ox:Obj}{od:Option Obj}{n:Str}{v:Value}
theorem zlA{Q:Unit->Shared->Prop}(X:K.In s.heap)(I:InstAt s.heap x ox C od)(c:XC K C)(none_:findIn K (.ref C) n=some none)
 (k:wpAny (model prog w) A.in1 (storeInOwnDict (.ref x) (.ref C) (.str n s.toks) n v false) (fun r s'=>∃ u,r = .done (.ret u)/\Q () s') E { s with toks:=s.toks+1 }):wpAny (model prog w) A (setAttr (.ref x) n v) Q E s:=by
 have SO:=PySem.F.store_object
 obtain⟨cd,hc,_,pass⟩:=c.pass
 apply set_plain X I c.sa
 apply codeAny_call_builtin SO.slot.plain SO.entry
 apply @check_slot (model prog w) A.in1 _ { s with toks:=s.toks+1 } "object.__setattr__" "object" "__setattr__" (.ref x) [.str n s.toks,v] [] _ SO.kind SO.split
 · exact I.type.andThen (looks_mroIn X c.ob)
 · exact SO.args _ _ _
 rw[osa_eq,refuse_eq]
 apply wpAny_bind;apply wpAny_bind;apply I.type.here (s:={ s with toks:=s.toks+1 })
 apply wpAny_bind;apply ((looks_clsIn X hc).andThen .now:Looks (model prog w) s.heap (mroOf (.ref C)) cd.mro).here (s:={ s with toks:=s.toks+1 })
 rw[pass]
 apply wpAny_pure;apply wpAny_bind;apply I.type.here (s:={ s with toks:=s.toks+1 })
 apply wpAny_bind;apply (looks_findIn X none_).here (s:={ s with toks:=s.toks+1 })
 apply wpAny_bind;apply wpAny_pure
 exact wpAny_mono k (fun r s' ⟨u,e,z⟩=>by subst e;exact z) fun _ _ z=>z
theorem zhh{R:Fin->Shared->Prop}{dx:Addr}{mA:Str->Option Value}{ks:List Str}{tk:Tok}(N:s.heap.Ns1 dx mA)(W:Within mA ks)(few:ks.length<sizeLine)
 (k:∀ h' tk',Heap.SameBut dx s.heap h'->h'.Ns1 dx (fun y=>if y=n then some v else mA y)->R (.done (.ret .none)) { s with heap:=h',toks:=tk' }):wpAny (model prog w) A (storeInDict dx (.str n tk) n v) R E s:=by
 unfold storeInDict newKeyGuard;apply wpAny_bind;apply wpAny_pure;apply wpAny_bind;apply wpAny_nsSet1 N
 intro h' N' sb
 obtain⟨o,es,ep,ho,hd,le⟩:=N'.count (Within.cons n v W)
 apply wpAny_bind
 apply wpAny_lookBehind ho
 · rw[hd];apply pastItsLine_dict;rw[List.length_cons] at le;omega
 · exact wpAny_pure (k h' _ sb N')
theorem zjI(hx:s.heap.get? x=some ox)(cl:ox.cls = .ref C){vs:Array Value}(hd:ox.data = .fields vs)(dict:match ox.dict,od with | some dx,some o=>s.heap.get? dx=some o | none,none=>True | _,_=>False):InstAt s.heap x ox C od :=
 ⟨hx,cl,by unfold notCls;rw[hd],dict⟩
theorem zqH{Q:Unit->Shared->Prop}{vs:Array Value}(X:K.In s.heap)(hx:s.heap.get? x=some ox)(cl:ox.cls = .ref C)(hd:ox.data = .fields vs)(nod:ox.dict=none)(c:XC K C)(none_:findIn K (.ref C) n=some none)
 (k:∀ h' tk',(∀ b o,b≠x->s.heap.get? b=some o->h'.get? b=some o)->h'.get? x=some { ox with dict:=some s.heap.objs.size }->h'.Ns1 s.heap.objs.size (fun y=>if y=n then some v else none)->Q () { s with heap:=h',toks:=tk' }) :
 wpAny (model prog w) A (setAttr (.ref x) n v) Q E s:=by
 obtain⟨cd,hc,own,_⟩:=c.pass
 apply zlA (od:=none) X (zjI hx cl hd (by rw[nod];trivial)) c none_
 obtain⟨p1,p2,p3,osl⟩:=ox
 dsimp only at cl hd nod
 subst cl hd nod
 obtain⟨h,g,d,t,os⟩:=s
 dsimp only at hx X k
 have new:x≠h.objs.size:=Nat.ne_of_lt (Heap.lt_size hx)
 have hx2:=Heap.get?_push_of_some emptyDict hx
 unfold storeInOwnDict
 apply wpAny_bind;apply wpAny_pure
 rw[if_neg (show ¬ ((Value.ref C == Value.type "module")=true) by intro z;cases beq_iff_eq.mp z)]
 change wpAny _ _ (instanceDict x true >>= _) _ _ _
 unfold instanceDict
 apply wpAny_bind;apply wpAny_bind;apply wpAny_loadPart_at hx;dsimp only
 apply wpAny_bind;apply (looks_clsIn X hc).here (s:=⟨h,g,d,t+1,os⟩)
 rw[own,if_neg (by decide)]
 rw[if_neg (show ¬ ((!true || !typeHasDict (.ref C))=true) from Bool.false_ne_true)]
 apply wpAny_bind;apply wpAny_alloc;apply wpAny_bind;apply wpAny_update hx2;apply wpAny_pure
 have gx:((h.push emptyDict).update x fun o=>{ o with dict:=some h.objs.size }).get? x=some ⟨.ref C,some h.objs.size,.fields vs,osl⟩:=Heap.get?_update_self _ hx2 rfl
 have gd:((h.push emptyDict).update x fun o=>{ o with dict:=some h.objs.size }).get? h.objs.size=some emptyDict:=by
  rw[Heap.get?_update_other _ _ new];exact Heap.get?_push_size h rfl
 apply zhh (ks:=[]) (Heap.Ns1.of_empty ⟨_, #[],_,gd,rfl,(by intro e he;exact absurd he (by simp)),fun _=>rfl⟩) Within.nil (by rw[sizeLine_eq];decide)
 intro h' tk' sb N
 refine⟨_,rfl,k h' tk' (fun b o ne e=>?_) ((sb.2 x new).trans gx) N⟩
 rw[sb.2 b (Nat.ne_of_lt (Heap.lt_size e)),Heap.get?_update_other _ _ (Ne.symm ne)]
 exact Heap.get?_push_of_some emptyDict e
theorem zqm{Q:Unit->Shared->Prop}{vs:Array Value}{dx:Addr}{mA:Str->Option Value}{ks:List Str}(X:K.In s.heap)(hx:s.heap.get? x=some ox)(cl:ox.cls = .ref C)(hd:ox.data = .fields vs)(hdx:ox.dict=some dx)(N:s.heap.Ns1 dx mA)(W:Within mA ks)(few:ks.length<sizeLine)
 (c:XC K C) (none_:findIn K (.ref C) n=some none) (k:∀ h' tk',Heap.SameBut dx s.heap h'->h'.Ns1 dx (fun y=>if y=n then some v else mA y)->Q () { s with heap:=h',toks:=tk' }):wpAny (model prog w) A (setAttr (.ref x) n v) Q E s:=by
 obtain⟨cd,hc,own,_⟩:=c.pass
 obtain⟨oD,hD,_⟩:=L2.lookIn_ns N
 apply zlA (od:=some oD) X (zjI hx cl hd (by rw[hdx];exact hD)) c none_
 obtain⟨p1,p2,p3,osl⟩:=ox
 dsimp only at cl hd hdx
 subst cl hd hdx
 obtain⟨h,g,d,t,os⟩:=s
 dsimp only at hx X k N
 unfold storeInOwnDict
 apply wpAny_bind;apply wpAny_pure
 rw[if_neg (show ¬ ((Value.ref C == Value.type "module")=true) by intro z;cases beq_iff_eq.mp z)]
 change wpAny _ _ (instanceDict x true >>= _) _ _ _
 unfold instanceDict
 apply wpAny_bind;apply wpAny_bind;apply wpAny_loadPart_at hx;dsimp only
 apply wpAny_bind;apply (looks_clsIn X hc).here (s:=⟨h,g,d,t+1,os⟩)
 rw[own,if_neg (by decide)]
 apply wpAny_pure
 apply zhh (s:=⟨h,g,d,t+1,os⟩) N W few
 exact fun h' tk' sb N'=>⟨_,rfl,k h' tk' sb N'⟩
theorem zqY{B ini:String}{up:List Value}{Q:Value->Shared->Prop}{vs:Array Value}{as:List Value}{t0:Addr}(F:XB B ini up)(X:K.In s.heap)(I:InstAt s.heap x ox C od)(c:XC K C)(sub:mroIn K C (.type B)=some true)(hd:ox.data = .fields vs)(v0:vs[0]? = some (.ref t0))(few:as.length<=sizeLine)
 (k:∀ h',(∀ b o,b≠x->s.heap.get? b=some o->h'.get? b=some o)->h'.get? x=some { ox with data:=.fields (vs.setIfInBounds 0 (.ref s.heap.objs.size)) }->Q .none { s with heap:=h' }):wpAny (model prog w) A (call (.builtin ini) (.ref x::as)) Q E s:=by
 have isB:Looks (model prog w) s.heap (isInstance (.ref x) (.type B)) true:=I.type.andThen (looks_mroIn X sub)
 obtain⟨cd,hc,_,_⟩:=c.pass
 have lc:=looks_clsIn (M:=model prog w) X hc
 have hx:=I.at_;have cl:=I.cls
 obtain⟨h,g,d,t,os⟩:=s
 obtain⟨p1,p2,p3,p4⟩:=ox
 dsimp only at cl hd hx isB k
 subst cl hd
 have pos:0<vs.size:=(Array.getElem?_eq_some_iff.mp v0).1
 have hx2:=Heap.get?_push_of_some { cls:=.type "tuple",data:=.seq as.toArray } hx
 have anyArgs:∀ (a b:String) (m:Nat),Bind.check ⟨.positional,"*",B,.self,[⟨"args",.varPos,false⟩]⟩ a b m (List.map (·.fst) ({ pos:=Value.ref x::as }:Args).kw)=pure ():=fun _ _ _=>check_star_args _ _ _ _ _ _
 have last:Q .none ⟨(h.push { cls:=.type "tuple",data:=.seq as.toArray }).update x (Obj.mapFields (·.setIfInBounds 0 (.ref h.objs.size))),g,d,t,os⟩:=k _ (fun b o ne e=>by rw[Heap.get?_update_other _ _ (Ne.symm ne)];exact Heap.get?_push_of_some _ e) (Heap.get?_update_self _ hx2 rfl)
 have notStar:=F.star
 apply wpAny_call;apply codeAny_call_builtin F.slot.plain F.entry
 simp only[F.kind,F.split,F.row,checkBuiltinCall]
 apply wpAny_bind;apply isB.here (s:=⟨h,g,d,t,os⟩)
 rw[show(!true)=false from rfl,if_neg Bool.false_ne_true]
 repeat (first | apply wpAny_onRaise | (rw[anyArgs];apply wpAny_pure) | (apply wpAny_bind;apply lc.here (s:=⟨h,g,d,t,os⟩)) | wp_step)
 rw[v0]
 apply wpAny_pure;apply wpAny_bind
 apply wpAny_setField hx2 rfl pos
 dsimp only
 repeat (first | exact last | wp_step)
end
end Ex
namespace Ex
open PySem PySem.Spec PyProof.Rows PySem.W PySem.Calls
def Fly(h:Heap)(e:Addr)(m:Value):Option Addr->Prop
 |none=>∃ oe vs,h.get? e=some oe/\oe.data = .fields vs/\vs[1]? = some .none
 |some T=>∃ oe vs oT ts,h.get? e=some oe/\oe.data = .fields vs/\vs[1]? = some (.ref T)/\T≠e/\h.get? T=some oT/\oT.data = .fields ts/\ts[3]? = some m
structure Step(fr:List Addr)(e:Addr)(tb:Option Addr)(h h':Heap):Prop where
 keep:∀ b o,h.get? b=some o->b≠e->tb≠some b->b ∉ fr->h'.get? b=some o
 slot:∀ b o,h.get? b=some o->b≠e->tb≠some b->∃ sl,h'.get? b=some { o with slots:=sl }
 exc:∀ oe vs,h.get? e=some oe->oe.data = .fields vs->∃ vs':Array Value,h'.get? e=some { oe with data:=.fields vs' }/\vs'[0]? = vs[0]? /\ vs'.size=vs.size
 there:∀ b o,h.get? b=some o->∃ o',h'.get? b=some o'
theorem zr0{o:Obj}{vs:Array Value}(hd:o.data = .fields vs)(f:Array Value->Array Value):o.mapFields f={ o with data:=.fields (f vs) }:=by
 cases o with
 |mk c d dt sl=>cases hd;rfl
theorem zgL{h:Heap}{a:Addr}{o:Obj}{vs:Array Value}(e:h.get? a=some o)(hd:o.data = .fields vs)(i:Nat)(v:Value) :
 (h.update a (Obj.mapFields (·.setIfInBounds i v))).get? a=some { o with data:=.fields (vs.setIfInBounds i v) }:=by
 rw[<- zr0 hd (·.setIfInBounds i v)]
 exact Heap.get?_update_self _ e (Obj.isFreed_of_fields (Obj.data_mapFields hd _))
section
variable{M:Model}{A:Around}{E:Value->Shared->Prop}{s:Shared}{env:Env}{outer:List Env}{base:Heap}{L e:Addr}
theorem zgc{oe:Obj}{vs:Array Value}{hd0:Value}{more:Bool}{Q:Unit->Shared->Prop}(fr:A.frames=some (env::outer))(ff:s.heap.FunFrames base (env::outer))(at_:env.frame=some L)(he:s.heap.get? e=some oe)(hd:oe.data = .fields vs)(two:1<vs.size)
 (k:∀ h' T,Step (L2.frs (env::outer)) e none s.heap h'->s.heap.objs.size<=T->Fly h' e (rawInt L) (some T)->Q () { s with heap:=h' }) :
 wpAny M A (do let fo <- frameOf env;let pl <- entryPlaceOf L more;let en <- EntryCells.newEntry hd0 fo .none (rawInt L) .none pl;setField (.ref e) 1 en) Q E s:=by
 have eNo:e ∉ L2.frs (env::outer):=fun m=>let ⟨_,o,ho,no⟩:=ff.mem m;no vs (by rw[he] at ho;cases ho;exact hd)
 apply wpAny_bind;apply wpAny_frameOf_fun fr ff at_
 rintro h1 ⟨sz,same,sl1⟩
 apply wpAny_bind;apply wpAny_entryPlaceOf;intro pl isPl
 delta EntryCells.newEntry newFields
 apply wpAny_bind;apply wpAny_newObj_type _ (isPl.sizeOk5 _ _ _ _ _)
 generalize eN:({ cls:=.type "traceback",dict:=none,data:=.fields ([hd0,.ref L,.none,rawInt L,.none]++(if pl.isEmpty then List.replicate 6 Value.none else pl)).toArray }:Obj)=en
 have e1:h1.get? e=some oe:=(same e eNo).trans he
 have ne:h1.objs.size≠e:=fun z=>absurd (Heap.lt_size e1) (by rw[z];exact Nat.lt_irrefl _)
 have e2:=zgL (Heap.get?_push_of_some en e1) hd 1 (.ref h1.objs.size)
 have oth:∀ b o,b≠e->h1.get? b=some o->((h1.push en).update e (Obj.mapFields (·.setIfInBounds 1 (.ref h1.objs.size)))).get? b=some o:=fun b o nb z=>by
  rw[Heap.get?_update_other _ _ (Ne.symm nb)];exact Heap.get?_push_of_some en z
 have tbAt:((h1.push en).update e (Obj.mapFields (·.setIfInBounds 1 (.ref h1.objs.size)))).get? h1.objs.size=some en:=by
  rw[Heap.get?_update_other _ _ (Ne.symm ne)];exact Heap.get?_push_size h1 (by rw[<- eN];rfl)
 apply wpAny_setField (Heap.get?_push_of_some en e1) hd two
 apply k _ h1.objs.size
 · constructor
   · exact fun b o z nb _ nf=>oth b o nb ((same b nf).trans z)
   · intro b o z nb _
     obtain⟨sl,z'⟩:=sl1 b o z
     exact⟨sl,oth b _ nb z'⟩
   · intro oe' vs' z zd
     cases he.symm.trans z
     cases hd.symm.trans zd
     exact⟨_,e2,Array.getElem?_setIfInBounds_ne (by decide),Array.size_setIfInBounds⟩
   · intro b o z
     by_cases nb:b=e
     · rw[nb];exact⟨_,e2⟩
     · obtain⟨sl,z'⟩:=sl1 b o z
       exact⟨_,oth b _ nb z'⟩
 · rw[sz];exact Nat.le_refl _
 · refine⟨_,_,_,_,e2,rfl,by simp[two],ne,tbAt,by rw[<- eN],?_⟩
   rcases isPl with z | ⟨_,_,_,_,_,_,_,z⟩<;>subst z<;>rfl
theorem zhj{tb:Option Addr}{Q:Unit->Shared->Prop}(fr:A.frames=some (env::outer))(ff:s.heap.FunFrames base (env::outer))(at_:env.frame=some L)(F:Fly s.heap e .none tb)(two:∀ oe vs,s.heap.get? e=some oe->oe.data = .fields vs->1<vs.size)
 (k:∀ h' T,Step (L2.frs (env::outer)) e tb s.heap h'->s.heap.objs.size<=T->Fly h' e (rawInt L) (some T)->Q () { s with heap:=h' }):wpAny M A (noteFrame (.ref e) env) Q E s:=by
 unfold noteFrame
 rw[at_]
 dsimp only
 cases tb with
 |none =>
   obtain⟨oe,vs,he,hd,v1⟩:=F
   apply wpAny_bind;apply wpAny_field he hd v1
   rw[if_neg (show ¬ ((Value.none != Value.none)=true) by decide)]
   exact zgc fr ff at_ he hd (two _ _ he hd) k
 |some T =>
   obtain⟨oe,vs,oT,ts,he,hd,v1,nT,hT,hdT,t3⟩:=F
   have oth:∀ b,b≠T->(s.heap.update T (Obj.mapFields (·.setIfInBounds 3 .none))).get? b=s.heap.get? b:=fun b z=>Heap.get?_update_other _ _ (Ne.symm z)
   have noT:∀ b o,s.heap.get? b=some o->(∀ vs,o.data ≠ .fields vs)->b≠T:=fun b o z no q=>by subst q;cases hT.symm.trans z;exact no ts hdT
   apply wpAny_bind;apply wpAny_field he hd v1
   rw[if_pos (show(Value.ref T != Value.none)=true by rfl)]
   apply wpAny_bind;apply wpAny_field hT hdT t3
   rw[if_neg (show ¬ ((Value.none == rawInt L)=true) by intro z;cases beq_iff_eq.mp z)]
   apply wpAny_bind;apply wpAny_setField hT hdT (Array.getElem?_eq_some_iff.mp t3).1
   apply zgc (s:={ s with heap:=s.heap.update T (Obj.mapFields (·.setIfInBounds 3 .none)) }) fr (ff.of_keeps fun b o z no=>⟨o,(oth b (noT b o z no)).trans z,rfl⟩) at_ ((oth e (Ne.symm nT)).trans he) hd (two _ _ he hd)
   intro h' T' S le F'
   apply k h' T' _ (by rw[Heap.size_after_update] at le;exact le) F'
   have via:∀ b,some T≠some b->b≠T:=fun b z q=>z (by rw[q])
   constructor
   · exact fun b o z nb nt nf=>S.keep b o ((oth b (via b nt)).trans z) nb (by intro q;cases q) nf
   · exact fun b o z nb nt=>S.slot b o ((oth b (via b nt)).trans z) nb (by intro q;cases q)
   · exact fun oe' vs' z zd=>S.exc oe' vs' ((oth e (Ne.symm nT)).trans z) zd
   · intro b o z
     by_cases q:b=T
     · rw[q];exact S.there T _ (zgL hT hdT 3 .none)
     · exact S.there b o ((oth b q).trans z)
theorem zfa{T:Addr}{m:Value}{Q:Unit->Shared->Prop}(F:Fly s.heap e m (some T))
 (k:∀ h',(∀ b,b≠T->h'.get? b=s.heap.get? b)->Fly h' e .none (some T)->Q () { s with heap:=h' }):wpAny M A (setFlight (.ref e) none) Q E s:=by
 obtain⟨oe,vs,oT,ts,he,hd,v1,nT,hT,hdT,t3⟩:=F
 have l3:3<ts.size:=(Array.getElem?_eq_some_iff.mp t3).1
 have oth:∀ b,b≠T->(s.heap.update T (Obj.mapFields (·.setIfInBounds 3 .none))).get? b=s.heap.get? b:=fun b z=>Heap.get?_update_other _ _ (Ne.symm z)
 unfold setFlight
 apply wpAny_bind;apply wpAny_field he hd v1
 rw[if_pos (show(Value.ref T != Value.none)=true by rfl)]
 apply wpAny_setField hT hdT l3
 exact k _ oth ⟨oe,vs,_,_,(oth e (Ne.symm nT)).trans he,hd,v1,nT,zgL hT hdT 3 .none,rfl,by simp[l3]⟩
end
end Ex
namespace L2
open PySem PySem.Spec PyProof.Rows Ex
def ExO(C e:Addr)(dd:Option Addr)(fr:Bool):HO:=.ext fun h=>∃ oe vs t0,h.get? e=some oe/\oe.cls = .ref C/\oe.dict=dd/\oe.data = .fields vs/\vs[0]? = some (.ref t0)/\1<vs.size/\(fr=true->vs[1]? = some .none)
def ExD(d:Addr)(fs:List (Str×V)):HO:=.ext fun h=>∃ mA,h.Ns1 d mA/\(∀ f,RelO (fs.lookup f) (mA f))/\PySem.Within mA (fs.map (·.1))
section
variable{P:Program}{w:World}{H:Hp}{h:Heap}{e C d:Addr}{dd:Option Addr}{fr:Bool}{fs:List (Str×V)}
theorem zem{oe:Obj}{vs:Array Value}{t0:Addr}(he:h.get? e=some oe)(hc:oe.cls = .ref C)(hdd:oe.dict=dd)(hd:oe.data = .fields vs)(h0:vs[0]? = some (.ref t0))(hs:1<vs.size)(hf:fr=true->vs[1]? = some .none) :
 ObjOk P w H h e (ExO C e dd fr) :=
 ⟨⟨oe,vs,t0,he,hc,hdd,hd,h0,hs,hf⟩,⟨oe,he⟩,fun _ _ ⟨oe,vs,t0,he,r⟩ k=>⟨oe,vs,t0,k _ he,r⟩⟩
theorem zlN{mA:Str->Option Value}(hn:h.Ns1 d mA)(hr:∀ f,RelO (fs.lookup f) (mA f))(hw:PySem.Within mA (fs.map (·.1))):ObjOk P w H h d (ExD d fs) :=
 ⟨⟨mA,hn,hr,hw⟩,let ⟨o,_,_,q,_⟩:=hn; ⟨o,q⟩,fun _ _ ⟨mA,⟨o,es,ep,q,r⟩,r2⟩ k=>⟨mA,⟨o,es,ep,k _ q,r⟩,r2⟩⟩
theorem zbS(ok:HOk P w H h)(q:H e=some (ExO C e dd fr)):∃ oe vs t0,h.get? e=some oe/\oe.cls = .ref C/\oe.dict=dd/\oe.data = .fields vs/\vs[0]? = some (.ref t0)/\1<vs.size/\(fr=true->vs[1]? = some .none):=(ok _ _ q).1
theorem zgs(ok:HOk P w H h)(q:H d=some (ExD d fs)):∃ mA,h.Ns1 d mA/\(∀ f,RelO (fs.lookup f) (mA f))/\PySem.Within mA (fs.map (·.1)):=(ok _ _ q).1
end
structure Thr(X:Cx)(pins:List (Addr×Obj))(H:Hp)(s:Shared)(e C:Addr):Prop where
 ex:∃ dd,H e=some (ExO C e dd false)
 lo:X.s₀.heap.objs.size<=e
 tr:∃ tb,Fly s.heap e .none tb/\∀ T,tb=some T->H T=none/\X.s₀.heap.objs.size<=T/\∀ p∈X.pn++pins,p.1≠T
abbrev XKS:=St->XK
def XOk(X:Cx)(EE:XKS):Prop:=∀ (pins:List (Addr×Obj)) (σ:St) (H:Hp) (s:Shared) (e C:Addr),Inv X pins σ H s->Thr X pins H s e C->EE σ (.ref C) (some e) H->X.xe (.ref e) s
def CXe(P:Program)(w:World):CXT:=fun outer H s E ev s'=>∃ e C H',ev = .ref e/\s'.os=s.os/\AllBare s'.gens/\Un (frs outer) [] H H' s.heap s'.heap/\HOk P w H' s'.heap /\
 (∃ dd,H' e=some (ExO C e dd false))/\s.heap.objs.size<=e/\(∃ tb,Fly s'.heap e .none tb/\∀ T,tb=some T->H' T=none/\s.heap.objs.size<=T)/\E (.ref C) (some e) H'
theorem zjd{X:Cx}{EE:XKS}(hX:XOk X EE){pins:List (Addr×Obj)}{σ:St}{H:Hp}{s s':Shared}{ev:Value}(I:Inv X pins σ H s)(h:CXe X.prog X.w X.stack H s (EE σ) ev s'):X.xe ev s':=by
 obtain⟨e,C,H',rfl,os,bare,un,hok,ex,lo,⟨tb,F,hT⟩,q⟩:=h
 have I':Inv X pins σ H' s':=I.call' (ch:=[]) os un hok bare fun b z=>absurd z (by simp)
 refine hX pins σ H' s' e C I' ⟨ex,Nat.le_trans I.sz lo,tb,F,fun T z=>⟨(hT T z).1,Nat.le_trans I.sz (hT T z).2,fun p hp=>?_⟩⟩ q
 have lt:=Heap.lt_size (I.pin p hp).1
 have:=(hT T z).2
 exact Nat.ne_of_lt (Nat.lt_of_lt_of_le lt this)
section
variable{P:Program}{w:World}{K:W.Frag}{mg:Str->Option Value}{base:Heap}{N:List Str}{qual:Str}{scope:Scope}{f:Addr}{cd:Value}{A:Around}{outer:List Env}{s:Shared}{H:Hp}{E:XK}
theorem zpv:XOk (zcG (CXe P w) P w K mg base N qual scope f cd A outer s H E) (fun _=>E):=by
 intro pins σ H1 s1 e C I T q
 obtain⟨⟨dd,ex⟩,lo,tb,F,hT⟩:=T
 show wpAny (model P w) (A.deeper (envOfC qual scope s.heap.objs.size f cd)) (leaving (envOfC qual scope s.heap.objs.size f cd) (.ref e)) (fun _ s''=>CXe P w outer H s E (.ref e) s'') (fun e' s''=>CXe P w outer H s E e' s'') s1
 have hfr:(A.deeper (envOfC qual scope s.heap.objs.size f cd)).frames=some (envOfC qual scope s.heap.objs.size f cd::outer):=I.ok.frames
 have hl:s1.heap.FunFrames base (envOfC qual scope s.heap.objs.size f cd::outer):=I.stack
 obtain⟨oe,vs,t0,he,hc,hdd,hd,h0,hsz,_⟩:=zbS I.hok ex
 have s0:∀ b o,s.heap.get? b=some o->b≠e/\tb≠some b/\b≠s.heap.objs.size:=fun b o z=>by
  have lt:=Heap.lt_size z
  refine⟨Nat.ne_of_lt (Nat.lt_of_lt_of_le lt lo),fun y=>?_,Nat.ne_of_lt lt⟩
  exact Nat.lt_irrefl _ (Nat.lt_of_lt_of_le lt (hT b y).2.1)
 unfold leaving
 refine wpAny_bind (zhj (L:=s.heap.objs.size) hfr hl rfl F (fun oe' vs' a b=>by rw[he] at a;cases a;rw[hd] at b;cases b;exact hsz) fun h' T' S hle FF=>?_)
 refine zfa (s:={ s1 with heap:=h' }) FF fun h'' oth F2=>?_
 have szs:s.heap.objs.size<=s1.heap.objs.size:=I.sz
 have hT':∀ b o,s1.heap.get? b=some o->b≠T':=fun b o z=>Nat.ne_of_lt (Nat.lt_of_lt_of_le (Heap.lt_size z) hle)
 have fresh:H1 T'=none:=I.hok.fresh hle
 have keep:∀ b o,s1.heap.get? b=some o->b≠e->tb≠some b->b ∉ frs (envOfC qual scope s.heap.objs.size f cd::outer)->h''.get? b=some o:=fun b o z a1 a2 a3=>(oth b (hT' b o z)).trans (S.keep b o z a1 a2 a3)
 have frsub:∀ b,b∈frs (envOfC qual scope s.heap.objs.size f cd::outer)->b=s.heap.objs.size\/b∈frs outer:=fun b hb=>by
  unfold frs at hb ⊢
  rw[List.filterMap_cons] at hb
  rcases List.mem_cons.mp hb with z | z
  · exact .inl z
  · exact .inr z
 have tracked:∀ b u,H1 b=some u->b ∉ frs (envOfC qual scope s.heap.objs.size f cd::outer):=fun b u z hb=>by
  have n:H1 b=none:=I.stkFree b hb
  rw[z] at n
  cases n
 refine⟨e,C,H1,rfl,I.os,I.bare,⟨fun b o z n hb hx=>?_,fun b o z n hb hx=>?_,I.base.free,fun b o z hx=>?_,I.base.tups,I.base.frzs,I.base.tbls⟩,fun b u z=>?_,⟨dd,ex⟩,lo,⟨some T',F2,fun T z=>?_⟩,q⟩
 · obtain⟨a1,a2,a3⟩:=s0 b o z
   exact keep b o (I.base.keep b o z n hb hx) a1 a2 fun y=>(frsub b y).elim a3 hb
 · obtain⟨a1,a2,a3⟩:=s0 b o z
   obtain⟨sl,e1⟩:=I.base.slot b o z n hb hx
   obtain⟨sl2,e2⟩:=S.slot b _ e1 a1 a2
   exact⟨sl2,(oth b (hT' b _ e1)).trans e2⟩
 · obtain⟨o',e1⟩:=I.base.there b o z hx
   obtain⟨o2,e2⟩:=S.there b o' e1
   exact⟨o2,(oth b (hT' b _ e1)).trans e2⟩
 · by_cases hb:b=e
   · subst hb
     rw[ex] at z
     cases z
     obtain⟨vs',e1,e2,e3⟩:=S.exc oe vs he hd
     exact zem ((oth b (hT' b _ he)).trans e1) hc hdd rfl (by rw[e2];exact h0) (by rw[e3];exact hsz) fun z=>nomatch z
   · refine(I.hok b u z).stay (fun c v hcv r=>?_) (fun _ r=>r) fun _ _ r=>r
     have ne:c≠e:=by
      rcases hcv with rfl | hcv
      · exact hb
      · exact zer hcv ex (by intro y;cases y)
     have tr:∃ u',H1 c=some u':=by
      rcases hcv with rfl | hcv
      · exact⟨_,z⟩
      · exact⟨_,hcv⟩
     obtain⟨u',hu'⟩:=tr
     exact keep c v r ne (fun y=>by have:=(hT c y).1;rw[hu'] at this;cases this) (tracked c u' hu')
 · cases z
   exact⟨fresh,Nat.le_trans szs hle⟩
end
end L2
namespace Ex
open PySem PySem.Spec PyProof.Rows PySem.W PySem.Calls Builtin Builtin.ObjectAttr
def zhT(K:Frag)(h:Heap)(e:Addr):Prop:=∃ oe vs C oC,h.get? e=some oe/\oe.cls = .ref C/\mroIn K C (.type "BaseException")=some true/\K.lookup C=some oC/\oC.cls = .type "type" /\ oe.data = .fields vs/\vs[1]? = some .none
theorem zgJ{M:Model}{A:Around}{E:Value->Shared->Prop}{s:Shared}{env:Env}{K:Frag}{x:Sem Value}{Q:Flow->Shared->Prop}(calm:A.handled=none)
 (k:wpAny M A x (fun v s'=>∃ e,v = .ref e/\K.In s'.heap/\zhT K s'.heap e/\E v s') E s):wpAny M A (raiseStmt env (some x) none) Q E s:=by
 delta raiseStmt
 apply wpAny_bind;apply wpAny_mono k _ fun _ _ z=>z
 rintro v ⟨h,g,d,t,os⟩ ⟨e,rfl,X,⟨⟨c1,c2,c3,c4⟩,vs,C,⟨d1,d2,d3,d4⟩,he,hc,sub,hC,ht,hd,v1⟩,last⟩
 dsimp only at X he hc hd ht
 subst hc hd ht
 have LS:=looks_mroIn (M:=M) X sub
 have hC':=X _ _ hC
 repeat (first | (with_reducible apply wpAny_loadPart_at hC') | (with_reducible apply wpAny_loadPart_at he) | (with_reducible apply LS.here (s:=⟨h,g,d,t,os⟩)) | rw[v1] | wp_step)
 exact wpAny_raiseNew_none calm last
end Ex
namespace L2
open PySem PySem.Spec PyProof.Rows Ex
def zrB(K:W.Frag)(ta:TE)(f:Str):TE:=fun σ H Q=>ta σ H fun x H1=>∃ a C d fr fs v,x = .ref a/\H1 a=some (ExO C a (some d) fr)/\H1 d=some (ExD d fs)/\XC K C/\NoAttr K C f/\fs.lookup f=some v/\Q v H1
def zrv(K:W.Frag)(ta tv:TE)(f:Str):TS:=fun D σ H=>tv σ H fun y H1=>ta σ H1 fun x H2=>∃ a C fr,x = .ref a/\XC K C/\NoAttr K C f /\
 ((H2 a=some (ExO C a none fr)/\∀ d,H2 d=none->d≠a->D.nx σ (upd (upd H2 d (ExD d [(f,y)])) a (ExO C a (some d) fr))) \/
  (∃ d fs,H2 a=some (ExO C a (some d) fr)/\H2 d=some (ExD d fs)/\fs.length<1000/\D.nx σ (upd H2 d (ExD d (zcw f y fs)))))
section
variable{X:Cx}{o e value:Expr}{f:Str}{pos pos' tpos:Pos}{ta tv:TE}
theorem zdJ{K:W.Frag}{P:Program}{w:World}{H:Hp}{h:Heap}{a C:Addr}{dd:Option Addr}{fr:Bool}(ok:HOk P w H h)(q:H a=some (ExO C a dd fr))(hdd:∀ d,dd=some d->∃ o,h.get? d=some o) :
 ∃ ox od,W.InstAt h a ox C od/\ox.dict=dd/\(∀ d,dd=some d->∃ o,od=some o/\h.get? d=some o):=by
 obtain⟨oe,vs,t0,he,hc,hd,hda,_⟩:=zbS ok q
 have hn:W.notCls oe=true:=by unfold W.notCls;rw[hda]
 cases dd with
 |none=>exact⟨oe,none,⟨he,hc,hn,by rw[hd];trivial⟩,hd,fun d z=>nomatch z⟩
 |some d =>
   obtain⟨o,ho⟩:=hdd d rfl
   exact⟨oe,some o,⟨he,hc,hn,by rw[hd];exact ho⟩,hd,fun d' z=>by cases z;exact⟨o,rfl,ho⟩⟩
theorem zm4(he:PE X e ta)(hb:attributeBase e f X.env (eval e X.env)=eval e X.env):PE X (.Attribute e f pos) (zrB X.K ta f):=by
 intro pins s σ H Q I h
 refine zi5 hb (thn (he pins s σ H _ I h) fun u s1 ⟨x,H1,I1,rx,a,C,d,fr,fs,v,ex,ea,ed,c,n,l,q⟩=>?_)
 subst ex
 obtain rfl:u=Value.ref a:=rx
 obtain⟨mA,hn,hr,_⟩:=zgs I1.hok ed
 obtain⟨od,ho,hlk⟩:=lookIn_ns hn
 obtain⟨ox,od',Ins,_,hod⟩:=zdJ (K:=X.K) I1.hok ea fun d' z=>by cases z;exact⟨od,ho⟩
 obtain⟨o2,e2,ho2⟩:=hod d rfl
 rw[ho] at ho2
 cases ho2
 subst e2
 obtain⟨u,hu,ru⟩:=RelO.some_of (v:=v) (o:=mA f) (by rw[<- l];exact hr f)
 obtain⟨cd,hcd,hhd,_⟩:=c.pass
 have hf:W.findObj X.K C (some od) f=some (.value u):=W.findObj_own (by unfold W.hasDictIn;rw[hcd];exact hhd) n rfl (by rw[hlk,hu])
 exact zrN I1.kIn Ins c hf (zga ru) ⟨v,H1,I1.tok _,ru,q⟩
theorem zjF(ha:PE X o ta)(hv:PE X value tv)(hs:swapsWith value (some (.Attribute o f pos')) pos.line X.env=pure false):PS X (.Assign [.Attribute o f pos'] value pos) (zrv X.K ta tv f):=by
 intro pins s σ H D I h
 refine plainObj_wpAny_Assign_Attribute (thn (hv pins s σ H _ I h) fun u s1 ⟨y,H1,I1,ry,q⟩=>thn (ha pins s1 σ H1 _ I1 q) fun ov s2 ⟨x,H2,I2,rx,a,C,fr,ex,c,n,q2⟩=>?_) hs
 subst ex
 obtain rfl:ov=Value.ref a:=rx
 rcases q2 with ⟨ea,k⟩ | ⟨d,fs,ea,ed,hl,k⟩
 · obtain⟨oe,vs,t0,he,hc,hd,hda,h0,hsz,hfr⟩:=zbS I2.hok ea
   have na:s2.heap.objs.size≠a:=Nat.ne_of_gt (Heap.lt_size he)
   refine zqH I2.kIn he hc hda hd c n fun h' tk' kp hx hn=>?_
   refine⟨σ,_,?_,k s2.heap.objs.size (I2.hok.fresh (Nat.le_refl _)) na⟩
   have fresh:H2 s2.heap.objs.size=none:=I2.hok.fresh (Nat.le_refl _)
   have hdn:∃ o,h'.get? s2.heap.objs.size=some o:=let ⟨o,_,_,z,_⟩:=hn; ⟨o,z⟩
   have od:∀ (G:Hp),ObjOk X.prog X.w G h' s2.heap.objs.size (ExD s2.heap.objs.size [(f,y)]):=fun G=>zlN hn (fun g=>by
    show RelO (List.lookup g [(f,y)]) (if g=f then some u else none)
    rw[List.lookup_cons]
    by_cases z:g=f
    · subst z;rw[if_pos rfl];simp only[beq_self_eq_true];exact ry
    · have z':(g == f)=false:=by simpa using z
      rw[if_neg z,z'];exact True.intro) (fun g hg=>by
    have z:g=f:=by
     by_cases z:g=f
     · exact z
     · exact absurd (if_neg z) hg
    rw[z];simp)
   have oe':∀ (G:Hp),ObjOk X.prog X.w G h' a (ExO C a (some s2.heap.objs.size) fr):=fun G=>zem hx hc rfl hda h0 hsz hfr
   have un:Un X.fs [] H2 (upd (upd H2 s2.heap.objs.size (ExD s2.heap.objs.size [(f,y)])) a (ExO C a (some s2.heap.objs.size) fr)) s2.heap h':=by
    have ne:∀ b,H2 b=none->b≠a:=fun b z e=>by rw[e,ea] at z;cases z
    refine⟨fun b ob z z2 _ _=>kp b ob (ne b z2) z,fun b ob z z2 _ _=>⟨ob.slots,kp b ob (ne b z2) z⟩,fun b ob z z2 _=>?_,fun b ob z _=>?_,fun b xs z=>?_,fun b ob xs z=>?_,fun b ps z=>⟨#[],?_⟩⟩
    · rw[zaf (ne b z2),zaf (Nat.ne_of_lt (Heap.lt_size z))];exact z2
    · by_cases hb:b=a
      · subst hb;exact⟨_,hx⟩
      · exact⟨ob,kp b ob hb z⟩
    · rw[zaf (zer z ea (by intro y;cases y)),zaf (zaq z fresh)];exact z
    · rw[zaf (zer z ea (by intro y;cases y)),zaf (zaq z fresh)];exact z
    · rw[zaf (zer z ea (by intro y;cases y)),zaf (zaq z fresh),z];simp
   refine I2.un un fun b ob z=>?_
   by_cases hb:b=a
   · subst hb;rw[zal] at z;cases z;exact oe' _
   · rw[zaf hb] at z
     by_cases hb2:b=s2.heap.objs.size
     · subst hb2;rw[zal] at z;cases z;exact od _
     · rw[zaf hb2] at z
       refine(I2.hok b ob z).stay (fun c v hcv r=>kp c v ?_ r) (fun c r=>?_) fun c xs r=>?_
       · rcases hcv with rfl | hcv
         · exact hb
         · exact zer hcv ea (by intro y;cases y)
       · rw[zaf (zer r ea (by intro y;cases y)),zaf (zaq r fresh)];exact r
       · rw[zaf (zer r ea (by intro y;cases y)),zaf (zaq r fresh)];exact r
 · obtain⟨oe,vs,t0,he,hc,hd,hda,h0,hsz,hfr⟩:=zbS I2.hok ea
   obtain⟨mA,hn,hr,hw⟩:=zgs I2.hok ed
   refine zqm I2.kIn he hc hda hd hn hw (by rw[List.length_map,sizeLine_eq];omega) c n fun h' tk' sb hn'=>?_
   refine⟨σ,_,I2.write (x:=d) (e:=d) (by rw[ed];exact True.intro) (.inl rfl) (fun b q hb z=>(sb.2 b hb).trans z) (let ⟨o,_,_,z,_⟩:=hn'; ⟨o,z⟩) ?_,k⟩
   refine zlN hn' (fun g=>?_) fun g hg=>?_
   · show RelO ((zcw f y fs).lookup g) (if g=f then some u else mA g)
     rw[zc9]
     by_cases q:g=f
     · rw[if_pos q,if_pos q];exact ry
     · rw[if_neg q,if_neg q];exact hr g
   · by_cases q:g=f
     · rw[q];exact(zcA f y fs).1
     · refine(zcA f y fs).2 g (hw g fun z=>hg ?_)
       show(if g=f then some u else mA g)=none
       rw[if_neg q];exact z
end
structure RawAt(h h':Heap)(e C:Addr):Prop where
 keeps:∀ c u,h.get? c=some u->h'.get? c=some u
 le:h.objs.size<=e
 obj:∃ t0,h'.get? e=some { cls:=.ref C,data:=.fields #[.ref t0,.none,.none,.none,.bool false,.none] }
def XMk(K:W.Frag)(C fI:Addr):Prop:=∀ (prog:Program) (w:World) (A:Around) (E:Value->Shared->Prop) (s:Shared) (rest:List Value) (Q:Value->Shared->Prop),K.In s.heap->rest.length<=sizeLine ->
 (∀ h' e,RawAt s.heap h' e C->wpAny (model prog w) (A.under (.builtin "type.__call__" ⟨.ref C::rest,[]⟩)) (call (.ref fI) (.ref e::rest)) (fun r s'=>r = .none/\Q (.ref e) s') E { s with heap:=h' }) ->
 wpAny (model prog w) A (call (.ref C) rest) Q E s
structure XK0(K:W.Frag)(C:Addr):Prop where
 xc:XC K C
 mt:∃ oC,K.lookup C=some oC/\oC.cls = .type "type"
 kp:W.keepIn K (.ref C)=true
section
variable{X:Cx}{k:Nat}{fI C:Addr}{fd:FuncData}{ps:List Str}{sp:Sp}{dvs:List V}{ds:List Value}{x:Str}{p pos cpos apos:Pos}{e:Expr}{es:List Expr}{t:TA}{EE:XKS}
theorem Inv.exc{pins:List (Addr×Obj)}{σ:St}{H:Hp}{s:Shared}{h':Heap}{a:Addr}(I:Inv X pins σ H s)(m:RawAt s.heap h' a C)(fr:Bool) :
 Inv X pins σ (upd H a (ExO C a none fr)) { s with heap:=h' }:=by
 obtain⟨t0,he⟩:=m.obj
 exact I.laid (a:=a) (o:=ExO C a none fr) (t':=s.toks) m.keeps m.le (zem he rfl rfl rfl rfl (by simp) fun _=>rfl)
theorem zol{pins:List (Addr×Obj)}{σ:St}{H:Hp}{s:Shared}{Q:VK}{us:List Value}{vs:List V}(M:XMk X.K C fI)(F:FnOk X.prog X.w X.K X.mg X.base CX0 k fI fd ps sp)(hr:Room (k+1) X.A)(hb:Binds X.K fd ps ds)(hd:Vals dvs ds)
 (I:Inv X pins σ H s) (r:Vals vs us) (hlen:vs.length<=1000)
 (h:∀ a,H a=none->sp (.ref a::(vs++dvs)) (upd H a (ExO C a none true)) (fun v H2=>v = .non/\Q (.ref a) H2) E0) :
 wpAny (model X.prog X.w) X.A (call (.ref C) us) (fun u s'=>∃ a H',u = .ref a/\Inv X pins σ H' s'/\s.heap.objs.size<=a/\Q (.ref a) H') X.xe s:=by
 refine M X.prog X.w X.A X.xe s us _ I.kIn (by rw[<- r.length,sizeLine_eq];omega) fun h' a m=>?_
 have hq:=h a (I.hok.fresh m.le)
 have I2:=I.exc m true
 have r2:Vals (V.ref a::(vs++dvs)) (Value.ref a::(us++ds)):=.cons rfl (r.append hd)
 have hl:(Value.ref a::us++ds).length=ps.length:=by
  have e:=r2.length
  rw[F.len _ _ _ _ hq] at e
  exact e.symm
 refine wpAny_call (codeAny_mono (F.run _ X.stack _ _ ⟨Value.ref a::us,[]⟩ (Value.ref a::(us++ds)) _ _ E0 (hr.make C us [])
  (I2.env0.make C us []) (hb _ (Value.ref a::us) I2.kIn hl) r2 hq) fun r s' hq'=>?_)
 cases r with
 |error e=>exact False.elim hq'
 |ok fl =>
   cases fl with
   |ret u =>
     obtain⟨v,H',I3,rv,ev,q3⟩:=I2.after hq'
     subst ev
     exact⟨rv,a,H',rfl,I3,m.le,q3⟩
   |next=>exact False.elim hq'
   |brk=>exact False.elim hq'
   |cont=>exact False.elim hq'
theorem zkC{pins:List (Addr×Obj)}{σ:St}{H:Hp}{s:Shared}{a:Addr}{dd:Option Addr}(hX:XOk X EE)(I:Inv X pins σ H s)(hle:X.s₀.heap.objs.size<=a)(ea:H a=some (ExO C a dd true))(q:EE σ (.ref C) (some a) (upd H a (ExO C a dd false))):X.xe (.ref a) s:=by
 obtain⟨oe,vs,t0,he,hc,hd,hda,h0,hsz,hfr⟩:=zbS I.hok ea
 have I':Inv X pins σ (upd H a (ExO C a dd false)) s:=I.write (x:=a) (e:=a) (t':=s.toks) (h':=s.heap) (by rw[ea];exact True.intro) (.inl rfl) (fun b u _ z=>z) ⟨_,he⟩ (zem he hc hd hda h0 hsz fun z=>nomatch z)
 exact hX pins σ _ s a C I' ⟨⟨dd,zal⟩,hle,none,⟨oe,vs,he,hda,hfr rfl⟩,fun T z=>nomatch z⟩ q
def zpz(C:Addr)(sp:Sp)(dvs:List V)(EE:XKS)(t:TA):TS:=fun _ σ H=>t σ H fun vs H1=>vs.length<=1000/\∀ a,H1 a=none ->
 sp (.ref a::(vs++dvs)) (upd H1 a (ExO C a none true)) (fun v H2=>v = .non/\∃ dd,H2 a=some (ExO C a dd true)/\EE σ (.ref C) (some a) (upd H2 a (ExO C a dd false))) E0
theorem zli{Q:Flow->Shared->Prop}{s:Shared}{xe:Expr}{pos:Pos}(hh:X.A.handled=none)
 (h:wpAny (model X.prog X.w) X.A (eval xe X.env) (fun v s₁=>∃ e,v = .ref e/\X.K.In s₁.heap/\zhT X.K s₁.heap e/\X.xe v s₁) X.xe s) :
 wpAny (model X.prog X.w) X.A (exec (.Raise (some xe) none pos) X.env) Q X.xe s:=by
 rw[arm_exec_Raise]
 first
  |exact wpAny_bind (wpAny_standAt (zgJ hh (wpAny_bind (wpAny_mono h (fun v s₁ h₁=>wpAny_bind (wpAny_standAt (wpAny_pure h₁))) fun _ _ x=>x))))
  | (simp only[evalOpt,Option.map];exact wpAny_bind (wpAny_standAt (zgJ hh (wpAny_bind (wpAny_mono h (fun v s₁ h₁=>wpAny_bind (wpAny_standAt (wpAny_pure h₁))) fun _ _ x=>x)))))
  | (show wpAny _ _ (do standAt pos;raiseStmt X.env (some (do let v <- eval xe X.env;standAt pos;pure v)) none) Q X.xe s;exact wpAny_bind (wpAny_standAt (zgJ hh (wpAny_bind (wpAny_mono h (fun v s₁ h₁=>wpAny_bind (wpAny_standAt (wpAny_pure h₁))) fun _ _ x=>x)))))
theorem zl8(hX:XOk X EE)(hc:X.calm=true)(M:XMk X.K C fI)(Z:XK0 X.K C)(F:FnOk X.prog X.w X.K X.mg X.base CX0 k fI fd ps sp)(hr:Room (k+1) X.A)(hg:Gl X x)(hm:X.mg x=some (.ref C))(hb:Binds X.K fd ps ds)(hd:Vals dvs ds)
 (ha:PA X (e::es) t) (hdb:(x == ("__debug__" : Str))=false:=by decide) (he:starEach (e::es) X.env=(false,eval e X.env)::starEach es X.env:=by rfl) (hpl:(backTo cpos (starEach es X.env)).any (·.1)=false:=by rfl) :
 PS X (.Raise (some (.Call (.Name x p) (e::es) [] cpos)) none pos) (zpz C sp dvs EE t):=by
 intro pins s σ H D I h
 refine zli (I.ok.hd hc) (wpAny_Call_Name_kw (zdF I hg hm ?_ hdb))
 refine W.callWith_K (h₀:=X.base) I.ok.mod.kin Z.kp (thn (ha cpos pins s σ H _ I h) fun us s1 ⟨vs,H1,I1,r,hlen,q⟩=>⟨I1.kIn,?_⟩) he hpl
 refine thn (zol (Q:=fun v H2=>∃ a dd,v = .ref a/\H2 a=some (ExO C a dd true)/\EE σ (.ref C) (some a) (upd H2 a (ExO C a dd false))) M F hr hb hd I1 r hlen fun a na=>?_) fun u s2 ⟨a,H2,eu,I2,hle,a',dd,ea',ex,q2⟩=>?_
 · have q':=q a na
   have:(fun v H2=>v=V.non/\∃ dd,H2 a=some (ExO C a dd true)/\EE σ (.ref C) (some a) (upd H2 a (ExO C a dd false)))=(fun v H2=>v=V.non/\∃ a' dd,V.ref a=V.ref a'/\H2 a'=some (ExO C a' dd true)/\EE σ (.ref C) (some a') (upd H2 a' (ExO C a' dd false))):=by
    funext v H2
    apply propext
    constructor
    · rintro⟨z,dd,z1,z2⟩;exact⟨z,a,dd,rfl,z1,z2⟩
    · rintro⟨z,a',dd,z0,z1,z2⟩;cases z0;exact⟨z,dd,z1,z2⟩
   rw[<- this]
   exact q'
 · cases ea'
   obtain⟨oe,ws,t0,h1,h2,h3,h4,h5,h6,h7⟩:=zbS I2.hok ex
   obtain⟨oC,m1,m2⟩:=Z.mt
   exact⟨a,eu,I2.kIn,⟨oe,ws,C,oC,h1,h2,Z.xc.be,m1,m2,h4,h7 rfl⟩,by rw[eu];exact zkC hX I2 (Nat.le_trans I1.sz hle) ex q2⟩
end
def ze2(K:W.Frag)(C:Addr)(up:List Value)(nw:String):Bool:=(K.lookup C).any fun o=>o.cls == .type "type" && o.slots.size == 6 && o.slots.toList[4]? == some (some (.builtin nw)) &&
 match o.data with
 | .cls cd=>cd.mro.head? == some (.ref C) && !cd.hasDel && cd.hasDict && W.tailIn K up cd.mro.tail && W.nsOkIn K cd.ns
 | _=>false
theorem zkM{l:List (Option Value)}{v:Option Value}(h:l.length=6)(q:l[4]? = some v):∃ a b c d e,l=[a,b,c,d,v,e]:=by
 match l,h with
 | [a,b,c,d,x,e],_ =>
   cases q
   exact⟨a,b,c,d,e,rfl⟩
theorem zho{K:W.Frag}{C:Addr}{up:List Value}{nw:String}(q:ze2 K C up nw=true) :
 ∃ tl N nm qn bs sn sub ab col dd j0 j1 j2 j3 j5,K.lookup C=some (excClassObj nm qn C N bs tl true sn sub ab col dd j0 j1 j2 j3 j5 nw)/\W.tailIn K up tl=true/\W.nsOkIn K N=true:=by
 unfold ze2 at q
 cases z:K.lookup C with
 |none=>rw[z] at q;cases q
 |some o =>
   rw[z] at q
   cases o with
   |mk oc od oda osl =>
     simp only[Option.any_some,Bool.and_eq_true,beq_iff_eq] at q
     obtain⟨⟨⟨rfl,sz⟩,s4⟩,q⟩:=q
     cases oda with
     |cls cd =>
       cases cd with
       |mk nm bs mro N qn hasD sn sub ab col del =>
         simp only[Bool.not_eq_true',Bool.and_eq_true,beq_iff_eq] at q
         obtain⟨⟨⟨⟨hm,rfl⟩,rfl⟩,ht⟩,hn⟩:=q
         cases mro with
         |nil=>cases hm
         |cons a tl =>
           cases hm
           obtain⟨l⟩:=osl
           obtain⟨a,b,c,d,e,rfl⟩:=zkM (by simpa using sz) (by simpa using s4)
           exact⟨tl,N,nm,qn,bs,sn,sub,ab,col,od,a,b,c,d,e,rfl,ht,hn⟩
     | _=>cases q
section
variable{K:W.Frag}{C fI:Addr}{B D nw iniD ini:String}{un up:List Value}
theorem zpF(fn:ExcBaseFacts D nw iniD un)(hD:up.contains (.type D)=true)(F:XB B ini up)(q:ze2 K C up nw=true)(at_:W.findIn K (.ref C) "__init__" = some (some (.ref fI)))(isF:W.isFn K (.ref fI)=true):XMk K C fI:=by
 rintro prog w A E ⟨h,g,d,t,os⟩ as Q X few k
 obtain⟨tl,N,nm,qn,bs,sn,sub,ab,col,dd,j0,j1,j2,j3,j5,hC,ht,hn⟩:=zho q
 exact zll fn hD F (W.tail_of_in X ht) X (X _ _ hC) at_ (W.bind_fn (X.keeps zb5) _ (beq_iff_eq.mp isF)) few (k _ _ ⟨zb5,Nat.le_succ _,_,zfQ⟩)
theorem stores{self:Value}(ok:refuseLoop self "__setattr__" up=pure ()):∀ {l:List Value},W.tailIn K up l=true->refuseLoop self "__setattr__" l=pure ()
 | [],e=>by
   have z:up=[]:=beq_iff_eq.mp e
   rw[<- z];exact ok
 |v::r,e=>by
   unfold W.tailIn at e
   cases z:((v::r) == up) with
   |true=>rw[beq_iff_eq.mp z];exact ok
   |false =>
     rw[z,Bool.false_or] at e
     cases v with
     |ref a =>
       dsimp only at e
       split at e
       · rw[Bool.and_eq_true] at e
         rw[refuseLoop_ref]
         exact stores ok e.2
       · cases e
     | _=>cases e
theorem zpC(ok:∀ self,refuseLoop self "__setattr__" up=pure ())(q:ze2 K C up nw=true)
 (ga:W.findIn K (.ref C) "__getattribute__" = some (some (.builtin "BaseException.__getattribute__"))) (gt:W.findIn K (.ref C) "__getattr__" = some none) (sa:W.findIn K (.ref C) "__setattr__" = some (some (.builtin "object.__setattr__")))
 (be:W.mroIn K C (.type "BaseException")=some true) (ob:W.mroIn K C (.type "object")=some true) (ca:W.findIn K (.ref C) "__class__" = some (some (.builtin "object.__class__")))
 (cg:W.specialIn K (.builtin "object.__class__") "__get__" = some (some (.builtin "getset_descriptor.__get__"))) (ct:W.takesIn K (.builtin "object.__class__")=some true) (kc:W.kitCls K (.ref C) (.ref C)=some true) (kp:W.keepIn K (.ref C)=true):XK0 K C:=by
 obtain⟨tl,N,nm,qn,bs,sn,sub,ab,col,dd,j0,j1,j2,j3,j5,hC,ht,hn⟩:=zho q
 exact⟨⟨ga,gt,sa,be,ob,⟨_,by unfold W.clsIn;rw[hC],rfl,fun self=>by rw[refuseLoop_ref];exact stores (ok self) ht⟩,ca,cg,ct,kc⟩,⟨_,hC,rfl⟩,kp⟩
end
def ExAt(H:Hp)(a C:Addr):Prop:=∃ fr,H a=some (ExO C a none fr)\/∃ d fs,H a=some (ExO C a (some d) fr)/\H d=some (ExD d fs)
def znZ:V->Option Value
 | .ref a=>some (.ref a)
 | .ty n=>some (.type n)
 | _=>none
theorem zmU{c:V}{cv u:Value}(h:znZ c=some cv)(r:RelV c u):u=cv:=by
 cases c<;>first | (cases h;exact r) | cases h
def TyX(K:W.Frag)(H:Hp)(x:V)(t:Value):Prop:=TyOf K H x t\/∃ a C,x = .ref a/\t = .ref C/\ExAt H a C/\XC K C
section
variable{X:Cx}
theorem ExAt.inst{P:Program}{w:World}{H:Hp}{h:Heap}{a C:Addr}(ok:HOk P w H h)(q:ExAt H a C):∃ ox od,W.InstAt h a ox C od:=by
 obtain⟨fr,q | ⟨d,fs,q,q2⟩⟩:=q
 · obtain⟨ox,od,I,_⟩:=zdJ (K:=[]) ok q fun d z=>nomatch z
   exact⟨ox,od,I⟩
 · obtain⟨mA,hn,_⟩:=zgs ok q2
   obtain⟨ox,od,I,_⟩:=zdJ (K:=[]) ok q fun d' z=>by cases z;exact let ⟨o,_,_,z,_⟩:=hn; ⟨o,z⟩
   exact⟨ox,od,I⟩
theorem zau:CallR X (.builtin "isinstance") (fun xs H Q=>∃ x c t cv b,xs=[x,c]/\znZ c=some cv/\TyX X.K H x t/\W.kitOne X.K t cv=some b/\Q (.bl b) H):=by
 intro pins s σ H xs us Q I r h
 obtain⟨x,c,t,cv,b,rfl,hc,ty,e,q⟩:=h
 obtain⟨u,u2,rfl,rx,rc⟩:=Vals.two r
 cases zmU hc rc
 rcases ty with ty | ⟨a,C,rfl,rfl,ea,c⟩
 · exact zkA I rx ty e fun tk=>⟨.bl b,H,I.tok _,rfl,q⟩
 · obtain rfl:u=Value.ref a:=rx
   exact W.kia_one (zmX c) I.kIn (ea.inst I.hok) e (fun z=>nomatch z) fun tk=>⟨.bl b,H,I.tok _,rfl,q⟩
structure XIn(K:W.Frag)(b:V)(B initId:String):Prop where
 get:(∃ D,b = .ref D/\W.specialIn K (.ref D) "__getattribute__" = some (some (.builtin "type.__getattribute__"))/\W.readsIn K D (.type "type")=true/\W.findCls K (.ref D) (.type "type") "__init__" = some (.val (.builtin initId))) \/
  (∃ T,b = .ty T/\typeOf (.type T)=pure (.type "type")/\Manifest.isStub T=false/\W.findCls K (.type T) (.type "type") "__init__" = some (.val (.builtin initId)))
 hh:W.handedIn (.builtin initId)=true
 base:∃ bmB,XB B initId bmB
def zqi(K:W.Frag)(B:String)(t:TA):TE:=fun σ H Q=>t σ H fun vs H1=>∃ a C fr rest,vs = .ref a::rest/\H1 a=some (ExO C a none fr)/\XC K C/\W.mroIn K C (.type B)=some true/\rest.length<=1000/\Q .non H1
theorem zlk{b:V}{B initId:String}{x:Str}{p apos pos:Pos}{e:Expr}{es:List Expr}{t:TA}{pl:Sem Bool}(hb:PE X (.Name x p) (tC b))(Z:XIn X.K b B initId)(ha:PA X (e::es) t)
 (hst:starEach (e::es) X.env=(false,eval e X.env)::starEach es X.env:=by rfl) (hpl:(backTo pos (starEach es X.env)).any (·.1)=false:=by rfl)
 (ht:eval (.Call (.Attribute (.Name x p) "__init__" apos) (e::es) [] pos) X.env=(do
  let ov <- eval (.Name x p) X.env
  standAt apos.atName
  let (f,first) <- holding [ov] (getMethod ov "__init__" pl)
  callWith pos f first (backTo pos (starEach (e::es) X.env)) (backToKw pos (keywordEach [] X.env))):=by rfl) :
 PE X (.Call (.Attribute (.Name x p) "__init__" apos) (e::es) [] pos) (zqi X.K B t):=by
 intro pins s σ H Q I h
 refine W.methodCall_KW (pl:=pl) (thn (hb pins s σ H (fun v H1=>v=b/\H1=H) I ⟨rfl,rfl⟩) fun u s1 ⟨x',H1,I1,rx,ex,eH⟩=>?_) ht
 subst ex eH
 obtain⟨bmB,F⟩:=Z.base
 have rest:∀ tk,wpAny (model X.prog X.w) X.A (callWith pos (.builtin initId) [] (backTo pos (starEach (e::es) X.env)) (backToKw pos (keywordEach [] X.env))) (EP X pins σ Q) X.xe { s1 with toks:=tk }:=fun tk=>by
  refine PyProof.Rows.callWith_builtin1 (thn (ha pos pins _ σ H1 _ (I1.tok tk) h) fun us s2 ⟨vs,H2,I2,r,a,C,fr,rest,ev,ea,c,hm,hl,q⟩=>?_) hst hpl
  subst ev
  cases r with
  | @cons _ u' _ us' ra rr =>
    obtain rfl:u'=Value.ref a:=ra
    obtain⟨oe,ws,t0,h1,h2,h3,h4,h5,h6,h7⟩:=zbS I2.hok ea
    obtain⟨ox,od,Ins,hdd,_⟩:=zdJ (K:=X.K) I2.hok ea fun d z=>nomatch z
    have e1:=Ins.at_
    rw[h1] at e1
    cases e1
    refine zqY F I2.kIn Ins c hm h4 h5 (by rw[<- rr.length,sizeLine_eq];omega) fun h' kp hx=>?_
    refine⟨.non,H2,?_,rfl,q⟩
    have I3:=I2.write (x:=a) (e:=a) (o:=ExO C a none fr) (t':=s2.toks) (h':=h') (by rw[ea];exact True.intro) (.inl rfl) (fun b u hb z=>kp b u hb z) ⟨_,hx⟩ (by
     exact zem hx h2 h3 rfl (show(ws.setIfInBounds 0 (Value.ref s2.heap.objs.size))[0]? = some (.ref s2.heap.objs.size) by have:0<ws.size:=(by omega);simp[Array.getElem?_setIfInBounds,this]) (by simp;exact h6) (fun z=>by rw[Array.getElem?_setIfInBounds_ne (by decide)];exact h7 z))
    have e2:upd H2 a (ExO C a none fr)=H2:=by
     funext b
     by_cases z:b=a
     · subst z;rw[zal,ea]
     · rw[zaf z]
    rw[e2] at I3
    exact I3
 rcases Z.get with ⟨D,rfl,hg,hr,hc⟩ | ⟨T,rfl,h1,h2,hc⟩
 · obtain rfl:u=Value.ref D:=rx
   exact W.method_cls I1.kIn hg (W.cls_value I1.kIn hr hc Z.hh (rest _))
 · obtain rfl:u=Value.type T:=rx
   obtain⟨m,Fr⟩:=I1.fr
   exact W.method_type Fr I1.ok.mod.kin h1 h2 hc Z.hh (rest _)
theorem zeC{M:Model}{A:Around}{E:Value->Shared->Prop}{pins:List (Addr×Obj)}{σ:St}{H:Hp}{s:Shared}{i:Nat}{n:Str}{pos:Pos}{Q:Unit->Shared->Prop}(I:Inv X pins σ H s)(hN:X.N.Nodup)(hi:X.N[i]? = some n)(hl:X.env.scope.names.lookup n=some .local)
 (h:∀ s',Inv X pins (σ.set i none) H s'->Q () s'):wpAny M A (do bindName X.env n .none;unbindBehindTheSuite X.env n pos) Q E s:=by
 obtain⟨m,hn,hlk⟩:=id I.loc
 have hcls:(X.env.scope.kind == .class || (X.env.scope.kind == .module && X.env.locals != X.env.globals))=false:=by rw[I.ok.kind];rfl
 have cne:=I.cne
 refine wpAny_nameGoes_keeps hl hn hcls fun h' v hn' hs=>?_
 obtain⟨oL,_,_,hoL,_⟩:=id hn
 have tracked:HOk X.prog X.w H h':=fun b ob e=>by
  refine(I.hok b ob e).stay (fun c w' hc q=>(hs.2 c ?_).trans q) (fun _ q=>q) fun _ _ q=>q
  rintro rfl
  have hfree:=I.free
  rcases hc with rfl | hc
  · rw[hfree] at e;cases e
  · rw[hfree] at hc;cases hc
 refine h _ ⟨I.ok,I.os,I.bare,⟨fun b o e n hb hx=>?_,fun b o e n hb hx=>?_,I.base.free,fun b o e hx=>?_,I.base.tups,I.base.frzs,I.base.tbls⟩,⟨_,hn',fun j y v' e1 e2 e3=>?_⟩,fun y c e=>?_,I.free,I.freeC,fun p hp=>?_,tracked,by simpa using I.len⟩
 · exact(hs.2 b (Nat.ne_of_lt (Nat.lt_of_lt_of_le (Heap.lt_size e) I.ok.above))).trans (I.base.keep b o e n hb hx)
 · obtain⟨sl,e1⟩:=I.base.slot b o e n hb hx
   exact⟨sl,(hs.2 b (Nat.ne_of_lt (Nat.lt_of_lt_of_le (Heap.lt_size e) I.ok.above))).trans e1⟩
 · obtain⟨o',e1⟩:=I.base.there b o e hx
   exact⟨o',(hs.2 b (Nat.ne_of_lt (Nat.lt_of_lt_of_le (Heap.lt_size e) I.ok.above))).trans e1⟩
 · have hiσ:i<σ.length:=by rw[I.len];exact(List.getElem?_eq_some_iff.mp hi).1
   by_cases hj:j=i
   · subst hj
     rw[List.getElem?_set_self hiσ] at e2
     cases e2
   · rw[List.getElem?_set_ne (Ne.symm hj)] at e2
     obtain⟨u',r',q⟩:=hlk j y v' e1 e2 e3
     refine⟨u',r',?_⟩
     rcases q with ⟨k,e⟩ | ⟨k,c,e,z⟩
     · refine .inl ⟨k,?_⟩
       have:y≠n:=fun e=>hj (zeS hN e1 (e ▸ hi))
       simp[this,e]
     · exact .inr ⟨k,c,e,z.sameBut hs (cne y c e)⟩
 · obtain⟨w',z⟩:=I.cell y c e
   exact⟨w',z.sameBut hs (cne y c e)⟩
 · obtain⟨e,n,ne,nf,d⟩:=I.pin p hp
   exact⟨(hs.2 p.1 ne).trans e,n,ne,nf,d⟩
end
end L2
namespace Ex
open PySem PySem.Spec PyProof.Rows PySem.W PySem.Calls Builtin Builtin.ObjectAttr
def matchIn(K:Frag)(C:Addr):List Value->Option Bool
 | []=>some false
 |c::r=>if kitExc K c=true then (match subIn K (.ref C) c,matchIn K C r with
  |some a,some b=>some (a || b)
  | _,_=>none) else none
where kitExc (K:Frag) (c:Value):Bool:=kitCls K c c == some true && subIn K c (.type "BaseException") == some true
section
variable{M:Model}{A:Around}{E:Value->Shared->Prop}{s:Shared}{K:Frag}
theorem zkI{c:Value}{h:Heap}(X:K.In h)(q:matchIn.kitExc K c=true):Looks M h (isExcClass c) true:=by
 unfold matchIn.kitExc at q
 rw[Bool.and_eq_true] at q
 exact(kit_cls X (beq_iff_eq.mp q.1)).2.1.andThen (looks_subIn X (beq_iff_eq.mp q.2))
theorem zku{β:Type}{l:List Value}{b:β}{f:Value->β->Sem (ForInStep β)}{Q:β->Shared->Prop}(hf:∀ c∈l,∀ R:ForInStep β->Shared->Prop,R (.yield b) s->wpAny M A (f c b) R E s)(h:Q b s):wpAny M A (forIn l b f) Q E s:=by
 induction l with
 |nil=>exact wpAny_pure h
 |cons c r ih =>
   rw[List.forIn_cons]
   refine wpAny_bind (hf c (List.mem_cons_self ..) _ ?_)
   exact ih fun c' hc'=>hf c' (List.mem_cons_of_mem _ hc')
theorem zk1{C:Addr}{cs:List Value}{b:Bool}{Q:Option Bool×Unit->Shared->Prop}(X:K.In s.heap)(q:matchIn K C cs=some b)(h:Q (if b then (some true,()) else (none,())) s) :
 wpAny M A (forIn cs ((none,()):Option Bool×Unit) fun c __s=>do
  let __do_lift <- isSubtype (.ref C) c
  if __do_lift=true then pure (ForInStep.done (some true,())) else pure (ForInStep.yield (none,()))) Q E s:=by
 induction cs generalizing b with
 |nil=>cases q;exact wpAny_pure h
 |cons c r ih =>
   unfold matchIn at q
   split at q
   · split at q
     · rename_i a b' e1 e2
       cases q
       rw[List.forIn_cons]
       refine wpAny_bind (wpAny_bind ((looks_subIn X e1).here ?_))
       cases a with
       |true=>exact wpAny_pure (wpAny_pure h)
       |false =>
         refine wpAny_pure ?_
         exact ih e2 (by simpa using h)
     · cases q
   · cases q
theorem zjp{C:Addr}:∀ {cs:List Value} {b:Bool},matchIn K C cs=some b->∀ c∈cs,matchIn.kitExc K c=true
 | [],_,_,c,hc=>nomatch hc
 |c::r,b,q,c',hc=>by
   unfold matchIn at q
   split at q
   · rename_i hk
     split at q
     · rename_i a b' e1 e2
       cases hc with
       |head=>exact hk
       |tail _ m=>exact zjp e2 c' m
     · cases q
   · cases q
theorem zhl{e C p:Addr}{cs:List Value}{b:Bool}{Q:Bool->Shared->Prop}(X:K.In s.heap)(hty:Looks M s.heap (typeOf (.ref e)) (.ref C))(hp:IsTup s.heap p cs.toArray)(q:matchIn K C cs=some b)(h:Q b s) :
 wpAny M A (excMatches (.ref e) (.ref p)) Q E s:=by
 obtain⟨o,ho,hc,n,hd⟩:=hp
 unfold excMatches
 refine wpAny_bind (wpAny_isInstance (T := "tuple") ⟨o,ho,hc⟩ (b:=true) (by rw[isSubtype_type];kernel_rfl) ?_)
 have hs:seqItems? (.ref p)=seqItems? (.ref p):=rfl
 obtain⟨oc,odi,oda,osl⟩:=o
 dsimp only at hc hd
 subst hc hd
 have e0:((some cs.toArray).getD #[]).toList=cs:=by simp
 rw[if_pos rfl]
 refine wpAny_bind (m:=seqItems? (.ref p)) (wpAny_mono (Q:=fun r s'=>r=some cs.toArray/\s'=s) (E:=E) ?_ (fun r s' hr=>?_) fun _ _ x=>x)
 · unfold seqItems?
   obtain⟨h0,g,d,t,os⟩:=s
   repeat (first | with_reducible refine wpAny_loadPart_at ho ?_ | exact⟨rfl,rfl⟩ | wp_step)
 obtain⟨rfl,rfl⟩:=hr
 refine wpAny_bind (wpAny_pure ?_)
 rw[e0]
 dsimp only
 refine wpAny_bind (zku (fun c hc R hR=>?_) ?_)
 · refine wpAny_bind ((zkI X (zjp q c hc)).here ?_)
   exact wpAny_pure hR
 refine wpAny_bind (hty.here (wpAny_bind (zk1 X q ?_)))
 cases b<;>exact wpAny_pure h
end
end Ex
namespace L2
open PySem PySem.Spec PyProof.Rows Ex
abbrev Cx.body(X:Cx)(E':Value->Shared->Prop)(pn':List (Addr×Obj)):Cx:={ X with xe:=E',pn:=pn' }
abbrev Cx.hand(X:Cx)(e:Value)(E':Value->Shared->Prop):Cx:={ X with A:=X.A.mark (some e),calm:=false,xe:=E' }
section
variable{X:Cx}{pins:List (Addr×Obj)}{σ:St}{H:Hp}{s:Shared}
theorem Inv.tob(I:Inv X pins σ H s)(E':Value->Shared->Prop):Inv (X.body E' (X.pn++pins)) [] σ H s :=
 ⟨⟨I.ok.mod,I.ok.kind,I.ok.glob,I.ok.blt,I.ok.above,I.ok.inj,I.ok.has,I.ok.cab,I.ok.hd,I.ok.frames,I.ok.stk,I.ok.exf,I.ok.bs,I.ok.bsz,I.ok.noex,I.ok.exfs,I.ok.funs,I.ok.frf⟩,I.os,I.bare,I.base,I.loc,I.cell,I.free,I.freeC,
   fun p hp=>I.pin p (by simpa using hp),I.hok,I.len⟩
theorem Inv.ofb{pins':List (Addr×Obj)}{E':Value->Shared->Prop}(I:Inv (X.body E' (X.pn++pins)) pins' σ H s):Inv X pins σ H s :=
 ⟨⟨I.ok.mod,I.ok.kind,I.ok.glob,I.ok.blt,I.ok.above,I.ok.inj,I.ok.has,I.ok.cab,I.ok.hd,I.ok.frames,I.ok.stk,I.ok.exf,I.ok.bs,I.ok.bsz,I.ok.noex,I.ok.exfs,I.ok.funs,I.ok.frf⟩,I.os,I.bare,I.base,I.loc,I.cell,I.free,I.freeC,
   fun p hp=>I.pin p (List.mem_append_left _ hp),I.hok,I.len⟩
theorem Inv.toh(I:Inv X pins σ H s)(e:Value)(E':Value->Shared->Prop):Inv (X.hand e E') pins σ H s :=
 ⟨⟨I.ok.mod,I.ok.kind,I.ok.glob,I.ok.blt,I.ok.above,I.ok.inj,I.ok.has,I.ok.cab,(fun z=>nomatch z),I.ok.frames,I.ok.stk,I.ok.exf,I.ok.bs,I.ok.bsz,I.ok.noex,I.ok.exfs,I.ok.funs,I.ok.frf⟩,I.os,I.bare,I.base,I.loc,I.cell,I.free,I.freeC,I.pin,I.hok,I.len⟩
theorem Inv.ofh{e:Value}{E':Value->Shared->Prop}(I:Inv (X.hand e E') pins σ H s)(hd:X.calm=true->X.A.handled=none):Inv X pins σ H s :=
 ⟨⟨I.ok.mod,I.ok.kind,I.ok.glob,I.ok.blt,I.ok.above,I.ok.inj,I.ok.has,I.ok.cab,hd,I.ok.frames,I.ok.stk,I.ok.exf,I.ok.bs,I.ok.bsz,I.ok.noex,I.ok.exfs,I.ok.funs,I.ok.frf⟩,I.os,I.bare,I.base,I.loc,I.cell,I.free,I.freeC,I.pin,I.hok,I.len⟩
theorem Inv.landed{e C T':Addr}{tb:Option Addr}{h' h'':Heap}(I:Inv X pins σ H s)(ex:∃ dd,H e=some (ExO C e dd false))(hT:∀ T,tb=some T->H T=none/\X.s₀.heap.objs.size<=T/\∀ p∈X.pn++pins,p.1≠T)
 (tbd:∀ T,tb=some T->∃ oT ts,s.heap.get? T=some oT/\oT.data = .fields ts) (S:Step (frs X.stack) e tb s.heap h') (hle:s.heap.objs.size<=T') (oth:∀ b,b≠T'->h''.get? b=h'.get? b):Inv X pins σ H { s with heap:=h'' }:=by
 obtain⟨dd,ex⟩:=ex
 obtain⟨oe,vs,t0,he,hc,hdd,hd,h0,hsz,_⟩:=zbS I.hok ex
 have hT':∀ b o,s.heap.get? b=some o->b≠T':=fun b o z=>Nat.ne_of_lt (Nat.lt_of_lt_of_le (Heap.lt_size z) hle)
 have keep:∀ b o,s.heap.get? b=some o->b≠e->tb≠some b->b ∉ frs X.stack->h''.get? b=some o:=fun b o z a1 a2 a3=>(oth b (hT' b o z)).trans (S.keep b o z a1 a2 a3)
 have tracked:∀ b u,H b=some u->b ∉ frs X.stack:=fun b u z hb=>by
  have n:=I.stkFree b hb
  rw[z] at n
  cases n
 have ne:∀ b,H b=none->b≠e:=fun b z y=>by rw[y,ex] at z;cases z
 refine I.call' (s':={ s with heap:=h'' }) (ch:=tb.toList) rfl ⟨fun b o z n hb hx=>?_,fun b o z n hb hx=>?_,fun b o z n _=>n,fun b o z _=>?_,fun _ _ z=>z,fun _ _ _ z=>z,fun b ps z=>⟨#[],by rw[z];simp⟩⟩ (fun b u z=>?_) I.bare fun b hb=>?_
 · exact keep b o z (ne b n) (fun y=>hx (by rw[y];simp)) hb
 · obtain⟨sl,e1⟩:=S.slot b o z (ne b n) (fun y=>hx (by rw[y];simp))
   exact⟨sl,(oth b (hT' b o z)).trans e1⟩
 · obtain⟨o2,e2⟩:=S.there b o z
   exact⟨o2,(oth b (hT' b o z)).trans e2⟩
 · by_cases hb:b=e
   · subst hb
     rw[ex] at z
     cases z
     obtain⟨vs',e1,e2,e3⟩:=S.exc oe vs he hd
     exact zem ((oth b (hT' b _ he)).trans e1) hc hdd rfl (by rw[e2];exact h0) (by rw[e3];exact hsz) fun z=>nomatch z
   · refine(I.hok b u z).stay (fun c v hcv r=>?_) (fun _ r=>r) fun _ _ r=>r
     have ne2:c≠e:=by
      rcases hcv with rfl | hcv
      · exact hb
      · exact zer hcv ex (by intro y;cases y)
     have tr:∃ u',H c=some u':=by
      rcases hcv with rfl | hcv
      · exact⟨_,z⟩
      · exact⟨_,hcv⟩
     obtain⟨u',hu'⟩:=tr
     exact keep c v r ne2 (fun y=>by have:=(hT c y).1;rw[hu'] at this;cases this) (tracked c u' hu')
 · cases tb with
   |none=>simp at hb
   |some T =>
     have:b=T:=by simpa using hb
     subst this
     obtain⟨a1,a2,a3⟩:=hT b rfl
     obtain⟨oT,ts,g1,g2⟩:=tbd b rfl
     refine⟨.inr a2,fun y=>?_,fun x c hx y=>?_,a3⟩
     · obtain⟨m,⟨o,es,ep,ho,hd',_⟩,_⟩:=I.loc
       rw[y,ho] at g1
       cases g1
       rw[hd'] at g2
       cases g2
     · obtain⟨v,o,ho,hd'⟩:=I.cell x c hx
       rw[y,g1] at ho
       cases ho
       rw[hd'] at g2
       cases g2
def PN(X:Cx)(es:List Expr)(us:List Value):Prop :=
 ∀ (A:Around) (E:Value->Shared->Prop) (pos:Pos) (pins:List (Addr×Obj)) (σ:St) (H:Hp) (s:Shared) (Q:List Value->Shared->Prop),Inv X pins σ H s->Q us s->wpAny (model X.prog X.w) A (spliced (backTo pos (starEach es X.env))) Q E s
theorem zpA:PN X [] []:=fun _ _ _ _ _ _ _ _ _ h=>Calls.spliced_nil h
theorem zgp{x:Str}{p:Pos}{es:List Expr}{u:Value}{us:List Value}(hg:Gl X x)(hm:X.mg x=some u)(hr:PN X es us)(hd:(x == ("__debug__" : Str))=false:=by decide)
 (hs:starEach (.Name x p::es) X.env=(false,eval (.Name x p) X.env)::starEach es X.env:=by rfl):PN X (.Name x p::es) (u::us):=by
 intro A E pos pins σ H s Q I h
 rw[hs]
 show wpAny _ _ (spliced ((false,eval (.Name x p) X.env)::backTo pos (starEach es X.env))) _ _ s
 refine Calls.spliced_cons (Calls.Name_function_global I.ok.kind hg (Calls.loadGlobal_global (by rw[I.ok.glob];exact I.mod.glob.keeps I.bk) hm ?_) hd)
 exact hr A E pos pins σ H s _ I h
section
variable{X:Cx}
def zqw(K:W.Frag)(cs:List Value)(i:Nat)(tb:XKS->TS)(ts:TS):TS:=fun D σ H =>
 tb (fun σ' cls ea H'=>∃ a C,cls = .ref C/\ea=some a/\matchIn K C cs=some true /\
  ts { nx:=fun σ'' H''=>D.nx (σ''.set i none) H'',rt:=D.rt,bk:=fun σ'' H''=>D.bk (σ''.set i none) H'',ct:=fun σ'' H''=>D.ct (σ''.set i none) H'' } (σ'.set i (some (.ref a))) H') D σ H
theorem zpI{body suite:List Stmt}{b₀:Stmt}{n:Str}{i:Nat}{es:List Expr}{cs:List Value}{k1 p1 hpos pos}{tb:XKS->TS}{ts:TS}(hst:X.stack=X.env::X.outer/\X.env.frame=some X.env.locals)
 (hN:X.N.Nodup) (hi:X.N[i]? = some n) (hl:X.env.scope.names.lookup n=some .local) (hes:PN X es cs) (hcs:cs.length<=1000)
 (hb:∀ E' pn' EE,XOk (X.body E' pn') EE->PSs (X.body E' pn') body (tb EE)) (hs:∀ a,PSs (X.hand (.ref a) fun _ _=>False) (b₀::suite) ts) :
 PS X (.Try body [.ExceptHandler (some (.Tuple es k1 p1)) (some n) (b₀::suite) hpos] [] [] pos) (zqw X.K cs i tb ts):=by
 intro pins s σ H D I h
 refine wpAny_Try_except ?_
 have fin:∀ {f:Flow} {s1:Shared},SP X pins D f s1->(match f with | .next=>wpAny (model X.prog X.w) X.A (execs [] X.env) (SP X pins D) X.xe s1 | f=>SP X pins D f s1):=fun {f s1} hsp=>by
  cases f<;>first | exact hsp | exact wpAny_execs_nil hsp
 refine wpAny_mono (hb _ (X.pn++pins) _ ?_ [] s σ H D (I.tob _) h) (fun f s1 hsp=>fin ?_) fun e s1 z=>z
 · -- what is wanted of exceptions
   intro pins' σ' H' s' e C I' T q
   obtain⟨ex,lo,tb',F,hT⟩:=T
   have I1:Inv X pins σ' H' s':=I'.ofb
   have hT1:∀ T,tb'=some T->H' T=none/\X.s₀.heap.objs.size<=T/\∀ p∈X.pn++pins,p.1≠T:=fun T z=>⟨(hT T z).1,(hT T z).2.1,fun p hp=>(hT T z).2.2 p (List.mem_append_left _ hp)⟩
   have tbd:∀ T,tb'=some T->∃ oT ts,s'.heap.get? T=some oT/\oT.data = .fields ts:=fun T z=>by
    subst z
    obtain⟨_,_,oT,ts,_,_,_,_,g1,g2,_⟩:=F
    exact⟨oT,ts,g1,g2⟩
   obtain⟨dd,ex'⟩:=id ex
   obtain⟨oe,vs,t0,he,hc,hdd,hd,h0,hsz,_⟩:=zbS I1.hok ex'
   have hfr:X.A.frames=some (X.env::X.outer):=by rw[I1.ok.frames,hst.1]
   have hfl:s'.heap.FunFrames X.base (X.env::X.outer):=by rw[<- hst.1];exact I1.stack
   show wpAny (model X.prog X.w) X.A (noteFrame (.ref e) X.env) _ X.xe s'
   refine zhj (L:=X.env.locals) hfr hfl hst.2 F (fun oe' vs' a b=>by rw[he] at a;cases a;rw[hd] at b;cases b;exact hsz) fun h' T' S hle FF=>?_
   refine zfa (s:={ s' with heap:=h' }) FF fun h'' oth F2=>?_
   have I2:Inv X pins σ' H' { s' with heap:=h'' }:=I1.landed ex hT1 tbd (by rw[hst.1];exact S) hle oth
   obtain⟨a,C',ec,ea,hm,hk⟩:=q
   cases ec
   cases ea
   obtain⟨oe2,vs2,t2,he2,hc2,_⟩:=zbS I2.hok ex'
   refine wpAny_handleBy_cons (codeAny_handlers_test ?_) (by intro q;cases q)
   refine wpAny_Tuple_spliced (hes _ _ _ pins σ' H' _ _ I2 ⟨by rw[sizeLine_eq];omega,?_⟩)
   have I3:Inv X pins σ' H' { s' with heap:=h''.push { cls:=.type "tuple",data:=.seq cs.toArray } }:=I2.kept (t':=s'.toks) fun b u z=>Heap.get?_push_of_some _ z
   have he3:=Heap.get?_push_of_some { cls:=.type "tuple",data:=.seq cs.toArray } he2
   have F3:Fly (h''.push { cls:=.type "tuple",data:=.seq cs.toArray }) e .none (some T'):=by
    obtain⟨o1,v1,o2,v2,g1,g2,g3,g4,g5,g6,g7⟩:=F2
    exact⟨o1,v1,o2,v2,Heap.get?_push_of_some _ g1,g2,g3,g4,Heap.get?_push_of_some _ g5,g6,g7⟩
   have LT:W.Looks (model X.prog X.w) (h''.push { cls:=.type "tuple",data:=.seq cs.toArray }) (typeOf (.ref e)) (.ref C):=hc2 ▸ (W.Looks.ld he3).andThen .now
   refine zhl (s:={ s' with heap:=h''.push { cls:=.type "tuple",data:=.seq cs.toArray } }) I3.kIn LT ⟨_,Heap.get?_push_size _ rfl,rfl,_,rfl⟩ hm ?_
   apply codeAny_handlers_suite_as
   refine zfa (s:={ s' with heap:=h''.push { cls:=.type "tuple",data:=.seq cs.toArray } }) F3 fun h4 oth4 F4=>?_
   have I4:Inv X pins σ' H' { s' with heap:=h4 }:=by
    refine I3.turned (t':=s'.toks) (fun b o hb z=>(oth4 b hb).trans z) (I1.hok.fresh hle) (Nat.ne_of_gt (Nat.lt_of_lt_of_le I1.lt hle)) (.inr (Nat.le_trans I1.sz hle)) (fun x c hx=>?_) fun p hp=>?_
    · obtain⟨v,o,ho,_⟩:=I1.cell x c hx
      exact Nat.ne_of_lt (Nat.lt_of_lt_of_le (Heap.lt_size ho) hle)
    · exact Nat.ne_of_lt (Nat.lt_of_lt_of_le (Heap.lt_size (I1.pin p hp).1) hle)
   refine zfz (s:={ s' with heap:=h4 }) I4 hN hi (.inl hl) (v:=.ref e) rfl (fun s5 I5=>?_) (.inr hl)
   refine wpAny_mono (PSs.nox (X:=X.hand (.ref e) _) (hs e) pins s5 _ _ _ (I5.toh _ _) hk) (fun f s6 hsp=>?_) fun x s6 z=>z
   show wpAny _ _ _ _ _ _
   cases f with
   |next =>
     obtain⟨σ6,H6,J,z⟩:=hsp
     exact zeC (J.ofh I.ok.hd) hN hi hl fun s7 I7=>⟨_,_,I7,z⟩
   |brk =>
     obtain⟨σ6,H6,J,z⟩:=hsp
     exact zeC (J.ofh I.ok.hd) hN hi hl fun s7 I7=>⟨_,_,I7,z⟩
   |cont =>
     obtain⟨σ6,H6,J,z⟩:=hsp
     exact zeC (J.ofh I.ok.hd) hN hi hl fun s7 I7=>⟨_,_,I7,z⟩
   |ret u =>
     obtain⟨v,σ6,H6,J,rv,z⟩:=hsp
     exact zeC (J.ofh I.ok.hd) hN hi hl fun s7 I7=>⟨v,_,_,I7,rv,z⟩
 · cases f with
   |next=>obtain⟨σ6,H6,J,z⟩:=hsp;exact⟨σ6,H6,J.ofb,z⟩
   |brk=>obtain⟨σ6,H6,J,z⟩:=hsp;exact⟨σ6,H6,J.ofb,z⟩
   |cont=>obtain⟨σ6,H6,J,z⟩:=hsp;exact⟨σ6,H6,J.ofb,z⟩
   |ret u=>obtain⟨v,σ6,H6,J,rv,z⟩:=hsp;exact⟨v,σ6,H6,J.ofb,rv,z⟩
end
end
structure Clo(env:Env)(scope:Scope)(cl:List (Str×Addr)):Prop where
 clos:closureFor scope env=pure cl
 sub:∀ x c,cl.lookup x=some c->env.cells.lookup x=some c
 has:∀ x,(x,NameKind.free)∈scope.names->∃ c,cl.lookup x=some c
theorem lookup_mem{α:Type}{x:Str}{c:α}:∀ {l:List (Str×α)},l.lookup x=some c->(x,c)∈l
 | [],h=>by simp at h
 | (y,d)::r,h=>by
   rw[List.lookup_cons] at h
   split at h
   · rename_i q
     cases h
     rw[beq_iff_eq.mp q]
     exact List.mem_cons_self ..
   · exact List.mem_cons_of_mem _ (lookup_mem h)
theorem mem_lookup{α:Type}{x:Str}{c:α}:∀ {l:List (Str×α)},(x,c)∈l->∃ d,l.lookup x=some d
 | [],h=>nomatch h
 | (y,d)::r,h=>by
   rw[List.lookup_cons]
   split
   · exact⟨d,rfl⟩
   · rename_i q
     rcases List.mem_cons.mp h with z | z
     · cases z;simp at q
     · exact mem_lookup z
theorem zl7{env:Env}{scope:Scope}(h:∀ x,(x,NameKind.free)∈scope.names->∃ c,env.cells.lookup x=some c):∃ cl,Clo env scope cl:=by
 have go:∀ (names:List (Str×NameKind)) (cs:List (Str×Addr)),(∀ x,(x,NameKind.free)∈names->∃ c,env.cells.lookup x=some c) ->
  ∃ cl,(forIn (m:=Sem) names cs fun x r=>(match x with | (name,kind)=>if (kind == NameKind.free)=true then do let a <- cellOf env name;pure (ForInStep.yield ((name,a)::r)) else pure (ForInStep.yield r)))=pure cl /\
   (∀ y c,(y,c)∈cl->(y,c)∈cs\/env.cells.lookup y=some c)/\(∀ y c,(y,c)∈cs->(y,c)∈cl)/\(∀ y,(y,NameKind.free)∈names->∃ c,(y,c)∈cl):=by
  intro names
  induction names with
  |nil=>intro cs _;exact⟨cs,rfl,fun _ _ z=>.inl z,fun _ _ z=>z,fun _ z=>nomatch z⟩
  |cons p r ih =>
    intro cs hh
    obtain⟨y,k⟩:=p
    by_cases hk:k = .free
    · subst hk
      obtain⟨c,hc⟩:=hh y (List.mem_cons_self ..)
      obtain⟨cl,e,h1,h2,h3⟩:=ih ((y,c)::cs) fun x hx=>hh x (List.mem_cons_of_mem _ hx)
      refine⟨cl,?_,fun z d hz=>?_,fun z d hz=>h2 z d (List.mem_cons_of_mem _ hz),fun z hz=>?_⟩
      · have ec:cellOf env y=pure c:=by simp only[cellOf,hc]
        rw[List.forIn_cons]
        simp only[beq_self_eq_true,if_true,ec,pure_bind]
        exact e
      · rcases h1 z d hz with q | q
        · rcases List.mem_cons.mp q with q | q
          · cases q;exact .inr hc
          · exact .inl q
        · exact .inr q
      · rcases List.mem_cons.mp hz with q | q
        · cases q;exact⟨c,h2 _ _ (List.mem_cons_self ..)⟩
        · exact h3 z q
    · obtain⟨cl,e,h1,h2,h3⟩:=ih cs fun x hx=>hh x (List.mem_cons_of_mem _ hx)
      refine⟨cl,?_,h1,h2,fun z hz=>?_⟩
      · rw[List.forIn_cons]
        have:(k == NameKind.free)=false:=by simpa using hk
        simp only[this,Bool.false_eq_true,if_false,pure_bind]
        exact e
      · rcases List.mem_cons.mp hz with q | q
        · cases q;exact absurd rfl hk
        · exact h3 z q
 obtain⟨cl,e,h1,h2,h3⟩:=go scope.names [] h
 refine⟨cl,?_,fun x c hx=>?_,fun x hx=>?_⟩
 · unfold closureFor
   first
    |exact e
    | (show(forIn (m:=Sem) scope.names ([]:List (Str×Addr)) _ >>= fun r=>pure r)=pure cl;rw[bind_pure];exact e)
    | (rw[bind_pure];exact e)
    | (trace_state;fail "x")
 · exact(h1 x c (lookup_mem hx)).elim (fun z=>nomatch z) id
 · obtain⟨c,hc⟩:=h3 x hx
   exact mem_lookup hc
abbrev Cx.blk(X:Cx)(Nc:List Str)(scope:Scope)(cl:List (Str×Addr))(C:Addr)(s3:Shared)(H3:Hp)(fp:List Addr)(pn':List (Addr×Obj))(E':Value->Shared->Prop):Cx :=
 { X with N:=Nc,s₀:=s3,H₀:=H3,env:=compEnvC scope cl C X.env,outer:=X.stack,ex:=fp,fn:=fun _=>false,pn:=pn',xe:=E' }
def compσ(fr:List Nat)(own:Nat)(σ:St):St:=List.replicate own none++fr.map fun j=>(σ[j]?).join
structure BlkN(X:Cx)(scope:Scope)(Nc:List Str)(own:Nat)(fr:List Nat):Prop where
 len:Nc.length=own+fr.length
 free:∀ (k j:Nat) (x:Str),fr[k]? = some j->Nc[own+k]? = some x->X.N[j]? = some x/\(X.env.scope.names.lookup x=some .cell\/X.env.scope.names.lookup x=some .free)/\scope.names.lookup x=some .free
 kind:scope.kind = .function
 nocell:∀ y∈scope.names,y.2 ≠ .cell
 names:∀ x∈scope.names,x.2 = .local->scope.names.lookup x.1=some .local
 frees:∀ x,(x,NameKind.free)∈scope.names->X.env.scope.names.lookup x=some .cell\/X.env.scope.names.lookup x=some .free
def PTs(X:Cx)(ifs:List Expr)(t:TT):Prop :=
 ∀ (pins:List (Addr×Obj)) (s:Shared) (σ:St) (H:Hp) (Q:Bool->Hp->Prop),Inv X pins σ H s->t σ H Q ->
  wpAny (model X.prog X.w) X.A (forIn ifs true fun c r=>if r=true then do let ok <- isTrue c X.env (eval c X.env);pure (ForInStep.yield ok) else pure (ForInStep.yield r)) (TP X pins σ Q) X.xe s
theorem znW{X:Cx}:PTs X [] (fun _ H Q=>Q true H):=fun _ _ _ H _ I h=>wpAny_tests_nil ⟨H,I,h⟩
theorem znQ{X:Cx}{c:Expr}{t:TT}(h:PT X c t):PTs X [c] t:=fun pins s σ H Q I q=>wpAny_tests_one (h pins s σ H Q I q)
def tLC(fr:List Nat)(own:Nat)(wi:TI)(g:TG)(tc:TT)(te:TE):TE:=fun σ H Q=>wi σ H fun J H1=>∀ D,H1 D=none->∃ W:Nat->Nat->List V->Hp->Prop,(∃ m,W 0 m [] (upd H1 D (.lst []))) /\
 ∀ i m ys H2,H2 D=some (.lst ys)->W i m ys H2->(J.stop i H2/\Q (.ref D) H2)\/(J.go i H2/\ys.length<sizeLine/\∀ x H3,J.yld i H2 x H3->g x (compσ fr own σ) H3 fun σ4 H4=>tc σ4 H4 fun b H5 =>
  if b=true then te σ4 H5 fun y H6=>H6 D=some (.lst ys)/\∃ m',m'<m/\W (i+1) m' (ys++[y]) (upd H6 D (.lst (ys++[y]))) else H5 D=some (.lst ys)/\∃ m',m'<m/\W (i+1) m' ys H5)
theorem zdR{scope:Scope}{env:Env}{x:Str}(hn:∀ y∈scope.names,y.2 ≠ .cell){k:NameKind}(h:(relabel scope env).names.lookup x=some k)(hk:k = .cell\/k = .free):(x,NameKind.free)∈scope.names:=by
 have m:=lookup_mem h
 obtain⟨⟨y,k'⟩,hy,e⟩:=List.mem_map.mp m
 dsimp only at e
 split at e
 · rename_i q
   rw[Bool.and_eq_true,Bool.and_eq_true] at q
   have q11:=beq_iff_eq.mp q.1.1
   cases e
   rw[q11] at hy
   exact hy
 · cases e
   rcases hk with rfl | rfl
   · exact absurd rfl (hn _ hy)
   · exact hy
theorem zg3{scope:Scope}{env:Env}{x:Str}(h:scope.names.lookup x=some .free):(relabel scope env).names.lookup x=some .cell\/(relabel scope env).names.lookup x=some .free:=by
 unfold relabel
 dsimp only
 generalize scope.names=l at h
 induction l with
 |nil=>simp at h
 |cons p r ih =>
   obtain⟨y,k⟩:=p
   rw[List.lookup_cons] at h
   rw[List.map_cons, ]
   split at h
   · rename_i q
     cases h
     dsimp only
     split
     · rw[List.lookup_cons,q];exact .inl rfl
     · rw[List.lookup_cons,q];exact .inr rfl
   · rename_i q
     dsimp only
     split
     · rw[List.lookup_cons,q];exact ih h
     · rw[List.lookup_cons,q];exact ih h
section
variable{X:Cx}{pins:List (Addr×Obj)}{σ:St}{H:Hp}{s:Shared}
theorem Inv.block{scope:Scope}{Nc:List Str}{own:Nat}{fr:List Nat}{cl:List (Str×Addr)}{fp:List Addr}{h₁:Heap}{t':Nat}{E':Value->Shared->Prop}(I:Inv X pins σ H s)(B:BlkN X scope Nc own fr)(cl0:Clo X.env scope cl)
 (hfp:∀ b∈fp,zdl X pins H b/\∃ o,s.heap.get? b=some o) (hns:h₁.Ns s.heap.objs.size (fun _=>none)) (keep:∀ b o,s.heap.get? b=some o->h₁.get? b=some o) :
 Inv (X.blk Nc scope cl s.heap.objs.size s H fp (X.pn++pins) E') [] (compσ fr own σ) H { s with heap:=h₁,toks:=t' }:=by
 have lt:∀ b∈fp,b<s.heap.objs.size:=fun b hb=>let ⟨_,_,e⟩:=hfp b hb;Heap.lt_size e
 have celllt:∀ x c,X.env.cells.lookup x=some c->c<s.heap.objs.size:=fun x c e=>let ⟨_,_,e,_⟩:=I.cell x c e;Heap.lt_size e
 refine⟨⟨I.ok.mod,B.kind,I.ok.glob,I.ok.blt,Nat.le_refl _,fun x y c h1 h2=>I.ok.inj x y c (cl0.sub x c h1) (cl0.sub y c h2),fun x hx=>?_,(fun x c z=>nomatch z),I.ok.hd,I.ok.frames,.inl rfl,fun b hb=>?_,I.bs,Nat.le_trans I.ok.bsz I.sz,fun b o e hb=>?_,fun b hb=>?_,I.stack,I.stkFree⟩,
  rfl,I.bare,Un.kept keep,⟨_,hns,fun i x v e1 e2 e3=>?_⟩,fun x c e=>?_,I.hok.fresh (Nat.le_refl _),fun x c e=>I.freeC x c (cl0.sub x c e),fun p hp=>?_,I.hok.kept keep,?_⟩
 · rcases hx with hx | hx
   · exact cl0.has x (zdR B.nocell hx (.inl rfl))
   · exact cl0.has x (zdR B.nocell hx (.inr rfl))
 · exact⟨Nat.ne_of_lt (lt b hb),fun x c e z=>(hfp b hb).1.2.2.2.2.1 x c (cl0.sub x c e) z⟩
 · -- a base object is no iterator of ours
   have e0:=I.ok.bs b o e
   rcases(hfp b hb).1.2.2.2.1 with z | z
   · exact I.ok.noex b o e z
   · exact absurd (Nat.lt_of_lt_of_le (Nat.lt_of_lt_of_le (Heap.lt_size e) I.ok.bsz) z) (Nat.lt_irrefl _)
 · intro z
   rcases List.mem_cons.mp (I.stkSub b z) with z | z
   · exact(hfp b hb).1.2.1 z
   · exact(hfp b hb).1.2.2.1 z
 · -- a slot
   unfold compσ at e2
   by_cases hi:i<own
   · rw[List.getElem?_append_left (by simpa using hi),List.getElem?_replicate,if_pos hi] at e2
     cases e2
   · have hge:own<=i:=Nat.le_of_not_lt hi
     rw[List.getElem?_append_right (by simpa using hge),List.length_replicate,List.getElem?_map] at e2
     cases hj:fr[i - own]? with
     |none=>rw[hj] at e2;cases e2
     |some j =>
       rw[hj] at e2
       have e2':(σ[j]?).join=some v:=by simpa using e2
       have e4:σ[j]? = some (some v):=by
        cases q:σ[j]? with
        |none=>rw[q] at e2';cases e2'
        |some o=>rw[q] at e2';have:o=some v:=e2';rw[this]
       have e5:Nc[own+(i - own)]? = some x:=by rw[Nat.add_sub_cancel' hge];exact e1
       obtain⟨n1,n2,n3⟩:=B.free (i - own) j x hj e5
       obtain⟨m,hn,hl⟩:=I.loc
       have vis:Vis X.env.scope x:=n2.elim (fun z=>.inr (.inl z)) fun z=>.inr (.inr z)
       obtain⟨u,r,l⟩:=hl j x v n1 e4 vis
       refine⟨u,r,.inr ⟨zg3 n3,?_⟩⟩
       rcases l with ⟨k,_⟩ | ⟨_,c,hc,hcell⟩
       · rcases n2 with n2 | n2
         · have k':X.env.scope.names.lookup x=some .local:=k
           rw[n2] at k';cases k'
         · have k':X.env.scope.names.lookup x=some .local:=k
           rw[n2] at k';cases k'
       · obtain⟨c',hc'⟩:=cl0.has x (lookup_mem n3)
         have e6:=cl0.sub x c' hc'
         rw[hc] at e6
         cases e6
         obtain⟨o,ho,hd⟩:=hcell
         exact⟨c,hc',o,keep _ _ ho,hd⟩
 · obtain⟨v,o,ho,hd⟩:=I.cell x c (cl0.sub x c e)
   exact⟨v,o,keep _ _ ho,hd⟩
 · have hp':p∈X.pn++pins:=by simpa using hp
   obtain⟨e,n,ne,nf,d⟩:=I.pin p hp'
   refine⟨keep _ _ e,n,Nat.ne_of_lt (Heap.lt_size e),fun z=>?_,d⟩
   rcases List.mem_cons.mp (I.stkSub p.1 z) with z | z
   · exact ne z
   · exact nf z
 · show(compσ fr own σ).length=Nc.length
   unfold compσ
   rw[List.length_append,List.length_replicate,List.length_map,B.len]
theorem Inv.unblock{scope:Scope}{Nc:List Str}{cl:List (Str×Addr)}{fp:List Addr}{E':Value->Shared->Prop}{pins':List (Addr×Obj)}{σ':St}{H':Hp}{s':Shared}{h':Heap}(I:Inv X pins σ H s)(hfp:∀ b∈fp,zdl X pins H b)
 (J:Inv (X.blk Nc scope cl s.heap.objs.size s H fp (X.pn++pins) E') pins' σ' H' s') (sb:Heap.SameBut s.heap.objs.size s'.heap h'):Inv X pins σ H' { s' with heap:=h' }:=by
 have ne:∀ b o,s.heap.get? b=some o->b≠s.heap.objs.size:=fun b o e=>Nat.ne_of_lt (Heap.lt_size e)
 have hC:H' s.heap.objs.size=none:=J.free
 refine I.call' (s':={ s' with heap:=h' }) (ch:=fp) J.os ⟨fun b o e n hb hx=>?_,fun b o e n hb hx=>?_,J.base.free,fun b o e hx=>?_,J.base.tups,J.base.frzs,J.base.tbls⟩ (fun b u e=>?_) J.bare fun b hb=>?_
 · exact(sb.2 b (ne b o e)).trans (J.base.keep b o e n hb hx)
 · obtain⟨sl,z⟩:=J.base.slot b o e n hb hx
   exact⟨sl,(sb.2 b (ne b o e)).trans z⟩
 · obtain⟨o',z⟩:=J.base.there b o e hx
   exact⟨o',(sb.2 b (ne b o e)).trans z⟩
 · refine(J.hok b u e).stay (fun c v hc q=>(sb.2 c ?_).trans q) (fun _ q=>q) fun _ _ q=>q
   rintro rfl
   rcases hc with rfl | hc
   · rw[hC] at e;cases e
   · rw[hC] at hc;cases hc
 · obtain⟨f0,f1,f2,f3,f4,f5⟩:=hfp b hb
   exact⟨f3,f1,f4,f5⟩
def zhD(own:Nat)(g:TG):Prop:=∀ (x:V) (σ:St) (H:Hp) (Q:St->Hp->Prop),g x σ H Q->g x σ H fun σ' H'=>Q σ' H'/\∀ k,own<=k->σ'[k]? = σ[k]?
def zjh(own:Nat)(g:TGs):Prop:=∀ (x:List V) (σ:St) (H:Hp) (Q:St->Hp->Prop),g x σ H Q->g x σ H fun σ' H'=>Q σ' H'/\∀ k,own<=k->σ'[k]? = σ[k]?
theorem zeO{own i:Nat}(h:i<own):zhD own (zf6 i):=fun x σ H Q q=>⟨q,fun k hk=>List.getElem?_set_ne (by omega)⟩
theorem zeI{own:Nat}:zjh own zpR:=fun x σ H Q q=>⟨q.1,q.2,fun _ _=>rfl⟩
theorem zbV{own i:Nat}{u:TGs}(h:i<own)(hu:zjh own u):zjh own (zmr (zf6 i) u):=fun x σ H Q q=>by
 obtain⟨v,r,e,q⟩:=q
 refine⟨v,r,e,?_⟩
 have q':=hu r _ H _ q
 have e2:(fun σ' H'=>Q σ' H'/\∀ k,own<=k->σ'[k]? = (σ.set i (some v))[k]?)=(fun σ' H'=>Q σ' H'/\∀ k,own<=k->σ'[k]? = σ[k]?):=by
  funext σ' H'
  apply propext
  constructor
  · rintro⟨a,b⟩
    exact⟨a,fun k hk=>by rw[b k hk,List.getElem?_set_ne (by omega)]⟩
  · rintro⟨a,b⟩
    exact⟨a,fun k hk=>by rw[b k hk,List.getElem?_set_ne (by omega)]⟩
 rw[e2] at q'
 exact q'
theorem zeE{own n:Nat}{K:W.Frag}{u:TGs}(hu:zjh own u):zhD own (zqf K n u):=fun x σ H Q q=>by
 obtain⟨a,xs,e1,e2,e3,q⟩:=q
 exact⟨a,xs,e1,e2,e3,hu xs σ H Q q⟩
end
def turnOf(e:Expr)(k:Nat)(tg:Expr)(p:Pos)(ifs:List Expr)(act:Sem Unit)(it acc:Value)(env:Env):Sem Fin:=do
 standAt p
 match <- pyNext it with
 |none=>pure (.done .next)
 |some v =>
   letOwnedTupleGo tg it v
   assign tg env v
   let mut ok:=true
   for c in ifs do
    if ok then ok <- isTrue c env (eval c env)
   if ok then act
   again (.compLoop e k it acc env)
abbrev zok(M:Model)(A:Around)(env:Env)(tg:Expr)(it:Value)(ifs:List Expr)(act:Sem Unit)(N:Value->Shared->Prop)(next:Shared->Prop)(v:Value)(s:Shared):Prop :=
 wpAny M A (letOwnedTupleGo tg it v) (fun _ a=>wpAny M A (assign tg env v) (fun _ b =>
  wpAny M A (forIn ifs true fun c r=>if r=true then do let ok <- isTrue c env (eval c env);pure (ForInStep.yield ok) else pure (ForInStep.yield r)) (fun yes c =>
   if yes=true then wpAny M A act (fun _=>next) N c else next c) N b) N a) N s
theorem zid{prog:Program}{w:World}{A:Around}{R:Result->Shared->Prop}{s:Shared}{el tg:Expr}{gs:List Comprehension}{sc:Scope}{pos:Pos}{k:Nat}{p:Pos}{ifs:List Expr}{act:Sem Unit}{it acc:Value}{env:Env}(ht:compTurn (.ListComp el gs sc pos) k it acc env=turnOf (.ListComp el gs sc pos) k tg p ifs act it acc env)(J:Nat->Shared->Prop)(n:Nat)(start:J n s)
 (turn:∀ n s,J n s->wpAny (model prog w) A (pyNext it) (fun r a=>match r with
  |none=>R (.ok .next) a
  |some v=>zok (model prog w) A env tg it ifs act (notedBy (model prog w) A env fun x=>R (.error x)) (fun b=>∃ m,m<n/\J m b) v a) (notedBy (model prog w) A env fun x=>R (.error x)) s) :
 codeAny (model prog w) A (.compLoop (.ListComp el gs sc pos) k it acc env) R s:=by
 apply codeAny_loop rfl J _ n start
 intro n s j
 change wpAny _ A (Sem.onRaise (compTurn (.ListComp el gs sc pos) k it acc env) fun x=>do noteFrame x env;theTreesLotGoes x) _ _ s
 apply wpAny_noted;rw[ht];unfold turnOf
 apply wpAny_bind;apply wpAny_standAt;apply wpAny_bind;apply wpAny_mono (turn n s j) _ fun _ _ z=>z
 intro r a k
 cases r with
 |none=>exact wpAny_pure k
 |some v =>
   apply wpAny_bind;apply wpAny_mono k _ fun _ _ z=>z;intro _ b k
   apply wpAny_bind;apply wpAny_mono k _ fun _ _ z=>z;intro _ c k
   apply wpAny_bind;apply wpAny_mono k _ fun _ _ z=>z;intro yes d k
   cases yes
   · exact wpAny_pure (And.intro rfl k)
   · apply wpAny_bind;apply wpAny_mono k _ fun _ _ z=>z;intro _ f k
     exact wpAny_pure (And.intro rfl k)
abbrev TAc:=St->Hp->Addr->List V->(List V->Hp->Prop)->Prop
def zra(Y:Cx)(L:List V->Prop)(te:TAc)(act:Value->Sem Unit):Prop:=∀ (pins:List (Addr×Obj)) (s:Shared) (σ:St) (H:Hp) (D:Addr) (ys:List V) (K:List V->Hp->Prop),Inv Y pins σ H s->L ys->te σ H D ys K ->
 wpAny (model Y.prog Y.w) Y.A (act (.ref D)) (fun _ s'=>∃ H' ys',Inv Y pins σ H' s'/\H' D=some (.lst ys')/\K ys' H') (fun _ _=>False) s
def emit(el:Expr)(env:Env)(acc:Value):Sem Unit:=do let _ <- call (.builtin "list.append") [acc, <- eval el env]
def tE1(te:TE):TAc:=fun σ H D ys K=>te σ H fun y H6=>H6 D=some (.lst ys)/\K (ys++[y]) (upd H6 D (.lst (ys++[y])))
abbrev zoL(ys:List V):Prop:=ys.length<sizeLine
theorem zqz{Y:Cx}{el:Expr}{te:TE}(hx:Y.xe=fun _ _=>False)(he:PE Y el te):zra Y zoL (tE1 te) (emit el Y.env):=by
 intro pins s σ H D ys K J hlen q
 unfold emit
 refine wpAny_bind (wpAny_mono (he pins s σ H _ J q) (fun v s8 ⟨y,H8,J8,r8,e8,k8⟩=>?_) fun _ _ z=>by rw[hx] at z;exact z)
 refine wpAny_bind (wpAny_mono (zgb _ s8 σ H8 (.ref D) [y] (.ref D) [v] (fun _ H9=>H9=upd H8 D (.lst (ys++[y]))) J8 rfl (.cons r8 .nil) ⟨_,ys,y,rfl,rfl,e8,hlen,rfl⟩) (fun _ s9 ⟨_,H9,J9,_,e9⟩=>?_) fun _ _ z=>by rw[hx] at z;exact z)
 subst e9
 exact wpAny_pure ⟨_,_,J9,zal,k8⟩
def zql(fr:List Nat)(own:Nat)(wi:TI)(g:TG)(tc:TT)(L:List V->Prop)(te:TAc):TE:=fun σ H Q=>wi σ H fun J H1=>∀ D,H1 D=none->∃ W:Nat->Nat->List V->Hp->Prop,(∃ m,W 0 m [] (upd H1 D (.lst []))) /\
 ∀ i m ys H2,H2 D=some (.lst ys)->W i m ys H2->(J.stop i H2/\Q (.ref D) H2)\/(J.go i H2/\L ys/\∀ x H3,J.yld i H2 x H3->g x (compσ fr own σ) H3 fun σ4 H4=>tc σ4 H4 fun b H5 =>
  if b=true then te σ4 H5 D ys (fun ys' H6=>∃ m',m'<m/\W (i+1) m' ys' H6) else H5 D=some (.lst ys)/\∃ m',m'<m/\W (i+1) m' ys H5)
section
variable{X:Cx}{pins:List (Addr×Obj)}{σ:St}{H:Hp}{s:Shared}
theorem zn4{elt tg iter:Expr}{ifs:List Expr}{scope:Scope}{pos fpos:Pos}{Nc:List Str}{own:Nat}{fr:List Nat}{wi:TI}{g:TG}{tc:TT}{L:List V->Prop}{te:TAc}{act:Env->Value->Sem Unit}{gs:List Comprehension}{use:Option (Value->Sem Unit)}{QQ:Value->Shared->Prop}{Q:VK}(hc:X.calm=true)(B:BlkN X scope Nc own fr)(hi:PI X tg iter wi)(hog:zhD own g)
 (hg:∀ cl C s3 H3 fp pn',PG (X.blk Nc scope cl C s3 H3 fp pn' fun _ _=>False) tg g) (ht:∀ cl C s3 H3 fp pn',PTs (X.blk Nc scope cl C s3 H3 fp pn' fun _ _=>False) ifs tc) (hturn:∀ it acc env,compTurn (.ListComp elt (⟨tg,iter,ifs,0⟩::gs) scope pos) 0 it acc env=turnOf (.ListComp elt (⟨tg,iter,ifs,0⟩::gs) scope pos) 0 tg iter.pos ifs (act env acc) it acc env) (ha:∀ cl C s3 H3 fp pn',zra (X.blk Nc scope cl C s3 H3 fp pn' fun _ _=>False) L te (act (compEnvC scope cl C X.env)))
 (hs:∀ x,foldedSetIterable iter X.env x=pure x) (I:Inv X pins σ H s) (h:zql fr own wi g tc L te σ H Q)
 (fin:∀ (D C:Addr) (H3:Hp) (s4:Shared),(∃ m,s4.heap.Ns C m)->zdl X pins H3 C->(∀ h',Heap.SameBut C s4.heap h'->Inv X pins σ H3 { s4 with heap:=h' })->Q (.ref D) H3->compPost (model X.prog X.w) X.A X.xe use QQ (.ref D) C (.ok .next) s4) :
 wpAny (model X.prog X.w) X.A (comprehension (.ListComp elt (⟨tg,iter,ifs,0⟩::gs) scope pos) scope X.env fpos (newList []) false (eval iter X.env) use) QQ X.xe s:=by
 obtain⟨cl,cl0⟩:=zl7 (env:=X.env) (scope:=scope) fun x hx=>I.ok.has x (B.frees x hx)
 apply wpAny_comprehension_free rfl hs cl0.clos B.kind B.names
 apply wpAny_mono (hi pins s σ H _ I h) _ fun _ _ e=>e
 intro xv s1 h1
 apply wpAny_mono h1 _ fun _ _ e=>e
 intro itv s2 h2
 obtain⟨it,fp,tn,J,H2,rfl,I2,T,st2,f2,q⟩:=h2
 refine wpAny_newObj_type (wpAny_newFunctionEnv B.nocell (by intro y hy;simp at hy) (fun h₁ hns₁ hsb₁=>?_) B.kind)
 have hD:H2 s2.heap.objs.size=none:=I2.hok.fresh (Nat.le_refl _)
 obtain⟨W,⟨m0,w0⟩,turn⟩:=q s2.heap.objs.size hD
 have I3:Inv X pins σ (upd H2 s2.heap.objs.size (.lst [])) { s2 with heap:=s2.heap.push { cls:=.type "list",dict:=none,data:=.seq ([]:List Value).toArray } } :=
  I2.laid (t':=s2.toks) (fun b u e=>Heap.get?_push_of_some _ e) (Nat.le_refl _) ⟨Nat.zero_le _,[],0,.nil,Heap.get?_push_size _ rfl⟩
 have fpne:∀ b∈fp,b≠s2.heap.objs.size:=fun b hb=>let ⟨o,e,_⟩:=T.obj _ _ st2 b hb;Nat.ne_of_lt (Heap.lt_size e)
 have f3:∀ b∈fp,zdl X pins (upd H2 s2.heap.objs.size (.lst [])) b:=fun b hb=>⟨by rw[zaf (fpne b hb)];exact(f2 b hb).1,(f2 b hb).2⟩
 have keep:∀ b o,(s2.heap.push { cls:=.type "list",dict:=none,data:=.seq ([]:List Value).toArray }).get? b=some o->h₁.get? b=some o:=fun b o e =>
  (hsb₁.2 b (Nat.ne_of_lt (Heap.lt_size e))).trans (Heap.get?_push_of_some _ e)
 have IY:=I3.block (h₁:=h₁) (t':=s2.toks+([]:List (Str×Value)).length) (E':=fun _ _=>False) B cl0 (fun b hb=>⟨f3 b hb,let ⟨o,e,_⟩:=T.obj _ _ st2 b hb; ⟨o,Heap.get?_push_of_some _ e⟩⟩) hns₁ keep
 have st1:tn 0 h₁:=T.keep _ _ _ st2 fun b hb o e=>keep b o (Heap.get?_push_of_some _ e)
 have fY:∀ {H':Hp},(∀ b∈fp,H' b=none)->∀ b∈fp,zdl (X.blk Nc scope cl (s2.heap.push { cls:=.type "list",dict:=none,data:=.seq ([]:List Value).toArray }).objs.size { s2 with heap:=s2.heap.push { cls:=.type "list",dict:=none,data:=.seq ([]:List Value).toArray } } (upd H2 s2.heap.objs.size (.lst [])) fp (X.pn++pins) fun _ _=>False) [] H' b:=fun hn b hb =>
  ⟨hn b hb,(IY.ok.exf b hb).1,IY.ok.exfs b hb,.inl hb,(IY.ok.exf b hb).2,fun p hp=>(f2 b hb).2.2.2.2.2 p (by simpa using hp)⟩
 have loop:codeAny (model X.prog X.w) X.A (.compLoop (.ListComp elt (⟨tg,iter,ifs,0⟩::gs) scope pos) 0 (.ref it) (.ref s2.heap.objs.size) (compEnvC scope cl (s2.heap.push { cls:=.type "list",dict:=none,data:=.seq ([]:List Value).toArray }).objs.size X.env))
  (compPost (model X.prog X.w) X.A X.xe use QQ (.ref s2.heap.objs.size) (s2.heap.push { cls:=.type "list",dict:=none,data:=.seq ([]:List Value).toArray }).objs.size) { s2 with heap:=h₁,toks:=s2.toks+([]:List (Str×Value)).length }:=by
  refine zid (hturn _ _ _) (fun n s'=>∃ i ys H',Inv (X.blk Nc scope cl (s2.heap.push { cls:=.type "list",dict:=none,data:=.seq ([]:List Value).toArray }).objs.size { s2 with heap:=s2.heap.push { cls:=.type "list",dict:=none,data:=.seq ([]:List Value).toArray } } (upd H2 s2.heap.objs.size (.lst [])) fp (X.pn++pins) fun _ _=>False) [] (compσ fr own σ) H' s'/\tn i s'.heap/\(∀ b∈fp,H' b=none)/\H' s2.heap.objs.size=some (.lst ys)/\W i n ys H')
   m0 ⟨0,[],_,IY,st1,fun b hb=>(f3 b hb).1,zal,w0⟩ ?_
  rintro n s3 ⟨i,ys,H3,J3,st3,fr3,e3,w3⟩
  rcases turn i n ys H3 e3 w3 with ⟨stop,qn⟩ | ⟨go,hlen,step⟩
  · refine thn (T.done (X.blk Nc scope cl (s2.heap.push { cls:=.type "list",dict:=none,data:=.seq ([]:List Value).toArray }).objs.size { s2 with heap:=s2.heap.push { cls:=.type "list",dict:=none,data:=.seq ([]:List Value).toArray } } (upd H2 s2.heap.objs.size (.lst [])) fp (X.pn++pins) fun _ _=>False) rfl rfl rfl hc i [] s3 _ H3 _ J3 (fY fr3) st3 stop) fun r s4 ⟨hr,J4⟩=>?_
    subst hr
    obtain⟨m,hn,_⟩:=J4.loc
    exact fin _ _ H3 s4 ⟨m,hn⟩ (I3.fpOk (Nat.le_refl _) J4.free) (fun h' sb=>I3.unblock f3 J4 sb) qn
  · refine thn (T.item (X.blk Nc scope cl (s2.heap.push { cls:=.type "list",dict:=none,data:=.seq ([]:List Value).toArray }).objs.size { s2 with heap:=s2.heap.push { cls:=.type "list",dict:=none,data:=.seq ([]:List Value).toArray } } (upd H2 s2.heap.objs.size (.lst [])) fp (X.pn++pins) fun _ _=>False) rfl rfl rfl hc i [] s3 _ H3 _ J3 (fY fr3) st3 go) fun r s4 ⟨u,hr,h4⟩=>?_
    subst hr
    refine thn h4 fun _ s5 ⟨x,H5,J5,r5,y5,st5,fr5⟩=>?_
    have J5':=J5.pinned (fY fr5) (T.obj _ _ st5)
    have lift:∀ {α:Type} {m:Sem α} {Q':α->Shared->Prop} {E':Value->Shared->Prop} {s':Shared},wpAny (model X.prog X.w) X.A m Q' (fun _ _=>False) s'->wpAny (model X.prog X.w) X.A m Q' E' s':=fun h=>wpAny_mono h (fun _ _ z=>z) fun _ _ z=>z.elim
    refine lift (thn (hg _ _ _ _ _ _ _ s5 _ H5 x u _ J5' r5 (hog _ _ _ _ (step x H5 y5))) fun _ s6 ⟨σ6,H6,J6,q6,hσ6⟩=>?_)
    refine lift (thn (ht _ _ _ _ _ _ _ s6 σ6 H6 _ J6 q6) fun b s7 ⟨H7,J7,q7⟩=>?_)
    have back:∀ {H8:Hp} {s8:Shared} {ys':List V} {m':Nat},Inv (X.blk Nc scope cl (s2.heap.push { cls:=.type "list",dict:=none,data:=.seq ([]:List Value).toArray }).objs.size { s2 with heap:=s2.heap.push { cls:=.type "list",dict:=none,data:=.seq ([]:List Value).toArray } } (upd H2 s2.heap.objs.size (.lst [])) fp (X.pn++pins) fun _ _=>False) ([]++zef fp s5.heap) σ6 H8 s8->H8 s2.heap.objs.size=some (.lst ys')->m'<n->W (i+1) m' ys' H8 ->
     ∃ m,m<n/\∃ i ys H',Inv (X.blk Nc scope cl (s2.heap.push { cls:=.type "list",dict:=none,data:=.seq ([]:List Value).toArray }).objs.size { s2 with heap:=s2.heap.push { cls:=.type "list",dict:=none,data:=.seq ([]:List Value).toArray } } (upd H2 s2.heap.objs.size (.lst [])) fp (X.pn++pins) fun _ _=>False) [] (compσ fr own σ) H' s8/\tn i s8.heap/\(∀ b∈fp,H' b=none)/\H' s2.heap.objs.size=some (.lst ys)/\W i m ys H':=fun {H8 s8 ys' m'} J8 e8 hm w8=>by
     refine⟨m',hm,i+1,ys',H8,?_,T.keep _ _ _ st5 fun b hb o e=>(J8.pin (b,o) (List.mem_append_right _ (List.mem_append_right _ (zbQ hb e)))).1,fun b hb=>?_,e8,w8⟩
     · refine(Inv.unpinned (pins:=[]) J8).weak ?_ fun j v' z=>?_
       · rw[IY.len];exact J8.len.symm
       · by_cases hj:j<own
         · unfold compσ at z
           rw[List.getElem?_append_left (by simpa using hj),List.getElem?_replicate,if_pos hj] at z
           cases z
         · rw[hσ6 j (Nat.le_of_not_lt hj)];exact z
     · obtain⟨o,e,d⟩:=T.obj _ _ st5 b hb
       exact(J8.pin (b,o) (List.mem_append_right _ (List.mem_append_right _ (zbQ hb e)))).2.1
    cases b with
    |false =>
      obtain⟨e7,m',hm,w7⟩:=(show H7 s2.heap.objs.size=some (.lst ys)/\∃ m',m'<n/\W (i+1) m' ys H7 from by simpa using q7)
      exact back J7 e7 hm w7
    |true =>
      have q7':te σ6 H7 s2.heap.objs.size ys (fun ys' H6=>∃ m',m'<n/\W (i+1) m' ys' H6):=by simpa using q7
      refine lift (thn (ha _ _ _ _ _ _ _ s7 σ6 H7 _ ys _ J7 hlen q7') fun v s8 ⟨H8,ys',J8,e8,m',hm,w8⟩=>?_)
      exact back J8 e8 hm w8
 exact codeAny_compStart_list loop (T.self _ _ _ _ _ st1 loop)
theorem zq7{elt tg iter:Expr}{ifs:List Expr}{scope:Scope}{pos:Pos}{Nc:List Str}{own:Nat}{fr:List Nat}{wi:TI}{g:TG}{tc:TT}{te:TE}(hc:X.calm=true)(B:BlkN X scope Nc own fr)(hi:PI X tg iter wi)(hog:zhD own g)
 (hg:∀ cl C s3 H3 fp pn',PG (X.blk Nc scope cl C s3 H3 fp pn' fun _ _=>False) tg g) (ht:∀ cl C s3 H3 fp pn',PTs (X.blk Nc scope cl C s3 H3 fp pn' fun _ _=>False) ifs tc) (he:∀ cl C s3 H3 fp pn',PE (X.blk Nc scope cl C s3 H3 fp pn' fun _ _=>False) elt te)
 (hs:∀ x,foldedSetIterable iter X.env x=pure x:=by intro _;rfl):PE X (.ListComp elt [⟨tg,iter,ifs,0⟩] scope pos) (tLC fr own wi g tc te):=by
 intro pins s σ H Q I h
 rw[eval_ListComp]
 exact zn4 (act:=fun env acc=>emit elt env acc) (QQ:=EP X pins σ Q) hc B hi hog hg ht (fun _ _ _=>rfl) (fun cl C s3 H3 fp pn'=>zqz rfl (he cl C s3 H3 fp pn')) hs I (show zql fr own wi g tc zoL (tE1 te) σ H Q from h) fun L C H3 s4 hn f unb q=>let ⟨m,hm⟩:=hn; ⟨m,hm,fun h' sb=>⟨.ref L,H3,unb h' sb,rfl,q⟩⟩
end
section
variable{X:Cx}
theorem zfU{y:V}:∀ {xs:List V} {us:List Value},Vals xs us->xs.all zcF=true->us.countP (eqU y)=xs.countP fun z=>eqV z y
 | _,_,.nil,_=>rfl
 | _,_,.cons r t,h=>by
   have h:=Bool.and_eq_true_iff.mp ((List.all_cons ..).symm.trans h)
   rw[List.countP_cons,List.countP_cons,zfU t h.2,zh6 r h.1]
def zmg:V->List V->Hp->VK->Prop:=fun x vs H Q=>∃ l xs y,x = .ref l/\vs=[y]/\H l=some (.lst xs)/\zcF y=true/\xs.all zcF=true/\Q (.int (xs.countP fun z=>eqV z y)) H
theorem zmM:MtR X "list.count" zmg:=by
 intro pins s σ H x vs v us Q I rx rv h
 obtain⟨l,xs,y,rfl,rfl,hH,fy,fx,q⟩:=h
 cases rx
 obtain⟨u,rfl,ru⟩:=rv.one
 obtain⟨z,its,n,r,hl,e⟩:=I.lstM hH
 refine call_meets (s:=s) F.slot_list_count (show s.TypeIs (.ref l) "list" from⟨_,e,rfl⟩) F.entry_list_count (F.args_list_count_2 _ _) (SeqAt.list_countAt l its.toArray n none #[] u (eqU y)) ?_
 refine⟨e,fun w hw=>zeL ru fy r fx w (by simpa using hw),?_⟩
 refine⟨.int (xs.countP fun z=>eqV z y),H,I.tok _,⟨s.toks,?_⟩,q⟩
 rw[<- zfU r fx]
def zlK:V->List V->Hp->VK->Prop:=fun x vs H Q=>∃ l xs y j,x = .ref l/\vs=[y]/\H l=some (.lst xs)/\zcF y=true/\xs.all zcF=true/\(∃ w,xs[j]? = some w/\eqV w y=true)/\(∀ (m:Nat) w,m<j->xs[m]? = some w->eqV w y=false)/\j<1000/\Q (.int j) H
theorem zlo{y:V}{xs:List V}{us:List Value}(r:Vals xs us)(f:xs.all zcF=true){m:Nat}{w:V}(h:xs[m]? = some w):∃ hm:m<us.length,eqU y us[m]=eqV w y:=by
 obtain⟨u,hu,ru⟩:=r.get h
 obtain⟨hm,e⟩:=List.getElem?_eq_some_iff.mp hu
 exact⟨hm,by rw[e];exact zh6 ru (List.all_eq_true.mp f w (List.mem_of_getElem? h))⟩
theorem zhS:MtR X "list.index" zlK:=by
 intro pins s σ H x vs v us Q I rx rv h
 obtain⟨l,xs,y,j,rfl,rfl,hH,fy,fx,⟨w,hw,hit⟩,no,small,q⟩:=h
 cases rx
 obtain⟨u,rfl,ru⟩:=rv.one
 obtain⟨z,its,n,r,hl,e⟩:=I.lstM hH
 obtain⟨hj,ej⟩:=zlo (y:=y) r fx hw
 refine call_meets (s:=s) F.slot_list_index (show s.TypeIs (.ref l) "list" from⟨_,e,rfl⟩) F.entry_list_index (F.args_list_index_2 _ _) (SeqAt.list_indexAt l its.toArray n none #[] u (eqU y) j (by simpa using hj) (by omega) (by simpa [hit] using ej) ?_) ?_
 case refine_2=>exact⟨e,fun w hw=>zeL ru fy r fx w (by simpa using hw),.int j,H,I.tok _,⟨s.toks,rfl⟩,q⟩
 case refine_1 =>
  intro m hm lt
  have hm':m<xs.length:=by rw[r.length];simpa using hm
  obtain⟨_,em⟩:=zlo (y:=y) r fx (List.getElem?_eq_getElem hm')
  have:=no m _ lt (List.getElem?_eq_getElem hm')
  simpa [this] using em
mutual
inductive DatV(H:Hp):V->PyData->Prop
 |non:DatV H .non .none
 |bl (b:Bool):DatV H (.bl b) (.bool b)
 |int (i:Int):DatV H (.int i) (.int i)
 |str (x:Str):DatV H (.str x) (.str x)
 |lst {a:Addr} {xs:List V} {ds:List PyData}:H a=some (.lst xs)->DatsV H xs ds->DatV H (.ref a) (.list ds)
 |tup {a:Addr} {xs:List V} {ds:List PyData}:H a=some (.tup xs)->DatsV H xs ds->DatV H (.ref a) (.tuple ds)
inductive DatsV(H:Hp):List V->List PyData->Prop
 |nil:DatsV H [] []
 |cons {x:V} {d:PyData} {xs:List V} {ds:List PyData}:DatV H x d->DatsV H xs ds->DatsV H (x::xs) (d::ds)
end
mutual
theorem DatV.reads{P:Program}{w:World}{H:Hp}{h:Heap}(ok:HOk P w H h):∀ {x:V} {d:PyData} {u:Value},DatV H x d->RelV x u->∃ as,Reads h u d as
 | _,_,_,.non,r=>by cases r;exact⟨_,.none⟩
 | _,_,_,.bl b,r=>by cases r;exact⟨_,.bool b⟩
 | _,_,_,.int i,r=>by obtain⟨t,rfl⟩:=r;exact⟨_,.int i t⟩
 | _,_,_,.str x,r=>by obtain⟨t,rfl⟩:=r;exact⟨_,.str x t⟩
 | _,_,_,.lst e D,r=>by
   cases r
   obtain⟨_,its,n,rv,q⟩:=ok _ _ e
   obtain⟨as,R⟩:=DatsV.reads ok D rv
   exact⟨_,.list q rfl rfl R⟩
 | _,_,_,.tup e D,r=>by
   cases r
   obtain⟨_,its,rv,o,q,c,n,d⟩:=ok _ _ e
   obtain⟨as,R⟩:=DatsV.reads ok D rv
   exact⟨_,.tuple q c d R⟩
theorem DatsV.reads{P:Program}{w:World}{H:Hp}{h:Heap}(ok:HOk P w H h):∀ {xs:List V} {ds:List PyData} {us:List Value},DatsV H xs ds->Vals xs us->∃ as,ReadsAll h us ds as
 | _,_,_,.nil,r=>by cases r;exact⟨_,.nil⟩
 | _,_,_,.cons a b,r=>by
   cases r with
   |cons r1 r2 =>
     obtain⟨_,R1⟩:=DatV.reads ok a r1
     obtain⟨_,R2⟩:=DatsV.reads ok b r2
     exact⟨_,.cons R1 R2⟩
end
end
section
variable{X:Cx}{pins:List (Addr×Obj)}{σ:St}{H:Hp}{s:Shared}{h':Heap}{fp:List Addr}
theorem Inv.turnedAll{t':Nat}(I:Inv X pins σ H s)(k:∀ b o,b ∉ fp->s.heap.get? b=some o->h'.get? b=some o)(hf:∀ b∈fp,zdl X pins H b):Inv X pins σ H { s with heap:=h',toks:=t' }:=by
 have apart:∀ b u,H b=some u->b ∉ fp:=fun b u e z=>by have q:=(hf b z).1;rw[e] at q;cases q
 refine I.step (g':=s.gens) (d':=s.drawn) (ch:=fp) (fun b hb=>?_) (fun b o _ _ hc e _=>k b o hc e) (fun b o _ _ hc e _=>⟨o.slots,k b o hc e⟩) (fun _ _ _ _ n=>n) (fun b o hc e=>⟨o,k b o hc e⟩) (fun _ _ e=>e) (fun _ _ _ e=>e) (fun b ps e=>⟨#[],by rw[e];simp⟩) (fun m hm=>?_) (fun b u e=>?_) I.bare
 · obtain⟨_,f1,_,f3,f4,f5⟩:=hf b hb
   exact⟨f3,f1,f4,f5⟩
 · obtain⟨o,es,ep,ho,r⟩:=hm
   exact⟨o,es,ep,k _ o (fun z=>(hf _ z).2.1 rfl) ho,r⟩
 · apply (I.hok b u e).stay (h':=h') (H':=H) _ (fun _ q=>q) (fun _ _ q=>q)
   intro c v hc q
   cases hc with
   |inl z=>exact k c v (by rw[z];exact apart b u e) q
   |inr z=>exact k c v (apart c _ z) q
theorem Inv.turnedNew{t':Nat}{a:Addr}{o:HO}(I:Inv X pins σ H s)(k:∀ b o,b ∉ fp->s.heap.get? b=some o->h'.get? b=some o)(hf:∀ b∈fp,zdl X pins H b)(ha:s.heap.objs.size<=a)(new:ObjOk X.prog X.w (upd H a o) h' a o):Inv X pins σ (upd H a o) { s with heap:=h',toks:=t' }:=by
 have apart:∀ b u,H b=some u->b ∉ fp:=fun b u e z=>by have q:=(hf b z).1;rw[e] at q;cases q
 have fr:H a=none:=I.hok.fresh ha
 have old:∀ b u,H b=some u->upd H a o b=some u:=fun b u e=>by rw[zaf (zaq e fr)];exact e
 refine I.step (g':=s.gens) (d':=s.drawn) (ch:=fp) (fun b hb=>?_) (fun b o _ _ hc e _=>k b o hc e) (fun b o _ _ hc e _=>⟨o.slots,k b o hc e⟩) (fun b u _ e n=>?_) (fun b o hc e=>⟨o,k b o hc e⟩) (fun b xs e=>old b _ e) (fun b o u e=>old b _ e) (fun b ps e=>⟨#[],by rw[old b _ e];simp⟩) (fun m hm=>?_) (fun b u e=>?_) I.bare
 · obtain⟨_,f1,_,f3,f4,f5⟩:=hf b hb
   exact⟨f3,f1,f4,f5⟩
 · have lt:b<s.heap.objs.size:=Heap.lt_size e
   rw[zaf (Nat.ne_of_lt (Nat.lt_of_lt_of_le lt ha))];exact n
 · obtain⟨o,es,ep,ho,r⟩:=hm
   exact⟨o,es,ep,k _ o (fun z=>(hf _ z).2.1 rfl) ho,r⟩
 · by_cases hb:b=a
   · subst hb;rw[zal] at e;cases e;exact new
   · rw[zaf hb] at e
     apply (I.hok b u e).stay (h':=h') (H':=upd H a o) _ (fun c q=>old c _ q) (fun c xs q=>old c _ q)
     intro c v hc q
     cases hc with
     |inl z=>exact k c v (by rw[z];exact apart b u e) q
     |inr z=>exact k c v (apart c _ z) q
end
section
variable{X:Cx}
def zpV:R2:=fun x y H Q=>∃ d e,DatV H x d/\DatV H y e/\SeqAt.shaped d=true/\SeqAt.shaped e=true/\Q (.bl (PyData.eqv d e)) H
def zpU:R2:=fun x y H Q=>∃ d e,DatV H x d/\DatV H y e/\SeqAt.shaped d=true/\SeqAt.shaped e=true/\Q (.bl (!PyData.eqv d e)) H
theorem zki{k:Nat}(hr:Room k X.A):OpR X (compareOp .Eq) zpV:=by
 intro pins s σ H x y v u Q I rx ry h
 obtain⟨d,e,hd,he,sd,se,q⟩:=h
 obtain⟨as,ra⟩:=hd.reads I.hok rx
 obtain⟨bs,rb⟩:=he.reads I.hok ry
 exact SeqAt.compareEq_shaped ra rb sd se hr.units ⟨.bl _,H,I,rfl,q⟩
theorem zkr{k:Nat}(hr:Room k X.A):OpR X (compareOp .NotEq) zpU:=by
 intro pins s σ H x y v u Q I rx ry h
 obtain⟨d,e,hd,he,sd,se,q⟩:=h
 obtain⟨as,ra⟩:=hd.reads I.hok rx
 obtain⟨bs,rb⟩:=he.reads I.hok ry
 exact SeqAt.compareNe_shaped ra rb sd se hr.units ⟨.bl _,H,I,rfl,q⟩
end
def Ite(l:Addr):It where
 go:=fun i H=>∃ xs x,H l=some (.lst xs)/\xs[i]? = some x
 yld:=fun i H v H'=>∃ p xs x,v = .ref p/\H p=none/\H'=upd H p (.tup [.int i,x])/\H l=some (.lst xs)/\xs[i]? = some x
 stop:=fun i H=>∃ xs,H l=some (.lst xs)/\xs.length<=i
def efp(n:Addr):List Addr:=[n+1,n]
theorem mem_efp{n b:Addr}:b∈efp n ↔ b=n+1\/b=n:=by simp[efp]
def etn(n l:Addr)(i:Nat)(h:Heap):Prop:=∃ old,IsEnum h (n+1) n i old/\h.IsListIter n l i
theorem zj6{P:Program}{w:World}{K:W.Frag}{es:List Expr}{x1}{pos:Pos}(l n:Addr):Turn P w K (.Tuple es x1 pos) (Ite l) (efp n) (n+1) (etn n l) where
 mem:=by simp[efp]
 obj:=fun i h st b hb=>by
  obtain⟨old,he,⟨o,e,c,d⟩⟩:=st
  rcases mem_efp.mp hb with z | z<;>subst z
  · exact⟨_,he,fun v z=>nomatch z⟩
  · exact⟨_,e,fun v z=>by rw[d] at z;cases z⟩
 keep:=fun i h h' st k=>by
  obtain⟨old,he,⟨o,e,r⟩⟩:=st
  exact⟨old,k _ (mem_efp.mpr (.inl rfl)) _ he,⟨o,k _ (mem_efp.mpr (.inr rfl)) _ e,r⟩⟩
 item:=by
  intro X hP hw hK hc i pins s σ H E I hf st hg
  subst hP hw hK
  obtain⟨xs,x,q1,hx⟩:=hg
  obtain⟨old,he,st1⟩:=st
  have ne:n+1≠n:=Nat.succ_ne_self n
  obtain⟨us,r1,p1,z1⟩:=I.list (SqL.of q1)
  obtain⟨u,hu,ru⟩:=r1.get hx
  have new:∀ b∈efp n,b<s.heap.objs.size:=fun b hb=>by
   rcases mem_efp.mp hb with e | e<;>subst e
   · exact Heap.lt_size he
   · obtain⟨_,e,_⟩:=st1;exact Heap.lt_size e
  apply wpAny_pyNext_enum_item he st1 p1.isList (x:=u) (by simpa using hu) ne
  intro h1 ho1 s1 np sz kept
  refine⟨_,rfl,wpAny_letOwnedTupleGo_enum ho1 fun h2 he2 sb=>?_⟩
  have k2:∀ b o,b ∉ efp n->s.heap.get? b=some o->h2.get? b=some o:=fun b o hb e=>by
   rw[mem_efp] at hb
   exact sb.extBut _ _ (fun z=>hb (.inl z)) (kept b o (fun z=>hb (.inl z)) (fun z=>hb (.inr z)) e)
  have fr:H s.heap.objs.size=none:=I.hok.fresh (Nat.le_refl _)
  have nz:s.heap.objs.size≠n+1:=fun e=>absurd (new (n+1) (mem_efp.mpr (.inl rfl))) (by rw[e];exact Nat.lt_irrefl _)
  refine⟨.ref s.heap.objs.size,upd H s.heap.objs.size (.tup [.int i,x]),I.turnedNew (t':=s.toks+1) k2 hf (Nat.le_refl _) ?_,rfl,⟨_,xs,x,rfl,fr,rfl,q1,hx⟩,⟨u,?_,?_⟩,fun b hb=>?_⟩
  · exact⟨by show(2:Nat)<=sizeLine;decide,[.int i s.toks,u],.cons ⟨_,rfl⟩ (.cons ru .nil),⟨_,sb.extBut _ _ nz np,rfl,_,rfl⟩⟩
  · exact he2
  · obtain⟨o,e,r⟩:=s1
    exact⟨o,sb.extBut _ _ (Ne.symm ne) e,r⟩
  · rw[zaf (Nat.ne_of_lt (new b hb))];exact(hf b hb).1
 done:=by
  intro X hP hw hK hc i pins s σ H E I hf st hg
  subst hP hw hK
  obtain⟨xs,q1,hx⟩:=hg
  obtain⟨old,he,st1⟩:=st
  obtain⟨us,r1,p1,z1⟩:=I.list (SqL.of q1)
  have hl:=r1.length
  apply wpAny_pyNext_enum_end (I.ok.hd hc) he st1 p1.isList (by simp;omega)
  intro h1 kept
  exact⟨rfl,I.turnedAll (t':=s.toks) (fun b o hb e=>kept b o (fun z=>hb (mem_efp.mpr (.inr z))) e) hf⟩
 self:=fun A i s Q E st h=>by
  obtain⟨old,he,_⟩:=st
  have ty:s.TypeIs (.ref (n+1)) "enumerate" := ⟨_,he,rfl⟩
  apply wpAny_pyIter_slot ty F.slot_enumerate_iter
  apply wpAny_call_entry F.slot_enumerate_iter ty F.entry_enumerate_iter _ (F.args_enumerate_iter_1 _)
  change wpAny _ _ (ret (.ref (n+1))) _ _ s
  exact wpAny_pure ⟨_,rfl,"enumerate",_,ty,F.slot_enumerate_next.lookup,h⟩
def zox(ta:TA):TI:=fun σ H R=>ta σ H fun vs H1=>∃ l xs,vs=[.ref l]/\H1 l=some (.lst xs)/\R (Ite l) H1
section
variable{X:Cx}
theorem zkO:bootBuiltins "enumerate" = some (.type "enumerate"):=by decide +kernel
theorem znL{a:Expr}{es:List Expr}{x1}{tp:Pos}{ta:TA}{p pos:Pos}(hg:Gl X "enumerate")(hm:X.mg "enumerate" = none)(ha:PA X [a] ta)(hs:starEach [a] X.env=[(false,eval a X.env)]:=by rfl):PI X (.Tuple es x1 tp) (.Call (.Name "enumerate" p) [a] [] pos) (zox ta):=by
 intro pins s σ H R I h
 refine Call_ (zeX I hg hm zkO (PyProof.Rows.callWith_type1 (thn (ha pos pins s σ H _ I h) fun us s1 ⟨vs,H1,I1,r1,q1⟩=>?_) hs rfl))
 obtain⟨l,xs,e,q1,q⟩:=q1
 subst e
 obtain⟨u,rfl,e1⟩:=vals1 r1
 cases e1
 obtain⟨us,r1,p1,z1⟩:=I1.list (SqL.of q1)
 apply call_enumerate_list p1.isList
 intro h' he st sz kept
 have T:=zj6 (P:=X.prog) (w:=X.w) (K:=X.K) (es:=es) (x1:=x1) (pos:=tp) l s1.heap.objs.size
 apply T.self X.A 0 _ _ _ ⟨.none,he,st⟩
 refine⟨_,efp s1.heap.objs.size,_,_,H1,rfl,I1.kept (t':=s1.toks) kept,T,⟨.none,he,st⟩,fun b hb=>?_,q⟩
 have le:s1.heap.objs.size<=b:=by
  rw[mem_efp] at hb
  rcases hb with e | e<;>rw[e]<;>first | exact Nat.le_refl _ | exact Nat.le_add_right _ _
 exact I1.fpOk le (I1.hok.fresh le)
end
section
variable{X:Cx}
theorem zdU:∀ {us:List Value} {ns:List Int},IntsAre us ns->Vals (ns.map V.int) us
 | _,_,.nil=>.nil
 | _,_,.cons n t r=>.cons ⟨t,rfl⟩ (zdU r)
theorem zcD:CallR X (.builtin "sorted") (fun xs H Q=>∃ (p:Addr) (ns:List Int),xs=[.ref p]/\SqL X.K H p (ns.map V.int)/\ns.length<64/\∀ (l:Addr) (ns':List Int),H l=none->ns'.Perm ns->ns'.Pairwise (· <= ·)->Q (.ref l) (upd H l (.lst (ns'.map V.int)))):=by
 intro pins s σ H xs us Q I r h
 obtain⟨p,ns,rfl,hS,hn,q⟩:=h
 obtain⟨u,rfl,ru⟩:=r.one
 cases ru
 obtain⟨its,rv,pl,hz⟩:=I.list hS
 have hl:=rv.length
 rw[List.length_map] at hl
 apply sorted_ints pl.isList (intsAre_of rv) (by omega)
 intro out ns' ia pm pw
 obtain⟨e,he⟩:=sortedAll_at s.heap its out
 have fr:H (s.heap.objs.size+1)=none:=I.hok.fresh (Nat.le_succ _)
 refine⟨.ref (s.heap.objs.size+1),upd H (s.heap.objs.size+1) (.lst (ns'.map V.int)),I.laid (t':=s.toks) (fun b o z=>sortedAll_old z) (Nat.le_succ _) ?_,rfl,q _ ns' fr pm pw⟩
 refine⟨?_,out.toList,e,zdU ia,he⟩
 rw[List.length_map,pm.length_eq]
 have z:(64:Nat)<=sizeLine:=by decide
 omega
end
def rIs(K:W.Frag):List V->Hp->VK->Prop:=fun xs H Q=>∃ x c t cv b,xs=[x,c]/\znZ c=some cv/\TyX K H x t/\W.kitOne K t cv=some b/\Q (.bl b) H
theorem zaI{H:Hp}{p:Addr}{o:HO}(h:H p=none):Same H (upd H p o):=fun b u e=>by rw[zaf (zaq e h)];exact e
end L2
namespace Dv
open PySem L2 Ex
inductive Cn where
 |PointError | NoPoints | NoBox | NoAsks | NoRun | NoText | NoTurn | NoTree | NoTop | NotServed | NoRow | NoPoint | NoName | NoKey | NoBack | TooMany | Points | Grower | Search | Turner | Desk
 deriving DecidableEq
class KC where
 K:W.Frag
 cls:Cn->Addr
variable[KC]
inductive D where
 |non | bl (b:Bool) | int (i:Int) | str (x:Str)
 |lst (xs:List D) | tup (xs:List D) | dic (ks vs:List D) | scr (ns:List Int) | ins (C:Cn) (ns:List Str) (vs:List D) | obj (C:Cn) (ns:List Str) (vs:List D)
mutual
inductive Rp(R:Hp):V->D->Prop
 |non:Rp R .non .non
 |bl (b:Bool):Rp R (.bl b) (.bl b)
 |int (i:Int):Rp R (.int i) (.int i)
 |str (x:Str):Rp R (.str x) (.str x)
 |lst {a:Addr} {xs:List V} {ds:List D}:R a=some (.lst xs)->Rps R xs ds->Rp R (.ref a) (.lst ds)
 |tup {a:Addr} {xs:List V} {ds:List D}:R a=some (.tup xs)->Rps R xs ds->Rp R (.ref a) (.tup ds)
 |dnil {a:Addr}:R a=some (.dK [])->Rp R (.ref a) (.dic [] [])
 |scr {a:Addr} {ns:List Int}:SqL KC.K R a (ns.map V.int)->Rp R (.ref a) (.scr ns)
 |exc0 {a:Addr} {C:Cn}:R a=some (ExO (KC.cls C) a none false)->Rp R (.ref a) (.ins C [] [])
 |exc {a d:Addr} {C:Cn} {fs:List (Str×V)} {ds:List D}:R a=some (ExO (KC.cls C) a (some d) false)->R d=some (ExD d fs)->Rps R (fs.map (·.2)) ds->Rp R (.ref a) (.ins C (fs.map (·.1)) ds)
 |obj {a dx:Addr} {C:Cn} {fs:List (Str×V)} {ds:List D}:R a=some (.ins (KC.cls C) dx fs)->Rps R (fs.map (·.2)) ds->Rp R (.ref a) (.obj C (fs.map (·.1)) ds)
inductive Rps(R:Hp):List V->List D->Prop
 |nil:Rps R [] []
 |cons {x:V} {d:D} {xs:List V} {ds:List D}:Rp R x d->Rps R xs ds->Rps R (x::xs) (d::ds)
end
mutual
theorem Rp.sm{H H':Hp}(s:Same H H'):∀ {x:V} {d:D},Rp H x d->Rp H' x d
 | _,_,.non=>.non
 | _,_,.bl b=>.bl b
 | _,_,.int i=>.int i
 | _,_,.str x=>.str x
 | _,_,.lst e h=>.lst (s _ _ e) (Rps.sm s h)
 | _,_,.tup e h=>.tup (s _ _ e) (Rps.sm s h)
 | _,_,.dnil e=>.dnil (s _ _ e)
 | _,_,.scr e=>.scr (s.seq e)
 | _,_,.exc0 e=>.exc0 (s _ _ e)
 | _,_,.exc e e' h=>.exc (s _ _ e) (s _ _ e') (Rps.sm s h)
 | _,_,.obj e h=>.obj (s _ _ e) (Rps.sm s h)
theorem Rps.sm{H H':Hp}(s:Same H H'):∀ {xs:List V} {ds:List D},Rps H xs ds->Rps H' xs ds
 | _,_,.nil=>.nil
 | _,_,.cons a b=>.cons (Rp.sm s a) (Rps.sm s b)
end
section
variable{R:Hp}
theorem Rps.len:∀ {xs:List V} {ds:List D},Rps R xs ds->xs.length=ds.length
 | _,_,.nil=>rfl
 | _,_,.cons _ h=>congrArg Nat.succ (Rps.len h)
theorem Rps.at:∀ {xs:List V} {ds:List D} {i:Nat} {x:V},Rps R xs ds->xs[i]? = some x->∃ d,ds[i]? = some d/\Rp R x d
 | _,_,_,_,.nil,e=>by simp at e
 | _,_,0,_,.cons r _,e=>by simp at e;subst e;exact⟨_,rfl,r⟩
 | _,_,i+1,x,.cons _ t,e=>by
   obtain⟨u,h1,h2⟩:=Rps.at (i:=i) (x:=x) t (by simpa using e)
   exact⟨u,by simpa using h1,h2⟩
theorem Rps.ta{xs:List V}{ds:List D}{i:Nat}{d:D}(h:Rps R xs ds)(e:ds[i]? = some d):∃ x,xs[i]? = some x/\Rp R x d:=by
 have lt:i<xs.length:=by rw[h.len];exact(List.getElem?_eq_some_iff.mp e).1
 obtain⟨d',e',r⟩:=h.at (List.getElem?_eq_getElem lt)
 rw[e] at e';cases e'
 exact⟨_,List.getElem?_eq_getElem lt,r⟩
theorem Rps.app:∀ {xs ys:List V} {ds es:List D},Rps R xs ds->Rps R ys es->Rps R (xs++ys) (ds++es)
 | _,_,_,_,.nil,h=>h
 | _,_,_,_,.cons a b,h=>.cons a (Rps.app b h)
theorem Rps.set{x:V}{d:D}(r:Rp R x d):∀ {xs:List V} {ds:List D} (n:Nat),Rps R xs ds->Rps R (xs.set n x) (ds.set n d)
 | _,_,_,.nil=>.nil
 | _,_,0,.cons _ b=>.cons r b
 | _,_,n+1,.cons a b=>.cons a (Rps.set r n b)
theorem Rps.ints:∀ ns:List Int,Rps R (ns.map V.int) (ns.map D.int)
 | []=>.nil
 |n::r=>.cons (.int n) (Rps.ints r)
theorem Rps.ints_inv:∀ {ns:List Int} {xs:List V},Rps R xs (ns.map D.int)->xs=ns.map V.int
 | [],_,.nil=>rfl
 | _::_,_,.cons (.int _) b=>by rw[Rps.ints_inv b];rfl
end
inductive Kd where
 |frz | own | io (k:Nat)
 deriving DecidableEq
abbrev Sl:=Option (Kd×D)
abbrev En:=List Sl
inductive RV where
 |val (d:D) | new (d:D) | var (i:Nat)
def OwR(R H:Hp)(v:V)(d:D):Prop:=∃ a xs ds,v = .ref a/\R a=none/\H a=some (.lst xs)/\d = .lst ds/\Rps R xs ds
def SlR(ios:List Addr)(R H:Hp)(v:V):Kd×D->Prop
 | (.frz,d)=>Rp R v d
 | (.own,d)=>OwR R H v d
 | (.io k,d)=>OwR R H v d/\∃ a,ios[k]? = some a/\v = .ref a
def owned:Kd->Bool
 | .frz=>false
 | _=>true
def Ow(σ:St)(Γ:En)(b:Addr):Prop:=∃ (i:Nat) (k:Kd) (d:D),Γ[i]? = some (some (k,d))/\owned k=true/\σ[i]? = some (some (.ref b))
structure ER(ios:List Addr)(R H:Hp)(σ:St)(Γ:En):Prop where
 sub:Same R H
 len:σ.length=Γ.length
 sl:∀ (i:Nat) (s:Kd×D),Γ[i]? = some (some s)->∃ v,σ[i]? = some (some v)/\SlR ios R H v s
 dj:∀ (i j:Nat) (k l:Kd) (d e:D) (b:Addr),Γ[i]? = some (some (k,d))->owned k=true->Γ[j]? = some (some (l,e))->owned l=true->σ[i]? = some (some (.ref b))->σ[j]? = some (some (.ref b))->i=j
structure Go(O:Addr->Prop)(R H:Hp)(O':Addr->Prop)(R' H':Hp):Prop where
 rr:Same R R'
 hh:∀ b o,H b=some o -> ¬ O b->H' b=some o
 no:∀ b o,H b=some o -> ¬ O b->R b=none->R' b=none
 oo:∀ b,O' b->O b\/H b=none
 th:∀ b o,H b=some o->∃ o',H' b=some o'
theorem Go.refl{O:Addr->Prop}{R H:Hp}:Go O R H O R H:=⟨Same.refl _,fun _ _ h _=>h,fun _ _ _ _ h=>h,fun _ h=>.inl h,fun _ o h=>⟨o,h⟩⟩
theorem Go.trans{O O1 O2:Addr->Prop}{R H R1 H1 R2 H2:Hp}(g:Go O R H O1 R1 H1)(k:Go O1 R1 H1 O2 R2 H2):Go O R H O2 R2 H2:=by
 have nO:∀ b o,H b=some o -> ¬ O b -> ¬ O1 b:=fun b o h n z=>(g.oo b z).elim n fun q=>by rw[h] at q;cases q
 refine⟨g.rr.trans k.rr,fun b o h n=>k.hh b o (g.hh b o h n) (nO b o h n),fun b o h n r=>k.no b o (g.hh b o h n) (nO b o h n) (g.no b o h n r),fun b z=>?_,fun b o h=>let ⟨o1,h1⟩:=g.th b o h;k.th b o1 h1⟩
 rcases k.oo b z with q | q
 · exact g.oo b q
 · by_cases hO:O b
   · exact .inl hO
   · cases e:H b with
     |none=>exact .inr rfl
     |some o=>rw[g.hh b o e hO] at q;cases q
end Dv
namespace Dv
open PySem L2 Ex
variable[KC]
structure Xc where
 C:Cn
 fs:List (Str×D)
inductive Res(α:Type) where
 |ok (a:α) (Γ:En) | ex (x:Xc) (Γ:En) | st
abbrev M(α:Type):=En->Res α
def M.pure{α:Type}(a:α):M α:=fun Γ=>.ok a Γ
def M.bind{α β:Type}(f:M α)(g:α->M β):M β:=fun Γ=>match f Γ with
 | .ok a Γ'=>g a Γ'
 | .ex x Γ'=>.ex x Γ'
 | .st=>.st
def M.st{α:Type}:M α:=fun _=>.st
def M.ofO{α:Type}:Option α->M α
 |some a=>M.pure a
 |none=>M.st
def wpM{α:Type}(r:Res α)(K:α->En->Prop)(E:Xc->En->Prop):Prop:=match r with
 | .ok a Γ=>K a Γ
 | .ex x Γ=>E x Γ
 | .st=>False
theorem zab{α β:Type}{f:M α}{g:α->M β}{Γ:En}{K:β->En->Prop}{E:Xc->En->Prop}:wpM (M.bind f g Γ) K E=wpM (f Γ) (fun a Γ'=>wpM (g a Γ') K E) E:=by
 unfold M.bind wpM
 cases f Γ<;>rfl
theorem zac{α:Type}{r:Res α}{K K':α->En->Prop}{E E':Xc->En->Prop}(h:wpM r K E)(hK:∀ a Γ,K a Γ->K' a Γ)(hE:∀ x Γ,E x Γ->E' x Γ):wpM r K' E':=by
 cases r with
 |ok a Γ=>exact hK _ _ h
 |ex x Γ=>exact hE _ _ h
 |st=>exact h
theorem zbe{α:Type}{o:Option α}{Γ:En}{K:α->En->Prop}{E:Xc->En->Prop}(h:wpM (M.ofO o Γ) K E):∃ a,o=some a/\K a Γ:=by
 cases o with
 |none=>exact False.elim h
 |some a=>exact⟨a,rfl,h⟩
structure Al(R H R' H':Hp):Prop where
 sub:Same R' H'
 rr:Same R R'
 hh:Same H H'
 no:∀ b o,H b=some o->R b=none->R' b=none
theorem Al.refl{R H:Hp}(s:Same R H):Al R H R H:=⟨s,Same.refl _,Same.refl _,fun _ _ _ h=>h⟩
theorem Al.go{O:Addr->Prop}{R H R' H':Hp}(a:Al R H R' H'):Go O R H O R' H':=⟨a.rr,fun b o h _=>a.hh b o h,fun b o h _ r=>a.no b o h r,fun _ h=>.inl h,fun b o h=>⟨o,a.hh b o h⟩⟩
theorem ER.ow{ios:List Addr}{R H:Hp}{σ:St}{Γ:En}(e:ER ios R H σ Γ){b:Addr}(o:Ow σ Γ b):R b=none/\∃ xs,H b=some (.lst xs):=by
 obtain⟨i,k,d,h1,h2,h3⟩:=o
 obtain⟨v,hv,s⟩:=e.sl i _ h1
 rw[h3] at hv
 cases hv
 cases k with
 |frz=>cases h2
 |own=>obtain⟨a,xs,ds,e1,e2,e3,_⟩:=s;cases e1;exact⟨e2,xs,e3⟩
 |io n=>obtain⟨⟨a,xs,ds,e1,e2,e3,_⟩,_⟩:=s;cases e1;exact⟨e2,xs,e3⟩
theorem OwR.mono{R H R' H':Hp}{v:V}{d:D}(h:OwR R H v d)(rr:Same R R')(k:∀ a xs,v = .ref a->H a=some (.lst xs)->R a=none->H' a=some (.lst xs)/\R' a=none):OwR R' H' v d:=by
 obtain⟨a,xs,ds,rfl,h1,h2,rfl,h3⟩:=h
 obtain⟨k1,k2⟩:=k a xs rfl h2 h1
 exact⟨a,xs,ds,rfl,k2,k1,rfl,h3.sm rr⟩
theorem SlR.mono{ios:List Addr}{R H R' H':Hp}{v:V}{s:Kd×D}(h:SlR ios R H v s)(rr:Same R R')(k:owned s.1=true->∀ a xs,v = .ref a->H a=some (.lst xs)->R a=none->H' a=some (.lst xs)/\R' a=none):SlR ios R' H' v s:=by
 obtain⟨kd,d⟩:=s
 cases kd with
 |frz=>exact Rp.sm rr h
 |own=>exact OwR.mono h rr (k rfl)
 |io n=>exact⟨OwR.mono h.1 rr (k rfl),h.2⟩
theorem ER.al{ios:List Addr}{R H R' H':Hp}{σ:St}{Γ:En}(e:ER ios R H σ Γ)(a:Al R H R' H'):ER ios R' H' σ Γ where
 sub:=a.sub
 len:=e.len
 sl:=fun i s h=>let ⟨v,hv,q⟩:=e.sl i s h; ⟨v,hv,q.mono a.rr fun _ b xs _ h1 h2=>⟨a.hh _ _ h1,a.no _ _ h1 h2⟩⟩
 dj:=e.dj
structure EPo(ios:List Addr)(R H:Hp)(σ:St)(Γ:En)(R' H':Hp)(Γ':En):Prop where
 er:ER ios R' H' σ Γ'
 go:Go (Ow σ Γ) R H (Ow σ Γ') R' H'
 sh:∀ b,Ow σ Γ' b->Ow σ Γ b
section
variable{ios:List Addr}{R H R1 H1 R2 H2:Hp}{σ:St}{Γ Γ1 Γ2:En}
theorem EPo.refl(e:ER ios R H σ Γ):EPo ios R H σ Γ R H Γ:=⟨e,Go.refl,fun _ h=>h⟩
theorem EPo.trans(a:EPo ios R H σ Γ R1 H1 Γ1)(b:EPo ios R1 H1 σ Γ1 R2 H2 Γ2):EPo ios R H σ Γ R2 H2 Γ2:=⟨b.er,a.go.trans b.go,fun c h=>a.sh c (b.sh c h)⟩
theorem EPo.al(a:EPo ios R H σ Γ R1 H1 Γ1)(b:Al R1 H1 R2 H2):EPo ios R H σ Γ R2 H2 Γ1:=⟨a.er.al b,a.go.trans b.go,a.sh⟩
def RvR(R H H':Hp)(σ:St)(x:V):RV->Prop
 | .val d=>Rp R x d
 | .new d=>OwR R H' x d/\∃ a,x = .ref a/\H a=none
 | .var i=>σ[i]? = some (some x)
theorem RvR.go{rv:RV}{x:V}(e:ER ios R H σ Γ)(a:EPo ios R H σ Γ R1 H1 Γ1)(h:RvR R1 H H1 σ x rv)(b:Go (Ow σ Γ1) R1 H1 (Ow σ Γ2) R2 H2):RvR R2 H H2 σ x rv:=by
 cases rv with
 |val d=>exact Rp.sm b.rr h
 |var i=>exact h
 |new d =>
   obtain⟨h1,p,hp,hn⟩:=h
   refine⟨h1.mono b.rr fun q xs e1 e2 e3=>?_,p,hp,hn⟩
   have : ¬ Ow σ Γ1 q:=fun z=>by
    have hq:q=p:=by rw[hp] at e1;exact(V.ref.inj e1).symm
    obtain⟨_,xs,e4⟩:=e.ow (a.sh q z)
    rw[hq,hn] at e4;cases e4
   exact⟨b.hh _ _ e2 this,b.no _ _ e2 this e3⟩
def Pk(R H:Hp)(x:V)(d:D):Prop:=Rp R x d\/∃ a xs ds,x = .ref a/\H a=some (.lst xs)/\d = .lst ds/\Rps R xs ds
theorem Pk.lst{ds:List D}{x:V}(s:Same R H)(h:Pk R H x (.lst ds)):∃ a xs,x = .ref a/\H a=some (.lst xs)/\Rps R xs ds:=by
 rcases h with h | ⟨a,xs,ds',rfl,h1,h2,h3⟩
 · cases h with | lst e q=>exact⟨_,_,rfl,s _ _ e,q⟩
 · cases h2;exact⟨a,xs,rfl,h1,h3⟩
theorem Pk.hv{d:D}{x:V}(s:Same R H)(h:Pk R H x d):Rp H x d:=by
 rcases h with h | ⟨a,xs,ds',rfl,h1,rfl,h3⟩
 · exact h.sm s
 · exact .lst h1 (h3.sm s)
theorem Pk.int{i:Int}{x:V}(h:Pk R H x (.int i)):x = .int i:=by
 rcases h with h | ⟨a,xs,ds',rfl,h1,h2,h3⟩
 · cases h;rfl
 · cases h2
theorem Pk.bl{i:Bool}{x:V}(h:Pk R H x (.bl i)):x = .bl i:=by
 rcases h with h | ⟨a,xs,ds',rfl,h1,h2,h3⟩
 · cases h;rfl
 · cases h2
theorem Pk.str{i:Str}{x:V}(h:Pk R H x (.str i)):x = .str i:=by
 rcases h with h | ⟨a,xs,ds',rfl,h1,h2,h3⟩
 · cases h;rfl
 · cases h2
theorem Pk.tup{ds:List D}{x:V}(h:Pk R H x (.tup ds)):∃ a xs,x = .ref a/\R a=some (.tup xs)/\Rps R xs ds:=by
 rcases h with h | ⟨a,xs,ds',rfl,h1,h2,h3⟩
 · cases h with | tup e q=>exact⟨_,_,rfl,e,q⟩
 · cases h2
end
def peek:RV->M D
 | .val d=>M.pure d
 | .new d=>M.pure d
 | .var i=>fun Γ=>match Γ[i]? with
   |some (some (_,d))=>.ok d Γ
   | _=>.st
def mat:RV->M D
 | .val d=>M.pure d
 | .new d=>M.pure d
 | .var i=>fun Γ=>match Γ[i]? with
   |some (some (_,d))=>.ok d (Γ.set i (some (.frz,d)))
   | _=>.st
section
variable{ios:List Addr}{R H R1 H1 R2 H2:Hp}{σ:St}{Γ Γ1 Γ2:En}
theorem SlR.pk{v:V}{s:Kd×D}(h:SlR ios R H v s):Pk R H v s.2:=by
 obtain⟨kd,d⟩:=s
 cases kd with
 |frz=>exact .inl h
 |own=>obtain⟨a,xs,ds,h1,_,h2,h3,h4⟩:=h;exact .inr ⟨a,xs,ds,h1,h2,h3,h4⟩
 |io n=>obtain⟨⟨a,xs,ds,h1,_,h2,h3,h4⟩,_⟩:=h;exact .inr ⟨a,xs,ds,h1,h2,h3,h4⟩
theorem zbt{rv:RV}{x:V}{K:D->En->Prop}{E:Xc->En->Prop}(e:ER ios R1 H1 σ Γ1)(h:RvR R1 H H1 σ x rv)(k:wpM (peek rv Γ1) K E):∃ d,Pk R1 H1 x d/\K d Γ1:=by
 cases rv with
 |val d=>exact⟨d,.inl h,k⟩
 |new d =>
   obtain⟨⟨a,xs,ds,h1,_,h2,h3,h4⟩,_⟩:=h
   exact⟨d,.inr ⟨a,xs,ds,h1,h2,h3,h4⟩,k⟩
 |var i =>
   unfold peek at k
   dsimp only at k
   split at k
   · rename_i q
     obtain⟨v,hv,s⟩:=e.sl i _ q
     have h:σ[i]? = some (some x):=h
     rw[h] at hv
     cases hv
     exact⟨_,s.pk,k⟩
   · exact False.elim k
def ext(R H:Hp)(a:Addr):Hp:=fun b=>if b=a then H a else R b
theorem zcy{R H:Hp}{a:Addr}(h:R a=none):Same R (ext R H a):=fun b o e=>by
 unfold ext
 split
 · rename_i z;rw[z,h] at e;cases e
 · exact e
theorem zcP{R H:Hp}{a:Addr}:ext R H a a=H a:=by unfold ext;rw[if_pos rfl]
theorem zcu{R H:Hp}{a b:Addr}(h:b≠a):ext R H a b=R b:=by unfold ext;rw[if_neg h]
theorem zeK{R H:Hp}{a:Addr}(s:Same R H):Same (ext R H a) H:=fun b o e=>by
 unfold ext at e
 split at e
 · rename_i z;rw[z];exact e
 · exact s b o e
theorem zmA{i:Nat}{d:D}{b:Addr}(h:Ow σ (Γ.set i (some (.frz,d))) b):Ow σ Γ b /\ ¬ (σ[i]? = some (some (.ref b))/\∀ j k d,Γ[j]? = some (some (k,d))->owned k=true->σ[j]? = some (some (.ref b))->j=i):=by
 obtain⟨j,k,e,h1,h2,h3⟩:=h
 by_cases hj:j=i
 · subst hj
   by_cases hl:j<Γ.length
   · rw[List.getElem?_set_self hl] at h1;cases h1;cases h2
   · rw[List.getElem?_eq_none (by rw[List.length_set];omega)] at h1;cases h1
 · rw[List.getElem?_set_ne (Ne.symm hj)] at h1
   exact⟨⟨j,k,e,h1,h2,h3⟩,fun ⟨_,z⟩=>hj (z j k e h1 h2 h3)⟩
theorem ER.freeze{i:Nat}{k:Kd}{d:D}{x:V}(e:ER ios R H σ Γ)(hi:Γ[i]? = some (some (k,d)))(hx:σ[i]? = some (some x)):∃ R',EPo ios R H σ Γ R' H (Γ.set i (some (.frz,d)))/\Rp R' x d:=by
 obtain⟨v,hv,s⟩:=e.sl i _ hi
 rw[hx] at hv
 cases hv
 have hlt:i<Γ.length:=(List.getElem?_eq_some_iff.mp hi).1
 by_cases hk:owned k=true
 · obtain⟨a,xs,ds,rfl,h1,h2,rfl,h3⟩:OwR R H x d:=by
    cases k with
    |frz=>cases hk
    |own=>exact s
    |io n=>exact s.1
   have inj:∀ j l z,Γ[j]? = some (some (l,z))->owned l=true->σ[j]? = some (some (.ref a))->j=i:=fun j l z q1 q2 q3=>(e.dj i j k l _ z a hi hk q1 q2 hx q3).symm
   have rr:Same R (ext R H a):=zcy h1
   refine⟨ext R H a,⟨⟨zeK e.sub,by rw[List.length_set];exact e.len,fun j t hj=>?_,fun j j' l l' z z' b q1 q2 q3 q4 q5 q6=>?_⟩,⟨rr,fun _ _ h _=>h,fun b o hb nb rb=>?_,fun b z=>.inl (zmA z).1,fun b o h=>⟨o,h⟩⟩,fun b z=>(zmA z).1⟩,.lst (by rw[zcP];exact h2) (h3.sm rr)⟩
   · by_cases hji:j=i
     · subst hji
       rw[List.getElem?_set_self hlt] at hj
       cases hj
       exact⟨_,hx,.lst (by rw[zcP];exact h2) (h3.sm rr)⟩
     · rw[List.getElem?_set_ne (Ne.symm hji)] at hj
       obtain⟨v,hv,q⟩:=e.sl j t hj
       refine⟨v,hv,q.mono rr fun ho b ys eb hb rb=>⟨hb,?_⟩⟩
       rw[zcu]
       · exact rb
       · rintro rfl
         subst eb
         exact hji (inj j t.1 t.2 hj ho hv)
   · have g1:Γ[j]? = some (some (l,z)):=by
      by_cases hji:j=i
      · subst hji;rw[List.getElem?_set_self hlt] at q1;cases q1;cases q2
      · rwa[List.getElem?_set_ne (Ne.symm hji)] at q1
     have g2:Γ[j']? = some (some (l',z')):=by
      by_cases hji:j'=i
      · subst hji;rw[List.getElem?_set_self hlt] at q3;cases q3;cases q4
      · rwa[List.getElem?_set_ne (Ne.symm hji)] at q3
     exact e.dj j j' l l' z z' b g1 q2 g2 q4 q5 q6
   · rw[zcu]
     · exact rb
     · rintro rfl
       exact nb ⟨i,k,_,hi,hk,hx⟩
 · have hk:k = .frz:=by cases k<;>first | rfl | exact absurd rfl hk
   subst hk
   have:Γ.set i (some (.frz,d))=Γ:=by
    apply List.ext_getElem?
    intro j
    by_cases hj:j=i
    · subst hj;rw[List.getElem?_set_self hlt,hi]
    · rw[List.getElem?_set_ne (Ne.symm hj)]
   rw[this]
   exact⟨R,EPo.refl e,s⟩
theorem zbB{rv:RV}{x:V}{K:D->En->Prop}{E:Xc->En->Prop}(e:ER ios R H σ Γ)(a:EPo ios R H σ Γ R1 H1 Γ1)(h:RvR R1 H H1 σ x rv)(k:wpM (mat rv Γ1) K E):∃ d Γ2 R2,EPo ios R H σ Γ R2 H1 Γ2/\Same R1 R2/\Rp R2 x d/\K d Γ2:=by
 cases rv with
 |val d=>exact⟨d,Γ1,R1,a,Same.refl _,h,k⟩
 |new d =>
   obtain⟨⟨p,xs,ds,rfl,h1,h2,rfl,h3⟩,q,hq,hn⟩:=h
   cases hq
   have rr:Same R1 (ext R1 H1 p):=zcy h1
   have nO : ¬ Ow σ Γ p:=fun z=>by obtain⟨_,xs,e4⟩:=e.ow z;rw[hn] at e4;cases e4
   refine⟨_,Γ1,ext R1 H1 p,⟨⟨zeK a.er.sub,a.er.len,fun j t hj=>?_,a.er.dj⟩,⟨a.go.rr.trans rr,a.go.hh,fun b o hb nb rb=>?_,a.go.oo,a.go.th⟩,a.sh⟩,rr,.lst (by rw[zcP];exact h2) (h3.sm rr),k⟩
   · obtain⟨v,hv,s⟩:=a.er.sl j t hj
     refine⟨v,hv,s.mono rr fun ho b ys eb hb rb=>⟨hb,?_⟩⟩
     rw[zcu]
     · exact rb
     · rintro rfl
       subst eb
       exact nO (a.sh _ ⟨j,t.1,t.2,hj,ho,hv⟩)
   · rw[zcu]
     · exact a.go.no b o hb nb rb
     · rintro rfl
       rw[hn] at hb;cases hb
 |var i =>
   unfold mat at k
   dsimp only at k
   split at k
   · rename_i q
     obtain⟨R',f,r⟩:=a.er.freeze q h
     exact⟨_,_,R',a.trans f,f.go.rr,r,k⟩
   · exact False.elim k
end
def XcR(R H0 H:Hp)(e:Addr)(x:Xc):Prop:=R e=none/\H0 e=none/\((x.fs=[]/\H e=some (ExO (KC.cls x.C) e none false)) \/
 ∃ d fs,H e=some (ExO (KC.cls x.C) e (some d) false)/\H d=some (ExD d fs)/\R d=none/\H0 d=none/\fs.map (·.1)=x.fs.map (·.1)/\Rps R (fs.map (·.2)) (x.fs.map (·.2)))
theorem XcR.back{R H0 H1 H:Hp}{e:Addr}{x:Xc}(b:∀ a,H1 a=none->H0 a=none)(h:XcR R H1 H e x):XcR R H0 H e x:=by
 obtain⟨h1,h2,h3⟩:=h
 refine⟨h1,b _ h2,h3.imp id fun ⟨d,fs,a1,a2,a3,a4,a5⟩=>⟨d,fs,a1,a2,a3,b _ a4,a5⟩⟩
theorem EPo.since{ios:List Addr}{R H R' H':Hp}{σ:St}{Γ Γ':En}(h:EPo ios R H σ Γ R' H' Γ'):∀ b,H' b=none->H b=none:=fun b hb=>by
 cases q:H b with
 |none=>rfl
 |some o =>
   obtain⟨o',z⟩:=h.go.th b o q
   rw[hb] at z;cases z
def EXP(EE:XKS)(ios:List Addr)(R H:Hp)(σ:St)(Γ:En):Xc->En->Prop:=fun x Γ'=>∀ e H' R',EPo ios R H σ Γ R' H' Γ'->XcR R' H H' e x->EE σ (.ref (KC.cls x.C)) (some e) H'
theorem EXP.trans{EE:XKS}{ios:List Addr}{R H R1 H1:Hp}{σ:St}{Γ Γ1:En}(a:EPo ios R H σ Γ R1 H1 Γ1){x:Xc}{Γ':En}(h:EXP EE ios R H σ Γ x Γ'):EXP EE ios R1 H1 σ Γ1 x Γ':=fun e H' R' b q=>h e H' R' (a.trans b) (q.back a.since)
def RdE(EE:XKS)(ios:List Addr)(t:TE)(f:M RV):Prop:=∀ σ H R Γ Q,ER ios R H σ Γ ->
 wpM (f Γ) (fun rv Γ'=>∀ x H' R',EPo ios R H σ Γ R' H' Γ'->RvR R' H H' σ x rv->Q x H') (EXP EE ios R H σ Γ)->t σ H Q
def RdT(EE:XKS)(ios:List Addr)(t:TT)(f:M Bool):Prop:=∀ σ H R Γ Q,ER ios R H σ Γ ->
 wpM (f Γ) (fun b Γ'=>∀ H' R',EPo ios R H σ Γ R' H' Γ'->Q b H') (EXP EE ios R H σ Γ)->t σ H Q
def VE(X:Cx)(EE:XKS)(ios:List Addr)(e:Expr)(f:M RV):Prop:=∃ t,PE X e t/\RdE EE ios t f
def VT(X:Cx)(EE:XKS)(ios:List Addr)(e:Expr)(f:M Bool):Prop:=∃ t,PT X e t/\RdT EE ios t f
def VW(X:Cx)(EE:XKS)(ios:List Addr)(e:Expr)(f:M Bool):Prop:=∃ t,PW X e t/\RdT EE ios t f
def ArR(R:Hp)(σ:St)(x:V):RV->Prop
 | .val d=>Rp R x d
 | .new _=>False
 | .var i=>σ[i]? = some (some x)
inductive ArsR(R:Hp)(σ:St):List V->List RV->Prop where
 |nil:ArsR R σ [] []
 |cons {x:V} {rv:RV} {xs:List V} {rvs:List RV}:ArR R σ x rv->ArsR R σ xs rvs->ArsR R σ (x::xs) (rv::rvs)
theorem ArR.sm{R R':Hp}{σ:St}(s:Same R R'){x:V}{rv:RV}(h:ArR R σ x rv):ArR R' σ x rv:=by
 cases rv with
 |val d=>exact Rp.sm s h
 |new d=>exact h
 |var i=>exact h
theorem ArsR.sm{R R':Hp}{σ:St}(s:Same R R'):∀ {xs:List V} {rvs:List RV},ArsR R σ xs rvs->ArsR R' σ xs rvs
 | _,_,.nil=>.nil
 | _,_,.cons a b=>.cons (a.sm s) (b.sm s)
theorem ArR.rv{R H H':Hp}{σ:St}{x:V}{rv:RV}(h:ArR R σ x rv):RvR R H H' σ x rv:=by
 cases rv with
 |val d=>exact h
 |new d=>exact h.elim
 |var i=>exact h
def RdA(EE:XKS)(ios:List Addr)(t:TA)(f:M (List RV)):Prop:=∀ σ H R Γ Q,ER ios R H σ Γ ->
 wpM (f Γ) (fun rvs Γ'=>∀ xs H' R',EPo ios R H σ Γ R' H' Γ'->ArsR R' σ xs rvs->Q xs H') (EXP EE ios R H σ Γ)->t σ H Q
def VA(X:Cx)(EE:XKS)(ios:List Addr)(es:List Expr)(f:M (List RV)):Prop:=∃ t,PA X es t/\RdA EE ios t f
section
variable{X:Cx}{EE:XKS}{ios:List Addr}{e a b c:Expr}{f g k:M RV}{pos:Pos}
def zaa(i:Nat):M RV:=fun Γ=>match Γ[i]? with
 |some (some (.frz,d))=>.ok (.val d) Γ
 |some (some _)=>.ok (.var i) Γ
 | _=>.st
theorem Zj{i:Nat}(h:PE X e (zfG i)):VE X EE ios e (zaa i):=by
 refine⟨_,h,fun σ H R Γ Q er w=>?_⟩
 unfold zaa at w
 split at w
 · rename_i q
   obtain⟨v,hv,s⟩:=er.sl i _ q
   exact⟨v,hv,w v H R (EPo.refl er) s⟩
 · rename_i q
   obtain⟨v,hv,s⟩:=er.sl i _ q
   exact⟨v,hv,w v H R (EPo.refl er) hv⟩
 · exact False.elim w
theorem ze1{v:V}{d:D}(h:PE X e (tC v))(r:∀ R,Rp R v d):VE X EE ios e (M.pure (.val d)) :=
 ⟨_,h,fun σ H R Γ Q er w=>w v H R (EPo.refl er) (r R)⟩
theorem zae{i:Int}{j:Nat}:VE X EE ios (.Constant (.int i) j pos) (M.pure (.val (.int i))):=ze1 zl1 fun _=>.int i
theorem zcW{i:Bool}{j:Nat}:VE X EE ios (.Constant (.bool i) j pos) (M.pure (.val (.bl i))):=ze1 zoA fun _=>.bl i
theorem zfy{j:Nat}:VE X EE ios (.Constant .none j pos) (M.pure (.val .non)):=ze1 zlT fun _=>.non
theorem zaL{i:Str}{j:Nat}:VE X EE ios (.Constant (.str i) j pos) (M.pure (.val (.str i))):=ze1 zlj fun _=>.str i
def RvA(R H H':Hp)(z:V):RV->Prop
 | .val d=>Rp R z d
 | .new d=>OwR R H' z d/\∃ a,z = .ref a/\H a=none
 | .var _=>False
theorem RvA.rv{R H0 H H':Hp}{σ:St}{z:V}{rv:RV}(h:RvA R H H' z rv)(s:∀ b,H b=none->H0 b=none):RvR R H0 H' σ z rv:=by
 cases rv with
 |val d=>exact h
 |new d=>obtain⟨h1,a,h2,h3⟩:=h;exact⟨h1,a,h2,s _ h3⟩
 |var i=>exact h.elim
theorem EPo.back{R H R' H':Hp}{σ:St}{Γ Γ':En}(er:ER ios R H σ Γ)(h:EPo ios R H σ Γ R' H' Γ'):∀ b,H' b=none->H b=none:=fun b hb=>by
 cases q:H b with
 |none=>rfl
 |some o =>
   obtain⟨o',z⟩:=h.go.th b o q
   rw[hb] at z;cases z
end
section
variable{X:Cx}{EE:XKS}{ios:List Addr}{e a b c:Expr}{f g k:M RV}{pos:Pos}{ta tb tc t:TE}{r r':R2}
def OpV(r:R2)(g:D->D->Option RV):Prop:=∀ R H x y d e rv (Q:VK),Same R H->Pk R H x d->Pk R H y e->g d e=some rv->(∀ z H' R',Al R H R' H'->RvA R' H H' z rv->Q z H')->r x y H Q
def op2(o:D->D->Option RV)(f g:M RV):M RV:=M.bind f fun x=>M.bind g fun y=>M.bind (peek x) fun d=>M.bind (peek y) fun e=>M.ofO (o d e)
theorem zjz{o:D->D->Option RV}(ho:OpV r o)(ha:RdE EE ios ta f)(hb:RdE EE ios tb g):RdE EE ios (tOp r ta tb) (op2 o f g):=by
 intro σ H R Γ Q er w
 unfold op2 at w
 rw[zab] at w
 refine ha σ H R Γ _ er (zac w (fun rx Γ1 w x H1 R1 p1 hx=>?_) fun _ _ z=>z)
 rw[zab] at w
 refine hb σ H1 R1 Γ1 _ p1.er (zac w (fun ry Γ2 w y H2 R2 p2 hy=>?_) fun _ _ z=>EXP.trans p1 z)
 rw[zab] at w
 obtain⟨d,pd,w⟩:=zbt p2.er (hx.go er p1 p2.go) w
 rw[zab] at w
 obtain⟨e,pe,w⟩:=zbt p2.er hy w
 obtain⟨rv,hg,w⟩:=zbe w
 exact ho R2 H2 x y d e rv Q p2.er.sub pd pe hg fun z H' R' al ra=>w z H' R' ((p1.trans p2).al al) (ra.rv ((p1.trans p2).back er))
theorem zbc{op:Operator}{o:D->D->Option RV}(h:OpR X (binaryOp op) r)(ho:OpV r o)(ha:VE X EE ios a f)(hb:VE X EE ios b g):VE X EE ios (.BinOp a op b pos) (op2 o f g) :=
 let ⟨_,h1,h2⟩:=ha;let ⟨_,h3,h4⟩:=hb; ⟨_,zqG h h1 h3,zjz ho h2 h4⟩
theorem zg2{op:CmpOp}{o:D->D->Option RV}(h:OpR X (compareOp op) r)(ho:OpV r o)(ha:VE X EE ios a f)(hb:VE X EE ios b g)(hm:behindInMarks op b=false):VE X EE ios (.Compare a [op] [b] pos) (op2 o f g) :=
 let ⟨_,h1,h2⟩:=ha;let ⟨_,h3,h4⟩:=hb; ⟨_,zn3 h h1 h3 hm,zjz ho h2 h4⟩
def asB(rv:RV):M Bool:=match rv with
 | .val (.bl b)=>M.pure b
 | _=>M.st
theorem ziX(h:RdE EE ios t f):RdT EE ios (zoB t) (M.bind f asB):=by
 intro σ H R Γ Q er w
 rw[zab] at w
 refine h σ H R Γ _ er (zac w (fun rv Γ1 w x H1 R1 p1 hx=>?_) fun _ _ z=>z)
 unfold asB at w
 split at w
 · cases hx;exact⟨_,rfl,w H1 R1 p1⟩
 · exact False.elim w
theorem zaN{op:CmpOp}{o:D->D->Option RV}(h:OpR X (compareOp op) r)(ho:OpV r o)(ha:VE X EE ios a f)(hb:VE X EE ios b g)(hm:behindInMarks op b=false):VT X EE ios (.Compare a [op] [b] pos) (M.bind (op2 o f g) asB) :=
 let ⟨_,h1,h2⟩:=ha;let ⟨_,h3,h4⟩:=hb; ⟨_,zji h h1 h3 hm,ziX (zjz ho h2 h4)⟩
theorem zft(ha:VE X EE ios e f)(he:∀ whole,isTrue e X.env whole=(do let v <- whole;standAt e.pos;holding [v] (truthy v)):=by intro _;rfl):VT X EE ios e (M.bind f asB) :=
 let ⟨_,h1,h2⟩:=ha; ⟨_,zpl h1 he,ziX h2⟩
def op3(o o':D->D->Option RV)(f g k:M RV):M RV:=M.bind f fun x=>M.bind g fun y=>M.bind (peek x) fun d=>M.bind (peek y) fun e=>M.bind (M.bind (M.ofO (o d e)) asB) fun q =>
 if q then M.bind k fun z=>M.bind (peek y) fun e'=>M.bind (peek z) fun u=>M.ofO (o' e' u) else M.pure (.val (.bl false))
theorem zkU{o o':D->D->Option RV}(ho:OpV r o)(ho':OpV r' o')(ha:RdE EE ios ta f)(hb:RdE EE ios tb g)(hc:RdE EE ios tc k):RdE EE ios (zlM r r' ta tb tc) (op3 o o' f g k):=by
 intro σ H R Γ Q er w
 unfold op3 at w
 rw[zab] at w
 refine ha σ H R Γ _ er (zac w (fun rx Γ1 w x H1 R1 p1 hx=>?_) fun _ _ z=>z)
 rw[zab] at w
 refine hb σ H1 R1 Γ1 _ p1.er (zac w (fun ry Γ2 w y H2 R2 p2 hy=>?_) fun _ _ z=>EXP.trans p1 z)
 have p12:=p1.trans p2
 rw[zab] at w
 obtain⟨d,pd,w⟩:=zbt p2.er (hx.go er p1 p2.go) w
 rw[zab] at w
 obtain⟨e,pe,w⟩:=zbt p2.er hy w
 rw[zab,zab] at w
 obtain⟨rv,hg,w⟩:=zbe w
 refine ho R2 H2 x y d e rv _ p2.er.sub pd pe hg fun z H3 R3 al ra=>?_
 unfold asB at w
 split at w
 · rename_i q
   cases ra
   refine⟨q,rfl,?_⟩
   have w:wpM ((if q=true then M.bind k fun z=>M.bind (peek ry) fun e'=>M.bind (peek z) fun u=>M.ofO (o' e' u) else M.pure (.val (.bl false))) Γ2) _ _:=w
   cases q with
   |false=>exact zeu (w (.bl false) H3 R3 (p12.al al) (.bl false))
   |true =>
     refine zeg ?_
     simp only[if_true] at w
     rw[zab] at w
     have p13:=p12.al al
     refine hc σ H3 R3 Γ2 _ p13.er (zac w (fun rz Γ4 w z H4 R4 p4 hz=>?_) fun _ _ z=>EXP.trans p13 z)
     rw[zab] at w
     have hy3:RvR R3 H1 H3 σ y ry:=hy.go p1.er p2 al.go
     obtain⟨e',pe',w⟩:=zbt p4.er (hy3.go p1.er (p2.al al) p4.go) w
     rw[zab] at w
     obtain⟨u,pu,w⟩:=zbt p4.er hz w
     obtain⟨rv,hg',w⟩:=zbe w
     exact ho' R4 H4 y z e' u rv Q p4.er.sub pe' pu hg' fun v H' R' al' ra'=>w v H' R' ((p13.trans p4).al al') (ra'.rv ((p13.trans p4).back er))
 · exact False.elim w
theorem zci{op op':CmpOp}{o o':D->D->Option RV}(h:OpR X (compareOp op) r)(h':OpR X (compareOp op') r')(ho:OpV r o)(ho':OpV r' o')(ha:VE X EE ios a f)(hb:VE X EE ios b g)(hc:VE X EE ios c k)
 (hm:lastMarks [op,op'] [b,c]=false:=by with_unfolding_all rfl):VE X EE ios (.Compare a [op,op'] [b,c] pos) (op3 o o' f g k) :=
 let ⟨_,h1,h2⟩:=ha;let ⟨_,h3,h4⟩:=hb;let ⟨_,h5,h6⟩:=hc; ⟨_,zlC h h' h1 h3 h5 hm,zkU ho ho' h2 h4 h6⟩
variable{p q:M Bool}
def ngM(p:M Bool):M Bool:=M.bind p fun b=>M.pure (!b)
def andM(p q:M Bool):M Bool:=M.bind p fun b=>if b then q else M.pure false
def orM(p q:M Bool):M Bool:=M.bind p fun b=>if b then M.pure true else q
theorem zpX{t:TT}(h:RdT EE ios t p):RdT EE ios (zrd t) (ngM p):=by
 intro σ H R Γ Q er w
 unfold ngM at w
 rw[zab] at w
 exact h σ H R Γ _ er (zac w (fun b Γ1 w H1 R1 p1=>w H1 R1 p1) fun _ _ z=>z)
theorem zqg{t u:TT}(h:RdT EE ios t p)(h':RdT EE ios u q):RdT EE ios (zrA t u) (andM p q):=by
 intro σ H R Γ Q er w
 unfold andM at w
 rw[zab] at w
 refine h σ H R Γ _ er (zac w (fun b Γ1 w H1 R1 p1=>?_) fun _ _ z=>z)
 cases b with
 |false=>exact zeu (w H1 R1 p1)
 |true=>exact zeg (h' σ H1 R1 Γ1 _ p1.er (zac w (fun b Γ2 w H2 R2 p2=>w H2 R2 (p1.trans p2)) fun _ _ z=>EXP.trans p1 z))
theorem zqQ{t u:TT}(h:RdT EE ios t p)(h':RdT EE ios u q):RdT EE ios (tOr t u) (orM p q):=by
 intro σ H R Γ Q er w
 unfold orM at w
 rw[zab] at w
 refine h σ H R Γ _ er (zac w (fun b Γ1 w H1 R1 p1=>?_) fun _ _ z=>z)
 cases b with
 |true=>exact zeg (w H1 R1 p1)
 |false=>exact zeu (h' σ H1 R1 Γ1 _ p1.er (zac w (fun b Γ2 w H2 R2 p2=>w H2 R2 (p1.trans p2)) fun _ _ z=>EXP.trans p1 z))
theorem zig(h:VT X EE ios a p):VT X EE ios (.UnaryOp .Not a pos) (ngM p):=let ⟨_,h1,h2⟩:=h; ⟨_,zqa h1,zpX h2⟩
theorem zdf(h:VT X EE ios a p):VW X EE ios (.BoolOp .And [a] pos) p:=let ⟨_,h1,h2⟩:=h; ⟨_,znK h1,h2⟩
theorem zit(h:VT X EE ios a p):VW X EE ios (.BoolOp .Or [a] pos) p:=let ⟨_,h1,h2⟩:=h; ⟨_,zlq h1,h2⟩
theorem zdq{rest:List Expr}(h:VT X EE ios a p)(h':VW X EE ios (.BoolOp .And (b::rest) pos) q):VW X EE ios (.BoolOp .And (a::b::rest) pos) (andM p q):=let ⟨_,h1,h2⟩:=h;let ⟨_,h3,h4⟩:=h'; ⟨_,zpT h1 h3,zqg h2 h4⟩
theorem zmw{rest:List Expr}(h:VT X EE ios a p)(h':VW X EE ios (.BoolOp .Or (b::rest) pos) q):VW X EE ios (.BoolOp .Or (a::b::rest) pos) (orM p q):=let ⟨_,h1,h2⟩:=h;let ⟨_,h3,h4⟩:=h'; ⟨_,zot h1 h3,zqQ h2 h4⟩
theorem zb6(h:VW X EE ios a p):VT X EE ios a p:=let ⟨_,h1,h2⟩:=h; ⟨_,PW.pt h1,h2⟩
def zn6(p:M Bool):M RV:=M.bind p fun b=>M.pure (.val (.bl b))
def zd1(f g:M RV):M RV:=M.bind (M.bind f asB) fun b=>if b then g else M.pure (.val (.bl false))
def orV(f g:M RV):M RV:=M.bind (M.bind f asB) fun b=>if b then M.pure (.val (.bl true)) else g
theorem zdI{R0 H0 R H R' H':Hp}{σ:St}{Γ0 Γ Γ':En}{x:V}{rv:RV}(er:ER ios R0 H0 σ Γ0)(p1:EPo ios R0 H0 σ Γ0 R H Γ)(h:RvR R' H H' σ x rv):RvR R' H0 H' σ x rv:=by
 cases rv with
 |val d=>exact h
 |new d=>obtain⟨h1,a,h2,h3⟩:=h;exact⟨h1,a,h2,p1.back er _ h3⟩
 |var i=>exact h
theorem zdx{op:BoolOp}(h:VE X EE ios a f):VE X EE ios (.BoolOp op [a] pos) f:=let ⟨_,h1,h2⟩:=h; ⟨_,zoS h1,h2⟩
theorem zcs{rest:List Expr}(h:VE X EE ios a f)(h':VE X EE ios (.BoolOp .And (b::rest) pos) g):VE X EE ios (.BoolOp .And (a::b::rest) pos) (zd1 f g):=by
 obtain⟨_,h1,h2⟩:=h
 obtain⟨_,h3,h4⟩:=h'
 refine⟨_,zoT h1 h3,fun σ H R Γ Q er w=>?_⟩
 unfold zd1 at w
 rw[zab] at w
 refine h2 σ H R Γ _ er (zac (by rw[zab] at w;exact w) (fun rv Γ1 w x H1 R1 p1 hx=>?_) fun _ _ z=>z)
 unfold asB at w
 split at w
 · rename_i q
   cases hx
   refine⟨_,rfl,?_⟩
   cases q with
   |false=>exact zeu (w (.bl false) H1 R1 p1 (.bl false))
   |true=>exact zeg (h4 σ H1 R1 Γ1 _ p1.er (zac w (fun rv Γ2 w y H2 R2 p2 hy=>w y H2 R2 (p1.trans p2) (zdI (Γ':=Γ2) er p1 hy)) fun _ _ z=>EXP.trans p1 z))
 · exact False.elim w
theorem zoE{rest:List Expr}(h:VE X EE ios a f)(h':VE X EE ios (.BoolOp .Or (b::rest) pos) g):VE X EE ios (.BoolOp .Or (a::b::rest) pos) (orV f g):=by
 obtain⟨_,h1,h2⟩:=h
 obtain⟨_,h3,h4⟩:=h'
 refine⟨_,zq9 h1 h3,fun σ H R Γ Q er w=>?_⟩
 unfold orV at w
 rw[zab] at w
 refine h2 σ H R Γ _ er (zac (by rw[zab] at w;exact w) (fun rv Γ1 w x H1 R1 p1 hx=>?_) fun _ _ z=>z)
 unfold asB at w
 split at w
 · rename_i q
   cases hx
   refine⟨_,rfl,?_⟩
   cases q with
   |true=>exact zeg (w (.bl true) H1 R1 p1 (.bl true))
   |false=>exact zeu (h4 σ H1 R1 Γ1 _ p1.er (zac w (fun rv Γ2 w y H2 R2 p2 hy=>w y H2 R2 (p1.trans p2) (zdI (Γ':=Γ2) er p1 hy)) fun _ _ z=>EXP.trans p1 z))
 · exact False.elim w
theorem zo9(h:VE X EE ios a f):VE X EE ios (.UnaryOp .Not a pos) (zn6 (ngM (M.bind f asB))):=by
 obtain⟨_,h1,h2⟩:=h
 refine⟨_,zpB h1,fun σ H R Γ Q er w=>?_⟩
 unfold zn6 ngM at w
 rw[zab,zab,zab] at w
 refine h2 σ H R Γ _ er (zac w (fun rv Γ1 w x H1 R1 p1 hx=>?_) fun _ _ z=>z)
 unfold asB at w
 split at w
 · cases hx
   exact⟨_,rfl,w _ H1 R1 p1 (.bl _)⟩
 · exact False.elim w
def zoa(p:M Bool)(f g:M RV):M RV:=M.bind p fun b=>if b then f else g
theorem zp3(hc:VT X EE ios c p)(h:VE X EE ios a f)(h':VE X EE ios b g):VE X EE ios (.IfExp c a b pos) (zoa p f g):=by
 obtain⟨_,h0,h0'⟩:=hc
 obtain⟨_,h1,h2⟩:=h
 obtain⟨_,h3,h4⟩:=h'
 refine⟨_,zmu h0 h1 h3,fun σ H R Γ Q er w=>?_⟩
 unfold zoa at w
 rw[zab] at w
 refine h0' σ H R Γ _ er (zac w (fun b Γ1 w H1 R1 p1=>?_) fun _ _ z=>z)
 cases b with
 |true=>exact zeg (h2 σ H1 R1 Γ1 _ p1.er (zac w (fun rv Γ2 w y H2 R2 p2 hy=>w y H2 R2 (p1.trans p2) (zdI (Γ':=Γ2) er p1 hy)) fun _ _ z=>EXP.trans p1 z))
 |false=>exact zeu (h4 σ H1 R1 Γ1 _ p1.er (zac w (fun rv Γ2 w y H2 R2 p2 hy=>w y H2 R2 (p1.trans p2) (zdI (Γ':=Γ2) er p1 hy)) fun _ _ z=>EXP.trans p1 z))
end
mutual
def D.py:D->PyData
 | .non=>.none
 | .bl b=>.bool b
 | .int i=>.int i
 | .str x=>.str x
 | .lst xs=>.list (D.pys xs)
 | .tup xs=>.tuple (D.pys xs)
 | .dic _ _=>.dict []
 | .scr _=>.dict []
 | .ins _ _ _=>.dict []
 | .obj _ _ _=>.dict []
def D.pys:List D->List PyData
 | []=>[]
 |x::r=>x.py::D.pys r
end
mutual
theorem Rp.dat{H:Hp}:∀ {x:V} {d:D},Rp H x d->d.py.canLay0=true->DatV H x d.py
 | _,_,.non,_=>.non
 | _,_,.bl b,_=>.bl b
 | _,_,.int i,_=>.int i
 | _,_,.str x,_=>.str x
 | _,_,.lst e h,p=>.lst e (Rps.dat h (by simpa [D.py,PyData.canLay0] using p))
 | _,_,.tup e h,p=>.tup e (Rps.dat h (by simpa [D.py,PyData.canLay0] using p))
 | _,_,.dnil e,p=>by simp[D.py,PyData.canLay0] at p
 | _,_,.scr e,p=>by simp[D.py,PyData.canLay0] at p
 | _,_,.exc0 e,p=>by simp[D.py,PyData.canLay0] at p
 | _,_,.exc e e' h,p=>by simp[D.py,PyData.canLay0] at p
 | _,_,.obj e h,p=>by simp[D.py,PyData.canLay0] at p
theorem Rps.dat{H:Hp}:∀ {xs:List V} {ds:List D},Rps H xs ds->PyData.canLayAll0 (D.pys ds)=true->DatsV H xs (D.pys ds)
 | _,_,.nil,_=>.nil
 | _,_,.cons a b,p=>by
   have p:=Bool.and_eq_true_iff.mp (show(PyData.canLay0 _ && PyData.canLayAll0 _)=true from by simpa only [D.pys,PyData.canLayAll0] using p)
   exact .cons (Rp.dat a p.1) (Rps.dat b p.2)
end
def eqB(d e:D):Bool:=PyData.eqv d.py e.py
def zbP(d:D):Bool:=SeqAt.shaped d.py
theorem zbE{d:D}(h:zbP d=true):d.py.canLay0=true:=SeqAt.canLay_of_shaped h
def eqO(d e:D):Option RV:=if zbP d && zbP e then some (.val (.bl (eqB d e))) else none
def neO(d e:D):Option RV:=if zbP d && zbP e then some (.val (.bl (!eqB d e))) else none
section
variable{K:W.Frag}
theorem zpO:OpV zpV eqO:=by
 intro R H x y d e rv Q s px py hg q
 unfold eqO at hg
 split at hg
 · rename_i c
   rw[Bool.and_eq_true] at c
   cases hg
   exact⟨d.py,e.py,(px.hv s).dat (zbE c.1),(py.hv s).dat (zbE c.2),c.1,c.2,q _ H R (Al.refl s) (.bl _)⟩
 · cases hg
theorem zo2:OpV zpU neO:=by
 intro R H x y d e rv Q s px py hg q
 unfold neO at hg
 split at hg
 · rename_i c
   rw[Bool.and_eq_true] at c
   cases hg
   exact⟨d.py,e.py,(px.hv s).dat (zbE c.1),(py.hv s).dat (zbE c.2),c.1,c.2,q _ H R (Al.refl s) (.bl _)⟩
 · cases hg
def zcc:D->D->Option RV
 | .str x,.str y=>some (.val (.bl (decide (x=y))))
 |d,e=>eqO d e
def zbd:D->D->Option RV
 | .str x,.str y=>some (.val (.bl (!decide (x=y))))
 |d,e=>neO d e
def zrl:R2:=fun x y H Q=>zpV x y H Q\/rEq x y H Q
def zry:R2:=fun x y H Q=>zpU x y H Q\/rNe x y H Q
omit [KC] in
theorem zdB{X:Cx}{k:Nat}(hr:Room k X.A):OpR X (compareOp .Eq) zrl:=(zki hr).or op_eq
omit [KC] in
theorem zbn{X:Cx}{k:Nat}(hr:Room k X.A):OpR X (compareOp .NotEq) zry:=(zkr hr).or zro
omit [KC] in
theorem ziR(x y:Str):decide (V.str x=V.str y)=decide (x=y):=by
 by_cases h:x=y
 · subst h;simp
 · simp[h]
theorem zcM:OpV zrl zcc:=by
 intro R H x y d e rv Q s px py hg q
 unfold zcc at hg
 split at hg
 · cases hg
   cases px.str
   cases py.str
   refine .inr ⟨rfl,?_⟩
   rw[ziR]
   exact q _ H R (Al.refl s) (.bl _)
 · exact .inl (zpO R H x y _ _ rv Q s px py hg q)
theorem za6:OpV zry zbd:=by
 intro R H x y d e rv Q s px py hg q
 unfold zbd at hg
 split at hg
 · cases hg
   cases px.str
   cases py.str
   refine .inr ⟨rfl,?_⟩
   rw[ziR]
   exact q _ H R (Al.refl s) (.bl _)
 · exact .inl (zo2 R H x y _ _ rv Q s px py hg q)
def zkg(g:Int->Int->D)(d e:D):Option RV:=match d,e with
 | .int i,.int j=>some (.val (g i j))
 | _,_=>none
def zlu(C:Int->Int->Bool)(g:Int->Int->D)(d e:D):Option RV:=match d,e with
 | .int i,.int j=>if C i j then some (.val (g i j)) else none
 | _,_=>none
theorem zg1{g:Int->Int->V}{g':Int->Int->D}(h:∀ R i j,Rp R (g i j) (g' i j)):OpV (rI0 g) (zkg g'):=by
 intro R H x y d e rv Q s px py hg q
 unfold zkg at hg
 split at hg
 · cases hg
   exact⟨_,_,px.int,py.int,q _ H R (Al.refl s) (h R _ _)⟩
 · cases hg
theorem ze4{C:Int->Int->Prop}{C':Int->Int->Bool}{g:Int->Int->V}{g':Int->Int->D}(hC:∀ i j,C' i j=true->C i j)(h:∀ R i j,Rp R (g i j) (g' i j)):OpV (rI C g) (zlu C' g'):=by
 intro R H x y d e rv Q s px py hg q
 unfold zlu at hg
 split at hg
 · split at hg
   · rename_i c
     cases hg
     exact⟨_,_,px.int,py.int,hC _ _ c,q _ H R (Al.refl s) (h R _ _)⟩
   · cases hg
 · cases hg
def cd(p:Prop):Bool:=@decide p (Classical.propDecidable p)
omit [KC] in
theorem zgv{p:Prop}(h:p):cd p=true:=by unfold cd;exact @decide_eq_true p (Classical.propDecidable p) h
omit [KC] in
theorem zdQ{p:Prop}(h:cd p=true):p:=by unfold cd at h;exact @of_decide_eq_true p (Classical.propDecidable p) h
abbrev ltO:=zkg fun i j=>.bl (decide (i<j))
abbrev leO:=zkg fun i j=>.bl (decide (i<=j))
abbrev gtO:=zkg fun i j=>.bl (decide (j<i))
abbrev zeB:=zlu (fun _ j=>cd (0<j)) fun i j=>.int (i % j)
abbrev zjr:=zlu (fun _ j=>cd (0<j/\j<1073741824)) fun i j=>.int (i / j)
abbrev zoX:=zlu (fun i j=>cd (0<=j/\j<=1000000/\i.natAbs<2 ^ 64)) fun i j=>.int (i ^ j.toNat)
theorem zh3:OpV (rI0 fun i j=>.bl (decide (i<j))) ltO:=zg1 fun _ _ _=>.bl _
theorem zbH:OpV (rI0 fun i j=>.bl (decide (i<=j))) leO:=zg1 fun _ _ _=>.bl _
theorem zkW:OpV (rI0 fun i j=>.bl (decide (j<i))) gtO:=zg1 fun _ _ _=>.bl _
theorem zcm:OpV (rI (fun _ j=>0<j) fun i j=>.int (i % j)) zeB:=ze4 (fun _ _ h=>zdQ h) fun _ _ _=>.int _
theorem zg9:OpV (rI zqM fun i j=>.int (i / j)) zjr:=ze4 (fun _ _ h=>zdQ h) fun _ _ _=>.int _
theorem zm6:OpV (rI zqW fun i j=>.int (i ^ j.toNat)) zoX:=ze4 (fun _ _ h=>zdQ h) fun _ _ _=>.int _
theorem zdw{R H:Hp}{p:Addr}{xs:List V}{ds:List D}(s:Same R H)(hp:H p=none)(h:Rps R xs ds):Al R H R (upd H p (.lst xs))/\RvA R H (upd H p (.lst xs)) (.ref p) (.new (.lst ds)) :=
 ⟨⟨s.trans (zaI hp),Same.refl _,zaI hp,fun _ _ _ z=>z⟩,⟨p,xs,ds,rfl,s.free hp,zal,rfl,h⟩,p,rfl,hp⟩
theorem zmT{R H:Hp}{p:Addr}{xs:List V}{ds:List D}(s:Same R H)(hp:H p=none)(h:Rps R xs ds):Al R H (upd R p (.tup xs)) (upd H p (.tup xs))/\RvA (upd R p (.tup xs)) H (upd H p (.tup xs)) (.ref p) (.val (.tup ds)):=by
 have hr:R p=none:=s.free hp
 refine⟨⟨fun b o e=>?_,zaI hr,zaI hp,fun b o e r=>?_⟩,.tup zal (h.sm (zaI hr))⟩
 · by_cases hb:b=p
   · subst hb;rw[zal] at e ⊢;exact e
   · rw[zaf hb] at e ⊢;exact s b o e
 · rw[zaf (zaq e hp)];exact r
def zd0(d e:D):Option RV:=match d,e with
 | .int i,.int j=>some (.val (.int (i+j)))
 | .lst xs,.lst ys=>if xs.length+ys.length<=sizeLine then some (.new (.lst (xs++ys))) else none
 | .str i,.str j=>if i.length+j.length<=sizeLine then some (.val (.str (i++j))) else none
 | _,_=>none
def zoN:R2:=fun x y H Q=>rI0 (fun i j=>.int (i+j)) x y H Q\/(zqo x y H Q\/(∃ i j,x = .str i/\y = .str j/\i.length+j.length<=sizeLine/\Q (.str (i++j)) H))
theorem zb1{X:Cx}:OpR X (binaryOp .Add) zoN:=op_add.or (op_cat.or zii)
theorem zb4:OpV zoN zd0:=by
 intro R H x y d e rv Q s px py hg q
 unfold zd0 at hg
 split at hg
 · cases hg
   exact .inl ⟨_,_,px.int,py.int,q _ H R (Al.refl s) (.int _)⟩
 · split at hg
   · rename_i c
     cases hg
     obtain⟨a,xs,rfl,h1,h2⟩:=px.lst s
     obtain⟨b,ys,rfl,h3,h4⟩:=py.lst s
     refine .inr (.inl ⟨a,b,xs,ys,rfl,rfl,h1,h3,by rw[h2.len,h4.len];exact c,fun p hp=>?_⟩)
     obtain⟨al,rv⟩:=zdw s hp (h2.app h4)
     exact q _ _ _ al rv
   · cases hg
 · split at hg
   · rename_i c
     cases hg
     exact .inr (.inr ⟨_,_,px.str,py.str,c,q _ H R (Al.refl s) (.str _)⟩)
   · cases hg
 · cases hg
def zfe(i j:Int):Bool:=cd (CMul i j)
def zfJ(d e:D):Option RV:=match d,e with
 | .int i,.int j=>if zfe i j then some (.val (.int (i * j))) else none
 | _,_=>none
theorem zlt{i j:Int}(h:zfe i j=true):CMul i j:=zdQ h
theorem zcJ:OpV (rI CMul fun i j=>.int (i * j)) zfJ:=by
 intro R H x y d e rv Q s px py hg q
 unfold zfJ at hg
 split at hg
 · split at hg
   · rename_i c
     cases hg
     exact⟨_,_,px.int,py.int,zlt c,q _ H R (Al.refl s) (.int _)⟩
   · cases hg
 · cases hg
def isNone:D->Bool
 | .non=>true
 | _=>false
theorem Pk.isNone{R H:Hp}{x:V}{d:D}(h:Pk R H x d):decide (x = .non)=isNone d:=by
 rcases h with h | ⟨a,xs,ds,rfl,_,rfl,_⟩
 · cases h<;>first | rfl | exact decide_eq_false (fun z=>nomatch z)
 · exact decide_eq_false (fun z=>nomatch z)
def isO(d e:D):Option RV:=match e with
 | .non=>some (.val (.bl (isNone d)))
 | _=>none
theorem Pk.nonv{R H:Hp}{x:V}(h:Pk R H x .non):x = .non:=by
 rcases h with h | ⟨a,xs,ds,rfl,_,h2,_⟩
 · cases h;rfl
 · cases h2
theorem zmf:OpV (fun x y H Q=>y = .non/\Q (.bl (decide (x = .non))) H) isO:=by
 intro R H x y d e rv Q s px py hg q
 unfold isO at hg
 split at hg
 · cases hg
   refine⟨py.nonv,?_⟩
   rw[px.isNone]
   exact q _ H R (Al.refl s) (.bl _)
 · cases hg
def zeN:D->Bool
 | .non=>true
 | .bl _=>true
 | .int _=>true
 | .str _=>true
 | _=>false
def eqF:D->D->Bool
 | .non,.non=>true
 | .bl a,.bl b=>a == b
 | .bl a,.int b=>(if a then 1 else 0) == b
 | .int a,.bl b=>a == (if b then 1 else 0)
 | .int a,.int b=>a == b
 | .str a,.str b=>a == b
 | _,_=>false
theorem Rp.flat{R:Hp}{x:V}{d:D}(h:Rp R x d):zcF x=zeN d:=by cases h<;>rfl
theorem Rp.eqf{R:Hp}{x y:V}{d e:D}(h:Rp R x d)(h':Rp R y e):eqV x y=eqF d e:=by cases h<;>cases h'<;>rfl
end
section
variable{X:Cx}{EE:XKS}{ios:List Addr}{e a b c:Expr}{es:List Expr}{f g k:M RV}{fs:M (List RV)}{pos:Pos}{ta tb tc t:TE}{r r':R2}
def zex(f:M RV):M RV:=M.bind f fun rv=>match rv with
 | .var i=>M.pure (.var i)
 |rv=>M.bind (mat rv) fun d=>M.pure (.val d)
def ZS(f:M RV)(g:M (List RV)):M (List RV):=M.bind (zex f) fun x=>M.bind g fun xs=>M.pure (x::xs)
theorem zgx(h:RdE EE ios t f){σ:St}{H R:Hp}{Γ:En}{Q:VK}(er:ER ios R H σ Γ)
 (w:wpM (zex f Γ) (fun rv Γ'=>∀ x H' R',EPo ios R H σ Γ R' H' Γ'->ArR R' σ x rv->Q x H') (EXP EE ios R H σ Γ)):t σ H Q:=by
 unfold zex at w
 rw[zab] at w
 refine h σ H R Γ _ er (zac w (fun rv Γ1 w x H1 R1 p1 hx=>?_) fun _ _ z=>z)
 cases rv with
 |var i=>exact w x H1 R1 p1 hx
 |val d =>
   rw[zab] at w
   obtain⟨d,Γ2,R2,e2,_,r2,w⟩:=zbB er p1 hx w
   exact w x H1 R2 e2 r2
 |new d =>
   rw[zab] at w
   obtain⟨d,Γ2,R2,e2,_,r2,w⟩:=zbB er p1 hx w
   exact w x H1 R2 e2 r2
theorem zad:VA X EE ios [] (M.pure []):=⟨_,zaK,fun σ H R Γ Q er w=>w [] H R (EPo.refl er) .nil⟩
theorem znb{u:TA}(h:RdE EE ios t f)(h':RdA EE ios u fs):RdA EE ios (zdp t u) (ZS f fs):=by
 intro σ H R Γ Q er w
 unfold ZS at w
 rw[zab] at w
 refine zgx h er (zac w (fun rv Γ1 w x H1 R1 p1 hx=>?_) fun _ _ z=>z)
 rw[zab] at w
 refine h' σ H1 R1 Γ1 _ p1.er (zac w (fun rvs Γ2 w xs H2 R2 p2 hxs=>?_) fun _ _ z=>EXP.trans p1 z)
 exact w (x::xs) H2 R2 (p1.trans p2) (.cons (hx.sm p2.go.rr) hxs)
theorem ZY(ha:VE X EE ios e f)(hr:VA X EE ios es fs)(hs:starEach (e::es) X.env=(false,eval e X.env)::starEach es X.env:=by rfl):VA X EE ios (e::es) (ZS f fs) :=
 let ⟨_,h1,h2⟩:=ha;let ⟨_,h3,h4⟩:=hr; ⟨_,zag h1 h3 hs,znb h2 h4⟩
def zaE:List RV->M (List D)
 | []=>M.pure []
 |rv::r=>M.bind (mat rv) fun d=>M.bind (zaE r) fun ds=>M.pure (d::ds)
def zaz:List RV->M (List D)
 | []=>M.pure []
 |rv::r=>M.bind (peek rv) fun d=>M.bind (zaz r) fun ds=>M.pure (d::ds)
inductive Pks(R H:Hp):List V->List D->Prop where
 |nil:Pks R H [] []
 |cons {x:V} {d:D} {xs:List V} {ds:List D}:Pk R H x d->Pks R H xs ds->Pks R H (x::xs) (d::ds)
theorem zbR{R H:Hp}{σ:St}{Γ:En}(er:ER ios R H σ Γ):∀ {xs:List V} {rvs:List RV} {K:List D->En->Prop} {E:Xc->En->Prop},ArsR R σ xs rvs->wpM (zaz rvs Γ) K E->∃ ds,Pks R H xs ds/\K ds Γ
 | _,_,K,E,.nil,w=>⟨[],.nil,w⟩
 | _,_,K,E,.cons a b,w=>by
   unfold zaz at w
   rw[zab] at w
   obtain⟨d,pd,w⟩:=zbt (H:=H) er a.rv w
   rw[zab] at w
   obtain⟨ds,pds,w⟩:=zbR er b w
   exact⟨d::ds,.cons pd pds,w⟩
theorem zaY{R0 H0 H:Hp}{σ:St}{Γ0:En}(er:ER ios R0 H0 σ Γ0):∀ {xs:List V} {rvs:List RV} {R:Hp} {Γ:En} {K:List D->En->Prop} {E:Xc->En->Prop},EPo ios R0 H0 σ Γ0 R H Γ->ArsR R σ xs rvs->wpM (zaE rvs Γ) K E ->
 ∃ ds Γ' R',EPo ios R0 H0 σ Γ0 R' H Γ'/\Same R R'/\Rps R' xs ds/\K ds Γ'
 | _,_,R,Γ,K,E,p,.nil,w=>⟨[],Γ,R,p,Same.refl _,.nil,w⟩
 | _,_,R,Γ,K,E,p,.cons a b,w=>by
   unfold zaE at w
   rw[zab] at w
   obtain⟨d,Γ1,R1,p1,s1,r1,w⟩:=zbB er p a.rv w
   rw[zab] at w
   obtain⟨ds,Γ2,R2,p2,s2,r2,w⟩:=zaY er p1 (b.sm s1) w
   exact⟨d::ds,Γ2,R2,p2,s1.trans s2,.cons (r1.sm s2) r2,w⟩
def lstM(fs:M (List RV)):M RV:=M.bind fs fun rvs=>M.bind (zaE rvs) fun ds=>if ds.length<=sizeLine then M.pure (.new (.lst ds)) else M.st
def zbo(fs:M (List RV)):M RV:=M.bind fs fun rvs=>M.bind (zaE rvs) fun ds=>if ds.length<=sizeLine then M.pure (.val (.tup ds)) else M.st
theorem za3(h:VA X EE ios es fs):VE X EE ios (.List es pos) (lstM fs):=by
 obtain⟨t,h1,h2⟩:=h
 refine⟨_,ziv h1,fun σ H R Γ Q er w=>?_⟩
 unfold lstM at w
 rw[zab] at w
 refine h2 σ H R Γ _ er (zac w (fun rvs Γ1 w xs H1 R1 p1 hx=>?_) fun _ _ z=>z)
 rw[zab] at w
 obtain⟨ds,Γ2,R2,p2,s2,r2,w⟩:=zaY er p1 hx w
 split at w
 · rename_i c
   refine⟨by rw[r2.len];exact c,fun p hp=>?_⟩
   obtain⟨al,rv⟩:=zdw p2.er.sub hp r2
   exact w _ _ _ (p2.al al) (rv.rv (p2.back er))
 · exact False.elim w
theorem zbq{k1:Nat}(h:VA X EE ios es fs):VE X EE ios (.Tuple es k1 pos) (zbo fs):=by
 obtain⟨t,h1,h2⟩:=h
 refine⟨_,zlJ h1,fun σ H R Γ Q er w=>?_⟩
 unfold zbo at w
 rw[zab] at w
 refine h2 σ H R Γ _ er (zac w (fun rvs Γ1 w xs H1 R1 p1 hx=>?_) fun _ _ z=>z)
 rw[zab] at w
 obtain⟨ds,Γ2,R2,p2,s2,r2,w⟩:=zaY er p1 hx w
 split at w
 · rename_i c
   refine⟨by rw[r2.len];exact c,fun p hp=>?_⟩
   obtain⟨al,rv⟩:=zmT p2.er.sub hp r2
   exact w _ _ _ (p2.al al) (rv.rv (p2.back er))
 · exact False.elim w
def ze0(r:List V->Hp->VK->Prop)(g:List D->Option RV):Prop:=∀ R H xs ds rv (Q:VK),Same R H->Pks R H xs ds->g ds=some rv->(∀ z H' R',Al R H R' H'->RvA R' H H' z rv->Q z H')->r xs H Q
def za4(g:List D->Option RV)(fs:M (List RV)):M RV:=M.bind fs fun rvs=>M.bind (zaz rvs) fun ds=>M.ofO (g ds)
theorem zbI{r:List V->Hp->VK->Prop}{g:List D->Option RV}{e0:Expr}(hp:∀ t,PA X es t->PE X e0 (tCB r t))(hv:ze0 r g)(ha:VA X EE ios es fs):VE X EE ios e0 (za4 g fs):=by
 obtain⟨t,h1,h2⟩:=ha
 refine⟨_,hp t h1,fun σ H R Γ Q er w=>?_⟩
 unfold za4 at w
 rw[zab] at w
 refine h2 σ H R Γ _ er (zac w (fun rvs Γ1 w xs H1 R1 p1 hx=>?_) fun _ _ z=>z)
 rw[zab] at w
 obtain⟨ds,pd,w⟩:=zbR p1.er hx w
 obtain⟨rv,hg,w⟩:=zbe w
 exact hv R1 H1 xs ds rv Q p1.er.sub pd hg fun z H' R' al ra=>w z H' R' (p1.al al) (ra.rv (p1.back er))
theorem Pks.one{R H:Hp}{xs:List V}{d:D}(h:Pks R H xs [d]):∃ x,xs=[x]/\Pk R H x d:=by
 cases h with | cons a b=>cases b;exact⟨_,rfl,a⟩
theorem Pks.two{R H:Hp}{xs:List V}{d e:D}(h:Pks R H xs [d,e]):∃ x y,xs=[x,y]/\Pk R H x d/\Pk R H y e:=by
 cases h with | cons a b=>obtain⟨y,rfl,q⟩:=b.one;exact⟨_,_,rfl,a,q⟩
def zej:List D->Option RV
 | [.lst xs]=>some (.val (.int xs.length))
 | [.tup xs]=>some (.val (.int xs.length))
 | [.scr xs]=>some (.val (.int xs.length))
 | [.str z]=>if z.length<=sizeLine then some (.val (.int z.length)) else none
 | _=>none
def zqU(K:W.Frag):List V->Hp->VK->Prop:=fun xs H Q=>(∃ p ys,xs=[.ref p]/\(SqL K H p ys\/SqT K H p ys)/\Q (.int ys.length) H)\/(∃ z,xs=[.str z]/\z.length<=sizeLine/\Q (.int z.length) H)
theorem zcH:CallR X (.builtin "len") (zqU X.K):=call_len_seq.or zgg
theorem zcz:ze0 (zqU KC.K) zej:=by
 intro R H xs ds rv Q s px hg q
 unfold zej at hg
 split at hg
 · cases hg
   obtain⟨x,rfl,p⟩:=px.one
   obtain⟨a,ys,rfl,h1,h2⟩:=p.lst s
   refine .inl ⟨a,ys,rfl,.inl (SqL.of h1),?_⟩
   rw[h2.len]
   exact q _ H R (Al.refl s) (.int _)
 · cases hg
   obtain⟨x,rfl,p⟩:=px.one
   obtain⟨a,ys,rfl,h1,h2⟩:=p.tup
   refine .inl ⟨a,ys,rfl,.inr (SqT.of (s _ _ h1)),?_⟩
   rw[h2.len]
   exact q _ H R (Al.refl s) (.int _)
 · cases hg
   obtain⟨x,rfl,p⟩:=px.one
   rcases p with p | ⟨_,_,_,_,_,z,_⟩
   · cases p with
     |scr h1 =>
       refine .inl ⟨_,_,rfl,.inl (s.seq h1),?_⟩
       rw[List.length_map]
       exact q _ H R (Al.refl s) (.int _)
   · cases z
 · split at hg
   · rename_i c
     cases hg
     obtain⟨x,rfl,p⟩:=px.one
     cases p.str
     exact .inr ⟨_,rfl,c,q _ H R (Al.refl s) (.int _)⟩
   · cases hg
 · cases hg
def zhQ:List D->Option RV
 | [.int i,.int j]=>some (.val (.int (if j > i then j else i)))
 | _=>none
def zhd:List D->Option RV
 | [.int i,.int j]=>some (.val (.int (if j<i then j else i)))
 | _=>none
theorem zh9:ze0 (fun xs H Q=>∃ i j,xs=[.int i,.int j]/\Q (.int (if j > i then j else i)) H) zhQ:=by
 intro R H xs ds rv Q s px hg q
 unfold zhQ at hg
 split at hg
 · cases hg
   obtain⟨x,y,rfl,p,p'⟩:=px.two
   exact⟨_,_,by rw[p.int,p'.int],q _ H R (Al.refl s) (.int _)⟩
 · cases hg
theorem zir:ze0 (fun xs H Q=>∃ i j,xs=[.int i,.int j]/\Q (.int (if j<i then j else i)) H) zhd:=by
 intro R H xs ds rv Q s px hg q
 unfold zhd at hg
 split at hg
 · cases hg
   obtain⟨x,y,rfl,p,p'⟩:=px.two
   exact⟨_,_,by rw[p.int,p'.int],q _ H R (Al.refl s) (.int _)⟩
 · cases hg
def zeW:List D->Option RV
 | [.lst xs]=>some (.new (.lst xs))
 | [.tup xs]=>some (.new (.lst xs))
 | _=>none
theorem zeU{K:W.Frag}:ze0 (fun xs H Q=>∃ p ys,xs=[.ref p]/\(SqL K H p ys\/SqT K H p ys)/\∀ l,H l=none->Q (.ref l) (upd H l (.lst ys))) zeW:=by
 intro R H xs ds rv Q s px hg q
 unfold zeW at hg
 split at hg
 · cases hg
   obtain⟨x,rfl,p⟩:=px.one
   obtain⟨a,ys,rfl,h1,h2⟩:=p.lst s
   refine⟨a,ys,rfl,.inl (SqL.of h1),fun l hl=>?_⟩
   obtain⟨al,rv⟩:=zdw s hl h2
   exact q _ _ _ al rv
 · cases hg
   obtain⟨x,rfl,p⟩:=px.one
   obtain⟨a,ys,rfl,h1,h2⟩:=p.tup
   refine⟨a,ys,rfl,.inr (SqT.of (s _ _ h1)),fun l hl=>?_⟩
   obtain⟨al,rv⟩:=zdw s hl h2
   exact q _ _ _ al rv
 · cases hg
def zht:List D->Option (List Int)
 | []=>some []
 | .int b::r=>(zht r).map (b :: ·)
 | _=>none
omit [KC] in
theorem zjO:∀ {ds:List D} {bs:List Int},zht ds=some bs->ds=bs.map D.int
 | [],bs,h=>by cases h;rfl
 |d::r,bs,h=>by
   cases d<;>first | (cases h;done) | skip
   rename_i b
   have h:(zht r).map (b :: ·)=some bs:=h
   cases q:zht r with
   |none=>rw[q] at h;cases h
   |some l=>rw[q] at h;cases h;rw[List.map_cons, <- zjO q]
omit [KC] in
theorem zlX(bs:List Int):zht (bs.map D.int)=some bs:=by
 induction bs with
 |nil=>rfl
 |cons b r ih=>show(zht (r.map D.int)).map (b :: ·)=_;rw[ih];rfl
def srt(ns:List Int):List Int:=ns.mergeSort (fun a b=>decide (a<=b))
omit [KC] in
theorem zhU(ns:List Int):(srt ns).Perm ns:=List.mergeSort_perm ..
omit [KC] in
theorem zlI(ns:List Int):(srt ns).Pairwise (· <= ·):=by
 have h:=List.pairwise_mergeSort (le:=fun a b:Int=>decide (a<=b)) (fun a b c h1 h2=>decide_eq_true (Int.le_trans (of_decide_eq_true h1) (of_decide_eq_true h2))) (fun a b=>by
  rcases Int.le_total a b with h | h
  · rw[decide_eq_true h];rfl
  · rw[decide_eq_true h,Bool.or_true]) ns
 exact h.imp fun h=>of_decide_eq_true h
omit [KC] in
theorem zhH:∀ {xs ys:List Int},xs.Perm ys->xs.Pairwise (· <= ·)->ys.Pairwise (· <= ·)->xs=ys:=fun p h1 h2=>List.Perm.eq_of_pairwise (fun _ _ _ _ h h'=>Int.le_antisymm h h') h1 h2 p
def zdk:List D->Option RV
 | [.lst ds]=>(zht ds).bind fun ns=>if ns.length<64 then some (.new (.lst ((srt ns).map D.int))) else none
 | _=>none
theorem zdO{K:W.Frag}:ze0 (fun xs H Q=>∃ (p:Addr) (ns:List Int),xs=[.ref p]/\SqL K H p (ns.map V.int)/\ns.length<64/\∀ (l:Addr) (ns':List Int),H l=none->ns'.Perm ns->ns'.Pairwise (· <= ·)->Q (.ref l) (upd H l (.lst (ns'.map V.int)))) zdk:=by
 intro R H xs ds rv Q s px hg q
 unfold zdk at hg
 split at hg
 · rename_i l
   cases h:zht l with
   |none=>rw[h] at hg;cases hg
   |some ns =>
     rw[h] at hg
     have hg:(if ns.length<64 then some (RV.new (.lst ((srt ns).map D.int))) else none)=some rv:=hg
     split at hg
     · rename_i c
       cases hg
       obtain⟨x,rfl,p⟩:=px.one
       obtain⟨a,ys,rfl,h1,h2⟩:=p.lst s
       rw[zjO h] at h2
       rw[h2.ints_inv] at h1
       refine⟨a,ns,rfl,SqL.of h1,c,fun l ns' hl pm pw=>?_⟩
       have e:ns'=srt ns:=zhH (pm.trans (zhU ns).symm) pw (zlI ns)
       obtain⟨al,rv⟩:=zdw s hl (Rps.ints (R:=R) (srt ns))
       rw[e]
       exact q _ _ _ al rv
     · cases hg
 · cases hg
end
section
variable{X:Cx}{EE:XKS}{ios:List Addr}{e a b c:Expr}{es:List Expr}{f g k:M RV}{fs:M (List RV)}{pos:Pos}{ta tb tc t:TE}{r r':R2}{K:W.Frag}
def zaF(d e:D):Option RV:=match d,e with
 | .lst xs,.int i=>(atI xs i).map .val
 | .tup xs,.int i=>(atI xs i).map .val
 | .scr ns,.int i=>(atI ns i).map fun n=>.val (.int n)
 | .str z,.int i=>if z.length<=sizeLine then (atI z.cps.toList i).map fun c=>.val (.str ⟨#[c]⟩) else none
 | _,_=>none
theorem Rps.atI{R:Hp}{xs:List V}{ds:List D}{i:Int}{d:D}(h:Rps R xs ds)(e:L2.atI ds i=some d):∃ x,L2.atI xs i=some x/\Rp R x d:=by
 unfold L2.atI at e ⊢
 rw[h.len]
 cases q:ixN ds.length i with
 |none=>rw[q] at e;cases e
 |some j =>
   rw[q] at e
   exact h.ta e
theorem zno{α β:Type}(f:α->β)(xs:List α)(i:Int):L2.atI (xs.map f) i=(L2.atI xs i).map f:=by
 unfold L2.atI
 rw[List.length_map]
 cases ixN xs.length i with
 |none=>rfl
 |some j=>simp
theorem zn7:OpV (rIx KC.K) zaF:=by
 intro R H x y d e rv Q s px py hg q
 unfold zaF at hg
 split at hg
 · rename_i ds i
   cases h:L2.atI ds i with
   |none=>rw[h] at hg;cases hg
   |some d =>
     rw[h] at hg
     cases hg
     obtain⟨a,xs,rfl,h1,h2⟩:=px.lst s
     obtain⟨v,hv,rv⟩:=h2.atI h
     exact .inl ⟨a,xs,i,v,rfl,py.int,SqL.of h1,hv,q _ H R (Al.refl s) rv⟩
 · rename_i ds i
   cases h:L2.atI ds i with
   |none=>rw[h] at hg;cases hg
   |some d =>
     rw[h] at hg
     cases hg
     obtain⟨a,xs,rfl,h1,h2⟩:=px.tup
     obtain⟨v,hv,rv⟩:=h2.atI h
     exact .inr (.inl ⟨a,xs,i,v,rfl,py.int,SqT.of (s _ _ h1),hv,q _ H R (Al.refl s) rv⟩)
 · rename_i ns i
   cases h:L2.atI ns i with
   |none=>rw[h] at hg;cases hg
   |some n =>
     rw[h] at hg
     cases hg
     rcases px with px | ⟨_,_,_,_,_,z,_⟩
     · cases px with
       |scr h1=>exact .inl ⟨_,_,i,.int n,rfl,py.int,s.seq h1,by rw[zno,h];rfl,q _ H R (Al.refl s) (.int n)⟩
     · cases z
 · rename_i z i
   split at hg
   · rename_i c
     cases h:L2.atI z.cps.toList i with
     |none=>rw[h] at hg;cases hg
     |some n =>
       rw[h] at hg
       cases hg
       exact .inr (.inr ⟨z,i,n,px.str,py.int,c,h,q _ H R (Al.refl s) (.str _)⟩)
   · cases hg
 · cases hg
theorem zaC(ha:VE X EE ios a f)(hb:VE X EE ios b g)(hs:zi0 b:=by intro _ _;rfl)(hK:X.K=KC.K:=by rfl):VE X EE ios (.Subscript a b pos) (op2 zaF f g) :=
 let ⟨_,h1,h2⟩:=ha;let ⟨_,h3,h4⟩:=hb; ⟨_,zoI zmi h1 h3 hs,zjz (by rw[hK];exact zn7) h2 h4⟩
def op1(o:D->Option RV)(f:M RV):M RV:=M.bind f fun x=>M.bind (peek x) fun d=>M.ofO (o d)
def zlh:D->Option RV
 | .int i=>some (.val (.int (-i)))
 | _=>none
theorem zpq(ha:VE X EE ios a f):VE X EE ios (.UnaryOp .USub a pos) (op1 zlh f):=by
 obtain⟨t,h1,h2⟩:=ha
 refine⟨_,zri zpx h1,fun σ H R Γ Q er w=>?_⟩
 unfold op1 at w
 rw[zab] at w
 refine h2 σ H R Γ _ er (zac w (fun rx Γ1 w x H1 R1 p1 hx=>?_) fun _ _ z=>z)
 rw[zab] at w
 obtain⟨d,pd,w⟩:=zbt p1.er hx w
 obtain⟨rv,hg,w⟩:=zbe w
 unfold zlh at hg
 split at hg
 · cases hg
   exact⟨_,pd.int,w _ H1 R1 p1 (.int _)⟩
 · cases hg
def tyN:D->String
 | .non => "NoneType"
 | .bl _ => "bool"
 | .int _ => "int"
 | .str _ => "str"
 | .lst _ => "list"
 | .tup _ => "tuple"
 | .dic _ _ => "dict"
 | .scr _ => "list"
 | .ins _ _ _ => "object"
 | .obj _ _ _ => "object"
def plain:D->Bool
 | .scr _=>false
 | .ins _ _ _=>false
 | .obj _ _ _=>false
 | _=>true
theorem Rp.ty{H:Hp}{x:V}{d:D}(h:Rp H x d)(ns:plain d=true):TyOf K H x (.type (tyN d)):=by
 cases h with
 |non=>exact .non
 |bl b=>exact .bl b
 |int i=>exact .int i
 |str x=>exact .str x
 |lst e _=>exact .lst e
 |tup e _=>exact .tup e
 |dnil e=>exact .dK e
 |scr e=>cases ns
 |exc0 e=>cases ns
 |exc e _ _=>cases ns
 |obj e _=>cases ns
inductive Ty where
 |int | bool | str | list | tuple | dict
def Ty.nm:Ty->String
 | .int => "int"
 | .bool => "bool"
 | .str => "str"
 | .list => "list"
 | .tuple => "tuple"
 | .dict => "dict"
def zct:Ty->D->Bool
 | .int,.bl _=>true
 | .bool,.bl _=>true
 | .int,.int _=>true
 | .str,.str _=>true
 | .list,.lst _=>true
 | .list,.scr _=>true
 | .tuple,.tup _=>true
 | .dict,.dic _ _=>true
 | _,_=>false
theorem zoV(K:W.Frag)(d:D)(hd:plain d=true)(T:Ty):W.kitOne K (.type (tyN d)) (.type T.nm)=some (zct T d):=by
 cases T<;>cases d<;>first | kernel_rfl | cases hd
def zgS(T:Ty):D->Option RV
 | .scr _=>none
 | .ins _ _ _=>none
 | .obj _ _ _=>none
 |d=>some (.val (.bl (zct T d)))
def zkx(T:Ty)(f:M RV):M RV:=M.bind (zex f) fun x=>M.bind (peek x) fun d=>M.ofO (zgS T d)
theorem zh0{T:Ty}{e0:Expr}(hp:∀ t,PE X a t->PE X e0 (tCB (rIs X.K) (zdp t (zdp (tC (.ty T.nm)) zkt))))(ha:VE X EE ios a f):VE X EE ios e0 (zkx T f):=by
 obtain⟨t,h1,h2⟩:=ha
 refine⟨_,hp t h1,fun σ H R Γ Q er w=>?_⟩
 unfold zkx at w
 rw[zab] at w
 refine zgx h2 er (zac w (fun rx Γ1 w x H1 R1 p1 hx=>?_) fun _ _ z=>z)
 rw[zab] at w
 obtain⟨d,pd,w⟩:=zbt (H:=H) p1.er hx.rv w
 have hv:=pd.hv p1.er.sub
 obtain⟨rv,hg,w⟩:=zbe w
 have ns:plain d=true:=by cases d<;>first | rfl | cases hg
 have hg:rv = .val (.bl (zct T d)):=by cases d<;>first | (cases hg;done) | exact(Option.some.inj hg).symm
 subst hg
 exact⟨x,.ty T.nm,_,_,_,rfl,rfl,.inl (hv.ty ns),zoV X.K d ns T,w _ H1 R1 p1 (.bl _)⟩
theorem ER.mut{R H:Hp}{σ:St}{Γ:En}{i:Nat}{kd:Kd}{ds ds':List D}{x:V}(er:ER ios R H σ Γ)(hi:Γ[i]? = some (some (kd,.lst ds)))(ho:owned kd=true)(hx:σ[i]? = some (some x)) :
 ∃ p xs,x = .ref p/\H p=some (.lst xs)/\Rps R xs ds/\∀ xs',Rps R xs' ds'->EPo ios R H σ Γ R (upd H p (.lst xs')) (Γ.set i (some (kd,.lst ds'))):=by
 obtain⟨v,hv,s⟩:=er.sl i _ hi
 rw[hx] at hv
 cases hv
 have hlt:i<Γ.length:=(List.getElem?_eq_some_iff.mp hi).1
 obtain⟨⟨a,xs,ds0,rfl,h1,h2,h3,h4⟩,hio⟩:OwR R H x (.lst ds)/\∀ n,kd = .io n->∃ a,ios[n]? = some a/\x = .ref a:=by
  cases kd with
  |frz=>cases ho
  |own=>exact⟨s,fun _ z=>nomatch z⟩
  |io n=>exact⟨s.1,fun m z=>by cases z;exact s.2⟩
 cases h3
 have inj:∀ j l z,Γ[j]? = some (some (l,z))->owned l=true->σ[j]? = some (some (.ref a))->j=i:=fun j l z q1 q2 q3=>(er.dj i j kd l _ z a hi ho q1 q2 hx q3).symm
 have ow':∀ b,Ow σ (Γ.set i (some (kd,.lst ds'))) b->Ow σ Γ b:=by
  rintro b ⟨j,l,z,q1,q2,q3⟩
  by_cases hj:j=i
  · subst hj
    rw[List.getElem?_set_self hlt] at q1
    cases q1
    exact⟨j,kd,_,hi,ho,q3⟩
  · rw[List.getElem?_set_ne (Ne.symm hj)] at q1
    exact⟨j,l,z,q1,q2,q3⟩
 refine⟨a,xs,rfl,h2,h4,fun xs' h5=>⟨⟨fun b o e=>?_,by rw[List.length_set];exact er.len,fun j t hj=>?_,fun j j' l l' z z' b q1 q2 q3 q4 q5 q6=>?_⟩,⟨Same.refl _,fun b o h n=>?_,fun _ _ _ _ z=>z,fun b z=>.inl (ow' b z),fun b o h=>?_⟩,ow'⟩⟩
 · rw[zaf]
   · exact er.sub b o e
   · rintro rfl;rw[h1] at e;cases e
 · by_cases hji:j=i
   · subst hji
     rw[List.getElem?_set_self hlt] at hj
     cases hj
     refine⟨_,hx,?_⟩
     have z:OwR R (upd H a (.lst xs')) (.ref a) (.lst ds'):=⟨a,xs',ds',rfl,h1,zal,rfl,h5⟩
     cases kd with
     |frz=>cases ho
     |own=>exact z
     |io n=>exact⟨z,hio n rfl⟩
   · rw[List.getElem?_set_ne (Ne.symm hji)] at hj
     obtain⟨v,hv,q⟩:=er.sl j t hj
     refine⟨v,hv,q.mono (Same.refl _) fun ho' b ys eb hb rb=>⟨?_,rb⟩⟩
     rw[zaf]
     · exact hb
     · rintro rfl
       subst eb
       exact hji (inj j t.1 t.2 hj ho' hv)
 · have g:∀ {j:Nat} {l:Kd} {z:D},(Γ.set i (some (kd,.lst ds')))[j]? = some (some (l,z))->∃ z',Γ[j]? = some (some (l,z')):=by
    intro j l z q
    by_cases hji:j=i
    · subst hji;rw[List.getElem?_set_self hlt] at q;cases q;exact⟨_,hi⟩
    · rw[List.getElem?_set_ne (Ne.symm hji)] at q;exact⟨z,q⟩
   obtain⟨z1,g1⟩:=g q1
   obtain⟨z2,g2⟩:=g q3
   exact er.dj j j' l l' z1 z2 b g1 q2 g2 q4 q5 q6
 · rw[zaf]
   · exact h
   · rintro rfl;exact n ⟨i,kd,_,hi,ho,hx⟩
 · by_cases hb:b=a
   · subst hb;exact⟨_,zal⟩
   · exact⟨o,by rw[zaf hb];exact h⟩
def zqT(r:V->List V->Hp->VK->Prop)(g:List D->List D->Option (List D×D)):Prop:=∀ R H p xs ds ys es ds' res (Q:VK),Same R H->R p=none->H p=some (.lst xs)->Rps R xs ds->Rps R ys es->g ds es=some (ds',res) ->
 (∀ xs' z,Rps R xs' ds'->Rp R z res->Q z (upd H p (.lst xs')))->r (.ref p) ys H Q
def recv(i:Nat):M Unit:=fun Γ=>match Γ[i]? with
 |some (some (kd,.lst _))=>if owned kd then .ok () Γ else .st
 | _=>.st
theorem zjs{H:Hp}{p:Addr}{xs:List V}(h:H p=some (.lst xs)):tyV K "list" (.ref p) H:=.inl ⟨rfl,_,SqL.of h⟩
theorem znl{i:Nat}{σ:St}{H R:Hp}{Γ:En}{K':Unit->En->Prop}{E:Xc->En->Prop}(er:ER ios R H σ Γ)(w:wpM (recv i Γ) K' E):∃ p xs,σ[i]? = some (some (.ref p))/\H p=some (.lst xs)/\K' () Γ:=by
 unfold recv at w
 split at w
 · rename_i kd ds q
   split at w
   · rename_i ho
     obtain⟨v,hv,s⟩:=er.sl i _ q
     obtain⟨p,xs,rfl,h2,_⟩:=er.mut (ds':=ds) q ho hv
     exact⟨p,xs,hv,h2,w⟩
   · exact False.elim w
 · exact False.elim w
def zdG(ds es:List D):Option (List D×D):=match es with
 | [d]=>if ds.length<sizeLine then some (ds++[d],.non) else none
 | _=>none
theorem zg4:zqT zi1 zdG:=by
 intro R H p xs ds ys es ds' res Q s hr hp hx hy hg q
 unfold zdG at hg
 split at hg
 · split at hg
   · rename_i c
     cases hg
     cases hy with
     |cons h1 h2 =>
       cases h2
       exact⟨p,xs,_,rfl,rfl,hp,by rw[hx.len];exact c,q _ _ (hx.app (.cons h1 .nil)) .non⟩
   · cases hg
 · cases hg
end
inductive Fl where
 |nx | ret (rv:RV) | brk | cont
structure SPo(ios:List Addr)(R H:Hp)(σ:St)(Γ:En)(R' H':Hp)(σ':St)(Γ':En):Prop where
 er:ER ios R' H' σ' Γ'
 go:Go (Ow σ Γ) R H (Ow σ' Γ') R' H'
section
variable{ios:List Addr}{R H R1 H1 R2 H2:Hp}{σ σ1 σ2:St}{Γ Γ1 Γ2:En}
theorem SPo.refl(e:ER ios R H σ Γ):SPo ios R H σ Γ R H σ Γ:=⟨e,Go.refl⟩
theorem SPo.trans(a:SPo ios R H σ Γ R1 H1 σ1 Γ1)(b:SPo ios R1 H1 σ1 Γ1 R2 H2 σ2 Γ2):SPo ios R H σ Γ R2 H2 σ2 Γ2:=⟨b.er,a.go.trans b.go⟩
theorem EPo.spo(a:EPo ios R H σ Γ R1 H1 Γ1):SPo ios R H σ Γ R1 H1 σ Γ1:=⟨a.er,a.go⟩
theorem SPo.back(h:SPo ios R H σ Γ R1 H1 σ1 Γ1):∀ b,H1 b=none->H b=none:=fun b hb=>by
 cases q:H b with
 |none=>rfl
 |some o=>obtain⟨o',z⟩:=h.go.th b o q;rw[hb] at z;cases z
theorem zc6{R' H':Hp}{σ':St}{x:V}{rv:RV}(p1:∀ b,H1 b=none->H b=none)(h:RvR R' H1 H' σ' x rv):RvR R' H H' σ' x rv:=by
 cases rv with
 |val d=>exact h
 |new d=>obtain⟨h1,a,h2,h3⟩:=h;exact⟨h1,a,h2,p1 _ h3⟩
 |var i=>exact h
end
def EXS(EE:XKS)(ios:List Addr)(R H:Hp)(σ:St)(Γ:En):Xc->En->Prop:=fun x Γ'=>∀ e σ' H' R',SPo ios R H σ Γ R' H' σ' Γ'->XcR R' H H' e x->EE σ' (.ref (KC.cls x.C)) (some e) H'
theorem EXS.exp{EE:XKS}{ios:List Addr}{R H:Hp}{σ:St}{Γ:En}{x:Xc}{Γ':En}(h:EXS EE ios R H σ Γ x Γ'):EXP EE ios R H σ Γ x Γ':=fun e H' R' p q=>h e σ H' R' p.spo q
theorem EXS.trans{EE:XKS}{ios:List Addr}{R H R1 H1:Hp}{σ σ1:St}{Γ Γ1:En}(a:SPo ios R H σ Γ R1 H1 σ1 Γ1){x:Xc}{Γ':En}(h:EXS EE ios R H σ Γ x Γ'):EXS EE ios R1 H1 σ1 Γ1 x Γ':=fun e σ' H' R' b q=>h e σ' H' R' (a.trans b) (q.back a.back)
def FlK(ios:List Addr)(R H:Hp)(σ:St)(Γ:En)(D:Ends):Fl->En->Prop:=fun fl Γ'=>∀ σ' H' R',SPo ios R H σ Γ R' H' σ' Γ'->match fl with
 | .nx=>D.nx σ' H'
 | .brk=>D.bk σ' H'
 | .cont=>D.ct σ' H'
 | .ret rv=>∀ x,RvR R' H H' σ' x rv->D.rt x H'
def RdS(EE:XKS)(ios:List Addr)(t:TS)(f:M Fl):Prop:=∀ σ H R Γ D,ER ios R H σ Γ->wpM (f Γ) (FlK ios R H σ Γ D) (EXS EE ios R H σ Γ)->t D σ H
def VS(X:Cx)(EE:XKS)(ios:List Addr)(st:Stmt)(f:M Fl):Prop:=∃ t,PS X st t/\RdS EE ios t f
def VSs(X:Cx)(EE:XKS)(ios:List Addr)(st:List Stmt)(f:M Fl):Prop:=∃ t,PSs X st t/\RdS EE ios t f
section
variable{X:Cx}{EE:XKS}{ios:List Addr}{e a b c:Expr}{es:List Expr}{f g k:M RV}{fs:M (List RV)}{p:M Bool}{s s':M Fl}{st:Stmt}{sts sts':List Stmt}{pos:Pos}
theorem zbf:VSs X EE ios [] (M.pure .nx):=⟨_,zdH,fun σ H R Γ D er w=>w σ H R (SPo.refl er)⟩
def zar(f g:M Fl):M Fl:=M.bind f fun fl=>match fl with
 | .nx=>g
 |fl=>M.pure fl
theorem zan(h:VS X EE ios st s)(h':VSs X EE ios sts s'):VSs X EE ios (st::sts) (zar s s'):=by
 obtain⟨t,h1,h2⟩:=h
 obtain⟨u,h3,h4⟩:=h'
 refine⟨_,zbx h1 h3,fun σ H R Γ D er w=>?_⟩
 unfold zar at w
 rw[zab] at w
 refine h2 σ H R Γ _ er (zac w (fun fl Γ1 w σ1 H1 R1 p1=>?_) fun _ _ z=>z)
 cases fl with
 |nx =>
   refine h4 σ1 H1 R1 Γ1 D p1.er (zac w (fun fl Γ2 w σ2 H2 R2 p2=>?_) fun _ _ z=>EXS.trans p1 z)
   have:=w σ2 H2 R2 (p1.trans p2)
   cases fl with
   |nx=>exact this
   |brk=>exact this
   |cont=>exact this
   |ret rv=>exact fun x hx=>this x (zc6 p1.back hx)
 |brk=>exact w σ1 H1 R1 p1
 |cont=>exact w σ1 H1 R1 p1
 |ret rv=>exact w σ1 H1 R1 p1
theorem zas(h:VS X EE ios st s):VSs X EE ios [st] s:=let ⟨_,h1,h2⟩:=h; ⟨_,zck h1,h2⟩
theorem zfo:VS X EE ios st M.st:=⟨_,zmD,fun σ H R Γ D er w=>w⟩
def zjR(f:M RV):M Fl:=M.bind f fun _=>M.pure .nx
def zbu(f:M RV):M Fl:=M.bind f fun rv=>M.pure (.ret rv)
theorem zaU(h:VE X EE ios e f):VS X EE ios (.Return (some e) pos) (zbu f):=by
 obtain⟨t,h1,h2⟩:=h
 refine⟨_,zgt h1,fun σ H R Γ D er w=>?_⟩
 unfold zbu at w
 rw[zab] at w
 exact h2 σ H R Γ _ er (zac w (fun rv Γ1 w x H1 R1 p1 hx=>w σ H1 R1 p1.spo x hx) fun _ _ z=>z.exp)
def ifM(p:M Bool)(s s':M Fl):M Fl:=M.bind p fun b=>if b then s else s'
theorem zcd(hc:VT X EE ios c p)(h:VSs X EE ios sts s)(h':VSs X EE ios sts' s'):VS X EE ios (.If c sts sts' pos) (ifM p s s'):=by
 obtain⟨_,h0,h0'⟩:=hc
 obtain⟨t,h1,h2⟩:=h
 obtain⟨u,h3,h4⟩:=h'
 refine⟨_,zhr h0 h1 h3,fun σ H R Γ D er w=>?_⟩
 unfold ifM at w
 rw[zab] at w
 refine h0' σ H R Γ _ er (zac w (fun b Γ1 w H1 R1 p1=>?_) fun _ _ z=>z.exp)
 have go:∀ fl Γ2,FlK ios R H σ Γ D fl Γ2->FlK ios R1 H1 σ Γ1 D fl Γ2:=fun fl Γ2 w σ2 H2 R2 p2=>by
  have:=w σ2 H2 R2 (p1.spo.trans p2)
  cases fl with
  |nx=>exact this
  |brk=>exact this
  |cont=>exact this
  |ret rv=>exact fun x hx=>this x (zc6 p1.spo.back hx)
 cases b with
 |true=>exact zeg (h2 σ H1 R1 Γ1 D p1.er (zac w go fun _ _ z=>EXS.trans p1.spo z))
 |false=>exact zeu (h4 σ H1 R1 Γ1 D p1.er (zac w go fun _ _ z=>EXS.trans p1.spo z))
def zgV(i:Nat)(s:Kd×D):M Unit:=fun Γ=>.ok () (Γ.set i (some s))
theorem znm{σ:St}{Γ:En}{i:Nat}{x:V}{s:Kd×D}{b:Addr}(h:Ow (σ.set i (some x)) (Γ.set i (some s)) b):Ow σ Γ b\/(owned s.1=true/\x = .ref b):=by
 obtain⟨j,k,d,h1,h2,h3⟩:=h
 by_cases hj:j=i
 · subst hj
   have l1:j<Γ.length:=by have:=(List.getElem?_eq_some_iff.mp h1).1;rwa[List.length_set] at this
   have l2:j<σ.length:=by have:=(List.getElem?_eq_some_iff.mp h3).1;rwa[List.length_set] at this
   rw[List.getElem?_set_self l1] at h1
   rw[List.getElem?_set_self l2] at h3
   cases h1
   cases h3
   exact .inr ⟨h2,rfl⟩
 · rw[List.getElem?_set_ne (Ne.symm hj)] at h1 h3
   exact .inl ⟨j,k,d,h1,h2,h3⟩
theorem SPo.set{R H R1 H1:Hp}{σ:St}{Γ Γ1:En}{i:Nat}{x:V}{s:Kd×D}(er:ER ios R H σ Γ)(p1:EPo ios R H σ Γ R1 H1 Γ1)(hs:SlR ios R1 H1 x s)(hn:owned s.1=true->∀ a,x = .ref a->H a=none) :
 SPo ios R H σ Γ R1 H1 (σ.set i (some x)) (Γ1.set i (some s)):=by
 have hfresh:owned s.1=true->∀ a,x = .ref a -> ¬ Ow σ Γ1 a:=fun ho a ea z=>by
  obtain⟨_,xs,q⟩:=er.ow (p1.sh a z)
  rw[hn ho a ea] at q;cases q
 refine⟨⟨p1.er.sub,by rw[List.length_set,List.length_set];exact p1.er.len,fun j t hj=>?_,fun j j' l l' d d' b q1 q2 q3 q4 q5 q6=>?_⟩,⟨p1.go.rr,p1.go.hh,p1.go.no,fun b z=>?_,p1.go.th⟩⟩
 · by_cases hji:j=i
   · subst hji
     have l1:j<Γ1.length:=by have:=(List.getElem?_eq_some_iff.mp hj).1;rwa[List.length_set] at this
     rw[List.getElem?_set_self l1] at hj
     cases hj
     exact⟨x,by rw[List.getElem?_set_self (by rw[p1.er.len];exact l1)],hs⟩
   · rw[List.getElem?_set_ne (Ne.symm hji)] at hj ⊢
     exact p1.er.sl j t hj
 · by_cases h1:j=i
   · by_cases h2:j'=i
     · rw[h1,h2]
     · subst h1
       have l1:j<Γ1.length:=by have:=(List.getElem?_eq_some_iff.mp q1).1;rwa[List.length_set] at this
       rw[List.getElem?_set_self l1] at q1
       rw[List.getElem?_set_self (by rw[p1.er.len];exact l1)] at q5
       rw[List.getElem?_set_ne (Ne.symm h2)] at q3 q6
       cases q1;cases q5
       exact absurd ⟨j',l',d',q3,q4,q6⟩ (hfresh q2 b rfl)
   · by_cases h2:j'=i
     · subst h2
       have l1:j'<Γ1.length:=by have:=(List.getElem?_eq_some_iff.mp q3).1;rwa[List.length_set] at this
       rw[List.getElem?_set_self l1] at q3
       rw[List.getElem?_set_self (by rw[p1.er.len];exact l1)] at q6
       rw[List.getElem?_set_ne (Ne.symm h1)] at q1 q5
       cases q3;cases q6
       exact absurd ⟨j,l,d,q1,q2,q5⟩ (hfresh q4 b rfl)
     · rw[List.getElem?_set_ne (Ne.symm h1)] at q1 q5
       rw[List.getElem?_set_ne (Ne.symm h2)] at q3 q6
       exact p1.er.dj j j' l l' d d' b q1 q2 q3 q4 q5 q6
 · rcases znm z with z | ⟨ho,rfl⟩
   · exact .inl (p1.sh b z)
   · exact .inr (hn ho b rfl)
def za0(i:Nat)(f:M RV):M Fl:=M.bind f fun rv=>M.bind (match rv with
 | .new d=>zgV i (.own,d)
 | .val d=>zgV i (.frz,d)
 | .var j=>M.bind (mat (.var j)) fun d=>zgV i (.frz,d)) fun _=>M.pure .nx
theorem zpJ{t:TE}{i:Nat}(h:RdE EE ios t f):RdS EE ios (zle t (zf6 i)) (za0 i f):=by
 intro σ H R Γ D er w
 unfold za0 at w
 rw[zab] at w
 refine h σ H R Γ _ er (zac w (fun rv Γ1 w x H1 R1 p1 hx=>?_) fun _ _ z=>z.exp)
 show D.nx (σ.set i (some x)) H1
 rw[zab] at w
 cases rv with
 |val d=>exact w _ H1 R1 (SPo.set er p1 (s:=(.frz,d)) hx fun z=>by cases z)
 |new d =>
   obtain⟨h1,a,h2,h3⟩:=hx
   exact w _ H1 R1 (SPo.set er p1 (s:=(.own,d)) h1 fun _ b eb=>by rw[h2] at eb;cases eb;exact h3)
 |var j =>
   rw[zab] at w
   obtain⟨d,Γ2,R2,p2,_,r2,w⟩:=zbB er p1 hx w
   exact w _ H1 R2 (SPo.set er p2 (s:=(.frz,d)) r2 fun z=>by cases z)
theorem zaR{i:Nat}{x:Str}{pos':Pos}(hN:X.N.Nodup)(hi:X.N[i]? = some x)(hx:Loc X.env.scope x)(he:VE X EE ios e f)(hs:swapsWith e (some (.Name x pos')) pos.line X.env=pure false:=by rfl)(hf:X.fn x=true\/X.env.scope.names.lookup x=some .local:=by first | exact .inl rfl | exact .inr rfl | assumption) :
 VS X EE ios (.Assign [.Name x pos'] e pos) (za0 i f):=let ⟨_,h1,h2⟩:=he; ⟨_,ziE hN hi hx h1 hs hf,zpJ h2⟩
def NoX:Xc->En->Prop:=fun _ _=>False
def RdG(ios:List Addr)(n:Nat)(g:TG)(m:D->M Unit):Prop:=∀ σ H R Γ v d (Q:St->Hp->Prop),ER ios R H σ Γ->Rp R v d ->
 wpM (m d Γ) (fun _ Γ'=>∀ σ' H' R',SPo ios R H σ Γ R' H' σ' Γ'->(∀ k,n<=k->σ'[k]? = σ[k]?)->Same R R'->Q σ' H') NoX->g v σ H Q
def zog(ios:List Addr)(n:Nat)(g:TGs)(m:List D->M Unit):Prop:=∀ σ H R Γ vs ds (Q:St->Hp->Prop),ER ios R H σ Γ->Rps R vs ds ->
 wpM (m ds Γ) (fun _ Γ'=>∀ σ' H' R',SPo ios R H σ Γ R' H' σ' Γ'->(∀ k,n<=k->σ'[k]? = σ[k]?)->Same R R'->Q σ' H') NoX->g vs σ H Q
def gN(i:Nat)(d:D):M Unit:=zgV i (.frz,d)
theorem zaM{i n:Nat}(h:i<n):RdG ios n (zf6 i) (gN i):=fun σ H R Γ v d Q er hv w =>
 w _ H R (SPo.set er (EPo.refl er) (s:=(.frz,d)) hv fun z=>by cases z) (fun k hk=>List.getElem?_set_ne (by omega)) (Same.refl _)
def gs0:List D->M Unit
 | []=>M.pure ()
 | _=>M.st
def gsC(m:D->M Unit)(ms:List D->M Unit):List D->M Unit
 |d::r=>M.bind (m d) fun _=>ms r
 | []=>M.st
theorem zdd{n:Nat}:zog ios n zpR gs0:=fun σ H R Γ vs ds Q er hv w=>by
 cases hv with
 |nil=>exact⟨rfl,w σ H R (SPo.refl er) (fun _ _=>rfl) (Same.refl _)⟩
 |cons _ _=>exact False.elim w
theorem zbh{n:Nat}{g:TG}{gs:TGs}{m:D->M Unit}{ms:List D->M Unit}(h:RdG ios n g m)(h':zog ios n gs ms):zog ios n (zmr g gs) (gsC m ms):=fun σ H R Γ vs ds Q er hv w=>by
 cases hv with
 |nil=>exact False.elim w
 |cons h1 h2 =>
   refine⟨_,_,rfl,?_⟩
   unfold gsC at w
   rw[zab] at w
   refine h σ H R Γ _ _ _ er h1 (zac w (fun _ Γ1 w σ1 H1 R1 p1 k1 s1=>?_) fun _ _ z=>z)
   exact h' σ1 H1 R1 Γ1 _ _ _ p1.er (h2.sm s1) (zac w (fun _ Γ2 w σ2 H2 R2 p2 k2 s2=>w σ2 H2 R2 (p1.trans p2) (fun k hk=>(k2 k hk).trans (k1 k hk)) (s1.trans s2)) fun _ _ z=>z)
def gT(n:Nat)(ms:List D->M Unit):D->M Unit
 | .tup ds=>if ds.length=n then ms ds else M.st
 | _=>M.st
theorem zdi{n m:Nat}{K:W.Frag}{gs:TGs}{ms:List D->M Unit}(h:zog ios n gs ms):RdG ios n (zqf K m gs) (gT m ms):=fun σ H R Γ v d Q er hv w=>by
 unfold gT at w
 split at w
 · split at w
   · rename_i c
     cases hv with
     |tup e q=>exact⟨_,_,rfl,SqT.of (er.sub _ _ e),by rw[q.len];exact c,h σ H R Γ _ _ Q er q w⟩
   · exact False.elim w
 · exact False.elim w
def g2(ms:List D->M Unit):D->M Unit
 | .lst [x,y]=>ms [x,y]
 | _=>M.st
def noX(m:M Unit):M Unit:=fun Γ=>match m Γ with
 | .ok a Γ'=>.ok a Γ'
 | _=>.st
def zio(m:D->M Unit)(f:M RV):M Fl:=M.bind f fun rv=>M.bind (mat rv) fun d=>M.bind (noX (m d)) fun _=>M.pure .nx
theorem zc4{m:M Unit}{Γ:En}{K:Unit->En->Prop}{E:Xc->En->Prop}(h:wpM (noX m Γ) K E):wpM (m Γ) K NoX:=by
 unfold noX at h
 cases q:m Γ with
 |ok a Γ'=>rw[q] at h;exact h
 |ex x Γ'=>rw[q] at h;exact False.elim h
 |st=>rw[q] at h;exact False.elim h
theorem zne{t:TE}{g:TG}{m:D->M Unit}{n:Nat}(h:RdE EE ios t f)(hg:RdG ios n g m):RdS EE ios (zle t g) (zio m f):=by
 intro σ H R Γ D er w
 unfold zio at w
 rw[zab] at w
 refine h σ H R Γ _ er (zac w (fun rv Γ1 w x H1 R1 p1 hx=>?_) fun _ _ z=>z.exp)
 rw[zab] at w
 obtain⟨d,Γ2,R2,p2,_,r2,w⟩:=zbB er p1 hx w
 rw[zab] at w
 exact hg σ H1 R2 Γ2 x d _ p2.er r2 (zac (zc4 w) (fun _ Γ3 w σ3 H3 R3 p3 _ _=>w σ3 H3 R3 (p2.spo.trans p3)) fun _ _ z=>z)
theorem ziH{tg:Expr}{g:TG}{m:D->M Unit}{n:Nat}(he:VE X EE ios e f)(hr:RdG ios n g m)(hp:∀ t,PE X e t->PS X (.Assign [tg] e pos) (zle t g)):VS X EE ios (.Assign [tg] e pos) (zio m f) :=
 let ⟨_,h1,h2⟩:=he; ⟨_,hp _ h1,zne h2 hr⟩
def setAt(j:Nat)(d di:D):M Unit:=fun Γ=>match Γ[j]?,di with
 |some (some (kd,.lst ds)),.int i=>if owned kd then match ixN ds.length i with
   |some k=>.ok () (Γ.set j (some (kd,.lst (ds.set k d))))
   |none=>.st else .st
 | _,_=>.st
def gS(j:Nat)(fi:M RV)(d:D):M Unit:=M.bind (recv j) fun _=>M.bind fi fun ri=>M.bind (peek ri) fun di=>setAt j d di
theorem ziS{j n:Nat}{ti:TE}{fi:M RV}(hi:RdE EE ios ti fi):RdG ios n (zru (zfG j) ti zoM) (gS j fi):=fun σ H R Γ v d Q er hv w=>by
 unfold gS at w
 rw[zab] at w
 obtain⟨p,_,hσ,_,w⟩:=znl er w
 refine⟨_,hσ,?_⟩
 rw[zab] at w
 refine hi σ H R Γ _ er (zac w (fun ri Γ1 w y H1 R1 p1 hy=>?_) fun _ _ z=>z.elim)
 rw[zab] at w
 obtain⟨di,pd,w⟩:=zbt p1.er hy w
 unfold setAt at w
 split at w
 · rename_i kd ds i q
   split at w
   · rename_i ho
     split at w
     · rename_i k hk
       obtain⟨p',xs,e,h2,h3,m⟩:=p1.er.mut (ds':=ds.set k d) q ho hσ
       cases e
       exact⟨p,xs,i,k,rfl,pd.int,h2,by rw[h3.len];exact hk,w σ _ R1 (p1.trans (m _ (h3.set (hv.sm p1.go.rr) k))).spo (fun _ _=>rfl) p1.go.rr⟩
     · exact False.elim w
   · exact False.elim w
 · exact False.elim w
def ItR(J:It)(R0:Hp)(items:List D):Prop:=∀ (i:Nat) (H R:Hp),Same R0 R->Same R H ->
 (∀ d,items[i]? = some d->J.go i H/\∀ x H',J.yld i H x H'->∃ R',Al R H R' H'/\Rp R' x d)/\(items.length<=i->J.stop i H)
def RdI(EE:XKS)(ios:List Addr)(wi:TI)(f:M (List D)):Prop:=∀ σ H R Γ Rk,ER ios R H σ Γ ->
 wpM (f Γ) (fun items Γ'=>∀ J H' R',EPo ios R H σ Γ R' H' Γ'->ItR J R' items->Rk J H') (EXP EE ios R H σ Γ)->wi σ H Rk
def VI(X:Cx)(EE:XKS)(ios:List Addr)(tg iter:Expr)(f:M (List D)):Prop:=∃ wi,PI X tg iter wi/\RdI EE ios wi f
variable{tg:Expr}
def zfj(f:M RV):M (List D):=M.bind f fun rv=>M.bind (mat rv) fun d=>match d with
 | .lst ds=>M.pure ds
 | .scr ns=>M.pure (ns.map D.int)
 | _=>M.st
theorem zma{K:W.Frag}{R0:Hp}{a:Addr}{xs:List V}{ds:List D}(h:∀ H,Same R0 H->SqL K H a xs)(r:Rps R0 xs ds):ItR (Itl K a) R0 ds:=by
 intro i H R s1 s2
 have s:=s1.trans s2
 refine⟨fun d hd=>?_,fun hl=>⟨xs,h H s,by rw[r.len];exact hl⟩⟩
 obtain⟨x,hx,rx⟩:=r.ta hd
 refine⟨⟨xs,x,h H s,hx⟩,fun y H' hy=>?_⟩
 obtain⟨rfl,hy⟩:=hy
 have:=hy xs (h _ s)
 rw[hx] at this
 cases this
 exact⟨R,Al.refl s2,rx.sm s1⟩
theorem zcK(h:VE X EE ios e f)(hK:X.K=KC.K:=by rfl):VI X EE ios tg e (zfj f):=by
 obtain⟨t,h1,h2⟩:=h
 refine⟨_,znf h1,fun σ H R Γ Rk er w=>?_⟩
 unfold zfj at w
 rw[zab] at w
 refine h2 σ H R Γ _ er (zac w (fun rv Γ1 w x H1 R1 p1 hx=>?_) fun _ _ z=>z)
 rw[zab] at w
 obtain⟨d,Γ2,R2,p2,_,r2,w⟩:=zbB er p1 hx w
 split at w
 · cases r2 with
   |lst e q=>exact⟨_,rfl,⟨_,SqL.of (p2.er.sub _ _ e)⟩,w _ H1 R2 p2 (zma (fun H s=>SqL.of (s _ _ e)) q)⟩
 · cases r2 with
   |scr e=>exact⟨_,rfl,⟨_,by rw[hK];exact p2.er.sub.seq e⟩,w _ H1 R2 p2 (zma (fun H s=>by rw[hK];exact s.seq e) (Rps.ints _))⟩
 · exact False.elim w
def upI(lo:Int)(n:Nat):List D:=(List.range n).map fun (i:Nat)=>D.int (lo+i)
theorem zoP{R0:Hp}{lo:Int}{n:Nat}:ItR (Itr lo n) R0 (upI lo n):=by
 intro i H R s1 s2
 refine⟨fun d hd=>?_,fun hl=>show n<=i by simpa [upI] using hl⟩
 unfold upI at hd
 rw[List.getElem?_map] at hd
 cases q:(List.range n)[i]? with
 |none=>rw[q] at hd;cases hd
 |some j =>
   rw[q] at hd
   cases hd
   obtain⟨h1,h2⟩:=List.getElem?_eq_some_iff.mp q
   rw[List.getElem_range] at h2
   subst h2
   refine⟨show i<n by simpa using h1,fun x H' hx=>?_⟩
   obtain⟨rfl,rfl⟩:=hx
   exact⟨R,Al.refl s2,.int _⟩
def small(j:Int):Bool:=cd (-(2 ^ 62)<=j/\j<2 ^ 62)
def zgh(fs:M (List RV)):M (List D):=M.bind fs fun rvs=>match rvs with
 | [.val (.int j)]=>if small j then M.pure (upI 0 j.toNat) else M.st
 | _=>M.st
theorem zgD{e0:Expr}(hp:∀ t,PA X es t->PI X tg e0 (zos t))(ha:VA X EE ios es fs):VI X EE ios tg e0 (zgh fs):=by
 obtain⟨t,h1,h2⟩:=ha
 refine⟨_,hp t h1,fun σ H R Γ Rk er w=>?_⟩
 unfold zgh at w
 rw[zab] at w
 refine h2 σ H R Γ _ er (zac w (fun rvs Γ1 w xs H1 R1 p1 hx=>?_) fun _ _ z=>z)
 split at w
 · split at w
   · rename_i c
     have c:=zdQ c
     cases hx with
     |cons a b =>
       cases b
       cases a
       exact⟨_,rfl,c.1,c.2,w _ H1 R1 p1 zoP⟩
   · exact False.elim w
 · exact False.elim w
def zlL(ds:List D):List D:=ds.zipIdx.map fun p=>D.tup [.int p.2,p.1]
theorem zqc{R0:Hp}{l:Addr}{xs:List V}{ds:List D}(h:R0 l=some (.lst xs))(r:Rps R0 xs ds):ItR (Ite l) R0 (zlL ds):=by
 intro i H R s1 s2
 have hl:H l=some (.lst xs):=s2 _ _ (s1 _ _ h)
 refine⟨fun d hd=>?_,fun hl'=>⟨xs,hl,by rw[r.len];simpa [zlL] using hl'⟩⟩
 have hd:((ds.zipIdx)[i]?).map (fun p=>D.tup [.int p.2,p.1])=some d:=by rw[<- List.getElem?_map];exact hd
 rw[List.getElem?_zipIdx] at hd
 cases q:ds[i]? with
 |none=>rw[q] at hd;cases hd
 |some d0 =>
   rw[q] at hd
   cases hd
   obtain⟨x,hx,rx⟩:=r.ta q
   refine⟨⟨xs,x,hl,hx⟩,fun v H' hv=>?_⟩
   obtain⟨p,ys,y,rfl,hp,rfl,hy,hyi⟩:=hv
   rw[hl] at hy
   cases hy
   rw[hx] at hyi
   cases hyi
   obtain⟨al,rv⟩:=zmT (xs:=[.int i,x]) (ds:=[.int i,d0]) s2 hp (.cons (.int _) (.cons (rx.sm s1) .nil))
   refine⟨_,al,?_⟩
   have rv:Rp _ _ _:=rv
   simpa using rv
def zlG(fs:M (List RV)):M (List D):=M.bind fs fun rvs=>M.bind (zaE rvs) fun ds=>match ds with
 | [.lst ds]=>M.pure (zlL ds)
 | _=>M.st
theorem zo0{e0:Expr}(hp:∀ t,PA X es t->PI X tg e0 (zox t))(ha:VA X EE ios es fs):VI X EE ios tg e0 (zlG fs):=by
 obtain⟨t,h1,h2⟩:=ha
 refine⟨_,hp t h1,fun σ H R Γ Rk er w=>?_⟩
 unfold zlG at w
 rw[zab] at w
 refine h2 σ H R Γ _ er (zac w (fun rvs Γ1 w xs H1 R1 p1 hx=>?_) fun _ _ z=>z)
 rw[zab] at w
 obtain⟨ds,Γ2,R2,p2,_,r2,w⟩:=zaY er p1 hx w
 split at w
 · cases r2 with
   |cons a b =>
     cases b
     cases a with
     |lst e q=>exact⟨_,_,rfl,p2.er.sub _ _ e,w _ H1 R2 p2 (zqc e q)⟩
 · exact False.elim w
end
section
variable{X:Cx}{EE:XKS}{ios:List Addr}{e a b c iter tg:Expr}{es:List Expr}{f g k:M RV}{fs:M (List RV)}{p:M Bool}{s s':M Fl}{st:Stmt}{sts sts':List Stmt}{pos:Pos}
theorem zcO{α:Type}{a:α}{Γ:En}{K:α->En->Prop}{E:Xc->En->Prop}(h:K a Γ):wpM (.ok a Γ) K E:=h
theorem zcZ{α:Type}{a:α}{Γ:En}{K:α->En->Prop}{E:Xc->En->Prop}(h:wpM (.ok a Γ) K E):K a Γ:=h
theorem FlK.trans{D:Ends}{R H R1 H1:Hp}{σ σ1:St}{Γ Γ1:En}(p1:SPo ios R H σ Γ R1 H1 σ1 Γ1){fl:Fl}{Γ2:En}(w:FlK ios R H σ Γ D fl Γ2):FlK ios R1 H1 σ1 Γ1 D fl Γ2:=fun σ2 H2 R2 p2=>by
 have:=w σ2 H2 R2 (p1.trans p2)
 cases fl with
 |nx=>exact this
 |brk=>exact this
 |cont=>exact this
 |ret rv=>exact fun x hx=>this x (zc6 p1.back hx)
def zhz(m:D->M Unit)(body:M Fl)(rest:M Fl)(d:D):M Fl:=M.bind (noX (m d)) fun _=>M.bind body fun fl=>match fl with
 | .nx=>rest
 | .cont=>rest
 | .brk=>M.pure .nx
 | .ret rv=>M.pure (.ret rv)
def zcB(m:D->M Unit)(body:M Fl):List D->M Fl
 | []=>M.pure .nx
 |d::r=>zhz m body (zcB m body r) d
def forM(items:M (List D))(m:D->M Unit)(body:M Fl):M Fl:=M.bind items fun ds=>zcB m body ds
theorem zp1{wi:TI}{gt:TG}{tb:TS}{items:M (List D)}{m:D->M Unit}{n:Nat}(hi:RdI EE ios wi items)(hg:RdG ios n gt m)(hb:RdS EE ios tb s):RdS EE ios (zpP wi gt tb) (forM items m s):=by
 intro σ H R Γ D er w
 unfold forM at w
 rw[zab] at w
 refine hi σ H R Γ _ er (zac w (fun ds Γ1 w J H1 R1 p1 hJ=>?_) fun _ _ z=>z.exp)
 refine⟨fun i m' σ2 H2=>m'=ds.length - i/\i<=ds.length/\∃ R2 Γ2,SPo ios R H σ Γ R2 H2 σ2 Γ2/\Same R1 R2/\wpM (zcB m s (ds.drop i) Γ2) (FlK ios R H σ Γ D) (EXS EE ios R H σ Γ),⟨ds.length,rfl,Nat.zero_le _,R1,Γ1,p1.spo,Same.refl _,w⟩,?_⟩
 rintro i m' σ2 H2 ⟨rfl,hi',R2,Γ2,p2,s2,w⟩
 obtain⟨go,stop⟩:=hJ i H2 R2 s2 p2.er.sub
 by_cases hlt:i<ds.length
 · have hd:ds[i]? = some ds[i]:=List.getElem?_eq_getElem hlt
   obtain⟨g1,g2⟩:=go _ hd
   rw[List.drop_eq_getElem_cons hlt] at w
   have w:wpM (zhz m s (zcB m s (ds.drop (i+1))) ds[i] Γ2) (FlK ios R H σ Γ D) (EXS EE ios R H σ Γ):=w
   unfold zhz at w
   rw[zab] at w
   refine .inr ⟨g1,fun σ3 H3=>∃ R3 Γ3,SPo ios R H σ Γ R3 H3 σ3 Γ3/\Same R1 R3/\wpM (zcB m s (ds.drop (i+1)) Γ3) (FlK ios R H σ Γ D) (EXS EE ios R H σ Γ),?_,fun x H3 hx=>?_⟩
   · rintro σ3 H3 ⟨R3,Γ3,q1,q2,q3⟩
     exact⟨_,by omega,rfl,hlt,R3,Γ3,q1,q2,q3⟩
   · obtain⟨R3,al,rx⟩:=g2 x H3 hx
     have er3:ER ios R3 H3 σ2 Γ2:=p2.er.al al
     have p3:SPo ios R H σ Γ R3 H3 σ2 Γ2:=⟨er3,p2.go.trans al.go⟩
     refine hg σ2 H3 R3 Γ2 x _ _ er3 rx (zac (zc4 w) (fun _ Γ4 w σ4 H4 R4 p4 _ s4=>?_) fun _ _ z=>z)
     rw[zab] at w
     have p34:=p3.trans p4
     refine hb σ4 H4 R4 Γ4 _ p4.er (zac w (fun fl Γ5 w σ5 H5 R5 p5=>?_) fun _ _ z=>EXS.trans p34 z)
     have p35:=p34.trans p5
     have s5:Same R1 R5:=((s2.trans al.rr).trans s4).trans p5.go.rr
     cases fl with
     |nx=>exact⟨R5,Γ5,p35,s5,w⟩
     |cont=>exact⟨R5,Γ5,p35,s5,w⟩
     |brk=>exact w σ5 H5 R5 p35
     |ret rv=>exact fun y hy=>w σ5 H5 R5 p35 y (zc6 p34.back hy)
 · have e:ds.drop i=[]:=List.drop_eq_nil_of_le (by omega)
   rw[e] at w
   exact .inl ⟨stop (by omega),w σ2 H2 R2 p2⟩
theorem zgG{gt:TG}{items:M (List D)}{m:D->M Unit}{n:Nat}(hi:VI X EE ios tg iter items)(hr:RdG ios n gt m)(hb:VSs X EE ios sts s)
 (hps:∀ wi tb,PI X tg iter wi->PSs X sts tb->PS X (.For tg iter sts [] pos) (zpP wi gt tb)):VS X EE ios (.For tg iter sts [] pos) (forM items m s) :=
 let ⟨_,h1,h2⟩:=hi;let ⟨_,h3,h4⟩:=hb; ⟨_,hps _ _ h1 h3,zp1 h2 hr h4⟩
def zaX(fr:List Nat)(own:Nat)(Γ:En):En:=List.replicate own none++fr.map fun j=>(Γ[j]?).join
def unblk:List Nat->Nat->En->En->En
 | [],_,Γ,_=>Γ
 |j::r,k,Γ,Γb=>unblk r (k+1) (Γ.set j (Γb[k]?).join) Γb
theorem zh5{α:Type}{fr:List Nat}{own:Nat}{L:List (Option α)}{i:Nat}(h:i<own):(List.replicate own (none:Option α)++fr.map fun j=>(L[j]?).join)[i]? = some none:=by
 rw[List.getElem?_append_left (by rw[List.length_replicate];exact h),List.getElem?_replicate,if_pos h]
theorem zgW{α:Type}{fr:List Nat}{own:Nat}{L:List (Option α)}{i:Nat}(h:own<=i):(List.replicate own (none:Option α)++fr.map fun j=>(L[j]?).join)[i]? = (fr[i - own]?).map fun j=>(L[j]?).join:=by
 rw[List.getElem?_append_right (by rw[List.length_replicate];exact h),List.length_replicate,List.getElem?_map]
theorem zdg{α:Type}{o:Option (Option α)}{a:α}(h:o.join=some a):o=some (some a):=by
 cases o with
 |none=>cases h
 |some o=>cases o with
   |none=>cases h
   |some b=>cases h;rfl
theorem zb9{fr:List Nat}{own i:Nat}{Γ:En}{s:Kd×D}(h:(zaX fr own Γ)[i]? = some (some s)):own<=i/\∃ j,fr[i - own]? = some j/\Γ[j]? = some (some s):=by
 unfold zaX at h
 by_cases hi:i<own
 · rw[zh5 hi] at h;cases h
 · rw[zgW (by omega)] at h
   cases q:fr[i - own]? with
   |none=>rw[q] at h;cases h
   |some j =>
     rw[q] at h
     exact⟨by omega,j,rfl,zdg (Option.some.inj h)⟩
theorem znn{fr:List Nat}{own i j:Nat}{σ:St}{v:V}(hi:own<=i)(hj:fr[i - own]? = some j)(hv:σ[j]? = some (some v)):(compσ fr own σ)[i]? = some (some v):=by
 unfold compσ
 rw[zgW hi,hj]
 show some ((σ[j]?).join)=_
 rw[hv];rfl
theorem zcI{fr:List Nat}{own i j:Nat}{σ:St}{v:V}(hi:own<=i)(hj:fr[i - own]? = some j)(h:(compσ fr own σ)[i]? = some (some v)):σ[j]? = some (some v):=by
 unfold compσ at h
 rw[zgW hi,hj] at h
 exact zdg (Option.some.inj h)
theorem zkH{fr:List Nat}(hn:fr.Nodup){i j x:Nat}(h1:fr[i]? = some x)(h2:fr[j]? = some x):i=j:=by
 obtain⟨l1,e1⟩:=List.getElem?_eq_some_iff.mp h1
 obtain⟨l2,e2⟩:=List.getElem?_eq_some_iff.mp h2
 exact(List.getElem_inj hn).mp (e1.trans e2.symm)
theorem ER.blk{R H:Hp}{σ:St}{Γ:En}{fr:List Nat}{own:Nat}(er:ER ios R H σ Γ)(hn:fr.Nodup):ER ios R H (compσ fr own σ) (zaX fr own Γ) where
 sub:=er.sub
 len:=by unfold compσ zaX;simp
 sl:=fun i s h=>by
  obtain⟨hi,j,hj,hs⟩:=zb9 h
  obtain⟨v,hv,q⟩:=er.sl j s hs
  exact⟨v,znn hi hj hv,q⟩
 dj:=fun i j k l d e b q1 q2 q3 q4 q5 q6=>by
  obtain⟨hi,i',hi',s1⟩:=zb9 q1
  obtain⟨hj,j',hj',s2⟩:=zb9 q3
  have:=er.dj i' j' k l d e b s1 q2 s2 q4 (zcI hi hi' q5) (zcI hj hj' q6)
  subst this
  have:=zkH hn hi' hj'
  omega
theorem Ow.blk{σ:St}{Γ:En}{fr:List Nat}{own:Nat}{b:Addr}(h:Ow (compσ fr own σ) (zaX fr own Γ) b):Ow σ Γ b:=by
 obtain⟨i,k,d,h1,h2,h3⟩:=h
 obtain⟨hi,j,hj,hs⟩:=zb9 h1
 exact⟨j,k,d,hs,h2,zcI hi hj h3⟩
theorem zed:∀ {fr:List Nat} {k:Nat} {Γ Γb:En},(unblk fr k Γ Γb).length=Γ.length
 | [],_,_,_=>rfl
 |j::r,k,Γ,Γb=>by unfold unblk;rw[zed,List.length_set]
theorem zdY:∀ {fr:List Nat} {k j:Nat} {Γ Γb:En},j ∉ fr->(unblk fr k Γ Γb)[j]? = Γ[j]?
 | [],_,_,_,_,_=>rfl
 |i::r,k,j,Γ,Γb,h=>by
   unfold unblk
   rw[zdY (fun z=>h (List.mem_cons_of_mem _ z)),List.getElem?_set_ne (fun z=>h (by rw[z];exact List.mem_cons_self ..))]
theorem zhx:∀ {fr:List Nat} {k i j:Nat} {Γ Γb:En},fr.Nodup->fr[i]? = some j->j<Γ.length->(unblk fr k Γ Γb)[j]? = some (Γb[k+i]?).join
 | [],_,_,_,_,_,_,h,_=>by simp at h
 |x::r,k,0,j,Γ,Γb,hn,h,hl=>by
   simp at h
   subst h
   unfold unblk
   rw[zdY (List.nodup_cons.mp hn).1,List.getElem?_set_self hl]
   rfl
 |x::r,k,i+1,j,Γ,Γb,hn,h,hl=>by
   unfold unblk
   rw[zhx (List.nodup_cons.mp hn).2 (by simpa using h) (by rw[List.length_set];exact hl)]
   rw[show k+1+i=k+(i+1) by omega]
theorem EPo.unblk{R H R1 H1:Hp}{σ σb:St}{Γ Γb:En}{fr:List Nat}{own:Nat}(er:ER ios R H σ Γ)(hn:fr.Nodup)(p:SPo ios R H (compσ fr own σ) (zaX fr own Γ) R1 H1 σb Γb)(keep:∀ k,own<=k->σb[k]? = (compσ fr own σ)[k]?)
 (sh:∀ b,Ow σb Γb b->Ow (compσ fr own σ) (zaX fr own Γ) b):EPo ios R H σ Γ R1 H1 (Dv.unblk fr own Γ Γb):=by
 have slot:∀ (j:Nat) (s:Kd×D),(Dv.unblk fr own Γ Γb)[j]? = some (some s)->(j ∉ fr/\Γ[j]? = some (some s))\/∃ i,fr[i]? = some j/\Γb[own+i]? = some (some s)/\σb[own+i]? = some ((σ[j]?).join):=by
  intro j s h
  by_cases hj:j∈fr
  · obtain⟨i,hi,e⟩:=List.getElem_of_mem hj
    have hi':fr[i]? = some j:=by rw[List.getElem?_eq_getElem hi,e]
    have hl:j<Γ.length:=by have:=(List.getElem?_eq_some_iff.mp h).1;rwa[zed] at this
    rw[zhx hn hi' hl] at h
    refine .inr ⟨i,hi',zdg (Option.some.inj h),?_⟩
    rw[keep _ (by omega)]
    unfold compσ
    rw[zgW (by omega),show own+i - own=i by omega,hi']
    rfl
  · rw[zdY hj] at h
    exact .inl ⟨hj,h⟩
 have inside:∀ (i j:Nat) (k:Kd) (d:D) (b:Addr),fr[i]? = some j->Γb[own+i]? = some (some (k,d))->owned k=true->σb[own+i]? = some ((σ[j]?).join)->σ[j]? = some (some (.ref b))->∃ j0 k0 d0,j0∈fr/\Γ[j0]? = some (some (k0,d0))/\owned k0=true/\σ[j0]? = some (some (.ref b)):=by
  intro i j k d b hi q h2 e h3
  have e:σb[own+i]? = some (some (.ref b)):=by rw[e,h3];rfl
  obtain⟨i0,k0,d0,g1,g2,g3⟩:=sh b ⟨own+i,k,d,q,h2,e⟩
  obtain⟨hi0,j0,hj0,hs0⟩:=zb9 g1
  exact⟨j0,k0,d0,List.mem_of_getElem? hj0,hs0,g2,zcI hi0 hj0 g3⟩
 have sh':∀ b,Ow σ (Dv.unblk fr own Γ Γb) b->Ow σ Γ b:=by
  rintro b ⟨j,k,d,h1,h2,h3⟩
  rcases slot j _ h1 with ⟨_,q⟩ | ⟨i,hi,q,e⟩
  · exact⟨j,k,d,q,h2,h3⟩
  · obtain⟨j0,k0,d0,_,g1,g2,g3⟩:=inside i j k d b hi q h2 e h3
    exact⟨j0,k0,d0,g1,g2,g3⟩
 have out:∀ (j:Nat) (k:Kd) (d:D) (b:Addr),j ∉ fr->Γ[j]? = some (some (k,d))->owned k=true->σ[j]? = some (some (.ref b)) -> ¬ Ow (compσ fr own σ) (zaX fr own Γ) b:=by
  rintro j k d b hj h1 h2 h3 ⟨i0,k0,d0,g1,g2,g3⟩
  obtain⟨hi0,j0,hj0,hs0⟩:=zb9 g1
  have:=er.dj j j0 k k0 d d0 b h1 h2 hs0 g2 h3 (zcI hi0 hj0 g3)
  subst this
  exact hj (List.mem_of_getElem? hj0)
 refine⟨⟨p.er.sub,by rw[zed];exact er.len,fun j t hj=>?_,fun j j' l l' d d' b q1 q2 q3 q4 q5 q6=>?_⟩,⟨p.go.rr,fun b o h n=>p.go.hh b o h fun z=>n z.blk,fun b o h n r=>p.go.no b o h (fun z=>n z.blk) r,fun b z=>.inl (sh' b z),p.go.th⟩,sh'⟩
 · rcases slot j t hj with ⟨hf,q⟩ | ⟨i,hi,q,e⟩
   · obtain⟨v,hv,q'⟩:=er.sl j t q
     refine⟨v,hv,q'.mono p.go.rr fun ho b ys eb hb rb=>?_⟩
     subst eb
     have:=out j t.1 t.2 b hf q ho hv
     exact⟨p.go.hh b _ hb this,p.go.no b _ hb this rb⟩
   · obtain⟨v,hv,q'⟩:=p.er.sl _ t q
     rw[e] at hv
     exact⟨v,zdg (Option.some.inj hv),q'⟩
 · rcases slot j _ q1 with ⟨hf,g1⟩ | ⟨i,hi,g1,e1⟩
   · rcases slot j' _ q3 with ⟨hf',g3⟩ | ⟨i',hi',g3,e3⟩
     · exact er.dj j j' l l' d d' b g1 q2 g3 q4 q5 q6
     · obtain⟨j0,k0,d0,m0,z1,z2,z3⟩:=inside i' j' l' d' b hi' g3 q4 e3 q6
       have:=er.dj j j0 l k0 d d0 b g1 q2 z1 z2 q5 z3
       subst this
       exact absurd m0 hf
   · rcases slot j' _ q3 with ⟨hf',g3⟩ | ⟨i',hi',g3,e3⟩
     · obtain⟨j0,k0,d0,m0,z1,z2,z3⟩:=inside i j l d b hi g1 q2 e1 q5
       have:=er.dj j' j0 l' k0 d' d0 b g3 q4 z1 z2 q6 z3
       subst this
       exact absurd m0 hf'
     · have:=p.er.dj (own+i) (own+i') l l' d d' b g1 q2 g3 q4 (by rw[e1,q5];rfl) (by rw[e3,q6];rfl)
       have:i=i':=by omega
       subst this
       rw[hi] at hi'
       exact Option.some.inj hi'
def zfv(n:Nat)(m:D->M Unit):Prop:=∀ d Γ Γ',m d Γ = .ok () Γ'->(∀ k,n<=k->Γ'[k]? = Γ[k]?)/\∀ i s,i<n->Γ'[i]? = some (some s)->Γ[i]? = some (some s)\/s.1 = .frz
def zgX(n:Nat)(m:List D->M Unit):Prop:=∀ d Γ Γ',m d Γ = .ok () Γ'->(∀ k,n<=k->Γ'[k]? = Γ[k]?)/\∀ i s,i<n->Γ'[i]? = some (some s)->Γ[i]? = some (some s)\/s.1 = .frz
theorem zbL{i n:Nat}(h:i<n):zfv n (gN i):=fun d Γ Γ' e=>by
 cases e
 refine⟨fun k hk=>List.getElem?_set_ne (by omega),fun j s hj q=>?_⟩
 by_cases hji:j=i
 · subst hji
   have l1:j<Γ.length:=by have:=(List.getElem?_eq_some_iff.mp q).1;rwa[List.length_set] at this
   rw[List.getElem?_set_self l1] at q
   cases q
   exact .inr rfl
 · rw[List.getElem?_set_ne (Ne.symm hji)] at q
   exact .inl q
theorem zgw{n:Nat}:zgX n gs0:=fun d Γ Γ' e=>by
 cases d with
 |nil=>cases e;exact⟨fun _ _=>rfl,fun _ _ _ q=>.inl q⟩
 |cons _ _=>cases e
theorem zco{n:Nat}{m:D->M Unit}{ms:List D->M Unit}(h:zfv n m)(h':zgX n ms):zgX n (gsC m ms):=fun d Γ Γ' e=>by
 cases d with
 |nil=>cases e
 |cons d r =>
   have e:M.bind (m d) (fun _=>ms r) Γ = .ok () Γ':=e
   unfold M.bind at e
   cases q:m d Γ with
   |ok a Γ1 =>
     rw[q] at e
     obtain⟨a1,a2⟩:=h d Γ Γ1 q
     obtain⟨b1,b2⟩:=h' r Γ1 Γ' e
     exact⟨fun k hk=>(b1 k hk).trans (a1 k hk),fun i s hi z=>(b2 i s hi z).elim (fun z=>a2 i s hi z) .inr⟩
   |ex x Γ1=>rw[q] at e;cases e
   |st=>rw[q] at e;cases e
theorem zgn{n k:Nat}{ms:List D->M Unit}(h:zgX n ms):zfv n (gT k ms):=fun d Γ Γ' e=>by
 unfold gT at e
 split at e
 · split at e
   · exact h _ _ _ e
   · cases e
 · cases e
def zfu(m:D->M Unit)(p:M Bool)(f:M RV)(d:D):M (Option D):=M.bind (noX (m d)) fun _=>M.bind p fun b=>if b then M.bind f fun rv=>M.bind (mat rv) fun y=>M.pure (some y) else M.pure none
def lcM(fr:List Nat)(own:Nat)(m:D->M Unit)(p:M Bool)(f:M RV):List D->M (List D)
 | []=>M.pure []
 |d::r=>fun Γ=>match zfu m p f d (zaX fr own Γ) with
   | .ok y Γb=>match lcM fr own m p f r (unblk fr own Γ Γb) with
     | .ok ys Γ'=>.ok (y.toList++ys) Γ'
     | _=>.st
   | _=>.st
def zc2(items:M (List D))(fr:List Nat)(own:Nat)(m:D->M Unit)(p:M Bool)(f:M RV):M RV:=M.bind items fun ds=>if ds.length<sizeLine then M.bind (lcM fr own m p f ds) fun ys=>M.pure (.new (.lst ys)) else M.st
abbrev EN:XKS:=fun _ _ _ _=>False
theorem zrq{wi:TI}{gt:TG}{tc:TT}{te:TE}{items:M (List D)}{m:D->M Unit}{fr:List Nat}{own:Nat}(hn:fr.Nodup)(hi:RdI EE ios wi items)(hg:RdG ios own gt m)(hk:zfv own m)(hc:RdT EN ios tc p)(he:RdE EN ios te f):RdE EE ios (tLC fr own wi gt tc te) (zc2 items fr own m p f):=by
 intro σ H R Γ Q er w
 unfold zc2 at w
 rw[zab] at w
 refine hi σ H R Γ _ er (zac w (fun ds Γ1 w J H1 R1 p1 hJ=>?_) fun _ _ z=>z)
 split at w
 · rename_i hsz
   rw[zab] at w
   intro A hA
   have hRA:R1 A=none:=p1.er.sub.free hA
   have alA:Al R1 H1 R1 (upd H1 A (.lst [])):=⟨p1.er.sub.trans (zaI hA),Same.refl _,zaI hA,fun _ _ _ z=>z⟩
   refine⟨fun i n ys H2=>n=ds.length - i/\i<=ds.length/\∃ R2 Γ2 ys2 L,EPo ios R H σ Γ R2 H2 Γ2/\Same R1 R2/\R2 A=none/\Rps R2 ys ys2/\ys.length<=i/\lcM fr own m p f (ds.drop i) Γ2=L/\wpM L (fun zs Γ'=>∀ x H' R',EPo ios R H σ Γ R' H' Γ'->RvR R' H H' σ x (.new (.lst (ys2++zs)))->Q x H') (EXP EE ios R H σ Γ),⟨ds.length,rfl,Nat.zero_le _,R1,Γ1,[],_,p1.al alA,Same.refl _,hRA,.nil,by simp,rfl,w⟩,?_⟩
   rintro i n ys H2 hA2 ⟨rfl,hi',R2,Γ2,ys2,L,p2,s2,hRA2,hys,hyl,rfl,w⟩
   obtain⟨go,stop⟩:=hJ i H2 R2 s2 p2.er.sub
   have nOA : ¬ Ow σ Γ A:=fun z=>by
    obtain⟨_,xs,q⟩:=er.ow z
    rw[p1.back er A hA] at q;cases q
   by_cases hlt:i<ds.length
   · have hd:ds[i]? = some ds[i]:=List.getElem?_eq_getElem hlt
     obtain⟨g1,g2⟩:=go _ hd
     rw[List.drop_eq_getElem_cons hlt] at w
     refine .inr ⟨g1,by omega,fun x H3 hx=>?_⟩
     obtain⟨R3,al,rx⟩:=g2 x H3 hx
     unfold lcM at w
     have p3:EPo ios R H σ Γ R3 H3 Γ2:=p2.al al
     have hA3:H3 A=some (.lst ys):=al.hh _ _ hA2
     have hRA3:R3 A=none:=al.no _ _ hA2 hRA2
     have erb:ER ios R3 H3 (compσ fr own σ) (zaX fr own Γ2):=p3.er.blk hn
     have nOAb : ¬ Ow (compσ fr own σ) (zaX fr own Γ2) A:=fun z=>nOA (p3.sh A z.blk)
     have run:wpM (zfu m p f ds[i] (zaX fr own Γ2)) (fun y Γb=>wpM (lcM fr own m p f (ds.drop (i+1)) (Dv.unblk fr own Γ2 Γb)) (fun zs Γ'=>∀ x H' R',EPo ios R H σ Γ R' H' Γ'->RvR R' H H' σ x (.new (.lst (ys2++(y.toList++zs))))->Q x H') (fun _ _=>False)) NoX:=by
      cases q:zfu m p f ds[i] (zaX fr own Γ2) with
      |ok y Γb =>
        rw[q] at w
        dsimp only at w
        show wpM (lcM fr own m p f (ds.drop (i+1)) (Dv.unblk fr own Γ2 Γb)) _ _
        cases q':lcM fr own m p f (ds.drop (i+1)) (Dv.unblk fr own Γ2 Γb) with
        |ok zs Γ'=>rw[q'] at w;exact w
        |ex _ _=>rw[q'] at w;exact False.elim w
        |st=>rw[q'] at w;exact False.elim w
      |ex _ _=>rw[q] at w;exact False.elim w
      |st=>rw[q] at w;exact False.elim w
     unfold zfu at run
     rw[zab] at run
     cases hm:m ds[i] (zaX fr own Γ2) with
     |ex _ _=>have:=zc4 run;rw[hm] at this;exact this.elim
     |st=>have:=zc4 run;rw[hm] at this;exact this.elim
     |ok u Γ4 =>
       obtain⟨k1,k2⟩:=hk _ _ _ hm
       have wm:=zc4 run
       rw[hm] at wm
       refine hg (compσ fr own σ) H3 R3 (zaX fr own Γ2) x _ _ erb rx ?_
       rw[hm]
       refine zcO fun σ4 H4 R4 p4 keep s4=>?_
       have w:=zcZ wm
       rw[zab] at w
       have base4:∀ b,Ow σ4 Γ4 b->Ow (compσ fr own σ) (zaX fr own Γ2) b:=by
        rintro b ⟨j,k,d,h1,h2,h3⟩
        by_cases hj:own<=j
        · rw[k1 j hj] at h1
          rw[keep j hj] at h3
          exact⟨j,k,d,h1,h2,h3⟩
        · rcases k2 j (k,d) (by omega) h1 with z | z
          · unfold zaX at z;rw[zh5 (by omega)] at z;cases z
          · cases z;cases h2
       refine hc σ4 H4 R4 Γ4 _ p4.er (zac w (fun b Γ6 w H6 R6 p6=>?_) fun _ _ z=>z.elim)
       have p46:SPo ios R3 H3 (compσ fr own σ) (zaX fr own Γ2) R6 H6 σ4 Γ6:=p4.trans p6.spo
       have sh6:∀ b,Ow σ4 Γ6 b->Ow (compσ fr own σ) (zaX fr own Γ2) b:=fun b z=>base4 b (p6.sh b z)
       have hA6:H6 A=some (.lst ys):=p46.go.hh _ _ hA3 nOAb
       have hRA6:R6 A=none:=p46.go.no _ _ hA3 nOAb hRA3
       cases b with
       |false =>
         simp only[Bool.false_eq_true,if_false] at w ⊢
         have pu:EPo ios R3 H3 σ Γ2 R6 H6 (Dv.unblk fr own Γ2 Γ6):=EPo.unblk p3.er hn p46 keep sh6
         refine⟨hA6,_,Nat.sub_lt_sub_left hlt (Nat.lt_succ_self i),rfl,hlt,R6,_,ys2,_,p3.trans pu,(s2.trans al.rr).trans p46.go.rr,hRA6,hys.sm (al.rr.trans p46.go.rr),by omega,rfl,?_⟩
         exact zac w (fun zs Γ' w x H' R' p q=>w x H' R' p q) fun _ _ z=>z.elim
       |true =>
         simp only[if_true] at w ⊢
         rw[zab] at w
         refine he σ4 H6 R6 Γ6 _ p6.er (zac w (fun rv Γ7 w y H7 R7 p7 hy=>?_) fun _ _ z=>z.elim)
         rw[zab] at w
         obtain⟨dy,Γ8,R8,p8,s8,ry,w⟩:=zbB p6.er p7 hy w
         have p48:SPo ios R3 H3 (compσ fr own σ) (zaX fr own Γ2) R8 H7 σ4 Γ8:=p46.trans p8.spo
         have sh8:∀ b,Ow σ4 Γ8 b->Ow (compσ fr own σ) (zaX fr own Γ2) b:=fun b z=>sh6 b (p8.sh b z)
         have pu:EPo ios R3 H3 σ Γ2 R8 H7 (Dv.unblk fr own Γ2 Γ8):=EPo.unblk p3.er hn p48 keep sh8
         have hA7:H7 A=some (.lst ys):=p48.go.hh _ _ hA3 nOAb
         have hRA8:R8 A=none:=p48.go.no _ _ hA3 nOAb hRA3
         have p38:=p3.trans pu
         have nO8 : ¬ Ow σ (Dv.unblk fr own Γ2 Γ8) A:=fun z=>nOA (p38.sh A z)
         have pA:EPo ios R H σ Γ R8 (upd H7 A (.lst (ys++[y]))) (Dv.unblk fr own Γ2 Γ8):=by
          have up:∀ b,b≠A->upd H7 A (.lst (ys++[y])) b=H7 b:=fun b hb=>zaf hb
          refine⟨⟨fun b o q=>?_,p38.er.len,fun j t hj=>?_,p38.er.dj⟩,⟨p38.go.rr,fun b o q n=>?_,p38.go.no,p38.go.oo,fun b o q=>?_⟩,p38.sh⟩
          · rw[up b (fun z=>by rw[z,hRA8] at q;cases q)];exact p38.er.sub b o q
          · obtain⟨v,hv,q⟩:=p38.er.sl j t hj
            refine⟨v,hv,q.mono (Same.refl _) fun ho b zs eb hb rb=>⟨?_,rb⟩⟩
            rw[up b]
            · exact hb
            · rintro rfl;subst eb;exact nO8 ⟨j,t.1,t.2,hj,ho,hv⟩
          · rw[up b (fun z=>by rw[z,p1.back er A hA] at q;cases q)];exact p38.go.hh b o q n
          · by_cases hb:b=A
            · subst hb;exact⟨_,zal⟩
            · rw[up b hb];exact p38.go.th b o q
         refine⟨hA7,_,Nat.sub_lt_sub_left hlt (Nat.lt_succ_self i),rfl,hlt,R8,_,ys2++[dy],_,pA,((s2.trans al.rr).trans p46.go.rr).trans p8.go.rr,hRA8,(hys.sm ((al.rr.trans p46.go.rr).trans p8.go.rr)).app (.cons ry .nil),by rw[List.length_append];simp;omega,rfl,?_⟩
         refine zac w (fun zs Γ' w x H' R' p q=>w x H' R' p ?_) fun _ _ z=>z.elim
         simpa using q
   · have e:ds.drop i=[]:=List.drop_eq_nil_of_le (by omega)
     rw[e] at w
     refine .inl ⟨stop (by omega),w _ H2 R2 p2 ⟨⟨A,ys,ys2,rfl,hRA2,hA2,by simp,hys⟩,A,rfl,p1.back er A hA⟩⟩
 · exact False.elim w
end
section
variable{X:Cx}{EE:XKS}{ios:List Addr}{e a b c iter tg elt:Expr}{es ifs:List Expr}{f g k:M RV}{fs:M (List RV)}{p:M Bool}{s s':M Fl}{st:Stmt}{sts sts':List Stmt}{pos:Pos}
def zq5(EE:XKS)(ios:List Addr)(f:M RV):TE:=fun σ H Q=>∃ R Γ,ER ios R H σ Γ/\wpM (f Γ) (fun rv Γ'=>∀ x H' R',EPo ios R H σ Γ R' H' Γ'->RvR R' H H' σ x rv->Q x H') (EXP EE ios R H σ Γ)
def zre(EE:XKS)(ios:List Addr)(f:M Bool):TT:=fun σ H Q=>∃ R Γ,ER ios R H σ Γ/\wpM (f Γ) (fun b Γ'=>∀ H' R',EPo ios R H σ Γ R' H' Γ'->Q b H') (EXP EE ios R H σ Γ)
theorem VE.pe(h:VE X EE ios e f):PE X e (zq5 EE ios f):=let ⟨_,h1,h2⟩:=h;fun pins s σ H Q I ⟨R,Γ,er,w⟩=>h1 pins s σ H Q I (h2 σ H R Γ Q er w)
theorem VT.pt(h:VT X EE ios e p):PT X e (zre EE ios p):=let ⟨_,h1,h2⟩:=h;fun pins s σ H Q I ⟨R,Γ,er,w⟩=>h1 pins s σ H Q I (h2 σ H R Γ Q er w)
def VTs(X:Cx)(EE:XKS)(ios:List Addr)(ifs:List Expr)(p:M Bool):Prop:=PTs X ifs (zre EE ios p)
theorem zdL:VTs X EE ios [] (M.pure true):=fun pins s σ H Q I ⟨R,Γ,er,w⟩=>znW pins s σ H Q I (w H R (EPo.refl er))
theorem zjB(h:VT X EE ios c p):VTs X EE ios [c] p:=znQ h.pt
abbrev zj5(X:Cx)(Nc:List Str)(scope:Scope)(cl:List (Str×Addr))(C:Addr)(s3:Shared)(H3:Hp)(fp:List Addr)(pn':List (Addr×Obj)):Cx:=X.blk Nc scope cl C s3 H3 fp pn' fun _ _=>False
theorem zfR{scope:Scope}{Nc:List Str}{own:Nat}{fr:List Nat}{gt:TG}{items:M (List D)}{m:D->M Unit}(hc:X.calm=true)(B:BlkN X scope Nc own fr)(hn:fr.Nodup)(hi:VI X EE ios tg iter items)(hog:zhD own gt)
 (hg:∀ cl C s3 H3 fp pn',PG (zj5 X Nc scope cl C s3 H3 fp pn') tg gt) (hr:RdG ios own gt m) (hk:zfv own m) (ht:∀ cl C s3 H3 fp pn',VTs (zj5 X Nc scope cl C s3 H3 fp pn') EN ios ifs p) (he:∀ cl C s3 H3 fp pn',VE (zj5 X Nc scope cl C s3 H3 fp pn') EN ios elt f)
 (hs:∀ x,foldedSetIterable iter X.env x=pure x:=by intro _;rfl):VE X EE ios (.ListComp elt [⟨tg,iter,ifs,0⟩] scope pos) (zc2 items fr own m p f) :=
 let ⟨_,h1,h2⟩:=hi
 ⟨_,zq7 hc B h1 hog hg ht (fun cl C s3 H3 fp pn'=>(he cl C s3 H3 fp pn').pe) hs,zrq hn h2 hr hk (fun σ H R Γ Q er w=>⟨R,Γ,er,w⟩) (fun σ H R Γ Q er w=>⟨R,Γ,er,w⟩)⟩
inductive Rt where
 |val (d:D) | new (d:D)
def Rt.rv:Rt->RV
 | .val d=>.val d
 | .new d=>.new d
def RtK(R H:Hp)(r:Option Rt)(Q:VK):Prop:=match r with
 |some r=>∀ x H' R',Al R H R' H'->RvA R' H H' x r.rv->Q x H'
 |none=>False
def spP(G:List D->Option Rt):Sp:=fun vs H Q _=>∃ R ds,Same R H/\Rps R vs ds/\RtK R H (G ds) Q
def gam(N:List Str)(ds:List D):En:=ds.map (fun d=>some (.frz,d))++List.replicate (N.length - ds.length) none
def zbb:Res Fl->Option Rt
 | .ok .nx _=>some (.val .non)
 | .ok (.ret (.val d)) _=>some (.val d)
 | .ok (.ret (.new d)) _=>some (.new d)
 | .ok (.ret (.var i)) Γ=>match Γ[i]? with
   |some (some (.own,d))=>some (.new d)
   |some (some (.frz,d))=>some (.val d)
   | _=>none
 | _=>none
theorem zgQ{N:List Str}{ds:List D}{i:Nat}{t:Kd×D}(h:(gam N ds)[i]? = some (some t)):∃ d,ds[i]? = some d/\t=(.frz,d):=by
 unfold gam at h
 by_cases hi:i<ds.length
 · rw[List.getElem?_append_left (by rw[List.length_map];exact hi),List.getElem?_map,List.getElem?_eq_getElem hi] at h
   cases h
   exact⟨_,List.getElem?_eq_getElem hi,rfl⟩
 · rw[List.getElem?_append_right (by rw[List.length_map];omega),List.getElem?_replicate] at h
   split at h<;>cases h
theorem zeM{N:List Str}{vs:List V}{i:Nat}{v:V}(h:vs[i]? = some v):(L2.start N vs)[i]? = some (some v):=by
 unfold L2.start
 have hi:=(List.getElem?_eq_some_iff.mp h).1
 rw[List.getElem?_append_left (by rw[List.length_map];exact hi),List.getElem?_map,h]
 rfl
theorem zdS{N:List Str}{R H:Hp}{vs:List V}{ds:List D}(s:Same R H)(h:Rps R vs ds):ER [] R H (L2.start N vs) (gam N ds) where
 sub:=s
 len:=by unfold L2.start gam;simp[h.len]
 sl:=fun i t q=>by
  obtain⟨d,hd,rfl⟩:=zgQ q
  obtain⟨x,hx,rx⟩:=h.ta hd
  exact⟨x,zeM hx,rx⟩
 dj:=fun i j k l d e b q1 q2 _ _ _ _=>by
  obtain⟨_,_,z⟩:=zgQ q1
  cases z;cases q2
theorem zhG{N:List Str}{σ:St}{ds:List D}{b:Addr} : ¬ Ow σ (gam N ds) b:=by
 rintro⟨i,k,d,q1,q2,_⟩
 obtain⟨_,_,z⟩:=zgQ q1
 cases z;cases q2
theorem SPo.al{N:List Str}{R H R' H':Hp}{σ σ':St}{ds:List D}{Γ':En}(p:SPo ios R H σ (gam N ds) R' H' σ' Γ'):Al R H R' H':=⟨p.er.sub,p.go.rr,fun b o h=>p.go.hh b o h zhG,fun b o h r=>p.go.no b o h zhG r⟩
theorem zgk{P:Program}{w:World}{K:W.Frag}{mg:Str->Option Value}{base:Heap}{x qual:Str}{fa:Addr}{fd:FuncData}{N ps:List Str}{k:Nat}{G:List D->Option Rt}{bm:M Fl}(F:Fun K x qual st fa fd)(S:FnScope N ps (defScope st))
 (hb:∀ (cdv:Value) (A:Around) (outer:List Env) (s:Shared) (H:Hp) (E:XK),Room k (A.deeper (PyProof.Rows.envOfC qual (defScope st) s.heap.objs.size fa cdv))->VSs (zcG CX0 P w K mg base N qual (defScope st) fa cdv A outer s H E).nox EN [] (defBody st) bm)
 (h:∀ ds r,G ds=some r->ds.length=ps.length/\zbb (bm (gam N ds))=some r):FnOk P w K mg base CX0 (k+1) fa fd ps (spP G):=by
 refine F.ok S (fun vs H Q E q=>?_) (fun cdv A outer s H vs Q E hr q=>?_)
 · obtain⟨R,ds,_,h2,h3⟩:=q
   cases e:G ds with
   |none=>rw[e] at h3;exact h3.elim
   |some r=>rw[h2.len];exact(h ds r e).1
 · obtain⟨R,ds,h1,h2,h3⟩:=q
   cases e:G ds with
   |none=>rw[e] at h3;exact h3.elim
   |some r =>
     rw[e] at h3
     obtain⟨t,b1,b2⟩:=hb cdv A outer s H E hr
     refine⟨t,b1,b2 _ H R _ _ (zdS h1 h2) ?_⟩
     have fin:=(h ds r e).2
     cases q:bm (gam N ds) with
     |st=>rw[q] at fin;cases fin
     |ex _ _=>rw[q] at fin;cases fin
     |ok fl Γ' =>
       rw[q] at fin
       refine zcO fun σ' H' R' p=>?_
       cases fl with
       |brk=>cases fin
       |cont=>cases fin
       |nx=>cases fin;exact h3 .non H' R' p.al .non
       |ret rv =>
         intro y hy
         cases rv with
         |val d=>cases fin;exact h3 y H' R' p.al hy
         |new d=>cases fin;exact h3 y H' R' p.al hy
         |var i =>
           have fin:(match Γ'[i]? with
            |some (some (.own,d))=>some (Rt.new d)
            |some (some (.frz,d))=>some (.val d)
            | _=>none)=some r:=fin
           split at fin
           · rename_i d hs
             cases fin
             obtain⟨v,hv,sl⟩:=p.er.sl i _ hs
             have hy:σ'[i]? = some (some y):=hy
             rw[hy] at hv
             cases hv
             obtain⟨a,xs,ds',rfl,r1,r2,r3,r4⟩:=sl
             refine h3 _ H' R' p.al ⟨⟨a,xs,ds',rfl,r1,r2,r3,r4⟩,a,rfl,?_⟩
             exact(p.go.oo a ⟨i,.own,d,hs,rfl,hy⟩).elim (fun z=>absurd z zhG) id
           · rename_i d hs
             cases fin
             obtain⟨v,hv,sl⟩:=p.er.sl i _ hs
             have hy:σ'[i]? = some (some y):=hy
             rw[hy] at hv
             cases hv
             exact h3 _ H' R' p.al sl
           · cases fin
mutual
def zet:D->Bool
 | .non=>true
 | .bl _=>true
 | .int _=>true
 | .str _=>true
 | .tup xs=>zby xs
 | _=>false
def zby:List D->Bool
 | []=>true
 |d::r=>zet d && zby r
end
def zcQ:Rt->Bool
 | .val d=>zet d
 | .new (.lst ds)=>zby ds
 | .new _=>false
def zcE:RV->Bool
 | .var _=>true
 | _=>false
mutual
theorem Rp.less{R R':Hp}(h:∀ b xs,R b=some (.tup xs)->R' b=some (.tup xs)):∀ {x:V} {d:D},Rp R x d->zet d=true->Rp R' x d
 | _,_,.non,_=>.non
 | _,_,.bl b,_=>.bl b
 | _,_,.int i,_=>.int i
 | _,_,.str x,_=>.str x
 | _,_,.lst _ _,z=>by simp[zet] at z
 | _,_,.tup e q,z=>.tup (h _ _ e) (Rps.less h q (by simpa [zet] using z))
 | _,_,.dnil _,z=>by simp[zet] at z
 | _,_,.scr _,z=>by simp[zet] at z
 | _,_,.exc0 _,z=>by simp[zet] at z
 | _,_,.exc _ _ _,z=>by simp[zet] at z
 | _,_,.obj _ _,z=>by simp[zet] at z
theorem Rps.less{R R':Hp}(h:∀ b xs,R b=some (.tup xs)->R' b=some (.tup xs)):∀ {xs:List V} {ds:List D},Rps R xs ds->zby ds=true->Rps R' xs ds
 | _,_,.nil,_=>.nil
 | _,_,.cons a b,z=>by
   have z:=Bool.and_eq_true_iff.mp (show(zet _ && zby _)=true from by simpa only [zby] using z)
   exact .cons (Rp.less h a z.1) (Rps.less h b z.2)
end
def zaO(G:List D->Option Rt)(fs:M (List RV)):M RV:=M.bind fs fun rvs=>M.bind (zaz rvs) fun ds=>match G ds with
 |some r=>if rvs.any zcE && !zcQ r then M.bind (zaE rvs) fun ds'=>M.ofO ((G ds').map Rt.rv) else M.pure r.rv
 |none=>M.st
open Classical in
def lent(O:Addr->Prop)(R H:Hp):Hp:=fun b=>if O b then H b else R b
theorem zfn{O:Addr->Prop}{R H:Hp}(s:Same R H):Same (lent O R H) H:=fun b o e=>by
 unfold lent at e
 split at e
 · exact e
 · exact s b o e
theorem zj4{O:Addr->Prop}{R H:Hp}(h:∀ b,O b->R b=none):Same R (lent O R H):=fun b o e=>by
 unfold lent
 split
 · rename_i z;rw[h b z] at e;cases e
 · exact e
theorem Pks.lent{R H:Hp}{σ:St}{Γ:En}(er:ER ios R H σ Γ):∀ {xs:List V} {rvs:List RV} {ds:List D},ArsR R σ xs rvs->Pks R H xs ds->zaz rvs Γ = .ok ds Γ->Rps (lent (Ow σ Γ) R H) xs ds:=by
 have ss:Same R (Dv.lent (Ow σ Γ) R H):=zj4 fun b z=>(er.ow z).1
 intro xs rvs
 induction rvs generalizing xs with
 |nil=>intro ds h1 h2 _;cases h1;cases h2;exact .nil
 |cons rv r ih =>
   intro ds h1 h2 h3
   cases h1 with
   |cons a b =>
     cases h2 with
     |cons c d =>
       unfold zaz M.bind at h3
       cases q:peek rv Γ with
       |ex _ _=>rw[q] at h3;cases h3
       |st=>rw[q] at h3;cases h3
       |ok d0 Γ0 =>
         have e0:Γ0=Γ:=by
          cases rv with
          |val _=>cases q;rfl
          |new _=>cases q;rfl
          |var i=>unfold peek at q;dsimp only at q;split at q<;>cases q;rfl
         subst e0
         rw[q] at h3
         dsimp only at h3
         cases q2:zaz r Γ0 with
         |ex _ _=>rw[q2] at h3;cases h3
         |st=>rw[q2] at h3;cases h3
         |ok ds0 Γ1 =>
           rw[q2] at h3
           cases h3
           refine .cons ?_ (ih b d q2)
           cases rv with
           |val d'=>cases q;exact Rp.sm ss a
           |new d'=>exact a.elim
           |var i =>
             unfold peek at q
             dsimp only at q
             split at q
             · rename_i kd d' hs
               cases q
               obtain⟨v,hv,sl⟩:=er.sl i _ hs
               have a:σ[i]? = some (some _):=a
               rw[a] at hv
               cases hv
               cases kd with
               |frz=>exact Rp.sm ss sl
               |own =>
                 obtain⟨ad,ys,es,rfl,r1,r2,rfl,r4⟩:=sl
                 refine .lst ?_ (r4.sm ss)
                 unfold Dv.lent
                 rw[if_pos ⟨i,.own,_,hs,rfl,a⟩]
                 exact r2
               |io n =>
                 obtain⟨⟨ad,ys,es,rfl,r1,r2,rfl,r4⟩,_⟩:=sl
                 refine .lst ?_ (r4.sm ss)
                 unfold Dv.lent
                 rw[if_pos ⟨i,.io n,_,hs,rfl,a⟩]
                 exact r2
             · cases q
theorem zdK{Γ Γ':En}:∀ {rvs:List RV} {ds:List D},zaz rvs Γ = .ok ds Γ'->Γ'=Γ:=by
 intro rvs
 induction rvs with
 |nil=>intro ds h;cases h;rfl
 |cons rv r ih =>
   intro ds h
   unfold zaz M.bind at h
   cases q:peek rv Γ with
   |ex _ _=>rw[q] at h;cases h
   |st=>rw[q] at h;cases h
   |ok d0 Γ0 =>
     have e0:Γ0=Γ:=by
      cases rv with
      |val _=>cases q;rfl
      |new _=>cases q;rfl
      |var i=>unfold peek at q;dsimp only at q;split at q<;>cases q;rfl
     subst e0
     rw[q] at h
     dsimp only at h
     cases q2:zaz r Γ0 with
     |ex _ _=>rw[q2] at h;cases h
     |st=>rw[q2] at h;cases h
     |ok ds0 Γ1=>rw[q2] at h;cases h;exact ih q2
theorem zfW{R:Hp}{σ:St}{Γ:En}:∀ {xs:List V} {rvs:List RV} {ds:List D},ArsR R σ xs rvs->rvs.any zcE=false->zaz rvs Γ = .ok ds Γ->Rps R xs ds:=by
 intro xs rvs
 induction rvs generalizing xs with
 |nil=>intro ds h1 _ h3;cases h1;cases h3;exact .nil
 |cons rv r ih =>
   intro ds h1 h2 h3
   rw[List.any_cons,Bool.or_eq_false_iff] at h2
   cases h1 with
   |cons a b =>
     cases rv with
     |var i=>cases h2.1
     |new d=>exact a.elim
     |val d =>
       have h3:M.bind (zaz r) (fun ds=>M.pure (d::ds)) Γ = .ok ds Γ:=h3
       unfold M.bind at h3
       cases q2:zaz r Γ with
       |ex _ _=>rw[q2] at h3;cases h3
       |st=>rw[q2] at h3;cases h3
       |ok ds0 Γ1 =>
         have:=zdK q2
         subst this
         rw[q2] at h3
         cases h3
         exact .cons a (ih b h2.2 q2)
theorem zkd{Γ Γ':En}{x:Xc}:∀ {rvs:List RV},zaz rvs Γ ≠ .ex x Γ':=by
 intro rvs
 induction rvs with
 |nil=>intro h;cases h
 |cons rv r ih =>
   intro h
   unfold zaz M.bind at h
   cases q:peek rv Γ with
   |ex _ _ =>
     cases rv with
     |val _=>cases q
     |new _=>cases q
     |var i=>unfold peek at q;dsimp only at q;split at q<;>cases q
   |st=>rw[q] at h;cases h
   |ok d0 Γ0 =>
     have e0:Γ0=Γ:=by
      cases rv with
      |val _=>cases q;rfl
      |new _=>cases q;rfl
      |var i=>unfold peek at q;dsimp only at q;split at q<;>cases q;rfl
     subst e0
     rw[q] at h
     dsimp only at h
     cases q2:zaz r Γ0 with
     |ex _ _=>exact ih (by rw[q2] at h;cases h;exact q2)
     |st=>rw[q2] at h;cases h
     |ok ds0 Γ1=>rw[q2] at h;cases h
theorem zdv{rvs:List RV}{Γ:En}{K:List D->En->Prop}{E:Xc->En->Prop}(w:wpM (zaz rvs Γ) K E):∃ ds,zaz rvs Γ = .ok ds Γ/\K ds Γ:=by
 cases q:zaz rvs Γ with
 |ex _ _=>exact absurd q zkd
 |st=>rw[q] at w;exact False.elim w
 |ok ds Γ' =>
   have:=zdK q
   subst this
   rw[q] at w
   exact⟨ds,rfl,w⟩
open Classical in
def zaT(O:Addr->Prop)(R:Hp):Hp:=fun b=>if O b then none else R b
theorem zmh{G:List D->Option Rt}{e0:Expr}(hp:∀ t,PA X es t->PE X e0 (zlS (spP G) [] E0 t))(ha:VA X EE ios es fs):VE X EE ios e0 (zaO G fs):=by
 obtain⟨t,h1,h2⟩:=ha
 refine⟨_,hp t h1,fun σ H R Γ Q er w=>?_⟩
 unfold zaO at w
 rw[zab] at w
 refine h2 σ H R Γ _ er (zac w (fun rvs Γ1 w xs H1 R1 p1 hx=>?_) fun _ _ z=>z)
 show spP G (xs++[]) H1 Q E0
 rw[List.append_nil]
 rw[zab] at w
 obtain⟨ds,q,w⟩:=zdv w
 obtain⟨ds',pk,e⟩:=zbR (K:=fun ds' _=>ds'=ds) (E:=fun _ _=>False) p1.er hx (by rw[q];exact rfl)
 subst e
 cases hG:G ds' with
 |none=>rw[hG] at w;exact False.elim w
 |some r =>
   rw[hG] at w
   dsimp only at w
   by_cases hv:rvs.any zcE=true
   · by_cases him:zcQ r=true
     · rw[hv,him] at w
       have w:∀ x H' R',EPo ios R H σ Γ R' H' Γ1->RvR R' H H' σ x r.rv->Q x H':=w
       refine⟨lent (Ow σ Γ1) R1 H1,ds',zfn p1.er.sub,Pks.lent p1.er hx pk q,?_⟩
       rw[hG]
       intro x H' R' al ra
       have ow:∀ b,Ow σ Γ1 b->R1 b=none/\∃ xs,H1 b=some (.lst xs):=fun b z=>p1.er.ow z
       have un:∀ b, ¬ Ow σ Γ1 b->zaT (Ow σ Γ1) R' b=R' b:=fun b z=>by unfold zaT;rw[if_neg z]
       have un':∀ b,Ow σ Γ1 b->zaT (Ow σ Γ1) R' b=none:=fun b z=>by unfold zaT;rw[if_pos z]
       have tup:∀ b ys,R' b=some (.tup ys)->zaT (Ow σ Γ1) R' b=some (.tup ys):=fun b ys z=>by
        rw[un b]
        · exact z
        · intro o
          obtain⟨_,zs,hz⟩:=ow b o
          have:=al.sub _ _ z
          rw[al.hh _ _ hz] at this
          cases this
       have rr:Same R1 (zaT (Ow σ Γ1) R'):=fun b o z=>by
        have nb : ¬ Ow σ Γ1 b:=fun q=>by rw[(ow b q).1] at z;cases z
        rw[un b nb]
        apply al.rr
        unfold lent
        rw[if_neg nb]
        exact z
       have no:∀ b o,H1 b=some o->R1 b=none->zaT (Ow σ Γ1) R' b=none:=fun b o hb rb=>by
        by_cases nb:Ow σ Γ1 b
        · exact un' b nb
        · rw[un b nb]
          apply al.no b o hb
          unfold lent
          rw[if_neg nb]
          exact rb
       have al':Al R1 H1 (zaT (Ow σ Γ1) R') H':=⟨fun b o z=>by
        by_cases nb:Ow σ Γ1 b
        · rw[un' b nb] at z;cases z
        · rw[un b nb] at z;exact al.sub b o z,rr,al.hh,no⟩
       refine w x H' _ (p1.al al') ?_
       cases r with
       |val d=>exact Rp.less tup ra him
       |new d =>
         cases d with
         |lst zs =>
           obtain⟨⟨a,ys,ds2,rfl,r1,r2,r3,r4⟩,a',ea,hf⟩:=ra
           cases ea
           cases r3
           refine⟨⟨a,ys,zs,rfl,?_,r2,rfl,r4.less tup him⟩,a,rfl,p1.back er a hf⟩
           by_cases nb:Ow σ Γ1 a
           · exact un' a nb
           · rw[un a nb];exact r1
         | _=>cases him
     · have him:zcQ r=false:=by cases z:zcQ r<;>simp_all
       rw[hv,him] at w
       have w:wpM (M.bind (zaE rvs) (fun ds'=>M.ofO ((G ds').map Rt.rv)) Γ1) _ _:=w
       rw[zab] at w
       obtain⟨ds2,Γ2,R2,p2,s2,r2,w⟩:=zaY er p1 hx w
       obtain⟨rv,hrv,w⟩:=zbe w
       refine⟨R2,ds2,p2.er.sub,r2,?_⟩
       cases hG2:G ds2 with
       |none=>rw[hG2] at hrv;cases hrv
       |some r' =>
         rw[hG2] at hrv
         cases hrv
         exact fun x H' R' al ra=>w x H' R' (p2.al al) (ra.rv (p2.back er))
   · have hv:rvs.any zcE=false:=by cases z:rvs.any zcE<;>simp_all
     rw[hv] at w
     have w:∀ x H' R',EPo ios R H σ Γ R' H' Γ1->RvR R' H H' σ x r.rv->Q x H':=w
     refine⟨R1,ds',p1.er.sub,zfW hx hv q,?_⟩
     rw[hG]
     exact fun x H' R' al ra=>w x H' R' (p1.al al) (ra.rv (p1.back er))
end
section
variable{X:Cx}{EE:XKS}{ios:List Addr}{e a b c iter tg elt:Expr}{es ifs:List Expr}{f g k:M RV}{fs:M (List RV)}{p:M Bool}{s s':M Fl}{st:Stmt}{sts sts':List Stmt}{pos:Pos}
abbrev GI:=List D->List D->Option (Rt×List D)
def spI(G:GI):Sp:=fun vs H Q _=>∃ R p xs ds0 vs' ds,vs = .ref p::vs'/\Same R H/\R p=none/\H p=some (.lst xs)/\Rps R xs ds0/\Rps R vs' ds/\match G ds0 ds with
 |some (r,out)=>∀ x H' R' xs',Same R' H'->Go (· = p) R H (· = p) R' H'->H' p=some (.lst xs')->R' p=none->Rps R' xs' out->RvA R' H H' x r.rv->Q x H'
 |none=>False
def zez(N:List Str)(ds0 ds:List D):En:=some (.io 0,.lst ds0)::(ds.map (fun d=>some (.frz,d))++List.replicate (N.length - (ds.length+1)) none)
def zhI:Res Fl->Option (Rt×List D)
 | .ok fl Γ=>match (Γ:List Sl)[(0:Nat)]? with
   |some (some (.io 0,.lst out))=>(zbb (.ok fl Γ)).map fun r=>(r,out)
   | _=>none
 | _=>none
theorem zeF{N:List Str}{ds0 ds:List D}{i:Nat}{t:Kd×D}(h:(zez N ds0 ds)[i]? = some (some t)):(i=0/\t=(.io 0,.lst ds0))\/∃ j d,i=j+1/\ds[j]? = some d/\t=(.frz,d):=by
 cases i with
 |zero=>cases h;exact .inl ⟨rfl,rfl⟩
 |succ j =>
   have h:(ds.map (fun d=>some (Kd.frz,d))++List.replicate (N.length - (ds.length+1)) none)[j]? = some (some t):=h
   by_cases hj:j<ds.length
   · rw[List.getElem?_append_left (by rw[List.length_map];exact hj),List.getElem?_map,List.getElem?_eq_getElem hj] at h
     cases h
     exact .inr ⟨j,_,rfl,List.getElem?_eq_getElem hj,rfl⟩
   · rw[List.getElem?_append_right (by rw[List.length_map];omega),List.getElem?_replicate] at h
     split at h<;>cases h
theorem zkp{N:List Str}{R H:Hp}{q:Addr}{xs:List V}{ds0:List D}{vs:List V}{ds:List D}(s:Same R H)(h0:R q=none)(h1:H q=some (.lst xs))(h2:Rps R xs ds0)(h:Rps R vs ds):ER [q] R H (L2.start N (.ref q::vs)) (zez N ds0 ds) where
 sub:=s
 len:=by unfold L2.start zez;simp[h.len]
 sl:=fun i t z=>by
  rcases zeF z with ⟨rfl,rfl⟩ | ⟨j,d,rfl,hd,rfl⟩
  · exact⟨.ref q,rfl,⟨q,xs,ds0,rfl,h0,h1,rfl,h2⟩,q,rfl,rfl⟩
  · obtain⟨x,hx,rx⟩:=h.ta hd
    exact⟨x,zeM (by simpa using hx),rx⟩
 dj:=fun i j k l d e b q1 q2 q3 q4 _ _=>by
  rcases zeF q1 with ⟨rfl,z⟩ | ⟨j,d,_,_,z⟩
  · rcases zeF q3 with ⟨rfl,_⟩ | ⟨j,d,_,_,z'⟩
    · rfl
    · cases z';cases q4
  · cases z;cases q2
theorem owI{N:List Str}{q:Addr}{vs:List V}{ds0 ds:List D}{b:Addr}:Ow (L2.start N (.ref q::vs)) (zez N ds0 ds) b ↔ b=q:=by
 constructor
 · rintro⟨i,k,d,q1,q2,q3⟩
   rcases zeF q1 with ⟨rfl,z⟩ | ⟨j,d,_,_,z⟩
   · have:(L2.start N (.ref q::vs))[0]? = some (some (.ref q)):=rfl
     rw[this] at q3
     cases q3
     rfl
   · cases z;cases q2
 · rintro rfl
   exact⟨0,.io 0,.lst ds0,rfl,rfl,rfl⟩
theorem zrp{P:Program}{w:World}{K:W.Frag}{mg:Str->Option Value}{base:Heap}{x qual:Str}{fa:Addr}{fd:FuncData}{N ps:List Str}{k:Nat}{G:GI}{bm:M Fl}(F:Fun K x qual st fa fd)(S:FnScope N ps (defScope st))
 (hb:∀ (cdv:Value) (A:Around) (outer:List Env) (s:Shared) (H:Hp) (E:XK) (q:Addr),Room k (A.deeper (PyProof.Rows.envOfC qual (defScope st) s.heap.objs.size fa cdv))->VSs (zcG CX0 P w K mg base N qual (defScope st) fa cdv A outer s H E).nox EN [q] (defBody st) bm)
 (h:∀ ds0 ds r,G ds0 ds=some r->ds.length+1=ps.length/\zhI (bm (zez N ds0 ds))=some r):FnOk P w K mg base CX0 (k+1) fa fd ps (spI G):=by
 refine F.ok S (fun vs H Q E q=>?_) (fun cdv A outer s H vs Q E hr q=>?_)
 · obtain⟨R,q,xs,ds0,vs',ds,rfl,_,_,_,_,h2,h3⟩:=q
   cases e:G ds0 ds with
   |none=>rw[e] at h3;exact h3.elim
   |some r=>rw[List.length_cons,h2.len];exact(h ds0 ds r e).1
 · obtain⟨R,q,xs,ds0,vs',ds,rfl,s1,r0,hq,hxs,h2,h3⟩:=q
   cases e:G ds0 ds with
   |none=>rw[e] at h3;exact h3.elim
   |some ro =>
     obtain⟨r,out⟩:=ro
     rw[e] at h3
     obtain⟨t,b1,b2⟩:=hb cdv A outer s H E q hr
     refine⟨t,b1,b2 _ H R _ _ (zkp s1 r0 hq hxs h2) ?_⟩
     have fin:=(h ds0 ds _ e).2
     cases q0:bm (zez N ds0 ds) with
     |st=>rw[q0] at fin;cases fin
     |ex _ _=>rw[q0] at fin;cases fin
     |ok fl Γ' =>
       rw[q0] at fin
       refine zcO fun σ' H' R' pp=>?_
       unfold zhI at fin
       dsimp only at fin
       split at fin
       · rename_i out' hs0
         obtain⟨v0,hv0,⟨a0,xs',ds',e0,r1,r2,r3,r4⟩,a1,i1,i2⟩:=pp.er.sl 0 _ hs0
         cases i1
         rw[i2] at e0
         cases e0
         cases r3
         rw[i2] at hv0
         have go:Go (· = q) R H (· = q) R' H':=⟨pp.go.rr,fun b o z n=>pp.go.hh b o z fun y=>n (owI.mp y),fun b o z n r=>pp.go.no b o z (fun y=>n (owI.mp y)) r,fun b z=>.inl z,pp.go.th⟩
         have fin':∀ {r'},zbb (.ok fl Γ')=some r'->r'=r/\out'=out:=fun z=>by rw[z] at fin;cases fin;exact⟨rfl,rfl⟩
         have use:∀ y r',zbb (.ok fl Γ')=some r'->RvA R' H H' y r'.rv->Q y H':=fun y r' z ra=>by
          obtain⟨rfl,rfl⟩:=fin' z
          exact h3 y H' R' xs' pp.er.sub go r2 r1 r4 ra
         cases fl with
         |brk=>cases fin
         |cont=>cases fin
         |nx=>exact use .non _ rfl .non
         |ret rv =>
           intro y hy
           cases rv with
           |val d=>exact use y _ rfl hy
           |new d=>exact use y _ rfl hy
           |var i =>
             have hy:σ'[i]? = some (some y):=hy
             cases hsi:Γ'[i]? with
             | none => have : zbb (.ok (.ret (.var i)) Γ') = none := by show (match Γ'[i]? with | some (some (.own, d)) => some (Rt.new d) | some (some (.frz, d)) => some (.val d) | _ => none) = none; rw [hsi]
                       rw[this] at fin;cases fin
             |some o =>
               cases o with
               | none => have : zbb (.ok (.ret (.var i)) Γ') = none := by show (match Γ'[i]? with | some (some (.own, d)) => some (Rt.new d) | some (some (.frz, d)) => some (.val d) | _ => none) = none; rw [hsi]
                         rw[this] at fin;cases fin
               |some sd =>
                 obtain⟨kd,d⟩:=sd
                 obtain⟨v,hv,sl⟩:=pp.er.sl i _ hsi
                 rw[hy] at hv
                 cases hv
                 cases kd with
                 | io n => have : zbb (.ok (.ret (.var i)) Γ') = none := by show (match Γ'[i]? with | some (some (.own, d)) => some (Rt.new d) | some (some (.frz, d)) => some (.val d) | _ => none) = none; rw [hsi]
                           rw[this] at fin;cases fin
                 |frz=>exact use y (.val d) (by show(match Γ'[i]? with | some (some (.own,d))=>some (Rt.new d) | some (some (.frz,d))=>some (.val d) | _=>none)=_;rw[hsi]) sl
                 |own =>
                   obtain⟨a,ys,ds2,rfl,t1,t2,t3,t4⟩:=sl
                   refine use _ (.new d) (by show(match Γ'[i]? with | some (some (.own,d))=>some (Rt.new d) | some (some (.frz,d))=>some (.val d) | _=>none)=_;rw[hsi]) ⟨⟨a,ys,ds2,rfl,t1,t2,t3,t4⟩,a,rfl,?_⟩
                   rcases pp.go.oo a ⟨i,.own,d,hsi,rfl,hy⟩ with z | z
                   · have:=owI.mp z
                     subst this
                     have:=pp.er.dj i 0 .own (.io 0) d _ a hsi rfl hs0 rfl hy hv0
                     subst this
                     rw[hs0] at hsi
                     cases hsi
                   · exact z
       · cases fin
def goI(i:Nat)(G:GI)(ds:List D):M RV:=fun Γ=>match Γ[i]? with
 |some (some (kd,.lst ds0))=>if owned kd then match G ds0 ds with
   |some (r,out)=>.ok r.rv (Γ.set i (some (kd,.lst out)))
   |none=>.st else .st
 | _=>.st
def zbr(G:GI)(fs:M (List RV)):M RV:=M.bind fs fun rvs=>match rvs with
 | .var i::r=>M.bind (zaE r) fun ds=>goI i G ds
 | _=>M.st
theorem zmP{G:GI}{e0:Expr}(hp:∀ t,PA X es t->PE X e0 (zlS (spI G) [] E0 t))(ha:VA X EE ios es fs):VE X EE ios e0 (zbr G fs):=by
 obtain⟨t,h1,h2⟩:=ha
 refine⟨_,hp t h1,fun σ H R Γ Q er w=>?_⟩
 unfold zbr at w
 rw[zab] at w
 refine h2 σ H R Γ _ er (zac w (fun rvs Γ1 w xs H1 R1 p1 hx=>?_) fun _ _ z=>z)
 show spI G (xs++[]) H1 Q E0
 rw[List.append_nil]
 split at w
 · rename_i i r
   cases hx with
   |cons hx hr =>
     rw[zab] at w
     obtain⟨ds,Γ2,R2,p2,s2,r2,w⟩:=zaY er p1 hr w
     unfold goI at w
     split at w
     · rename_i kd ds0 hi
       split at w
       · rename_i ho
         cases hG:G ds0 ds with
         |none=>rw[hG] at w;exact False.elim w
         |some ro =>
           obtain⟨rt,out⟩:=ro
           rw[hG] at w
           dsimp only at w
           have w:=zcZ w
           have hx:σ[i]? = some (some _):=hx
           have hlt:i<Γ2.length:=(List.getElem?_eq_some_iff.mp hi).1
           obtain⟨q,ys,rfl,h2,h3,_⟩:=p2.er.mut (ds':=ds0) hi ho hx
           have hr0:R2 q=none:=(p2.er.ow ⟨i,kd,_,hi,ho,hx⟩).1
           refine⟨R2,q,ys,ds0,_,ds,rfl,p2.er.sub,hr0,h2,h3,r2,?_⟩
           rw[hG]
           intro x H' R' xs' sub go g1 g2 g3 ra
           have inj:∀ (j:Nat) (l:Kd) (z:D),Γ2[j]? = some (some (l,z))->owned l=true->σ[j]? = some (some (.ref q))->j=i:=fun j l z q1 q2 q3=>(p2.er.dj i j kd l _ z q hi ho q1 q2 hx q3).symm
           have ow':∀ b,Ow σ (Γ2.set i (some (kd,.lst out))) b->Ow σ Γ2 b:=by
            rintro b ⟨j,l,z,q1,q2,q3⟩
            by_cases hj:j=i
            · subst hj
              rw[List.getElem?_set_self hlt] at q1
              cases q1
              exact⟨j,kd,_,hi,ho,q3⟩
            · rw[List.getElem?_set_ne (Ne.symm hj)] at q1
              exact⟨j,l,z,q1,q2,q3⟩
           have qo:Ow σ Γ2 q:=⟨i,kd,_,hi,ho,hx⟩
           have er3:ER ios R' H' σ (Γ2.set i (some (kd,.lst out))):=by
            refine⟨sub,by rw[List.length_set];exact p2.er.len,fun j t hj=>?_,fun j j' l l' z z' b q1 q2 q3 q4 q5 q6=>?_⟩
            · by_cases hji:j=i
              · subst hji
                rw[List.getElem?_set_self hlt] at hj
                cases hj
                obtain⟨v,hv,sl⟩:=p2.er.sl j _ hi
                rw[hx] at hv
                cases hv
                have z:OwR R' H' (.ref q) (.lst out):=⟨q,xs',out,rfl,g2,g1,rfl,g3⟩
                refine⟨_,hx,?_⟩
                cases kd with
                |frz=>cases ho
                |own=>exact z
                |io n=>exact⟨z,sl.2⟩
              · rw[List.getElem?_set_ne (Ne.symm hji)] at hj
                obtain⟨v,hv,sl⟩:=p2.er.sl j t hj
                refine⟨v,hv,sl.mono go.rr fun ho' b zs eb hb rb=>?_⟩
                subst eb
                have nb : ¬ b=q:=by rintro rfl;exact hji (inj j t.1 t.2 hj ho' hv)
                exact⟨go.hh b _ hb nb,go.no b _ hb nb rb⟩
            · have g:∀ {j:Nat} {l:Kd} {z:D},(Γ2.set i (some (kd,.lst out)))[j]? = some (some (l,z))->∃ z',Γ2[j]? = some (some (l,z')):=by
               intro j l z y
               by_cases hji:j=i
               · subst hji;rw[List.getElem?_set_self hlt] at y;cases y;exact⟨_,hi⟩
               · rw[List.getElem?_set_ne (Ne.symm hji)] at y;exact⟨z,y⟩
              obtain⟨z1,y1⟩:=g q1
              obtain⟨z2,y2⟩:=g q3
              exact p2.er.dj j j' l l' z1 z2 b y1 q2 y2 q4 q5 q6
           have p3:EPo ios R2 H1 σ Γ2 R' H' (Γ2.set i (some (kd,.lst out))):=⟨er3,⟨go.rr,fun b o hb nb=>go.hh b o hb (fun z=>nb (by rw[z];exact qo)),fun b o hb nb rb=>go.no b o hb (fun z=>nb (by rw[z];exact qo)) rb,fun b z=>.inl (ow' b z),go.th⟩,ow'⟩
           exact w x H' R' (p2.trans p3) (ra.rv (p2.back er))
       · exact False.elim w
     · exact False.elim w
 · exact False.elim w
end
def At(mg:Str->Option Value)(x:Str)(st:Stmt):Prop:=∃ f fd,Fun KC.K x x st f fd/\mg x=some (.ref f)/\W.keepIn KC.K (.ref f)=true
def Cal(P:Program)(w:World)(mg:Str->Option Value)(base:Heap)(x:Str)(k:Nat)(ps:List Str)(sp:Sp):Prop:=∃ f fd,FnOk P w KC.K mg base CX0 k f fd ps sp/\mg x=some (.ref f)/\W.keepIn KC.K (.ref f)=true/\Binds KC.K fd ps []
section
variable{X:Cx}{EE:XKS}{ios:List Addr}{e:Expr}{es:List Expr}{fs:M (List RV)}{x:Str}{k:Nat}{ps:List Str}{p pos:Pos}{st:Stmt}
theorem zaP{G:List D->Option Rt}(C:Cal X.prog X.w X.mg X.base x k ps (spP G))(hr:Room k X.A)(hg:Gl X x)(ha:VA X EE ios (e::es) fs)(hK:X.K=KC.K:=by rfl)(hdb:(x == ("__debug__" : Str))=false:=by decide)
 (he:starEach (e::es) X.env=(false,eval e X.env)::starEach es X.env:=by rfl) (hpl:(backTo pos (starEach es X.env)).any (·.1)=false:=by rfl):VE X EE ios (.Call (.Name x p) (e::es) [] pos) (zaO G fs):=by
 obtain⟨f,fd,F,hm,hk,hb⟩:=C
 rw[<- hK] at F hk hb
 exact zmh (fun t h=>zgA F hr hg hm hk hb .nil zjJ h hdb he hpl) ha
theorem zbs{G:GI}(C:Cal X.prog X.w X.mg X.base x k ps (spI G))(hr:Room k X.A)(hg:Gl X x)(ha:VA X EE ios (e::es) fs)(hK:X.K=KC.K:=by rfl)(hdb:(x == ("__debug__" : Str))=false:=by decide)
 (he:starEach (e::es) X.env=(false,eval e X.env)::starEach es X.env:=by rfl) (hpl:(backTo pos (starEach es X.env)).any (·.1)=false:=by rfl):VE X EE ios (.Call (.Name x p) (e::es) [] pos) (zbr G fs):=by
 obtain⟨f,fd,F,hm,hk,hb⟩:=C
 rw[<- hK] at F hk hb
 exact zmP (fun t h=>zgA F hr hg hm hk hb .nil zjJ h hdb he hpl) ha
theorem zbO{P:Program}{w:World}{mg:Str->Option Value}{base:Heap}{N:List Str}{G:List D->Option Rt}{bm:M Fl}(A0:At mg x st)(S:FnScope N ps (defScope st))
 (bd:∀ (kV doc pm:Value) (an:Option Addr) (cdv ct:Value) (us:List Value),us.length=ps.length->bindArgs (W.fnOf x x (defArgs st) (defBody st) (defScope st) .none kV doc pm an cdv ct) ⟨us,[]⟩=pure (ps.zip us))
 (hb:∀ (fa:Addr) (cdv:Value) (A:Around) (outer:List Env) (s:Shared) (H:Hp) (E:XK),Room k (A.deeper (PyProof.Rows.envOfC x (defScope st) s.heap.objs.size fa cdv))->VSs (zcG CX0 P w KC.K mg base N x (defScope st) fa cdv A outer s H E).nox EN [] (defBody st) bm)
 (h:∀ ds r,G ds=some r->ds.length=ps.length/\zbb (bm (gam N ds))=some r):Cal P w mg base x (k+1) ps (spP G) :=
 let ⟨f,fd,F,hm,hk⟩:=A0
 ⟨f,fd,zgk F S (hb f) h,hm,hk,F.binds bd⟩
theorem zly{P:Program}{w:World}{mg:Str->Option Value}{base:Heap}{N:List Str}{G:GI}{bm:M Fl}(A0:At mg x st)(S:FnScope N ps (defScope st))
 (bd:∀ (kV doc pm:Value) (an:Option Addr) (cdv ct:Value) (us:List Value),us.length=ps.length->bindArgs (W.fnOf x x (defArgs st) (defBody st) (defScope st) .none kV doc pm an cdv ct) ⟨us,[]⟩=pure (ps.zip us))
 (hb:∀ (fa:Addr) (cdv:Value) (A:Around) (outer:List Env) (s:Shared) (H:Hp) (E:XK) (q:Addr),Room k (A.deeper (PyProof.Rows.envOfC x (defScope st) s.heap.objs.size fa cdv))->VSs (zcG CX0 P w KC.K mg base N x (defScope st) fa cdv A outer s H E).nox EN [q] (defBody st) bm)
 (h:∀ ds0 ds r,G ds0 ds=some r->ds.length+1=ps.length/\zhI (bm (zez N ds0 ds))=some r):Cal P w mg base x (k+1) ps (spI G) :=
 let ⟨f,fd,F,hm,hk⟩:=A0
 ⟨f,fd,zrp F S (hb f) h,hm,hk,F.binds bd⟩
def zrk(sc scope:Scope)(N Nc:List Str)(own:Nat)(fr:List Nat):Bool :=
 decide (Nc.length=own+fr.length) && decide (scope.kind = .function) && scope.names.all (fun y=>decide (y.2 ≠ .cell)) && scope.names.all (fun y=>decide (y.2 = .local->scope.names.lookup y.1=some .local)) &&
 scope.names.all (fun y=>decide (y.2 = .free->sc.names.lookup y.1=some .cell\/sc.names.lookup y.1=some .free)) &&
 (List.range fr.length).all fun k=>match fr[k]?,Nc[own+k]? with
  |some j,some x=>decide (N[j]? = some x) && decide (sc.names.lookup x=some .cell\/sc.names.lookup x=some .free) && decide (scope.names.lookup x=some .free)
  | _,_=>true
omit [KC] in
theorem zdy{X:Cx}{scope sc:Scope}{N Nc:List Str}{own:Nat}{fr:List Nat}(hs:X.env.scope=sc)(hN:X.N=N)(h:zrk sc scope N Nc own fr=true):BlkN X scope Nc own fr:=by
 subst hs hN
 unfold zrk at h
 simp only[Bool.and_eq_true,decide_eq_true_eq,List.all_eq_true] at h
 obtain⟨⟨⟨⟨⟨h1,h2⟩,h3⟩,h4⟩,h5⟩,h6⟩:=h
 refine⟨h1,fun k j x e1 e2=>?_,h2,h3,h4,fun x hx=>h5 _ hx rfl⟩
 have hk:k<fr.length:=(List.getElem?_eq_some_iff.mp e1).1
 have z:=h6 k (List.mem_range.mpr hk)
 rw[e1,e2] at z
 simp only[Bool.and_eq_true,decide_eq_true_eq] at z
 exact⟨z.1.1,z.1.2,z.2⟩
end
section
variable{X:Cx}{EE:XKS}{ios:List Addr}{e a b c:Expr}{f g k:M RV}{pos p:Pos}{x:Str}{ps:List Str}{kk:Nat}
theorem zjn:RdE EE ios (zq5 EE ios f) f:=fun σ H R Γ Q er w=>⟨R,Γ,er,w⟩
theorem zjA{i:Int}(h:∃ t,X.mg x=some (.int i t))(hg:Gl X x)(hd:(x == ("__debug__" : Str))=false:=by decide):VE X EE ios (.Name x pos) (M.pure (.val (.int i))) :=
 let ⟨t,h⟩:=h;ze1 (zaV (v:=.int i) hg h ⟨t,rfl⟩ hd) fun _=>.int i
end
def zbm(n:Nat)(N:List Str)(bm:M Fl):List D->Option Rt:=fun ds=>if ds.length=n then zbb (bm (gam N ds)) else none
def zh2(n:Nat)(N:List Str)(bm:M Fl):GI:=fun ds0 ds=>if ds.length+1=n then zhI (bm (zez N ds0 ds)) else none
theorem zbg{n:Nat}{N:List Str}{bm:M Fl}{ds:List D}{r:Rt}(h:zbm n N bm ds=some r):ds.length=n/\zbb (bm (gam N ds))=some r:=by
 unfold zbm at h
 split at h
 · rename_i q;exact⟨q,h⟩
 · cases h
theorem zjb{n:Nat}{N:List Str}{bm:M Fl}{ds0 ds:List D}{r:Rt×List D}(h:zh2 n N bm ds0 ds=some r):ds.length+1=n/\zhI (bm (zez N ds0 ds))=some r:=by
 unfold zh2 at h
 split at h
 · rename_i q;exact⟨q,h⟩
 · cases h
end Dv
namespace Dv
open PySem L2 Ex
section
variable{α β:Type}{Γ Γ':En}{f g k:M RV}{fs:M (List RV)}{p q:M Bool}{s s':M Fl}{d:D}{i:Nat}
@[simp] theorem r_pure{a:α}:M.pure a Γ = .ok a Γ:=(rfl)
@[simp] theorem r_bind{f:M α}{g:α->M β}:M.bind f g Γ=match f Γ with
 | .ok a Γ'=>g a Γ'
 | .ex x Γ'=>.ex x Γ'
 | .st=>.st:=(rfl)
@[simp] theorem r_some{a:α}:M.ofO (some a) Γ = .ok a Γ:=(rfl)
@[simp] theorem r_name:zaa i Γ=match Γ[i]? with
 |some (some (.frz,d))=>.ok (.val d) Γ
 |some (some _)=>.ok (.var i) Γ
 | _=>.st:=(rfl)
@[simp] theorem r_peekv:peek (.val d) Γ = .ok d Γ:=(rfl)
@[simp] theorem r_peekn:peek (.new d) Γ = .ok d Γ:=(rfl)
@[simp] theorem r_peeki:peek (.var i) Γ=match Γ[i]? with
 |some (some (_,d))=>.ok d Γ
 | _=>.st:=(rfl)
@[simp] theorem r_matv:mat (.val d) Γ = .ok d Γ:=(rfl)
@[simp] theorem r_matn:mat (.new d) Γ = .ok d Γ:=(rfl)
@[simp] theorem r_mati:mat (.var i) Γ=match Γ[i]? with
 |some (some (_,d))=>.ok d (Γ.set i (some (.frz,d)))
 | _=>.st:=(rfl)
@[simp] theorem r_op1{o:D->Option RV}:op1 o f Γ=M.bind f (fun x=>M.bind (peek x) fun d=>M.ofO (o d)) Γ:=(rfl)
@[simp] theorem r_op2{o:D->D->Option RV}:op2 o f g Γ=M.bind f (fun x=>M.bind g fun y=>M.bind (peek x) fun d=>M.bind (peek y) fun e=>M.ofO (o d e)) Γ:=(rfl)
@[simp] theorem r_op3{o o':D->D->Option RV}:op3 o o' f g k Γ=M.bind f (fun x=>M.bind g fun y=>M.bind (peek x) fun d=>M.bind (peek y) fun e=>M.bind (M.bind (M.ofO (o d e)) asB) fun q =>
 if q then M.bind k fun z=>M.bind (peek y) fun e'=>M.bind (peek z) fun u=>M.ofO (o' e' u) else M.pure (.val (.bl false))) Γ:=(rfl)
@[simp] theorem r_asB{b:Bool}:asB (.val (.bl b)) Γ = .ok b Γ:=(rfl)
@[simp] theorem r_ng:ngM p Γ=M.bind p (fun b=>M.pure (!b)) Γ:=(rfl)
@[simp] theorem r_and:andM p q Γ=M.bind p (fun b=>if b then q else M.pure false) Γ:=(rfl)
@[simp] theorem r_or:orM p q Γ=M.bind p (fun b=>if b then M.pure true else q) Γ:=(rfl)
@[simp] theorem r_valB:zn6 p Γ=M.bind p (fun b=>M.pure (.val (.bl b))) Γ:=(rfl)
@[simp] theorem r_andV:zd1 f g Γ=M.bind (M.bind f asB) (fun b=>if b then g else M.pure (.val (.bl false))) Γ:=(rfl)
@[simp] theorem r_orV:orV f g Γ=M.bind (M.bind f asB) (fun b=>if b then M.pure (.val (.bl true)) else g) Γ:=(rfl)
@[simp] theorem r_iteM:zoa p f g Γ=M.bind p (fun b=>if b then f else g) Γ:=(rfl)
@[simp] theorem r_arg:zex f Γ=match f Γ with
 | .ok (.var i) Γ'=>.ok (.var i) Γ'
 | .ok (.val d) Γ'=>.ok (.val d) Γ'
 | .ok (.new d) Γ'=>.ok (.val d) Γ'
 | .ex x Γ'=>.ex x Γ'
 | .st=>.st:=by
 unfold zex M.bind
 cases f Γ with
 |ok rv Γ'=>cases rv<;>rfl
 |ex _ _=>rfl
 |st=>rfl
@[simp] theorem r_cons:ZS f fs Γ=M.bind (zex f) (fun x=>M.bind fs fun xs=>M.pure (x::xs)) Γ:=(rfl)
@[simp] theorem r_mat0:zaE [] Γ = .ok [] Γ:=(rfl)
@[simp] theorem r_mat1{rv:RV}{r:List RV}:zaE (rv::r) Γ=M.bind (mat rv) (fun d=>M.bind (zaE r) fun ds=>M.pure (d::ds)) Γ:=(rfl)
@[simp] theorem r_peek0:zaz [] Γ = .ok [] Γ:=(rfl)
@[simp] theorem r_peek1{rv:RV}{r:List RV}:zaz (rv::r) Γ=M.bind (peek rv) (fun d=>M.bind (zaz r) fun ds=>M.pure (d::ds)) Γ:=(rfl)
@[simp] theorem r_lst:lstM fs Γ=M.bind fs (fun rvs=>M.bind (zaE rvs) fun ds=>if ds.length<=sizeLine then M.pure (.new (.lst ds)) else M.st) Γ:=(rfl)
@[simp] theorem r_tup:zbo fs Γ=M.bind fs (fun rvs=>M.bind (zaE rvs) fun ds=>if ds.length<=sizeLine then M.pure (.val (.tup ds)) else M.st) Γ:=(rfl)
@[simp] theorem r_blt{g:List D->Option RV}:za4 g fs Γ=M.bind fs (fun rvs=>M.bind (zaz rvs) fun ds=>M.ofO (g ds)) Γ:=(rfl)
@[simp] theorem r_isi{T:Ty}:zkx T f Γ=M.bind (zex f) (fun x=>M.bind (peek x) fun d=>M.ofO (zgS T d)) Γ:=(rfl)
@[simp] theorem r_recv:recv i Γ=match Γ[i]? with
 |some (some (kd,.lst _))=>if owned kd then .ok () Γ else .st
 | _=>.st:=(rfl)
@[simp] theorem r_own:owned .own=true:=(rfl)
@[simp] theorem r_io{n:Nat}:owned (.io n)=true:=(rfl)
@[simp] theorem zk9:zar s s' Γ=match s Γ with
 | .ok .nx Γ'=>s' Γ'
 | .ok fl Γ'=>.ok fl Γ'
 | .ex x Γ'=>.ex x Γ'
 | .st=>.st:=by
 unfold zar M.bind
 cases s Γ with
 |ok fl Γ'=>cases fl<;>rfl
 |ex _ _=>rfl
 |st=>rfl
@[simp] theorem r_drop:zjR f Γ=M.bind f (fun _=>M.pure .nx) Γ:=(rfl)
@[simp] theorem r_ret:zbu f Γ=M.bind f (fun rv=>M.pure (.ret rv)) Γ:=(rfl)
@[simp] theorem r_if:ifM p s s' Γ=M.bind p (fun b=>if b then s else s') Γ:=(rfl)
@[simp] theorem r_asg:za0 i f Γ=match f Γ with
 | .ok (.new d) Γ'=>.ok .nx (Γ'.set i (some (.own,d)))
 | .ok (.val d) Γ'=>.ok .nx (Γ'.set i (some (.frz,d)))
 | .ok (.var j) Γ'=>M.bind (mat (.var j)) (fun d=>M.bind (zgV i (.frz,d)) fun _=>M.pure .nx) Γ'
 | .ex x Γ'=>.ex x Γ'
 | .st=>.st:=by
 unfold za0 M.bind
 cases f Γ with
 |ok rv Γ' =>
   cases rv with
   |var j=>dsimp only[M.bind];cases mat (.var j) Γ'<;>rfl
   | _=>rfl
 |ex _ _=>rfl
 |st=>rfl
@[simp] theorem r_setS{t:Kd×D}:zgV i t Γ = .ok () (Γ.set i (some t)):=(rfl)
@[simp] theorem r_asgG{m:D->M Unit}:zio m f Γ=M.bind f (fun rv=>M.bind (mat rv) fun d=>M.bind (noX (m d)) fun _=>M.pure .nx) Γ:=(rfl)
@[simp] theorem zrH{m:M Unit}:noX m Γ=match m Γ with
 | .ok a Γ'=>.ok a Γ'
 | _=>.st:=(rfl)
@[simp] theorem r_gN:gN i d Γ = .ok () (Γ.set i (some (.frz,d))):=(rfl)
@[simp] theorem r_gs0:gs0 [] Γ = .ok () Γ:=(rfl)
@[simp] theorem r_gsC{m:D->M Unit}{ms:List D->M Unit}{r:List D}:gsC m ms (d::r) Γ=M.bind (m d) (fun _=>ms r) Γ:=(rfl)
@[simp] theorem r_gT{n:Nat}{ms:List D->M Unit}{ds:List D}:gT n ms (.tup ds) Γ=(if ds.length=n then ms ds else M.st) Γ:=(rfl)
@[simp] theorem r_gS{fi:M RV}:gS i fi d Γ=M.bind (recv i) (fun _=>M.bind fi fun ri=>M.bind (peek ri) fun di=>setAt i d di) Γ:=(rfl)
@[simp] theorem r_setAt{n:Int}:setAt i d (.int n) Γ=match Γ[i]? with
 |some (some (kd,.lst ds))=>if owned kd then match ixN ds.length n with
   |some k=>.ok () (Γ.set i (some (kd,.lst (ds.set k d))))
   |none=>.st else .st
 | _=>.st:=by
 unfold setAt
 cases Γ[i]? with
 |none=>rfl
 |some o=>cases o with
   |none=>rfl
   |some t=>obtain⟨kd,d⟩:=t;cases d<;>rfl
@[simp] theorem r_for{items:M (List D)}{m:D->M Unit}:forM items m s Γ=M.bind items (fun ds=>zcB m s ds) Γ:=(rfl)
@[simp] theorem r_loop0{m:D->M Unit}:zcB m s [] Γ = .ok .nx Γ:=(rfl)
theorem zgu{m:D->M Unit}{r:List D}:zcB m s (d::r) Γ=match noX (m d) Γ with
 | .ok _ Γ1=>match s Γ1 with
   | .ok .nx Γ2=>zcB m s r Γ2
   | .ok .cont Γ2=>zcB m s r Γ2
   | .ok .brk Γ2=>.ok .nx Γ2
   | .ok (.ret rv) Γ2=>.ok (.ret rv) Γ2
   | .ex x Γ2=>.ex x Γ2
   | .st=>.st
 | .ex x Γ1=>.ex x Γ1
 | .st=>.st:=by
 show zhz m s (zcB m s r) d Γ=_
 unfold zhz M.bind
 cases noX (m d) Γ with
 |ok a Γ1 =>
   dsimp only
   cases s Γ1 with
   |ok fl Γ2=>cases fl<;>rfl
   |ex _ _=>rfl
   |st=>rfl
 |ex _ _=>rfl
 |st=>rfl
@[simp] theorem r_lstI:zfj f Γ=M.bind f (fun rv=>M.bind (mat rv) fun d=>match d with
 | .lst ds=>M.pure ds
 | .scr ns=>M.pure (ns.map D.int)
 | _=>M.st) Γ:=(rfl)
@[simp] theorem r_enuI:zlG fs Γ=M.bind fs (fun rvs=>M.bind (zaE rvs) fun ds=>match ds with
 | [.lst ds]=>M.pure (zlL ds)
 | _=>M.st) Γ:=(rfl)
@[simp] theorem r_rng1:zgh fs Γ=M.bind fs (fun rvs=>match rvs with
 | [.val (.int j)]=>if small j then M.pure (upI 0 j.toNat) else M.st
 | _=>M.st) Γ:=(rfl)
@[simp] theorem r_callP{G:List D->Option Rt}:zaO G fs Γ=M.bind fs (fun rvs=>M.bind (zaz rvs) fun ds=>match G ds with
 |some r=>if rvs.any zcE && !zcQ r then M.bind (zaE rvs) fun ds'=>M.ofO ((G ds').map Rt.rv) else M.pure r.rv
 |none=>M.st) Γ:=(rfl)
@[simp] theorem r_callI{G:GI}:zbr G fs Γ=M.bind fs (fun rvs=>match rvs with
 | .var i::r=>M.bind (zaE r) fun ds=>goI i G ds
 | _=>M.st) Γ:=(rfl)
@[simp] theorem r_goI{G:GI}{ds:List D}:goI i G ds Γ=match Γ[i]? with
 |some (some (kd,.lst ds0))=>if owned kd then match G ds0 ds with
   |some (r,out)=>.ok r.rv (Γ.set i (some (kd,.lst out)))
   |none=>.st else .st
 | _=>.st:=(rfl)
@[simp] theorem r_rvv:(Rt.val d).rv = .val d:=(rfl)
@[simp] theorem r_rvn:(Rt.new d).rv = .new d:=(rfl)
@[simp] theorem r_isv:zcE (.val d)=false:=(rfl)
@[simp] theorem r_isi':zcE (.var i)=true:=(rfl)
end
@[simp] theorem zk2{i j:Int}(h:0<j):zeB (.int i) (.int j)=some (.val (.int (i % j))):=by
 show(if cd (0<j)=true then _ else _)=_
 rw[if_pos (zgv h)]
@[simp] theorem fdivO_int{i j:Int}(h:0<j)(h':j<1073741824):zjr (.int i) (.int j)=some (.val (.int (i / j))):=by
 show(if cd (0<j/\j<1073741824)=true then _ else _)=_
 rw[if_pos (zgv ⟨h,h'⟩)]
@[irreducible] def E18:Int:=1000000000000000000
theorem zoH:zoX (.int 10) (.int 18)=some (.val (.int E18)):=by
 show(if cd ((0:Int)<=18/\(18:Int)<=1000000/\(10:Int).natAbs<2 ^ 64)=true then some (RV.val (.int (10 ^ (18:Int).toNat))) else none)=_
 rw[if_pos (zgv (by decide))]
 have:(10:Int) ^ (18:Int).toNat=E18:=by unfold E18;decide +kernel
 rw[this]
@[simp] theorem o_int{g:Int->Int->D}{i j:Int}:zkg g (.int i) (.int j)=some (.val (g i j)):=(rfl)
@[simp] theorem o_addI{i j:Int}:zd0 (.int i) (.int j)=some (.val (.int (i+j))):=(rfl)
@[simp] theorem o_addL{xs ys:List D}(h:xs.length+ys.length<=sizeLine):zd0 (.lst xs) (.lst ys)=some (.new (.lst (xs++ys))):=by
 show(if _ then _ else _)=_
 rw[if_pos h]
@[simp] theorem o_mul{i j:Int}(h:zfe i j=true):zfJ (.int i) (.int j)=some (.val (.int (i * j))):=by
 show(if _ then _ else _)=_
 rw[if_pos h]
@[simp] theorem o_is{d:D}:isO d .non=some (.val (.bl (isNone d))):=(rfl)
@[simp] theorem o_lenL{xs:List D}:zej [.lst xs]=some (.val (.int xs.length)):=(rfl)
@[simp] theorem o_lenT{xs:List D}:zej [.tup xs]=some (.val (.int xs.length)):=(rfl)
@[simp] theorem o_lenS{xs:List Int}:zej [.scr xs]=some (.val (.int xs.length)):=(rfl)
@[simp] theorem o_ixL{xs:List D}{i:Int}:zaF (.lst xs) (.int i)=(L2.atI xs i).map .val:=(rfl)
@[simp] theorem o_ixT{xs:List D}{i:Int}:zaF (.tup xs) (.int i)=(L2.atI xs i).map .val:=(rfl)
@[simp] theorem o_ixS{xs:List Int}{i:Int}:zaF (.scr xs) (.int i)=(L2.atI xs i).map fun n=>.val (.int n):=(rfl)
@[simp] theorem o_neg{i:Int}:zlh (.int i)=some (.val (.int (-i))):=(rfl)
@[simp] theorem o_max{i j:Int}:zhQ [.int i,.int j]=some (.val (.int (if j > i then j else i))):=(rfl)
@[simp] theorem o_min{i j:Int}:zhd [.int i,.int j]=some (.val (.int (if j<i then j else i))):=(rfl)
@[simp] theorem o_list{xs:List D}:zeW [.lst xs]=some (.new (.lst xs)):=(rfl)
@[simp] theorem o_isiT{T:Ty}{xs:List D}:zgS T (.tup xs)=some (.val (.bl (zct T (.tup xs)))):=(rfl)
@[simp] theorem o_isiI{T:Ty}{i:Int}:zgS T (.int i)=some (.val (.bl (zct T (.int i)))):=(rfl)
@[simp] theorem o_isiN{T:Ty}:zgS T .non=some (.val (.bl (zct T .non))):=(rfl)
@[simp] theorem o_isiB{T:Ty}{b:Bool}:zgS T (.bl b)=some (.val (.bl (zct T (.bl b)))):=(rfl)
@[simp] theorem o_isiS{T:Ty}{z:Str}:zgS T (.str z)=some (.val (.bl (zct T (.str z)))):=(rfl)
@[simp] theorem o_isiL{T:Ty}{xs:List D}:zgS T (.lst xs)=some (.val (.bl (zct T (.lst xs)))):=(rfl)
@[simp] theorem o_isiD{T:Ty}{xs ys:List D}:zgS T (.dic xs ys)=some (.val (.bl (zct T (.dic xs ys)))):=(rfl)
@[simp] theorem zgj{j:Int}(h : -4611686018427387904<=j/\j<4611686018427387904):small j=true:=zgv (by omega)
theorem zcN{i j:Int}(h : -18446744073709551616<i/\i<18446744073709551616):zfe i j=true:=zgv (.inl (by omega))
theorem zhf{m:D->M Unit}{s:M Fl}(I:Nat->En->Prop){ds:List D}{Γ:En}(h0:I 0 Γ)
 (step:∀ (i:Nat) (d:D) (Γ:En),ds[i]? = some d->I i Γ->∃ Γ1 Γ2,m d Γ = .ok () Γ1/\(s Γ1 = .ok .nx Γ2\/s Γ1 = .ok .cont Γ2)/\I (i+1) Γ2):∃ Γ',zcB m s ds Γ = .ok .nx Γ'/\I ds.length Γ':=by
 induction ds generalizing Γ I with
 |nil=>exact⟨Γ,rfl,h0⟩
 |cons d r ih =>
   obtain⟨Γ1,Γ2,h1,h2,h3⟩:=step 0 d Γ rfl h0
   obtain⟨Γ',h4,h5⟩:=ih (fun i=>I (i+1)) h3 fun i d Γ hd hi=>step (i+1) d Γ (by simpa using hd) hi
   refine⟨Γ',?_,h5⟩
   rw[zgu,zrH,h1]
   rcases h2 with h2 | h2<;>simp only[h2]<;>exact h4
end Dv
namespace Dv
open PySem L2 Ex
variable[KC]
section
variable{X:Cx}{EE:XKS}{ios:List Addr}{pos:Pos}
theorem zpH{R H:Hp}{p:Addr}(s:Same R H)(hp:H p=none):Al R H (upd R p (.dK [])) (upd H p (.dK []))/\RvA (upd R p (.dK [])) H (upd H p (.dK [])) (.ref p) (.val (.dic [] [])):=by
 have hr:R p=none:=s.free hp
 refine⟨⟨fun b o e=>?_,zaI hr,zaI hp,fun b o e r=>?_⟩,.dnil zal⟩
 · by_cases hb:b=p
   · subst hb;rw[zal] at e ⊢;exact e
   · rw[zaf hb] at e ⊢;exact s b o e
 · rw[zaf (zaq e hp)];exact r
def zrI:TE:=fun _ H Q=>∀ p,H p=none->Q (.ref p) (upd H p (.dK []))
theorem zpk:PE X (.Dict [] [] pos) zrI:=by
 intro pins s σ H Q I h
 refine wpAny_Dict_empty ⟨.ref s.heap.objs.size,upd H s.heap.objs.size (.dK []),?_,rfl,h _ I.fresh⟩
 refine Inv.laid (t':=s.toks) I (fun _ _ q=>Heap.get?_push_of_some _ q) (Nat.le_refl _) ?_
 have m:mainGlobals<s.heap.objs.size:=Heap.Ns.lt (I.mod.glob.keeps I.bk)
 refine⟨Nat.zero_le _,beq_eq_false_iff_ne.mpr (fun z=>?_),[],.nil,Heap.DictOf.new _⟩
 rw[z] at m
 exact absurd m (by decide)
theorem zpb:VE X EE ios (.Dict [] [] pos) (M.pure (.val (.dic [] []))):=by
 refine⟨_,zpk,fun σ H R Γ Q er w=>fun p hp=>?_⟩
 obtain⟨al,rv⟩:=zpH er.sub hp
 exact w _ _ _ ((EPo.refl er).al al) (rv.rv ((EPo.refl er).back er))
end
end Dv
namespace L2
open PySem PySem.Spec PyProof.Rows Ex
section
variable{X:Cx}
theorem zlZ{P:Program}{w:World}{H:Hp}{h:Heap}{b:Addr}(ok:HOk P w H h)(e:H b=some (.dK [])):Reads h (.ref b) (.dict []) [b]/\b≠sysModules:=by
 obtain⟨_,ns,vs,kv,o,es,ep,g,ex,dt,_,pr,_⟩:=ok _ _ e
 cases kv
 have z:es.toList=[]:=by
  cases q:es.toList with
  |nil=>rfl
  |cons a r=>rw[q] at pr;cases pr
 refine⟨?_,fun z=>by rw[z] at ns;exact absurd ns (by decide)⟩
 have R:Reads h (.ref b) (.dict []) (b::[]++[]):=.dict g ex.1 dt (by rw[z];exact .nil) (by rw[z];exact .nil)
 exact R
theorem call_repr_i:CallR X (.builtin "repr") (fun xs H Q=>∃ i:Int,xs=[.int i]/\i.natAbs.log2<1920/\Q (.str (toString i)) H):=by
 intro pins s σ H xs us Q I r h
 obtain⟨i,rfl,hi,q⟩:=h
 obtain⟨u,rfl,ru⟩:=r.one
 obtain⟨t,rfl⟩:=ru
 exact PySem.P.repr_of_int hi ⟨.str (toString i),H,I.kept (fun _ _ e=>e),⟨_,rfl⟩,q⟩
end
end L2
namespace Dv
open PySem L2 Ex
section
variable{Γ Γ':En}{f g k l:M RV}{fs:M (List RV)}{p q:M Bool}{d:D}{i j:Nat}{m:D->M Unit}{fr:List Nat}{own:Nat}
@[simp] theorem r_comp{items:M (List D)}:zc2 items fr own m p f Γ=M.bind items (fun ds=>if ds.length<sizeLine then M.bind (lcM fr own m p f ds) fun ys=>M.pure (.new (.lst ys)) else M.st) Γ:=(rfl)
@[simp] theorem r_elt:zfu m p f d Γ=M.bind (noX (m d)) (fun _=>M.bind p fun b=>if b then M.bind f fun rv=>M.bind (mat rv) fun y=>M.pure (some y) else M.pure none) Γ:=(rfl)
theorem zjo(F:D->Option D):∀ (ds:List D),(∀ d∈ds,∃ Γb,zfu m p f d (zaX fr own Γ) = .ok (F d) Γb/\unblk fr own Γ Γb=Γ)->lcM fr own m p f ds Γ = .ok (ds.filterMap F) Γ
 | [],_=>rfl
 |d::r,h=>by
   obtain⟨Γb,h1,h2⟩:=h d (List.mem_cons_self ..)
   have ih:=zjo F r fun d hd=>h d (List.mem_cons_of_mem _ hd)
   unfold lcM
   rw[h1]
   simp only[h2,ih]
   cases e:F d<;>simp[List.filterMap_cons,e]
theorem zpo(F:D->D){ds:List D}(h:∀ d∈ds,∃ Γb,zfu m p f d (zaX fr own Γ) = .ok (some (F d)) Γb/\unblk fr own Γ Γb=Γ):lcM fr own m p f ds Γ = .ok (ds.map F) Γ:=by
 rw[zjo (fun d=>some (F d)) ds h]
 exact congrArg (fun z=>Res.ok z Γ) (by induction ds with
  |nil=>rfl
  |cons a r ih=>rw[List.filterMap_cons,List.map_cons,ih fun d hd=>h d (List.mem_cons_of_mem _ hd)])
end
end Dv
namespace L2
open PySem PySem.Spec PyProof.Rows Ex
section
variable{X:Cx}{EE:XKS}{k:Nat}{f:Addr}{fd:FuncData}{ps:List Str}{sp:Sp}{dvs:List V}{ds:List Value}{x:Str}{p pos:Pos}{e:Expr}{es:List Expr}{t:TA}
def ze3(sp:Sp)(dvs:List V)(EE:XKS)(t:TA):TE:=fun σ H Q=>t σ H fun vs H1=>sp (vs++dvs) H1 Q (EE σ)
theorem znx{pins:List (Addr×Obj)}{σ:St}{H:Hp}{s:Shared}{Q:VK}{us:List Value}{vs:List V}(F:FnOk X.prog X.w X.K X.mg X.base (CXe X.prog X.w) k f fd ps sp)(hr:Room k X.A)(hb:Binds X.K fd ps ds)(hd:Vals dvs ds)(hX:XOk X EE)
 (I:Inv X pins σ H s) (r:Vals vs us) (h:sp (vs++dvs) H Q (EE σ)):wpAny (model X.prog X.w) X.A (call (.ref f) us) (EP X pins σ Q) X.xe s:=by
 have r2:Vals (vs++dvs) (us++ds):=r.append hd
 have hl:(us++ds).length=ps.length:=by rw[<- r2.length];exact F.len _ _ _ _ h
 refine wpAny_call (codeAny_mono (F.run X.A X.stack s H ⟨us,[]⟩ (us++ds) (vs++dvs) Q (EE σ) hr I.env0 (hb s us I.kIn hl) r2 h) fun r s' hq=>?_)
 cases r with
 |error e=>exact zjd hX I hq
 |ok fl =>
   cases fl with
   |ret u=>exact I.after hq
   |next=>exact False.elim hq
   |brk=>exact False.elim hq
   |cont=>exact False.elim hq
theorem zk8(F:FnOk X.prog X.w X.K X.mg X.base (CXe X.prog X.w) k f fd ps sp)(hr:Room k X.A)(hg:Gl X x)(hm:X.mg x=some (.ref f))(hk:W.keepIn X.K (.ref f)=true)(hb:Binds X.K fd ps ds)(hd:Vals dvs ds)(hX:XOk X EE)
 (ha:PA X (e::es) t) (hdb:(x == ("__debug__" : Str))=false:=by decide) (he:starEach (e::es) X.env=(false,eval e X.env)::starEach es X.env:=by rfl) (hpl:(backTo pos (starEach es X.env)).any (·.1)=false:=by rfl) :
 PE X (.Call (.Name x p) (e::es) [] pos) (ze3 sp dvs EE t):=by
 intro pins s σ H Q I h
 refine wpAny_Call_Name_kw (zdF I hg hm ?_ hdb)
 refine W.callWith_K (h₀:=X.base) I.ok.mod.kin hk (thn (ha pos pins s σ H _ I h) fun us s1 ⟨vs,H1,I1,r,q⟩=>⟨I1.kIn,?_⟩) he hpl
 exact znx F hr hb hd hX I1 r q
theorem zmb{X:Cx}:XOk X (fun _ _ _ _=>False):=fun _ _ _ _ _ _ _ _ h=>h.elim
end
end L2
namespace Dv
open PySem L2 Ex
variable[KC]
section
variable{X:Cx}{EE:XKS}{ios:List Addr}{e a b c:Expr}{es:List Expr}{f g:M RV}{fs:M (List RV)}{p:M Bool}{s s':M Fl}{st:Stmt}{sts sts':List Stmt}{pos:Pos}
inductive Rx where
 |ok (r:Rt) | ex (x:Xc)
def RxK(R H:Hp)(r:Option Rx)(Q:VK)(E:XK):Prop:=match r with
 |some (.ok r)=>∀ x H' R',Al R H R' H'->RvA R' H H' x r.rv->Q x H'
 |some (.ex x)=>∀ e H' R',Al R H R' H'->XcR R' H H' e x->E (.ref (KC.cls x.C)) (some e) H'
 |none=>False
def spX(G:List D->Option Rx):Sp:=fun vs H Q E=>∃ R ds,Same R H/\Rps R vs ds/\RxK R H (G ds) Q E
def zkn:Res Fl->Option Rx
 | .ex x _=>some (.ex x)
 |r=>(zbb r).map .ok
theorem zpj{N:List Str}{R H:Hp}{σ:St}{ds:List D}{fl:Fl}{Γ':En}{r:Rt}{Q:VK}(fin:zbb (.ok fl Γ')=some r)(h3:∀ x H' R',Al R H R' H'->RvA R' H H' x r.rv->Q x H'):FlK ios R H σ (gam N ds) { nx:=fun _ H'=>Q .non H',rt:=Q } fl Γ':=by
 intro σ' H' R' p
 cases fl with
 |brk=>cases fin
 |cont=>cases fin
 |nx=>cases fin;exact h3 .non H' R' p.al .non
 |ret rv =>
   intro y hy
   cases rv with
   |val d=>cases fin;exact h3 y H' R' p.al hy
   |new d=>cases fin;exact h3 y H' R' p.al hy
   |var i =>
     have fin:(match Γ'[i]? with
      |some (some (.own,d))=>some (Rt.new d)
      |some (some (.frz,d))=>some (.val d)
      | _=>none)=some r:=fin
     split at fin
     · rename_i d hs
       cases fin
       obtain⟨v,hv,sl⟩:=p.er.sl i _ hs
       have hy:σ'[i]? = some (some y):=hy
       rw[hy] at hv
       cases hv
       obtain⟨a,xs,ds',rfl,r1,r2,r3,r4⟩:=sl
       refine h3 _ H' R' p.al ⟨⟨a,xs,ds',rfl,r1,r2,r3,r4⟩,a,rfl,?_⟩
       exact(p.go.oo a ⟨i,.own,d,hs,rfl,hy⟩).elim (fun z=>absurd z zhG) id
     · rename_i d hs
       cases fin
       obtain⟨v,hv,sl⟩:=p.er.sl i _ hs
       have hy:σ'[i]? = some (some y):=hy
       rw[hy] at hv
       cases hv
       exact h3 _ H' R' p.al sl
     · cases fin
theorem zlD{P:Program}{w:World}{K:W.Frag}{mg:Str->Option Value}{base:Heap}{x qual:Str}{fa:Addr}{fd:FuncData}{N ps:List Str}{k:Nat}{G:List D->Option Rx}{bm:M Fl}(F:Fun K x qual st fa fd)(S:FnScope N ps (defScope st))
 (hb:∀ (cdv:Value) (A:Around) (outer:List Env) (s:Shared) (H:Hp) (E:XK),Room k (A.deeper (PyProof.Rows.envOfC qual (defScope st) s.heap.objs.size fa cdv))->VSs (zcG (CXe P w) P w K mg base N qual (defScope st) fa cdv A outer s H E) (fun _=>E) [] (defBody st) bm)
 (h:∀ ds r,G ds=some r->ds.length=ps.length/\zkn (bm (gam N ds))=some r):FnOk P w K mg base (CXe P w) (k+1) fa fd ps (spX G):=by
 obtain⟨oc,od,kV,doc,pm,an,cdv,ct,osl,rfl,lk,hcd⟩:=F.ex
 refine zmG lk hcd S (fun vs H Q E q=>?_) fun A outer s H vs Q E hr q=>?_
 · obtain⟨R,ds,_,h2,h3⟩:=q
   cases e:G ds with
   |none=>rw[e] at h3;exact h3.elim
   |some r=>rw[h2.len];exact(h ds r e).1
 · obtain⟨R,ds,h1,h2,h3⟩:=q
   cases e:G ds with
   |none=>rw[e] at h3;exact h3.elim
   |some r =>
     rw[e] at h3
     obtain⟨t,b1,b2⟩:=hb cdv A outer s H E hr
     refine⟨t,b1,b2 _ H R _ _ (zdS h1 h2) ?_⟩
     have fin:=(h ds r e).2
     cases q:bm (gam N ds) with
     |st=>rw[q] at fin;cases fin
     |ex x Γ' =>
       rw[q] at fin
       cases fin
       exact fun e σ' H' R' p qx=>h3 e H' R' p.al qx
     |ok fl Γ' =>
       rw[q] at fin
       have fin:(zbb (.ok fl Γ')).map Rx.ok=some r:=fin
       cases q2:zbb (.ok fl Γ') with
       |none=>rw[q2] at fin;cases fin
       |some r' =>
         rw[q2] at fin
         cases fin
         exact zcO (zpj q2 h3)
def M.thr{α:Type}(x:Xc):M α:=fun Γ=>.ex x Γ
def zhe(G:List D->Option Rx)(fs:M (List RV)):M RV:=M.bind fs fun rvs=>M.bind (zaz rvs) fun ds=>match G ds with
 |some (.ok r)=>if rvs.any zcE && !zcQ r then M.bind (zaE rvs) fun ds'=>match G ds' with
  |some (.ok r)=>M.pure r.rv
  | _=>M.st
   else M.pure r.rv
 |some (.ex x)=>M.bind (zaE rvs) fun ds'=>match G ds' with
  |some (.ex x)=>M.thr x
  | _=>M.st
 |none=>M.st
theorem zkK{G:List D->Option Rx}{e0:Expr}(hp:∀ t,PA X es t->PE X e0 (ze3 (spX G) [] EE t))(ha:VA X EE ios es fs):VE X EE ios e0 (zhe G fs):=by
 obtain⟨t,h1,h2⟩:=ha
 refine⟨_,hp t h1,fun σ H R Γ Q er w=>?_⟩
 unfold zhe at w
 rw[zab] at w
 refine h2 σ H R Γ _ er (zac w (fun rvs Γ1 w xs H1 R1 p1 hx=>?_) fun _ _ z=>z)
 show spX G (xs++[]) H1 Q (EE σ)
 rw[List.append_nil]
 rw[zab] at w
 obtain⟨ds,q,w⟩:=zdv w
 obtain⟨ds',pk,e⟩:=zbR (K:=fun ds' _=>ds'=ds) (E:=fun _ _=>False) p1.er hx (by rw[q];exact rfl)
 subst e
 cases hG:G ds' with
 |none=>rw[hG] at w;exact False.elim w
 |some rx =>
   rw[hG] at w
   cases rx with
   |ex x =>
     have w:wpM (M.bind (zaE rvs) (fun ds'=>match G ds' with
      |some (.ex x)=>M.thr x
      | _=>M.st) Γ1) _ _:=w
     rw[zab] at w
     obtain⟨ds2,Γ2,R2,p2,s2,r2,w⟩:=zaY er p1 hx w
     refine⟨R2,ds2,p2.er.sub,r2,?_⟩
     cases hG2:G ds2 with
     |none=>rw[hG2] at w;exact False.elim w
     |some ry =>
       rw[hG2] at w
       cases ry with
       |ok r=>exact False.elim w
       |ex y=>exact fun e H' R' al xr=>w e H' R' (p2.al al) (xr.back p2.since)
   |ok r =>
     dsimp only at w
     by_cases hv:rvs.any zcE=true
     · by_cases him:zcQ r=true
       · rw[hv,him] at w
         have w:∀ x H' R',EPo ios R H σ Γ R' H' Γ1->RvR R' H H' σ x r.rv->Q x H':=w
         refine⟨lent (Ow σ Γ1) R1 H1,ds',zfn p1.er.sub,Pks.lent p1.er hx pk q,?_⟩
         rw[hG]
         intro x H' R' al ra
         have ow:∀ b,Ow σ Γ1 b->R1 b=none/\∃ xs,H1 b=some (.lst xs):=fun b z=>p1.er.ow z
         have un:∀ b, ¬ Ow σ Γ1 b->zaT (Ow σ Γ1) R' b=R' b:=fun b z=>by unfold zaT;rw[if_neg z]
         have un':∀ b,Ow σ Γ1 b->zaT (Ow σ Γ1) R' b=none:=fun b z=>by unfold zaT;rw[if_pos z]
         have tup:∀ b ys,R' b=some (.tup ys)->zaT (Ow σ Γ1) R' b=some (.tup ys):=fun b ys z=>by
          rw[un b]
          · exact z
          · intro o
            obtain⟨_,zs,hz⟩:=ow b o
            have:=al.sub _ _ z
            rw[al.hh _ _ hz] at this
            cases this
         have rr:Same R1 (zaT (Ow σ Γ1) R'):=fun b o z=>by
          have nb : ¬ Ow σ Γ1 b:=fun q=>by rw[(ow b q).1] at z;cases z
          rw[un b nb]
          apply al.rr
          unfold lent
          rw[if_neg nb]
          exact z
         have no:∀ b o,H1 b=some o->R1 b=none->zaT (Ow σ Γ1) R' b=none:=fun b o hb rb=>by
          by_cases nb:Ow σ Γ1 b
          · exact un' b nb
          · rw[un b nb]
            apply al.no b o hb
            unfold lent
            rw[if_neg nb]
            exact rb
         have al':Al R1 H1 (zaT (Ow σ Γ1) R') H':=⟨fun b o z=>by
          by_cases nb:Ow σ Γ1 b
          · rw[un' b nb] at z;cases z
          · rw[un b nb] at z;exact al.sub b o z,rr,al.hh,no⟩
         refine w x H' _ (p1.al al') ?_
         cases r with
         |val d=>exact Rp.less tup ra him
         |new d =>
           cases d with
           |lst zs =>
             obtain⟨⟨a,ys,ds2,rfl,r1,r2,r3,r4⟩,a',ea,hf⟩:=ra
             cases ea
             cases r3
             refine⟨⟨a,ys,zs,rfl,?_,r2,rfl,r4.less tup him⟩,a,rfl,p1.back er a hf⟩
             by_cases nb:Ow σ Γ1 a
             · exact un' a nb
             · rw[un a nb];exact r1
           | _=>cases him
       · have him:zcQ r=false:=by cases z:zcQ r<;>simp_all
         rw[hv,him] at w
         have w:wpM (M.bind (zaE rvs) (fun ds'=>match G ds' with
          |some (.ok r)=>M.pure r.rv
          | _=>M.st) Γ1) _ _:=w
         rw[zab] at w
         obtain⟨ds2,Γ2,R2,p2,s2,r2,w⟩:=zaY er p1 hx w
         refine⟨R2,ds2,p2.er.sub,r2,?_⟩
         cases hG2:G ds2 with
         |none=>rw[hG2] at w;exact False.elim w
         |some r' =>
           rw[hG2] at w
           cases r' with
           |ex y=>exact False.elim w
           |ok r'=>exact fun x H' R' al ra=>w x H' R' (p2.al al) (ra.rv (p2.back er))
     · have hv:rvs.any zcE=false:=by cases z:rvs.any zcE<;>simp_all
       rw[hv] at w
       have w:∀ x H' R',EPo ios R H σ Γ R' H' Γ1->RvR R' H H' σ x r.rv->Q x H':=w
       refine⟨R1,ds',p1.er.sub,zfW hx hv q,?_⟩
       rw[hG]
       exact fun x H' R' al ra=>w x H' R' (p1.al al) (ra.rv (p1.back er))
def zm2(P:Program)(w:World)(mg:Str->Option Value)(base:Heap)(x:Str)(k:Nat)(ps:List Str)(sp:Sp):Prop:=∃ f fd,FnOk P w KC.K mg base (CXe P w) k f fd ps sp/\mg x=some (.ref f)/\W.keepIn KC.K (.ref f)=true/\Binds KC.K fd ps []
theorem zl2{G:List D->Option Rx}{x:Str}{k:Nat}{ps:List Str}{p0:Pos}(hX:XOk X EE)(C:zm2 X.prog X.w X.mg X.base x k ps (spX G))(hr:Room k X.A)(hg:Gl X x)(ha:VA X EE ios (e::es) fs)(hK:X.K=KC.K:=by rfl)(hdb:(x == ("__debug__" : Str))=false:=by decide)
 (he:starEach (e::es) X.env=(false,eval e X.env)::starEach es X.env:=by rfl) (hpl:(backTo pos (starEach es X.env)).any (·.1)=false:=by rfl):VE X EE ios (.Call (.Name x p0) (e::es) [] pos) (zhe G fs):=by
 obtain⟨f,fd,F,hm,hk,hb⟩:=C
 rw[<- hK] at F hk hb
 exact zkK (fun t h=>zk8 F hr hg hm hk hb .nil hX h hdb he hpl) ha
theorem znG{P:Program}{w:World}{mg:Str->Option Value}{base:Heap}{x:Str}{k:Nat}{N ps:List Str}{G:List D->Option Rx}{bm:M Fl}(A0:At mg x st)(S:FnScope N ps (defScope st))
 (bd:∀ (kV doc pm:Value) (an:Option Addr) (cdv ct:Value) (us:List Value),us.length=ps.length->bindArgs (W.fnOf x x (defArgs st) (defBody st) (defScope st) .none kV doc pm an cdv ct) ⟨us,[]⟩=pure (ps.zip us))
 (hb:∀ (fa:Addr) (cdv:Value) (A:Around) (outer:List Env) (s:Shared) (H:Hp) (E:XK),Room k (A.deeper (PyProof.Rows.envOfC x (defScope st) s.heap.objs.size fa cdv))->VSs (zcG (CXe P w) P w KC.K mg base N x (defScope st) fa cdv A outer s H E) (fun _=>E) [] (defBody st) bm)
 (h:∀ ds r,G ds=some r->ds.length=ps.length/\zkn (bm (gam N ds))=some r):zm2 P w mg base x (k+1) ps (spX G) :=
 let ⟨f,fd,F,hm,hk⟩:=A0
 ⟨f,fd,zlD F S (hb f) h,hm,hk,F.binds bd⟩
def zkT(n:Nat)(N:List Str)(bm:M Fl):List D->Option Rx:=fun ds=>if ds.length=n then zkn (bm (gam N ds)) else none
theorem zob{n:Nat}{N:List Str}{bm:M Fl}{ds:List D}{r:Rx}(h:zkT n N bm ds=some r):ds.length=n/\zkn (bm (gam N ds))=some r:=by
 unfold zkT at h
 split at h
 · rename_i c;exact⟨c,h⟩
 · cases h
end
section
variable{X:Cx}{EE:XKS}{ios:List Addr}{e a b c:Expr}{es:List Expr}{f g:M RV}{fs:M (List RV)}{p:M Bool}{s s':M Fl}{st:Stmt}{sts sts':List Stmt}{pos cpos p0:Pos}{x:Str}
theorem zpe{R H:Hp}{p:Addr}{o:HO}(s:Same R H)(hp:H p=none):Al R H R (upd H p o) :=
 ⟨fun b u e=>by rw[zaf (zaq (s _ _ e) hp)];exact s _ _ e,Same.refl _,zaI hp,fun _ _ _ r=>r⟩
def zqj(C:Addr)(y z:Str):Sp:=fun vs H Q _=>∃ a v u fr,vs=[.ref a,v,u]/\H a=some (ExO C a none fr)/\∀ d,H d=none->d≠a->Q .non (upd (upd (upd H d (ExD d [(y,v)])) a (ExO C a (some d) fr)) d (ExD d [(y,v),(z,u)]))
structure Ini(P:Program)(w:World)(mg:Str->Option Value)(base:Heap)(C:Cn)(ps:List Str)(sp:Sp):Prop where
 ex:∃ fI fd,XMk KC.K (KC.cls C) fI/\FnOk P w KC.K mg base CX0 1 fI fd ps sp/\Binds KC.K fd ps []
 z:XK0 KC.K (KC.cls C)
def zge(C:Cn)(ns:List Str)(fs:M (List RV)):M Fl:=M.bind fs fun rvs=>M.bind (zaE rvs) fun ds=>if ds.length=ns.length/\ds.length<=1000 then M.thr ⟨C,ns.zip ds⟩ else M.st
theorem zkR{C:Cn}{y y':Str}{k:Nat}(hX:XOk X EE)(I:Ini X.prog X.w X.mg X.base C ["self",y,y'] (zqj (KC.cls C) y y'))(hr:Room k X.A)(hk:2<=k)(hm:X.mg x=some (.ref (KC.cls C)))(ha:VA X EE ios (e::es) fs)(hg:Gl X x:=by rfl)(hc:X.calm=true:=by rfl)(hK:X.K=KC.K:=by rfl)(hdb:(x == ("__debug__" : Str))=false:=by decide)
 (he:starEach (e::es) X.env=(false,eval e X.env)::starEach es X.env:=by rfl) (hpl:(backTo cpos (starEach es X.env)).any (·.1)=false:=by rfl):VS X EE ios (.Raise (some (.Call (.Name x p0) (e::es) [] cpos)) none pos) (zge C [y,y'] fs):=by
 obtain⟨t,h1,h2⟩:=ha
 obtain⟨⟨fI,fd,i1,i2,i3⟩,z⟩:=I
 refine⟨_,zl8 hX hc (by rw[hK];exact i1) (by rw[hK];exact z) (by rw[hK];exact i2) (hr.mono hk) hg hm (by rw[hK];exact i3) .nil h1 hdb he hpl,fun σ H R Γ D er w=>?_⟩
 unfold zge at w
 rw[zab] at w
 refine h2 σ H R Γ _ er (zac w (fun rvs Γ1 w xs H1 R1 p1 hx=>?_) fun _ _ z=>z.exp)
 rw[zab] at w
 obtain⟨ds,Γ2,R2,p2,s2,r2,w⟩:=zaY er p1 hx w
 split at w
 · rename_i hl
   obtain⟨hl,hl2⟩:=hl
   match ds,hl with
   | [d,d2],_ =>
     obtain⟨v,v2,rfl,rv,rv2⟩:∃ v v2,xs=[v,v2]/\Rp R2 v d/\Rp R2 v2 d2:=by cases r2 with | cons rv r=>cases r with | cons rv2 r=>cases r;exact⟨_,_,rfl,rv,rv2⟩
     refine⟨by simp,fun a na=>?_⟩
     refine⟨a,v,v2,true,rfl,zal,fun d' nd ne=>⟨rfl,some d',by rw[zaf (Ne.symm ne),zal],?_⟩⟩
     have nd1:H1 d'=none:=by rwa[zaf ne] at nd
     have fa:R2 a=none:=p2.er.sub.free na
     have fd':R2 d'=none:=p2.er.sub.free nd1
     refine w a σ _ R2 (p2.al ⟨fun b u q=>?_,Same.refl _,fun b u q=>?_,fun _ _ _ r=>r⟩).spo ⟨fa,p2.since _ na,.inr ⟨d',[(y,v),(y',v2)],zal,?_,fd',p2.since _ nd1,rfl,.cons rv (.cons rv2 .nil)⟩⟩
     · have q':=p2.er.sub _ _ q
       rw[zaf (zaq q' na),zaf (zaq q' nd1),zaf (zaq q' na),zaf (zaq q' nd1),zaf (zaq q' na)];exact q'
     · rw[zaf (zaq q na),zaf (zaq q nd1),zaf (zaq q na),zaf (zaq q nd1),zaf (zaq q na)];exact q
     · rw[zaf ne,zal]
 · exact False.elim w
def zrY(EE:XKS)(ios:List Addr)(f:M Fl):TS:=fun D σ H=>∃ R Γ,ER ios R H σ Γ/\wpM (f Γ) (FlK ios R H σ Γ D) (EXS EE ios R H σ Γ)
theorem VSs.pss(h:VSs X EE ios sts s):PSs X sts (zrY EE ios s):=let ⟨_,h1,h2⟩:=h;fun pins s σ H D I ⟨R,Γ,er,w⟩=>h1 pins s σ H D I (h2 σ H R Γ D er w)
def zfL(x:Xc):D:=.ins x.C (x.fs.map (·.1)) (x.fs.map (·.2))
def zmE(mt:Cn->Bool)(i:Nat)(body suite:M Fl):M Fl:=fun Γ=>match body Γ with
 | .ok fl Γ'=>.ok fl Γ'
 | .ex x Γ'=>if mt x.C then match suite (Γ'.set i (some (.frz,zfL x))) with
  | .ok .nx Γ''=>.ok .nx (Γ''.set i none)
  | _=>.st
   else .st
 | .st=>.st
theorem SPo.ext1{R H R1 H1:Hp}{σ σ1:St}{Γ Γ1:En}{a:Addr}(p:SPo ios R H σ Γ R1 H1 σ1 Γ1)(ra:R1 a=none)(h0:H a=none)(no : ¬ Ow σ1 Γ1 a):SPo ios R H σ Γ (ext R1 H1 a) H1 σ1 Γ1:=by
 have rr:Same R1 (ext R1 H1 a):=zcy ra
 refine⟨⟨zeK p.er.sub,p.er.len,fun j t hj=>?_,p.er.dj⟩,⟨p.go.rr.trans rr,p.go.hh,fun b o hb nb rb=>?_,p.go.oo,p.go.th⟩⟩
 · obtain⟨v,hv,s⟩:=p.er.sl j t hj
   refine⟨v,hv,s.mono rr fun ho b ys eb hb rb=>⟨hb,?_⟩⟩
   rw[zcu]
   · exact rb
   · rintro rfl
     subst eb
     exact no ⟨j,t.1,t.2,hj,ho,hv⟩
 · rw[zcu]
   · exact p.go.no b o hb nb rb
   · rintro rfl
     rw[h0] at hb;cases hb
theorem zln{σ:St}{Γ:En}{i:Nat}{b:Addr}(h:Ow (σ.set i none) (Γ.set i none) b):Ow σ Γ b:=by
 obtain⟨j,k,d,h1,h2,h3⟩:=h
 by_cases hj:j=i
 · subst hj
   rw[List.getElem?_set] at h1
   simp at h1
 · rw[List.getElem?_set_ne (Ne.symm hj)] at h1 h3
   exact⟨j,k,d,h1,h2,h3⟩
theorem SPo.unset{R H:Hp}{σ:St}{Γ:En}{i:Nat}(er:ER ios R H σ Γ):SPo ios R H σ Γ R H (σ.set i none) (Γ.set i none):=by
 have ne:∀ {j:Nat} {t:Kd×D},(Γ.set i none)[j]? = some (some t)->j≠i/\Γ[j]? = some (some t):=fun {j t} h=>by
  by_cases hj:j=i
  · subst hj
    rw[List.getElem?_set] at h
    simp at h
  · exact⟨hj,by rwa[List.getElem?_set_ne (Ne.symm hj)] at h⟩
 refine⟨⟨er.sub,by rw[List.length_set,List.length_set];exact er.len,fun j t hj=>?_,fun j j' l l' d d' b q1 q2 q3 q4 q5 q6=>?_⟩,⟨Same.refl _,fun _ _ h _=>h,fun _ _ _ _ r=>r,fun b z=>.inl (zln z),fun b o h=>⟨o,h⟩⟩⟩
 · obtain⟨n1,n2⟩:=ne hj
   obtain⟨v,hv,s⟩:=er.sl j t n2
   exact⟨v,by rw[List.getElem?_set_ne (Ne.symm n1)];exact hv,s⟩
 · obtain⟨n1,n2⟩:=ne q1
   obtain⟨m1,m2⟩:=ne q3
   rw[List.getElem?_set_ne (Ne.symm n1)] at q5
   rw[List.getElem?_set_ne (Ne.symm m1)] at q6
   exact er.dj j j' l l' d d' b n2 q2 m2 q4 q5 q6
theorem caught{R H R1 H1:Hp}{σ σ1:St}{Γ Γ1:En}{x:Xc}{e:Addr}(p:SPo ios R H σ Γ R1 H1 σ1 Γ1)(h:XcR R1 H H1 e x):∃ R2,SPo ios R H σ Γ R2 H1 σ1 Γ1/\Rp R2 (.ref e) (zfL x):=by
 obtain⟨re,h0,h⟩:=h
 have no:∀ b (o:HO),H1 b=some o->(∀ xs,o ≠ .lst xs) -> ¬ Ow σ1 Γ1 b:=fun b o hb hn z=>by
  obtain⟨_,xs,q⟩:=p.er.ow z
  rw[hb] at q
  cases q
  exact hn xs rfl
 rcases h with ⟨hf,he⟩ | ⟨d,fs,he,hd,rd,d0,hn,hv⟩
 · refine⟨ext R1 H1 e,p.ext1 re h0 (no e _ he (by intro xs z;cases z)),?_⟩
   unfold zfL
   rw[hf]
   exact .exc0 (by rw[zcP];exact he)
 · have p2:=p.ext1 re h0 (no e _ he (by intro xs z;cases z))
   have s2:Same R1 (ext R1 H1 e):=zcy re
   by_cases ed:d=e
   · subst ed
     refine⟨_,p2,?_⟩
     unfold zfL
     rw[<- hn]
     exact .exc (by rw[zcP];exact he) (by rw[zcP];exact hd) (hv.sm s2)
   · have rd2:ext R1 H1 e d=none:=by rw[zcu ed];exact rd
     have s3:Same (ext R1 H1 e) (ext (ext R1 H1 e) H1 d):=zcy rd2
     refine⟨_,p2.ext1 rd2 d0 (no d _ hd (by intro xs z;cases z)),?_⟩
     unfold zfL
     rw[<- hn]
     exact .exc (by rw[zcu (Ne.symm ed),zcP];exact he) (by rw[zcP];exact hd) (hv.sm (s2.trans s3))
theorem zps{K:W.Frag}{cs:List Value}{i:Nat}{tb:XKS->TS}{ts:TS}{mt:Cn->Bool}(hm:∀ C,mt C=true->matchIn K (KC.cls C) cs=some true)(hb:∀ EE',RdS EE' ios (tb EE') s)(hs:RdS EN ios ts s'):RdS EE ios (zqw K cs i tb ts) (zmE mt i s s'):=by
 intro σ H R Γ D er w
 unfold zmE at w
 refine hb _ σ H R Γ D er ?_
 cases h:s Γ with
 |st=>rw[h] at w;exact w
 |ok fl Γ'=>rw[h] at w;exact w
 |ex x Γ' =>
   rw[h] at w
   dsimp only at w
   split at w
   · rename_i c
     intro e σ1 H1 R1 p xr
     refine⟨e,KC.cls x.C,rfl,rfl,hm _ c,?_⟩
     obtain⟨R2,p2,rp⟩:=caught p xr
     have p3:SPo ios R H σ Γ R2 H1 (σ1.set i (some (.ref e))) (Γ'.set i (some (.frz,zfL x))):=p2.trans (SPo.set (s:=(.frz,zfL x)) p2.er (EPo.refl p2.er) rp fun z=>nomatch z)
     refine hs _ H1 R2 _ _ p3.er ?_
     cases h2:s' (Γ'.set i (some (.frz,zfL x))) with
     |st=>rw[h2] at w;exact w.elim
     |ex _ _=>rw[h2] at w;exact w.elim
     |ok fl Γ2 =>
       rw[h2] at w
       cases fl with
       |nx =>
         intro σ4 H4 R4 p4
         exact w (σ4.set i none) H4 R4 ((p3.trans p4).trans (SPo.unset p4.er))
       |brk=>exact w.elim
       |cont=>exact w.elim
       |ret _=>exact w.elim
   · exact w.elim
theorem zoU{i:Nat}{n:Str}{cs:List Value}{k1 p1 hpos}{b0:Stmt}{suite:List Stmt}{mt:Cn->Bool}(hN:X.N.Nodup)(hi:X.N[i]? = some n)(hl:X.env.scope.names.lookup n=some .local)(hes:PN X es cs)(hcs:cs.length<=1000)(hm:∀ C,mt C=true->matchIn KC.K (KC.cls C) cs=some true)
 (hb:∀ E' pn' EE',XOk (X.body E' pn') EE'->VSs (X.body E' pn') EE' ios sts s) (hs:∀ a,VSs (X.hand (.ref a) fun _ _=>False) EN ios (b0::suite) s') (hst:X.stack=X.env::X.outer/\X.env.frame=some X.env.locals:=by exact⟨rfl,rfl⟩) (hK:X.K=KC.K:=by rfl) :
 VS X EE ios (.Try sts [.ExceptHandler (some (.Tuple es k1 p1)) (some n) (b0::suite) hpos] [] [] pos) (zmE mt i s s') :=
 ⟨_,zpI hst hN hi hl hes hcs (fun E' pn' EE' ok=>(hb E' pn' EE' ok).pss) (fun a=>(hs a).pss),zps (by rw[hK];exact hm) (fun EE' σ H R Γ D er w=>⟨R,Γ,er,w⟩) fun σ H R Γ D er w=>⟨R,Γ,er,w⟩⟩
def sub(C T:Cn):Bool:=C == T || (T == .PointError && (match C with
 | .NoPoints | .NoBox | .NoAsks | .NoRun | .NoText | .NoTurn | .NoTree | .NoTop | .NotServed | .NoRow=>true
 | _=>false))
def zjH(L:List Cn)(T:Cn):D->Option RV
 | .scr _=>none
 | .obj _ _ _=>none
 | .ins C _ _=>if L.contains C then some (.val (.bl (sub C T))) else none
 | _=>some (.val (.bl false))
def zcS(L:List Cn)(T:Cn)(f:M RV):M RV:=M.bind (zex f) fun x=>M.bind (peek x) fun d=>M.ofO (zjH L T d)
def tyNs:List String:=["NoneType","bool","int","str","list","tuple","dict"]
structure KitX(L:List Cn)(T:Cn):Prop where
 own:∀ C,L.contains C=true->W.kitOne KC.K (.ref (KC.cls C)) (.ref (KC.cls T))=some (sub C T)/\XC KC.K (KC.cls C)
 no:∀ t∈tyNs,W.kitOne KC.K (.type t) (.ref (KC.cls T))=some false
theorem zpi{d:D}(h:plain d=true):tyN d∈tyNs:=by cases d<;>first | (cases h;done) | simp[tyN,tyNs]
theorem za7{L:List Cn}{T:Cn}{e0:Expr}(kit:KitX L T)(hp:∀ t,PE X a t->PE X e0 (tCB (fun xs H Q=>∃ x c t cv b,xs=[x,c]/\znZ c=some cv/\TyX X.K H x t/\W.kitOne X.K t cv=some b/\Q (.bl b) H) (zdp t (zdp (tC (.ref (KC.cls T))) zkt))))(ha:VE X EE ios a f)(hK:X.K=KC.K:=by rfl):VE X EE ios e0 (zcS L T f):=by
 obtain⟨t,h1,h2⟩:=ha
 refine⟨_,hp t h1,fun σ H R Γ Q er w=>?_⟩
 unfold zcS at w
 rw[zab] at w
 refine zgx h2 er (zac w (fun rx Γ1 w x H1 R1 p1 hx=>?_) fun _ _ z=>z)
 rw[zab] at w
 obtain⟨d,pd,w⟩:=zbt (H:=H) p1.er hx.rv w
 have hv:=pd.hv p1.er.sub
 obtain⟨rv,hg,w⟩:=zbe w
 by_cases pl:plain d=true
 · have hg:rv = .val (.bl false):=by cases d<;>first | (cases pl;done) | exact(Option.some.inj hg).symm
   subst hg
   exact⟨x,.ref (KC.cls T),_,_,_,rfl,rfl,.inl (hv.ty pl),by rw[hK];exact kit.no _ (zpi pl),w _ H1 R1 p1 (.bl _)⟩
 · cases d with
   |ins C ns vs =>
     unfold zjH at hg
     dsimp only at hg
     split at hg
     · rename_i hc
       cases hg
       obtain⟨k1,k2⟩:=kit.own C hc
       have ty:∃ a,x = .ref a/\ExAt H1 a (KC.cls C):=by
        cases hv with
        |exc0 q=>exact⟨_,rfl,false,.inl q⟩
        |exc q q' _=>exact⟨_,rfl,false,.inr ⟨_,_,q,q'⟩⟩
       obtain⟨a',rfl,ea⟩:=ty
       exact⟨.ref a',.ref (KC.cls T),.ref (KC.cls C),_,_,rfl,rfl,.inr ⟨a',KC.cls C,rfl,rfl,ea,by rw[hK];exact k2⟩,by rw[hK];exact k1,w _ H1 R1 p1 (.bl _)⟩
     · cases hg
   |scr _=>cases hg
   |obj _ _ _=>cases hg
   | _=>exact absurd rfl pl
end
section
variable{X:Cx}{EE:XKS}{ios:List Addr}{e a b c:Expr}{es:List Expr}{f g:M RV}{fs:M (List RV)}{p:M Bool}{pos p0 p1 p2 pos':Pos}
def zmB(r:V->List V->Hp->VK->Prop)(g:List D->List D->Option D):Prop:=∀ R H p xs ds ys es res (Q:VK),Same R H->H p=some (.lst xs)->Rps R xs ds->Rps R ys es->g ds es=some res->(∀ z,Rp R z res->Q z H)->r (.ref p) ys H Q
def ziV(i:Nat):M Unit:=fun Γ=>match Γ[i]? with
 |some (some (_,.lst _))=>.ok () Γ
 | _=>.st
def zgo(i:Nat)(g:List D->List D->Option D)(es:List D):M RV:=fun Γ=>match Γ[i]? with
 |some (some (_,.lst ds))=>match g ds es with
   |some r=>.ok (.val r) Γ
   |none=>.st
 | _=>.st
def zkz(i:Nat)(g:List D->List D->Option D)(fs:M (List RV)):M RV:=M.bind (ziV i) fun _=>M.bind fs fun rvs=>M.bind (zaE rvs) fun es=>zgo i g es
theorem zhg{R H:Hp}{σ:St}{Γ:En}{i:Nat}{kd:Kd}{ds:List D}(er:ER ios R H σ Γ)(q:Γ[i]? = some (some (kd,.lst ds))):∃ a xs,σ[i]? = some (some (.ref a))/\H a=some (.lst xs)/\Rps R xs ds:=by
 obtain⟨v,hv,s⟩:=er.sl i _ q
 obtain⟨a,xs,rfl,h1,h2⟩:=s.pk.lst er.sub
 exact⟨a,xs,hv,h1,h2⟩
theorem zgY{i:Nat}{r:V->List V->Hp->VK->Prop}{g:List D->List D->Option D}{e0:Expr}(hp:∀ t,PA X es t->PE X e0 (tBM X.K "list" r (zfG i) t))(hv:zmB r g)(ha:VA X EE ios es fs):VE X EE ios e0 (zkz i g fs):=by
 obtain⟨t,h1,h2⟩:=ha
 refine⟨_,hp t h1,fun σ H R Γ Q er w=>?_⟩
 unfold zkz at w
 rw[zab] at w
 unfold ziV at w
 split at w
 · rename_i kd ds0 q0
   obtain⟨a,xs0,hσ,ha0,_⟩:=zhg er q0
   refine⟨_,hσ,zjs ha0,?_⟩
   have w:=zcZ w
   rw[zab] at w
   refine h2 σ H R Γ _ er (zac w (fun rvs Γ1 w ys H1 R1 p1 hx=>?_) fun _ _ z=>z)
   rw[zab] at w
   obtain⟨es',Γ2,R2,p2,s2,r2,w⟩:=zaY er p1 hx w
   unfold zgo at w
   split at w
   · rename_i kd' ds q
     split at w
     · rename_i res hg
       obtain⟨a',xs,hσ',h3,h4⟩:=zhg p2.er q
       rw[hσ] at hσ'
       cases hσ'
       exact hv R2 H1 a xs ds ys es' res Q p2.er.sub h3 h4 r2 hg fun z rz=>w z H1 R2 p2 rz
     · exact False.elim w
   · exact False.elim w
 · exact False.elim w
def zgf(ds es:List D):Option D:=match es with
 | [e]=>if zeN e && ds.all zeN then some (.int (ds.countP fun z=>eqF z e)) else none
 | _=>none
theorem zeP{R:Hp}:∀ {xs:List V} {ds:List D},Rps R xs ds->xs.all zcF=ds.all zeN
 | _,_,.nil=>rfl
 | _,_,.cons a b=>by rw[List.all_cons,List.all_cons,a.flat,zeP b]
theorem zfX{R:Hp}{y:V}{e:D}(r:Rp R y e):∀ {xs:List V} {ds:List D},Rps R xs ds->(xs.countP fun z=>eqV z y)=ds.countP fun z=>eqF z e
 | _,_,.nil=>rfl
 | _,_,.cons a b=>by rw[List.countP_cons,List.countP_cons,zfX r b,a.eqf r]
theorem zh8:zmB zmg zgf:=by
 intro R H p xs ds ys es res Q s hp hx hy hg q
 unfold zgf at hg
 split at hg
 · split at hg
   · rename_i c
     cases hg
     rw[Bool.and_eq_true] at c
     cases hy with
     |cons r hy =>
       cases hy
       refine⟨p,xs,_,rfl,rfl,hp,by rw[r.flat];exact c.1,by rw[zeP hx];exact c.2,?_⟩
       rw[zfX r hx]
       exact q _ (.int _)
   · cases hg
 · cases hg
def zfA(ds es:List D):Option D:=match es with
 | [e]=>if zeN e && ds.all zeN && decide (ds.length<=1000) then (ds.findIdx? fun z=>eqF z e).map fun j=>.int j else none
 | _=>none
theorem zeZ:zmB zlK zfA:=by
 intro R H p xs ds ys es res Q s hp hx hy hg q
 unfold zfA at hg
 split at hg
 · rename_i e
   split at hg
   · rename_i c
     simp only[Bool.and_eq_true,decide_eq_true_eq] at c
     cases h:ds.findIdx? fun z=>eqF z e with
     |none=>rw[h] at hg;cases hg
     |some j =>
       rw[h] at hg
       cases hg
       cases hy with
       |cons r hy =>
         cases hy
         obtain⟨hj,h1,h2⟩:=List.findIdx?_eq_some_iff_getElem.mp h
         have lt:j<xs.length:=by rw[hx.len];exact hj
         have eqa:∀ (m:Nat) (hm:m<xs.length) (hm':m<ds.length),eqV xs[m] _=eqF ds[m] e:=fun m hm hm'=>by
          obtain⟨d,e1,e2⟩:=hx.at (List.getElem?_eq_getElem hm)
          rw[List.getElem?_eq_getElem hm'] at e1
          cases e1
          exact e2.eqf r
         refine⟨p,xs,_,j,rfl,rfl,hp,by rw[r.flat];exact c.1.1,by rw[zeP hx];exact c.1.2,⟨xs[j],List.getElem?_eq_getElem lt,by rw[eqa j lt hj];exact h1⟩,fun m w hm hw=>?_,by omega,q _ (.int _)⟩
         have lm:m<xs.length:=by omega
         rw[List.getElem?_eq_getElem lm] at hw
         cases hw
         rw[eqa m lm (by omega)]
         simpa using h2 m hm
   · cases hg
 · cases hg
def zlz(L:List Cn)(y:Str)(f:M RV):M RV:=M.bind f fun x=>M.bind (mat x) fun d=>match d with
 | .ins C ns vs=>if L.contains C then M.ofO (((ns.zip vs).lookup y).map .val) else M.st
 | _=>M.st
theorem zfB{R:Hp}{y:Str}:∀ {fs:List (Str×V)} {vs:List D} {d:D},Rps R (fs.map (·.2)) vs->((fs.map (·.1)).zip vs).lookup y=some d->∃ v,fs.lookup y=some v/\Rp R v d
 | [],_,_,h,e=>by cases h;cases e
 | (n,v)::r,_,d,h,e=>by
   cases h with
   |cons a b =>
     rw[List.map_cons,List.zip_cons_cons,List.lookup_cons] at e
     rw[List.lookup_cons]
     cases q:y == n with
     |true =>
       rw[q] at e
       simp only at e
       cases e
       exact⟨v,rfl,a⟩
     |false =>
       rw[q] at e
       exact zfB b e
theorem zjN{L:List Cn}{y:Str}(hA:∀ C,L.contains C=true->XC KC.K (KC.cls C)/\NoAttr KC.K (KC.cls C) y)(ha:VE X EE ios e f)(hb:attributeBase e y X.env (eval e X.env)=eval e X.env)(hK:X.K=KC.K:=by rfl):VE X EE ios (.Attribute e y pos) (zlz L y f):=by
 obtain⟨t,h1,h2⟩:=ha
 refine⟨_,zm4 h1 hb,fun σ H R Γ Q er w=>?_⟩
 unfold zlz at w
 rw[zab] at w
 refine h2 σ H R Γ _ er (zac w (fun rx Γ1 w x H1 R1 p1 hx=>?_) fun _ _ z=>z)
 rw[zab] at w
 obtain⟨d,Γ2,R2,p2,s2,r2,w⟩:=zbB er p1 hx w
 cases d with
 |ins C ns vs =>
   dsimp only at w
   split at w
   · rename_i hc
     obtain⟨rv,hg,w'⟩:=zbe w
     obtain⟨d,hd,rfl⟩:=Option.map_eq_some_iff.mp hg
     obtain⟨k1,k2⟩:=hA C hc
     clear w
     cases r2 with
     |exc0 q=>cases hd
     |exc q q' hv =>
       obtain⟨v,l1,l2⟩:=zfB hv hd
       exact⟨_,_,_,_,_,v,rfl,p2.er.sub _ _ q,p2.er.sub _ _ q',by rw[hK];exact k1,by rw[hK];exact k2,l1,w' v H1 R2 p2 l2⟩
   · exact False.elim w
 | _=>exact False.elim w
end
end Dv
namespace Dv
open PySem L2 Ex
section
variable{Γ Γ':En}{f g:M RV}{fs:M (List RV)}{p:M Bool}{s s':M Fl}{d:D}{i:Nat}{x:Xc}{C T:Cn}{L:List Cn}{y:Str}
@[simp] theorem r_thr{α:Type}:(M.thr x:M α) Γ = .ex x Γ:=(rfl)
@[simp] theorem r_callX{G:List D->Option Rx}:zhe G fs Γ=M.bind fs (fun rvs=>M.bind (zaz rvs) fun ds=>match G ds with
 |some (.ok r)=>if rvs.any zcE && !zcQ r then M.bind (zaE rvs) fun ds'=>match G ds' with
  |some (.ok r)=>M.pure r.rv
  | _=>M.st
   else M.pure r.rv
 |some (.ex x)=>M.bind (zaE rvs) fun ds'=>match G ds' with
  |some (.ex x)=>M.thr x
  | _=>M.st
 |none=>M.st) Γ:=(rfl)
@[simp] theorem r_raise{ns:List Str}:zge C ns fs Γ=M.bind fs (fun rvs=>M.bind (zaE rvs) fun ds=>if ds.length=ns.length/\ds.length<=1000 then M.thr ⟨C,ns.zip ds⟩ else M.st) Γ:=(rfl)
@[simp] theorem r_try{mt:Cn->Bool}:zmE mt i s s' Γ=match s Γ with
 | .ok fl Γ'=>.ok fl Γ'
 | .ex x Γ'=>if mt x.C then match s' (Γ'.set i (some (.frz,zfL x))) with
  | .ok .nx Γ''=>.ok .nx (Γ''.set i none)
  | _=>.st
   else .st
 | .st=>.st:=(rfl)
@[simp] theorem r_isiX:zcS L T f Γ=M.bind (zex f) (fun x=>M.bind (peek x) fun d=>M.ofO (zjH L T d)) Γ:=(rfl)
@[simp] theorem r_fldX:zlz L y f Γ=M.bind f (fun x=>M.bind (mat x) fun d=>match d with
 | .ins C ns vs=>if L.contains C then M.ofO (((ns.zip vs).lookup y).map .val) else M.st
 | _=>M.st) Γ:=(rfl)
@[simp] theorem r_metR{m:List D->List D->Option D}:zkz i m fs Γ=M.bind (ziV i) (fun _=>M.bind fs fun rvs=>M.bind (zaE rvs) fun es=>zgo i m es) Γ:=(rfl)
@[simp] theorem r_recvR:ziV i Γ=match Γ[i]? with
 |some (some (_,.lst _))=>.ok () Γ
 | _=>.st:=(rfl)
@[simp] theorem r_metRGo{m:List D->List D->Option D}{es:List D}:zgo i m es Γ=match Γ[i]? with
 |some (some (_,.lst ds))=>(match m ds es with
   |some r=>.ok (.val r) Γ
   |none=>.st)
 | _=>.st:=(rfl)
end
end Dv
namespace L2
open PySem PySem.Spec PyProof.Rows Ex
section
variable{X:Cx}
theorem call_repr_s:CallR X (.builtin "repr") (fun xs H Q=>∃ x:Str,xs=[.str x]/\(reprText x).length<=sizeLine/\Q (.str (reprText x)) H):=by
 intro pins s σ H xs us Q I r h
 obtain⟨x,rfl,hx,q⟩:=h
 obtain⟨u,rfl,ru⟩:=r.one
 obtain⟨t,rfl⟩:=ru
 exact PySem.P.repr_of_str ⟨.str (reprText x),H,I.kept (fun _ _ e=>e),⟨_,rfl⟩,q⟩ hx
end
section
variable{X:Cx}
theorem Inv.drawn{pins:List (Addr×Obj)}{σ:List (Option V)}{H:Hp}{s:Shared}(I:Inv X pins σ H s)(d:Drawn):Inv X pins σ H { s with drawn:=d }:=⟨I.ok,I.os,I.bare,I.base,I.loc,I.cell,I.free,I.freeC,I.pin,I.hok,I.len⟩
theorem call_repr_b:CallR X (.builtin "repr") (fun xs H Q=>∃ b:Bool,xs=[.bl b]/\Q (.str (if b then "True" else "False")) H):=by
 intro pins s σ H xs us Q I r h
 obtain⟨b,rfl,q⟩:=h
 obtain⟨u,rfl,ru⟩:=r.one
 cases ru
 exact PySem.P.repr_of_bool ⟨.str _,H,I.kept (fun _ _ e=>e),⟨_,rfl⟩,q⟩
end
end L2
namespace Ex
open PySem PySem.Spec PyProof.Rows
theorem zms(el tg src:Expr)(ifs:List Expr)(sc:Scope)(pos:Pos)(it acc:Value)(env:Env):compTurn (.SetComp el [⟨tg,src,ifs,0⟩] sc pos) 0 it acc env=(do
 standAt src.pos
 match <- pyNext it with
 |none=>pure (.done .next)
 |some v =>
   letOwnedTupleGo tg it v
   assign tg env v
   let mut ok:=true
   for c in ifs do
    if ok then ok <- isTrue c env (eval c env)
   if ok then (do let v <- eval el env;standAt el.pos;let _ <- call (.builtin "set.add") [acc,v])
   again (.compLoop (.SetComp el [⟨tg,src,ifs,0⟩] sc pos) 0 it acc env)):=rfl
abbrev znj(M:Model)(A:Around)(env:Env)(tg:Expr)(it:Value)(ifs:List Expr)(el:Expr)(acc:Value)(N:Value->Shared->Prop)(next:Shared->Prop)(v:Value)(s:Shared):Prop :=
 wpAny M A (letOwnedTupleGo tg it v) (fun _ a=>wpAny M A (assign tg env v) (fun _ b =>
  wpAny M A (forIn ifs true fun c r=>if r=true then do let ok <- isTrue c env (eval c env);pure (ForInStep.yield ok) else pure (ForInStep.yield r)) (fun yes c =>
   if yes=true then wpAny M A (eval el env) (fun y d=>wpAny M A (standAt el.pos) (fun _ d'=>wpAny M A (call (.builtin "set.add") [acc,y]) (fun _=>next) N d') N d) N c else next c) N b) N a) N s
theorem ziI{prog:Program}{w:World}{A:Around}{R:Result->Shared->Prop}{s:Shared}{el tg src:Expr}{ifs:List Expr}{sc:Scope}{pos:Pos}{it acc:Value}{env:Env}(J:Nat->Shared->Prop)(n:Nat)(start:J n s)
 (turn:∀ n s,J n s->wpAny (model prog w) A (pyNext it) (fun r a=>match r with
  |none=>R (.ok .next) a
  |some v=>znj (model prog w) A env tg it ifs el acc (notedBy (model prog w) A env fun x=>R (.error x)) (fun b=>∃ m,m<n/\J m b) v a) (notedBy (model prog w) A env fun x=>R (.error x)) s) :
 codeAny (model prog w) A (.compLoop (.SetComp el [⟨tg,src,ifs,0⟩] sc pos) 0 it acc env) R s:=by
 apply codeAny_loop rfl J _ n start
 intro n s j
 change wpAny _ A (Sem.onRaise (compTurn (.SetComp el [⟨tg,src,ifs,0⟩] sc pos) 0 it acc env) fun x=>do noteFrame x env;theTreesLotGoes x) _ _ s
 apply wpAny_noted;rw[zms]
 apply wpAny_bind;apply wpAny_standAt;apply wpAny_bind;apply wpAny_mono (turn n s j) _ fun _ _ z=>z
 intro r a k
 cases r with
 |none=>exact wpAny_pure k
 |some v =>
   apply wpAny_bind;apply wpAny_mono k _ fun _ _ z=>z;intro _ b k
   apply wpAny_bind;apply wpAny_mono k _ fun _ _ z=>z;intro _ c k
   apply wpAny_bind;apply wpAny_mono k _ fun _ _ z=>z;intro yes d k
   cases yes
   · exact wpAny_pure (And.intro rfl k)
   · apply wpAny_bind;apply wpAny_bind;apply wpAny_mono k _ fun _ _ z=>z;intro y e k
     apply wpAny_bind;apply wpAny_mono k _ fun _ _ z=>z;intro _ e' k
     apply wpAny_bind;apply wpAny_mono k _ fun _ _ z=>z;intro _ f k
     exact wpAny_pure (wpAny_pure (And.intro rfl k))
theorem zg5{prog:Program}{w:World}{A:Around}{R:Result->Shared->Prop}{s:Shared}{el tg src:Expr}{ifs:List Expr}{sc:Scope}{pos:Pos}{it acc:Value}{env:Env}(h0:codeAny (model prog w) A (.compLoop (.SetComp el [⟨tg,src,ifs,0⟩] sc pos) 0 it acc env) R s)
 (h:wpAny (model prog w) A (pyIter it) (fun it' s'=>codeAny (model prog w) A (.compLoop (.SetComp el [⟨tg,src,ifs,0⟩] sc pos) 0 it' acc env) R s') (notedBy (model prog w) A env fun x s'=>R (.error x) s') s) :
 codeAny (model prog w) A (.compStart (.SetComp el [⟨tg,src,ifs,0⟩] sc pos) 0 it acc env) R s:=by
 refine codeAny_of_tree (show wpAny _ _ ((compStart (.SetComp el [⟨tg,src,ifs,0⟩] sc pos) 0 it acc env).onRaise (fun x=>do noteFrame x env;standAt theWindowsPlace)) _ _ s from wpAny_notedAt ?_)
 unfold compStart
 refine(show wpAny _ _ (ask >>= _) _ _ s from wpAny_bind (wpAny_askSetting (wpAny_ite ?_)))
 split
 · first
    |exact wpAny_bind (wpAny_pure (wpAny_pure (And.intro rfl h0)))
    |exact wpAny_pure (And.intro rfl h0)
 · refine wpAny_bind ?_
   refine wpAny_rule (show wpAny _ _ (standAt src.pos >>= _) _ _ s from wpAny_bind (wpAny_standAt (wpAny_bind ?_)))
   exact wpAny_mono h (fun it' s' q=>wpAny_pure (And.intro rfl q)) fun _ _ z=>z
theorem znu{prog:Program}{w:World}{A:Around}{E:Value->Shared->Prop}{s:Shared}{Q:Value->Shared->Prop}(h:Q (.ref s.heap.objs.size) { s with heap:=s.heap.push (St.setO #[] 0 (.fresh 0 0 (!(w.params.followText "set-order")))) }):wpAny (model prog w) A (newSet (.type "set")) Q E s:=by
 unfold newSet setsByText
 refine  wpAny_bind (wpAny_bind ?_)
 refine  wpAny_askSetting (wpAny_pure ?_)
 dsimp only
 simp only[newObj]
 exact wpAny_bind (wpAny_alloc (wpAny_pure h))
end Ex
namespace L2
open PySem PySem.Spec PyProof.Rows Ex St
section
variable{X:Cx}{pins:List (Addr×Obj)}{σ:List (Option V)}{H:Hp}{s:Shared}
def nO(X:Cx):Obj:=setO #[] 0 (.fresh 0 0 (!(X.w.params.followText "set-order")))
def zmK(X:Cx)(D:Addr)(zs:List Z):HO:=.ext fun h=>SetZ (X.w.params.followText "set-order") h D zs
theorem zof{H:Hp}{h:Heap}{D:Addr}{zs:List Z}(S:SetZ (X.w.params.followText "set-order") h D zs):ObjOk X.prog X.w H h D (zmK X D zs):=⟨S,(let ⟨_,_,_,e,_⟩:=S; ⟨_,e⟩),fun h1 h2 x y=>x.at y⟩
theorem zgH{P:Program}{w:World}{H:Hp}{h:Heap}{p:Addr}{c:Int×Int}(ok:HOk P w H h)(e:H p=some (.tup [.int c.1,.int c.2])):IsP h c p:=by
 obtain⟨_,its,rv,o,g,cl,n,d⟩:=ok p _ e
 cases rv with
 |cons r1 rv =>
   cases rv with
   |cons r2 rv =>
     cases rv
     obtain⟨t,rfl⟩:=r1
     obtain⟨u,rfl⟩:=r2
     exact⟨o,_,n,t,u,g,cl,d,rfl⟩
structure SK(X:Cx)(β:Type) where
 F:Addr->β->Heap->Prop
 e0:β
 AD:β->V->Hp->(β->Prop)->Prop
 nw:∀ (D:Addr) (h:Heap),h.get? D=some (nO X)->F D e0 h
 st:∀ (D:Addr) (b:β) (h1 h2:Heap),F D b h1->(∀ o,h1.get? D=some o->h2.get? D=some o)->F D b h2
 ob:∀ (D:Addr) (b:β) (h:Heap),F D b h->∃ o,h.get? D=some o
 add:∀ (D:Addr) (b:β) (y:V) (v:Value) (H:Hp) (s:Shared) (P:β->Prop) (Q:Value->Shared->Prop) (E:Value->Shared->Prop),HOk X.prog X.w H s.heap->RelV y v->F D b s.heap->AD b y H P ->
  (∀ h' tk b',Heap.SameBut D s.heap h'->F D b' h'->P b'->Q .none { s with heap:=h',toks:=tk })->wpAny (model X.prog X.w) X.A (call (.builtin "set.add") [.ref D,v]) Q E s
abbrev SK.O{β:Type}(S:SK X β)(D:Addr)(b:β):HO:=.ext (S.F D b)
theorem SK.ok{β:Type}(S:SK X β){H:Hp}{h:Heap}{D:Addr}{b:β}(z:S.F D b h):ObjOk X.prog X.w H h D (S.O D b):=⟨z,S.ob D b h z,fun h1 h2 x y=>S.st D b h1 h2 x y⟩
def tSC{β:Type}(S:SK X β)(fr:List Nat)(own:Nat)(wi:TI)(g:TG)(tc:TT)(te:TE):TE:=fun σ H Q=>wi σ H fun J H1=>∀ D,H1 D=none->∃ W:Nat->Nat->β->Hp->Prop,(∃ m,W 0 m S.e0 (upd H1 D (S.O D S.e0))) /\
 ∀ i m ys H2,H2 D=some (S.O D ys)->W i m ys H2->(J.stop i H2/\Q (.ref D) H2)\/(J.go i H2/\∀ x H3,J.yld i H2 x H3->g x (compσ fr own σ) H3 fun σ4 H4=>tc σ4 H4 fun b H5 =>
  if b=true then te σ4 H5 fun y H6=>H6 D=some (S.O D ys)/\S.AD ys y H6 fun ys'=>∃ m',m'<m/\W (i+1) m' ys' (upd H6 D (S.O D ys')) else H5 D=some (S.O D ys)/\∃ m',m'<m/\W (i+1) m' ys H5)
theorem zn8{elt tg iter:Expr}{ifs:List Expr}{scope:Scope}{pos fpos:Pos}{Nc:List Str}{own:Nat}{fr:List Nat}{wi:TI}{g:TG}{tc:TT}{te:TE}{use:Option (Value->Sem Unit)}{QQ:Value->Shared->Prop}{Q:VK}{β:Type}(S:SK X β)(hc:X.calm=true)(B:BlkN X scope Nc own fr)(hi:PI X tg iter wi)(hog:zhD own g)
 (hg:∀ cl C s3 H3 fp pn',PG (X.blk Nc scope cl C s3 H3 fp pn' fun _ _=>False) tg g) (ht:∀ cl C s3 H3 fp pn',PTs (X.blk Nc scope cl C s3 H3 fp pn' fun _ _=>False) ifs tc) (he:∀ cl C s3 H3 fp pn',PE (X.blk Nc scope cl C s3 H3 fp pn' fun _ _=>False) elt te)
 (hs:∀ x,foldedSetIterable iter X.env x=pure x) (I:Inv X pins σ H s) (h:tSC S fr own wi g tc te σ H Q)
 (fin:∀ (D C:Addr) (H3:Hp) (s4:Shared),(∃ m,s4.heap.Ns C m)->zdl X pins H3 C->(∀ h',Heap.SameBut C s4.heap h'->Inv X pins σ H3 { s4 with heap:=h' })->Q (.ref D) H3->compPost (model X.prog X.w) X.A X.xe use QQ (.ref D) C (.ok .next) s4) :
 wpAny (model X.prog X.w) X.A (comprehension (.SetComp elt [⟨tg,iter,ifs,0⟩] scope pos) scope X.env fpos (newSet (.type "set")) false (eval iter X.env) use) QQ X.xe s:=by
 obtain⟨cl,cl0⟩:=zl7 (env:=X.env) (scope:=scope) fun x hx=>I.ok.has x (B.frees x hx)
 apply wpAny_comprehension_free rfl hs cl0.clos B.kind B.names
 apply wpAny_mono (hi pins s σ H _ I h) _ fun _ _ e=>e
 intro xv s1 h1
 apply wpAny_mono h1 _ fun _ _ e=>e
 intro itv s2 h2
 obtain⟨it,fp,tn,J,H2,rfl,I2,T,st2,f2,q⟩:=h2
 refine znu (wpAny_newFunctionEnv B.nocell (by intro y hy;simp at hy) (fun h₁ hns₁ hsb₁=>?_) B.kind)
 have hD:H2 s2.heap.objs.size=none:=I2.hok.fresh (Nat.le_refl _)
 obtain⟨W,⟨m0,w0⟩,turn⟩:=q s2.heap.objs.size hD
 have I3:Inv X pins σ (upd H2 s2.heap.objs.size (S.O s2.heap.objs.size S.e0)) { s2 with heap:=s2.heap.push (nO X) } :=
  I2.laid (t':=s2.toks) (fun b u e=>Heap.get?_push_of_some _ e) (Nat.le_refl _) (S.ok (S.nw _ _ (Heap.get?_push_size _ rfl)))
 have fpne:∀ b∈fp,b≠s2.heap.objs.size:=fun b hb=>let ⟨o,e,_⟩:=T.obj _ _ st2 b hb;Nat.ne_of_lt (Heap.lt_size e)
 have f3:∀ b∈fp,zdl X pins (upd H2 s2.heap.objs.size (S.O s2.heap.objs.size S.e0)) b:=fun b hb=>⟨by rw[zaf (fpne b hb)];exact(f2 b hb).1,(f2 b hb).2⟩
 have keep:∀ b o,(s2.heap.push (nO X)).get? b=some o->h₁.get? b=some o:=fun b o e =>
  (hsb₁.2 b (Nat.ne_of_lt (Heap.lt_size e))).trans (Heap.get?_push_of_some _ e)
 have IY:=I3.block (h₁:=h₁) (t':=s2.toks+([]:List (Str×Value)).length) (E':=fun _ _=>False) B cl0 (fun b hb=>⟨f3 b hb,let ⟨o,e,_⟩:=T.obj _ _ st2 b hb; ⟨o,Heap.get?_push_of_some _ e⟩⟩) hns₁ keep
 have st1:tn 0 h₁:=T.keep _ _ _ st2 fun b hb o e=>keep b o (Heap.get?_push_of_some _ e)
 have fY:∀ {H':Hp},(∀ b∈fp,H' b=none)->∀ b∈fp,zdl (X.blk Nc scope cl (s2.heap.push (nO X)).objs.size { s2 with heap:=s2.heap.push (nO X) } (upd H2 s2.heap.objs.size (S.O s2.heap.objs.size S.e0)) fp (X.pn++pins) fun _ _=>False) [] H' b:=fun hn b hb =>
  ⟨hn b hb,(IY.ok.exf b hb).1,IY.ok.exfs b hb,.inl hb,(IY.ok.exf b hb).2,fun p hp=>(f2 b hb).2.2.2.2.2 p (by simpa using hp)⟩
 have loop:codeAny (model X.prog X.w) X.A (.compLoop (.SetComp elt [⟨tg,iter,ifs,0⟩] scope pos) 0 (.ref it) (.ref s2.heap.objs.size) (compEnvC scope cl (s2.heap.push (nO X)).objs.size X.env))
  (compPost (model X.prog X.w) X.A X.xe use QQ (.ref s2.heap.objs.size) (s2.heap.push (nO X)).objs.size) { s2 with heap:=h₁,toks:=s2.toks+([]:List (Str×Value)).length }:=by
  refine ziI (fun n s'=>∃ i ys H',Inv (X.blk Nc scope cl (s2.heap.push (nO X)).objs.size { s2 with heap:=s2.heap.push (nO X) } (upd H2 s2.heap.objs.size (S.O s2.heap.objs.size S.e0)) fp (X.pn++pins) fun _ _=>False) [] (compσ fr own σ) H' s'/\tn i s'.heap/\(∀ b∈fp,H' b=none)/\H' s2.heap.objs.size=some (S.O s2.heap.objs.size ys)/\W i n ys H')
   m0 ⟨0,S.e0,_,IY,st1,fun b hb=>(f3 b hb).1,zal,w0⟩ ?_
  rintro n s3 ⟨i,ys,H3,J3,st3,fr3,e3,w3⟩
  rcases turn i n ys H3 e3 w3 with ⟨stop,qn⟩ | ⟨go,step⟩
  · refine thn (T.done (X.blk Nc scope cl (s2.heap.push (nO X)).objs.size { s2 with heap:=s2.heap.push (nO X) } (upd H2 s2.heap.objs.size (S.O s2.heap.objs.size S.e0)) fp (X.pn++pins) fun _ _=>False) rfl rfl rfl hc i [] s3 _ H3 _ J3 (fY fr3) st3 stop) fun r s4 ⟨hr,J4⟩=>?_
    subst hr
    obtain⟨m,hn,_⟩:=J4.loc
    exact fin _ _ H3 s4 ⟨m,hn⟩ (I3.fpOk (Nat.le_refl _) J4.free) (fun h' sb=>I3.unblock f3 J4 sb) qn
  · refine thn (T.item (X.blk Nc scope cl (s2.heap.push (nO X)).objs.size { s2 with heap:=s2.heap.push (nO X) } (upd H2 s2.heap.objs.size (S.O s2.heap.objs.size S.e0)) fp (X.pn++pins) fun _ _=>False) rfl rfl rfl hc i [] s3 _ H3 _ J3 (fY fr3) st3 go) fun r s4 ⟨u,hr,h4⟩=>?_
    subst hr
    refine thn h4 fun _ s5 ⟨x,H5,J5,r5,y5,st5,fr5⟩=>?_
    have J5':=J5.pinned (fY fr5) (T.obj _ _ st5)
    have lift:∀ {α:Type} {m:Sem α} {Q':α->Shared->Prop} {E':Value->Shared->Prop} {s':Shared},wpAny (model X.prog X.w) X.A m Q' (fun _ _=>False) s'->wpAny (model X.prog X.w) X.A m Q' E' s':=fun h=>wpAny_mono h (fun _ _ z=>z) fun _ _ z=>z.elim
    refine lift (thn (hg _ _ _ _ _ _ _ s5 _ H5 x u _ J5' r5 (hog _ _ _ _ (step x H5 y5))) fun _ s6 ⟨σ6,H6,J6,q6,hσ6⟩=>?_)
    refine lift (thn (ht _ _ _ _ _ _ _ s6 σ6 H6 _ J6 q6) fun b s7 ⟨H7,J7,q7⟩=>?_)
    have back:∀ {H8:Hp} {s8:Shared} {ys':β} {m':Nat},Inv (X.blk Nc scope cl (s2.heap.push (nO X)).objs.size { s2 with heap:=s2.heap.push (nO X) } (upd H2 s2.heap.objs.size (S.O s2.heap.objs.size S.e0)) fp (X.pn++pins) fun _ _=>False) ([]++zef fp s5.heap) σ6 H8 s8->H8 s2.heap.objs.size=some (S.O s2.heap.objs.size ys')->m'<n->W (i+1) m' ys' H8 ->
     ∃ m,m<n/\∃ i ys H',Inv (X.blk Nc scope cl (s2.heap.push (nO X)).objs.size { s2 with heap:=s2.heap.push (nO X) } (upd H2 s2.heap.objs.size (S.O s2.heap.objs.size S.e0)) fp (X.pn++pins) fun _ _=>False) [] (compσ fr own σ) H' s8/\tn i s8.heap/\(∀ b∈fp,H' b=none)/\H' s2.heap.objs.size=some (S.O s2.heap.objs.size ys)/\W i m ys H':=fun {H8 s8 ys' m'} J8 e8 hm w8=>by
     refine⟨m',hm,i+1,ys',H8,?_,T.keep _ _ _ st5 fun b hb o e=>(J8.pin (b,o) (List.mem_append_right _ (List.mem_append_right _ (zbQ hb e)))).1,fun b hb=>?_,e8,w8⟩
     · refine(Inv.unpinned (pins:=[]) J8).weak ?_ fun j v' z=>?_
       · rw[IY.len];exact J8.len.symm
       · by_cases hj:j<own
         · unfold compσ at z
           rw[List.getElem?_append_left (by simpa using hj),List.getElem?_replicate,if_pos hj] at z
           cases z
         · rw[hσ6 j (Nat.le_of_not_lt hj)];exact z
     · obtain⟨o,e,d⟩:=T.obj _ _ st5 b hb
       exact(J8.pin (b,o) (List.mem_append_right _ (List.mem_append_right _ (zbQ hb e)))).2.1
    cases b with
    |false =>
      obtain⟨e7,m',hm,w7⟩:=(show H7 s2.heap.objs.size=some (S.O s2.heap.objs.size ys)/\∃ m',m'<n/\W (i+1) m' ys H7 from by simpa using q7)
      exact back J7 e7 hm w7
    |true =>
      have q7':te σ6 H7 fun y H6=>H6 s2.heap.objs.size=some (S.O s2.heap.objs.size ys)/\S.AD ys y H6 fun ys'=>∃ m',m'<n/\W (i+1) m' ys' (upd H6 s2.heap.objs.size (S.O s2.heap.objs.size ys')):=by simpa using q7
      refine lift (thn (he _ _ _ _ _ _ _ s7 σ6 H7 _ J7 q7') fun v s8 ⟨y,H8,J8,r8,e8,w8⟩=>?_)
      obtain⟨S8,_⟩:=J8.hok _ _ e8
      refine lift (wpAny_standAt (S.add _ ys y v H8 _ _ _ _ J8.hok r8 S8 w8 fun h' tk ys' sb S' hy=>?_))
      obtain⟨m',hm,w9⟩:=hy
      have J9:=J8.write (t':=tk) (o:=S.O s2.heap.objs.size ys') (by rw[e8];trivial) (.inl rfl) (fun b u hb e=>(sb.2 b hb).trans e) (S.ob _ _ _ S') (S.ok S')
      exact back J9 zal hm w9
 exact zg5 loop (T.self _ _ _ _ _ st1 loop)
theorem zrm{elt tg iter:Expr}{ifs:List Expr}{scope:Scope}{pos:Pos}{Nc:List Str}{own:Nat}{fr:List Nat}{wi:TI}{g:TG}{tc:TT}{te:TE}{β:Type}(S:SK X β)(hc:X.calm=true)(B:BlkN X scope Nc own fr)(hi:PI X tg iter wi)(hog:zhD own g)
 (hg:∀ cl C s3 H3 fp pn',PG (X.blk Nc scope cl C s3 H3 fp pn' fun _ _=>False) tg g) (ht:∀ cl C s3 H3 fp pn',PTs (X.blk Nc scope cl C s3 H3 fp pn' fun _ _=>False) ifs tc) (he:∀ cl C s3 H3 fp pn',PE (X.blk Nc scope cl C s3 H3 fp pn' fun _ _=>False) elt te)
 (hs:∀ x,foldedSetIterable iter X.env x=pure x:=by intro _;rfl):PE X (.SetComp elt [⟨tg,iter,ifs,0⟩] scope pos) (tSC S fr own wi g tc te):=by
 intro pins s σ H Q I h
 show wpAny _ _ (comprehension (.SetComp elt [⟨tg,iter,ifs,0⟩] scope pos) scope X.env _ (newSet (.type "set")) false (eval iter X.env)) _ _ _
 exact zn8 (QQ:=EP X pins σ Q) S hc B hi hog hg ht he hs I h fun L C H3 s4 hn f unb q=>let ⟨m,hm⟩:=hn; ⟨m,hm,fun h' sb=>⟨.ref L,H3,unb h' sb,rfl,q⟩⟩
def skP(hu:X.A.units+1<cLine):SK X (List Z) where
 F:=fun D zs h=>SetZ (X.w.params.followText "set-order") h D zs
 e0:=[]
 AD:=fun ys y H P=>ys.length<300/\∃ (p:Addr) (c:Int×Int),y = .ref p/\H p=some (.tup [.int c.1,.int c.2])/\SmP c/\(∀ z∈ys,H z.2=some (.tup [.int z.1.1,.int z.1.2]))/\∀ ys',((ys'=ys/\c∈ys.map (·.1))\/(ys'.Perm ((c,p)::ys)/\c ∉ ys.map (·.1)))->P ys'
 nw:=fun D h e=>SetZ.fresh _ e
 st:=fun D b h1 h2 x y=>x.at y
 ob:=fun D b h z=>let ⟨_,_,_,e,_⟩:=z; ⟨_,e⟩
 add:=fun D b y v H s P Q E ok r S ad q=>by
  obtain⟨hl,p,c,rfl,hp,sm,tz,k⟩:=ad
  cases r
  exact zlR hu S (fun z hz=>zgH ok (tz z hz)) (zgH ok hp) sm hl fun h' tk ys' sb S' hy=>q h' tk ys' sb S' (k ys' hy)
end
end L2
namespace So
open PySem PySem.W PyProof.Rows
def Hs(n:Nat)(c:Nat->Nat->Bool){α:Type}:KasT α->(α->Prop)->Prop
 | .ret a,Q=>Q a
 | .ask i j k,Q=>i<n/\j<n/\Hs n c (k (c i j)) Q
theorem zde{n:Nat}{c:Nat->Nat->Bool}{α β:Type}{f:α->KasT β}{Q:β->Prop}:∀ (t:KasT α),Hs n c t (fun a=>Hs n c (f a) Q)->Hs n c (t.bind f) Q
 | .ret a,h=>h
 | .ask i j k,h=>⟨h.1,h.2.1,zde (k (c i j)) h.2.2⟩
theorem zb3{n:Nat}{c:Nat->Nat->Bool}{α:Type}{Q Q':α->Prop}(hq:∀ a,Q a->Q' a):∀ (t:KasT α),Hs n c t Q->Hs n c t Q'
 | .ret a,h=>hq a h
 | .ask i j k,h=>⟨h.1,h.2.1,zb3 hq (k (c i j)) h.2.2⟩
theorem zoC{n:Nat}{c:Nat->Nat->Bool}{cmp:Nat->Nat->(Bool->Shared->Prop)->Shared->Prop}{s:Shared}(hc:∀ i j C,i<n->j<n->C (c i j) s->cmp i j C s){α:Type}{Q:α->Shared->Prop}:∀ (t:KasT α),Hs n c t (fun a=>Q a s)->t.kasWp cmp Q s
 | .ret a,h=>h
 | .ask i j k,h=>hc i j _ h.1 h.2.1 (zoC hc (k (c i j)) h.2.2)
section
variable{n:Nat}{f:Nat->Int}
def lt(f:Nat->Int)(i j:Nat):Bool:=decide (f i<f j)
structure Pm(n:Nat)(p:Array Nat):Prop where
 pm:p.toList.Perm (List.range n)
theorem Pm.size{p:Array Nat}(h:Pm n p):p.size=n:=by have:=h.pm.length_eq;simpa using this
theorem Pm.at{p:Array Nat}(h:Pm n p){i:Nat}(hi:i<n):p.getD i 0<n:=by
 have lt:i<p.size:=by rw[h.size];exact hi
 rw[Array.getD_eq_getD_getElem?,Array.getElem?_eq_getElem lt]
 have:p[i]∈p.toList:=by simp
 simpa using h.pm.mem_iff.mp this
def F(f:Nat->Int)(p:Array Nat)(i:Nat):Int:=f (p.getD i 0)
theorem Pm.inj{p:Array Nat}(h:Pm n p)(hf:∀ i j,i<n->j<n->f i=f j->i=j){i j:Nat}(hi:i<n)(hj:j<n)(e:F f p i=F f p j):i=j:=by
 have e:=hf _ _ (h.at hi) (h.at hj) e
 have l1:i<p.size:=by rw[h.size];exact hi
 have l2:j<p.size:=by rw[h.size];exact hj
 rw[Array.getD_eq_getD_getElem?,Array.getD_eq_getD_getElem?,Array.getElem?_eq_getElem l1,Array.getElem?_eq_getElem l2] at e
 have nd:p.toList.Nodup:=h.pm.nodup_iff.mpr List.nodup_range
 exact(List.getElem_inj (xs:=p.toList) (h₀:=by simpa using l1) (h₁:=by simpa using l2) nd).mp (by simpa using e)
def Sd(f:Nat->Int)(p:Array Nat)(k:Nat):Prop:=∀ i j,i<=j->j<k->F f p i<=F f p j
def Ni(f:Nat->Int)(p:Array Nat)(k:Nat):Prop:=∀ i j,i<=j->j<k->F f p j<=F f p i
theorem Sd.succ{p:Array Nat}{k:Nat}(h:Sd f p k)(hk:1<=k)(e:F f p (k - 1)<=F f p k):Sd f p (k+1):=fun i j hij hj=>by
 by_cases z:j<k
 · exact h i j hij z
 · have:j=k:=by omega
   subst this
   by_cases y:i=j
   · subst y;exact Int.le_refl _
   · exact Int.le_trans (h i (j - 1) (by omega) (by omega)) e
theorem Ni.succ{p:Array Nat}{k:Nat}(h:Ni f p k)(hk:1<=k)(e:F f p k<=F f p (k - 1)):Ni f p (k+1):=fun i j hij hj=>by
 by_cases z:j<k
 · exact h i j hij z
 · have:j=k:=by omega
   subst this
   by_cases y:i=j
   · subst y;exact Int.le_refl _
   · exact Int.le_trans e (h i (j - 1) (by omega) (by omega))
theorem zim{p:Array Nat}(hp:Pm n p):∀ (g k:Nat),1<=k->k+g<=n->Sd f p k->Hs n (lt f) (kas_asc p g k) (fun m=>k<=m/\m<=k+g/\Sd f p m/\(m=k+g\/F f p m<F f p (m - 1)))
 | 0,k,_,_,h=>⟨Nat.le_refl _,Nat.le_refl _,h,.inl rfl⟩
 |g+1,k,h1,h2,h=>by
   refine⟨hp.at (by omega),hp.at (by omega),?_⟩
   by_cases z:F f p k<F f p (k - 1)
   · have e:lt f (p.getD k 0) (p.getD (k - 1) 0)=true:=decide_eq_true z
     rw[e];dsimp only;rw[if_pos rfl]
     exact⟨Nat.le_refl _,by omega,h,.inr z⟩
   · have e:lt f (p.getD k 0) (p.getD (k - 1) 0)=false:=decide_eq_false z
     rw[e];dsimp only;rw[if_neg (by simp)]
     refine zb3 (fun m hm=>?_) _ (zim hp g (k+1) (by omega) (by omega) (h.succ h1 (Int.not_lt.mp z)))
     exact⟨by omega,by omega,hm.2.2.1,hm.2.2.2.imp (fun e=>by omega) id⟩
theorem zjq{p:Array Nat}(hp:Pm n p)(hf:∀ i j,i<n->j<n->f i=f j->i=j):∀ (g k:Nat),1<=k->k+g<=n->Ni f p k->Hs n (lt f) (kas_desc g p k 0) (fun r=>r.1=p/\r.2.2=0/\k<=r.2.1/\r.2.1<=k+g/\Ni f p r.2.1)
 | 0,k,_,_,h=>⟨rfl,rfl,Nat.le_refl _,Nat.le_refl _,h⟩
 |g+1,k,h1,h2,h=>by
   refine⟨hp.at (by omega),hp.at (by omega),?_⟩
   by_cases z:F f p k<F f p (k - 1)
   · have e:lt f (p.getD k 0) (p.getD (k - 1) 0)=true:=decide_eq_true z
     rw[e];dsimp only;rw[if_pos rfl,if_neg (by omega)]
     refine zb3 (fun r hr=>?_) _ (zjq hp hf g (k+1) (by omega) (by omega) (h.succ h1 (Int.le_of_lt z)))
     exact⟨hr.1,hr.2.1,by omega,by omega,hr.2.2.2.2⟩
   · have e:lt f (p.getD k 0) (p.getD (k - 1) 0)=false:=decide_eq_false z
     rw[e];dsimp only;rw[if_neg (by simp)]
     refine⟨hp.at (by omega),hp.at (by omega),?_⟩
     have z2:F f p (k - 1)<F f p k:=by
      rcases Int.lt_or_eq_of_le (Int.not_lt.mp z) with y | y
      · exact y
      · have:=hp.inj hf (by omega) (by omega) y
        omega
     have e2:lt f (p.getD (k - 1) 0) (p.getD k 0)=true:=decide_eq_true z2
     rw[e2];dsimp only;rw[if_pos rfl]
     exact⟨rfl,rfl,Nat.le_refl _,(show k<=k+(g+1) by omega),h⟩
theorem znT{p q:Array Nat}{i j:Nat}(h:p[i]? = q[j]?):F f p i=F f q j:=by
 unfold F
 rw[Array.getD_eq_getD_getElem?,Array.getD_eq_getD_getElem?,h]
theorem Pm.rev{p:Array Nat}(h:Pm n p)(i j:Nat):Pm n (kas_rev p i j):=⟨(Array.perm_iff_toList_perm.mp (mirror_perm p i j _)).trans h.pm⟩
theorem zo7{p:Array Nat}(h:Pm n p){k:Nat}(hk:k<=n)(d:Ni f p k):Sd f (kas_rev p 0 k) k:=fun i j hij hj=>by
 have e:∀ m,m<k->F f (kas_rev p 0 k) m=F f p (k - 1 - m):=fun m hm=>znT (by
  unfold kas_rev
  rw[getElem?_mirror_all (by rw[h.size];exact hk),if_pos ⟨by omega,hm⟩]
  congr 1
  omega)
 rw[e i (by omega),e j hj]
 exact d _ _ (by omega) (by omega)
theorem zlw{p:Array Nat}(hp:Pm n p)(hf:∀ i j,i<n->j<n->f i=f j->i=j)(hn:2<=n):Hs n (lt f) (kas_count n p) (fun r=>Pm n r.2/\1<=r.1/\r.1<=n/\Sd f r.2 r.1):=by
 unfold kas_count
 refine zde _ (zb3 (fun m hm=>?_) _ (zim hp (n - 1) 1 (by omega) (by omega) (fun i j hij hj=>by
  have:i=j:=by omega
  subst this;exact Int.le_refl _)))
 obtain⟨m1,m2,m3,m4⟩:=hm
 by_cases e:m=n
 · subst e
   rw[if_pos (by simp)]
   exact⟨hp,by omega,Nat.le_refl _,m3⟩
 · rw[if_neg (by simpa using e)]
   by_cases g:m > 1
   · rw[if_pos g]
     refine⟨hp.at (by omega),hp.at (by omega),?_⟩
     have z:F f p 0<F f p (m - 1):=by
      rcases Int.lt_or_eq_of_le (m3 0 (m - 1) (by omega) (by omega)) with y | y
      · exact y
      · have:=hp.inj hf (by omega) (by omega) y
        omega
     have e2:lt f (p.getD 0 0) (p.getD (m - 1) 0)=true:=decide_eq_true z
     rw[e2];dsimp only;rw[if_pos rfl]
     exact⟨hp,by omega,by omega,m3⟩
   · rw[if_neg g]
     have m1':m=1:=by omega
     subst m1'
     have z:F f p 1<F f p 0:=by
      rcases m4 with y | y
      · omega
      · exact y
     unfold kas_descPart
     refine zde _ (zb3 (fun r hr=>?_) _ (zjq hp hf (n - 2) 2 (by omega) (by omega) (fun i j hij hj=>by
      have:(i=j)\/(i=0/\j=1):=by omega
      rcases this with y | ⟨y1,y2⟩
      · subst y;exact Int.le_refl _
      · subst y1;subst y2;exact Int.le_of_lt z)))
     obtain⟨r1,r2,r3,r4,r5⟩:=hr
     rw[r2,if_neg (by omega),r1]
     unfold kas_tail3
     refine zde _ (zb3 (fun m' hm'=>?_) _ (zim (hp.rev 0 r.2.1) (n - r.2.1) r.2.1 (by omega) (by omega) (zo7 hp (by omega) r5)))
     exact⟨hp.rev 0 r.2.1,by omega,by omega,hm'.2.2.1⟩
theorem ze9{p:Array Nat}(hp:Pm n p){k:Nat}(hk:k<n)(s:Sd f p k):∀ (g l r:Nat),r - l<=g->l<=r->r<=k->(∀ i,i<l->F f p i<=F f p k)->(∀ i,r<=i->i<k->F f p k<F f p i) ->
 Hs n (lt f) (kas_place p k g l r) (fun l'=>l'<=k/\(∀ i,i<l'->F f p i<=F f p k)/\∀ i,l'<=i->i<k->F f p k<F f p i)
 | 0,l,r,h1,h2,h3,h4,h5=>by
   have:l=r:=by omega
   subst this
   exact⟨h3,h4,h5⟩
 |g+1,l,r,h1,h2,h3,h4,h5=>by
   unfold kas_place
   by_cases z:l ≥ r
   · rw[if_pos z]
     have:l=r:=by omega
     subst this
     exact⟨h3,h4,h5⟩
   · rw[if_neg z]
     refine⟨hp.at hk,hp.at (by omega),?_⟩
     by_cases y:F f p k<F f p ((l+r) / 2)
     · have e:lt f (p.getD k 0) (p.getD ((l+r) / 2) 0)=true:=decide_eq_true y
       rw[e];dsimp only;rw[if_pos rfl]
       exact ze9 hp hk s g l ((l+r) / 2) (by omega) (by omega) (by omega) h4 fun i hi hik=>Int.lt_of_lt_of_le y (s _ _ hi hik)
     · have e:lt f (p.getD k 0) (p.getD ((l+r) / 2) 0)=false:=decide_eq_false y
       rw[e];dsimp only;rw[if_neg (by simp)]
       exact ze9 hp hk s g ((l+r) / 2+1) r (by omega) (by omega) h3 (fun i hi=>Int.le_trans (s i ((l+r) / 2) (by omega) (by omega)) (Int.not_lt.mp y)) h5
theorem Pm.bub{p:Array Nat}(h:Pm n p)(i j:Nat):Pm n (bubble p i j):=⟨(Array.perm_iff_toList_perm.mp (bubble_perm p i j)).trans h.pm⟩
theorem zpd{p:Array Nat}(h:Pm n p){k l:Nat}(hk:k<n)(hl:l<=k)(s:Sd f p k)(h1:∀ i,i<l->F f p i<=F f p k)(h2:∀ i,l<=i->i<k->F f p k<F f p i):Sd f (bubble p k (k - l)) (k+1):=by
 have e:∀ m,F f (bubble p k (k - l)) m=if m=l then F f p k else if l<m/\m<=k then F f p (m - 1) else F f p m:=fun m=>by
  have q:=getElem?_bubble (xs:=p) (src:=k) (by rw[h.size];exact hk) (k - l) (by omega) m
  rw[show k - (k - l)=l by omega] at q
  split
  · rename_i c
    rw[if_pos c] at q
    exact znT q
  · rename_i c
    rw[if_neg c] at q
    split
    · rename_i d
      rw[if_pos d] at q
      exact znT q
    · rename_i d
      rw[if_neg d] at q
      exact znT q
 intro i j hij hj
 rw[e i,e j]
 repeat' split
 all_goals first
  |exact Int.le_refl _
  | (exfalso;omega)
  |exact s _ _ (by omega) (by omega)
  |exact h1 _ (by omega)
  |exact Int.le_of_lt (h2 _ (by omega) (by omega))
theorem zlv(hf:∀ i j,i<n->j<n->f i=f j->i=j):∀ (g:Nat) (p:Array Nat) (k:Nat),Pm n p->k+g=n->Sd f p k->Hs n (lt f) (kas_bin g p k) (fun p'=>Pm n p'/\Sd f p' n)
 | 0,p,k,hp,h,s=>by
   have:k=n:=by omega
   subst this
   exact⟨hp,s⟩
 |g+1,p,k,hp,h,s=>by
   unfold kas_bin
   refine zde _ (zb3 (fun l hl=>?_) _ (ze9 hp (by omega) s k 0 k (by omega) (by omega) (Nat.le_refl _) (fun i hi=>absurd hi (Nat.not_lt_zero _)) (fun i h1 h2=>by omega)))
   exact zlv hf g _ (k+1) (hp.bub _ _) (by omega) (zpd hp (by omega) hl.1 s hl.2.1 hl.2.2)
theorem znJ(hf:∀ i j,i<n->j<n->f i=f j->i=j)(hn:2<=n):Hs n (lt f) (kas_sort n) (fun p=>Pm n p/\Sd f p n):=by
 unfold kas_sort
 refine zde _ (zb3 (fun r hr=>?_) _ (zlw ⟨by simp⟩ hf hn))
 obtain⟨r1,r2,r3,r4⟩:=hr
 by_cases z:r.1<n
 · rw[if_pos z,show max r.1 1=r.1 by omega]
   exact zlv hf (n - r.1) r.2 r.1 r1 (by omega) r4
 · rw[if_neg z]
   have:r.1=n:=by omega
   rw[this] at r4
   exact⟨r1,r4⟩
end
end So
namespace So
open PySem PySem.W PyProof.Rows St
section
variable{prog:Program}{w:World}{A:Around}{E:Value->Shared->Prop}{s:Shared}{a p q:Addr}
def enc(z:Int×Int):Int:=31 * z.1+z.2
theorem zqh{y z:Int×Int}(hy:SmP y)(hz:SmP z):enc y<enc z ↔ y.1<z.1\/y.1=z.1/\y.2<z.2:=by
 obtain⟨⟨a1,a2⟩,a3,a4⟩:=hy
 obtain⟨⟨b1,b2⟩,b3,b4⟩:=hz
 unfold enc
 omega
theorem zjS{y z:Int×Int}(hy:SmP y)(hz:SmP z)(e:enc y=enc z):y=z:=by
 obtain⟨⟨a1,a2⟩,a3,a4⟩:=hy
 obtain⟨⟨b1,b2⟩,b3,b4⟩:=hz
 unfold enc at e
 exact Prod.ext (by omega) (by omega)
theorem znw{y z:Int×Int}{Q:Bool->Shared->Prop}(hy:IsP s.heap y p)(hz:IsP s.heap z q)(sy:SmP y)(sz:SmP z)(h:Q (decide (enc y<enc z)) s):wpAny (model prog w) A (keyLt' (tuples' true) (.ref p) (.ref q)) Q E s:=by
 obtain⟨o1,i1,n1,t1,u1,g1,c1,d1,e1⟩:=hy
 obtain⟨o2,i2,n2,t2,u2,g2,c2,d2,e2⟩:=hz
 refine kat_lt g1 d1 g2 d2 ?_
 rw[e1,e2]
 have el:=zqh sy sz
 refine kat_cons (wpAny_eqBool_int ?_)
 refine kat_go (fun c=>?_) fun c=>?_
 · have c:=of_decide_eq_true c
   refine kat_yes (kat_cons (wpAny_eqBool_int ?_))
   refine kat_go (fun c'=>?_) fun c'=>?_
   · have c':=of_decide_eq_true c'
     refine kat_yes (kat_nil ?_)
     have z1:i1.size=2:=by have:=congrArg List.length e1;simpa using this
     have z2:i2.size=2:=by have:=congrArg List.length e2;simpa using this
     rw[z1,z2]
     have : ¬ enc y<enc z:=fun z=>by rcases el.mp z with z | z<;>omega
     rw[decide_eq_false this] at h
     exact h
   · have c':=of_decide_eq_false c'
     refine kat_no (kat_one _ _ (PyProof.Rows.lt_int ?_))
     have:decide (y.2<z.2)=decide (enc y<enc z):=decide_eq_decide.mpr ⟨fun z=>el.mpr (.inr ⟨c,z⟩),fun z=>by rcases el.mp z with z | z;exact absurd c (Int.ne_of_lt z);exact z.2⟩
     show Q (decide (y.2<z.2)) s
     rw[this]
     exact h
 · have c:=of_decide_eq_false c
   refine kat_no ?_
   show wpAny _ _ (keyLt' oneType' _ _) _ _ _
   refine kat_lt_int ?_
   have:decide (y.1<z.1)=decide (enc y<enc z):=decide_eq_decide.mpr ⟨fun z=>el.mpr (.inl z),fun z=>by rcases el.mp z with z | z;exact z;exact absurd z.1 c⟩
   rw[this]
   exact h
theorem IsP.ref{z:Int×Int}{h:Heap}(x:IsP h z p):∃ o xs n t,h.get? p=some o/\o.cls = .type "tuple" /\ o.data = .seq xs n/\xs[0]? = some (.int z.1 t):=by
 obtain⟨o,i,n,t,u,g,c,d,e⟩:=x
 exact⟨o,i,n,t,g,c,d,by rw[<- Array.getElem?_toList,e];rfl⟩
def refs(zs:List Z):List Value:=zs.map fun z=>.ref z.2
theorem zjj{h:Heap}:∀ (zs:List Z),(∀ z∈zs,IsP h z.1 z.2)->∃ fs,KatTups h (refs zs) fs/\fs.length=zs.length/\∀ v∈fs,∃ k t,v = .int k t
 | [],_=>⟨[],trivial,rfl,fun v hv=>(nomatch hv)⟩
 |z::r,h0=>by
   obtain⟨fs,a,b,c⟩:=zjj r fun y hy=>h0 y (.tail _ hy)
   obtain⟨o,xs,n,t,g,cl,d,e⟩:=IsP.ref (h0 z (.head _))
   exact⟨.int z.1.1 t::fs,KatTups.cons g cl d e a,by simp[b],fun v hv=>by
    rcases List.mem_cons.mp hv with q | q
    · exact⟨_,_,q⟩
    · exact c v q⟩
theorem zj1{M:Model}{h:Heap}(k:Int)(t:Tok):Looks M h (typeOf (.int k t)) (.type "int"):=fun A Q E s _ q=>wpAny_typeOf (typeIs_int s k t) q
theorem zea{zs:List Z}{i:Nat}(h:i<zs.length):(refs zs).getD i Value.none = .ref zs[i].2:=by
 unfold refs
 rw[List.getD_eq_getElem?_getD,List.getElem?_map,List.getElem?_eq_getElem h]
 rfl
theorem ziK{n:Nat}{zs:List Z}{P:PySem.Fin->Shared->Prop}(ho:s.heap.get? a=some (seqObj "list" (refs zs).toArray n))(hz:∀ z∈zs,IsP s.heap z.1 z.2)(sm:∀ z∈zs,SmP z.1)(nd:(zs.map (·.1)).Nodup)(hl:zs.length<64)
 (h:∀ zs',zs'.Perm zs->zs'.Pairwise (fun y z=>enc y.1<=enc z.1)->P (.done (.ret .none)) { s with heap:=sortedHeap s.heap a (refs zs) (refs zs').toArray }):wpAny (model prog w) A (Builtin.«list.sort» ⟨[.ref a],[]⟩) P E s:=by
 have ha:a<s.heap.objs.size:=Heap.lt_size ho
 have rl:(refs zs).length=zs.length:=by simp[refs]
 have big:(64:Nat)<=sizeLine:=by decide
 rw[list_sort_plain]
 refine  wpAny_bind (listItems_at ho rfl ?_)
 refine wpAny_bind (listUpdate_at ho rfl ?_ (by rw[List.size_toArray,rl];omega) (Nat.zero_le _))
 obtain⟨e1,ho1⟩:∃ e1,(s.heap.update a (Obj.mapSeq fun _=>(#[]:Array Value))).get? a=some (seqObj "list" #[] e1):=⟨_,get?_update_seq ho fun _ => #[]⟩
 refine  wpAny_bind (seqEpoch_at ho1 rfl ?_)
 refine wpAny_bind (wpAny_newTuple ?_ (by show(refs zs).length<=_;rw[rl];omega))
 refine  wpAny_bind (wpAny_newList ?_ (Nat.zero_le _))
 refine wpAny_holding ?_
 generalize hH:((s.heap.update a (Obj.mapSeq fun _=>(#[]:Array Value))).push (seqObj "tuple" (refs zs).toArray 0)).push (seqObj "list" #[] 0)=H
 show wpAny (model prog w) A _ P E { s with heap:=H }
 have ho6:H.get? a=some (seqObj "list" #[] e1):=by
  rw[<- hH,Heap.get?_push_ne _ _ _ (by rw[size_push',Heap.size_update];exact Nat.ne_of_lt (Nat.lt_succ_of_lt ha)),Heap.get?_push_ne _ _ _ (by rw[Heap.size_update];exact Nat.ne_of_lt ha)]
  exact ho1
 have hz6:∀ z∈zs,IsP H z.1 z.2:=fun z hzz=>(hz z hzz).at fun o e=>by
  have ne:z.2≠a:=fun q=>by
   obtain⟨o',xs,n',t,g,cl,_⟩:=IsP.ref (hz z hzz)
   rw[q,ho] at g
   have g:=Option.some.inj g
   rw[<- g] at cl
   exact absurd cl (show(Value.type "list") ≠ .type "tuple" by decide)
  rw[<- hH]
  exact Heap.get?_push_of_some _ (Heap.get?_push_of_some _ ((Heap.get?_update_other _ _ (Ne.symm ne)).trans e))
 have fin:∀ (zs':List Z) (st:SortSt),zs'.Perm zs->zs'.Pairwise (fun y z=>enc y.1<=enc z.1)->(arrOf st).map (·.2)=(refs zs').toArray->failedOf st=none->wpAny (model prog w) A (do
  let touched:=(<- seqEpoch a) != e1
  Builtin.List.listUpdate (.ref a) fun _=>(arrOf st).map (·.2)
  if let some e:=failedOf st then rule "list.sort.comparison-raised";throw e
  if touched then rule "list.sort.modified";raiseError "ValueError" "list modified during sort"
  ret .none) P E { s with heap:=H }:=fun zs' st pm pw har hf=>by
  refine wpAny_bind (seqEpoch_at (s:={ s with heap:=H }) ho6 rfl ?_)
  rw[har]
  refine wpAny_bind (listUpdate_at (s:={ s with heap:=H }) ho6 rfl ?_ (Nat.zero_le _) (by show(refs zs').toArray.size<=_;have:=pm.length_eq;simp[refs];omega))
  rw[hf]
  simp only[bne_self_eq_false,Bool.false_eq_true,if_false]
  refine wpAny_pure ?_
  have:=h zs' pm pw
  unfold sortedHeap at this
  rw[hH] at this
  exact this
 dsimp only
 have sz:(refs zs).toArray.size=zs.length:=by rw[List.size_toArray,rl]
 have snd:((refs zs).toArray.zip (refs zs).toArray).map (·.2)=(refs zs).toArray:=by
  apply Array.toList_inj.mp
  simp[Array.toList_zip,List.map_snd_zip]
 by_cases h2:(refs zs).toArray.size<2
 · rw[if_pos h2,if_pos h2]
   refine wpAny_bind (wpAny_pure ?_)
   rw[StateT.run_pure]
   refine wpAny_bind (wpAny_pure ?_)
   dsimp only
   refine fin zs (SortSt.mk' general' ((refs zs).toArray.zip (refs zs).toArray) #[] 7 none) (.refl _) ?_ snd rfl
   rw[sz] at h2
   match zs,h2 with
   | [],_=>exact .nil
   | [z],_=>simp
   | _::_::_,h2=>exact absurd h2 (by simp only[List.length_cons];omega)
 · rw[if_neg h2,if_neg h2]
   rw[sz] at h2
   have h2':2<=zs.length:=by omega
   obtain⟨fs,kt,fl,fi⟩:=zjj zs hz6
   refine wpAny_bind (kat_kind (s:={ s with heap:=H }) (T:=.type "int") kt (by omega) (fun v hv=>by obtain⟨k,t,rfl⟩:=fi v hv;exact zj1 k t) (by decide) ?_)
   have tt:(Value.type "int" != Value.type "tuple")=true:=by decide
   rw[tt]
   generalize hf:(fun i:Nat=>enc ((zs.map (·.1)).getD i (0,0)))=f
   have fat:∀ i (hi:i<zs.length),f i=enc zs[i].1:=fun i hi=>by
    rw[<- hf]
    simp only[List.getD_eq_getElem?_getD,List.getElem?_map,List.getElem?_eq_getElem hi]
    rfl
   have finj:∀ i j,i<zs.length->j<zs.length->f i=f j->i=j:=fun i j hi hj e=>by
    rw[fat i hi,fat j hj] at e
    have e:=zjS (sm _ (List.getElem_mem hi)) (sm _ (List.getElem_mem hj)) e
    exact(List.getElem_inj (xs:=zs.map (·.1)) (h₀:=by simpa using hi) (h₁:=by simpa using hj) nd).mp (by simpa using e)
   refine wpAny_bind (wpAny_mono (kat_run (s:={ s with heap:=H }) (ks:=refs zs) (vs:=refs zs) (Q:=fun st' s'=>∃ p:Array Nat,s'={ s with heap:=H }/\Pm zs.length p/\Sd f p zs.length/\(arrOf st').map (·.2)=(p.toList.map fun i=>(refs zs).getD i Value.none).toArray/\failedOf st'=none) rfl (by omega) (by omega) (G:=fun p s'=>s'={ s with heap:=H }/\Pm zs.length p/\Sd f p zs.length) (fun p st' s' hp har hfl hg=>⟨p,hg.1,hg.2.1,hg.2.2,kat_snds rfl har,hfl⟩) ?_) ?_ fun _ _ z=>z)
   rotate_left
   · rintro⟨⟨⟩,st'⟩ s' ⟨p,rfl,pm,sd,har,hfl⟩
     have pin:∀ i∈p.toList,i<zs.length:=fun i hi=>by simpa using pm.pm.mem_iff.mp hi
     have mp:(p.toList.map fun i=>(refs zs).getD i Value.none)=refs (p.toList.filterMap fun i=>zs[i]?):=by
      have:∀ (l:List Nat),(∀ i∈l,i<zs.length)->(l.map fun i=>(refs zs).getD i Value.none)=refs (l.filterMap fun i=>zs[i]?):=fun l=>by
       induction l with
       |nil=>intro _;rfl
       |cons i r ih =>
         intro hi
         rw[List.map_cons,List.filterMap_cons_some (List.getElem?_eq_getElem (hi i (.head _))),ih fun k hk=>hi k (.tail _ hk),zea (hi i (.head _))]
         rfl
      exact this _ pin
     rw[mp] at har
     refine fin _ st' ?_ ?_ har hfl
     · have:=pm.pm.filterMap (fun i=>zs[i]?)
       rwa[List.filterMap_getElem?_range_length] at this
     · have len:(p.toList.filterMap fun i=>zs[i]?).length=zs.length:=by
        have:=(pm.pm.filterMap (fun i=>zs[i]?)).length_eq
        rwa[List.filterMap_getElem?_range_length] at this
       have at':∀ (l:List Nat),(∀ i∈l,i<zs.length)->∀ k (hk:k<(l.filterMap fun i=>zs[i]?).length) (hk':k<l.length),enc (l.filterMap fun i=>zs[i]?)[k].1=f l[k]:=fun l=>by
        induction l with
        |nil=>intro _ k hk hk';simp at hk'
        |cons i r ih =>
          intro hi k hk hk'
          have hr:=ih fun m hm=>hi m (.tail _ hm)
          have e:=List.filterMap_cons_some (f:=fun i=>zs[i]?) (l:=r) (List.getElem?_eq_getElem (hi i (.head _)))
          simp only[e] at hk ⊢
          cases k with
          |zero=>rw[List.getElem_cons_zero,List.getElem_cons_zero,fat i (hi i (.head _))]
          |succ k =>
            rw[List.getElem_cons_succ,List.getElem_cons_succ]
            exact hr k (by simpa using hk) (by simpa using hk')
       rw[List.pairwise_iff_getElem]
       intro i j hi hj hij
       have ps:p.size=zs.length:=pm.size
       rw[at' _ pin i hi (by rw[Array.length_toList];omega),at' _ pin j hj (by rw[Array.length_toList];omega)]
       have:=sd i j (by omega) (by omega)
       unfold F at this
       rw[Array.getD_eq_getD_getElem?,Array.getD_eq_getD_getElem?,Array.getElem?_eq_getElem (by omega:i<p.size),Array.getElem?_eq_getElem (by omega:j<p.size)] at this
       exact this
   · rw[rl]
     refine zoC (n:=zs.length) (c:=lt f) (s:={ s with heap:=H }) (fun i j C hi hj hc=>?_) _ (zb3 (fun p hp=>⟨rfl,hp.1,hp.2⟩) _ (znJ finj h2'))
     show wpAny _ _ (keyLt' (tuples' true) ((refs zs).getD i Value.none) ((refs zs).getD j Value.none)) _ _ _
     rw[zea hi,zea hj]
     refine znw (s:={ s with heap:=H }) (hz6 _ (List.getElem_mem hi)) (hz6 _ (List.getElem_mem hj)) (sm _ (List.getElem_mem hi)) (sm _ (List.getElem_mem hj)) ?_
     have:lt f i j=decide (enc zs[i].1<enc zs[j].1):=by unfold lt;rw[fat i hi,fat j hj]
     rw[<- this]
     exact hc
end
theorem zhi{α β:Type}(f:α->β):∀ {zs:List α} {vs:List β},vs.Perm (zs.map f)->∃ zs':List α,vs=zs'.map f/\zs'.Perm zs
 | [],vs,h=>⟨[],by simpa using h,.nil⟩
 |z::r,vs,h=>by
   have hm:f z∈vs:=h.mem_iff.mpr (by simp)
   obtain⟨a,b,rfl⟩:=List.append_of_mem hm
   have h':(a++b).Perm (r.map f):=by
    have:=List.perm_middle.symm.trans h
    exact(List.perm_cons (f z)).mp this
   obtain⟨zs',e,pm⟩:=zhi f h'
   refine⟨zs'.take a.length++z::zs'.drop a.length,?_,?_⟩
   · rw[List.map_append,List.map_cons,List.map_take,List.map_drop, <- e]
     simp
   · refine List.perm_middle.trans ?_
     rw[List.take_append_drop]
     exact List.Perm.cons z pm
section
variable{prog:Program}{w:World}{A:Around}{E:Value->Shared->Prop}{s:Shared}{a:Addr}
theorem zgN{zs:List Z}{Q:Value->Shared->Prop}(hh:A.handled=none)(hS:SetZ (w.params.followText "set-order") s.heap a zs)(hz:∀ z∈zs,IsP s.heap z.1 z.2)(h64:zs.length<64)
 (h:∀ (h':Heap) (d:Drawn) (tk:Nat) (p:Addr) (e:Nat) (zs':List Z),s.heap.objs.size<=p->(∀ b o,s.heap.get? b=some o->h'.get? b=some o)->h'.get? p=some { cls:=.type "list",dict:=none,data:=.seq (refs zs').toArray e,slots := #[] }->zs'.Perm zs->zs'.Pairwise (fun y z=>enc y.1<=enc z.1)->Q (.ref p) { s with heap:=h',drawn:=d,toks:=tk }) :
 wpAny (model prog w) A (call (.builtin "sorted") [.ref a]) Q E s:=by
 obtain⟨es,ep,t,ha,T,nf⟩:=hS
 have big:(64:Nat)<=sizeLine:=by decide
 have len:=T.len
 refine Calls.call_function_entry kind_sorted plain_sorted entry_sorted (args_sorted1 _) (show wpAny _ _ (checkCount "sorted" 1 1 1 >>= _) _ _ _ from wpAny_bind (wpAny_pure ?_))
 refine wpAny_bind (zha hh ha T.hon T.fits (by omega) fun vs h1 d tk le k1 pv=>?_)
 have em:es.toList.map (·.2)=refs zs:=by
  rw[T.el,List.map_map]
  unfold refs
  exact List.map_congr_left fun z _=>by rw[Function.comp_apply,zhP]
 rw[em] at pv
 obtain⟨zs1,rfl,pm1⟩:=zhi (fun z:Z=>Value.ref z.2) pv
 have l1:=pm1.length_eq
 have vl:(zs1.map fun z:Z=>Value.ref z.2).length=zs1.length:=by simp
 refine wpAny_bind (wpAny_newList ?_ (by rw[vl];omega))
 show wpAny _ _ _ _ _ { s with heap:=h1.push (seqObj "list" (refs zs1).toArray 0),drawn:=d,toks:=tk }
 have hoL:(h1.push (seqObj "list" (refs zs1).toArray 0)).get? h1.objs.size=some (seqObj "list" (refs zs1).toArray 0):=Heap.get?_push_size _ rfl
 refine wpAny_bind (wpAny_holding (wpAny_call_entry slot_list_sort ⟨_,hoL,rfl⟩ entry_list_sort (ziK (s:={ s with heap:=h1.push (seqObj "list" (refs zs1).toArray 0),drawn:=d,toks:=tk }) hoL (fun z hz1=>(hz z (pm1.mem_iff.mp hz1)).at fun o e=>Heap.get?_push_of_some _ (k1 _ _ e)) (fun z hz1=>T.sm z (pm1.mem_iff.mp hz1)) ((pm1.map _).nodup_iff.mpr T.nd) (by omega) fun zs' pm pw=>⟨_,rfl,?_⟩) (args_list_sort _)))
 obtain⟨e,ge⟩:=zjZ hoL (refs zs').toArray
 exact wpAny_pure ⟨_,rfl,h _ d tk h1.objs.size e zs' le (fun b o z=>ziq (Nat.ne_of_lt (Heap.lt_size (k1 b o z))) (Heap.get?_push_of_some _ (k1 b o z))) ge (pm.trans pm1) pw⟩
end
end So
namespace L2
open PySem PySem.Spec PyProof.Rows Ex St So
section
variable{X:Cx}
def rSP(X:Cx)(xs:List V)(H:Hp)(Q:VK):Prop:=∃ (p:Addr) (zs:List Z),xs=[.ref p]/\H p=some (zmK X p zs)/\(∀ z∈zs,H z.2=some (.tup [.int z.1.1,.int z.1.2]))/\zs.length<64 /\
 ∀ (q:Addr) (zs':List Z),H q=none->zs'.Perm zs->zs'.Pairwise (fun y z=>enc y.1<=enc z.1)->Q (.ref q) (upd H q (.lst (zs'.map fun z=>V.ref z.2)))
theorem zfT:∀ zs:List Z,Vals (zs.map fun z=>V.ref z.2) (refs zs)
 | []=>.nil
 |z::r=>.cons rfl (zfT r)
theorem zcl(calm:X.calm=true):CallR X (.builtin "sorted") (rSP X):=by
 intro pins s σ H xs us Q I r h
 obtain⟨p,zs,rfl,hp,ht,hn,q⟩:=h
 obtain⟨u,rfl,ru⟩:=r.one
 cases ru
 obtain⟨S,_⟩:=I.hok p _ hp
 refine zgN (I.ok.hd calm) S (fun z hz=>zgH I.hok (ht z hz)) hn fun h' d tk p' e zs' le k g pm pw=>?_
 refine⟨.ref p',upd H p' (.lst (zs'.map fun z=>V.ref z.2)),(I.laid (t':=tk) (o:=.lst (zs'.map fun z=>V.ref z.2)) k le ⟨?_,refs zs',e,zfT zs',g⟩).drawn d,rfl,q _ zs' (I.hok.fresh le) pm pw⟩
 rw[List.length_map,pm.length_eq]
 have z:(64:Nat)<=sizeLine:=by decide
 omega
end
end L2
namespace Dv
open PySem L2 Ex St So
variable[KC]
def pD(c:Int×Int):D:=.tup [.int c.1,.int c.2]
def asP:List D->Option (List (Int×Int))
 | []=>some []
 | .tup [.int i,.int j]::r=>if decide (0<=i) && decide (i<=30) && decide (0<=j) && decide (j<=30) then (asP r).map ((i,j) :: ·) else none
 | _=>none
omit [KC] in
theorem zc3{d:D}{r:List D}{cs:List (Int×Int)}(h:asP (d::r)=some cs):∃ c cs',d=pD c/\SmP c/\asP r=some cs'/\cs=c::cs':=by
 unfold asP at h
 split at h
 · cases ‹d::r=[]›
 · rename_i i j r' e
   cases e
   split at h
   · rename_i c
     simp only[Bool.and_eq_true,decide_eq_true_eq] at c
     cases q:asP r with
     |none=>rw[q] at h;cases h
     |some cs'=>rw[q] at h;cases h;exact⟨(i,j),cs',rfl,⟨⟨c.1.1.1,c.1.1.2⟩,c.1.2,c.2⟩,rfl,rfl⟩
   · cases h
 · cases h
omit [KC] in
theorem zgy:∀ {a b:List D} {cs:List (Int×Int)},asP (a++b)=some cs->∃ c1 c2,asP a=some c1/\asP b=some c2/\cs=c1++c2
 | [],b,cs,h=>⟨[],cs,rfl,h,rfl⟩
 |d::a,b,cs,h=>by
   obtain⟨c,cs',rfl,sm,h',rfl⟩:=zc3 (r:=a++b) h
   obtain⟨c1,c2,e1,e2,rfl⟩:=zgy h'
   refine⟨c::c1,c2,?_,e2,rfl⟩
   show(if decide (0<=c.1) && decide (c.1<=30) && decide (0<=c.2) && decide (c.2<=30) then (asP a).map (c :: ·) else none)=_
   rw[if_pos (by simp only[Bool.and_eq_true,decide_eq_true_eq];exact⟨⟨⟨sm.1.1,sm.1.2⟩,sm.2.1⟩,sm.2.2⟩),e1]
   rfl
omit [KC] in
theorem zqS{K:Type}[BEq K][LawfulBEq K](σ:List K)(v x:K):x∈PyProof.Rows.step_dedup σ v ↔ x∈σ\/x=v:=by
 unfold PyProof.Rows.step_dedup
 split
 · rename_i h
   rw[List.any_eq_true] at h
   obtain⟨y,hy,e⟩:=h
   have e:y=v:=by simpa using e
   subst e
   exact⟨.inl,fun z=>z.elim id fun e=>by rw[e];exact hy⟩
 · simp
omit [KC] in
theorem zrb{K:Type}[BEq K][LawfulBEq K]{σ:List K}(h:σ.Nodup)(v:K):(PyProof.Rows.step_dedup σ v).Nodup:=by
 unfold PyProof.Rows.step_dedup
 split
 · exact h
 · rename_i q
   rw[List.nodup_append]
   refine⟨h,by simp,fun a ha b hb e=>?_⟩
   rw[List.mem_singleton] at hb
   subst hb
   subst e
   exact q (List.any_eq_true.mpr ⟨a,ha,by simp⟩)
omit [KC] in
theorem zkZ{K:Type}[BEq K][LawfulBEq K]:∀ (ns σ:List K),σ.Nodup->(ns.foldl PyProof.Rows.step_dedup σ).Nodup/\∀ x,x∈ns.foldl PyProof.Rows.step_dedup σ ↔ x∈σ\/x∈ns
 | [],σ,h=>⟨h,fun x=>by simp⟩
 |v::r,σ,h=>by
   obtain⟨a,b⟩:=zkZ r _ (zrb h v)
   refine⟨a,fun x=>?_⟩
   rw[List.foldl_cons,b x,zqS,List.mem_cons,or_assoc]
def ddP(cs:List (Int×Int)):List (Int×Int):=cs.foldl PyProof.Rows.step_dedup []
def za5(cs:List (Int×Int)):List (Int×Int):=(ddP cs).mergeSort fun a b=>decide (enc a<=enc b)
omit [KC] in
theorem zdX(cs:List (Int×Int)):(za5 cs).Perm (ddP cs):=List.mergeSort_perm ..
omit [KC] in
theorem srtP_mem{cs:List (Int×Int)}{c:Int×Int}:c∈za5 cs ↔ c∈cs:=by
 rw[(zdX cs).mem_iff]
 have:=(zkZ cs [] List.nodup_nil).2 c
 simpa [ddP] using this
omit [KC] in
theorem zjP(cs:List (Int×Int)):(za5 cs).Nodup:=(zdX cs).nodup_iff.mpr (zkZ cs [] List.nodup_nil).1
omit [KC] in
theorem zi9(cs:List (Int×Int)):(za5 cs).Pairwise fun a b=>enc a<=enc b:=by
 have h:=List.pairwise_mergeSort (le:=fun a b:Int×Int=>decide (enc a<=enc b)) (fun a b c h1 h2=>decide_eq_true (Int.le_trans (of_decide_eq_true h1) (of_decide_eq_true h2))) (fun a b=>by
  rcases Int.le_total (enc a) (enc b) with h | h
  · rw[decide_eq_true h];rfl
  · rw[decide_eq_true h,Bool.or_true]) (ddP cs)
 exact h.imp fun h=>of_decide_eq_true h
omit [KC] in
theorem zd9{cs l:List (Int×Int)}(sm:∀ c∈cs,SmP c)(nd:l.Nodup)(pw:l.Pairwise fun a b=>enc a<=enc b)(hm:∀ c,c∈l ↔ c∈cs):l=za5 cs:=by
 have pm:l.Perm (za5 cs):=(List.perm_ext_iff_of_nodup nd (zjP cs)).mpr fun c=>by rw[hm c,srtP_mem]
 refine List.Perm.eq_of_pairwise (le:=fun a b=>enc a<=enc b) (fun a b ha hb h1 h2=>?_) pw (zi9 cs) pm
 exact zjS (sm a ((hm a).mp ha)) (sm b (srtP_mem.mp hb)) (Int.le_antisymm h1 h2)
omit [KC] in
theorem zif:∀ {ds:List D} {cs:List (Int×Int)},asP ds=some cs->∀ c∈cs,SmP c
 | [],cs,h=>by cases h;intro c hc;cases hc
 |d::r,cs,h=>by
   obtain⟨c,cs',rfl,sm,h',rfl⟩:=zc3 h
   intro x hx
   rcases List.mem_cons.mp hx with e | e
   · rw[e];exact sm
   · exact zif h' x e
def zna(out:List D->Option RV)(items:M (List D))(fr:List Nat)(own:Nat)(m:D->M Unit)(p:M Bool)(f:M RV):M RV:=M.bind items fun ds=>if ds.length<64 then M.bind (lcM fr own m p f ds) fun ys=>M.ofO (out ys) else M.st
def zj2(ys:List D):Option RV:=(asP ys).map fun cs=>.new (.lst ((za5 cs).map pD))
abbrev zqV:=zna zj2
section
variable{X:Cx}{EE:XKS}{ios:List Addr}{p:M Bool}{f:M RV}
omit [KC] in
theorem zjE[KC]{R:Hp}{x:V}{c:Int×Int}(h:Rp R x (pD c)):∃ a,x = .ref a/\R a=some (.tup [.int c.1,.int c.2]):=by
 unfold pD at h
 cases h with
 |tup e hs =>
   cases hs with
   |cons h1 hs =>
     cases hs with
     |cons h2 hs =>
       cases hs
       cases h1
       cases h2
       exact⟨_,rfl,e⟩
theorem zec{R:Hp}:∀ (zs:List Z),(∀ z∈zs,R z.2=some (.tup [.int z.1.1,.int z.1.2]))->Rps R (zs.map fun z=>V.ref z.2) ((zs.map (·.1)).map pD)
 | [],_=>.nil
 |z::r,h=>.cons (.tup (h z (.head _)) (.cons (.int _) (.cons (.int _) .nil))) (zec r fun y hy=>h y (.tail _ hy))
theorem znR{fr:List Nat}{own:Nat}{m:D->M Unit}{p:M Bool}{f:M RV}:∀ (ds:List D) (Γ:En) (x:Xc) (Γ':En) (_ _ _:Unit),lcM fr own m p f ds Γ ≠ .ex x Γ'
 | [],_,_,_,_,_,_=>fun h=>by cases h
 |d::r,Γ,x,Γ',_,_,_=>fun h=>by
   unfold lcM at h
   split at h
   · split at h<;>cases h
   · cases h
theorem zpW{β:Type}(S:SK X β){rS:List V->Hp->VK->Prop}{out:List D->Option RV}(inv:β->List D->Hp->Prop)(hmono:∀ b ys R R',inv b ys R->Same R R'->inv b ys R')(h0:∀ R,inv S.e0 [] R)
 (hstep:∀ b ys dy zr rv y R H P,inv b ys R->ys.length<64->out (ys++dy::zr)=some rv->Rp R y dy->Same R H->(∀ b',inv b' (ys++[dy]) R->P b')->S.AD b y H P)
 (hfin:∀ b ys R H A (Q:VK) rv,inv b ys R->Same R H->H A=some (S.O A b)->ys.length<64->out ys=some rv->(∀ z H' R',Al R H R' H'->RvA R' H H' z rv->Q z H')->rS [.ref A] H Q)
 {wi:TI} {gt:TG} {tc:TT} {te:TE} {items:M (List D)} {m:D->M Unit} {fr:List Nat} {own:Nat} (hn:fr.Nodup) (hi:RdI EE ios wi items) (hg:RdG ios own gt m) (hk:zfv own m) (hc:RdT EN ios tc p) (he:RdE EN ios te f) :
 RdE EE ios (fun σ H Q=>tSC S fr own wi gt tc te σ H (fun x H1=>rS [x] H1 Q)) (zna out items fr own m p f):=by
 intro σ H R Γ Q er w
 unfold zna at w
 rw[zab] at w
 refine hi σ H R Γ _ er (zac w (fun ds Γ1 w J H1 R1 p1 hJ=>?_) fun _ _ z=>z)
 split at w
 · rename_i hsz
   rw[zab] at w
   cases hall:lcM fr own m p f ds Γ1 with
   |ex _ _=>exact absurd hall (znR _ _ _ _ () () ())
   |st=>rw[hall] at w;exact False.elim w
   |ok ysA Γe =>
   rw[hall] at w
   obtain⟨rv,hout,wout⟩:=zbe (zcZ w)
   clear w
   intro A hA
   have hRA:R1 A=none:=p1.er.sub.free hA
   have alA:Al R1 H1 R1 (upd H1 A (S.O A S.e0)):=⟨p1.er.sub.trans (zaI hA),Same.refl _,zaI hA,fun _ _ _ z=>z⟩
   refine⟨fun i n zs H2=>n=ds.length - i/\i<=ds.length/\∃ R2 Γ2 ys2 zr,EPo ios R H σ Γ R2 H2 Γ2/\Same R1 R2/\R2 A=none/\lcM fr own m p f (ds.drop i) Γ2 = .ok zr Γe/\ys2++zr=ysA/\inv zs ys2 R2/\ys2.length<=i,
    ⟨ds.length,rfl,Nat.zero_le _,R1,Γ1,[],ysA,p1.al alA,Same.refl _,hRA,hall,rfl,h0 _,Nat.le_refl _⟩,?_⟩
   rintro i n zs H2 hA2 ⟨rfl,hi',R2,Γ2,ys2,zr,p2,s2,hRA2,hL,hys,hinv,hyl⟩
   obtain⟨go,stop⟩:=hJ i H2 R2 s2 p2.er.sub
   have nOA : ¬ Ow σ Γ A:=fun z=>by
    obtain⟨_,xs,q⟩:=er.ow z
    rw[p1.back er A hA] at q;cases q
   by_cases hlt:i<ds.length
   · have hd:ds[i]? = some ds[i]:=List.getElem?_eq_getElem hlt
     obtain⟨g1,g2⟩:=go _ hd
     rw[List.drop_eq_getElem_cons hlt] at hL
     refine .inr ⟨g1,fun x H3 hx=>?_⟩
     obtain⟨R3,al,rx⟩:=g2 x H3 hx
     unfold lcM at hL
     have p3:EPo ios R H σ Γ R3 H3 Γ2:=p2.al al
     have hA3:H3 A=some (S.O A zs):=al.hh _ _ hA2
     have hRA3:R3 A=none:=al.no _ _ hA2 hRA2
     have erb:ER ios R3 H3 (compσ fr own σ) (zaX fr own Γ2):=p3.er.blk hn
     have nOAb : ¬ Ow (compσ fr own σ) (zaX fr own Γ2) A:=fun z=>nOA (p3.sh A z.blk)
     have run:wpM (zfu m p f ds[i] (zaX fr own Γ2)) (fun y Γb=>∃ zr',lcM fr own m p f (ds.drop (i+1)) (Dv.unblk fr own Γ2 Γb) = .ok zr' Γe/\y.toList++zr'=zr) NoX:=by
      cases q:zfu m p f ds[i] (zaX fr own Γ2) with
      |ok y Γb =>
        rw[q] at hL
        dsimp only at hL
        cases q':lcM fr own m p f (ds.drop (i+1)) (Dv.unblk fr own Γ2 Γb) with
        |ok zr' Γ' =>
          rw[q'] at hL
          cases hL
          exact⟨zr',q',rfl⟩
        |ex _ _=>rw[q'] at hL;cases hL
        |st=>rw[q'] at hL;cases hL
      |ex _ _=>rw[q] at hL;cases hL
      |st=>rw[q] at hL;cases hL
     unfold zfu at run
     rw[zab] at run
     cases hm:m ds[i] (zaX fr own Γ2) with
     |ex _ _=>have:=zc4 run;rw[hm] at this;exact this.elim
     |st=>have:=zc4 run;rw[hm] at this;exact this.elim
     |ok u Γ4 =>
       obtain⟨k1,k2⟩:=hk _ _ _ hm
       have wm:=zc4 run
       rw[hm] at wm
       refine hg (compσ fr own σ) H3 R3 (zaX fr own Γ2) x _ _ erb rx ?_
       rw[hm]
       refine zcO fun σ4 H4 R4 p4 keep s4=>?_
       have w1:=zcZ wm
       rw[zab] at w1
       have base4:∀ b,Ow σ4 Γ4 b->Ow (compσ fr own σ) (zaX fr own Γ2) b:=by
        rintro b ⟨j,k,d,h1,h2,h3⟩
        by_cases hj:own<=j
        · rw[k1 j hj] at h1
          rw[keep j hj] at h3
          exact⟨j,k,d,h1,h2,h3⟩
        · rcases k2 j (k,d) (by omega) h1 with z | z
          · unfold zaX at z;rw[zh5 (by omega)] at z;cases z
          · cases z;cases h2
       refine hc σ4 H4 R4 Γ4 _ p4.er (zac w1 (fun b Γ6 w1 H6 R6 p6=>?_) fun _ _ z=>z.elim)
       have p46:SPo ios R3 H3 (compσ fr own σ) (zaX fr own Γ2) R6 H6 σ4 Γ6:=p4.trans p6.spo
       have sh6:∀ b,Ow σ4 Γ6 b->Ow (compσ fr own σ) (zaX fr own Γ2) b:=fun b z=>base4 b (p6.sh b z)
       have hA6:H6 A=some (S.O A zs):=p46.go.hh _ _ hA3 nOAb
       have hRA6:R6 A=none:=p46.go.no _ _ hA3 nOAb hRA3
       cases b with
       |false =>
         simp only[Bool.false_eq_true,if_false] at w1 ⊢
         have pu:EPo ios R3 H3 σ Γ2 R6 H6 (Dv.unblk fr own Γ2 Γ6):=EPo.unblk p3.er hn p46 keep sh6
         obtain⟨zr',e1,e2⟩:=zcZ w1
         refine⟨hA6,_,Nat.sub_lt_sub_left hlt (Nat.lt_succ_self i),rfl,hlt,R6,_,ys2,zr',p3.trans pu,(s2.trans al.rr).trans p46.go.rr,hRA6,e1,by rw[<- hys, <- e2];rfl,hmono _ _ _ _ hinv (al.rr.trans p46.go.rr),by omega⟩
       |true =>
         simp only[if_true] at w1 ⊢
         rw[zab] at w1
         refine he σ4 H6 R6 Γ6 _ p6.er (zac w1 (fun rv7 Γ7 w1 y H7 R7 p7 hy=>?_) fun _ _ z=>z.elim)
         rw[zab] at w1
         obtain⟨dy,Γ8,R8,p8,s8,ry,w1⟩:=zbB p6.er p7 hy w1
         have p48:SPo ios R3 H3 (compσ fr own σ) (zaX fr own Γ2) R8 H7 σ4 Γ8:=p46.trans p8.spo
         have sh8:∀ b,Ow σ4 Γ8 b->Ow (compσ fr own σ) (zaX fr own Γ2) b:=fun b z=>sh6 b (p8.sh b z)
         have pu:EPo ios R3 H3 σ Γ2 R8 H7 (Dv.unblk fr own Γ2 Γ8):=EPo.unblk p3.er hn p48 keep sh8
         have hA7:H7 A=some (S.O A zs):=p48.go.hh _ _ hA3 nOAb
         have hRA8:R8 A=none:=p48.go.no _ _ hA3 nOAb hRA3
         have p38:=p3.trans pu
         have nO8 : ¬ Ow σ (Dv.unblk fr own Γ2 Γ8) A:=fun z=>nOA (p38.sh A z)
         obtain⟨zr',e1,e2⟩:=zcZ w1
         have e2:dy::zr'=zr:=e2
         have hsplit:out (ys2++dy::zr')=some rv:=by rw[e2,hys];exact hout
         have rr:=al.rr.trans p48.go.rr
         refine⟨hA7,hstep zs ys2 dy zr' rv y R8 H7 _ (hmono _ _ _ _ hinv rr) (by omega) hsplit ry p38.er.sub fun zs' hinv'=>?_⟩
         have pA:EPo ios R H σ Γ R8 (upd H7 A (S.O A zs')) (Dv.unblk fr own Γ2 Γ8):=by
          have up:∀ b,b≠A->upd H7 A (S.O A zs') b=H7 b:=fun b hb=>zaf hb
          refine⟨⟨fun b o q=>?_,p38.er.len,fun j t hj=>?_,p38.er.dj⟩,⟨p38.go.rr,fun b o q n=>?_,p38.go.no,p38.go.oo,fun b o q=>?_⟩,p38.sh⟩
          · rw[up b (fun z=>by rw[z,hRA8] at q;cases q)];exact p38.er.sub b o q
          · obtain⟨v,hv,q⟩:=p38.er.sl j t hj
            refine⟨v,hv,q.mono (Same.refl _) fun ho b zs eb hb rb=>⟨?_,rb⟩⟩
            rw[up b]
            · exact hb
            · rintro rfl;subst eb;exact nO8 ⟨j,t.1,t.2,hj,ho,hv⟩
          · rw[up b (fun z=>by rw[z,p1.back er A hA] at q;cases q)];exact p38.go.hh b o q n
          · by_cases hb:b=A
            · subst hb;exact⟨_,zal⟩
            · rw[up b hb];exact p38.go.th b o q
         refine⟨_,Nat.sub_lt_sub_left hlt (Nat.lt_succ_self i),rfl,hlt,R8,_,ys2++[dy],zr',pA,(s2.trans al.rr).trans p48.go.rr,hRA8,e1,by rw[<- hys, <- e2];simp,hinv',by rw[List.length_append];simp;omega⟩
   · have e:ds.drop i=[]:=List.drop_eq_nil_of_le (by omega)
     rw[e] at hL
     have hL:Res.ok [] Γ2=Res.ok zr Γe:=hL
     cases hL
     rw[List.append_nil] at hys
     subst hys
     refine .inl ⟨stop (by omega),hfin zs ys2 R2 H2 A Q rv hinv p2.er.sub hA2 (by omega) hout fun z H' R' al ra=>?_⟩
     exact wout z H' R' (p2.al al) (ra.rv (p2.back er))
 · exact False.elim w
def zm7(zs:List Z)(ys:List D)(R:Hp):Prop:=(∀ c1,asP ys=some c1->∀ c,c∈zs.map (·.1) ↔ c∈c1)/\(zs.map (·.1)).Nodup/\(∀ z∈zs,R z.2=some (.tup [.int z.1.1,.int z.1.2]))/\zs.length<=ys.length
omit [KC] in
theorem zfV{ys:List D}{rv:RV}(h:zj2 ys=some rv):∃ cs,asP ys=some cs/\rv = .new (.lst ((za5 cs).map pD)):=by
 unfold zj2 at h
 obtain⟨cs,h1,h2⟩:=Option.map_eq_some_iff.mp h
 exact⟨cs,h1,h2.symm⟩
theorem zqN{hu:X.A.units+1<cLine}(b:List Z)(ys:List D)(dy:D)(zr:List D)(rv:RV)(y:V)(R H:Hp)(P:List Z->Prop)(hinv:zm7 b ys R)(hl:ys.length<64)(hout:zj2 (ys++dy::zr)=some rv)(ry:Rp R y dy)(sub:Same R H)(k:∀ b',zm7 b' (ys++[dy]) R->P b'):(skP (X:=X) hu).AD b y H P:=by
 obtain⟨cs,hcs,_⟩:=zfV hout
 obtain⟨hkeys,hnd,hzs,hzl⟩:=hinv
 obtain⟨c1,c2,q1,q2,_⟩:=zgy hcs
 obtain⟨c,c3,rfl,sm,q3,_⟩:=zc3 q2
 obtain⟨pa,rfl,hpa⟩:=zjE ry
 have kz:=hkeys c1 q1
 refine⟨by omega,pa,c,rfl,sub _ _ hpa,sm,fun z hz=>sub _ _ (hzs z hz),fun zs' hzs'=>k zs' ?_⟩
 have ap:∀ c1',asP (ys++[pD c])=some c1'->∀ x,x∈c1' ↔ x∈c1\/x=c:=fun c1' h x=>by
  obtain⟨d1,d2,r1,r2,rfl⟩:=zgy h
  rw[q1] at r1
  cases r1
  obtain⟨c',c4,e,_,e4,rfl⟩:=zc3 r2
  cases e4
  have:c=c':=by
   unfold pD at e
   injection e with e
   injection e with e5 e6
   injection e5 with e5
   injection e6 with e6
   injection e6 with e6
   exact Prod.ext e5 e6
  subst this
  simp
 rcases hzs' with ⟨rfl,hin⟩ | ⟨pm,hnin⟩
 · exact⟨fun c1' h x=>Iff.trans ⟨fun h=>.inl ((kz x).mp h),fun h=>h.elim (kz x).mpr fun e=>by rw[e];exact hin⟩ (ap c1' h x).symm,hnd,hzs,by rw[List.length_append];simp;omega⟩
 · have pm1:=pm.map (·.1)
   refine⟨fun c1' h x=>Iff.trans ?_ (ap c1' h x).symm,pm1.nodup_iff.mpr (List.nodup_cons.mpr ⟨hnin,hnd⟩),fun z hz=>?_,by rw[pm.length_eq,List.length_cons,List.length_append];simp;omega⟩
   · rw[pm1.mem_iff,List.map_cons,List.mem_cons,kz x]
     exact Or.comm
   · rcases List.mem_cons.mp (pm.mem_iff.mp hz) with e | e
     · rw[e];exact hpa
     · exact hzs z e
theorem zrV{hu:X.A.units+1<cLine}(b:List Z)(ys:List D)(R H:Hp)(A:Addr)(Q:VK)(rv:RV)(hinv:zm7 b ys R)(sub:Same R H)(hA:H A=some ((skP (X:=X) hu).O A b))(hl:ys.length<64)(hout:zj2 ys=some rv)(w:∀ z H' R',Al R H R' H'->RvA R' H H' z rv->Q z H'):rSP X [.ref A] H Q:=by
 obtain⟨cs,hcs,rfl⟩:=zfV hout
 obtain⟨hkeys,hnd,hzs,hzl⟩:=hinv
 refine⟨A,b,rfl,hA,fun z hz=>sub _ _ (hzs z hz),by omega,fun q zs' hq pm pw=>?_⟩
 have nd':(zs'.map (·.1)).Nodup:=(pm.map _).nodup_iff.mpr hnd
 have ez:zs'.map (·.1)=za5 cs:=zd9 (zif hcs) nd' (List.pairwise_map.mpr pw) fun c=>by rw[(pm.map _).mem_iff];exact hkeys cs hcs c
 obtain⟨al,rv⟩:=zdw sub hq (zec zs' fun z hz=>hzs z (pm.mem_iff.mp hz))
 rw[ez] at rv
 exact w _ _ _ al rv
theorem zoQ{elt tg iter:Expr}{ifs:List Expr}{pos pos' p0:Pos}{k:Nat}{scope:Scope}{Nc:List Str}{own:Nat}{fr:List Nat}{gt:TG}{items:M (List D)}{m:D->M Unit}(hl:X.mg "sorted" = none)(hgl:Gl X "sorted")(hr0:Room k X.A)(hc:X.calm=true)(B:BlkN X scope Nc own fr)(hn:fr.Nodup)(hi:VI X EE ios tg iter items)(hog:zhD own gt)
 (hg:∀ cl C s3 H3 fp pn',PG (zj5 X Nc scope cl C s3 H3 fp pn') tg gt) (hr:RdG ios own gt m) (hk:zfv own m) (ht:∀ cl C s3 H3 fp pn',VTs (zj5 X Nc scope cl C s3 H3 fp pn') EN ios ifs p) (he:∀ cl C s3 H3 fp pn',VE (zj5 X Nc scope cl C s3 H3 fp pn') EN ios elt f)
 (hs:∀ x,foldedSetIterable iter X.env x=pure x:=by intro _;rfl) (hst:starEach [.SetComp elt [⟨tg,iter,ifs,0⟩] scope pos] X.env=[(false,eval (.SetComp elt [⟨tg,iter,ifs,0⟩] scope pos) X.env)]:=by rfl):VE X EE ios (.Call (.Name "sorted" p0) [.SetComp elt [⟨tg,iter,ifs,0⟩] scope pos] [] pos') (zqV items fr own m p f) :=
 let ⟨_,h1,h2⟩:=hi
 ⟨_,zao (zcl hc) hgl hl (by decide +kernel) (zag (zrm (skP (by have:=hr0.un;omega)) hc B h1 hog hg ht (fun cl C s3 H3 fp pn'=>(he cl C s3 H3 fp pn').pe) hs) zaK (hs:=hst)) (he:=hst) (hpl:=rfl),zpW (skP _) zm7 (fun b ys R R' h q=>⟨h.1,h.2.1,fun z hz=>q _ _ (h.2.2.1 z hz),h.2.2.2⟩) (fun R=>⟨fun c1 h c=>by cases h;exact Iff.rfl,List.nodup_nil,(fun z hz=>nomatch hz),Nat.le_refl _⟩) zqN zrV hn h2 hr hk (fun σ H R Γ Q er w=>⟨R,Γ,er,w⟩) (fun σ H R Γ Q er w=>⟨R,Γ,er,w⟩)⟩
end
end Dv
namespace L2
open PySem PySem.Spec PyProof.Rows Ex
section
variable{X:Cx}{EE:XKS}{k:Nat}{f C:Addr}{fd:FuncData}{ps:List Str}{sp:Sp}{dvs:List V}{ds:List Value}{x:Str}{p pos:Pos}{e:Expr}{es:List Expr}{t:TA}
theorem zkq{pins:List (Addr×Obj)}{σ:St}{H:Hp}{s:Shared}{Q:VK}{us:List Value}{vs:List V}(M:Mk X.K C f)(F:FnOk X.prog X.w X.K X.mg X.base (CXe X.prog X.w) k f fd ps sp)(hr:Room (k+1) X.A)(hb:Binds X.K fd ps ds)(hd:Vals dvs ds)(hX:XOk X EE)(I:Inv X pins σ H s)(r:Vals vs us)
 (h:∀ x dx,H x=none->H dx=none->dx≠x->sp (.ref x::(vs++dvs)) (upd (upd H dx (.own x)) x (.ins C dx [])) (fun v H2=>v = .non/\Q (.ref x) H2) (EE σ)):wpAny (model X.prog X.w) X.A (call (.ref C) us) (EP X pins σ Q) X.xe s:=by
 have hq:=h (s.heap.objs.size+1) s.heap.objs.size (I.hok.fresh (Nat.le_succ _)) (I.hok.fresh (Nat.le_refl _)) (Nat.ne_of_lt (Nat.lt_succ_self _))
 have I2:=Inv.made (C:=C) I
 have r2:Vals (V.ref (s.heap.objs.size+1)::(vs++dvs)) (Value.ref (s.heap.objs.size+1)::(us++ds)):=.cons rfl (r.append hd)
 have hl:(Value.ref (s.heap.objs.size+1)::us++ds).length=ps.length:=by
  have e:=r2.length
  rw[F.len _ _ _ _ hq] at e
  exact e.symm
 refine wpAny_call (zlE (f:=f) I.kIn M.makes M.init (beq_iff_eq.mp M.fn) (codeAny_mono (F.run _ X.stack _ _ ⟨Value.ref (s.heap.objs.size+1)::us,[]⟩ (Value.ref (s.heap.objs.size+1)::(us++ds)) _ _ (EE σ) (hr.make C us [])
  (I2.env0.make C us []) (hb _ (Value.ref (s.heap.objs.size+1)::us) I2.kIn hl) r2 hq) fun r s' hq'=>?_))
 cases r with
 |error e=>exact zjd hX I2 hq'
 |ok fl =>
   cases fl with
   |ret u =>
     obtain⟨v,H',I3,rv,ev,q3⟩:=I2.after hq'
     subst ev
     exact⟨rv,⟨V.ref (s.heap.objs.size+1),H',I3,rfl,q3⟩⟩
   |next=>exact False.elim hq'
   |brk=>exact False.elim hq'
   |cont=>exact False.elim hq'
def Made(C:Addr)(sp si:Sp):Prop:=∀ vs H Q E,sp vs H Q E->∀ x dx,H x=none->H dx=none->dx≠x->si (.ref x::vs) (upd (upd H dx (.own x)) x (.ins C dx [])) (fun v H2=>v = .non/\Q (.ref x) H2) E
theorem zl0{si:Sp}(M:Mk X.K C f)(F:FnOk X.prog X.w X.K X.mg X.base (CXe X.prog X.w) k f fd ps si)(hr:Room (k+1) X.A)(hg:Gl X x)(hm:X.mg x=some (.ref C))(hb:Binds X.K fd ps ds)(hd:Vals dvs ds)(hX:XOk X EE)(hsp:Made C sp si)
 (ha:PA X (e::es) t) (hdb:(x == ("__debug__" : Str))=false:=by decide) (he:starEach (e::es) X.env=(false,eval e X.env)::starEach es X.env:=by rfl) (hpl:(backTo pos (starEach es X.env)).any (·.1)=false:=by rfl) :
 PE X (.Call (.Name x p) (e::es) [] pos) (ze3 sp dvs EE t):=by
 intro pins s σ H Q I h
 refine wpAny_Call_Name_kw (zdF I hg hm ?_ hdb)
 refine W.callWith_K (h₀:=X.base) I.ok.mod.kin M.kp (thn (ha pos pins s σ H _ I h) fun us s1 ⟨vs,H1,I1,r,q⟩=>⟨I1.kIn,?_⟩) he hpl
 exact zkq M F hr hb hd hX I1 r (hsp _ _ _ _ q)
end
end L2
namespace Dv
open PySem L2 Ex
variable[KC]
section
variable{X:Cx}{EE:XKS}{ios:List Addr}
structure AlB(x:Addr)(R H R' H':Hp):Prop where
 sub:Same R' H'
 rr:Same R R'
 hh:∀ b o,b≠x->H b=some o->H' b=some o
 no:∀ b o,b≠x->H b=some o->R b=none->R' b=none
def FlJ(j:Nat)(ios:List Addr)(R H:Hp)(σ:St)(Γ:En)(D:Ends):Fl->En->Prop:=fun fl Γ'=>∀ σ' H' R',SPo ios R H σ Γ R' H' σ' Γ'->σ'[j]? = σ[j]? -> match fl with
 | .nx=>D.nx σ' H'
 | .brk=>D.bk σ' H'
 | .cont=>D.ct σ' H'
 | .ret rv=>∀ x,RvR R' H H' σ' x rv->D.rt x H'
def RdJ(j:Nat)(EE:XKS)(ios:List Addr)(t:TS)(f:M Fl):Prop:=∀ σ H R Γ D,ER ios R H σ Γ->wpM (f Γ) (FlJ j ios R H σ Γ D) (EXS EE ios R H σ Γ)->t D σ H
def VJ(j:Nat)(X:Cx)(EE:XKS)(ios:List Addr)(st:Stmt)(f:M Fl):Prop:=∃ t,PS X st t/\RdJ j EE ios t f
def VJs(j:Nat)(X:Cx)(EE:XKS)(ios:List Addr)(st:List Stmt)(f:M Fl):Prop:=∃ t,PSs X st t/\RdJ j EE ios t f
section
variable{X:Cx}{EE:XKS}{ios:List Addr}{e c:Expr}{f:M RV}{p:M Bool}{s s':M Fl}{st:Stmt}{sts sts':List Stmt}{pos:Pos}{j:Nat}
theorem zoq:VJs j X EE ios [] (M.pure .nx):=⟨_,zdH,fun σ H R Γ D er w=>w σ H R (SPo.refl er) rfl⟩
theorem znk(h:VJ j X EE ios st s):VJs j X EE ios [st] s:=let ⟨_,h1,h2⟩:=h; ⟨_,zck h1,h2⟩
theorem zns(h:VE X EE ios e f)(hs:swapsWith e none pos.line X.env=pure false:=by rfl):VJ j X EE ios (.Expr e pos) (zjR f):=by
 obtain⟨t,h1,h2⟩:=h
 refine⟨_,zgU h1 hs,fun σ H R Γ D er w=>?_⟩
 unfold zjR at w
 rw[zab] at w
 exact h2 σ H R Γ _ er (zac w (fun rv Γ1 w x H1 R1 p1 hx=>w σ H1 R1 p1.spo rfl) fun _ _ z=>z.exp)
theorem zrx(hc:VT X EE ios c p)(h:VJs j X EE ios sts s)(h':VJs j X EE ios sts' s'):VJ j X EE ios (.If c sts sts' pos) (ifM p s s'):=by
 obtain⟨_,h0,h0'⟩:=hc
 obtain⟨t,h1,h2⟩:=h
 obtain⟨u,h3,h4⟩:=h'
 refine⟨_,zhr h0 h1 h3,fun σ H R Γ D er w=>?_⟩
 unfold ifM at w
 rw[zab] at w
 refine h0' σ H R Γ _ er (zac w (fun b Γ1 w H1 R1 p1=>?_) fun _ _ z=>z.exp)
 have go:∀ fl Γ2,FlJ j ios R H σ Γ D fl Γ2->FlJ j ios R1 H1 σ Γ1 D fl Γ2:=fun fl Γ2 w σ2 H2 R2 p2 q2=>by
  have:=w σ2 H2 R2 (p1.spo.trans p2) q2
  cases fl with
  |nx=>exact this
  |brk=>exact this
  |cont=>exact this
  |ret rv=>exact fun x hx=>this x (zc6 p1.spo.back hx)
 cases b with
 |true=>exact zeg (h2 σ H1 R1 Γ1 D p1.er (zac w go fun _ _ z=>EXS.trans p1.spo z))
 |false=>exact zeu (h4 σ H1 R1 Γ1 D p1.er (zac w go fun _ _ z=>EXS.trans p1.spo z))
theorem zp0{i:Nat}{x:Str}{pos':Pos}(hij:i≠j)(hN:X.N.Nodup)(hi:X.N[i]? = some x)(hx:Loc X.env.scope x)(he:VE X EE ios e f)(hs:swapsWith e (some (.Name x pos')) pos.line X.env=pure false:=by rfl)(hf:X.fn x=true\/X.env.scope.names.lookup x=some .local:=by first | exact .inl rfl | exact .inr rfl | assumption) :
 VJ j X EE ios (.Assign [.Name x pos'] e pos) (za0 i f):=by
 obtain⟨t,h1,h2⟩:=he
 refine⟨_,ziE hN hi hx h1 hs hf,fun σ H R Γ D er w=>?_⟩
 unfold za0 at w
 rw[zab] at w
 refine h2 σ H R Γ _ er (zac w (fun rv Γ1 w x H1 R1 p1 hx=>?_) fun _ _ z=>z.exp)
 show D.nx (σ.set i (some x)) H1
 have k:∀ v,(σ.set i (some v))[j]? = σ[j]? := fun v=>List.getElem?_set_ne hij
 rw[zab] at w
 cases rv with
 |val d=>exact w _ H1 R1 (SPo.set er p1 (s:=(.frz,d)) hx fun z=>by cases z) (k _)
 |new d =>
   obtain⟨h1,a,h2,h3⟩:=hx
   exact w _ H1 R1 (SPo.set er p1 (s:=(.own,d)) h1 fun _ b eb=>by rw[h2] at eb;cases eb;exact h3) (k _)
 |var j =>
   rw[zab] at w
   obtain⟨d,Γ2,R2,p2,_,r2,w⟩:=zbB er p1 hx w
   exact w _ H1 R2 (SPo.set er p2 (s:=(.frz,d)) r2 fun z=>by cases z) (k _)
end
section
variable{X:Cx}{EE:XKS}{ios:List Addr}{k:Nat}{f:Addr}{fd:FuncData}{ps:List Str}{C:Cn}{fl x:Str}{p pos apos:Pos}{e o:Expr}{es:List Expr}{fs:M (List RV)}{fo:M RV}{G:List D->Option Rx}{Gp:List D->Option Rt}
def zla(C:Cn)(y:Str)(f:M RV):M RV:=M.bind f fun rv=>M.bind (mat rv) fun d=>match d with
 | .obj C' ns vs=>if cd (C'=C) then M.ofO (((ns.zip vs).lookup y).map .val) else M.st
 | _=>M.st
theorem zm1{y:Str}(hcl:Cls X.K (KC.cls C))(hna:NoAttr X.K (KC.cls C) y)(ha:VE X EE ios e fo)(hb:attributeBase e y X.env (eval e X.env)=eval e X.env):VE X EE ios (.Attribute e y pos) (zla C y fo):=by
 obtain⟨t,h1,h2⟩:=ha
 refine⟨_,zqb h1 hb,fun σ H R Γ Q er w=>?_⟩
 unfold zla at w
 rw[zab] at w
 refine h2 σ H R Γ _ er (zac w (fun rx Γ1 w1 x H1 R1 p1 hx=>?_) fun _ _ z=>z)
 clear w
 rw[zab] at w1
 obtain⟨d,Γ2,R2,p2,s2,r2,w2⟩:=zbB er p1 hx w1
 clear w1
 cases d with
 |obj C' ns vs =>
   dsimp only at w2
   split at w2
   · rename_i hc
     have hc:=zdQ hc
     subst hc
     obtain⟨rv,hg,w'⟩:=zbe w2
     obtain⟨d,hd,rfl⟩:=Option.map_eq_some_iff.mp hg
     clear w2
     cases r2 with
     |obj q hv =>
       obtain⟨v,l1,l2⟩:=zfB hv hd
       exact⟨_,_,_,_,v,rfl,p2.er.sub _ _ q,hcl,hna,l1,w' v H1 R2 p2 l2⟩
   · exact False.elim w2
 | _=>exact False.elim w2
def zil(C:Cn)(m:Str)(G:List D->Option Rt)(f:M RV):M RV:=M.bind f fun rv=>M.bind (mat rv) fun d=>match d with
 | .obj C' ns vs=>if cd (C'=C/\m ∉ ns) then M.ofO ((G [.obj C' ns vs]).map Rt.rv) else M.st
 | _=>M.st
theorem zkV{m:Str}{pl:Sem Bool}(hcl:Cls X.K (KC.cls C))(hm:Meth X.K (KC.cls C) m f)(F:FnOk X.prog X.w X.K X.mg X.base CX0 k f fd ps (spP Gp))(hr:Room k X.A)(hb:Binds X.K fd ps [])(ha:VE X EE ios o fo)
 (ht:eval (.Call (.Attribute o m apos) [] [] pos) X.env=(do
  let ov <- eval o X.env
  standAt apos.atName
  let (f,first) <- holding [ov] (getMethod ov m pl)
  callWith pos f first (backTo pos (starEach [] X.env)) (backToKw pos (keywordEach [] X.env))):=by rfl):VE X EE ios (.Call (.Attribute o m apos) [] [] pos) (zil C m Gp fo):=by
 obtain⟨t,h1,h2⟩:=ha
 refine⟨_,zl5 h1 hcl hm F hr hb .nil zjJ ht,fun σ H R Γ Q er w=>?_⟩
 unfold zil at w
 rw[zab] at w
 refine h2 σ H R Γ _ er (zac w (fun rx Γ1 w1 x H1 R1 p1 hx=>?_) fun _ _ z=>z)
 clear w
 rw[zab] at w1
 obtain⟨d,Γ2,R2,p2,s2,r2,w2⟩:=zbB er p1 hx w1
 clear w1
 cases d with
 |obj C' ns vs =>
   dsimp only at w2
   split at w2
   · rename_i hc
     obtain⟨hc,hn⟩:=zdQ hc
     subst hc
     obtain⟨rv,hg,w'⟩:=zbe w2
     obtain⟨r,hG,rfl⟩:=Option.map_eq_some_iff.mp hg
     clear w2
     have r3:=r2
     cases r2 with
     |obj q hv =>
       refine⟨_,_,_,rfl,p2.er.sub _ _ q,?_,R2,[_],p2.er.sub,.cons r3 .nil,?_⟩
       · rw[List.lookup_eq_none_iff]
         intro z hz
         rw[bne_iff_ne]
         intro e
         exact hn (List.mem_map.mpr ⟨z,hz,e.symm⟩)
       · rw[hG]
         exact fun z H' R' al ra=>w' z H' R' (p2.al al) (ra.rv (p2.back er))
   · exact False.elim w2
 | _=>exact False.elim w2
end
end
end Dv
namespace L2
open PySem PySem.Spec PyProof.Rows Ex
section
variable{X:Cx}{pins:List (Addr×Obj)}{σ:St}{H:Hp}{s:Shared}{A:Around}{E:Value->Shared->Prop}{Q:Value->Shared->Prop}{b:Bool}
theorem zix{x:V}{u t:Value}{tp:Addr}{its:List Value}(I:Inv X pins σ H s)(rx:RelV x u)(ty:TyOf X.K H x t)(ht:IsTup s.heap tp its.toArray)(e:W.kitAny X.K t its=some b)(h:∀ tk,Q (.bool b) { s with toks:=tk }) :
 wpAny (model X.prog X.w) A (call (.builtin "isinstance") [u,.ref tp]) Q E s:=by
 obtain⟨ob,g1,g2,n,g3⟩:=ht
 obtain⟨oc,od,oda,osl⟩:=ob
 dsimp only at g2 g3
 subst g2 g3
 cases ty with
 |non=>cases (show u=Value.none from rx);exact W.kia_tup W.kitx_none I.kIn True.intro g1 e (fun z=>nomatch z) h
 |bl y=>cases (show u=Value.bool y from rx);exact W.kia_tup W.kitx_bool I.kIn True.intro g1 e (fun z=>nomatch z) h
 |int i=>obtain⟨t,q⟩:=(show ∃ t,u=Value.int i t from rx);cases q;exact W.kia_tup W.kitx_int I.kIn True.intro g1 e (fun z=>nomatch z) h
 |str y=>obtain⟨t,q⟩:=(show ∃ t,u=Value.str y t from rx);cases q;exact W.kia_tup W.kitx_str I.kIn True.intro g1 e (fun z=>nomatch z) h
 |flt y=>obtain⟨t,q⟩:=(show ∃ t,u=Value.float y t from rx);cases q;exact W.kia_tup W.kitx_float I.kIn True.intro g1 e (fun z=>nomatch z) h
 | @lst a xs ea =>
   cases (show u=Value.ref a from rx)
   obtain⟨_,_,n,_,h1⟩:=(show ObjOk X.prog X.w H s.heap a (.lst xs) from I.hok a _ ea)
   exact W.kia_tup W.kitx_list I.kIn ⟨_,h1,rfl⟩ g1 e (fun z=>nomatch z) h
 | @frz a ob xs ea =>
   cases (show u=Value.ref a from rx)
   obtain⟨_,_,_,n,_,h1⟩:=(show ObjOk X.prog X.w H s.heap a (.frz ob (.lst xs)) from I.hok a _ ea)
   exact W.kia_tup W.kitx_list I.kIn ⟨_,h1,rfl⟩ g1 e (fun z=>nomatch z) h
 | @tup a xs ea =>
   cases (show u=Value.ref a from rx)
   obtain⟨_,_,_,p⟩:=(show ObjOk X.prog X.w H s.heap a (.tup xs) from I.hok a _ ea)
   obtain⟨o,h1,h2,_⟩:=p
   exact W.kia_tup W.kitx_tuple I.kIn ⟨o,h1,h2⟩ g1 e (fun z=>nomatch z) h
 | @dK a kvs ea =>
   cases (show u=Value.ref a from rx)
   obtain⟨_,_,vs,_,p⟩:=(show ObjOk X.prog X.w H s.heap a (.dK kvs) from I.hok a _ ea)
   obtain⟨o,es,ep,h1,h2,_⟩:=p
   exact W.kia_tup W.kitx_dict I.kIn ⟨o,h1,h2.1⟩ g1 e (fun z=>nomatch z) h
 | @dT a kvs ea =>
   cases (show u=Value.ref a from rx)
   obtain⟨_,_,xs,_,o,es,ep,h1,h2,_⟩:=(show ObjOk X.prog X.w H s.heap a (.dT kvs) from I.hok a _ ea)
   exact W.kia_tup W.kitx_dict I.kIn ⟨o,h1,h2.1⟩ g1 e (fun z=>nomatch z) h
 | @ins a C dx fs ea cl ha hn htk hm =>
   cases (show u=Value.ref a from rx)
   obtain⟨mA,O,_⟩:=zdM I.hok ea
   obtain⟨od,J,_⟩:=O.look
   exact W.kia_tup (W.kitx_own (cl.get _) cl.hd ha hn htk hm) I.kIn J g1 e (fun z=>nomatch z) h
def zqJ(K:W.Frag):List V->Hp->VK->Prop:=fun xs H Q=>∃ x p T U t b,xs=[x,.ref p]/\H p=some (.tup [.ty T,.ty U])/\TyOf K H x t/\W.kitAny K t [.type T,.type U]=some b/\Q (.bl b) H
theorem zgr:CallR X (.builtin "isinstance") (zqJ X.K):=by
 intro pins s σ H xs us Q I r h
 obtain⟨x,p,T,U,t,b,rfl,hp,ty,e,q⟩:=h
 obtain⟨u,u2,rfl,rx,rc⟩:=Vals.two r
 obtain rfl:u2=Value.ref p:=rc
 obtain⟨_,its,rv,ht⟩:=(show ObjOk X.prog X.w H s.heap p (.tup [.ty T,.ty U]) from I.hok p _ hp)
 obtain⟨v1,v2,rfl,r1,r2⟩:=Vals.two rv
 obtain rfl:v1=Value.type T:=r1
 obtain rfl:v2=Value.type U:=r2
 exact zix I rx ty ht e fun tk=>⟨.bl b,H,I.tok _,rfl,q⟩
mutual
theorem DatV.one{H:Hp}:∀ {x:V} {d e:PyData},DatV H x d->DatV H x e->d=e
 | _,_,_,.non,.non=>rfl
 | _,_,_,.bl _,.bl _=>rfl
 | _,_,_,.int _,.int _=>rfl
 | _,_,_,.str _,.str _=>rfl
 | _,_,_,.lst h1 a,.lst h2 b=>by
   rw[h1] at h2
   cases h2
   rw[DatsV.one a b]
 | _,_,_,.tup h1 a,.tup h2 b=>by
   rw[h1] at h2
   cases h2
   rw[DatsV.one a b]
 | _,_,_,.lst h1 a,.tup h2 b=>by rw[h1] at h2;cases h2
 | _,_,_,.tup h1 a,.lst h2 b=>by rw[h1] at h2;cases h2
theorem DatsV.one{H:Hp}:∀ {xs:List V} {ds es:List PyData},DatsV H xs ds->DatsV H xs es->ds=es
 | _,_,_,.nil,.nil=>rfl
 | _,_,_,.cons a b,.cons c d=>by rw[DatV.one a c,DatsV.one b d]
end
open Classical in
def eqH(H:Hp)(d:PyData)(u:Value):Bool:=decide (∃ x e,RelV x u/\DatV H x e/\PyData.eqv e d=true)
open Classical in
theorem zmQ{H:Hp}{d e:PyData}{x:V}{u:Value}(r:RelV x u)(h:DatV H x e):eqH H d u=PyData.eqv e d:=by
 unfold eqH
 cases q:PyData.eqv e d with
 |true=>exact decide_eq_true ⟨x,e,r,h,q⟩
 |false =>
   refine decide_eq_false ?_
   rintro⟨y,e',ry,he,q'⟩
   have:=ry.inj r
   subst this
   rw[he.one h,q] at q'
   cases q'
theorem zjC{H:Hp}{d:PyData}:∀ {xs:List V} {us:List Value} {ds:List PyData},Vals xs us->DatsV H xs ds->us.any (eqH H d)=ds.any fun e=>PyData.eqv e d
 | _,_,_,.nil,.nil=>rfl
 | _,_,_,.cons r t,.cons a b=>by rw[List.any_cons,List.any_cons,zmQ r a,zjC t b]
theorem zje{H:Hp}{P:Program}{w:World}{s:Shared}{A:Around}{v:Value}{d:PyData}{as:List Addr}(ok:HOk P w H s.heap)(hv:Reads s.heap v d as)(sd:SeqAt.shaped d=true)(hu:A.units+64<cLine):∀ {xs:List V} {us:List Value} {ds:List PyData},Vals xs us->DatsV H xs ds->ds.all SeqAt.shaped=true->∀ u∈us,SeqAt.EqAt A s u v (eqH H d u)
 | _,_,_,.nil,.nil,_=>fun u hu=>by cases hu
 | _,_,_,.cons r t,.cons a b,f=>fun u hm=>by
   rw[List.all_cons,Bool.and_eq_true] at f
   rcases List.mem_cons.1 hm with rfl | hm
   · rw[zmQ r a]
     obtain⟨bs,rb⟩:=a.reads ok r
     exact SeqAt.eqAt_reads _ _ A s _ _ _ _ rb hv (SeqAt.canLay_of_shaped f.1) (SeqAt.canLay_of_shaped sd) (by have:=SeqAt.depth_of_shaped sd;omega)
   · exact zje ok hv sd hu t b f.2 u hm
end
end L2
namespace Dv
open PySem L2 Ex
variable[KC]
section
variable{X:Cx}{EE:XKS}{ios:List Addr}{a o c:Expr}{f fo:M RV}{p:M Bool}{es:List Expr}{fs:M (List RV)}
omit [KC] in
theorem zpM[KC](K:W.Frag)(d:D)(hd:plain d=true):W.kitAny K (.type (tyN d)) [.type "list",.type "tuple"]=some (zct .list d || zct .tuple d):=by
 cases d<;>first | kernel_rfl | cases hd
def zmo:D->Option RV
 | .scr _=>none
 | .ins _ _ _=>none
 | .obj _ _ _=>none
 |d=>some (.val (.bl (zct .list d || zct .tuple d)))
def zfx(f:M RV):M RV:=M.bind (zex f) fun x=>M.bind (peek x) fun d=>M.ofO (zmo d)
theorem zl3{e0:Expr}(hp:∀ t,PE X a t->PE X e0 (tCB (zqJ X.K) (zdp t (zdp (zrw (zdp (tC (.ty "list")) (zdp (tC (.ty "tuple")) zkt))) zkt))))(ha:VE X EE ios a f):VE X EE ios e0 (zfx f):=by
 obtain⟨t,h1,h2⟩:=ha
 refine⟨_,hp t h1,fun σ H R Γ Q er w=>?_⟩
 unfold zfx at w
 rw[zab] at w
 refine zgx h2 er (zac w (fun rx Γ1 w x H1 R1 p1 hx=>?_) fun _ _ z=>z)
 rw[zab] at w
 obtain⟨d,pd,w⟩:=zbt (H:=H) p1.er hx.rv w
 obtain⟨rv,hg,w⟩:=zbe w
 have ns:plain d=true:=by cases d<;>first | rfl | cases hg
 have hg:rv = .val (.bl (zct .list d || zct .tuple d)):=by cases d<;>first | (cases hg;done) | exact(Option.some.inj hg).symm
 subst hg
 refine⟨by show 2<=sizeLine;decide +kernel,fun q hq=>?_⟩
 have al:Al R1 H1 R1 (upd H1 q (.tup [.ty "list",.ty "tuple"])):=⟨fun b o z=>by rw[zaf (fun e=>by rw[e,p1.er.sub.free hq] at z;cases z)];exact p1.er.sub b o z,Same.refl _,zaI hq,fun _ _ _ h=>h⟩
 have hv:=(pd.hv p1.er.sub).sm (H':=upd H1 q (.tup [.ty "list",.ty "tuple"])) (zaI hq)
 have ty:=hv.ty (K:=X.K) ns
 exact⟨x,q,_,_,_,_,rfl,zal,ty,zpM X.K d ns,w _ _ R1 (p1.al al) (.bl _)⟩
omit [KC] in
theorem zi6[KC]{R:Hp}:∀ {xs:List V} {ds:List D},Rps R xs ds->ds.all zbP=true->DatsV R xs (ds.map D.py)
 | _,_,.nil,_=>.nil
 | _,_,.cons a b,z=>by
   rw[List.all_cons,Bool.and_eq_true] at z
   exact .cons (a.dat (zbE z.1)) (zi6 b z.2)
end
def SepO(H R':Hp)(x:V)(r:Rt):Prop:=∃ C fl a dx b xs ds,x = .ref a/\r = .val (.obj C [fl] [.lst ds])/\R' a=some (.ins (KC.cls C) dx [(fl,.ref b)])/\R' b=some (.lst xs)/\H a=none/\H b=none/\Rps R' xs ds/\zby ds=true
theorem SepO.rp{H R' H' H0:Hp}{σ:St}{x:V}{r:Rt}(h:SepO H R' x r):RvR R' H0 H' σ x r.rv:=by
 obtain⟨C,fl,a,dx,b,xs,ds,rfl,rfl,h1,h2,_,_,h3,_⟩:=h
 exact Rp.obj (fs:=[(fl,.ref b)]) h1 (.cons (.lst h2 h3) .nil)
def spY(G:List D->Option Rx):Sp:=fun vs H Q E=>∃ R ds,Same R H/\Rps R vs ds/\match G ds with
 |some (.ok r)=>∀ x H' R',Al R H R' H'->SepO H R' x r->Q x H'
 |some (.ex x)=>∀ e H' R',Al R H R' H'->XcR R' H H' e x->E (.ref (KC.cls x.C)) (some e) H'
 |none=>False
def zpY(C:Cn)(fl:Str)(G:List D->Option Rx):Sp:=fun vs H Q E=>∃ x dx vs' R ds,vs = .ref x::vs'/\H x=some (.ins (KC.cls C) dx [])/\R x=none/\Same R H/\Rps R vs' ds/\(match G ds with
 |some (.ok r)=>∃ es,r = .val (.obj C [fl] [.lst es])/\zby es=true/\∀ H' R' b xs,AlB x R H R' H'->R' x=some (.ins (KC.cls C) dx [(fl,.ref b)])->R' b=some (.lst xs)->H b=none->Rps R' xs es->Q .non H'
 |some (.ex xc)=>∀ e H' R',AlB x R H R' H'->XcR R' H H' e xc->E (.ref (KC.cls xc.C)) (some e) H'
 |none=>False)
theorem zmz{C:Cn}{fl:Str}{G:List D->Option Rx}(hG:∀ ds r,G ds=some (.ok r)->∃ es,r = .val (.obj C [fl] [.lst es])/\zby es=true):Made (KC.cls C) (spY G) (zpY C fl G):=by
 intro vs H Q E h x dx hx hdx ne
 obtain⟨R,ds,s,rp,k⟩:=h
 have ex:upd (upd H dx (.own x)) x (.ins (KC.cls C) dx []) x=some (.ins (KC.cls C) dx []):=zal
 have old:∀ b o,H b=some o->upd (upd H dx (.own x)) x (.ins (KC.cls C) dx []) b=some o:=fun b o h=>by
  rw[zaf (fun z=>by rw[z,hx] at h;cases h),zaf (fun z=>by rw[z,hdx] at h;cases h)]
  exact h
 have back:∀ a,upd (upd H dx (.own x)) x (.ins (KC.cls C) dx []) a=none->H a=none:=fun a ha=>by
  cases q:H a with
  |none=>rfl
  |some o=>rw[old a o q] at ha;cases ha
 have rx:R x=none:=s.free hx
 have alof:∀ {R' H'},AlB x R (upd (upd H dx (.own x)) x (.ins (KC.cls C) dx [])) R' H'->Al R H R' H':=fun al=>⟨al.sub,al.rr,fun b o h=>al.hh b o (fun z=>by rw[z,hx] at h;cases h) (old b o h),fun b o h r=>al.no b o (fun z=>by rw[z,hx] at h;cases h) (old b o h) r⟩
 refine⟨x,dx,vs,R,ds,rfl,ex,rx,fun b o h=>old b o (s b o h),rp,?_⟩
 cases q:G ds with
 |none=>rw[q] at k;exact k
 |some r =>
   rw[q] at k
   cases r with
   |ok r =>
     obtain⟨es,rfl,him⟩:=hG ds r q
     exact⟨es,rfl,him,fun H' R' b xs al h1 h2 h3 h4=>⟨rfl,k _ H' R' (alof al) ⟨C,fl,x,dx,b,xs,es,rfl,rfl,h1,h2,hx,back b h3,h4,him⟩⟩⟩
   |ex xc =>
     intro e H' R' al xr
     exact k e H' R' (alof al) (XcR.back back xr)
def zhC(s1 s2:M Fl)(fe:M RV):M (List D):=M.bind s1 fun l1=>match l1 with
 | .nx=>M.bind s2 fun l2=>match l2 with
   | .nx=>M.bind fe fun rv=>match rv with
     | .new (.lst es)=>if zby es=true then M.pure es else M.st
     | _=>M.st
   | _=>M.st
 | _=>M.st
def zhy(C:Cn)(fl:Str):Res (List D)->Option Rx
 | .ok es _=>some (.ok (.val (.obj C [fl] [.lst es])))
 | .ex x _=>some (.ex x)
 | .st=>none
theorem zmJ{P:Program}{w:World}{K:W.Frag}{mg:Str->Option Value}{base:Heap}{name qual:Str}{fa:Addr}{params:Arguments}{body:List Stmt}{scope:Scope}{dV kV doc pm cdv ct oc:Value}{an od:Option Addr}{osl:Array (Option Value)}{N ps:List Str}{k:Nat}{C:Cn}{fl:Str}{G:List D->Option Rx}{s1 s2:M Fl}{fe:M RV}{st1 st2:Stmt}{self:Str}{p0 p1 p2:Pos}{e:Expr}
 (lk:K.lookup fa=some ⟨oc,od,.func (W.fnOf name qual params body scope dV kV doc pm an cdv ct),osl⟩) (hcd:W.codeIn K cdv qual=true) (S:FnScope N ps scope) (hbody:body=[st1,st2,.Assign [.Attribute (.Name self p0) fl p1] e p2]) (hcl:Cls K (KC.cls C)) (hna:NoAttr K (KC.cls C) fl)
 (hb:∀ (A:Around) (outer:List Env) (s:Shared) (H:Hp) (E:XK),Room k (A.deeper (PyProof.Rows.envOfC qual scope s.heap.objs.size fa cdv))->let X:=zcG (CXe P w) P w K mg base N qual scope fa cdv A outer s H E
  VJ 0 X (fun _=>E) [] st1 s1/\VJ 0 X (fun _=>E) [] st2 s2/\VE X (fun _=>E) [] e fe/\PE X (.Name self p0) (zfG 0)/\swapsWith e (some (.Attribute (.Name self p0) fl p1)) p2.line X.env=pure false)
 (h:∀ ds r,G ds=some r->ds.length+1=ps.length/\ds.length<N.length/\zhy C fl (zhC s1 s2 fe (none::(gam N.tail ds)))=some r):FnOk P w K mg base (CXe P w) (k+1) fa (W.fnOf name qual params body scope dV kV doc pm an cdv ct) ps (zpY C fl G):=by
 refine zmG lk hcd S (fun vs H Q E q=>?_) fun A outer s H vs Q E hr q=>?_
 · obtain⟨x,dx,vs',R,ds,rfl,_,_,_,h2,h3⟩:=q
   cases e:G ds with
   |none=>rw[e] at h3;exact h3.elim
   |some r=>rw[List.length_cons,h2.len];exact(h ds r e).1
 · obtain⟨x,dx,vs',R,ds,rfl,hx,hRx,h1,h2,h3⟩:=q
   cases eG:G ds with
   |none=>rw[eG] at h3;exact h3.elim
   |some r =>
     rw[eG] at h3
     obtain⟨⟨t1,a1,a2⟩,⟨t2,b1,b2⟩,⟨t3,c1,c2⟩,hv,hsw⟩:=hb A outer s H E hr
     obtain⟨hl1,hl2,fin⟩:=h ds r eG
     have hn0:N≠[]:=fun z=>by rw[z] at hl2;simp at hl2
     obtain⟨n0,N',rfl⟩:=List.exists_cons_of_ne_nil hn0
     have er0:ER [] R H (L2.start (n0::N') (.ref x::vs')) (none::gam N' ds):=by
      have er:=zdS (N:=N') h1 h2
      have es:L2.start (n0::N') (.ref x::vs')=some (.ref x)::L2.start N' vs':=by
       unfold L2.start
       simp
      rw[es]
      refine⟨er.sub,by simp[er.len],fun i sl q=>?_,fun i j k l d e b q1 q2 q3 q4 q5 q6=>?_⟩
      · cases i with
        |zero=>simp at q
        |succ i=>simpa using er.sl i sl (by simpa using q)
      · cases i with
        |zero=>simp at q1
        |succ i =>
          cases j with
          |zero=>simp at q3
          |succ j=>rw[er.dj i j k l d e b (by simpa using q1) q2 (by simpa using q3) q4 (by simpa using q5) (by simpa using q6)]
     have now0:∀ b, ¬ Ow (L2.start (n0::N') (.ref x::vs')) (none::gam N' ds) b:=fun b=>by
      rintro⟨i,k,d,q1,q2,_⟩
      cases i with
      |zero=>simp at q1
      |succ i =>
        obtain⟨_,_,z⟩:=zgQ (N:=N') (by simpa using q1)
        cases z
        cases q2
     have al0:∀ {R' H':Hp} {σ':St} {Γ':En},SPo [] R H (L2.start (n0::N') (.ref x::vs')) (none::gam N' ds) R' H' σ' Γ'->AlB x R H R' H'/\H' x=some (.ins (KC.cls C) dx [])/\R' x=none:=fun p =>
      ⟨⟨p.er.sub,p.go.rr,fun b o _ h=>p.go.hh b o h (now0 b),fun b o _ h r=>p.go.no b o h (now0 b) r⟩,p.go.hh x _ hx (now0 x),p.go.no x _ hx (now0 x) hRx⟩
     rw[hbody]
     refine⟨_,zbx a1 (zbx b1 (zck (zpg hv c1 hsw))),?_⟩
     have s0:(L2.start (n0::N') (.ref x::vs'))[0]? = some (some (.ref x)):=zeM rfl
     have fin:zhy C fl (zhC s1 s2 fe (none::gam N' ds))=some r:=fin
     unfold zhC M.bind at fin
     show t1 _ _ _
     refine a2 _ H R _ _ er0 ?_
     cases q1:s1 (none::gam N' ds) with
     |st=>rw[q1] at fin;cases fin
     |ex xc Γ' =>
       rw[q1] at fin
       cases fin
       exact fun e σ' H' R' p qx=>h3 e H' R' (al0 p).1 qx
     |ok f1 Γ1 =>
       rw[q1] at fin
       refine zcO fun σ1 H1 R1 p1 k1=>?_
       cases f1 with
       |brk=>cases fin
       |cont=>cases fin
       |ret rv=>cases fin
       |nx =>
         dsimp only at fin ⊢
         show t2 _ _ _
         refine b2 _ H1 R1 _ _ p1.er ?_
         cases q2:s2 Γ1 with
         |st=>rw[q2] at fin;cases fin
         |ex xc Γ' =>
           rw[q2] at fin
           cases fin
           exact fun e σ' H' R' p qx=>h3 e H' R' (al0 (p1.trans p)).1 (qx.back p1.back)
         |ok f2 Γ2 =>
           rw[q2] at fin
           refine zcO fun σ2 H2 R2 p2 k2=>?_
           cases f2 with
           |brk=>cases fin
           |cont=>cases fin
           |ret rv=>cases fin
           |nx =>
             dsimp only at fin ⊢
             have p12:=p1.trans p2
             have k12:σ2[0]? = some (some (.ref x)):=by rw[k2,k1];exact s0
             refine c2 σ2 H2 R2 Γ2 _ p2.er ?_
             cases q3:fe Γ2 with
             |st=>rw[q3] at fin;cases fin
             |ex xc Γ' =>
               rw[q3] at fin
               cases fin
               exact fun e H' R' p qx=>h3 e H' R' (al0 (p12.trans p.spo)).1 (qx.back p12.back)
             |ok rv Γ3 =>
               rw[q3] at fin
               dsimp only at fin
               refine zcO fun y H3 R3 p3 hy=>?_
               cases rv with
               |val d=>cases fin
               |var i=>cases fin
               |new d =>
                 cases d with
                 |lst es =>
                   dsimp only at fin
                   by_cases him:zby es=true
                   · rw[if_pos him] at fin
                     cases fin
                     obtain⟨⟨b,ys,ds2,rfl,r1,r2,r3,r4⟩,b',eb,hf⟩:=hy
                     cases eb
                     cases r3
                     obtain⟨alb,hx3,rx3⟩:=al0 (p12.trans p3.spo)
                     have hHb:H b=none:=p12.back b hf
                     have hbx:b≠x:=fun z=>by rw[z,hx] at hHb;cases hHb
                     refine⟨.ref x,k12,x,KC.cls C,dx,[],rfl,hx3,hcl,hna,by simp,?_⟩
                     obtain⟨es',ee,_,h3⟩:=h3
                     cases ee
                     have re:Same R3 (ext R3 H3 b):=zcy r1
                     have rx4:ext R3 H3 b x=none:=by rw[zcu (Ne.symm hbx)];exact rx3
                     have r':Same (ext R3 H3 b) (upd (ext R3 H3 b) x (.ins (KC.cls C) dx [(fl,.ref b)])):=zaI rx4
                     refine h3 _ (upd (ext R3 H3 b) x (.ins (KC.cls C) dx [(fl,.ref b)])) b ys ⟨fun c o hc=>?_,(alb.rr.trans re).trans r',fun c o hc ho=>by rw[zaf hc];exact alb.hh c o hc ho,fun c o hc ho hr=>?_⟩ zal ?_ hHb (r4.sm (re.trans r'))
                     · by_cases z:c=x
                       · subst z
                         rw[zal] at hc ⊢
                         exact hc
                       · rw[zaf z] at hc ⊢
                         exact zeK alb.sub c o hc
                     · rw[zaf hc,zcu]
                       · exact alb.no c o hc ho hr
                       · rintro rfl
                         rw[hHb] at ho
                         cases ho
                     · rw[zaf hbx,zcP]
                       exact r2
                   · rw[if_neg him] at fin
                     cases fin
                 | _=>cases fin
def zfS(G:List D->Option Rx)(fs:M (List RV)):M RV:=M.bind fs fun rvs=>M.bind (zaz rvs) fun ds=>match G ds with
 |some (.ok r)=>M.pure r.rv
 |some (.ex x)=>M.bind (zaE rvs) fun ds'=>match G ds' with
  |some (.ex x)=>M.thr x
  | _=>M.st
 |none=>M.st
section
variable{X:Cx}{EE:XKS}{ios:List Addr}{e:Expr}{es:List Expr}{fs:M (List RV)}{G:List D->Option Rx}{t:TA}
theorem zmp(h2:RdA EE ios t fs){σ:St}{H R:Hp}{Γ:En}{Q:VK}(er:ER ios R H σ Γ)
 (w:wpM (zfS G fs Γ) (fun rv Γ'=>∀ x H' R' r,rv=Rt.rv r->EPo ios R H σ Γ R' H' Γ'->SepO H R' x r->Q x H') (EXP EE ios R H σ Γ)):ze3 (spY G) [] EE t σ H Q:=by
 unfold zfS at w
 rw[zab] at w
 refine h2 σ H R Γ _ er (zac w (fun rvs Γ1 w xs H1 R1 p1 hx=>?_) fun _ _ z=>z)
 show spY G (xs++[]) H1 Q (EE σ)
 rw[List.append_nil]
 rw[zab] at w
 obtain⟨ds,q,w⟩:=zdv w
 obtain⟨ds',pk,e⟩:=zbR (K:=fun ds' _=>ds'=ds) (E:=fun _ _=>False) p1.er hx (by rw[q];exact rfl)
 subst e
 cases hG:G ds' with
 |none=>rw[hG] at w;exact False.elim w
 |some rx =>
   rw[hG] at w
   cases rx with
   |ex x =>
     have w:wpM (M.bind (zaE rvs) (fun ds'=>match G ds' with
      |some (.ex x)=>M.thr x
      | _=>M.st) Γ1) _ _:=w
     rw[zab] at w
     obtain⟨ds2,Γ2,R2,p2,s2,r2,w⟩:=zaY er p1 hx w
     refine⟨R2,ds2,p2.er.sub,r2,?_⟩
     cases hG2:G ds2 with
     |none=>rw[hG2] at w;exact False.elim w
     |some ry =>
       rw[hG2] at w
       cases ry with
       |ok r=>exact False.elim w
       |ex y=>exact fun e H' R' al xr=>w e H' R' (p2.al al) (xr.back p2.since)
   |ok r =>
     have w:∀ x H' R' r',r.rv=Rt.rv r'->EPo ios R H σ Γ R' H' Γ1->SepO H R' x r'->Q x H':=w
     refine⟨lent (Ow σ Γ1) R1 H1,ds',zfn p1.er.sub,Pks.lent p1.er hx pk q,?_⟩
     rw[hG]
     intro x H' R' al ra
     have ow:∀ b,Ow σ Γ1 b->R1 b=none/\∃ xs,H1 b=some (.lst xs):=fun b z=>p1.er.ow z
     have un:∀ b, ¬ Ow σ Γ1 b->zaT (Ow σ Γ1) R' b=R' b:=fun b z=>by unfold zaT;rw[if_neg z]
     have un':∀ b,Ow σ Γ1 b->zaT (Ow σ Γ1) R' b=none:=fun b z=>by unfold zaT;rw[if_pos z]
     have tup:∀ b ys,R' b=some (.tup ys)->zaT (Ow σ Γ1) R' b=some (.tup ys):=fun b ys z=>by
      rw[un b]
      · exact z
      · intro o
        obtain⟨_,zs,hz⟩:=ow b o
        have:=al.sub _ _ z
        rw[al.hh _ _ hz] at this
        cases this
     have rr:Same R1 (zaT (Ow σ Γ1) R'):=fun b o z=>by
      have nb : ¬ Ow σ Γ1 b:=fun q=>by rw[(ow b q).1] at z;cases z
      rw[un b nb]
      apply al.rr
      unfold lent
      rw[if_neg nb]
      exact z
     have no:∀ b o,H1 b=some o->R1 b=none->zaT (Ow σ Γ1) R' b=none:=fun b o hb rb=>by
      by_cases nb:Ow σ Γ1 b
      · exact un' b nb
      · rw[un b nb]
        apply al.no b o hb
        unfold lent
        rw[if_neg nb]
        exact rb
     have al':Al R1 H1 (zaT (Ow σ Γ1) R') H':=⟨fun b o z=>by
      by_cases nb:Ow σ Γ1 b
      · rw[un' b nb] at z;cases z
      · rw[un b nb] at z;exact al.sub b o z,rr,al.hh,no⟩
     refine w x H' _ r rfl (p1.al al') ?_
     obtain⟨C,fl,a,dx,b,xs',ds2,rfl,rfl,h1,h3,h4,h5,h6,h7⟩:=ra
     have nw:∀ c,H1 c=none -> ¬ Ow σ Γ1 c:=fun c hc z=>by obtain⟨_,zs,hz⟩:=ow c z;rw[hc] at hz;cases hz
     exact⟨C,fl,a,dx,b,xs',ds2,rfl,rfl,by rw[un a (nw a h4)];exact h1,by rw[un b (nw b h5)];exact h3,p1.back er a h4,p1.back er b h5,h6.less tup h7,h7⟩
def VY(X:Cx)(EE:XKS)(ios:List Addr)(e:Expr)(G:List D->Option Rx)(fs:M (List RV)):Prop:=∃ t,PE X e (ze3 (spY G) [] EE t)/\RdA EE ios t fs
theorem VY.ve(h:VY X EE ios e G fs):VE X EE ios e (zfS G fs):=by
 obtain⟨t,h1,h2⟩:=h
 exact⟨_,h1,fun σ H R Γ Q er w=>zmp h2 er (zac w (fun rv Γ' w x H' R' r e p so=>by subst e;exact w x H' R' p so.rp) fun _ _ z=>z)⟩
def zom(P:Program)(w:World)(mg:Str->Option Value)(base:Heap)(x:Str)(k:Nat)(ps:List Str)(dvs:List V)(C:Cn)(fl:Str)(G:List D->Option Rx):Prop:=mg x=some (.ref (KC.cls C))/\(∀ ds r,G ds=some (.ok r)->∃ es,r = .val (.obj C [fl] [.lst es])/\zby es=true)/\∃ f fd,Mk KC.K (KC.cls C) f/\FnOk P w KC.K mg base (CXe P w) k f fd ("self" :: ps) (zpY C fl G)/\Binds KC.K fd ("self" :: ps) []/\∃ dd,Binds KC.K fd ("self" :: ps) dd/\Vals dvs dd
theorem zrj{x fl:Str}{k:Nat}{ps:List Str}{p0 pos:Pos}{dvs:List V}{C:Cn}(hX:XOk X EE)(Mc:zom X.prog X.w X.mg X.base x k ps dvs C fl G)(hr:Room (k+1) X.A)(hg:Gl X x)(ha:VA X EE ios (e::es) fs)(hK:X.K=KC.K:=by rfl)(hdb:(x == ("__debug__" : Str))=false:=by decide)
 (he:starEach (e::es) X.env=(false,eval e X.env)::starEach es X.env:=by rfl) (hpl:(backTo pos (starEach es X.env)).any (·.1)=false:=by rfl):VY X EE ios (.Call (.Name x p0) (e::es) [] pos) G fs:=by
 obtain⟨hm,hG,f,fd,Mo,F,hb,_⟩:=Mc
 rw[<- hK] at F hb Mo
 obtain⟨t,h1,h2⟩:=ha
 exact⟨t,zl0 Mo F hr hg hm hb .nil hX (zmz hG) h1 hdb he hpl,h2⟩
end
def AtM(C:Cn)(m qual:Str)(st:Stmt):Prop:=∃ f fd,Fun KC.K m qual st f fd/\Meth KC.K (KC.cls C) m f
def zoe(P:Program)(w:World)(mg:Str->Option Value)(base:Heap)(C:Cn)(m:Str)(k:Nat)(ps:List Str)(sp:Sp):Prop:=∃ f fd,Meth KC.K (KC.cls C) m f/\FnOk P w KC.K mg base CX0 k f fd ps sp/\Binds KC.K fd ps []
section
variable{P:Program}{w:World}{mg:Str->Option Value}{base:Heap}{k:Nat}{N ps:List Str}{C:Cn}{m qual fl:Str}{st:Stmt}
theorem znh{G:List D->Option Rt}{bm:M Fl}(A0:AtM C m qual st)(S:FnScope N ps (defScope st))
 (bd:∀ (kV doc pm:Value) (an:Option Addr) (cdv ct:Value) (us:List Value),us.length=ps.length->bindArgs (W.fnOf m qual (defArgs st) (defBody st) (defScope st) .none kV doc pm an cdv ct) ⟨us,[]⟩=pure (ps.zip us))
 (hb:∀ (fa:Addr) (cdv:Value) (A:Around) (outer:List Env) (s:Shared) (H:Hp) (E:XK),Room k (A.deeper (PyProof.Rows.envOfC qual (defScope st) s.heap.objs.size fa cdv))->VSs (zcG CX0 P w KC.K mg base N qual (defScope st) fa cdv A outer s H E).nox EN [] (defBody st) bm)
 (h:∀ ds r,G ds=some r->ds.length=ps.length/\zbb (bm (gam N ds))=some r):zoe P w mg base C m (k+1) ps (spP G) :=
 let ⟨f,fd,F,hm⟩:=A0
 ⟨f,fd,hm,zgk F S (hb f) h,F.binds bd⟩
def AtI(C:Cn)(qual:Str)(st:Stmt)(ps:List Str):Prop:=∃ (fa:Addr) (dV kV doc pm cdv ct oc:Value) (an od:Option Addr) (osl:Array (Option Value)),KC.K.lookup fa=some ⟨oc,od,.func (W.fnOf "__init__" qual (defArgs st) (defBody st) (defScope st) dV kV doc pm an cdv ct),osl⟩/\W.codeIn KC.K cdv qual=true/\Mk KC.K (KC.cls C) fa /\
 Binds KC.K (W.fnOf "__init__" qual (defArgs st) (defBody st) (defScope st) dV kV doc pm an cdv ct) ("self" :: ps) []/\Binds KC.K (W.fnOf "__init__" qual (defArgs st) (defBody st) (defScope st) dV kV doc pm an cdv ct) ("self" :: ps) [.none]
def runN(C:Cn)(fl:Str)(n:Nat)(N:List Str)(s1 s2:M Fl)(fe:M RV):List D->Option Rx:=fun ds=>if ds.length=n then zhy C fl (zhC s1 s2 fe (none::gam N ds)) else none
theorem ziW{n:Nat}{s1 s2:M Fl}{fe:M RV}{ds:List D}{r:Rx}(h:runN C fl n N s1 s2 fe ds=some r):ds.length=n/\zhy C fl (zhC s1 s2 fe (none::gam N ds))=some r:=by
 unfold runN at h
 split at h
 · rename_i c;exact⟨c,h⟩
 · cases h
omit [KC] in
theorem zfl{α β:Type}{f:M α}{g:α->M β}{Γ Γ':En}{b:β}(h:M.bind f g Γ = .ok b Γ'):∃ a Γ1,f Γ = .ok a Γ1/\g a Γ1 = .ok b Γ':=by
 unfold M.bind at h
 cases q:f Γ with
 |ok a Γ1=>rw[q] at h;exact⟨a,Γ1,rfl,h⟩
 |ex x Γ1=>rw[q] at h;cases h
 |st=>rw[q] at h;cases h
theorem zlb{n:Nat}{s1 s2:M Fl}{fe:M RV}(ds:List D)(r:Rt)(h:runN C fl n N s1 s2 fe ds=some (.ok r)):∃ es,r = .val (.obj C [fl] [.lst es])/\zby es=true:=by
 have h:=(ziW h).2
 cases q:zhC s1 s2 fe (none::gam N ds) with
 |st=>rw[q] at h;cases h
 |ex x Γ=>rw[q] at h;cases h
 |ok es Γ =>
   rw[q] at h
   cases h
   refine⟨es,rfl,?_⟩
   unfold zhC at q
   obtain⟨l1,Γ1,_,q⟩:=zfl q
   cases l1 with
   |nx =>
     obtain⟨l2,Γ2,_,q⟩:=zfl q
     cases l2 with
     |nx =>
       obtain⟨rv,Γ3,_,q⟩:=zfl q
       cases rv with
       |new d =>
         cases d with
         |lst zs =>
           dsimp only at q
           split at q
           · rename_i hm
             cases q
             exact hm
           · cases q
         | _=>cases q
       | _=>cases q
     | _=>cases q
   | _=>cases q
theorem znz{x:Str}{n:Nat}{s1 s2:M Fl}{fe:M RV}{st1 st2:Stmt}{self:Str}{p0 p1 p2:Pos}{e:Expr}(A0:AtI C qual st ps)(hm:mg x=some (.ref (KC.cls C)))(S:FnScope ("self" :: N) ("self" :: ps) (defScope st))(hbd:defBody st=[st1,st2,.Assign [.Attribute (.Name self p0) fl p1] e p2])(hcl:Cls KC.K (KC.cls C))(hna:NoAttr KC.K (KC.cls C) fl)(hn:ps.length=n)(hN:n<N.length+1)
 (hb:∀ (fa:Addr) (cdv:Value) (A:Around) (outer:List Env) (s:Shared) (H:Hp) (E:XK),Room k (A.deeper (PyProof.Rows.envOfC qual (defScope st) s.heap.objs.size fa cdv))->let X:=zcG (CXe P w) P w KC.K mg base ("self" :: N) qual (defScope st) fa cdv A outer s H E
  VJ 0 X (fun _=>E) [] st1 s1/\VJ 0 X (fun _=>E) [] st2 s2/\VE X (fun _=>E) [] e fe/\PE X (.Name self p0) (zfG 0)/\swapsWith e (some (.Attribute (.Name self p0) fl p1)) p2.line X.env=pure false):zom P w mg base x (k+1) ps [.non] C fl (runN C fl n N s1 s2 fe):=by
 obtain⟨fa,dV,kV,doc,pm,cdv,ct,oc,an,od,osl,lk,hcd,Mo,b0,b1⟩:=A0
 refine⟨hm,zlb,fa,_,Mo,zmJ lk hcd S hbd hcl hna (hb fa cdv) (fun ds r q=>?_),b0,[.none],b1,.cons rfl .nil⟩
 obtain⟨h1,h2⟩:=ziW q
 exact⟨by rw[List.length_cons,hn,h1],by rw[h1];exact hN,h2⟩
end
section
variable{X:Cx}{EE:XKS}{ios:List Addr}{k:Nat}{ps:List Str}{C:Cn}{m:Str}{pos apos:Pos}{e o:Expr}{es:List Expr}{fs:M (List RV)}{fo:M RV}{Gp:List D->Option Rt}
theorem zfP{pl:Sem Bool}(hcl:Cls KC.K (KC.cls C))(Mc:zoe X.prog X.w X.mg X.base C m k ps (spP Gp))(hr:Room k X.A)(ha:VE X EE ios o fo)(hK:X.K=KC.K:=by rfl)
 (ht:eval (.Call (.Attribute o m apos) [] [] pos) X.env=(do
  let ov <- eval o X.env
  standAt apos.atName
  let (f,first) <- holding [ov] (getMethod ov m pl)
  callWith pos f first (backTo pos (starEach [] X.env)) (backToKw pos (keywordEach [] X.env))):=by rfl):VE X EE ios (.Call (.Attribute o m apos) [] [] pos) (zil C m Gp fo):=by
 obtain⟨f,fd,hm,F,hb⟩:=Mc
 rw[<- hK] at hcl hm F hb
 exact zkV hcl hm F hr hb ha ht
theorem zoc{y:Str}(hcl:Cls KC.K (KC.cls C))(hna:NoAttr KC.K (KC.cls C) y)(ha:VE X EE ios e fo)(hb:attributeBase e y X.env (eval e X.env)=eval e X.env:=by rfl)(hK:X.K=KC.K:=by rfl):VE X EE ios (.Attribute e y pos) (zla C y fo):=by
 rw[<- hK] at hcl hna
 exact zm1 hcl hna ha hb
end
end Dv
namespace Dv
open PySem L2 Ex
section
variable{Γ:En}{f fo:M RV}{fs:M (List RV)}{G:List D->Option Rt}{GX:List D->Option Rx}{C:Cn}{m y:Str}
@[simp] theorem r_metI:zil C m G f Γ=M.bind f (fun rv=>M.bind (mat rv) fun d=>match d with
 | .obj C' ns vs=>if cd (C'=C/\m ∉ ns) then M.ofO ((G [.obj C' ns vs]).map Rt.rv) else M.st
 | _=>M.st) Γ:=(rfl)
@[simp] theorem r_fldI:zla C y f Γ=M.bind f (fun rv=>M.bind (mat rv) fun d=>match d with
 | .obj C' ns vs=>if cd (C'=C) then M.ofO (((ns.zip vs).lookup y).map .val) else M.st
 | _=>M.st) Γ:=(rfl)
@[simp] theorem r_callY:zfS GX fs Γ=M.bind fs (fun rvs=>M.bind (zaz rvs) fun ds=>match GX ds with
 |some (.ok r)=>M.pure r.rv
 |some (.ex x)=>M.bind (zaE rvs) fun ds'=>match GX ds' with
  |some (.ex x)=>M.thr x
  | _=>M.st
 |none=>M.st) Γ:=(rfl)
@[simp] theorem r_isiLT:zfx f Γ=M.bind (zex f) (fun x=>M.bind (peek x) fun d=>M.ofO (zmo d)) Γ:=(rfl)
@[simp] theorem o_isiLT{xs:List D}:zmo (.lst xs)=some (.val (.bl true)):=(rfl)
@[simp] theorem r_ssc{out:List D->Option RV}{items:M (List D)}{fr:List Nat}{own:Nat}{t:D->M Unit}{p:M Bool}:zna out items fr own t p f Γ=M.bind items (fun ds=>if ds.length<64 then M.bind (lcM fr own t p f ds) fun ys=>M.ofO (out ys) else M.st) Γ:=(rfl)
@[simp] theorem o_outP{ys:List D}:zj2 ys=(asP ys).map fun cs=>.new (.lst ((za5 cs).map pD)):=(rfl)
@[simp] theorem cd_pp:cd (¬ ("points" : Str) = "held")=true:=zgv (by decide +kernel)
@[simp] theorem cd_tr:cd True=true:=zgv trivial
end
def zqC(sc:Scope)(y:Str):Bool:=match sc.names.lookup y with
 |some .local=>true
 |some .cell=>true
 | _=>false
theorem zat{sc:Scope}{y:Str}(h:zqC sc y=true):Loc sc y:=by
 unfold zqC at h
 split at h
 · rename_i e;exact .inl e
 · rename_i e;exact .inr e
 · cases h
end Dv
namespace L2
open PySem PySem.Spec PyProof.Rows Ex
mutual
inductive DatW(H:Hp):V->PyData->Prop
 |non:DatW H .non .none
 |bl (b:Bool):DatW H (.bl b) (.bool b)
 |int (i:Int):DatW H (.int i) (.int i)
 |str (x:Str):DatW H (.str x) (.str x)
 |lst {a:Addr} {xs:List V} {ds:List PyData}:H a=some (.lst xs)->DatsW H xs ds->DatW H (.ref a) (.list ds)
 |tup {a:Addr} {xs:List V} {ds:List PyData}:H a=some (.tup xs)->DatsW H xs ds->DatW H (.ref a) (.tuple ds)
 |dic {a:Addr}:H a=some (.dK [])->DatW H (.ref a) (.dict [])
inductive DatsW(H:Hp):List V->List PyData->Prop
 |nil:DatsW H [] []
 |cons {x:V} {d:PyData} {xs:List V} {ds:List PyData}:DatW H x d->DatsW H xs ds->DatsW H (x::xs) (d::ds)
end
def zo4(K:W.Frag):Prop:=∃ o,K.lookup sysModules=some o/\o.cls = .type "dict"
mutual
theorem DatW.reads{P:Program}{w:World}{H:Hp}{h:Heap}(ok:HOk P w H h)(hs:∀ o,h.get? sysModules=some o->o.cls = .type "dict"):∀ {x:V} {d:PyData} {u:Value},DatW H x d->RelV x u->∃ as,Reads h u d as/\sysModules ∉ as
 | _,_,_,.non,r=>by cases r;exact⟨_,.none,by simp⟩
 | _,_,_,.bl b,r=>by cases r;exact⟨_,.bool b,by simp⟩
 | _,_,_,.int i,r=>by obtain⟨t,rfl⟩:=r;exact⟨_,.int i t,by simp⟩
 | _,_,_,.str x,r=>by obtain⟨t,rfl⟩:=r;exact⟨_,.str x t,by simp⟩
 | _,_,_,.lst e D,r=>by
   cases r
   obtain⟨_,its,n,rv,q⟩:=ok _ _ e
   obtain⟨as,R,ns⟩:=DatsW.reads ok hs D rv
   refine⟨_,.list q rfl rfl R,fun z=>?_⟩
   rcases List.mem_cons.mp z with z | z
   · exact absurd (show Value.type "list" = Value.type "dict" from hs _ (z ▸ q)) (by decide)
   · exact ns z
 | _,_,_,.tup e D,r=>by
   cases r
   obtain⟨_,its,rv,o,q,c,n,d⟩:=ok _ _ e
   obtain⟨as,R,ns⟩:=DatsW.reads ok hs D rv
   exact⟨_,.tuple q c d R,ns⟩
 | _,_,_,.dic e,r=>by
   cases r
   obtain⟨R,nb⟩:=zlZ ok e
   exact⟨_,R,fun z=>nb (List.mem_singleton.mp z).symm⟩
theorem DatsW.reads{P:Program}{w:World}{H:Hp}{h:Heap}(ok:HOk P w H h)(hs:∀ o,h.get? sysModules=some o->o.cls = .type "dict"):∀ {xs:List V} {ds:List PyData} {us:List Value},DatsW H xs ds->Vals xs us->∃ as,ReadsAll h us ds as/\sysModules ∉ as
 | _,_,_,.nil,r=>by cases r;exact⟨_,.nil,by simp⟩
 | _,_,_,.cons a b,r=>by
   cases r with
   |cons r1 r2 =>
     obtain⟨_,R1,n1⟩:=DatW.reads ok hs a r1
     obtain⟨_,R2,n2⟩:=DatsW.reads ok hs b r2
     exact⟨_,.cons R1 R2,fun z=>(List.mem_append.1 z).elim n1 n2⟩
end
section
variable{X:Cx}
theorem zhE{k:Nat}(hr:Room k X.A)(sm:zo4 X.K):CallR X (.builtin "repr") (fun xs H Q=>∃ (a:Addr) (d:PyData),xs=[.ref a]/\DatW H (.ref a) d/\d.showable=true/\d.depth<=50/\d.shown.length<=sizeLine/\Q (.str d.shown) H):=by
 intro pins s σ H xs us Q I r h
 obtain⟨a,d,rfl,D,sh,dp,sz,q⟩:=h
 obtain⟨u,rfl,ru⟩:=r.one
 cases ru
 obtain⟨o,so,sc⟩:=sm
 obtain⟨as,R,ns⟩:=D.reads I.hok (fun o' e=>by rw[I.kIn _ _ so] at e;cases e;exact sc) (u:=.ref a) rfl
 have un:=hr.units
 exact repr_of_reads' R sh (fun _=>ns) hr.gd (by omega) (fun _ _ z=>z) (fun h' u tk kp=>⟨.str d.shown,H,I.kept kp,⟨u,rfl⟩,q⟩) sz
theorem zhs:CallR X (.builtin "repr") (fun xs H Q=>xs=[.non]/\Q (.str "None") H):=by
 intro pins s σ H xs us Q I r h
 obtain⟨rfl,q⟩:=h
 obtain⟨u,rfl,ru⟩:=r.one
 cases ru
 exact PySem.P.repr_of_none ⟨.str _,H,I.kept (fun _ _ e=>e),⟨_,rfl⟩,q⟩
end
end L2
namespace Dv
open PySem L2 Ex
variable[KC]
mutual
def plW:D->Bool
 | .non=>true
 | .bl _=>true
 | .int _=>true
 | .str _=>true
 | .lst xs=>zh4 xs
 | .tup xs=>zh4 xs
 | .dic [] []=>true
 | _=>false
def zh4:List D->Bool
 | []=>true
 |x::r=>plW x && zh4 r
end
mutual
theorem Rp.datW{H:Hp}:∀ {x:V} {d:D},Rp H x d->plW d=true->DatW H x d.py
 | _,_,.non,_=>.non
 | _,_,.bl b,_=>.bl b
 | _,_,.int i,_=>.int i
 | _,_,.str x,_=>.str x
 | _,_,.lst e h,p=>.lst e (Rps.datW h (by simpa [plW] using p))
 | _,_,.tup e h,p=>.tup e (Rps.datW h (by simpa [plW] using p))
 | _,_,.dnil e,p=>.dic e
 | _,_,.scr e,p=>by simp[plW] at p
 | _,_,.exc0 e,p=>by simp[plW] at p
 | _,_,.exc e e' h,p=>by simp[plW] at p
 | _,_,.obj e h,p=>by simp[plW] at p
theorem Rps.datW{H:Hp}:∀ {xs:List V} {ds:List D},Rps H xs ds->zh4 ds=true->DatsW H xs (D.pys ds)
 | _,_,.nil,_=>.nil
 | _,_,.cons a b,p=>by
   have p:=Bool.and_eq_true_iff.mp (show(plW _ && zh4 _)=true from by simpa only [zh4] using p)
   exact .cons (Rp.datW a p.1) (Rps.datW b p.2)
end
def zrL:D->Bool
 | .lst _=>true
 | .tup _=>true
 | .dic _ _=>true
 | _=>false
def zlc(d:D):Bool:=plW d && d.py.showable && decide (d.py.depth<=50) && decide (d.py.shown.length<=sizeLine)
def zcp:List D->Option RV
 | [.str x]=>if cd ((reprText x).length<=sizeLine) then some (.val (.str (reprText x))) else none
 | [.int i]=>if cd (i.natAbs.log2<1920) then some (.val (.str (toString i))) else none
 | [.bl b]=>some (.val (.str (if b then "True" else "False")))
 | [.non]=>some (.val (.str "None"))
 | [d]=>if zrL d && zlc d then some (.val (.str d.py.shown)) else none
 | _=>none
def zk7(xs:List V)(H:Hp)(Q:VK):Prop:=(∃ (a:Addr) (d:PyData),xs=[.ref a]/\DatW H (.ref a) d/\d.showable=true/\d.depth<=50/\d.shown.length<=sizeLine/\Q (.str d.shown) H) \/
 (∃ i:Int,xs=[.int i]/\i.natAbs.log2<1920/\Q (.str (toString i)) H) \/
 (∃ x:Str,xs=[.str x]/\(reprText x).length<=sizeLine/\Q (.str (reprText x)) H) \/
 (∃ b:Bool,xs=[.bl b]/\Q (.str (if b then "True" else "False")) H)\/(xs=[.non]/\Q (.str "None") H)
omit [KC] in
theorem zds{X:Cx}{k:Nat}(hr:Room k X.A)(sm:zo4 X.K):CallR X (.builtin "repr") zk7:=(zhE hr sm).or (call_repr_i.or (call_repr_s.or (call_repr_b.or zhs)))
theorem zcY:ze0 zk7 zcp:=by
 intro R H xs ds rv Q s px hg q
 unfold zcp at hg
 split at hg
 · rename_i x
   split at hg
   · rename_i c
     cases hg
     obtain⟨x,rfl,p⟩:=px.one
     have e:=p.str
     subst e
     exact .inr (.inr (.inl ⟨_,rfl,zdQ c,q _ H R (Al.refl s) (.str _)⟩))
   · cases hg
 · rename_i i
   split at hg
   · rename_i c
     cases hg
     obtain⟨x,rfl,p⟩:=px.one
     have e:=p.int
     subst e
     exact .inr (.inl ⟨_,rfl,zdQ c,q _ H R (Al.refl s) (.str _)⟩)
   · cases hg
 · rename_i b
   cases hg
   obtain⟨x,rfl,p⟩:=px.one
   have e:=p.bl
   subst e
   exact .inr (.inr (.inr (.inl ⟨_,rfl,q _ H R (Al.refl s) (.str _)⟩)))
 · cases hg
   obtain⟨x,rfl,p⟩:=px.one
   have hv:=p.hv s
   cases hv
   exact .inr (.inr (.inr (.inr ⟨rfl,q _ H R (Al.refl s) (.str _)⟩)))
 · rename_i d _ _ _ _
   obtain⟨x,rfl,p⟩:=px.one
   split at hg
   · rename_i c
     cases hg
     rw[Bool.and_eq_true] at c
     obtain⟨c1,c0⟩:=c
     unfold zlc at c0
     simp only[Bool.and_eq_true,decide_eq_true_eq] at c0
     obtain⟨⟨⟨c2,c3⟩,c5⟩,c6⟩:=c0
     have hv:=p.hv s
     have D:=hv.datW c2
     have:∃ a,x = .ref a:=by cases hv<;>first | exact⟨_,rfl⟩ | cases c1
     obtain⟨a,rfl⟩:=this
     exact .inl ⟨a,d.py,rfl,D,c3,c5,c6,q _ H R (Al.refl s) (.str _)⟩
   · cases hg
 · cases hg
end Dv
namespace St
open PySem PyProof.Rows PySem.Spec
section
variable{prog:Program}{w:World}{A:Around}{E:Value->Shared->Prop}{s:Shared}
def znN(cs:List Z)(i:Nat)(zs:List Z):Prop:=(∀ c,c∈zs.map (·.1) ↔ c∈(cs.take i).map (·.1))/\(∀ z∈zs,z∈cs)/\zs.length<=i/\(zs.map (·.1)).Nodup
theorem ziw{R:Result->Shared->Prop}{I S:Addr}{fp wr:List Addr}{n:Nat}{P:Nat->Value->Prop}{Wt:Nat->Heap->Prop}(W:Walks prog w A.in1 I fp wr n P Wt)(hSf:S ∉ fp)(hu:A.units+1<cLine){B:Bool}(cs:List Z)(hl:cs.length=n)
 (hv:∀ i v,P i v->∃ z,cs[i]? = some z/\v = .ref z.2) (hn:n<300) (sm:∀ z∈cs,SmP z.1) (hSc:∀ z∈cs,z.2 ∉ S::wr):∀ (k i:Nat) (s:Shared) (zs:List Z),n - i=k->i<=n->Wt i s.heap->(∀ z∈cs,IsP s.heap z.1 z.2)->SetZ B s.heap S zs->znN cs i zs ->
  (∀ h' tk zs',(∀ b o,b ∉ S::wr->s.heap.get? b=some o->h'.get? b=some o)->SetZ B h' S zs'->znN cs n zs'->R (.ok (.ret .none)) { s with heap:=h',toks:=tk }) ->
  codeAny (model prog w) A (.builtin "set.update.loop" ⟨[.ref S,.ref I],[]⟩) R s:=by
 have hSw:S ∉ wr:=fun z=>hSf (W.sub _ z)
 intro k
 induction k with
 |zero =>
   intro i s zs hk hi st hP hS hT hR
   obtain rfl:i=n:=by omega
   refine codeAny_builtin PyProof.Rows.F.entry_set_update_loop ?_
   rw[Around.under_plainId PyProof.Rows.F.plain_set_update_loop _]
   show wpAny _ _ (pyNext (.ref I) >>= _) _ _ _
   refine wpAny_bind (W.done s _ _ st fun h' tk hk=>?_)
   show  wpAny _ _ (ret Value.none) _ _ _
   exact wpAny_pure (hR h' tk zs (fun b o hb e=>hk b o (fun z=>hb (.tail _ z)) e) (hS.at fun o e=>hk _ _ hSw e) hT)
 |succ k ih =>
   intro i s zs hk hi st hP hS hT hR
   have lt:i<n:=by omega
   refine codeAny_builtin PyProof.Rows.F.entry_set_update_loop ?_
   rw[Around.under_plainId PyProof.Rows.F.plain_set_update_loop _]
   show wpAny _ _ (pyNext (.ref I) >>= _) _ _ _
   refine wpAny_bind (W.item i s _ _ lt st fun v h1 tk1 hv1 st1 hk1=>?_)
   obtain⟨z,hz,rfl⟩:=hv i v hv1
   have hzm:z∈cs:=List.mem_of_getElem? hz
   have hS1:SetZ B h1 S zs:=hS.at fun o e=>hk1 _ _ hSw e
   have hP1:∀ z∈cs,IsP h1 z.1 z.2:=fun y hy=>(hP y hy).at fun o e=>hk1 _ _ (fun q=>hSc y hy (.tail _ q)) e
   have e1:cs.take (i+1)=cs.take i++[z]:=by
    obtain⟨h1,h2⟩:=List.getElem?_eq_some_iff.mp hz
    rw[List.take_succ_eq_append_getElem h1,h2]
   show wpAny _ _ (holding [Value.ref z.2] (setAdd S (.ref z.2)) >>= _) _ _ _
   refine  wpAny_bind (wpAny_holding ?_)
   refine zhO (s:={ s with heap:=h1,toks:=tk1 }) hu hS1 (fun y hy=>hP1 y (hT.2.1 y hy)) (hP1 z hzm) (sm z hzm) (by have:=hT.2.2.1;omega) (fun hin tk=>?_) fun hnin h2 tk zs' sb S2 pm=>?_
   · refine wpAny_pure ⟨plainId_quiet PyProof.Rows.F.plain_set_update_loop _,ih (i+1) _ zs (by omega) lt st1 hP1 hS1 ⟨fun c=>?_,hT.2.1,by have:=hT.2.2.1;omega,hT.2.2.2⟩ fun h3 tk3 zs3 hk3 S3 T3=>?_⟩
     · rw[e1,List.map_append,List.mem_append,hT.1 c]
       constructor
       · exact .inl
       · rintro(q | q)
         · exact q
         · simp at q;rw[q];exact(hT.1 _).mp hin
     · exact hR h3 tk3 zs3 (fun b o hb e=>hk3 b o hb (hk1 b o (fun z=>hb (.tail _ z)) e)) S3 T3
   · have pm1:=pm.map (·.1)
     refine wpAny_pure ⟨plainId_quiet PyProof.Rows.F.plain_set_update_loop _,ih (i+1) _ zs' (by omega) lt (W.frame _ _ _ st1 fun b hb o e=>?_) (fun y hy=>(hP1 y hy).at fun o e=>?_) S2 ⟨fun c=>?_,fun y hy=>?_,?_,?_⟩ fun h3 tk3 zs3 hk3 S3 T3=>?_⟩
     · rw[sb.2 b fun z=>hSf (by rw[<- z];exact hb)];exact e
     · rw[sb.2 y.2 fun q=>hSc y hy (by rw[q];exact List.mem_cons_self)];exact e
     · rw[pm1.mem_iff,e1,List.map_append,List.mem_append,List.map_cons,List.mem_cons,hT.1 c]
       simp[or_comm]
     · rcases List.mem_cons.mp (pm.mem_iff.mp hy) with e | e
       · rw[e];exact hzm
       · exact hT.2.1 y e
     · rw[pm.length_eq,List.length_cons];have:=hT.2.2.1;omega
     · exact pm1.nodup_iff.mpr (List.nodup_cons.mpr ⟨hnin,hT.2.2.2⟩)
     · refine hR h3 tk3 zs3 (fun b o hb e=>hk3 b o hb ?_) S3 T3
       rw[sb.2 b fun z=>hb (by rw[z];exact List.mem_cons_self)]
       exact hk1 b o (fun z=>hb (.tail _ z)) e
theorem set_pairs{l:Addr}{items:Array Value}{cs:List Z}{Q:Value->Shared->Prop}(hh:A.handled=none)(hu:A.units+10<cLine)(hl:s.heap.IsList l items)(hi:items.toList=cs.map fun z=>Value.ref z.2)(hP:∀ z∈cs,IsP s.heap z.1 z.2)(sm:∀ z∈cs,SmP z.1)(hn:cs.length<300)
 (h:∀ (h':Heap) (tk:Nat) (zs:List Z),SetZ (w.params.followText "set-order") h' s.heap.objs.size zs->znN cs cs.length zs->(∀ b o,s.heap.get? b=some o->h'.get? b=some o)->Q (.ref s.heap.objs.size) { s with heap:=h',toks:=tk }) :
 wpAny (model prog w) A (call (.type "set") [.ref l]) Q E s:=by
 have len:cs.length=items.size:=by have:=congrArg List.length hi;simpa using this.symm
 refine zlY rfl ?_
 generalize w.params.followText "set-order" = B at h ⊢
 obtain⟨⟨cl,di,da,sl⟩,g,rfl,n,rfl⟩:=hl
 have new:(s.heap.push (setO #[] 0 (.fresh 0 0 (!B)))).get? s.heap.objs.size=some (setO #[] 0 (.fresh 0 0 (!B))):=Heap.get?_push_size _ rfl
 generalize hH:s.heap.push (setO #[] 0 (.fresh 0 0 (!B)))=H at new ⊢
 have up:∀ b o,s.heap.get? b=some o->H.get? b=some o:=fun b o e=>by rw[<- hH];exact Heap.get?_push_of_some _ e
 have sz:H.objs.size=s.heap.objs.size+1:=by rw[<- hH];exact Heap.size_push ..
 have gl:=up _ _ g
 have lt:l<s.heap.objs.size:=Heap.lt_size g
 have il:H.IsList l items:=⟨_,gl,rfl,n,rfl⟩
 have no:=F.sub_list_set
 have no2:=F.sub_list_frozenset
 have no3:(Value.type "list" == Value.type "dict")=false:=by decide
 have new':=new
 unfold setO at new
 unfold Builtin.«set.__init__» noKeywords
 unfold Builtin.Frozenset.updateFrom
 generalize hPI:pyIter=PI
 wp_walk
 rw[<- hPI]
 refine PySem.wpAny_pyIter_list (s:={ s with heap:=H }) il ?_
 refine wpAny_bind ?_
 have plt:∀ z∈cs,z.2<s.heap.objs.size:=fun z hz=>by obtain⟨o,_,_,_,_,e,_⟩:=hP z hz;exact Heap.lt_size e
 refine wpAny_runValue (ziw (Walks.list (by simp[hh]) H.objs.size l (Nat.ne_of_lt (by rw[sz];exact Nat.lt_succ_of_lt lt)) items) (S:=s.heap.objs.size) (B:=B) (fun z=>?_) (by simp[Around.in1];omega) cs len (fun i v hv=>?_) (by omega) sm (fun z hz q=>?_) (items.size - 0) 0 _ [] rfl (Nat.zero_le _)
  ⟨⟨_,Heap.get?_push_size _ rfl,rfl,rfl⟩,il.push _⟩ (fun z hz=>(hP z hz).at fun o e=>Heap.get?_push_of_some _ (up _ _ e)) (SetZ.fresh B (Heap.get?_push_of_some _ new')) ⟨fun c=>by simp,(fun z hz=>nomatch hz),Nat.le_refl _,List.nodup_nil⟩ fun h' tk zs hk S' T'=>?_)
 · rcases List.mem_cons.mp z with z | z
   · rw[sz] at z
     exact absurd z (Nat.ne_of_lt (Nat.lt_succ_self _))
   · exact absurd (List.mem_singleton.mp z) (Nat.ne_of_gt lt)
 · have hv:items.toList[i]? = some v:=by rw[Array.getElem?_toList];exact hv
   rw[hi,List.getElem?_map] at hv
   cases q:cs[i]? with
   |none=>rw[q] at hv;cases hv
   |some z=>rw[q] at hv;cases hv;exact⟨z,rfl,rfl⟩
 · have:=plt z hz
   rcases List.mem_cons.mp q with q | q
   · exact absurd q (Nat.ne_of_lt this)
   · rw[List.mem_singleton,sz] at q
     exact absurd q (Nat.ne_of_lt (Nat.lt_succ_of_lt this))
 · show wpAny _ _ _ _ _ _
   refine wpAny_pure (show wpAny _ _ (ret Value.none) _ _ _ from wpAny_pure ⟨rfl,h h' tk zs S' (by rw[len];exact T') fun b o e=>hk b o (fun z=>?_) (Heap.get?_push_of_some _ (up b o e))⟩)
   have bl:=Heap.lt_size e
   rcases List.mem_cons.mp z with z | z
   · exact absurd z (Nat.ne_of_lt bl)
   · rw[List.mem_singleton,sz] at z
     exact absurd z (Nat.ne_of_lt (Nat.lt_succ_of_lt bl))
end
end St
namespace L2
open PySem PySem.Spec PyProof.Rows Ex St So
section
variable{X:Cx}
theorem zkk{k:Nat}(hr:Room k X.A)(calm:X.calm=true):CallR X (.type "set") (fun xs H Q=>∃ (p:Addr) (cs:List Z),xs=[.ref p]/\SqL X.K H p (cs.map fun z=>V.ref z.2)/\(∀ z∈cs,H z.2=some (.tup [.int z.1.1,.int z.1.2]))/\(∀ z∈cs,SmP z.1)/\cs.length<300 /\
 ∀ l zs,H l=none->znN cs cs.length zs->Q (.ref l) (upd H l (zmK X l zs))):=by
 intro pins s σ H xs us Q I r h
 obtain⟨p,cs,rfl,hS,ht,sm,hn,q⟩:=h
 obtain⟨u,rfl,ru⟩:=r.one
 cases ru
 obtain⟨its,rv,pl,hz⟩:=I.list hS
 have e:its=cs.map fun z=>Value.ref z.2:=by
  clear hS hz pl q hn
  induction cs generalizing its with
  |nil=>cases rv;rfl
  |cons z r ih =>
    cases rv with
    |cons a b =>
      cases a
      rw[List.map_cons,ih (fun y hy=>ht y (.tail _ hy)) (fun y hy=>sm y (.tail _ hy)) _ b]
 have hu:=hr.un
 refine St.set_pairs (I.ok.hd calm) (by omega) pl.isList (by simpa using e) (fun z hz=>zgH I.hok (ht z hz)) sm hn fun h' tk zs S T k=>?_
 exact⟨.ref s.heap.objs.size,_,I.laid (t':=tk) (o:=zmK X s.heap.objs.size zs) k (Nat.le_refl _) (zof S),rfl,q _ zs (I.hok.fresh (Nat.le_refl _)) T⟩
end
end L2
namespace Dv
open PySem L2 Ex St So
variable[KC]
def ziY:List D->Option RV
 | [.lst ds]=>(asP ds).bind fun cs=>if cs.length<64 then some (.new (.lst ((za5 cs).map pD))) else none
 | _=>none
theorem zja{R:Hp}:∀ {ys:List V} {ds:List D} {cs:List (Int×Int)},Rps R ys ds->asP ds=some cs->∃ zs:List Z,ys=(zs.map fun z=>V.ref z.2)/\zs.map (·.1)=cs/\(∀ z∈zs,R z.2=some (.tup [.int z.1.1,.int z.1.2]))/\∀ z∈zs,SmP z.1
 | _,_,cs,.nil,h=>by cases h;exact⟨[],rfl,rfl,(fun z hz=>nomatch hz),fun z hz=>nomatch hz⟩
 | _,_,cs,.cons a b,h=>by
   obtain⟨c,cs',rfl,sm,h',rfl⟩:=zc3 h
   obtain⟨zs,e1,e2,e3,e4⟩:=zja b h'
   obtain⟨p,rfl,hp⟩:=zjE a
   refine⟨(c,p)::zs,by rw[List.map_cons,e1],by rw[List.map_cons,e2],fun z hz=>?_,fun z hz=>?_⟩
   · rcases List.mem_cons.mp hz with rfl | hz
     · exact hp
     · exact e3 z hz
   · rcases List.mem_cons.mp hz with rfl | hz
     · exact sm
     · exact e4 z hz
section
variable{X:Cx}{EE:XKS}{ios:List Addr}{e:Expr}{fs:M (List RV)}{pos p0 p1 p2:Pos}
theorem zmO{k:Nat}(hr0:Room k X.A)(hl:X.mg "sorted" = none)(hg:Gl X "sorted")(hr:X.mg "set" = none)(hg':Gl X "set")(hc:X.calm=true)(ha:VA X EE ios [e] fs)(hs:starEach [.Call (.Name "set" p1) [e] [] p2] X.env=[(false,eval (.Call (.Name "set" p1) [e] [] p2) X.env)]:=by rfl)
 (he:starEach [e] X.env=[(false,eval e X.env)]:=by rfl):VE X EE ios (.Call (.Name "sorted" p0) [.Call (.Name "set" p1) [e] [] p2] [] pos) (za4 ziY fs):=by
 obtain⟨t,h1,h2⟩:=ha
 refine⟨_,zao (zcl hc) hg hl (by decide +kernel) (zag (zeh (zkk hr0 hc) hg' hr (by decide +kernel) h1 (he:=he) (hpl:=rfl)) zaK (hs:=hs)) (he:=hs) (hpl:=rfl),fun σ H R Γ Q er w=>?_⟩
 unfold za4 at w
 rw[zab] at w
 refine h2 σ H R Γ _ er (zac w (fun rvs Γ1 w xs H1 R1 p1 hx=>?_) fun _ _ z=>z)
 rw[zab] at w
 obtain⟨ds,pd,w⟩:=zbR p1.er hx w
 obtain⟨rv,hg,w⟩:=zbe w
 unfold ziY at hg
 split at hg
 · rename_i l
   cases h:asP l with
   |none=>rw[h] at hg;cases hg
   |some cs =>
     rw[h] at hg
     have hg:(if cs.length<64 then some (RV.new (.lst ((za5 cs).map pD))) else none)=some rv:=hg
     split at hg
     · rename_i c
       cases hg
       obtain⟨x,rfl,p⟩:=pd.one
       obtain⟨a,ys,rfl,g1,g2⟩:=p.lst p1.er.sub
       obtain⟨zs,rfl,e2,e3,e4⟩:=zja g2 h
       have zl:zs.length=cs.length:=by rw[<- e2,List.length_map]
       refine⟨a,zs,rfl,SqL.of g1,fun z hz=>p1.er.sub _ _ (e3 z hz),e4,by omega,fun l ws hl T=>?_⟩
       have al0:Al R1 H1 R1 (upd H1 l (zmK X l ws)):=zpe p1.er.sub hl
       refine⟨l,ws,rfl,zal,fun z hz=>al0.sub _ _ (e3 z (T.2.1 z hz)),by have:=T.2.2.1;omega,fun q ws' hq pm pw=>?_⟩
       have nd':(ws'.map (·.1)).Nodup:=(pm.map _).nodup_iff.mpr T.2.2.2
       have ez:ws'.map (·.1)=za5 cs:=zd9 (zif h) nd' (List.pairwise_map.mpr pw) fun c=>by rw[(pm.map _).mem_iff,T.1 c,List.take_length,e2]
       obtain⟨al,rv⟩:=zdw al0.sub hq (zec ws' fun z hz=>e3 z (T.2.1 z (pm.mem_iff.mp hz)))
       rw[ez] at rv
       exact w _ _ _ ((p1.al al0).al al) (rv.rv ((p1.al al0).back er))
     · cases hg
 · cases hg
end
end Dv
namespace Dv
open PySem L2 Ex
variable[KC]
section
variable{X:Cx}{EE:XKS}{ios:List Addr}{R H R0 H0 R1 H1:Hp}{σ σ0:St}{Γ Γ0 Γ1:En}
theorem SPo.poke{p:Addr}{o:HO}(s:SPo ios R0 H0 σ0 Γ0 R H σ Γ)(h0:H0 p=none)(hR:R p=none)(nO : ¬ Ow σ Γ p):SPo ios R0 H0 σ0 Γ0 R (upd H p o) σ Γ:=by
 have up:∀ b,b≠p->upd H p o b=H b:=fun b hb=>zaf hb
 refine⟨⟨fun b u q=>?_,s.er.len,fun j t hj=>?_,s.er.dj⟩,⟨s.go.rr,fun b u q n=>?_,s.go.no,s.go.oo,fun b u q=>?_⟩⟩
 · rw[up b (fun z=>by rw[z,hR] at q;cases q)];exact s.er.sub b u q
 · obtain⟨v,hv,q⟩:=s.er.sl j t hj
   refine⟨v,hv,q.mono (Same.refl _) fun ho b zs eb hb rb=>⟨?_,rb⟩⟩
   rw[up b]
   · exact hb
   · rintro rfl;subst eb;exact nO ⟨j,t.1,t.2,hj,ho,hv⟩
 · rw[up b (fun z=>by rw[z,h0] at q;cases q)];exact s.go.hh b u q n
 · by_cases hb:b=p
   · subst hb;exact⟨_,zal⟩
   · rw[up b hb];exact s.go.th b u q
theorem zjD{i:Nat}{x:V}{b:Addr}(h:Ow (σ.set i (some x)) (Γ.set i none) b):Ow σ Γ b:=by
 obtain⟨j,k,d,h1,h2,h3⟩:=h
 by_cases hj:j=i
 · subst hj
   have l1:j<Γ.length:=by have:=(List.getElem?_eq_some_iff.mp h1).1;rwa[List.length_set] at this
   rw[List.getElem?_set_self l1] at h1
   cases h1
 · rw[List.getElem?_set_ne (Ne.symm hj)] at h1 h3
   exact⟨j,k,d,h1,h2,h3⟩
theorem SPo.setN{i:Nat}{x:V}(p1:EPo ios R H σ Γ R1 H1 Γ1):SPo ios R H σ Γ R1 H1 (σ.set i (some x)) (Γ1.set i none):=by
 have at':∀ {j:Nat} {t:Kd×D},(Γ1.set i none)[j]? = some (some t)->j≠i/\Γ1[j]? = some (some t):=fun {j t} h=>by
  by_cases hj:j=i
  · subst hj
    have l1:j<Γ1.length:=by have:=(List.getElem?_eq_some_iff.mp h).1;rwa[List.length_set] at this
    rw[List.getElem?_set_self l1] at h
    cases h
  · rw[List.getElem?_set_ne (Ne.symm hj)] at h
    exact⟨hj,h⟩
 refine⟨⟨p1.er.sub,by rw[List.length_set,List.length_set];exact p1.er.len,fun j t hj=>?_,fun j j' l l' d d' b q1 q2 q3 q4 q5 q6=>?_⟩,⟨p1.go.rr,p1.go.hh,p1.go.no,fun b z=>.inl (p1.sh b (zjD z)),p1.go.th⟩⟩
 · obtain⟨n,h⟩:=at' hj
   rw[List.getElem?_set_ne (Ne.symm n)]
   exact p1.er.sl j t h
 · obtain⟨n1,h1⟩:=at' q1
   obtain⟨n2,h2⟩:=at' q3
   rw[List.getElem?_set_ne (Ne.symm n1)] at q5
   rw[List.getElem?_set_ne (Ne.symm n2)] at q6
   exact p1.er.dj j j' l l' d d' b h1 q2 h2 q4 q5 q6
end
section
variable{X:Cx}{EE:XKS}{ios:List Addr}{R H R0 H0 R1 H1:Hp}{σ σ0:St}{Γ Γ0 Γ1:En}
def zqy(H0 H':Hp)(x:V):Prop:=∀ a vs q ys,x = .ref a->H' a=some (.lst vs)->vs[1]? = some (.ref q)->H' q=some (.lst ys)->H0 q=none
def FlD(ios:List Addr)(R H:Hp)(σ:St)(Γ:En)(D:Ends):Fl->En->Prop:=fun fl Γ'=>∀ σ' H' R',SPo ios R H σ Γ R' H' σ' Γ'->match fl with
 | .ret rv=>∀ x,RvR R' H H' σ' x rv->zqy H H' x->D.rt x H'
 | _=>False
def RdD(EE:XKS)(ios:List Addr)(t:TS)(f:M Fl):Prop:=∀ σ0 H0 R0 Γ0 σ H R Γ D,SPo ios R0 H0 σ0 Γ0 R H σ Γ->(∀ b, ¬ Ow σ0 Γ0 b)->wpM (f Γ) (FlD ios R0 H0 σ0 Γ0 D) (EXS EE ios R0 H0 σ0 Γ0)->t D σ H
def VD(X:Cx)(EE:XKS)(ios:List Addr)(st:List Stmt)(f:M Fl):Prop:=∃ t,PSs X st t/\RdD EE ios t f
section
variable{a b c:Expr}{f g:M RV}{j:Nat}{sts sts':List Stmt}{st:Stmt}{s s':M Fl}{p:M Bool}{pos:Pos}
def sqD(s s':M Fl):M Fl:=M.bind s fun fl=>match fl with
 | .nx=>s'
 | _=>M.st
theorem zgq(h:VS X EE ios st s)(h':VD X EE ios sts s'):VD X EE ios (st::sts) (sqD s s'):=by
 obtain⟨t,h1,h2⟩:=h
 obtain⟨u,h3,h4⟩:=h'
 refine⟨_,zbx h1 h3,fun σ0 H0 R0 Γ0 σ H R Γ D sp no w=>?_⟩
 unfold sqD at w
 rw[zab] at w
 refine h2 σ H R Γ _ sp.er (zac w (fun fl Γ1 w σ1 H1 R1 p1=>?_) fun _ _ z=>EXS.trans sp z)
 cases fl with
 |nx=>exact h4 σ0 H0 R0 Γ0 σ1 H1 R1 Γ1 D (sp.trans p1) no w
 |brk=>exact False.elim w
 |cont=>exact False.elim w
 |ret rv=>exact False.elim w
def ifD(p:M Bool)(s s':M Fl):M Fl:=M.bind p fun b=>if b then s else s'
theorem zrE(hc:VT X EE ios c p)(h:VD X EE ios sts s)(h':VD X EE ios sts' s'):VD X EE ios (.If c sts [] pos::sts') (ifD p s s'):=by
 obtain⟨_,h0,h0'⟩:=hc
 obtain⟨t,h1,h2⟩:=h
 obtain⟨u,h3,h4⟩:=h'
 refine⟨_,zbx (zhr h0 h1 zdH) h3,fun σ0 H0 R0 Γ0 σ H R Γ D sp no w=>?_⟩
 unfold ifD at w
 rw[zab] at w
 refine h0' σ H R Γ _ sp.er (zac w (fun b Γ1 w H1 R1 p1=>?_) fun _ _ z=>(EXS.trans sp z).exp)
 cases b with
 |true =>
   refine zeg (h2 σ0 H0 R0 Γ0 σ H1 R1 Γ1 _ (sp.trans p1.spo) no (zac w (fun fl Γ2 w σ2 H2 R2 p2=>?_) fun _ _ z=>z))
   have:=w σ2 H2 R2 p2
   cases fl with
   |nx=>exact this
   |brk=>exact this
   |cont=>exact this
   |ret rv=>exact this
 |false=>exact zeu (h4 σ0 H0 R0 Γ0 σ H1 R1 Γ1 D (sp.trans p1.spo) no w)
def ownAt(j:Nat):M Unit:=fun Γ=>match Γ[j]? with
 |some (some (.own,_))=>.ok () Γ
 | _=>.st
def znA(j:Nat)(f:M RV):M Fl:=M.bind f fun r=>M.bind (mat r) fun d=>M.bind (ownAt j) fun _=>M.bind (mat (.var j)) fun e=>M.pure (.ret (.new (.lst [d,e])))
theorem zpK{x:Str}{p0 pl:Pos}(ha:VE X EE ios a f)(hv:PE X (.Name x p0) (zfG j))
 (hs1:starEach [a,.Name x p0] X.env=(false,eval a X.env)::starEach [.Name x p0] X.env:=by rfl) (hs2:starEach [.Name x p0] X.env=(false,eval (.Name x p0) X.env)::starEach [] X.env:=by rfl) :
 VD X EE ios [.Return (some (.List [a,.Name x p0] pl)) pos] (znA j f):=by
 obtain⟨ta,a1,a2⟩:=ha
 refine⟨_,zck (zgt (ziv (zag a1 (zag hv zaK hs2) hs1))),fun σ0 H0 R0 Γ0 σ H R Γ D sp no w=>?_⟩
 unfold znA at w
 rw[zab] at w
 show ta σ H _
 refine a2 σ H R Γ _ sp.er (zac w (fun ra Γ1 w x1 H1 R1 p1 hx1=>?_) fun _ _ z=>(EXS.trans sp z).exp)
 rw[zab] at w
 obtain⟨d,Γ2,R2,p2,_,r2,w⟩:=zbB sp.er p1 hx1 w
 rw[zab] at w
 unfold ownAt at w
 split at w
 · rename_i e0 hs
   have w:=zcZ w
   obtain⟨v,hv,sl⟩:=p2.er.sl j _ hs
   obtain⟨q,xs,ds,rfl,rq,hq,rfl,rs⟩:=sl
   have ow:Ow σ Γ2 q:=⟨j,.own,_,hs,rfl,hv⟩
   have fq:H0 q=none:=(sp.go.oo q (p2.sh q ow)).elim (fun z=>absurd z (no q)) id
   rw[zab] at w
   obtain⟨e,Γ3,R3,p3,s3,r3,w⟩:=zbB (rv:=.var j) (x:=.ref q) p2.er (EPo.refl p2.er) hv w
   refine⟨_,hv,by show 2<=sizeLine;decide +kernel,fun r hr=>?_⟩
   have p23:=p2.trans p3
   have al:Al R3 H1 R3 (upd H1 r (.lst [x1,.ref q])):=⟨p3.er.sub.trans (zaI hr),Same.refl _,zaI hr,fun _ _ _ z=>z⟩
   have sp':=sp.trans (p23.al al).spo
   have rr:R3 r=none:=p3.er.sub.free hr
   have hr0:H0 r=none:=sp.back r (p23.back sp.er r hr)
   refine w _ _ R3 sp' (.ref r) ⟨⟨r,_,_,rfl,rr,zal,rfl,.cons (r2.sm s3) (.cons r3 .nil)⟩,r,rfl,hr0⟩ ?_
   intro a vs q' ys ea h1 h2 h3
   cases ea
   rw[zal] at h1
   cases h1
   cases h2
   exact fq
 · exact False.elim w
def zn0(f g:M RV):M Fl:=M.bind f fun r=>M.bind (mat r) fun d=>M.bind g fun r'=>match r' with
 | .val (.str y)=>M.pure (.ret (.new (.lst [d,.str y])))
 | _=>M.st
theorem znP{pl:Pos}(ha:VE X EE ios a f)(hb:VE X EE ios b g)
 (hs1:starEach [a,b] X.env=(false,eval a X.env)::starEach [b] X.env:=by rfl) (hs2:starEach [b] X.env=(false,eval b X.env)::starEach [] X.env:=by rfl) :
 VD X EE ios [.Return (some (.List [a,b] pl)) pos] (zn0 f g):=by
 obtain⟨ta,a1,a2⟩:=ha
 obtain⟨tb,b1,b2⟩:=hb
 refine⟨_,zck (zgt (ziv (zag a1 (zag b1 zaK hs2) hs1))),fun σ0 H0 R0 Γ0 σ H R Γ D sp no w=>?_⟩
 unfold zn0 at w
 rw[zab] at w
 show ta σ H _
 refine a2 σ H R Γ _ sp.er (zac w (fun ra Γ1 w x1 H1 R1 p1 hx1=>?_) fun _ _ z=>(EXS.trans sp z).exp)
 rw[zab] at w
 obtain⟨d,Γ2,R2,p2,_,r2,w⟩:=zbB sp.er p1 hx1 w
 rw[zab] at w
 show tb σ H1 _
 refine b2 σ H1 R2 Γ2 _ p2.er (zac w (fun rb Γ3 w x2 H2 R3 p3 hx2=>?_) fun _ _ z=>EXP.trans p2 (EXS.trans sp z).exp)
 split at w
 · rename_i y0
   have hx2:Rp R3 x2 (.str y0):=hx2
   cases hx2
   refine⟨by show 2<=sizeLine;decide +kernel,fun r hr=>?_⟩
   have p23:=p2.trans p3
   have al:∀ o,Al R3 H2 R3 (upd H2 r o):=fun o=>⟨p3.er.sub.trans (zaI hr),Same.refl _,zaI hr,fun _ _ _ z=>z⟩
   have sp':=sp.trans (p23.al (al (.lst [x1,.str y0]))).spo
   have rr:R3 r=none:=p3.er.sub.free hr
   have hr0:H0 r=none:=sp.back r (p23.back sp.er r hr)
   refine w _ _ R3 sp' (.ref r) ⟨⟨r,_,_,rfl,rr,zal,rfl,.cons (r2.sm p3.go.rr) (.cons (.str _) .nil)⟩,r,rfl,hr0⟩ ?_
   intro a vs q' ys ea h1 h2 h3
   cases ea
   rw[zal] at h1
   cases h1
   cases h2
 · exact False.elim w
def spD(G:List D->Option Rt):Sp:=fun vs H Q _=>∃ R ds,Same R H/\Rps R vs ds/\match G ds with
 |some r=>∀ x H' R',Al R H R' H'->RvA R' H H' x r.rv->zqy H H' x->Q x H'
 |none=>False
def zlp:Res Fl->Option Rt
 | .ok (.ret (.new d)) _=>some (.new d)
 | _=>none
def zgO(n:Nat)(N:List Str)(bm:M Fl):List D->Option Rt:=fun ds=>if ds.length=n then zlp (bm (gam N ds)) else none
theorem zoj{P:Program}{w:World}{K:W.Frag}{mg:Str->Option Value}{base:Heap}{x qual:Str}{fa:Addr}{fd:FuncData}{N ps:List Str}{k:Nat}{bm:M Fl}(F:Fun K x qual st fa fd)(S:FnScope N ps (defScope st))
 (hb:∀ (cdv:Value) (A:Around) (outer:List Env) (s:Shared) (H:Hp) (E:XK),Room k (A.deeper (PyProof.Rows.envOfC qual (defScope st) s.heap.objs.size fa cdv))->VD (zcG CX0 P w K mg base N qual (defScope st) fa cdv A outer s H E).nox EN [] (defBody st) bm):FnOk P w K mg base CX0 (k+1) fa fd ps (spD (zgO ps.length N bm)):=by
 have un:∀ ds r,zgO ps.length N bm ds=some r->ds.length=ps.length/\zlp (bm (gam N ds))=some r:=fun ds r e=>by
  unfold zgO at e
  split at e
  · rename_i c;exact⟨c,e⟩
  · cases e
 refine F.ok S (fun vs H Q E q=>?_) (fun cdv A outer s H vs Q E hr q=>?_)
 · obtain⟨R,ds,_,h2,h3⟩:=q
   cases e:zgO ps.length N bm ds with
   |none=>rw[e] at h3;exact h3.elim
   |some r=>rw[h2.len];exact(un ds r e).1
 · obtain⟨R,ds,h1,h2,h3⟩:=q
   cases e:zgO ps.length N bm ds with
   |none=>rw[e] at h3;exact h3.elim
   |some r =>
     rw[e] at h3
     obtain⟨t,b1,b2⟩:=hb cdv A outer s H E hr
     refine⟨t,b1,b2 _ H R _ _ H R _ _ (SPo.refl (zdS h1 h2)) (fun b=>zhG) ?_⟩
     have fin:=(un ds r e).2
     cases q:bm (gam N ds) with
     |st=>rw[q] at fin;cases fin
     |ex _ _=>rw[q] at fin;cases fin
     |ok fl Γ' =>
       rw[q] at fin
       unfold zlp at fin
       split at fin
       · rename_i d _ z
         cases z
         cases fin
         exact zcO fun σ' H' R' p y hy dp=>h3 y H' R' p.al hy dp
       · cases fin
theorem zlx{P:Program}{w:World}{mg:Str->Option Value}{base:Heap}{N ps:List Str}{x:Str}{k:Nat}{bm:M Fl}(A0:At mg x st)(S:FnScope N ps (defScope st))
 (bd:∀ (kV doc pm:Value) (an:Option Addr) (cdv ct:Value) (us:List Value),us.length=ps.length->bindArgs (W.fnOf x x (defArgs st) (defBody st) (defScope st) .none kV doc pm an cdv ct) ⟨us,[]⟩=pure (ps.zip us))
 (hb:∀ (fa:Addr) (cdv:Value) (A:Around) (outer:List Env) (s:Shared) (H:Hp) (E:XK),Room k (A.deeper (PyProof.Rows.envOfC x (defScope st) s.heap.objs.size fa cdv))->VD (zcG CX0 P w KC.K mg base N x (defScope st) fa cdv A outer s H E).nox EN [] (defBody st) bm):Cal P w mg base x (k+1) ps (spD (zgO ps.length N bm)) :=
 let ⟨f,fd,F,hm,hk⟩:=A0
 ⟨f,fd,zoj F S (hb f),hm,hk,F.binds bd⟩
theorem zfw{P:Program}{w:World}{mg:Str->Option Value}{base:Heap}{ps:List Str}{x:Str}{k:Nat}{G:List D->Option Rt}(C:Cal P w mg base x k ps (spD G)):Cal P w mg base x k ps (spP G):=by
 obtain⟨f,fd,F,r⟩:=C
 refine⟨f,fd,F.imp fun vs H Q E q=>?_,r⟩
 obtain⟨R,ds,h1,h2,h3⟩:=q
 refine⟨R,ds,h1,h2,?_⟩
 cases e:G ds with
 |none=>rw[e] at h3;exact h3.elim
 |some r=>rw[e] at h3;exact fun x H' R' al ra _=>h3 x H' R' al ra
structure NsF(j:Nat)(s0:Str)(bs:List D)(H0 R H:Hp)(σ:St)(Γ:En)(q r:Addr):Prop where
 fq:H0 q=none
 rq:R q=none
 rr:R r=none
 oq : ¬ Ow σ Γ q
 or : ¬ Ow σ Γ r
 hq:∃ xs,H q=some (.lst xs)/\Rps R xs bs
 hr:H r=some (.lst [.str s0,.ref q])
 at':σ[j]? = some (some (.ref r))
theorem NsF.go{s0:Str}{bs:List D}{q r:Addr}{σ1:St}(N:NsF j s0 bs H0 R H σ Γ q r)(s:SPo ios R H σ Γ R1 H1 σ1 Γ1)(e:σ1[j]? = σ[j]?):NsF j s0 bs H0 R1 H1 σ1 Γ1 q r:=by
 obtain⟨ys,h3,h4⟩:=N.hq
 have ow:∀ b o,H b=some o -> ¬ Ow σ Γ b -> ¬ Ow σ1 Γ1 b:=fun b o hb nb z=>(s.go.oo b z).elim nb fun q=>by rw[hb] at q;cases q
 exact⟨N.fq,s.go.no _ _ h3 N.oq N.rq,s.go.no _ _ N.hr N.or N.rr,ow _ _ h3 N.oq,ow _ _ N.hr N.or,⟨ys,s.go.hh _ _ h3 N.oq,h4.sm s.go.rr⟩,s.go.hh _ _ N.hr N.or,e.trans N.at'⟩
def RdF(j:Nat)(s0:Str)(bs:List D)(EE:XKS)(ios:List Addr)(t:TS)(f:M Fl):Prop:=∀ σ0 H0 R0 Γ0 σ H R Γ D q r,SPo ios R0 H0 σ0 Γ0 R H σ Γ->NsF j s0 bs H0 R H σ Γ q r->wpM (f Γ) (FlK ios R0 H0 σ0 Γ0 D) (EXS EE ios R0 H0 σ0 Γ0)->t D σ H
def VF(j:Nat)(s0:Str)(bs:List D)(X:Cx)(EE:XKS)(ios:List Addr)(st:List Stmt)(f:M Fl):Prop:=∃ t,PSs X st t/\RdF j s0 bs EE ios t f
variable{s0:Str}{bs:List D}
def neF(s0:Str)(bs:List D)(g:M RV)(p:M Bool)(s':M Fl):M Fl:=M.bind g fun y=>M.bind (peek y) fun e=>M.bind (M.bind (M.ofO (neO (.lst [.str s0,.lst bs]) e)) asB) fun c=>if c then M.pure (.ret (.val (.bl false))) else M.bind p fun c'=>if c' then M.pure (.ret (.val (.bl false))) else s'
theorem zq2{k kk:Nat}{x:Str}{p0 p1 p2 p3 pb:Pos}(hroom:Room k X.A)(hv:PE X (.Name x p0) (zfG j))(hb:VE X EE ios b g)(hc:VT X EE ios c p)(hr:VF j s0 bs X EE ios sts s'):VF j s0 bs X EE ios (.If (.BoolOp .Or [.Compare (.Name x p0) [.NotEq] [b] p1,c] pb) [.Return (some (.Constant (.bool false) kk p2)) p3] [] pos::sts) (neF s0 bs g p s'):=by
 obtain⟨tb,b1,b2⟩:=hb
 obtain⟨tc,c1,c2⟩:=hc
 obtain⟨u,h3,h4⟩:=hr
 refine⟨_,zbx (zhr (PW.pt (zot (zji (zbn hroom) hv b1 (zaH _)) (zlq c1))) (zck (zgt zoA)) zdH) h3,fun σ0 H0 R0 Γ0 σ H R Γ D q r sp N w=>?_⟩
 refine⟨_,N.at',?_⟩
 unfold neF at w
 rw[zab] at w
 refine b2 σ H R Γ _ sp.er (zac w (fun ry Γ1 w y H1 R1 p1 hy=>?_) fun _ _ z=>(EXS.trans sp z).exp)
 rw[zab] at w
 obtain⟨e,pe,w⟩:=zbt p1.er hy w
 rw[zab,zab] at w
 obtain⟨rv,hg,w⟩:=zbe w
 have N1:=N.go p1.spo rfl
 have sp1:=sp.trans p1.spo
 obtain⟨ys,h5,h6⟩:=N1.hq
 have rx:Rp H1 (.ref r) (.lst [.str s0,.lst bs]):=.lst N1.hr (.cons (.str _) (.cons (.lst h5 (h6.sm p1.er.sub)) .nil))
 unfold neO at hg
 split at hg
 · rename_i c
   rw[Bool.and_eq_true] at c
   cases hg
   refine .inl ⟨_,_,rx.dat (zbE c.1),(pe.hv p1.er.sub).dat (zbE c.2),c.1,c.2,_,rfl,?_⟩
   have w:wpM ((if (!eqB (.lst [.str s0,.lst bs]) e)=true then M.pure (.ret (.val (.bl false))) else M.bind p fun c'=>if c' then M.pure (.ret (.val (.bl false))) else s') Γ1) (FlK ios R0 H0 σ0 Γ0 D) (EXS EE ios R0 H0 σ0 Γ0):=w
   show if (!eqB (.lst [.str s0,.lst bs]) e)=true then _ else _
   cases qe:eqB (.lst [.str s0,.lst bs]) e with
   |false =>
     rw[qe] at w
     refine zeg ?_
     exact zeg (w σ H1 R1 sp1 _ (.bl _))
   |true =>
     rw[qe] at w
     refine zeu ?_
     have w:wpM (M.bind p (fun c'=>if c' then M.pure (.ret (.val (.bl false))) else s') Γ1) (FlK ios R0 H0 σ0 Γ0 D) (EXS EE ios R0 H0 σ0 Γ0):=w
     rw[zab] at w
     refine c2 σ H1 R1 Γ1 _ p1.er (zac w (fun cc Γ2 w H2 R2 p2=>?_) fun _ _ z=>(EXS.trans sp1 z).exp)
     cases cc with
     |true=>exact zeg (w σ H2 R2 (sp1.trans p2.spo) _ (.bl _))
     |false=>exact zeu (h4 σ0 H0 R0 Γ0 σ H2 R2 Γ2 D q r (sp1.trans p2.spo) (N1.go p2.spo rfl) w)
 · cases hg
def pkF(o:Option (List D×D))(p:M Bool)(s':M Fl):M Fl:=match o with
 |some _=>M.bind p fun _=>s'
 |none=>M.st
theorem zm8{e0:Expr}{p2:Pos}{es:List D}{t:TA}{zs:List V}{gm:List D->List D->Option (List D×D)}{r:V->List V->Hp->VK->Prop}(hv:zqT r gm)(hp:PE X e0 (tBM X.K "list" r (tOp (rIx X.K) (zfG j) (tC (.int 1))) t))(ht:∀ σ H Q,Q zs H->t σ H Q)(hz:∀ R,Rps R zs es)
 (hc:VT X EE ios c p) (hr:VSs X EE ios sts s') (hs:swapsWith e0 none p2.line X.env=pure false:=by rfl):VF j s0 bs X EE ios (.If c [.Expr e0 p2] [] pos::sts) (pkF (gm bs es) p s'):=by
 obtain⟨tc,c1,c2⟩:=hc
 obtain⟨u,h3,h4⟩:=hr
 refine⟨_,zbx (zhr c1 (zck (zgU hp hs)) zdH) h3,fun σ0 H0 R0 Γ0 σ H R Γ D q r' sp N w=>?_⟩
 cases hg:gm bs es with
 |none=>rw[hg] at w;exact False.elim w
 |some o =>
   obtain⟨bs',res⟩:=o
   rw[hg] at w
   have w:wpM (M.bind p (fun _=>s') Γ) (FlK ios R0 H0 σ0 Γ0 D) (EXS EE ios R0 H0 σ0 Γ0):=w
   rw[zab] at w
   refine c2 σ H R Γ _ sp.er (zac w (fun cc Γ1 w H1 R1 p1=>?_) fun _ _ z=>(EXS.trans sp z).exp)
   have sp1:=sp.trans p1.spo
   have N1:=N.go p1.spo rfl
   have fin:∀ H2,SPo ios R0 H0 σ0 Γ0 R1 H2 σ Γ1->u D σ H2:=fun H2 sp2=>h4 σ H2 R1 Γ1 D sp2.er (zac w (fun fl Γ' w=>FlK.trans sp2 w) fun _ _ z=>EXS.trans sp2 z)
   cases cc with
   |false=>exact zeu (fin H1 sp1)
   |true =>
     refine zeg ?_
     obtain⟨ys,h1,h2⟩:=N1.hq
     refine⟨_,N1.at',.inl ⟨r',[.str s0,.ref q],1,.ref q,rfl,rfl,SqL.of N1.hr,rfl,zjs h1,ht _ _ _ ?_⟩⟩
     exact hv R1 H1 q ys bs zs es bs' res _ sp1.er.sub N1.rq h1 h2 (hz R1) hg fun ys' z hys' hz'=>fin _ (sp1.poke N1.fq N1.rq N1.oq)
def zhN(j:Nat)(h:Str->List D->M Fl)(m:M Fl):Option Rt->M Fl
 |some (.new (.lst [.str s0,.lst bs]))=>if zby bs then fun Γ=>if j<Γ.length then h s0 bs (Γ.set j none) else .st else M.st
 |some (.new (.lst [.str a,.str b]))=>M.bind (zgV j (.own,.lst [.str a,.str b])) fun _=>m
 | _=>M.st
theorem zn5{h:Str->List D->M Fl}{m:M Fl}(o:Option Rt):(∃ s0 bs,o=some (.new (.lst [.str s0,.lst bs]))/\zhN j h m o=if zby bs then fun Γ=>if j<Γ.length then h s0 bs (Γ.set j none) else .st else M.st)\/(∃ a b,o=some (.new (.lst [.str a,.str b]))/\zhN j h m o=M.bind (zgV j (.own,.lst [.str a,.str b])) fun _=>m)\/zhN j h m o=M.st:=by
 unfold zhN
 split
 · exact .inl ⟨_,_,rfl,rfl⟩
 · exact .inr (.inl ⟨_,_,rfl,rfl⟩)
 · exact .inr (.inr rfl)
def zmR(j:Nat)(G:List D->Option Rt)(fs:M (List RV))(h:Str->List D->M Fl)(m:M Fl):M Fl:=M.bind fs fun rvs=>M.bind (zaE rvs) fun ds=>zhN j h m (G ds)
theorem zlO{G:List D->Option Rt}{fs:M (List RV)}{h:Str->List D->M Fl}{m:M Fl}{x y:Str}{k:Nat}{ps:List Str}{e:Expr}{es:List Expr}{pos' pf pc:Pos}(hN:X.N.Nodup)(hi:X.N[j]? = some x)(hx:Loc X.env.scope x)
 (C:Cal X.prog X.w X.mg X.base y k ps (spD G)) (hroom:Room k X.A) (hgl:Gl X y) (ha:VA X EE ios (e::es) fs) (hr:∀ s0 bs,VF j s0 bs X EE ios sts (h s0 bs)) (hm:VSs X EE ios sts m) (hK:X.K=KC.K:=by rfl) (hdb:(y == ("__debug__" : Str))=false:=by decide)
 (he:starEach (e::es) X.env=(false,eval e X.env)::starEach es X.env:=by rfl) (hpl:(backTo pc (starEach es X.env)).any (·.1)=false:=by rfl)
 (hs:swapsWith (.Call (.Name y pf) (e::es) [] pc) (some (.Name x pos')) pos.line X.env=pure false:=by rfl) (hf:X.fn x=true\/X.env.scope.names.lookup x=some .local:=by first | exact .inl rfl | exact .inr rfl | assumption) :
 VSs X EE ios (.Assign [.Name x pos'] (.Call (.Name y pf) (e::es) [] pc) pos::sts) (zmR j G fs h m):=by
 obtain⟨f,fd,F,hm',hk,hb⟩:=C
 rw[<- hK] at F hk hb
 obtain⟨t,a1,a2⟩:=ha
 obtain⟨tm,m1,m2⟩:=hm
 obtain⟨u,hu⟩:∃ u,PSs X sts u/\(∀ s0 bs,RdF j s0 bs EE ios u (h s0 bs))/\∀ D σ H,tm D σ H->u D σ H:=by
  refine⟨fun D σ H=>tm D σ H\/∃ s0 bs t,PSs X sts t/\RdF j s0 bs EE ios t (h s0 bs)/\t D σ H,fun pins s0 σ H D I q=>?_,fun s0 bs=>?_,fun D σ H=>.inl⟩
  · rcases q with q | ⟨as,bs,t,p1,_,q⟩
    · exact m1 pins s0 σ H D I q
    · exact p1 pins s0 σ H D I q
  · obtain⟨t,t1,t2⟩:=hr s0 bs
    exact fun σ0 H0 R0 Γ0 σ H R Γ D q r sp N w=>.inr ⟨s0,bs,t,t1,t2,t2 σ0 H0 R0 Γ0 σ H R Γ D q r sp N w⟩
 refine⟨_,zbx (ziE hN hi hx (zgA F hroom hgl hm' hk hb .nil zjJ a1 hdb he hpl) hs hf) hu.1,fun σ H R Γ D er w=>?_⟩
 unfold zmR at w
 rw[zab] at w
 refine a2 σ H R Γ _ er (zac w (fun rvs Γ1 w xs H1 R1 p1 hx1=>?_) fun _ _ z=>z.exp)
 rw[zab] at w
 obtain⟨ds,Γ2,R2,p2,s2,r2,w⟩:=zaY er p1 hx1 w
 show spD G (xs++[]) H1 _ _
 rw[List.append_nil]
 refine⟨R2,ds,p2.er.sub,r2,?_⟩
 rcases zn5 (j:=j) (h:=h) (m:=m) (G ds) with ⟨s0,bs,hG,e0⟩ | ⟨a,b,hG,e0⟩ | e0
 · rw[e0] at w
   rw[hG]
   intro x0 H' R' al ra dp
   have ex:zby bs=true/\j<Γ2.length/\wpM (h s0 bs (Γ2.set j none)) (FlK ios R H σ Γ D) (EXS EE ios R H σ Γ):=by
    split at w
    · rename_i c
      dsimp only at w
      split at w
      · rename_i c'
        exact⟨c,c',w⟩
      · exact False.elim w
    · exact False.elim w
   clear w
   obtain⟨im,jl,w⟩:=ex
   obtain⟨⟨r,vs,ds',rfl,rr,hr',e1,rs⟩,r',e2,fr⟩:=ra
   cases e1
   cases e2
   cases rs with
   |cons ra rs =>
     cases ra
     cases rs with
     |cons rb rs =>
       cases rs
       cases rb with
       |lst hq rs =>
         rename_i q ys
         have hq':=al.sub _ _ hq
         have fq:H1 q=none:=dp _ _ q ys rfl hr' rfl hq'
         have qr:q≠r:=fun z=>by rw[z,rr] at hq;cases hq
         let R3:Hp:=fun b=>if b=q then none else R' b
         have n3:∀ b,b≠q->R3 b=R' b:=fun b hb=>if_neg hb
         have q3:R3 q=none:=if_pos rfl
         have q2:R2 q=none:=p2.er.sub.free fq
         have le:Same R3 R':=fun b o z=>by
          by_cases hb:b=q
          · rw[hb,q3] at z;cases z
          · rw[n3 b hb] at z;exact z
         have al3:Al R2 H1 R3 H':=⟨le.trans al.sub,fun b o z=>by rw[n3 b (fun e=>by rw[e,q2] at z;cases z)];exact al.rr b o z,al.hh,fun b o z y=>by
          by_cases hb:b=q
          · rw[hb];exact q3
          · rw[n3 b hb];exact al.no b o z y⟩
         have sp:SPo ios R H σ Γ R3 H' (σ.set j (some (.ref r))) (Γ2.set j none):=SPo.setN (p2.al al3)
         have now:∀ c,H1 c=none -> ¬ Ow (σ.set j (some (.ref r))) (Γ2.set j none) c:=fun c hc z=>by
          obtain⟨_,zs,e⟩:=er.ow (p2.sh c (zjD z))
          rw[p2.back er c hc] at e
          cases e
         have jl:j<σ.length:=by rw[p2.er.len];exact jl
         exact hu.2.1 s0 bs σ H R Γ _ H' R3 _ D q r sp ⟨p2.back er q fq,q3,by rw[n3 r (Ne.symm qr)];exact rr,now _ fq,now _ fr,⟨ys,hq',rs.less (fun b xs z=>by rw[n3 b (fun e=>by rw[e,hq] at z;cases z)];exact z) im⟩,hr',by rw[List.getElem?_set_self jl]⟩ w
 · rw[e0] at w
   rw[hG]
   intro x0 H' R' al ra dp
   obtain⟨h1,r',h2,h3⟩:=ra
   rw[zab] at w
   have sp:=SPo.set (i:=j) er (p2.al al) (s:=(.own,.lst [.str a,.str b])) h1 fun _ b eb=>by rw[h2] at eb;cases eb;exact p2.back er _ h3
   exact hu.2.2 _ _ _ (m2 _ H' R' _ D sp.er (zac w (fun fl Γ' w=>FlK.trans sp w) fun _ _ z=>EXS.trans sp z))
 · rw[e0] at w
   exact False.elim w
end
end
end Dv
namespace Dv
open PySem L2 Ex
section
variable{Γ:En}{f g:M RV}{j:Nat}{bs:List D}{s s':M Fl}{p:M Bool}{s0:Str}
@[simp] theorem r_sqD:sqD s s' Γ=M.bind s (fun fl=>match fl with
 | .nx=>s'
 | _=>M.st) Γ:=(rfl)
@[simp] theorem r_ifD:ifD p s s' Γ=M.bind p (fun b=>if b then s else s') Γ:=(rfl)
@[simp] theorem r_retD:znA j f Γ=M.bind f (fun r=>M.bind (mat r) fun d=>M.bind (ownAt j) fun _=>M.bind (mat (.var j)) fun e=>M.pure (.ret (.new (.lst [d,e])))) Γ:=(rfl)
@[simp] theorem r_retE:zn0 f g Γ=M.bind f (fun r=>M.bind (mat r) fun d=>M.bind g fun r'=>match r' with
 | .val (.str y)=>M.pure (.ret (.new (.lst [d,.str y])))
 | _=>M.st) Γ:=(rfl)
@[simp] theorem r_ownAt:ownAt j Γ=match Γ[j]? with
 |some (some (.own,_))=>.ok () Γ
 | _=>.st:=(rfl)
@[simp] theorem r_pkF{o:List D×D}:pkF (some o) p s' Γ=M.bind p (fun _=>s') Γ:=(rfl)
@[simp] theorem r_nesF{G:List D->Option Rt}{fs:M (List RV)}{h:Str->List D->M Fl}{m:M Fl}:zmR j G fs h m Γ=M.bind fs (fun rvs=>M.bind (zaE rvs) fun ds=>zhN j h m (G ds)) Γ:=(rfl)
theorem zp9{h:Str->List D->M Fl}{m:M Fl}(i:zby bs=true)(l:j<Γ.length):zhN j h m (some (.new (.lst [.str s0,.lst bs]))) Γ=h s0 bs (Γ.set j none):=by
 show(if zby bs then fun Γ:En=>if j<Γ.length then h s0 bs (Γ.set j none) else .st else M.st) Γ=_
 rw[i]
 exact if_pos l
@[simp] theorem r_nesS{h:Str->List D->M Fl}{m:M Fl}{a b:Str}:zhN j h m (some (.new (.lst [.str a,.str b]))) Γ=M.bind (zgV j (.own,.lst [.str a,.str b])) (fun _=>m) Γ:=(rfl)
@[simp] theorem r_neF:neF s0 bs g p s' Γ=M.bind g (fun y=>M.bind (peek y) fun e=>M.bind (M.bind (M.ofO (neO (.lst [.str s0,.lst bs]) e)) asB) fun c=>if c then M.pure (.ret (.val (.bl false))) else M.bind p fun c'=>if c' then M.pure (.ret (.val (.bl false))) else s') Γ:=(rfl)
end
end Dv
namespace L2
open PySem Ex
section
variable{X:Cx}
def zrf(K:PySem.W.Frag):R2:=fun x y H Q=>∃ p xs d ds,y = .ref p/\SqT K H p xs/\DatV H x d/\DatsV H xs ds/\SeqAt.shaped d=true/\ds.all SeqAt.shaped=true/\Q (.bl (!ds.any fun e=>PyData.eqv e d)) H
theorem zjU{k:Nat}(hr:Room k X.A):OpR X (compareOp .NotIn) (zrf X.K):=by
 intro pins s σ H x y v u Q I rx ry h
 obtain⟨p,xs,d,ds,rfl,hq,dx,dxs,sd,sds,q⟩:=h
 cases ry
 obtain⟨its,r,pl,hz⟩:=I.tuple hq
 obtain⟨as,rv⟩:=dx.reads I.hok rx
 have hu:X.A.in1.units+64<cLine:=by have:=hr.un;show X.A.units+1+64<_;omega
 refine SeqAt.notIn_tupleAt (eqH H d) pl (fun w hw=>zje I.hok rv sd hu r dxs sds w (by simpa using hw)) ⟨.bl _,H,I,rfl,?_⟩
 rw[show its.toArray.any (eqH H d)=its.any (eqH H d) by simp,zjC r dxs]
 exact q
end
end L2
namespace Dv
open PySem L2 Ex
variable[KC]
def niT(d e:D):Option RV:=match e with
 | .tup xs=>if zbP d && xs.all zbP then some (.val (.bl (!xs.any fun e=>eqB e d))) else none
 | _=>none
theorem znF{K:W.Frag}:OpV (zrf K) niT:=by
 intro R H x y d e rv Q s px py hg q
 unfold niT at hg
 split at hg
 · rename_i ds
   split at hg
   · rename_i c
     rw[Bool.and_eq_true] at c
     cases hg
     obtain⟨p,xs,rfl,h1,h2⟩:=py.tup
     refine⟨p,xs,d.py,ds.map D.py,rfl,SqT.of (s _ _ h1),(px.hv s).dat (zbE c.1),zi6 (h2.sm s) c.2,c.1,?_,?_⟩
     · rw[List.all_map];exact c.2
     · rw[List.any_map];exact q _ H R (Al.refl s) (.bl _)
   · cases hg
 · cases hg
end Dv
namespace K06
open PySem L2 Ex Dv
def whileN:Nat:=100000
def exL:List Cn:=[.NoPoints,.NoBox,.NoAsks,.NoRun,.NoText,.NoTurn,.NoTree,.NoTop,.NotServed,.NoRow,.NoPoint,.NoName,.NoKey,.NoBack,.TooMany]
def zaQ:Cn->Bool:=fun C=>([.NoPoints,.NoBox,.NoAsks,.NoRun,.NoText,.NoTurn,.NoTree,.NoTop,.NotServed,.NoRow,.NoPoint,.TooMany]:List Cn).contains C
def zc8  : M Fl :=
 (zbu (zc2 (zfj (zqV (zfj (zaa 0)) [] 2 (gT 2 (gsC (gN 0) (gsC (gN 1) gs0))) (M.pure true) (zbo (ZS (zaa 1) (ZS (zaa 0) (M.pure [])))))) [] 2 (gT 2 (gsC (gN 0) (gsC (gN 1) gs0))) (M.pure true) (zbo (ZS (zaa 1) (ZS (zaa 0) (M.pure []))))))
def zcC  : M Fl :=
 (zbu (zd1 (zkx .int (zaa 0)) (zd1 (zn6 (ngM (M.bind (zkx .bool (zaa 0)) asB))) (op3 leO leO (M.pure (.val (.int 0))) (zaa 0) (M.pure (.val (.int 30)))))))
def zcn(zaS:List D->Option Rt):M Fl :=
 (zbu (zd1 (zkx .tuple (zaa 0)) (zd1 (op2 zcc (za4 zej (ZS (zaa 0) (M.pure []))) (M.pure (.val (.int 2)))) (zd1 (zaO zaS (ZS (op2 zaF (zaa 0) (M.pure (.val (.int 0)))) (M.pure []))) (zaO zaS (ZS (op2 zaF (zaa 0) (M.pure (.val (.int 1)))) (M.pure [])))))))
def zbF(zam:List D->Option Rt):M Fl :=
 (zar (ifM (orM (ngM (M.bind (zfx (zaa 0)) asB)) (M.bind (op2 gtO (za4 zej (ZS (zaa 0) (M.pure []))) (M.pure (.val (.int 200)))) asB))
 M.st
 (M.pure .nx))
 (forM (zlG (ZS (zaa 0) (M.pure []))) (gT 2 (gsC (gN 1) (gsC (gN 2) gs0)))
 (ifM (ngM (M.bind (zaO zam (ZS (zaa 2) (M.pure []))) asB))
 M.st
 (M.pure .nx))))
def zdC(zaA:List D->Option Rt)(zah:List D->Option Rt):M Fl :=
 (ifM (M.bind (op2 isO (zaa 1) (M.pure (.val .non))) asB) (za0 1 (lstM (M.pure []))) (M.pure .nx))
def zdt(zaA:List D->Option Rt)(zah:List D->Option Rt):M Fl :=
 (zjR (zaO zah (ZS (zaa 1) (M.pure []))))
def zdA(zaA:List D->Option Rt)(zah:List D->Option Rt):M RV :=
 (zaO zaA (ZS (zaa 1) (M.pure [])))
def zbN  : M Fl :=
 (zbu (za4 zeW (ZS (zla .Points "held" (zaa 0)) (M.pure []))))
def zb0  : M Fl :=
 (zar (ifM (M.bind (op2 gtO (op2 zaF (zaa 0) (M.pure (.val (.int 0)))) (M.pure (.val (.int 0)))) asB)
 (zar (za0 2 (op2 zeB (op2 zaF (zaa 0) (M.pure (.val (.int 0)))) (zaa 1)))
 (zar (zio (gS 0 (M.pure (.val (.int 0)))) (op2 zjr (op2 zaF (zaa 0) (M.pure (.val (.int 0)))) (zaa 1)))
 (zbu (zaa 2))))
 (M.pure .nx))
 (zar (zio (gS 0 (M.pure (.val (.int 1)))) (op2 zeB (op2 zd0 (op2 zfJ (op2 zaF (zaa 0) (M.pure (.val (.int 1)))) (M.pure (.val (.int 48271)))) (M.pure (.val (.int 11)))) (M.pure (.val (.int 2147483647)))))
 (zbu (op2 zeB (op2 zjr (op2 zeB (op2 zfJ (op2 zaF (zaa 0) (M.pure (.val (.int 1)))) (op2 zaF (zaa 0) (M.pure (.val (.int 1))))) (M.pure (.val (.int 2147483629)))) (M.pure (.val (.int 64)))) (zaa 1)))))
def zcr(zaj:GI):M Fl :=
 (zbu (zbo (ZS (zbr zaj (ZS (zaa 0) (ZS (zaa 1) (M.pure [])))) (ZS (zbr zaj (ZS (zaa 0) (ZS (zaa 2) (M.pure [])))) (M.pure [])))))
def zbA  : M Fl :=
 (zar (ifM (M.bind (op2 ltO (zaa 1) (za4 zej (ZS (zaa 0) (M.pure [])))) asB)
 (zbu (op2 zaF (zaa 0) (zaa 1)))
 (M.pure .nx))
 (zbu (M.pure (.val (.int 0)))))
def zb2(zav:List D->Option Rt):M Fl :=
 (zar (za0 2 (zaO zav (ZS (zaa 0) (ZS (zaa 1) (M.pure [])))))
 (zar (za0 3 (op2 zeB (op2 zfJ (op2 zd0 (op2 zd0 (op2 zd0 (op2 zeB (zaa 2) (M.pure (.val (.int 2147483629)))) (op2 zfJ (op2 zfJ (M.pure (.val (.int 7919))) (zaa 1)) (zaa 1))) (op2 zfJ (M.pure (.val (.int 104729))) (zaa 1))) (M.pure (.val (.int 1)))) (M.pure (.val (.int 48271)))) (M.pure (.val (.int 2147483647)))))
 (zar (ifM (M.bind (op2 ltO (zaa 2) (op2 zoX (M.pure (.val (.int 10))) (M.pure (.val (.int 18))))) asB)
 (za0 2 (M.pure (.val (.int 0))))
 (M.pure .nx))
 (zbu (lstM (ZS (zaa 2) (ZS (op2 zeB (op2 zfJ (zaa 3) (zaa 3)) (M.pure (.val (.int 2147483629)))) (M.pure []))))))))
def zce  : M Fl :=
 (zbu (zc2 (zfj (za4 ziY (ZS (zc2 (zfj (zaa 0)) [] 2 (gT 2 (gsC (gN 0) (gsC (gN 1) gs0))) (M.pure true) (zbo (ZS (zaa 1) (ZS (zaa 0) (M.pure []))))) (M.pure [])))) [] 2 (gT 2 (gsC (gN 0) (gsC (gN 1) gs0))) (M.pure true) (zbo (ZS (zaa 1) (ZS (zaa 0) (M.pure []))))))
def zcb  : M Fl :=
 (zar (za0 3 (za4 zdk (ZS (lstM (ZS (op2 zaF (zaa 0) (M.pure (.val (.int 0)))) (ZS (op2 zaF (zaa 1) (M.pure (.val (.int 0)))) (M.pure [])))) (M.pure []))))
 (zar (za0 4 (za4 zdk (ZS (lstM (ZS (op2 zaF (zaa 0) (M.pure (.val (.int 1)))) (ZS (op2 zaF (zaa 1) (M.pure (.val (.int 1)))) (M.pure [])))) (M.pure []))))
 (zbu (zd1 (op3 leO leO (op2 zaF (zaa 3) (M.pure (.val (.int 0)))) (op2 zaF (zaa 2) (M.pure (.val (.int 0)))) (op2 zaF (zaa 3) (M.pure (.val (.int 1))))) (op3 leO leO (op2 zaF (zaa 4) (M.pure (.val (.int 0)))) (op2 zaF (zaa 2) (M.pure (.val (.int 1)))) (op2 zaF (zaa 4) (M.pure (.val (.int 1)))))))))
def zch(zaB:List D->Option Rt):M Fl :=
 (zbu (zc2 (zfj (zaa 0)) [1,2] 1 (gN 0) (andM (M.bind (op2 zbd (zaa 0) (zaa 1)) asB) (andM (M.bind (op2 zbd (zaa 0) (zaa 2)) asB) (M.bind (zaO zaB (ZS (zaa 1) (ZS (zaa 2) (ZS (zaa 0) (M.pure []))))) asB))) (zaa 0)))
def zcL  : M Fl :=
 (zar (za0 1 (lstM (ZS (zcS exL .NoPoints (zaa 0)) (ZS (zcS exL .NoBox (zaa 0)) (ZS (zcS exL .NoAsks (zaa 0)) (ZS (zcS exL .NoRun (zaa 0)) (M.pure [])))))))
 (zar (za0 1 (op2 zd0 (zaa 1) (lstM (ZS (zcS exL .NoText (zaa 0)) (ZS (zcS exL .NoTurn (zaa 0)) (ZS (zcS exL .NoTree (zaa 0)) (M.pure [])))))))
 (zar (za0 1 (op2 zd0 (zaa 1) (lstM (ZS (zcS exL .NoTop (zaa 0)) (ZS (zcS exL .NotServed (zaa 0)) (ZS (zcS exL .NoRow (zaa 0)) (M.pure [])))))))
 (zar (za0 1 (op2 zd0 (zaa 1) (lstM (ZS (zcS exL .NoPoint (zaa 0)) (ZS (zcS exL .NoName (zaa 0)) (ZS (zcS exL .NoKey (zaa 0)) (M.pure [])))))))
 (zar (za0 1 (op2 zd0 (zaa 1) (lstM (ZS (zcS exL .NoBack (zaa 0)) (ZS (zcS exL .TooMany (zaa 0)) (M.pure []))))))
 (zar (ifM (orM (M.bind (op2 zbd (zkz 1 zgf (ZS (M.pure (.val (.bl true))) (M.pure []))) (M.pure (.val (.int 1)))) asB) (M.bind (op2 zbd (zcS exL .PointError (zaa 0)) (op2 ltO (zkz 1 zfA (ZS (M.pure (.val (.bl true))) (M.pure []))) (M.pure (.val (.int 10))))) asB))
 (zbu (M.pure (.val (.str "odd"))))
 (M.pure .nx))
 (zar (za0 2 (lstM (ZS (M.pure (.val (.str "points"))) (ZS (M.pure (.val (.str "box"))) (ZS (M.pure (.val (.str "asks"))) (ZS (M.pure (.val (.str "run"))) (ZS (M.pure (.val (.str "text"))) (ZS (M.pure (.val (.str "turn"))) (ZS (M.pure (.val (.str "tree"))) (ZS (M.pure (.val (.str "top"))) (ZS (M.pure (.val (.str "served"))) (ZS (M.pure (.val (.str "row"))) (ZS (M.pure (.val (.str "point"))) (ZS (M.pure (.val (.str "name"))) (ZS (M.pure (.val (.str "key"))) (M.pure []))))))))))))))))
 (zbu (op2 zaF (op2 zd0 (zaa 2) (lstM (ZS (M.pure (.val (.str "back"))) (ZS (M.pure (.val (.str "many"))) (M.pure []))))) (zkz 1 zfA (ZS (M.pure (.val (.bl true))) (M.pure []))))))))))))
def zbX(zam:List D->Option Rt):M Fl :=
 (zbu (zd1 (zaO zam (ZS (zaa 0) (M.pure []))) (zd1 (zaO zam (ZS (zaa 1) (M.pure []))) (zd1 (op2 zbd (op2 zaF (zaa 0) (M.pure (.val (.int 0)))) (op2 zaF (zaa 1) (M.pure (.val (.int 0))))) (op2 zbd (op2 zaF (zaa 0) (M.pure (.val (.int 1)))) (op2 zaF (zaa 1) (M.pure (.val (.int 1)))))))))
def zek  : M Fl :=
 (zar (zio (gT 2 (gsC (gN 3) (gsC (gN 4) gs0))) (zaa 0))
 (zbu (zd1 (orV (op3 leO leO (op2 zaF (zaa 1) (M.pure (.val (.int 0)))) (zaa 3) (op2 zaF (zaa 2) (M.pure (.val (.int 0))))) (op3 leO leO (op2 zaF (zaa 2) (M.pure (.val (.int 0)))) (zaa 3) (op2 zaF (zaa 1) (M.pure (.val (.int 0)))))) (orV (op3 leO leO (op2 zaF (zaa 1) (M.pure (.val (.int 1)))) (zaa 4) (op2 zaF (zaa 2) (M.pure (.val (.int 1))))) (op3 leO leO (op2 zaF (zaa 2) (M.pure (.val (.int 1)))) (zaa 4) (op2 zaF (zaa 1) (M.pure (.val (.int 1)))))))))
def zda(zai:List D->Option Rt)(zay:List D->Option Rt)(zbk:List D->Option Rt):M Fl :=
 (zar (ifM (ngM (M.bind (zaO zay (ZS (zaa 1) (ZS (zaa 2) (M.pure [])))) asB))
 (zge .NoBox ["one","other"] (ZS (zaa 1) (ZS (zaa 2) (M.pure []))))
 (M.pure .nx))
 (zbu (zc2 (zfj (zil .Points "points" zai (zaa 0))) [1,2] 1 (gN 0) (andM (M.bind (zaO zbk (ZS (zaa 0) (ZS (zaa 1) (ZS (zaa 2) (M.pure []))))) asB) (M.bind (op2 niT (zaa 0) (zbo (ZS (zaa 1) (ZS (zaa 2) (M.pure []))))) asB)) (zaa 0))))
def zb7(zaJ:List D->Option Rt)(za9:List D->Option Rx):M Fl :=
 (sqD (za0 3 (M.pure (.val .non)))
 (sqD (za0 4 (M.pure (.val .non)))
 (sqD (zmE zaQ 5
 (za0 4 (zhe za9 (ZS (zaa 0) (ZS (zaa 1) (ZS (zaa 2) (M.pure []))))))
 (za0 3 (zaa 5)))
 (ifD (M.bind (op2 isO (zaa 3) (M.pure (.val .non))) asB)
 (znA 4 (M.pure (.val (.str "told"))))
 (zn0 (zaO zaJ (ZS (zaa 3) (M.pure []))) (zoa (M.bind (op2 zcc (zaO zaJ (ZS (zaa 3) (M.pure []))) (M.pure (.val (.str "box")))) asB) (za4 zcp (ZS (lstM (ZS (zlz exL "one" (zaa 3)) (ZS (zlz exL "other" (zaa 3)) (M.pure [])))) (M.pure []))) (M.pure (.val (.str "")))))))))
def ziO(zba:List D->Option Rx)(zai:List D->Option Rt)(zap:GI)(zaD:List D->Option Rt)(zaw:List D->Option Rt)(zaj:GI)(zax:List D->Option Rt)(zak:List D->Option Rt):M Fl :=
 (zar (forM (zgh (ZS (za4 zhQ (ZS (M.pure (.val (.int 1))) (ZS (za4 zhd (ZS (M.pure (.val (.int 8))) (ZS (za4 zej (ZS (zaa 0) (M.pure []))) (M.pure [])))) (M.pure [])))) (M.pure []))) (gN 1)
 (zar (za0 2 (zaO zaD (ZS (zaa 0) (ZS (zaa 1) (M.pure [])))))
 (zar (za0 3 (op2 zaF (lstM (ZS (M.pure (.val (.int 2))) (ZS (M.pure (.val (.int 4))) (ZS (M.pure (.val (.int 8))) (ZS (M.pure (.val (.int 31))) (M.pure [])))))) (zbr zaj (ZS (zaa 2) (ZS (M.pure (.val (.int 4))) (M.pure []))))))
 (zar (za0 4 (zaO zaw (ZS (zc2 (zgh (ZS (zbr zaj (ZS (zaa 2) (ZS (M.pure (.val (.int 41))) (M.pure [])))) (M.pure []))) [2,3] 1 (gN 0) (M.pure true) (zbr zap (ZS (zaa 1) (ZS (zaa 2) (ZS (zaa 2) (M.pure [])))))) (M.pure []))))
 (zar (za0 5 (zfS zba (ZS (zaa 4) (M.pure []))))
 (zar (forM (zgh (ZS (M.pure (.val (.int 16))) (M.pure []))) (gN 6)
 (zar (za0 7 (zbr zap (ZS (zaa 2) (ZS (zaa 3) (ZS (zaa 3) (M.pure []))))))
 (zar (za0 8 (zbr zap (ZS (zaa 2) (ZS (zaa 3) (ZS (zaa 3) (M.pure []))))))
 (zar (ifM (andM (M.bind (op2 zbd (zaa 4) (lstM (M.pure []))) asB) (M.bind (op2 zcc (op2 zeB (zaa 6) (M.pure (.val (.int 2)))) (M.pure (.val (.int 0)))) asB))
 (za0 7 (op2 zaF (zaa 4) (zbr zaj (ZS (zaa 2) (ZS (za4 zej (ZS (zaa 4) (M.pure []))) (M.pure []))))))
 (M.pure .nx))
 (zar (za0 9 (lstM (ZS (M.pure (.val (.str "box"))) (ZS (za4 zcp (ZS (lstM (ZS (zaa 7) (ZS (zaa 8) (M.pure [])))) (M.pure []))) (M.pure [])))))
 (zar (ifM (andM (M.bind (op2 zbd (op2 zaF (zaa 7) (M.pure (.val (.int 0)))) (op2 zaF (zaa 8) (M.pure (.val (.int 0))))) asB) (M.bind (op2 zbd (op2 zaF (zaa 7) (M.pure (.val (.int 1)))) (op2 zaF (zaa 8) (M.pure (.val (.int 1))))) asB))
 (za0 9 (lstM (ZS (M.pure (.val (.str "told"))) (ZS (zaO zax (ZS (zaa 4) (ZS (zaa 7) (ZS (zaa 8) (M.pure []))))) (M.pure [])))))
 (M.pure .nx))
 (zmR 10 zak (ZS (zaa 5) (ZS (zaa 7) (ZS (zaa 8) (M.pure [])))) (fun s0 bs =>
 (neF s0 bs (zaa 9) (andM (M.bind (op2 zcc (op2 zaF (zaa 9) (M.pure (.val (.int 0)))) (M.pure (.val (.str "told")))) asB) (M.bind (op2 zbd (zaO zak (ZS (zaa 5) (ZS (zaa 8) (ZS (zaa 7) (M.pure []))))) (zaa 9)) asB))
 (pkF (zdG bs [.non]) (M.bind (op2 zcc (op2 zaF (zaa 9) (M.pure (.val (.int 0)))) (M.pure (.val (.str "told")))) asB)
 (ifM (M.bind (op2 zbd (zaO zak (ZS (zaa 5) (ZS (zaa 7) (ZS (zaa 8) (M.pure []))))) (zaa 9)) asB)
 (zbu (M.pure (.val (.bl false))))
 (M.pure .nx)))))
 (zar (ifM (orM (M.bind (op2 zbd (zaa 10) (zaa 9)) asB) (andM (M.bind (op2 zcc (op2 zaF (zaa 9) (M.pure (.val (.int 0)))) (M.pure (.val (.str "told")))) asB) (M.bind (op2 zbd (zaO zak (ZS (zaa 5) (ZS (zaa 8) (ZS (zaa 7) (M.pure []))))) (zaa 9)) asB)))
 (zbu (M.pure (.val (.bl false))))
 (M.pure .nx))
 (zar (ifM (M.bind (op2 zcc (op2 zaF (zaa 9) (M.pure (.val (.int 0)))) (M.pure (.val (.str "told")))) asB)
 M.st
 (M.pure .nx))
 (ifM (M.bind (op2 zbd (zaO zak (ZS (zaa 5) (ZS (zaa 7) (ZS (zaa 8) (M.pure []))))) (zaa 9)) asB)
 (zbu (M.pure (.val (.bl false))))
 (M.pure .nx)))))))))))
 (zar (za0 11 (op2 zaF (lstM (ZS (M.pure (.val .non)) (ZS (M.pure (.val (.bl true))) (ZS (M.pure (.val (.int 3))) (ZS (zbo (ZS (M.pure (.val (.int 1))) (M.pure []))) (ZS (lstM (ZS (M.pure (.val (.int 0))) (ZS (M.pure (.val (.int 1))) (M.pure [])))) (ZS (zbo (ZS (M.pure (.val (.int 31))) (ZS (M.pure (.val (.int 2))) (M.pure [])))) (ZS (zbo (ZS (M.pure (.val (.bl true))) (ZS (M.pure (.val (.int 7))) (M.pure [])))) (ZS (zbo (ZS (M.pure (.val (.int 1))) (ZS (M.pure (.val (.str "2"))) (M.pure [])))) (ZS (zbo (ZS (op1 zlh (M.pure (.val (.int 1)))) (ZS (M.pure (.val (.int 3))) (M.pure [])))) (ZS (zbo (M.pure [])) (ZS (M.pure (.val (.dic [] []))) (ZS (M.pure (.val (.str "01"))) (M.pure [])))))))))))))) (zbr zaj (ZS (zaa 2) (ZS (M.pure (.val (.int 12))) (M.pure []))))))
 (zar (forM (zfj (lstM (ZS (zbo (ZS (zaa 11) (ZS (zbo (ZS (M.pure (.val (.int 5))) (ZS (M.pure (.val (.int 5))) (M.pure [])))) (M.pure [])))) (ZS (zbo (ZS (zbo (ZS (M.pure (.val (.int 5))) (ZS (M.pure (.val (.int 5))) (M.pure [])))) (ZS (zaa 11) (M.pure [])))) (ZS (zbo (ZS (zaa 11) (ZS (zaa 11) (M.pure [])))) (M.pure [])))))) (gN 12)
 (ifM (M.bind (op2 zbd (zaO zak (ZS (zaa 5) (ZS (op2 zaF (zaa 12) (M.pure (.val (.int 0)))) (ZS (op2 zaF (zaa 12) (M.pure (.val (.int 1)))) (M.pure []))))) (lstM (ZS (M.pure (.val (.str "box"))) (ZS (za4 zcp (ZS (za4 zeW (ZS (zaa 12) (M.pure []))) (M.pure []))) (M.pure []))))) asB)
 (zbu (M.pure (.val (.bl false))))
 (M.pure .nx)))
 (ifM (M.bind (op2 zbd (zil .Points "points" zai (zaa 5)) (zaa 4)) asB)
 (zbu (M.pure (.val (.bl false))))
 (M.pure .nx))))))))))
 (zbu (M.pure (.val (.bl true)))))
def zaA:List D->Option Rt:=zbm 1 ["points"] (zc8 )
def zaS:List D->Option Rt:=zbm 1 ["thing"] (zcC )
def zam:List D->Option Rt:=zbm 1 ["thing"] (zcn zaS)
def zah:List D->Option Rt:=zbm 1 ["thing","number","point"] (zbF zam)
def zba:List D->Option Rx:=runN .Points "held" 1 ["points"] (zdC zaA zah) (zdt zaA zah) (zdA zaA zah)
def zai:List D->Option Rt:=zbm 1 ["self"] (zbN )
def zaj:GI:=zh2 2 ["_law_pool_here","_law_many","_law_found"] (zb0 )
def zap:GI:=zh2 3 ["_law_pool_here","_law_keys","_law_moments"] (zcr zaj)
def zav:List D->Option Rt:=zbm 2 ["_law_script","_law_k"] (zbA )
def zaD:List D->Option Rt:=zbm 2 ["_law_script","_law_k","_law_cell","_law_seed"] (zb2 zav)
def zaw:List D->Option Rt:=zbm 1 ["_law_spots"] (zce )
def zaB:List D->Option Rt:=zbm 3 ["_law_one","_law_other","_law_point_here","_law_keys","_law_moments"] (zcb )
def zax:List D->Option Rt:=zbm 3 ["_law_spots","_law_one","_law_other"] (zch zaB)
def zaJ:List D->Option Rt:=zbm 1 ["_law_error","_law_kinds","_law_words"] (zcL )
def zay:List D->Option Rt:=zbm 2 ["one","other"] (zbX zam)
def zbk:List D->Option Rt:=zbm 3 ["point","one","other","key","moment"] (zek )
def za9:List D->Option Rx:=zkT 3 ["points","one","other"] (zda zai zay zbk)
def zak:List D->Option Rt:=zgO 3 ["_law_made","_law_one","_law_other","_law_caught","_law_found","e"] (zb7 zaJ za9)
def zhu:List D->Option Rt:=zbm 1 ["_law_script","_law_k","_law_pool_here","_law_wide","_law_spots","_law_made","_law_turn","_law_one","_law_other","_law_due","_law_found","_law_odd","_law_pair"] (ziO zba zai zap zaD zaw zaj zax zak)
end K06
namespace Tr
open PySem L2 Ex Dv
theorem line:20000<=sizeLine:=by decide
theorem znD{ds:List PyData}(h:∀ d∈ds,d.canLay0=true):PyData.canLayAll0 ds=true:=by
 induction ds with
 |nil=>rfl
 |cons d r ih=>simp[PyData.canLayAll0,h d (by simp),ih fun x hx=>h x (by simp[hx])]
theorem zky{ds:List PyData}{n:Nat}(h:∀ d∈ds,d.depth<=n):PyData.depthAll ds<=n:=by
 induction ds with
 |nil=>simp[PyData.depthAll]
 |cons d r ih=>have:=h d (by simp);have:=ih fun x hx=>h x (by simp[hx]);simp[PyData.depthAll];omega
theorem zhB{d:D}(h:zbP d=true):eqB d d=true:=SeqAt.eqv_refl _ (SeqAt.canLay_of_shaped h)
theorem zp2{d e:D}(h:∀ x,d ≠ .str x):zcc d e=eqO d e:=by
 unfold zcc
 split
 · exact absurd rfl (h _)
 · rfl
theorem zgZ{d e:D}(h:∀ x,d ≠ .str x):zbd d e=neO d e:=by
 unfold zbd
 split
 · exact absurd rfl (h _)
 · rfl
theorem zfb{d:D}(h:zbP d=true):zcc d d=some (.val (.bl true)):=by
 unfold zcc
 split
 · simp
 · unfold eqO;rw[h,zhB h];rfl
theorem zcg{d:D}(h:zbP d=true):zbd d d=some (.val (.bl false)):=by
 unfold zbd
 split
 · simp
 · unfold neO;rw[h,zhB h];rfl
theorem zpn(ns:List Int):zby (ns.map D.int)=true:=by
 induction ns with
 |nil=>rfl
 |cons t r ih=>simp[zby,zet,ih]
@[simp] theorem immR_is{ns:List Int}:zcQ (.new (.lst (ns.map D.int)))=true:=zpn ns
@[simp] theorem immR_int{n:Int}:zcQ (.val (.int n))=true:=rfl
@[simp] theorem immR_bl{n:Bool}:zcQ (.val (.bl n))=true:=rfl
@[simp] theorem immR_non:zcQ (.val .non)=true:=rfl
end Tr
namespace K06
open PySem L2 Ex Dv Tr St So
theorem zdz(i:Int):zaS [.int i]=some (.val (.bl (decide (0<=i) && decide (i<=30)))):=by
 by_cases h:0<=i<;>by_cases h':i<=30<;>simp[zaS,zcC,zbm,zbb,gam,zct,h,h']
theorem zeD(i j:Int):zcc (.int i) (.int j)=some (.val (.bl (decide (i=j)))):=by
 have:eqB (.int i) (.int j)=decide (i=j):=by show(i == j)=_;by_cases h:i=j<;>simp[h]
 rw[zp2 (by intro x z;cases z)]
 unfold eqO;rw[this];rfl
abbrev pl(c s:Int):List D:=[.int c,.int s]
def Sd(s:Int):Prop:=0<=s/\s<2147483648
theorem zeb(a b:D):L2.atI [a,b] 0=some a:=rfl
theorem ze8(a b:D):L2.atI [a,b] 1=some b:=rfl
theorem zqq:L2.ixN 2 0=some 0:=rfl
theorem zqn:L2.ixN 2 1=some 1:=rfl
theorem zdb{c s m:Int}(h:Sd s)(hm:0<m)(hm2:m<1073741824):∃ x c' s',zaj (pl c s) [.int m]=some (.val (.int x),pl c' s')/\(0<=x/\x<m)/\Sd s':=by
 obtain⟨h1,h2⟩:=h
 have m1:=zcN (i:=s) (j:=48271) (by omega)
 by_cases hc:0<c
 · refine⟨c % m,c / m,s,?_,⟨Int.emod_nonneg _ (by omega),Int.emod_lt_of_pos _ hm⟩,h1,h2⟩
   simp[zaj,zb0,zh2,zhI,zbb,zez,zeb,ze8,zqq,zqn,hc,hm,hm2]
 · have q1:0<=(s * 48271+11) % 2147483647:=Int.emod_nonneg _ (by decide)
   have q2:(s * 48271+11) % 2147483647<2147483647:=Int.emod_lt_of_pos _ (by decide)
   have m2:=zcN (i:=(s * 48271+11) % 2147483647) (j:=(s * 48271+11) % 2147483647) (by omega)
   refine⟨(s * 48271+11) % 2147483647 * ((s * 48271+11) % 2147483647) % 2147483629 / 64 % m,c,(s * 48271+11) % 2147483647,?_,⟨Int.emod_nonneg _ (by omega),Int.emod_lt_of_pos _ hm⟩,q1,by omega⟩
   simp[zaj,zb0,zh2,zhI,zbb,zez,zeb,ze8,zqq,zqn,hc,hm,hm2,m1,m2]
theorem znH(ns:List Int)(k:Nat)(hk:k<100):∃ c,zav [.scr ns,.int k]=some (.val (.int c)):=by
 by_cases h:k<ns.length
 · refine⟨ns[k],?_⟩
   have a:L2.atI ns (k:Int)=some ns[k]:=atI_nat (List.getElem?_eq_getElem h)
   simp[zav,zbA,zbm,zbb,gam,a,h]
 · refine⟨0,?_⟩
   simp[zav,zbA,zbm,zbb,gam,h]
theorem zny(ns:List Int)(k:Nat)(hk:k<100):∃ c s,zaD [.scr ns,.int k]=some (.new (.lst (pl c s)))/\Sd s:=by
 obtain⟨c,hc⟩:=znH ns k hk
 have q1:0<=c % 2147483629:=Int.emod_nonneg _ (by decide)
 have q2:c % 2147483629<2147483629:=Int.emod_lt_of_pos _ (by decide)
 have k1:=zcN (i:=7919) (j:=k) (by omega)
 have k2:zfe (7919 * (k:Int)) k=true:=zcN (by omega)
 have k3:=zcN (i:=104729) (j:=k) (by omega)
 have hkk:(k:Int) * k<=10000:=by
  have:k * k<=100 * 100:=Nat.mul_le_mul (by omega) (by omega)
  exact_mod_cast this
 have hk0:0<=(k:Int) * k:=by exact_mod_cast Nat.zero_le (k * k)
 have e1:7919 * (k:Int) * k=7919 * ((k:Int) * k):=by rw[Int.mul_assoc]
 have k4:zfe (c % 2147483629+7919 * (k:Int) * k+104729 * k+1) 48271=true:=zcN (by omega)
 generalize hs:(c % 2147483629+7919 * (k:Int) * k+104729 * k+1) * 48271 % 2147483647=s
 have s1:0<=s:=by rw[<- hs];exact Int.emod_nonneg _ (by decide)
 have s2:s<2147483647:=by rw[<- hs];exact Int.emod_lt_of_pos _ (by decide)
 have k5:zfe s s=true:=zcN (by omega)
 have ln:=line
 have l2:2<=sizeLine:=by omega
 by_cases hd:c<E18
 · refine⟨0,s * s % 2147483629,?_,Int.emod_nonneg _ (by decide),Int.lt_trans (Int.emod_lt_of_pos _ (by decide)) (by decide)⟩
   simp[zaD,zb2,zbm,zbb,gam,hc,zoH,k1,k2,k3,k4,hs,k5,hd,l2]
 · refine⟨c,s * s % 2147483629,?_,Int.emod_nonneg _ (by decide),Int.lt_trans (Int.emod_lt_of_pos _ (by decide)) (by decide)⟩
   simp[zaD,zb2,zbm,zbb,gam,hc,zoH,k1,k2,k3,k4,hs,k5,hd,l2]
theorem zlm(lo:Int)(n:Nat):(upI lo n).length=n:=by simp[upI]
theorem zov{lo:Int}{n i:Nat}{d:D}(h:(upI lo n)[i]? = some d):d = .int (lo+i)/\i<n:=by
 unfold upI at h
 rw[List.getElem?_map] at h
 cases q:(List.range n)[i]? with
 |none=>rw[q] at h;cases h
 |some j =>
   rw[q] at h
   cases h
   obtain⟨h1,h2⟩:=List.getElem?_eq_some_iff.mp q
   rw[List.getElem_range] at h2
   subst h2
   exact⟨rfl,by simpa using h1⟩
theorem zdj(i j:Int):zbd (.int i) (.int j)=some (.val (.bl (!decide (i=j)))):=by
 have:eqB (.int i) (.int j)=decide (i=j):=by show(i == j)=_;by_cases h:i=j<;>simp[h]
 rw[zgZ (fun _=>by simp)]
 unfold neO
 rw[this]
 rfl
theorem zbD{s s':M Fl}{Γ Γ1:En}{r:Res Fl}(h:s Γ = .ok .nx Γ1)(h':s' Γ1=r):zar s s' Γ=r:=by rw[zk9,h];exact h'
def zm0(i:Nat)(ds:List D):List D:=(ds.zipIdx i).map fun p=>D.tup [.int p.2,p.1]
theorem zrn(i:Nat)(d:D)(r:List D):zm0 i (d::r) = .tup [.int i,d]::zm0 (i+1) r:=rfl
theorem zqI(ds:List D):zlL ds=zm0 0 ds:=rfl
def swp:D->D
 | .tup [a,b]=>.tup [b,a]
 |d=>d
theorem zk4{ds:List D}{Γ:En}(h:∀ d∈ds,∃ a b,d = .tup [a,b]):lcM [] 2 (gT 2 (gsC (gN 0) (gsC (gN 1) gs0))) (M.pure true) (zbo (ZS (zaa 1) (ZS (zaa 0) (M.pure [])))) ds Γ = .ok (ds.map swp) Γ:=by
 have ln:=line
 have l2:2<=sizeLine:=by omega
 refine zpo swp fun d hd=>?_
 obtain⟨a,b,rfl⟩:=h d hd
 refine⟨[some (.frz,a),some (.frz,b)],?_,rfl⟩
 simp[zaX,swp,l2]
theorem zgl:∀ {cs:List (Int×Int)},(∀ c∈cs,SmP c)->asP (cs.map pD)=some cs
 | [],_=>rfl
 |c::r,h=>by
   obtain⟨⟨h1,h2⟩,h3,h4⟩:=h c (List.mem_cons_self ..)
   rw[List.map_cons]
   show(if decide (0<=c.1) && decide (c.1<=30) && decide (0<=c.2) && decide (c.2<=30) then (asP (r.map pD)).map (c :: ·) else none)=_
   rw[if_pos (by simp only[Bool.and_eq_true,decide_eq_true_eq];exact⟨⟨⟨h1,h2⟩,h3⟩,h4⟩),zgl fun x hx=>h x (List.mem_cons_of_mem _ hx)]
   rfl
abbrev sw(cs:List (Int×Int)):List D:=(cs.map pD).map swp
theorem zdr(cs:List (Int×Int)):(sw cs).length=cs.length:=by simp
theorem zmF(c:Int×Int)(r:List (Int×Int)):sw (c::r) = .tup [.int c.2,.int c.1]::sw r:=rfl
theorem zqr:∀ cs:List (Int×Int),(sw cs).map swp=cs.map pD
 | []=>rfl
 |c::r=>by rw[zmF,List.map_cons,List.map_cons,zqr r];rfl
theorem zp6(cs:List (Int×Int)):∀ d∈cs.map pD,∃ a b,d=D.tup [a,b]:=fun d hd=>by
 obtain⟨c,_,rfl⟩:=List.mem_map.mp hd
 exact⟨_,_,rfl⟩
theorem zd8{cs:List (Int×Int)}{d:D}(h:d∈sw cs):∃ c∈cs,d = .tup [.int c.2,.int c.1]:=by
 obtain⟨e,he,rfl⟩:=List.mem_map.mp h
 obtain⟨c,hc,rfl⟩:=List.mem_map.mp he
 exact⟨c,hc,rfl⟩
theorem zqd(cs:List (Int×Int)):∀ d∈sw cs,∃ a b,d=D.tup [a,b]:=fun d hd=>by
 obtain⟨c,_,rfl⟩:=zd8 hd
 exact⟨_,_,rfl⟩
theorem zfc(cs:List (Int×Int)):(za5 cs).length<=cs.length:=by
 rw[(zdX cs).length_eq]
 have go:∀ (l σ:List (Int×Int)),(l.foldl PyProof.Rows.step_dedup σ).length<=σ.length+l.length:=by
  intro l
  induction l with
  |nil=>intro σ;simp
  |cons c r ih =>
    intro σ
    rw[List.foldl_cons]
    refine Nat.le_trans (ih _) ?_
    unfold PyProof.Rows.step_dedup
    split<;>simp<;>omega
 have:=go cs []
 simpa [ddP] using this
theorem zkD{cs:List (Int×Int)}(sm:∀ c∈cs,SmP c):za5 (za5 cs)=za5 cs :=
 (zd9 (cs:=za5 cs) (l:=za5 cs) (fun c hc=>sm c (srtP_mem.mp hc)) (zjP cs) (zi9 cs) fun c=>Iff.rfl).symm
theorem zoK{cs:List (Int×Int)}{Γ:En}:lcM [] 2 (gT 2 (gsC (gN 0) (gsC (gN 1) gs0))) (M.pure true) (zbo (ZS (zaa 1) (ZS (zaa 0) (M.pure [])))) (sw cs) Γ = .ok (cs.map pD) Γ:=by
 have z:=zk4 (Γ:=Γ) (zqd cs)
 rw[zqr] at z
 exact z
theorem zoF{cs:List (Int×Int)}{Γ:En}:lcM [] 2 (gT 2 (gsC (gN 0) (gsC (gN 1) gs0))) (M.pure true) (zbo (ZS (zaa 1) (ZS (zaa 0) (M.pure [])))) (cs.map pD) Γ = .ok (sw cs) Γ:=zk4 (zp6 cs)
theorem order_eq{cs:List (Int×Int)}(sm:∀ c∈cs,SmP c)(hl:cs.length<64):zaA [.lst (sw cs)]=some (.new (.lst (sw (za5 cs)))):=by
 have ln:=line
 have l1:(sw cs).length<64:=by rw[zdr];exact hl
 have l2:((za5 cs).map pD).length<sizeLine:=by rw[List.length_map];have:=zfc cs;omega
 have e1:=fun Γ=>zoK (cs:=cs) (Γ:=Γ)
 have e2:=fun Γ=>zoF (cs:=za5 cs) (Γ:=Γ)
 have e3:=zgl sm
 generalize hS:sw cs=S at *
 generalize hT:sw (za5 cs)=T at *
 generalize hP:cs.map pD=P at *
 generalize hQ:(za5 cs).map pD=Q at *
 simp[zaA,zc8,zbm,zbb,gam,l1,e1,e3,hQ,l2,e2]
theorem zko{cs:List (Int×Int)}(sm:∀ c∈cs,SmP c)(hl:cs.length<64):zaw [.lst (sw cs)]=some (.new (.lst (sw (za5 cs)))):=by
 have ln:=line
 have l1:(sw cs).length<sizeLine:=by rw[zdr];omega
 have l2:((za5 cs).map pD).length<sizeLine:=by rw[List.length_map];have:=zfc cs;omega
 have e1:=fun Γ=>zoK (cs:=cs) (Γ:=Γ)
 have e2:=fun Γ=>zoF (cs:=za5 cs) (Γ:=Γ)
 have e3:ziY [.lst (cs.map pD)]=some (.new (.lst ((za5 cs).map pD))):=by
  show(asP (cs.map pD)).bind _=_
  rw[zgl sm]
  show(if cs.length<64 then _ else _)=_
  rw[if_pos hl]
 generalize hS:sw cs=S at *
 generalize hT:sw (za5 cs)=T at *
 generalize hP:cs.map pD=P at *
 generalize hQ:(za5 cs).map pD=Q at *
 simp[zaw,zce,zbm,zbb,gam,l1,e1,e3,l2,e2]
theorem zhV(k i:Int):zam [.tup [.int k,.int i]]=some (.val (.bl ((decide (0<=k) && decide (k<=30)) && (decide (0<=i) && decide (i<=30))))):=by
 have q:zcc (.int 2) (.int 2)=some (.val (.bl true)):=zfb (by decide)
 have k1:=zdz k
 have k2:=zdz i
 generalize (decide (0<=k) && decide (k<=30))=b1 at *
 generalize (decide (0<=i) && decide (i<=30))=b2 at *
 cases b1<;>cases b2<;>simp[zam,zcn,zbm,zbb,gam,zct,q,zeb,ze8,k1,k2]
theorem zeH{c:Int×Int}(h:SmP c):zam [.tup [.int c.2,.int c.1]]=some (.val (.bl true)):=by
 obtain⟨⟨h1,h2⟩,h3,h4⟩:=h
 rw[zhV]
 simp[h1,h2,h3,h4]
def zoR:M Fl:=(ifM (ngM (M.bind (zaO zam (ZS (zaa 2) (M.pure []))) asB))
 M.st
 (M.pure .nx))
theorem zhX{x0:Sl}:∀ (ds:List D) (i:Nat) (x1 x2:Sl),(∀ d∈ds,zam [d]=some (.val (.bl true))) ->
 ∃ y1 y2,zcB (gT 2 (gsC (gN 1) (gsC (gN 2) gs0))) zoR (zm0 i ds) [x0,x1,x2] = .ok .nx [x0,y1,y2]
 | [],i,x1,x2,_=>⟨x1,x2,rfl⟩
 |d::r,i,x1,x2,h=>by
   obtain⟨y1,y2,ih⟩:=zhX (x0:=x0) r (i+1) (some (.frz,.int i)) (some (.frz,d)) fun b hb=>h b (List.mem_cons_of_mem _ hb)
   refine⟨y1,y2,?_⟩
   rw[zrn,zgu]
   rw[<- ih]
   simp[zoR,h d (List.mem_cons_self ..)]
theorem zmt{ds:List D}(hl:ds.length<=200)(h:∀ d∈ds,zam [d]=some (.val (.bl true))):zah [.lst ds]=some (.val .non):=by
 obtain⟨y1,y2,hy⟩:=zhX (x0:=some (.frz,.lst ds)) ds 0 none none h
 have e:zbF zam=zar (ifM (orM (ngM (M.bind (zfx (zaa 0)) asB)) (M.bind (op2 gtO (za4 zej (ZS (zaa 0) (M.pure []))) (M.pure (.val (.int 200)))) asB))
  M.st (M.pure .nx)) (forM (zlG (ZS (zaa 0) (M.pure []))) (gT 2 (gsC (gN 1) (gsC (gN 2) gs0))) zoR):=rfl
 have h1 : ¬ (200<(ds.length:Int)):=by omega
 unfold zah
 rw[e]
 simp[zbm,zbb,gam,h1,zqI,hy]
abbrev pO(ds:List D):D:=.obj .Points ["held"] [.lst ds]
theorem zfh:∀ cs:List (Int×Int),zby (sw cs)=true
 | []=>rfl
 |c::r=>zfh r
theorem zks{cs:List (Int×Int)}(sm:∀ c∈cs,SmP c)(hl:cs.length<64):zba [.lst (sw cs)]=some (.ok (.val (pO (sw (za5 cs))))):=by
 have e1:=order_eq sm hl
 have e2:=zmt (ds:=sw cs) (by rw[zdr];omega) (fun d hd=>by obtain⟨c,hc,rfl⟩:=zd8 hd;exact zeH (sm c hc))
 have e3:=zfh (za5 cs)
 generalize sw cs=S at *
 generalize sw (za5 cs)=T at *
 simp[zba,Dv.runN,zhC,zdC,zdt,zdA,gam,e1,e2,e3,zhy,isNone]
theorem cdT:cd True=true:=zgv trivial
theorem zmq(ds:List D):zai [pO ds]=some (.new (.lst ds)):=by
 simp[zai,zbN,zbm,zbb,gam,cdT]
theorem zgm(k i:Int):zbP (.tup [.int k,.int i])=true:=by
 unfold zbP SeqAt.shaped
 simp[D.py,D.pys,PyData.canLay0,PyData.canLayAll0,PyData.depth,PyData.depthAll]
theorem zhW(k i k' i':Int):eqB (.tup [.int k,.int i]) (.tup [.int k',.int i'])=(decide (k=k') && decide (i=i')):=by
 show PyData.eqv _ _=_
 simp[D.py,D.pys,PyData.eqv,PyData.eqvAll]
 rw[Bool.eq_iff_iff]
 simp
end K06
namespace Bp
open PySem Dv St So
abbrev C:=Int×Int
def ins(a b c:C):Prop:=(a.2<=c.2/\c.2<=b.2\/b.2<=c.2/\c.2<=a.2)/\(a.1<=c.1/\c.1<=b.1\/b.1<=c.1/\c.1<=a.1)
instance(a b c:C):Decidable (ins a b c):=by unfold ins;infer_instance
def third(cs:List C)(a b:C):List C:=cs.filter fun c=>decide (c≠a/\c≠b/\ins a b c)
end Bp
namespace K06
open PySem L2 Ex Dv Tr St So Bp
abbrev pt(c:C):D:=.tup [.int c.2,.int c.1]
theorem zqt(cs:List C):sw cs=cs.map pt:=by simp[sw,pD,swp,List.map_map]
theorem zrT(x y:Int):Dv.srt [x,y]=if x<=y then [x,y] else [y,x]:=by
 refine(zhH ?_ ?_ (zlI _)).symm
 · refine List.Perm.trans ?_ (zhU _).symm
   split
   · exact .refl _
   · exact .swap x y []
 · split<;>simp<;>omega
theorem zjf(x y:Int):zdk [.lst [.int x,.int y]]=some (.new (.lst ((if x<=y then [x,y] else [y,x]).map D.int))):=by
 rw[show[D.int x,D.int y]=[x,y].map D.int from rfl, <- zrT]
 unfold zdk
 simp only[zlX]
 rfl
theorem zj3(a b c:C):zaB [pt a,pt b,pt c]=some (.val (.bl (decide (Bp.ins a b c)))):=by
 have ln:=line
 have l2:2<=sizeLine:=by omega
 have s1:=zjf a.2 b.2
 have s2:=zjf a.1 b.1
 have e:decide (Bp.ins a b c)=((decide ((if a.2<=b.2 then a.2 else b.2)<=c.2) && decide (c.2<=(if a.2<=b.2 then b.2 else a.2))) && (decide ((if a.1<=b.1 then a.1 else b.1)<=c.1) && decide (c.1<=(if a.1<=b.1 then b.1 else a.1)))):=by
  rw[Bool.eq_iff_iff]
  simp only[Bool.and_eq_true,decide_eq_true_eq]
  unfold Bp.ins
  split<;>split<;>omega
 have f1:((if a.2<=b.2 then [a.2,b.2] else [b.2,a.2]).map D.int)=[.int (if a.2<=b.2 then a.2 else b.2),.int (if a.2<=b.2 then b.2 else a.2)]:=by split<;>rfl
 have f2:((if a.1<=b.1 then [a.1,b.1] else [b.1,a.1]).map D.int)=[.int (if a.1<=b.1 then a.1 else b.1),.int (if a.1<=b.1 then b.1 else a.1)]:=by split<;>rfl
 rw[f1] at s1
 rw[f2] at s2
 rw[e]
 generalize (if a.2<=b.2 then a.2 else b.2)=k1 at *
 generalize (if a.2<=b.2 then b.2 else a.2)=k2 at *
 generalize (if a.1<=b.1 then a.1 else b.1)=m1 at *
 generalize (if a.1<=b.1 then b.1 else a.1)=m2 at *
 obtain⟨c1,c2⟩:=c
 by_cases q1:k1<=c2<;>by_cases q2:c2<=k2<;>by_cases q3:m1<=c1<;>by_cases q4:c1<=m2<;>simp[zaB,zcb,zbm,zbb,gam,zeb,ze8,l2,s1,s2,q1,q2,q3,q4]
theorem zoG(a b:C):zbd (pt a) (pt b)=some (.val (.bl (decide (a≠b)))):=by
 rw[zgZ (fun _=>by simp)]
 unfold neO
 rw[zgm,zgm,zhW]
 have:(!(decide (a.2=b.2) && decide (a.1=b.1)))=decide (a≠b):=by
  rw[Bool.eq_iff_iff]
  simp[Prod.ext_iff]
  exact Or.comm
 rw[<- this]
 rfl
def thF(a b:C):D->Option D
 | .tup [.int k,.int m]=>if decide ((m,k)≠a/\(m,k)≠b/\Bp.ins a b (m,k))=true then some (.tup [.int k,.int m]) else none
 | _=>none
theorem zjw(a b c:C):thF a b (.tup [.int c.2,.int c.1])=if decide (c≠a/\c≠b/\Bp.ins a b c)=true then some (.tup [.int c.2,.int c.1]) else none:=rfl
theorem zqE{cs:List C}{a b:C}{x0:Sl}:lcM [1,2] 1 (gN 0) (andM (M.bind (op2 zbd (zaa 0) (zaa 1)) asB) (andM (M.bind (op2 zbd (zaa 0) (zaa 2)) asB) (M.bind (zaO zaB (ZS (zaa 1) (ZS (zaa 2) (ZS (zaa 0) (M.pure []))))) asB))) (zaa 0) (sw cs) [x0,some (.frz,pt a),some (.frz,pt b)] = .ok (sw (third cs a b)) [x0,some (.frz,pt a),some (.frz,pt b)]:=by
 have e:sw (third cs a b)=(sw cs).filterMap (thF a b):=by
  unfold third
  induction cs with
  |nil=>rfl
  |cons c r ih =>
    rw[zmF,List.filterMap_cons,List.filter_cons, <- ih,zjw]
    by_cases h:decide (c≠a/\c≠b/\Bp.ins a b c)=true
    · rw[if_pos h,if_pos h,zmF]
    · rw[if_neg h,if_neg h]
 rw[e]
 refine zjo _ _ fun d hd=>?_
 obtain⟨c,_,rfl⟩:=zd8 hd
 refine⟨[some (.frz,pt c),some (.frz,pt a),some (.frz,pt b)],?_,rfl⟩
 have n1:=zoG c a
 have n2:=zoG c b
 have i1:=zj3 a b c
 have im:∀ q,zcQ (.val (.bl q))=true:=fun _=>rfl
 rw[zjw]
 by_cases h1:c=a
 · rw[decide_eq_false (by simp[h1])] at n1
   rw[if_neg (by simp[h1])]
   simp[zaX,n1]
 · rw[decide_eq_true h1] at n1
   by_cases h2:c=b
   · rw[decide_eq_false (by simp[h2])] at n2
     rw[if_neg (by simp[h2])]
     simp[zaX,n1,n2]
   · rw[decide_eq_true h2] at n2
     by_cases h3:Bp.ins a b c
     · rw[decide_eq_true h3] at i1
       rw[if_pos (by simp[h1,h2,h3])]
       simp[zaX,n1,n2,i1]
     · rw[decide_eq_false h3] at i1
       rw[if_neg (by simp[h3])]
       simp[zaX,n1,n2,i1]
theorem zkb{cs:List C}(hl:cs.length<64)(a b:C):zax [.lst (sw cs),pt a,pt b]=some (.new (.lst (sw (third cs a b)))):=by
 have ln:=line
 have l1:(sw cs).length<sizeLine:=by rw[zdr];omega
 have e1:=fun x0=>zqE (cs:=cs) (a:=a) (b:=b) (x0:=x0)
 generalize sw (third cs a b)=T2 at *
 generalize sw cs=T at *
 simp[zax,zch,zbm,zbb,gam,l1,e1]
theorem zmL{a b:C}(ha:SmP a)(hb:SmP b):zay [pt a,pt b]=some (.val (.bl (!decide (a.2=b.2) && !decide (a.1=b.1)))):=by
 have e1:=zeH ha
 have e2:=zeH hb
 have q1:=zdj a.2 b.2
 have q2:=zdj a.1 b.1
 generalize decide (a.2=b.2)=x at *
 generalize decide (a.1=b.1)=y at *
 cases x<;>cases y<;>simp[zay,zbX,zbm,zbb,gam,e1,e2,zeb,ze8,q1,q2]
theorem zou{d e:D}(h:zam [d]=some (.val (.bl false))):zay [d,e]=some (.val (.bl false)):=by
 simp[zay,zbX,zbm,zbb,gam,h]
theorem zrr{d e:D}(h0:zam [d]=some (.val (.bl true)))(h:zam [e]=some (.val (.bl false))):zay [d,e]=some (.val (.bl false)):=by
 simp[zay,zbX,zbm,zbb,gam,h0,h]
theorem zlF(c a b:C):zbk [pt c,pt a,pt b]=some (.val (.bl (decide (Bp.ins a b c)))):=by
 have e:decide (Bp.ins a b c)=((decide (a.2<=c.2) && decide (c.2<=b.2) || decide (b.2<=c.2) && decide (c.2<=a.2)) && (decide (a.1<=c.1) && decide (c.1<=b.1) || decide (b.1<=c.1) && decide (c.1<=a.1))):=by
  rw[Bool.eq_iff_iff]
  simp only[Bool.and_eq_true,Bool.or_eq_true,decide_eq_true_eq]
  rfl
 rw[e]
 by_cases h1:a.2<=c.2<;>by_cases h2:c.2<=b.2<;>by_cases h3:b.2<=c.2<;>by_cases h4:c.2<=a.2<;>by_cases h5:a.1<=c.1<;>by_cases h6:c.1<=b.1<;>by_cases h7:b.1<=c.1<;>by_cases h8:c.1<=a.1<;>simp[zbk,zek,zbm,zbb,gam,zeb,ze8,h1,h2,h3,h4,h5,h6,h7,h8]
theorem zpm(c a b:C):niT (pt c) (.tup [pt a,pt b])=some (.val (.bl (decide (c≠a/\c≠b)))):=by
 show(if zbP (pt c) && [pt a,pt b].all zbP then some (RV.val (.bl (![pt a,pt b].any fun e=>eqB e (pt c)))) else none)=_
 have o:∀ c:C,zbP (pt c)=true:=fun c=>zgm _ _
 have e:∀ x y:C,eqB (pt x) (pt y)=decide (y=x):=fun x y=>by
  rw[zhW,Bool.eq_iff_iff]
  simp only[Bool.and_eq_true,decide_eq_true_eq,Prod.ext_iff]
  constructor
  · rintro⟨a,b⟩;exact⟨b.symm,a.symm⟩
  · rintro⟨a,b⟩;exact⟨b.symm,a.symm⟩
 simp only[List.all_cons,List.all_nil,List.any_cons,List.any_nil,o,e,Bool.and_self,if_true]
 by_cases h1:c=a<;>by_cases h2:c=b<;>simp[h1,h2]
theorem zqk{cs:List C}{a b:C}{x0:Sl}:lcM [1,2] 1 (gN 0) (andM (M.bind (zaO zbk (ZS (zaa 0) (ZS (zaa 1) (ZS (zaa 2) (M.pure []))))) asB) (M.bind (op2 niT (zaa 0) (zbo (ZS (zaa 1) (ZS (zaa 2) (M.pure []))))) asB)) (zaa 0) (sw cs) [x0,some (.frz,pt a),some (.frz,pt b)] = .ok (sw (third cs a b)) [x0,some (.frz,pt a),some (.frz,pt b)]:=by
 have ln:=line
 have l2:2<=sizeLine:=by omega
 have e:sw (third cs a b)=(sw cs).filterMap (thF a b):=by
  unfold third
  induction cs with
  |nil=>rfl
  |cons c r ih =>
    rw[List.filter_cons,zmF,List.filterMap_cons,zjw]
    by_cases h:decide (c≠a/\c≠b/\Bp.ins a b c)=true
    · rw[if_pos h,if_pos h,zmF,ih]
    · rw[if_neg h,if_neg h,ih]
 rw[e]
 refine zjo _ _ fun d hd=>?_
 obtain⟨c,hc,rfl⟩:=zd8 hd
 refine⟨[some (.frz,pt c),some (.frz,pt a),some (.frz,pt b)],?_,rfl⟩
 have e1:=zlF c a b
 have e2:=zpm c a b
 rw[zjw]
 by_cases h1:Bp.ins a b c<;>by_cases h2:c≠a/\c≠b
 · rw[if_pos (decide_eq_true ⟨h2.1,h2.2,h1⟩)]
   rw[decide_eq_true h1] at e1
   rw[decide_eq_true h2] at e2
   simp[zaX,e1,e2,l2]
 · rw[if_neg (fun z=>h2 (let z:=of_decide_eq_true z; ⟨z.1,z.2.1⟩))]
   rw[decide_eq_true h1] at e1
   rw[decide_eq_false h2] at e2
   simp[zaX,e1,e2,l2]
 · rw[if_neg (fun z=>h1 (of_decide_eq_true z).2.2)]
   rw[decide_eq_false h1] at e1
   simp[zaX,e1]
 · rw[if_neg (fun z=>h1 (of_decide_eq_true z).2.2)]
   rw[decide_eq_false h1] at e1
   simp[zaX,e1]
theorem zoD:cd (¬ ("points" : Str) = "held")=true:=zgv (by decide +kernel)
theorem ziJ{cs:List C}(hl:cs.length<64){a b:C}(ha:SmP a)(hb:SmP b)(h1:a.2≠b.2)(h2:a.1≠b.1):za9 [pO (sw cs),pt a,pt b]=some (.ok (.new (.lst (sw (third cs a b))))):=by
 have ln:=line
 have e1:=zmL ha hb
 rw[decide_eq_false h1,decide_eq_false h2] at e1
 have e2:=zmq (sw cs)
 have e3:=fun x0=>zqk (cs:=cs) (a:=a) (b:=b) (x0:=x0)
 have e4:(sw cs).length<sizeLine:=by rw[zdr];omega
 generalize sw (third cs a b)=T at *
 generalize sw cs=S at *
 simp[za9,zda,zkT,zkn,zbb,gam,e1,e2,e3,e4,zoD]
theorem ziG{x d e:D}(h:zay [d,e]=some (.val (.bl false))):za9 [x,d,e]=some (.ex ⟨.NoBox,[("one",d),("other",e)]⟩):=by
 simp[za9,zda,zkT,zkn,zbb,gam,h]
theorem zk5(d e:D):zaJ [.ins .NoBox ["one","other"] [d,e]]=some (.val (.str "box")):=by
 have ln:=line
 have s1:1<=sizeLine:=by omega
 have s2:2<=sizeLine:=by omega
 have s3:3<=sizeLine:=by omega
 have s4:4<=sizeLine:=by omega
 have s7:7<=sizeLine:=by omega
 have s10:10<=sizeLine:=by omega
 have s13:13<=sizeLine:=by omega
 have s15:15<=sizeLine:=by omega
 have i:∀ T,zjH exL T (.ins .NoBox ["one","other"] [d,e])=some (.val (.bl (sub .NoBox T))):=fun T=>rfl
 have f:∀ b:Bool,zeN (.bl b)=true:=fun b=>rfl
 have n1:zbd (.int 1) (.int 1)=some (.val (.bl false)):=zcg (by decide)
 have n2:zbd (.bl true) (.bl true)=some (.val (.bl false)):=zcg (by decide)
 have b1:∀ b:Bool,eqF (.bl b) (.bl true)=b:=fun b=>by cases b<;>rfl
 simp[zaJ,zcL,zbm,zbb,gam,i,sub,s1,s2,s3,s4,s7,s10,s13,s15,zgf,zfA,f,n1,n2,b1,List.findIdx?_cons]
 rfl
theorem zoh:zbP (.str "box")=true:=by decide +kernel
theorem zi7{cs:List C}(hl:cs.length<64){a b:C}(ha:SmP a)(hb:SmP b)(h1:a.2≠b.2)(h2:a.1≠b.1):zak [pO (sw cs),pt a,pt b]=some (.new (.lst [.str "told",.lst (sw (third cs a b))])):=by
 have ln:=line
 have s2:2<=sizeLine:=by omega
 have e1:=ziJ hl ha hb h1 h2
 generalize sw (third cs a b)=T at *
 generalize sw cs=S at *
 simp[zak,zb7,zgO,zlp,gam,e1,s2,isNone]
theorem zi2{x d e:D}(h:zay [d,e]=some (.val (.bl false))){z:Str}(hz:zcp [.lst [d,e]]=some (.val (.str z))):zak [x,d,e]=some (.new (.lst [.str "box",.str z])):=by
 have ln:=line
 have s2:2<=sizeLine:=by omega
 have e1:=ziG (x:=x) h
 have k:=zk5 d e
 have m:zaQ .NoBox=true:=by decide
 have q2:zcc (.str "box") (.str "box")=some (.val (.bl true)):=zfb zoh
 have c:Cn.NoBox∈exL:=by decide
 have lk:List.lookup ("other" : Str) [("one",d),("other",e)]=some e:=by
  have z:(("other" : Str) == "one")=false:=by decide +kernel
  simp[List.lookup_cons,z]
 simp[zak,zb7,zgO,zlp,gam,e1,m,zfL,k,isNone,s2,q2,c,lk,hz]
theorem ziU{ds:List D}{n:Nat}(hn:n<=50)(h:∀ d∈ds,d.py.canLay0=true/\d.py.depth<=n):zbP (.lst ds)=true/\(D.lst ds).py.canLay0=true/\(D.lst ds).py.depth<=n+1:=by
 have e0:(D.lst ds).py = .list (ds.map fun d=>d.py):=by show PyData.list (D.pys ds)=_;congr 1;induction ds with | nil=>rfl | cons a r ih=>simp[D.pys,ih fun d hd=>h d (List.mem_cons_of_mem _ hd)]
 have h1:PyData.canLayAll0 (ds.map fun d=>d.py)=true:=znD fun x hx=>by obtain⟨d,hd,rfl⟩:=List.mem_map.mp hx;exact(h d hd).1
 have h2:PyData.depthAll (ds.map fun d=>d.py)<=n:=zky fun x hx=>by obtain⟨d,hd,rfl⟩:=List.mem_map.mp hx;exact(h d hd).2
 refine⟨?_,?_,?_⟩
 · unfold zbP SeqAt.shaped;rw[e0];simp[PyData.canLay0,PyData.depth,h1];omega
 · rw[e0];simp[PyData.canLay0,h1]
 · rw[e0];simp[PyData.depth];omega
theorem zoy(cs:List C):zbP (.lst (sw cs))=true:=(ziU (n:=1) (by omega) fun d hd=>by
 obtain⟨c,hc,rfl⟩:=zd8 hd
 constructor<;>simp[D.py,D.pys,PyData.canLay0,PyData.canLayAll0,PyData.depth,PyData.depthAll]).1
structure Gs(k n:Nat)(d:D):Prop where
 sh:d.py.showable=true
 ls:d.py.leavesShort 40=true
 dp:d.py.depth<=k
 bk:d.py.bulk<=n
theorem Gs.mono{k k' n n':Nat}{d:D}(h:Gs k n d)(hk:k<=k')(hn:n<=n'):Gs k' n' d:=⟨h.sh,h.ls,Nat.le_trans h.dp hk,Nat.le_trans h.bk hn⟩
theorem zn1:∀ r:Nat,r<200->((PyData.int ((r:Int) - 100)).showable && (PyData.int ((r:Int) - 100)).leavesShort 40)=true:=by decide +kernel
theorem Gs.int{i:Int}(h : -100<=i)(h':i<100):Gs 0 1 (.int i):=by
 have:=zn1 (i+100).toNat (by omega)
 rw[show(((i+100).toNat:Int) - 100)=i by omega,Bool.and_eq_true] at this
 exact⟨this.1,this.2,by simp[D.py,PyData.depth],by simp[D.py,PyData.bulk]⟩
theorem ziD{k n:Nat}:∀ {ds:List D},(∀ d∈ds,Gs k n d)->PyData.showableAll (D.pys ds)=true/\PyData.leavesShortAll 40 (D.pys ds)=true/\PyData.depthAll (D.pys ds)<=k/\PyData.bulkAll (D.pys ds)<=ds.length * (n+1)
 | [],_=>⟨rfl,by decide +kernel,by simp[D.pys,PyData.depthAll],by simp[D.pys,PyData.bulkAll]⟩
 |d::r,h=>by
   obtain⟨a2,a3,a4,a5⟩:=ziD (ds:=r) fun x hx=>h x (List.mem_cons_of_mem _ hx)
   obtain⟨b2,b3,b4,b5⟩:=h d (List.mem_cons_self ..)
   refine⟨by simp[D.pys,PyData.showableAll,a2,b2],by simp[D.pys,PyData.leavesShortAll,a3,b3],by simp[D.pys,PyData.depthAll];omega,?_⟩
   simp only[D.pys,PyData.bulkAll,List.length_cons]
   rw[Nat.add_mul,Nat.one_mul]
   omega
theorem Gs.tup{k n:Nat}{ds:List D}(h:∀ d∈ds,Gs k n d):Gs (k+1) (ds.length * (n+1)) (.tup ds):=by
 obtain⟨a2,a3,a4,a5⟩:=ziD h
 exact⟨by simpa [D.py,PyData.showable] using a2,by simpa [D.py,PyData.leavesShort] using a3,by simp[D.py,PyData.depth];omega,by simpa [D.py,PyData.bulk] using a5⟩
theorem Gs.lst{k n:Nat}{ds:List D}(h:∀ d∈ds,Gs k n d):Gs (k+1) (ds.length * (n+1)) (.lst ds):=by
 obtain⟨a2,a3,a4,a5⟩:=ziD h
 exact⟨by simpa [D.py,PyData.showable] using a2,by simpa [D.py,PyData.leavesShort] using a3,by simp[D.py,PyData.depth];omega,by simpa [D.py,PyData.bulk] using a5⟩
theorem zrF:1000000<=sizeLine:=by decide
theorem zp5{k n:Nat}{ds:List D}(hp:zh4 ds=true)(g:Gs k n (.lst ds))(hk:k<=50)(hn:n<=20000):zcp [.lst ds]=some (.val (.str (D.lst ds).py.shown)):=by
 have ln:=zrF
 have sh:=PyData.shown_le_bulk 40 (by decide) (D.lst ds).py g.ls
 have b:=g.bk
 have dp:=g.dp
 have rt:zlc (.lst ds)=true:=by
  unfold zlc
  rw[show plW (.lst ds)=true from hp,g.sh,decide_eq_true (by omega:(D.lst ds).py.depth<=50),decide_eq_true (by omega)]
  rfl
 show(if (true && zlc (.lst ds))=true then some (RV.val (.str (D.lst ds).py.shown)) else none)=_
 rw[rt]
 rfl
theorem zcR{a b:Str}(ha:PyData.strOk a=true)(hb:PyData.strOk b=true):PyData.strOk (a++b)=true:=by
 unfold PyData.strOk at *
 rw[Str.cps_append,Array.all_append,ha,hb]
 rfl
theorem zrZ{x y:Str}(hx:PyData.strOk x=true)(hy:PyData.strOk y=true):PyData.strOk (listText [x,y])=true:=by
 have e:listText [x,y]=((("[" : Str)++("" : Str)++x)++(", " : Str)++y)++("]" : Str):=rfl
 rw[e]
 exact zcR (zcR (zcR (zcR (zcR (by decide +kernel) (by decide +kernel)) hx) (by decide +kernel)) hy) (by decide +kernel)
theorem zrP{x y:Str}(hx:PyData.strOk x=true)(hy:PyData.strOk y=true):PyData.strOk (tupleText [x,y])=true:=by
 have e:tupleText [x,y]=(("(" : Str)++(x++(", " : Str)++y))++(")" : Str):=rfl
 rw[e]
 exact zcR (zcR (by decide +kernel) (zcR (zcR hx (by decide +kernel)) hy)) (by decide +kernel)
theorem zpc:∀ r:Nat,r<31->PyData.strOk (PyData.int (r:Int)).shown=true:=by decide +kernel
theorem zmI{i:Int}(h:0<=i)(h':i<=30):PyData.strOk (PyData.int i).shown=true:=by
 have:=zpc i.toNat (by omega)
 rwa[show((i.toNat:Int))=i by omega] at this
structure Tx(d:D):Prop where
 pl:plW d=true
 gs:Gs 2 10 d
 so:PyData.strOk d.py.shown=true
theorem Tx.pt{c:C}(h:SmP c):Tx (pt c):=by
 obtain⟨⟨h1,h2⟩,h3,h4⟩:=h
 refine⟨rfl,(Gs.tup (k:=0) (n:=1) fun d hd=>?_).mono (by decide) (by simp),zrP (zmI h3 h4) (zmI h1 h2)⟩
 simp only[List.mem_cons,List.not_mem_nil,or_false] at hd
 rcases hd with rfl | rfl
 · exact Gs.int (by omega) (by omega)
 · exact Gs.int (by omega) (by omega)
theorem zqR:(D.str "box").py.canLay0=true:=by decide +kernel
theorem zrG:(D.str "told").py.canLay0=true:=by decide +kernel
theorem Tx.two{d e:D}(h:Tx d)(h':Tx e):∃ z,zcp [.lst [d,e]]=some (.val (.str z))/\zbP (.lst [.str "box",.str z])=true:=by
 refine⟨_,zp5 (k:=3) (n:=22) ?_ ((Gs.lst (k:=2) (n:=10) fun x hx=>?_).mono (by decide) (by simp)) (by decide) (by decide),?_⟩
 · show(plW d && (plW e && true))=true
   rw[h.pl,h'.pl]
   rfl
 · simp only[List.mem_cons,List.not_mem_nil,or_false] at hx
   rcases hx with rfl | rfl
   · exact h.gs
   · exact h'.gs
 · refine(ziU (n:=0) (by decide) fun x hx=>?_).1
   simp only[List.mem_cons,List.not_mem_nil,or_false] at hx
   rcases hx with rfl | rfl
   · exact⟨zqR,by simp[D.py,PyData.depth]⟩
   · exact⟨zrZ h.so h'.so,by simp[D.py,PyData.depth]⟩
theorem zor(cs:List C):zbP (.lst [.str "told",.lst (sw cs)])=true:=by
 refine(ziU (n:=2) (by decide) fun x hx=>?_).1
 simp only[List.mem_cons,List.not_mem_nil,or_false] at hx
 rcases hx with rfl | rfl
 · exact⟨zrG,by simp[D.py,PyData.depth]⟩
 · refine(ziU (n:=1) (by decide) fun x hx=>?_).2
   obtain⟨c,_,rfl⟩:=zd8 hx
   exact⟨by simp[D.py,D.pys,PyData.canLay0,PyData.canLayAll0],by simp[D.py,D.pys,PyData.depth,PyData.depthAll]⟩
def oddL:List D:=[.non,.bl true,.int 3,.tup [.int 1],.lst [.int 0,.int 1],.tup [.int 31,.int 2],.tup [.bl true,.int 7],.tup [.int 1,.str "2"],.tup [.int (-1),.int 3],.tup [],.dic [] [],.str "01"]
theorem zoZ:∀ d∈oddL,Tx d:=by
 intro d hd
 simp only[oddL,List.mem_cons,List.not_mem_nil,or_false] at hd
 rcases hd with rfl | rfl | rfl | rfl | rfl | rfl | rfl | rfl | rfl | rfl | rfl | rfl<;>exact⟨rfl,⟨by decide +kernel,by decide +kernel,by decide +kernel,by decide +kernel⟩,by decide +kernel⟩
theorem zpD:∀ d∈oddL,zam [d]=some (.val (.bl false)):=by
 intro d hd
 have k1:zaS [.bl true]=some (.val (.bl false)):=by simp[zaS,zcC,zbm,zbb,gam,zct]
 have k2:=zdz 1
 have k3:zaS [.str "2"]=some (.val (.bl false)):=by simp[zaS,zcC,zbm,zbb,gam,zct]
 have q1:=zeD 1 2
 have q0:=zeD 0 2
 have q2:=zeD 2 2
 simp only[oddL,List.mem_cons,List.not_mem_nil,or_false] at hd
 rcases hd with rfl | rfl | rfl | rfl | rfl | rfl | rfl | rfl | rfl | rfl | rfl | rfl<;>first | (simp[zam,zcn,zbm,zbb,gam,zct,q0,q1,q2,zeb,ze8,k1,k2,k3];done) | (rw[zhV];rfl)
theorem zrg:SmP ((5,5):C):=⟨⟨by decide,by decide⟩,by decide,by decide⟩
end K06
namespace K06
open PySem L2 Ex Dv Tr St So
def s1:M Fl:=(za0 2 (zaO zaD (ZS (zaa 0) (ZS (zaa 1) (M.pure [])))))
def s2:M Fl:=(za0 3 (op2 zaF (lstM (ZS (M.pure (.val (.int 2))) (ZS (M.pure (.val (.int 4))) (ZS (M.pure (.val (.int 8))) (ZS (M.pure (.val (.int 31))) (M.pure [])))))) (zbr zaj (ZS (zaa 2) (ZS (M.pure (.val (.int 4))) (M.pure []))))))
def s3:M Fl:=(za0 4 (zaO zaw (ZS (zc2 (zgh (ZS (zbr zaj (ZS (zaa 2) (ZS (M.pure (.val (.int 41))) (M.pure [])))) (M.pure []))) [2,3] 1 (gN 0) (M.pure true) (zbr zap (ZS (zaa 1) (ZS (zaa 2) (ZS (zaa 2) (M.pure [])))))) (M.pure []))))
def s4:M Fl:=(za0 5 (zfS zba (ZS (zaa 4) (M.pure []))))
def zjc:M Fl:=(za0 7 (zbr zap (ZS (zaa 2) (ZS (zaa 3) (ZS (zaa 3) (M.pure []))))))
def zjy:M Fl:=(za0 8 (zbr zap (ZS (zaa 2) (ZS (zaa 3) (ZS (zaa 3) (M.pure []))))))
def zfZ:M Fl:=(ifM (andM (M.bind (op2 zbd (zaa 4) (lstM (M.pure []))) asB) (M.bind (op2 zcc (op2 zeB (zaa 6) (M.pure (.val (.int 2)))) (M.pure (.val (.int 0)))) asB)) (za0 7 (op2 zaF (zaa 4) (zbr zaj (ZS (zaa 2) (ZS (za4 zej (ZS (zaa 4) (M.pure []))) (M.pure [])))))) (M.pure .nx))
def ze5:M Fl:=(za0 9 (lstM (ZS (M.pure (.val (.str "box"))) (ZS (za4 zcp (ZS (lstM (ZS (zaa 7) (ZS (zaa 8) (M.pure [])))) (M.pure []))) (M.pure [])))))
def zfm:M Fl:=(ifM (andM (M.bind (op2 zbd (op2 zaF (zaa 7) (M.pure (.val (.int 0)))) (op2 zaF (zaa 8) (M.pure (.val (.int 0))))) asB) (M.bind (op2 zbd (op2 zaF (zaa 7) (M.pure (.val (.int 1)))) (op2 zaF (zaa 8) (M.pure (.val (.int 1))))) asB)) (za0 9 (lstM (ZS (M.pure (.val (.str "told"))) (ZS (zaO zax (ZS (zaa 4) (ZS (zaa 7) (ZS (zaa 8) (M.pure []))))) (M.pure []))))) (M.pure .nx))
def zf2:M Fl:=(zmR 10 zak (ZS (zaa 5) (ZS (zaa 7) (ZS (zaa 8) (M.pure [])))) (fun s0 bs=>(neF s0 bs (zaa 9) (andM (M.bind (op2 zcc (op2 zaF (zaa 9) (M.pure (.val (.int 0)))) (M.pure (.val (.str "told")))) asB) (M.bind (op2 zbd (zaO zak (ZS (zaa 5) (ZS (zaa 8) (ZS (zaa 7) (M.pure []))))) (zaa 9)) asB)) (pkF (zdG bs [.non]) (M.bind (op2 zcc (op2 zaF (zaa 9) (M.pure (.val (.int 0)))) (M.pure (.val (.str "told")))) asB) (ifM (M.bind (op2 zbd (zaO zak (ZS (zaa 5) (ZS (zaa 7) (ZS (zaa 8) (M.pure []))))) (zaa 9)) asB) (zbu (M.pure (.val (.bl false)))) (M.pure .nx))))) (zar (ifM (orM (M.bind (op2 zbd (zaa 10) (zaa 9)) asB) (andM (M.bind (op2 zcc (op2 zaF (zaa 9) (M.pure (.val (.int 0)))) (M.pure (.val (.str "told")))) asB) (M.bind (op2 zbd (zaO zak (ZS (zaa 5) (ZS (zaa 8) (ZS (zaa 7) (M.pure []))))) (zaa 9)) asB))) (zbu (M.pure (.val (.bl false)))) (M.pure .nx)) (zar (ifM (M.bind (op2 zcc (op2 zaF (zaa 9) (M.pure (.val (.int 0)))) (M.pure (.val (.str "told")))) asB) M.st (M.pure .nx)) (ifM (M.bind (op2 zbd (zaO zak (ZS (zaa 5) (ZS (zaa 7) (ZS (zaa 8) (M.pure []))))) (zaa 9)) asB) (zbu (M.pure (.val (.bl false)))) (M.pure .nx)))))
def bs5:M Fl:=(zar zjc (zar zjy (zar zfZ (zar ze5 (zar zfm zf2)))))
def s5:M Fl:=(forM (zgh (ZS (M.pure (.val (.int 16))) (M.pure []))) (gN 6) bs5)
def s6:M Fl:=(za0 11 (op2 zaF (lstM (ZS (M.pure (.val .non)) (ZS (M.pure (.val (.bl true))) (ZS (M.pure (.val (.int 3))) (ZS (zbo (ZS (M.pure (.val (.int 1))) (M.pure []))) (ZS (lstM (ZS (M.pure (.val (.int 0))) (ZS (M.pure (.val (.int 1))) (M.pure [])))) (ZS (zbo (ZS (M.pure (.val (.int 31))) (ZS (M.pure (.val (.int 2))) (M.pure [])))) (ZS (zbo (ZS (M.pure (.val (.bl true))) (ZS (M.pure (.val (.int 7))) (M.pure [])))) (ZS (zbo (ZS (M.pure (.val (.int 1))) (ZS (M.pure (.val (.str "2"))) (M.pure [])))) (ZS (zbo (ZS (op1 zlh (M.pure (.val (.int 1)))) (ZS (M.pure (.val (.int 3))) (M.pure [])))) (ZS (zbo (M.pure [])) (ZS (M.pure (.val (.dic [] []))) (ZS (M.pure (.val (.str "01"))) (M.pure [])))))))))))))) (zbr zaj (ZS (zaa 2) (ZS (M.pure (.val (.int 12))) (M.pure []))))))
def zqP:M Fl:=(ifM (M.bind (op2 zbd (zaO zak (ZS (zaa 5) (ZS (op2 zaF (zaa 12) (M.pure (.val (.int 0)))) (ZS (op2 zaF (zaa 12) (M.pure (.val (.int 1)))) (M.pure []))))) (lstM (ZS (M.pure (.val (.str "box"))) (ZS (za4 zcp (ZS (za4 zeW (ZS (zaa 12) (M.pure []))) (M.pure []))) (M.pure []))))) asB) (zbu (M.pure (.val (.bl false)))) (M.pure .nx))
def bs7:M Fl:=zqP
def s7:M Fl:=(forM (zfj (lstM (ZS (zbo (ZS (zaa 11) (ZS (zbo (ZS (M.pure (.val (.int 5))) (ZS (M.pure (.val (.int 5))) (M.pure [])))) (M.pure [])))) (ZS (zbo (ZS (zbo (ZS (M.pure (.val (.int 5))) (ZS (M.pure (.val (.int 5))) (M.pure [])))) (ZS (zaa 11) (M.pure [])))) (ZS (zbo (ZS (zaa 11) (ZS (zaa 11) (M.pure [])))) (M.pure [])))))) (gN 12) bs7)
def s8:M Fl:=(ifM (M.bind (op2 zbd (zil .Points "points" zai (zaa 5)) (zaa 4)) asB) (zbu (M.pure (.val (.bl false)))) (M.pure .nx))
def zm9:M Fl:=(zar s1 (zar s2 (zar s3 (zar s4 (zar s5 (zar s6 (zar s7 s8)))))))
theorem zqD:ziO zba zai zap zaD zaw zaj zax zak=(zar (forM (zgh (ZS (za4 zhQ (ZS (M.pure (.val (.int 1))) (ZS (za4 zhd (ZS (M.pure (.val (.int 8))) (ZS (za4 zej (ZS (zaa 0) (M.pure []))) (M.pure [])))) (M.pure [])))) (M.pure []))) (gN 1) zm9) (zbu (M.pure (.val (.bl true))))):=rfl
end K06
namespace K06
open PySem L2 Ex Dv Tr St So Bp
def Gw(w:Int)(c:C):Prop:=(0<=c.1/\c.1<w)/\0<=c.2/\c.2<w
theorem Gw.sm{w:Int}{c:C}(h:Gw w c)(hw:w<=31):SmP c:=by
 obtain⟨⟨a,b⟩,e,f⟩:=h
 exact⟨⟨a,by omega⟩,e,by omega⟩
theorem zfd{c s w:Int}(h:Sd s)(hw:0<w)(hw2:w<=31):∃ (p:C) (c' s':Int),zap (pl c s) [.int w,.int w]=some (.val (pt p),pl c' s')/\Gw w p/\Sd s':=by
 have ln:=line
 have l2:2<=sizeLine:=by omega
 obtain⟨k,c1,s1,h1,b1,d1⟩:=zdb (c:=c) (m:=w) h hw (by omega)
 obtain⟨m,c2,s2,h2,b2,d2⟩:=zdb (c:=c1) (m:=w) d1 hw (by omega)
 refine⟨(m,k),c2,s2,?_,⟨b2,b1⟩,d2⟩
 simp[zap,zcr,zh2,zhI,zbb,zez,h1,h2,l2]
theorem zhF{w:Int}(hw:0<w)(hw2:w<=31){x0 x1:Sl}{xs:En}:∀ (ds:List D) (c s:Int),Sd s->∃ (cs:List C) (c' s':Int),
 lcM [2,3] 1 (gN 0) (M.pure true) (zbr zap (ZS (zaa 1) (ZS (zaa 2) (ZS (zaa 2) (M.pure []))))) ds (x0::x1::some (.own,.lst (pl c s))::some (.frz,.int w)::xs) = .ok (sw cs) (x0::x1::some (.own,.lst (pl c' s'))::some (.frz,.int w)::xs)/\Sd s'/\cs.length=ds.length/\∀ a∈cs,Gw w a
 | [],c,s,h=>⟨[],c,s,rfl,h,rfl,fun a ha=>by cases ha⟩
 |d::r,c,s,h=>by
   obtain⟨p,c1,s1,hx,hx1,hs1⟩:=zfd (c:=c) h hw hw2
   obtain⟨cs,c2,s2,hl,hs2,hn',hk⟩:=zhF hw hw2 r c1 s1 hs1
   refine⟨p::cs,c2,s2,?_,hs2,by simp[hn'],fun a ha=>?_⟩
   · have e:zfu (gN 0) (M.pure true) (zbr zap (ZS (zaa 1) (ZS (zaa 2) (ZS (zaa 2) (M.pure []))))) d (zaX [2,3] 1 (x0::x1::some (.own,.lst (pl c s))::some (.frz,.int w)::xs)) = .ok (some (pt p)) [some (.frz,d),some (.own,.lst (pl c1 s1)),some (.frz,.int w)]:=by
      simp[zaX,hx]
     unfold lcM
     rw[e]
     show(match lcM [2,3] 1 (gN 0) (M.pure true) (zbr zap (ZS (zaa 1) (ZS (zaa 2) (ZS (zaa 2) (M.pure []))))) r (x0::x1::some (.own,.lst (pl c1 s1))::some (.frz,.int w)::xs) with
      | .ok ys Γ'=>Res.ok ([pt p]++ys) Γ'
      | _=>.st)=_
     rw[hl]
     rfl
   · rcases List.mem_cons.1 ha with rfl | ha
     · exact hx1
     · exact hk a ha
abbrev lE(ns:List Int)(k c s w:Int)(xs:En):En :=
 some (.frz,.scr ns)::some (.frz,.int k)::some (.own,.lst (pl c s))::some (.frz,.int w)::xs
theorem zo3{ds:List D}(h:zbP (.lst ds)=true):zbd (.lst ds) (.lst [])=some (.val (.bl (!ds.isEmpty))):=by
 rw[zgZ (fun _=>by simp)]
 unfold neO
 have h0:zbP (.lst [])=true:=by decide
 rw[h,h0]
 have:eqB (.lst ds) (.lst [])=ds.isEmpty:=by
  cases ds with
  |nil=>rfl
  |cons a r=>rfl
 rw[this]
 rfl
theorem zj9{ds:List D}(h:zbP (.lst ds)=true):neO (.lst ds) (.lst ds)=some (.val (.bl false)):=by
 rw[<- zgZ (fun _=>by simp)]
 exact zcg h
theorem zic(cs:List C)(a b:C):third cs b a=third cs a b:=by
 unfold third
 refine List.filter_congr fun c _=>?_
 rw[Bool.eq_iff_iff]
 simp only[decide_eq_true_eq]
 unfold Bp.ins
 constructor
 · rintro⟨h1,h2,h3,h4⟩;exact⟨h2,h1,h3.symm,h4.symm⟩
 · rintro⟨h1,h2,h3,h4⟩;exact⟨h2,h1,h3.symm,h4.symm⟩
theorem zrh{cs:List C}{j:Nat}(h:j<cs.length):L2.atI (sw cs) (j:Int)=some (pt cs[j]):=by
 refine L2.atI_nat ?_
 rw[zqt,List.getElem?_map,List.getElem?_eq_getElem h]
 rfl
structure Gc(w:Int)(cs:List C):Prop where
 w1:0<w
 w2:w<=31
 len:cs.length<=40
 gw:∀ c∈cs,Gw w c
section
variable{ns:List Int}{k c s w:Int}{t:Nat}{cs:List C}{a b:C}{x5 x6 x7 x8 x9 x10 x11 x12:Sl}
theorem zrC(G:Gc w cs)(hs:Sd s):∃ (a:C) (c' s':Int),zjc (lE ns k c s w [some (.own,.lst (sw cs)),x5,x6,x7,x8,x9,x10,x11,x12]) = .ok .nx (lE ns k c' s' w [some (.own,.lst (sw cs)),x5,x6,some (.frz,pt a),x8,x9,x10,x11,x12])/\Gw w a/\Sd s':=by
 obtain⟨p,c',s',h,h1,h2⟩:=zfd (c:=c) hs G.w1 G.w2
 refine⟨p,c',s',?_,h1,h2⟩
 generalize sw cs=T at *
 simp[zjc,h]
theorem zqu(G:Gc w cs)(hs:Sd s):∃ (a:C) (c' s':Int),zjy (lE ns k c s w [some (.own,.lst (sw cs)),x5,x6,x7,x8,x9,x10,x11,x12]) = .ok .nx (lE ns k c' s' w [some (.own,.lst (sw cs)),x5,x6,x7,some (.frz,pt a),x9,x10,x11,x12])/\Gw w a/\Sd s':=by
 obtain⟨p,c',s',h,h1,h2⟩:=zfd (c:=c) hs G.w1 G.w2
 refine⟨p,c',s',?_,h1,h2⟩
 generalize sw cs=T at *
 simp[zjy,h]
theorem zqF(G:Gc w cs)(hs:Sd s)(ha:Gw w a):∃ (a':C) (c' s':Int),zfZ (lE ns k c s w [some (.own,.lst (sw cs)),x5,some (.frz,.int t),some (.frz,pt a),x8,x9,x10,x11,x12]) = .ok .nx (lE ns k c' s' w [some (.own,.lst (sw cs)),x5,some (.frz,.int t),some (.frz,pt a'),x8,x9,x10,x11,x12])/\Gw w a'/\Sd s':=by
 have l0:0<=sizeLine:=Nat.zero_le _
 have e1:=zo3 (zoy cs)
 have em:(sw cs).isEmpty=cs.isEmpty:=by cases cs<;>rfl
 rw[em] at e1
 have md:zeB (.int (t:Int)) (.int 2)=some (.val (.int ((t:Int) % 2))):=zk2 (by decide)
 have e2:=zeD ((t:Int) % 2) 0
 by_cases h1:cs.isEmpty=true
 · rw[h1] at e1
   refine⟨a,c,s,?_,ha,hs⟩
   generalize sw cs=T at *
   simp[zfZ,e1,l0]
 · rw[Bool.not_eq_true] at h1
   rw[h1] at e1
   by_cases h2:(t:Int) % 2=0
   · rw[decide_eq_true h2] at e2
     have ne:0<cs.length:=by
      cases cs with
      |nil=>cases h1
      |cons x r=>simp
     have gl:=G.len
     obtain⟨y,c1,s1',hy,hy1,hs1⟩:=zdb (c:=c) (m:=cs.length) hs (by omega) (by omega)
     obtain⟨j,rfl⟩:∃ j:Nat,y=j:=⟨y.toNat,by omega⟩
     have hj:j<cs.length:=by omega
     have e3:=zrh hj
     rw[<- zdr cs] at hy
     refine⟨cs[j],c1,s1',?_,G.gw _ (List.getElem_mem hj),hs1⟩
     generalize (t:Int) % 2=t2 at *
     generalize sw cs=T at *
     generalize cs[j]=q at *
     simp[zfZ,e1,l0,md,e2,hy,e3]
   · rw[decide_eq_false h2] at e2
     refine⟨a,c,s,?_,ha,hs⟩
     generalize (t:Int) % 2=t2 at *
     generalize sw cs=T at *
     simp[zfZ,e1,l0,md,e2]
theorem znr(ha:SmP a)(hb:SmP b)(h : ¬ (a.2≠b.2/\a.1≠b.1)){z:Str}(hz:zcp [.lst [pt a,pt b]]=some (.val (.str z))):zar ze5 zfm (lE ns k c s w [some (.own,.lst (sw cs)),x5,x6,some (.frz,pt a),some (.frz,pt b),x9,x10,x11,x12]) = .ok .nx (lE ns k c s w [some (.own,.lst (sw cs)),x5,x6,some (.frz,pt a),some (.frz,pt b),some (.own,.lst [.str "box",.str z]),x10,x11,x12]):=by
 have ln:=line
 have l2:2<=sizeLine:=by omega
 have q1:=zdj a.2 b.2
 have q2:=zdj a.1 b.1
 by_cases h1:a.2=b.2
 · rw[decide_eq_true h1] at q1
   generalize sw cs=T at *
   simp[ze5,zfm,l2,hz,zeb,ze8,q1]
 · have h2:a.1=b.1:=Classical.byContradiction fun z=>h ⟨h1,z⟩
   rw[decide_eq_false h1] at q1
   rw[decide_eq_true h2] at q2
   generalize sw cs=T at *
   simp[ze5,zfm,l2,hz,zeb,ze8,q1,q2]
theorem zmd(G:Gc w cs)(ha:SmP a)(hb:SmP b)(h1:a.2≠b.2)(h2:a.1≠b.1){z:Str}(hz:zcp [.lst [pt a,pt b]]=some (.val (.str z))):zar ze5 zfm (lE ns k c s w [some (.own,.lst (sw cs)),x5,x6,some (.frz,pt a),some (.frz,pt b),x9,x10,x11,x12]) = .ok .nx (lE ns k c s w [some (.own,.lst (sw cs)),x5,x6,some (.frz,pt a),some (.frz,pt b),some (.own,.lst [.str "told",.lst (sw (third cs a b))]),x10,x11,x12]):=by
 have ln:=line
 have l2:2<=sizeLine:=by omega
 have q1:=zdj a.2 b.2
 have q2:=zdj a.1 b.1
 rw[decide_eq_false h1] at q1
 rw[decide_eq_false h2] at q2
 have e1:=zkb (cs:=cs) (by have:=G.len;omega) a b
 have im:zcQ (.new (.lst (sw (third cs a b))))=true:=zfh _
 generalize sw (third cs a b)=S at *
 generalize sw cs=T at *
 simp[ze5,zfm,l2,hz,zeb,ze8,q1,q2,e1,im]
theorem zqX:zcc (.str "box") (.str "told")=some (.val (.bl false)):=by
 show some (RV.val (.bl (("box" : Str) == "told")))=_
 rw[show(("box" : Str) == "told")=false by decide +kernel]
theorem zpy(G:Gc w cs)(ha:SmP a)(hb:SmP b)(h : ¬ (a.2≠b.2/\a.1≠b.1)){z:Str}(hz:zcp [.lst [pt a,pt b]]=some (.val (.str z)))(ok:zbP (.lst [.str "box",.str z])=true):zf2 (lE ns k c s w [some (.own,.lst (sw cs)),some (.frz,pO (sw cs)),x6,some (.frz,pt a),some (.frz,pt b),some (.own,.lst [.str "box",.str z]),x10,x11,x12]) = .ok .nx (lE ns k c s w [some (.own,.lst (sw cs)),some (.frz,pO (sw cs)),x6,some (.frz,pt a),some (.frz,pt b),some (.own,.lst [.str "box",.str z]),some (.own,.lst [.str "box",.str z]),x11,x12]):=by
 have hb0:(!decide (a.2=b.2) && !decide (a.1=b.1))=false:=by
  rw[Bool.eq_false_iff]
  intro y
  simp at y
  exact h y
 have e0:=zmL ha hb
 rw[hb0] at e0
 have e1:=zi2 (x:=pO (sw cs)) e0 hz
 have q:=zcg ok
 have q2:=zqX
 generalize sw cs=T at *
 simp[zf2,e1,q,q2,zeb]
theorem zn2(G:Gc w cs)(ha:SmP a)(hb:SmP b)(h1:a.2≠b.2)(h2:a.1≠b.1):zf2 (lE ns k c s w [some (.own,.lst (sw cs)),some (.frz,pO (sw cs)),x6,some (.frz,pt a),some (.frz,pt b),some (.own,.lst [.str "told",.lst (sw (third cs a b))]),x10,x11,x12]) = .ok .nx (lE ns k c s w [some (.own,.lst (sw cs)),some (.frz,pO (sw cs)),x6,some (.frz,pt a),some (.frz,pt b),some (.own,.lst [.str "told",.lst (sw (third cs a b))]),none,x11,x12]):=by
 have ln:=line
 have gl:=G.len
 have e1:=zi7 (cs:=cs) (by omega) ha hb h1 h2
 have e2:=zi7 (cs:=cs) (by omega) hb ha (Ne.symm h1) (Ne.symm h2)
 rw[zic] at e2
 have ok:=zor (third cs a b)
 have q:=zcg ok
 have q':=zj9 ok
 have q2:zcc (.str "told") (.str "told")=some (.val (.bl true)):=zfb (by decide +kernel)
 have im:=zfh (third cs a b)
 have tl:(sw (third cs a b)).length<sizeLine:=by
  rw[zdr]
  have:(third cs a b).length<=cs.length:=List.length_filter_le ..
  omega
 have ap:zdG (sw (third cs a b)) [.non]=some (sw (third cs a b)++[.non],.non):=if_pos tl
 generalize sw (third cs a b)=S at *
 generalize sw cs=T at *
 simp[zf2,e1,e2,q,q',q2,zeb,ap,zp9 im]
end
theorem zqO{x:Int}(h:0<=x/\x<4):∃ w,L2.atI [D.int 2,.int 4,.int 8,.int 31] x=some (.int w)/\0<w/\w<=31:=by
 have:x=0\/x=1\/x=2\/x=3:=by omega
 rcases this with rfl | rfl | rfl | rfl
 · exact⟨2,rfl,by decide,by decide⟩
 · exact⟨4,rfl,by decide,by decide⟩
 · exact⟨8,rfl,by decide,by decide⟩
 · exact⟨31,rfl,by decide,by decide⟩
theorem zq3{x:Int}(h:0<=x/\x<12):∃ d∈oddL,L2.atI oddL x=some d:=by
 obtain⟨j,rfl⟩:∃ j:Nat,x=j:=⟨x.toNat,by omega⟩
 have hj:j<oddL.length:=by show j<12;omega
 exact⟨oddL[j],List.getElem_mem hj,L2.atI_nat (List.getElem?_eq_getElem hj)⟩
theorem znp{ns:List Int}{k:Nat}(hk:k<100){x2 x3 x4 x5 x6 x7 x8 x9 x10 x11 x12:Sl}:∃ (c s w:Int) (cs:List C),
 zar s1 (zar s2 (zar s3 s4)) [some (.frz,.scr ns),some (.frz,.int k),x2,x3,x4,x5,x6,x7,x8,x9,x10,x11,x12] = .ok .nx (lE ns k c s w [some (.own,.lst (sw cs)),some (.frz,pO (sw cs)),x6,x7,x8,x9,x10,x11,x12])/\Sd s/\Gc w cs:=by
 have ln:=line
 have l4:4<=sizeLine:=by omega
 obtain⟨c,s,hp,hs⟩:=zny ns k hk
 obtain⟨x,c1,s1',hx,hx1,hs1⟩:=zdb (c:=c) (m:=4) hs (by omega) (by omega)
 obtain⟨w,hw,w1,w2⟩:=zqO hx1
 obtain⟨z,c4,s4',hz,hz1,hs4⟩:=zdb (c:=c1) (m:=41) hs1 (by omega) (by omega)
 obtain⟨m,rfl⟩:∃ m:Nat,z=m:=⟨z.toNat,by omega⟩
 obtain⟨cs,c5,s5',hl,hs5,ml,mb⟩:=zhF (w:=w) w1 w2 (x0:=some (.frz,.scr ns)) (x1:=some (.frz,.int k)) (xs:=[x4,x5,x6,x7,x8,x9,x10,x11,x12]) (upI 0 m) c4 s4' hs4
 rw[zlm] at ml
 have sm:small (m:Int)=true:=zgj (by omega)
 have e0:(upI 0 m).length<sizeLine:=by rw[zlm];omega
 have smc:∀ c∈cs,SmP c:=fun c hc=>(mb c hc).sm w2
 have e1:=zko smc (by omega)
 have im:zcQ (.new (.lst (sw (za5 cs))))=true:=zfh _
 have sl:=zfc cs
 have e2:=zks (cs:=za5 cs) (fun c hc=>smc c (srtP_mem.mp hc)) (by omega)
 rw[zkD smc] at e2
 have f1:s1 [some (.frz,.scr ns),some (.frz,.int k),x2,x3,x4,x5,x6,x7,x8,x9,x10,x11,x12] = .ok .nx [some (.frz,.scr ns),some (.frz,.int k),some (.own,.lst (pl c s)),x3,x4,x5,x6,x7,x8,x9,x10,x11,x12]:=by simp[s1,hp]
 have f2:s2 [some (.frz,.scr ns),some (.frz,.int k),some (.own,.lst (pl c s)),x3,x4,x5,x6,x7,x8,x9,x10,x11,x12] = .ok .nx (lE ns k c1 s1' w [x4,x5,x6,x7,x8,x9,x10,x11,x12]):=by simp[s2,hx,hw,l4]
 have f3:s3 (lE ns k c1 s1' w [x4,x5,x6,x7,x8,x9,x10,x11,x12]) = .ok .nx (lE ns k c5 s5' w [some (.own,.lst (sw (za5 cs))),x5,x6,x7,x8,x9,x10,x11,x12]):=by
  generalize sw (za5 cs)=S at *
  generalize sw cs=T at *
  simp[s3,hz,sm,e0,hl,e1,im]
 have f4:s4 (lE ns k c5 s5' w [some (.own,.lst (sw (za5 cs))),x5,x6,x7,x8,x9,x10,x11,x12]) = .ok .nx (lE ns k c5 s5' w [some (.own,.lst (sw (za5 cs))),some (.frz,pO (sw (za5 cs))),x6,x7,x8,x9,x10,x11,x12]):=by
  generalize sw (za5 cs)=S at *
  simp[s4,e2]
 exact⟨c5,s5',w,za5 cs,zbD f1 (zbD f2 (zbD f3 f4)),hs5,w1,w2,by omega,fun c hc=>mb c (srtP_mem.mp hc)⟩
theorem sq3(a b c d e f:M Fl)(Γ:En):zar a (zar b (zar c (zar d (zar e f)))) Γ=zar a (zar b (zar c (zar (zar d e) f))) Γ:=by
 have sa:∀ Γ,zar d (zar e f) Γ=zar (zar d e) f Γ:=fun Γ=>by
  simp only[zk9]
  cases d Γ with
  |ok fl Γ'=>cases fl<;>rfl
  |ex x Γ'=>rfl
  |st=>rfl
 rw[show zar d (zar e f)=zar (zar d e) f from funext sa]
section
variable{ns:List Int}{k c s w:Int}{cs:List C}{x6 x7 x8 x9 x10 x11 x12:Sl}
theorem zon(G:Gc w cs)(hs:Sd s){t:Nat}:∃ (c' s':Int) (y7 y8 y9 y10:Sl),bs5 (lE ns k c s w [some (.own,.lst (sw cs)),some (.frz,pO (sw cs)),some (.frz,.int t),x7,x8,x9,x10,x11,x12]) = .ok .nx (lE ns k c' s' w [some (.own,.lst (sw cs)),some (.frz,pO (sw cs)),some (.frz,.int t),y7,y8,y9,y10,x11,x12])/\Sd s':=by
 obtain⟨a0,c1,s1',e1,ga0,hs1⟩:=zrC (ns:=ns) (k:=k) (c:=c) (x5:=some (.frz,pO (sw cs))) (x6:=some (.frz,.int t)) (x7:=x7) (x8:=x8) (x9:=x9) (x10:=x10) (x11:=x11) (x12:=x12) G hs
 obtain⟨b,c2,s2',e2,gb,hs2⟩:=zqu (ns:=ns) (k:=k) (c:=c1) (x5:=some (.frz,pO (sw cs))) (x6:=some (.frz,.int t)) (x7:=some (.frz,pt a0)) (x8:=x8) (x9:=x9) (x10:=x10) (x11:=x11) (x12:=x12) G hs1
 obtain⟨a,c3,s3',e3,ga,hs3⟩:=zqF (ns:=ns) (k:=k) (c:=c2) (t:=t) (x5:=some (.frz,pO (sw cs))) (x8:=some (.frz,pt b)) (x9:=x9) (x10:=x10) (x11:=x11) (x12:=x12) G hs2 ga0
 have ha:=ga.sm G.w2
 have hb:=gb.sm G.w2
 obtain⟨z,hz,ok⟩:=(Tx.pt ha).two (Tx.pt hb)
 have un:∀ Γ,bs5 Γ=zar zjc (zar zjy (zar zfZ (zar (zar ze5 zfm) zf2))) Γ:=fun Γ=>sq3 ..
 by_cases h:a.2≠b.2/\a.1≠b.1
 · exact⟨c3,s3',_,_,_,_,(un _).trans (zbD e1 (zbD e2 (zbD e3 (zbD (zmd G ha hb h.1 h.2 hz) (zn2 G ha hb h.1 h.2))))),hs3⟩
 · exact⟨c3,s3',_,_,_,_,(un _).trans (zbD e1 (zbD e2 (zbD e3 (zbD (znr ha hb h hz) (zpy G ha hb h hz ok))))),hs3⟩
theorem zrD(G:Gc w cs)(hs:Sd s):∃ (c' s':Int) (y6 y7 y8 y9 y10:Sl),s5 (lE ns k c s w [some (.own,.lst (sw cs)),some (.frz,pO (sw cs)),x6,x7,x8,x9,x10,x11,x12]) = .ok .nx (lE ns k c' s' w [some (.own,.lst (sw cs)),some (.frz,pO (sw cs)),y6,y7,y8,y9,y10,x11,x12])/\Sd s':=by
 have sm:small 16=true:=zgj (by decide)
 obtain⟨Γ',hl,c',s',y6,y7,y8,y9,y10,hs',rfl⟩:=zhf (m:=gN 6) (s:=bs5)
  (fun _ Γ=>∃ (c' s':Int) (y6 y7 y8 y9 y10:Sl),Sd s'/\Γ=lE ns k c' s' w [some (.own,.lst (sw cs)),some (.frz,pO (sw cs)),y6,y7,y8,y9,y10,x11,x12])
  (ds:=upI 0 16) (Γ:=lE ns k c s w [some (.own,.lst (sw cs)),some (.frz,pO (sw cs)),x6,x7,x8,x9,x10,x11,x12]) ⟨c,s,x6,x7,x8,x9,x10,hs,rfl⟩ (by
   rintro i d Γ hd ⟨c,s,y6,y7,y8,y9,y10,hs,rfl⟩
   obtain⟨rfl,_⟩:=zov hd
   rw[Int.zero_add]
   obtain⟨c',s',z7,z8,z9,z10,e,hs'⟩:=zon (ns:=ns) (k:=k) (c:=c) (x7:=y7) (x8:=y8) (x9:=y9) (x10:=y10) (x11:=x11) (x12:=x12) (t:=i) G hs
   exact⟨_,_,rfl,.inl e,c',s',some (.frz,.int i),z7,z8,z9,z10,hs',rfl⟩)
 refine⟨c',s',y6,y7,y8,y9,y10,?_,hs'⟩
 generalize sw cs=T at *
 simp[s5,sm,hl]
theorem zq4{x4 x5:Sl}(hs:Sd s):∃ (c' s':Int) (d:D),s6 (lE ns k c s w [x4,x5,x6,x7,x8,x9,x10,x11,x12]) = .ok .nx (lE ns k c' s' w [x4,x5,x6,x7,x8,x9,x10,some (.frz,d),x12])/\Sd s'/\d∈oddL:=by
 have ln:=line
 have l0:0<=sizeLine:=Nat.zero_le _
 have l1:1<=sizeLine:=by omega
 have l2:2<=sizeLine:=by omega
 have l12:12<=sizeLine:=by omega
 obtain⟨x,c1,s1',hx,hx1,hs1⟩:=zdb (c:=c) (m:=12) hs (by omega) (by omega)
 obtain⟨d,hd,e⟩:=zq3 hx1
 refine⟨c1,s1',d,?_,hs1,hd⟩
 unfold oddL at e
 simp[s6,hx,l0,l1,l2,l12,e]
theorem zij{x4 x11 d e m:D}(h:zay [d,e]=some (.val (.bl false))){z:Str}(hz:zcp [.lst [d,e]]=some (.val (.str z)))(ok:zbP (.lst [.str "box",.str z])=true):bs7 (lE ns k c s w [some (.own,x4),some (.frz,m),x6,x7,x8,x9,x10,some (.frz,x11),some (.frz,.tup [d,e])]) = .ok .nx (lE ns k c s w [some (.own,x4),some (.frz,m),x6,x7,x8,x9,x10,some (.frz,x11),some (.frz,.tup [d,e])]):=by
 have ln:=line
 have l2:2<=sizeLine:=by omega
 have e1:=zi2 (x:=m) h hz
 have q:=zcg ok
 have li:zeW [.tup [d,e]]=some (.new (.lst [d,e])):=rfl
 simp[bs7,zqP,e1,hz,q,zeb,ze8,l2,li]
theorem zqB{d m:D}(hd:d∈oddL):∃ y12,s7 (lE ns k c s w [some (.own,.lst (sw cs)),some (.frz,m),x6,x7,x8,x9,x10,some (.frz,d),x12]) = .ok .nx (lE ns k c s w [some (.own,.lst (sw cs)),some (.frz,m),x6,x7,x8,x9,x10,some (.frz,d),y12]):=by
 have ln:=line
 have l2:2<=sizeLine:=by omega
 have l3:3<=sizeLine:=by omega
 have t5:=Tx.pt zrg
 have td:=zoZ d hd
 have n5:=zeH zrg
 have nd:=zpD d hd
 obtain⟨z1,h1,o1⟩:=td.two t5
 obtain⟨z2,h2,o2⟩:=t5.two td
 obtain⟨z3,h3,o3⟩:=td.two td
 have g1:=zij (ns:=ns) (k:=k) (c:=c) (s:=s) (w:=w) (x4:=.lst (sw cs)) (m:=m) (x6:=x6) (x7:=x7) (x8:=x8) (x9:=x9) (x10:=x10) (x11:=d) (zou (e:=pt (5,5)) nd) h1 o1
 have g2:=zij (ns:=ns) (k:=k) (c:=c) (s:=s) (w:=w) (x4:=.lst (sw cs)) (m:=m) (x6:=x6) (x7:=x7) (x8:=x8) (x9:=x9) (x10:=x10) (x11:=d) (zrr n5 nd) h2 o2
 have g3:=zij (ns:=ns) (k:=k) (c:=c) (s:=s) (w:=w) (x4:=.lst (sw cs)) (m:=m) (x6:=x6) (x7:=x7) (x8:=x8) (x9:=x9) (x10:=x10) (x11:=d) (zou (e:=d) nd) h3 o3
 refine⟨some (.frz,.tup [d,d]),?_⟩
 generalize sw cs=T at *
 simp[s7,l2,l3,zgu,g1,g2,g3]
theorem zrt:s8 (lE ns k c s w [some (.own,.lst (sw cs)),some (.frz,pO (sw cs)),x6,x7,x8,x9,x10,x11,x12]) = .ok .nx (lE ns k c s w [some (.own,.lst (sw cs)),some (.frz,pO (sw cs)),x6,x7,x8,x9,x10,x11,x12]):=by
 have e:=zmq (sw cs)
 have q:=zcg (zoy cs)
 generalize sw cs=T at *
 simp[s8,e,q,zoD]
end
theorem zop{ns:List Int}{k:Nat}(hk:k<100){x2 x3 x4 x5 x6 x7 x8 x9 x10 x11 x12:Sl}:∃ y2 y3 y4 y5 y6 y7 y8 y9 y10 y11 y12,zm9 [some (.frz,.scr ns),some (.frz,.int k),x2,x3,x4,x5,x6,x7,x8,x9,x10,x11,x12] = .ok .nx [some (.frz,.scr ns),some (.frz,.int k),y2,y3,y4,y5,y6,y7,y8,y9,y10,y11,y12]:=by
 obtain⟨c,s,w,cs,e1,hs,G⟩:=znp (ns:=ns) (k:=k) hk (x2:=x2) (x3:=x3) (x4:=x4) (x5:=x5) (x6:=x6) (x7:=x7) (x8:=x8) (x9:=x9) (x10:=x10) (x11:=x11) (x12:=x12)
 obtain⟨c1,s1',y6,y7,y8,y9,y10,e5,hs1⟩:=zrD (ns:=ns) (k:=k) (c:=c) (x6:=x6) (x7:=x7) (x8:=x8) (x9:=x9) (x10:=x10) (x11:=x11) (x12:=x12) G hs
 obtain⟨c2,s2',d,e6,hs2,hd⟩:=zq4 (ns:=ns) (k:=k) (c:=c1) (w:=w) (x4:=some (.own,.lst (sw cs))) (x5:=some (.frz,pO (sw cs))) (x6:=y6) (x7:=y7) (x8:=y8) (x9:=y9) (x10:=y10) (x11:=x11) (x12:=x12) hs1
 obtain⟨y12,e7⟩:=zqB (ns:=ns) (k:=k) (c:=c2) (s:=s2') (w:=w) (cs:=cs) (m:=pO (sw cs)) (x6:=y6) (x7:=y7) (x8:=y8) (x9:=y9) (x10:=y10) (x12:=x12) hd
 have e8:=zrt (ns:=ns) (k:=k) (c:=c2) (s:=s2') (w:=w) (cs:=cs) (x6:=y6) (x7:=y7) (x8:=y8) (x9:=y9) (x10:=y10) (x11:=some (.frz,d)) (x12:=y12)
 have as:∀ Γ,zm9 Γ=zar (zar s1 (zar s2 (zar s3 s4))) (zar s5 (zar s6 (zar s7 s8))) Γ:=fun Γ=>by
  have sb:∀ (a b c:M Fl),zar a (zar b c)=zar (zar a b) c:=fun a b c=>funext fun Γ=>by
   simp only[zk9]
   cases a Γ with
   |ok fl Γ'=>cases fl<;>rfl
   |ex x Γ'=>rfl
   |st=>rfl
  show zar s1 (zar s2 (zar s3 (zar s4 (zar s5 (zar s6 (zar s7 s8)))))) Γ=_
  rw[sb s3 s4,sb s2,sb s1]
 exact⟨_,_,_,_,_,_,_,_,_,_,_,(as _).trans (zbD e1 (zbD e5 (zbD e6 (zbD e7 e8))))⟩
end K06
namespace Hd
open PySem PySem.W PyProof.Rows
def zmY(tb:String->Option Builtin)(p:Program)(w:World)(m:Nat)(an:Option Value):Nat->SharedT->Thread->Option SharedT
 | 0,_,_=>none
 |k+1,x,y=>match through y with
   |true=>some x
   |false=>match stepOk m an y with
     |false=>none
     |true=>match stepT (denote tb) p w x y with
       |some (x',y')=>zmY tb p w m an k x' y'
       |none=>none
theorem zjl{tb:String->Option Builtin}{p:Program}{w:World}{m:Nat}{an:Option Value}:∀ {k:Nat} {x r:SharedT} {y:Thread},zmY tb p w m an k x y=some r->topRun tb p w m an k x.abs y=some r.abs
 | 0,_,_,_,h=>by cases h
 |k+1,x,r,y,h=>by
   unfold zmY at h
   unfold topRun
   cases c1:through y with
   |true=>rw[c1] at h;cases h;rfl
   |false =>
     rw[c1] at h
     cases c2:stepOk m an y with
     |false=>rw[c2] at h;cases h
     |true =>
       rw[c2] at h
       cases c3:stepT (denote tb) p w x y with
       |none=>rw[c3] at h;cases h
       |some z=>obtain⟨x2,y2⟩:=z;rw[c3] at h;rw[stepT_spec c3];exact zjl h
def zmV(tb:String->Option Builtin)(p:Program)(w:World)(m:Nat)(an:Option Value):Nat->SharedT->Thread->Option SharedT
 | 0,_,_=>none
 |k+1,x,y=>match through y with
   |true=>some x
   |false=>match Fast.tw6613529449190102663 m an y with
     |false=>none
     |true=>match Fast.tw10156331382660048174 (Fast.tw11892475500146522536 tb) p w x y with
       |some (x',y')=>zmV tb p w m an k x' y'
       |none=>none
theorem ziT{tb:String->Option Builtin}{p:Program}{w:World}{m:Nat}{an:Option Value}:∀ (k:Nat) (x:SharedT) (y:Thread),zmY tb p w m an k x y=zmV tb p w m an k x y
 | 0,_,_=>rfl
 |k+1,x,y=>by
   unfold zmY zmV
   rw[<- Fast.te6613529449190102663, <- Fast.te10156331382660048174, <- Fast.te11892475500146522536]
   split
   · rfl
   · split
     · rfl
     · split
       · exact ziT k _ _
       · rfl
def zlg(P:Params)(os:OsState):SharedT :=
 ⟨(.node (boot_o_0 P) (.node (boot_o_1 P) (.node (boot_o_3 P) (.node (boot_o_7 P) .nil .nil) .nil) (.node (boot_o_5 P) (.node (boot_o_9 P) .nil .nil) .nil)) (.node (boot_o_2 P) (.node (boot_o_4 P) (.node (boot_o_8 P) .nil .nil) .nil) (.node (boot_o_6 P) (.node (boot_o_10 P) .nil .nil) .nil))),11,(boot_heap P).life,Array.mk [],boot_drawn,boot_toks,os⟩
theorem zkf(P:Params)(os:OsState):(zlg P os).abs=⟨boot_heap P,Array.mk [],boot_drawn,boot_toks,os⟩:=by kernel_rfl
theorem znd{p r:Program}{keep:List Nat}{R:WRecords}{K:Params->Frag}{as:List Addr}{N:Nat}(ep:p=r)(e0:opening p=plainProg p.main.scope.names)(hN:Nat.ble 600 N=true)(f:∀ s,fenceModules? p s=some s)
 (run:∀ (w:World) (os:OsState),(zmV Fast.tw14364793385576792824 r w 11 (some (.ref 6)) N (zlg w.params os) (topStub r)).map (fun s=>((staticsOk (importedModules r.main.body) (boot_heap w.params) s.abs.heap && namesBound r s.abs.heap && gensDone s.abs && laidKept (boot_heap w.params) s.abs.heap),
  Fast.tw4187177175401517315 (view r keep) [] (importedModules r.main.body) (fun s=>xlAt (view r keep) [] s && recOk R s) true s.abs,as.map s.abs.heap.get?))=some (true,openGood (view r keep) [],(K w.params).map fun x=>some x.2)) :
 LeftO p (view p keep) [] (fun s=>xlAt (view p keep) [] s && recOk R s) (fun s=>as.map s.heap.get?) (fun w=>(K w.params).map fun x=>some x.2) N:=by
 subst ep
 intro w
 obtain⟨⟨h,gs,d,k,os⟩,e,e'⟩:=Option.map_eq_some_iff.mp (boot_open e0 hN f w)
 obtain⟨rfl,rfl,rfl,rfl⟩:h=boot_heap w.params/\gs=Array.mk []/\d=boot_drawn/\k=boot_toks:=by simpa using e'
 obtain⟨s,h1,h2⟩:=Option.map_eq_some_iff.mp (run w os)
 rw[<- Fast.te14364793385576792824, <- ziT] at h1
 have h1:=zjl h1
 rw[zkf] at h1
 rw[<- Fast.te4187177175401517315] at h2
 obtain⟨l1,l2,l3⟩:_/\_/\_:=by simpa only [Prod.mk.injEq] using h2
 have z:((boot_heap w.params).isNs mainGlobals && (Array.mk []:Array GenState).size == 0,(boot_heap w.params).objs.size,(boot_heap w.params).nsMap mainGlobals "__annotations__")=(true,11,some (.ref 6)):=by kernel_rfl
 obtain⟨z1,z2,z3⟩:_/\_/\_:=by simpa only [Prod.mk.injEq] using z
 have t:topFrom treeTable p w N ⟨boot_heap w.params,Array.mk [],boot_drawn,boot_toks,os⟩=some s.abs:=by
  unfold topFrom
  dsimp only
  rw[z1,z2,z3,h1]
  show(match staticsOk (importedModules p.main.body) (boot_heap w.params) s.abs.heap && namesBound p s.abs.heap && gensDone s.abs && laidKept (boot_heap w.params) s.abs.heap with | true=>_ | false=>_)=_
  rw[l1]
 unfold openEnds
 rw[e]
 show((topFrom treeTable p w N _).map _)=_
 rw[t]
 exact congrArg some (Prod.ext l2 (by exact l3))
abbrev vS(s:Str)(t:Tok):Value:=.str s t
abbrev vI(i:Int)(t:Tok):Value:=.int i t
abbrev de(s:Str)(t:Tok)(v:Value):Str×Tok×Value:=(s,t,v)
abbrev dO(P:Params)(l:List (Str×Tok×Value))(n:Nat):Obj:={ cls:=.type "dict",data:=.dict (l.map fun x=>⟨PyData.keyHash P x.1,.str x.1 x.2.1,x.2.2⟩).toArray n }
abbrev dN(P:Params)(l:List (Str×Tok×Value))(n:Nat):Obj:={ cls:=.none,data:=.dict (l.map fun x=>⟨PyData.keyHash P x.1,.str x.1 x.2.1,x.2.2⟩).toArray n }
abbrev fO(x q:Str)(st:Stmt)(dV pm:Value)(cd:Addr):Obj:={ cls:=.type "function",data:=.func (fnOf x q (L2.defArgs st) (L2.defBody st) (L2.defScope st) dV .none .none pm none (.ref cd) .none) }
abbrev kO(x q:Str)(t:Tok)(a b:Int)(l:List Value):Obj:={ cls:=.type "code",data:=.fields (.str x t :: .str q (t+1) :: .str "/claim/cut.py" (t+2) :: .int a 0 :: .int b 0::l).toArray }
abbrev cO(x:Str)(bs mr:List Value)(ns:Addr)(sb:List Value)(sl:Array (Option Value)):Obj:={ cls:=.type "type",data:=.cls { name:=x,bases:=bs,mro:=mr,ns:=ns,qualname:=x,subclasses:=sb },slots:=sl }
end Hd
namespace K06
open PySem L2 Ex Dv
variable[KC]
def top(i:Nat):Stmt:=PySem.Challenge.pw_thirdpoint_k06_thirds_told.main.body.getD i (.Pass ⟨0,0,0,0⟩)
structure Nm(mg:Str->Option Value):Prop where
 b_bool:mg "bool" = none
 b_enumerate:mg "enumerate" = none
 b_int:mg "int" = none
 b_isinstance:mg "isinstance" = none
 b_len:mg "len" = none
 b_list:mg "list" = none
 b_max:mg "max" = none
 b_min:mg "min" = none
 b_range:mg "range" = none
 b_repr:mg "repr" = none
 b_set:mg "set" = none
 b_sorted:mg "sorted" = none
 b_tuple:mg "tuple" = none
 c_LAST_KEY:∃ t,mg "LAST_KEY" = some (.int 30 t)
 c_MOST_POINTS:∃ t,mg "MOST_POINTS" = some (.int 200 t)
 n_NoAsks:mg "NoAsks" = some (.ref (KC.cls .NoAsks))
 n_NoBack:mg "NoBack" = some (.ref (KC.cls .NoBack))
 n_NoBox:mg "NoBox" = some (.ref (KC.cls .NoBox))
 n_NoKey:mg "NoKey" = some (.ref (KC.cls .NoKey))
 n_NoName:mg "NoName" = some (.ref (KC.cls .NoName))
 n_NoPoint:mg "NoPoint" = some (.ref (KC.cls .NoPoint))
 n_NoPoints:mg "NoPoints" = some (.ref (KC.cls .NoPoints))
 n_NoRow:mg "NoRow" = some (.ref (KC.cls .NoRow))
 n_NoRun:mg "NoRun" = some (.ref (KC.cls .NoRun))
 n_NoText:mg "NoText" = some (.ref (KC.cls .NoText))
 n_NoTop:mg "NoTop" = some (.ref (KC.cls .NoTop))
 n_NoTree:mg "NoTree" = some (.ref (KC.cls .NoTree))
 n_NoTurn:mg "NoTurn" = some (.ref (KC.cls .NoTurn))
 n_NotServed:mg "NotServed" = some (.ref (KC.cls .NotServed))
 n_PointError:mg "PointError" = some (.ref (KC.cls .PointError))
 n_Points:mg "Points" = some (.ref (KC.cls .Points))
 n_TooMany:mg "TooMany" = some (.ref (KC.cls .TooMany))
 i_NoBox:∀ (P:Program) (w:World) (base:Heap),Ini P w mg base .NoBox ["self","one","other"] (zqj (KC.cls .NoBox) "one" "other")
 k_NoAsks:KitX exL .NoAsks
 k_NoBack:KitX exL .NoBack
 k_NoBox:KitX exL .NoBox
 k_NoKey:KitX exL .NoKey
 k_NoName:KitX exL .NoName
 k_NoPoint:KitX exL .NoPoint
 k_NoPoints:KitX exL .NoPoints
 k_NoRow:KitX exL .NoRow
 k_NoRun:KitX exL .NoRun
 k_NoText:KitX exL .NoText
 k_NoTop:KitX exL .NoTop
 k_NoTree:KitX exL .NoTree
 k_NoTurn:KitX exL .NoTurn
 k_NotServed:KitX exL .NotServed
 k_PointError:KitX exL .PointError
 k_TooMany:KitX exL .TooMany
 t_PointError_NoPoint_TooMany:∀ C,zaQ C=true->matchIn KC.K (KC.cls C) [.ref (KC.cls .PointError),.ref (KC.cls .NoPoint),.ref (KC.cls .TooMany)]=some true
 a_one:∀ C,exL.contains C=true->XC KC.K (KC.cls C)/\NoAttr KC.K (KC.cls C) "one"
 a_other:∀ C,exL.contains C=true->XC KC.K (KC.cls C)/\NoAttr KC.K (KC.cls C) "other"
 sysm:zo4 KC.K
 cl_Points:Cls KC.K (KC.cls .Points)
 na_held:NoAttr KC.K (KC.cls .Points) "held"
abbrev zbC:Stmt:=top 24
abbrev zc0:Stmt:=top 21
abbrev zcf:Stmt:=top 22
abbrev za8:Stmt:=top 23
abbrev zbM:Stmt:=(L2.inClass (top 25) 0)
abbrev zaZ:Stmt:=(L2.inClass (top 25) 1)
abbrev zbW:Stmt:=top 33
abbrev zbG:Stmt:=top 34
abbrev zbp:Stmt:=top 31
abbrev zbY:Stmt:=top 32
abbrev za2:Stmt:=top 35
abbrev zbz:Stmt:=top 36
abbrev zbl:Stmt:=top 37
abbrev zbT:Stmt:=top 39
abbrev zcj:Stmt:=top 27
abbrev zcX:Stmt:=top 28
abbrev zcx:Stmt:=top 29
abbrev zbU:Stmt:=top 40
abbrev zeo:Stmt:=top 41
def stV:Stmt->Expr
 | .Assign _ e _=>e
 | .Return (some e) _=>e
 | _=>.Constant .none 0 ⟨0,0,0,0⟩
abbrev zeT:Stmt:=(defBody zbM).getD 0 (.Pass ⟨0,0,0,0⟩)
abbrev zfs:Stmt:=(defBody zbM).getD 1 (.Pass ⟨0,0,0,0⟩)
abbrev zhq:Expr:=stV ((defBody zbM).getD 2 (.Pass ⟨0,0,0,0⟩))
section
variable{P:Program}{w:World}{mg:Str->Option Value}{base:Heap}{fa:Addr}{cdv:Value}{A:Around}{outer:List Env}{s:Shared}{H:Hp}{E:XK}{k:Nat}{ios:List Addr}
abbrev Rom(k:Nat)(A:Around)(s:Shared)(fa:Addr)(cdv:Value)(q:Str)(st:Stmt):Prop:=Room k (A.deeper (PyProof.Rows.envOfC q (defScope st) s.heap.objs.size fa cdv))
abbrev cxP(P:Program)(w:World)(mg:Str->Option Value)(base:Heap)(fa:Addr)(cdv:Value)(A:Around)(outer:List Env)(s:Shared)(H:Hp)(E:XK)(N:List Str)(q:Str)(st:Stmt):Cx:=(zcG CX0 P w KC.K mg base N q (defScope st) fa cdv A outer s H E).nox
abbrev cxX(P:Program)(w:World)(mg:Str->Option Value)(base:Heap)(fa:Addr)(cdv:Value)(A:Around)(outer:List Env)(s:Shared)(H:Hp)(E:XK)(N:List Str)(q:Str)(st:Stmt):Cx:=zcG (CXe P w) P w KC.K mg base N q (defScope st) fa cdv A outer s H E
abbrev zkX(P:Program)(w:World)(mg:Str->Option Value)(base:Heap)(k_Points:Nat)(zba:List D->Option Rx):Prop:=zom P w mg base "Points" k_Points ["points"] [.non] .Points "held" zba
abbrev zcV(P:Program)(w:World)(mg:Str->Option Value)(base:Heap)(k_Points_points:Nat)(zai:List D->Option Rt):Prop:=zoe P w mg base .Points "points" k_Points_points ["self"] (spP zai)
abbrev zff(P:Program)(w:World)(mg:Str->Option Value)(base:Heap)(k__law_cell_at:Nat)(zav:List D->Option Rt):Prop:=Cal P w mg base "_law_cell_at" k__law_cell_at ["_law_script","_law_k"] (spP zav)
abbrev zfE(P:Program)(w:World)(mg:Str->Option Value)(base:Heap)(k__law_inside:Nat)(zaB:List D->Option Rt):Prop:=Cal P w mg base "_law_inside" k__law_inside ["_law_one","_law_other","_law_point_here"] (spP zaB)
abbrev zhZ(P:Program)(w:World)(mg:Str->Option Value)(base:Heap)(k__law_kind:Nat)(zaJ:List D->Option Rt):Prop:=Cal P w mg base "_law_kind" k__law_kind ["_law_error"] (spP zaJ)
abbrev zgF(P:Program)(w:World)(mg:Str->Option Value)(base:Heap)(k__law_point:Nat)(zap:GI):Prop:=Cal P w mg base "_law_point" k__law_point ["_law_pool_here","_law_keys","_law_moments"] (spI zap)
abbrev zhn(P:Program)(w:World)(mg:Str->Option Value)(base:Heap)(k__law_pool:Nat)(zaD:List D->Option Rt):Prop:=Cal P w mg base "_law_pool" k__law_pool ["_law_script","_law_k"] (spP zaD)
abbrev zfN(P:Program)(w:World)(mg:Str->Option Value)(base:Heap)(k__law_sorted:Nat)(zaw:List D->Option Rt):Prop:=Cal P w mg base "_law_sorted" k__law_sorted ["_law_spots"] (spP zaw)
abbrev zep(P:Program)(w:World)(mg:Str->Option Value)(base:Heap)(k__law_take:Nat)(zaj:GI):Prop:=Cal P w mg base "_law_take" k__law_take ["_law_pool_here","_law_many"] (spI zaj)
abbrev zfK(P:Program)(w:World)(mg:Str->Option Value)(base:Heap)(k__law_thirds:Nat)(zax:List D->Option Rt):Prop:=Cal P w mg base "_law_thirds" k__law_thirds ["_law_spots","_law_one","_law_other"] (spP zax)
abbrev zhR(P:Program)(w:World)(mg:Str->Option Value)(base:Heap)(k__law_told:Nat)(zak:List D->Option Rt):Prop:=Cal P w mg base "_law_told" k__law_told ["_law_made","_law_one","_law_other"] (spD zak)
abbrev zik(P:Program)(w:World)(mg:Str->Option Value)(base:Heap)(k_have_box:Nat)(zay:List D->Option Rt):Prop:=Cal P w mg base "have_box" k_have_box ["one","other"] (spP zay)
abbrev zmx(P:Program)(w:World)(mg:Str->Option Value)(base:Heap)(k_in_box:Nat)(zbk:List D->Option Rt):Prop:=Cal P w mg base "in_box" k_in_box ["point","one","other"] (spP zbk)
abbrev ziQ(P:Program)(w:World)(mg:Str->Option Value)(base:Heap)(k_in_order:Nat)(zaA:List D->Option Rt):Prop:=Cal P w mg base "in_order" k_in_order ["points"] (spP zaA)
abbrev zmn(P:Program)(w:World)(mg:Str->Option Value)(base:Heap)(k_is_key:Nat)(zaS:List D->Option Rt):Prop:=Cal P w mg base "is_key" k_is_key ["thing"] (spP zaS)
abbrev zfp(P:Program)(w:World)(mg:Str->Option Value)(base:Heap)(k_is_point:Nat)(zam:List D->Option Rt):Prop:=Cal P w mg base "is_point" k_is_point ["thing"] (spP zam)
abbrev zd3(P:Program)(w:World)(mg:Str->Option Value)(base:Heap)(k_look_at_points:Nat)(zah:List D->Option Rt):Prop:=Cal P w mg base "look_at_points" k_look_at_points ["thing"] (spP zah)
abbrev zmk(P:Program)(w:World)(mg:Str->Option Value)(base:Heap)(k_thirds:Nat)(za9:List D->Option Rx):Prop:=zm2 P w mg base "thirds" k_thirds ["points","one","other"] (spX za9)
variable{zba:List D->Option Rx}{k_Points:Nat}{zai:List D->Option Rt}{k_Points_points:Nat}{zav:List D->Option Rt}{k__law_cell_at:Nat}{zaB:List D->Option Rt}{k__law_inside:Nat}{zaJ:List D->Option Rt}{k__law_kind:Nat}{zap:GI}{k__law_point:Nat}{zaD:List D->Option Rt}{k__law_pool:Nat}{zaw:List D->Option Rt}{k__law_sorted:Nat}{zaj:GI}{k__law_take:Nat}{zax:List D->Option Rt}{k__law_thirds:Nat}{zak:List D->Option Rt}{k__law_told:Nat}{zay:List D->Option Rt}{k_have_box:Nat}{zbk:List D->Option Rt}{k_in_box:Nat}{zaA:List D->Option Rt}{k_in_order:Nat}{zaS:List D->Option Rt}{k_is_key:Nat}{zam:List D->Option Rt}{k_is_point:Nat}{zah:List D->Option Rt}{k_look_at_points:Nat}{za9:List D->Option Rx}{k_thirds:Nat}
theorem zg7:FnScope ["points"] ["points"] (defScope zbC):=⟨rfl,rfl,rfl,by decide +kernel,rfl,by decide +kernel,by decide +kernel⟩
theorem zhA(M:Nm mg)  (hr:Rom k A s fa cdv "in_order" zbC) :
 VSs (cxP P w mg base fa cdv A outer s H E ["points"] "in_order" zbC) EN ios (defBody zbC) (zc8 ) :=
 (zas (zaU (zfR rfl (zdy (Nc:=["moment","key"]) (own:=2) (fr:=[]) (sc:=defScope zbC) (N:=["points"]) rfl rfl (by decide +kernel)) (by decide) (zcK (zoQ M.b_sorted rfl hr rfl (zdy (Nc:=["key","moment"]) (own:=2) (fr:=[]) (sc:=defScope zbC) (N:=["points"]) rfl rfl (by decide +kernel)) (by decide) (zcK (Zj (pv 0))) (zeE (zbV (by decide) (zbV (by decide) zeI))) (fun _ _ _ _ _ _=>(zel rfl (zbj (zaW (i:=0) (show(["key","moment"]:List Str).Nodup by decide +kernel) rfl (zat rfl)) (zbj (zaW (i:=1) (show(["key","moment"]:List Str).Nodup by decide +kernel) rfl (zat rfl)) zdc)))) (zdi (zbh (zaM (by decide)) (zbh (zaM (by decide)) zdd))) (zgn (zco (zbL (by decide)) (zco (zbL (by decide)) zgw))) (fun _ _ _ _ _ _=>zdL) (fun _ _ _ _ _ _=>(zbq (ZY (Zj (pv 1)) (ZY (Zj (pv 0)) zad)))))) (zeE (zbV (by decide) (zbV (by decide) zeI))) (fun _ _ _ _ _ _=>(zel rfl (zbj (zaW (i:=0) (show(["moment","key"]:List Str).Nodup by decide +kernel) rfl (zat rfl)) (zbj (zaW (i:=1) (show(["moment","key"]:List Str).Nodup by decide +kernel) rfl (zat rfl)) zdc)))) (zdi (zbh (zaM (by decide)) (zbh (zaM (by decide)) zdd))) (zgn (zco (zbL (by decide)) (zco (zbL (by decide)) zgw))) (fun _ _ _ _ _ _=>zdL) (fun _ _ _ _ _ _=>(zbq (ZY (Zj (pv 1)) (ZY (Zj (pv 0)) zad)))))))
theorem zkQ:FnScope ["thing"] ["thing"] (defScope zc0):=⟨rfl,rfl,rfl,by decide +kernel,rfl,by decide +kernel,by decide +kernel⟩
theorem zjY(M:Nm mg)  (hr:Rom k A s fa cdv "is_key" zc0) :
 VSs (cxP P w mg base fa cdv A outer s H E ["thing"] "is_key" zc0) EN ios (defBody zc0) (zcC ) :=
 (zas (zaU (zcs (zh0 (T:=.int) (fun _ ha=>zao zau rfl M.b_isinstance (by decide +kernel) (zag ha (zag (zdV (v:=.ty "int") (u:=.type "int") rfl M.b_int (by decide +kernel) rfl) zaK))) (Zj (pv 0))) (zcs (zo9 (zh0 (T:=.bool) (fun _ ha=>zao zau rfl M.b_isinstance (by decide +kernel) (zag ha (zag (zdV (v:=.ty "bool") (u:=.type "bool") rfl M.b_bool (by decide +kernel) rfl) zaK))) (Zj (pv 0)))) (zdx (zci zcq zcq zbH zbH zae (Zj (pv 0)) (zjA M.c_LAST_KEY rfl)))))))
theorem zhp:FnScope ["thing"] ["thing"] (defScope zcf):=⟨rfl,rfl,rfl,by decide +kernel,rfl,by decide +kernel,by decide +kernel⟩
theorem zhc(M:Nm mg)(C_is_key:zmn P w mg base k_is_key zaS)(L_is_key:k_is_key<=k)(hr:Rom k A s fa cdv "is_point" zcf) :
 VSs (cxP P w mg base fa cdv A outer s H E ["thing"] "is_point" zcf) EN ios (defBody zcf) (zcn zaS) :=
 (zas (zaU (zcs (zh0 (T:=.tuple) (fun _ ha=>zao zau rfl M.b_isinstance (by decide +kernel) (zag ha (zag (zdV (v:=.ty "tuple") (u:=.type "tuple") rfl M.b_tuple (by decide +kernel) rfl) zaK))) (Zj (pv 0))) (zcs (zg2 (zdB hr) zcM (zbI (fun _ ha=>zao zcH rfl M.b_len PySem.boot_len ha) zcz (ZY (Zj (pv 0)) zad)) zae (zaH _)) (zcs (zaP C_is_key (hr.mono L_is_key) rfl (ZY (zaC (Zj (pv 0)) zae) zad)) (zdx (zaP C_is_key (hr.mono L_is_key) rfl (ZY (zaC (Zj (pv 0)) zae) zad))))))))
theorem sc_look_at_points:FnScope ["thing","number","point"] ["thing"] (defScope za8):=⟨rfl,rfl,rfl,by decide +kernel,rfl,by decide +kernel,by decide +kernel⟩
theorem zdT(M:Nm mg)(C_is_point:zfp P w mg base k_is_point zam)(L_is_point:k_is_point<=k)(hr:Rom k A s fa cdv "look_at_points" za8) :
 VSs (cxP P w mg base fa cdv A outer s H E ["thing","number","point"] "look_at_points" za8) EN ios (defBody za8) (zbF zam) :=
 (zan (zcd (zb6 (zmw (zig (zft (zl3 (fun _ ha=>zao zgr rfl M.b_isinstance (by decide +kernel) (zag ha (zag (zlJ (zag (zdV (v:=.ty "list") (u:=.type "list") rfl M.b_list (by decide +kernel) rfl) (zag (zdV (v:=.ty "tuple") (u:=.type "tuple") rfl M.b_tuple (by decide +kernel) rfl) zaK))) zaK))) (Zj (pv 0))))) (zit (zaN zow zkW (zbI (fun _ ha=>zao zcH rfl M.b_len PySem.boot_len ha) zcz (ZY (Zj (pv 0)) zad)) (zjA M.c_MOST_POINTS rfl) (zaH _)))))
  (zas zfo)
  zbf)
  (zas (zgG (n:=3) (zo0 (fun _ ha=>znL rfl M.b_enumerate ha) (ZY (Zj (pv 0)) zad)) (zdi (zbh (zaM (by decide)) (zbh (zaM (by decide)) zdd)))
  (zas (zcd (zig (zft (zaP C_is_point (hr.mono L_is_point) rfl (ZY (Zj (pv 2)) zad))))
  (zas zfo)
  zbf)) (fun _ _ h1 h2=>zgK PassesOwn.never rfl h1 (zel rfl (zbj (zaW (i:=1) sc_look_at_points.nd rfl (zat rfl)) (zbj (zaW (i:=2) sc_look_at_points.nd rfl (zat rfl)) zdc))) h2))))
theorem sc_Points:FnScope ["self","points"] ["self","points"] (defScope zbM):=⟨rfl,rfl,rfl,by decide +kernel,rfl,by decide +kernel,by decide +kernel⟩
theorem zkF(M:Nm mg)(C_in_order:ziQ P w mg base k_in_order zaA)(L_in_order:k_in_order<=k)(C_look_at_points:zd3 P w mg base k_look_at_points zah)(L_look_at_points:k_look_at_points<=k)(hr:Rom k A s fa cdv "Points.__init__" zbM)(hk2:2<=k) :
 VJ 0 (cxX P w mg base fa cdv A outer s H E ["self","points"] "Points.__init__" zbM) (fun _=>E) ios zeT (zdC zaA zah)/\VJ 0 (cxX P w mg base fa cdv A outer s H E ["self","points"] "Points.__init__" zbM) (fun _=>E) ios zfs (zdt zaA zah)/\VE (cxX P w mg base fa cdv A outer s H E ["self","points"] "Points.__init__" zbM) (fun _=>E) ios zhq (zdA zaA zah) :=
 ⟨(zrx (zaN zlf zmf (Zj (pv 1)) zfy (zaH _)) (znk (zp0 (i:=1) (by decide) sc_Points.nd rfl (zat rfl) (za3 zad))) zoq),
   (zns (zaP C_look_at_points (hr.mono L_look_at_points) rfl (ZY (Zj (pv 1)) zad))),
   (zaP C_in_order (hr.mono L_in_order) rfl (ZY (Zj (pv 1)) zad))⟩
theorem zdZ:FnScope ["self"] ["self"] (defScope zaZ):=⟨rfl,rfl,rfl,by decide +kernel,rfl,by decide +kernel,by decide +kernel⟩
theorem zei(M:Nm mg)  (hr:Rom k A s fa cdv "Points.points" zaZ) :
 VSs (cxP P w mg base fa cdv A outer s H E ["self"] "Points.points" zaZ) EN ios (defBody zaZ) (zbN ) :=
 (zas (zaU (zbI (fun _ ha=>zeh zdN rfl M.b_list (by decide +kernel) ha) zeU (ZY (zoc M.cl_Points M.na_held (Zj (pv 0))) zad))))
theorem sc__law_take:FnScope ["_law_pool_here","_law_many","_law_found"] ["_law_pool_here","_law_many"] (defScope zbW):=⟨rfl,rfl,rfl,by decide +kernel,rfl,by decide +kernel,by decide +kernel⟩
theorem zgM(M:Nm mg)  (hr:Rom k A s fa cdv "_law_take" zbW) :
 VSs (cxP P w mg base fa cdv A outer s H E ["_law_pool_here","_law_many","_law_found"] "_law_take" zbW) EN ios (defBody zbW) (zb0 ) :=
 (zan (zcd (zaN zow zkW (zaC (Zj (pv 0)) zae) zae (zaH _))
  (zan (zaR (i:=2) sc__law_take.nd rfl (zat rfl) (zbc zc7 zcm (zaC (Zj (pv 0)) zae) (Zj (pv 1))))
  (zan (ziH (n:=0) (zbc zjL zg9 (zaC (Zj (pv 0)) zae) (Zj (pv 1))) (ziS (EE:=EN) zjn) (fun _ h=>zih h (zk6 (pv 0) (VE.pe (EE:=EN) zae) set_list)))
  (zas (zaU (Zj (pv 2))))))
  zbf)
  (zan (ziH (n:=0) (zbc zc7 zcm (zbc zb1 zb4 (zbc zdu zcJ (zaC (Zj (pv 0)) zae) zae) zae) zae) (ziS (EE:=EN) zjn) (fun _ h=>zih h (zk6 (pv 0) (VE.pe (EE:=EN) zae) set_list)))
  (zas (zaU (zbc zc7 zcm (zbc zjL zg9 (zbc zc7 zcm (zbc zdu zcJ (zaC (Zj (pv 0)) zae) (zaC (Zj (pv 0)) zae)) zae) zae) (Zj (pv 1)))))))
theorem zfH:FnScope ["_law_pool_here","_law_keys","_law_moments"] ["_law_pool_here","_law_keys","_law_moments"] (defScope zbG):=⟨rfl,rfl,rfl,by decide +kernel,rfl,by decide +kernel,by decide +kernel⟩
theorem zfI(M:Nm mg)(C__law_take:zep P w mg base k__law_take zaj)(L__law_take:k__law_take<=k)(hr:Rom k A s fa cdv "_law_point" zbG) :
 VSs (cxP P w mg base fa cdv A outer s H E ["_law_pool_here","_law_keys","_law_moments"] "_law_point" zbG) EN ios (defBody zbG) (zcr zaj) :=
 (zas (zaU (zbq (ZY (zbs C__law_take (hr.mono L__law_take) rfl (ZY (Zj (pv 0)) (ZY (Zj (pv 1)) zad))) (ZY (zbs C__law_take (hr.mono L__law_take) rfl (ZY (Zj (pv 0)) (ZY (Zj (pv 2)) zad))) zad)))))
theorem zew:FnScope ["_law_script","_law_k"] ["_law_script","_law_k"] (defScope zbp):=⟨rfl,rfl,rfl,by decide +kernel,rfl,by decide +kernel,by decide +kernel⟩
theorem zes(M:Nm mg)  (hr:Rom k A s fa cdv "_law_cell_at" zbp) :
 VSs (cxP P w mg base fa cdv A outer s H E ["_law_script","_law_k"] "_law_cell_at" zbp) EN ios (defBody zbp) (zbA ) :=
 (zan (zcd (zaN zmy zh3 (Zj (pv 1)) (zbI (fun _ ha=>zao zcH rfl M.b_len PySem.boot_len ha) zcz (ZY (Zj (pv 0)) zad)) (zaH _))
  (zas (zaU (zaC (Zj (pv 0)) (Zj (pv 1)))))
  zbf)
  (zas (zaU zae)))
theorem sc__law_pool:FnScope ["_law_script","_law_k","_law_cell","_law_seed"] ["_law_script","_law_k"] (defScope zbY):=⟨rfl,rfl,rfl,by decide +kernel,rfl,by decide +kernel,by decide +kernel⟩
theorem zgB(M:Nm mg)(C__law_cell_at:zff P w mg base k__law_cell_at zav)(L__law_cell_at:k__law_cell_at<=k)(hr:Rom k A s fa cdv "_law_pool" zbY) :
 VSs (cxP P w mg base fa cdv A outer s H E ["_law_script","_law_k","_law_cell","_law_seed"] "_law_pool" zbY) EN ios (defBody zbY) (zb2 zav) :=
 (zan (zaR (i:=2) sc__law_pool.nd rfl (zat rfl) (zaP C__law_cell_at (hr.mono L__law_cell_at) rfl (ZY (Zj (pv 0)) (ZY (Zj (pv 1)) zad))))
  (zan (zaR (i:=3) sc__law_pool.nd rfl (zat rfl) (zbc zc7 zcm (zbc zdu zcJ (zbc zb1 zb4 (zbc zb1 zb4 (zbc zb1 zb4 (zbc zc7 zcm (Zj (pv 2)) zae) (zbc zdu zcJ (zbc zdu zcJ zae (Zj (pv 1))) (Zj (pv 1)))) (zbc zdu zcJ zae (Zj (pv 1)))) zae) zae) zae))
  (zan (zcd (zaN zmy zh3 (Zj (pv 2)) (zbc zph zm6 zae zae) (zaH _))
  (zas (zaR (i:=2) sc__law_pool.nd rfl (zat rfl) zae))
  zbf)
  (zas (zaU (za3 (ZY (Zj (pv 2)) (ZY (zbc zc7 zcm (zbc zdu zcJ (Zj (pv 3)) (Zj (pv 3))) zae) zad))))))))
theorem zfq:FnScope ["_law_spots"] ["_law_spots"] (defScope za2):=⟨rfl,rfl,rfl,by decide +kernel,rfl,by decide +kernel,by decide +kernel⟩
theorem zfi(M:Nm mg)  (hr:Rom k A s fa cdv "_law_sorted" za2) :
 VSs (cxP P w mg base fa cdv A outer s H E ["_law_spots"] "_law_sorted" za2) EN ios (defBody za2) (zce ) :=
 (zas (zaU (zfR rfl (zdy (Nc:=["_law_moment","_law_key"]) (own:=2) (fr:=[]) (sc:=defScope za2) (N:=["_law_spots"]) rfl rfl (by decide +kernel)) (by decide) (zcK (zmO hr M.b_sorted rfl M.b_set rfl rfl (ZY (zfR rfl (zdy (Nc:=["_law_key","_law_moment"]) (own:=2) (fr:=[]) (sc:=defScope za2) (N:=["_law_spots"]) rfl rfl (by decide +kernel)) (by decide) (zcK (Zj (pv 0))) (zeE (zbV (by decide) (zbV (by decide) zeI))) (fun _ _ _ _ _ _=>(zel rfl (zbj (zaW (i:=0) (show(["_law_key","_law_moment"]:List Str).Nodup by decide +kernel) rfl (zat rfl)) (zbj (zaW (i:=1) (show(["_law_key","_law_moment"]:List Str).Nodup by decide +kernel) rfl (zat rfl)) zdc)))) (zdi (zbh (zaM (by decide)) (zbh (zaM (by decide)) zdd))) (zgn (zco (zbL (by decide)) (zco (zbL (by decide)) zgw))) (fun _ _ _ _ _ _=>zdL) (fun _ _ _ _ _ _=>(zbq (ZY (Zj (pv 1)) (ZY (Zj (pv 0)) zad))))) zad))) (zeE (zbV (by decide) (zbV (by decide) zeI))) (fun _ _ _ _ _ _=>(zel rfl (zbj (zaW (i:=0) (show(["_law_moment","_law_key"]:List Str).Nodup by decide +kernel) rfl (zat rfl)) (zbj (zaW (i:=1) (show(["_law_moment","_law_key"]:List Str).Nodup by decide +kernel) rfl (zat rfl)) zdc)))) (zdi (zbh (zaM (by decide)) (zbh (zaM (by decide)) zdd))) (zgn (zco (zbL (by decide)) (zco (zbL (by decide)) zgw))) (fun _ _ _ _ _ _=>zdL) (fun _ _ _ _ _ _=>(zbq (ZY (Zj (pv 1)) (ZY (Zj (pv 0)) zad)))))))
theorem sc__law_inside:FnScope ["_law_one","_law_other","_law_point_here","_law_keys","_law_moments"] ["_law_one","_law_other","_law_point_here"] (defScope zbz):=⟨rfl,rfl,rfl,by decide +kernel,rfl,by decide +kernel,by decide +kernel⟩
theorem zeQ(M:Nm mg)  (hr:Rom k A s fa cdv "_law_inside" zbz) :
 VSs (cxP P w mg base fa cdv A outer s H E ["_law_one","_law_other","_law_point_here","_law_keys","_law_moments"] "_law_inside" zbz) EN ios (defBody zbz) (zcb ) :=
 (zan (zaR (i:=3) sc__law_inside.nd rfl (zat rfl) (zbI (fun _ ha=>zao zcD rfl M.b_sorted (by decide +kernel) ha) zdO (ZY (za3 (ZY (zaC (Zj (pv 0)) zae) (ZY (zaC (Zj (pv 1)) zae) zad))) zad)))
  (zan (zaR (i:=4) sc__law_inside.nd rfl (zat rfl) (zbI (fun _ ha=>zao zcD rfl M.b_sorted (by decide +kernel) ha) zdO (ZY (za3 (ZY (zaC (Zj (pv 0)) zae) (ZY (zaC (Zj (pv 1)) zae) zad))) zad)))
  (zas (zaU (zcs (zci zcq zcq zbH zbH (zaC (Zj (pv 3)) zae) (zaC (Zj (pv 2)) zae) (zaC (Zj (pv 3)) zae)) (zdx (zci zcq zcq zbH zbH (zaC (Zj (pv 4)) zae) (zaC (Zj (pv 2)) zae) (zaC (Zj (pv 4)) zae))))))))
theorem zfD:FnScope ["_law_spots","_law_one","_law_other"] ["_law_spots","_law_one","_law_other"] (defScope zbl):=⟨rfl,rfl,rfl,by decide +kernel,rfl,by decide +kernel,by decide +kernel⟩
theorem zfC(M:Nm mg)(C__law_inside:zfE P w mg base k__law_inside zaB)(L__law_inside:k__law_inside<=k)(hr:Rom k A s fa cdv "_law_thirds" zbl) :
 VSs (cxP P w mg base fa cdv A outer s H E ["_law_spots","_law_one","_law_other"] "_law_thirds" zbl) EN ios (defBody zbl) (zch zaB) :=
 (zas (zaU (zfR rfl (zdy (Nc:=["_law_point_here","_law_one","_law_other"]) (own:=1) (fr:=[1,2]) (sc:=defScope zbl) (N:=["_law_spots","_law_one","_law_other"]) rfl rfl (by decide +kernel)) (by decide) (zcK (Zj (pv 0))) (zeO (by decide)) (fun _ _ _ _ _ _=>(zaW (i:=0) (show(["_law_point_here","_law_one","_law_other"]:List Str).Nodup by decide +kernel) rfl (zat rfl))) (zaM (by decide)) (zbL (by decide)) (fun _ _ _ _ _ _=>zjB (zb6 (zdq (zaN (zbn hr) za6 (Zj (pv 0)) (Zj (pv 1)) (zaH _)) (zdq (zaN (zbn hr) za6 (Zj (pv 0)) (Zj (pv 2)) (zaH _)) (zdf (zft (zaP C__law_inside (hr.mono L__law_inside) rfl (ZY (Zj (pv 1)) (ZY (Zj (pv 2)) (ZY (Zj (pv 0)) zad)))))))))) (fun _ _ _ _ _ _=>(Zj (pv 0))))))
theorem sc__law_kind:FnScope ["_law_error","_law_kinds","_law_words"] ["_law_error"] (defScope zbT):=⟨rfl,rfl,rfl,by decide +kernel,rfl,by decide +kernel,by decide +kernel⟩
theorem zgz(M:Nm mg)  (hr:Rom k A s fa cdv "_law_kind" zbT) :
 VSs (cxP P w mg base fa cdv A outer s H E ["_law_error","_law_kinds","_law_words"] "_law_kind" zbT) EN ios (defBody zbT) (zcL ) :=
 (zan (zaR (i:=1) sc__law_kind.nd rfl (zat rfl) (za3 (ZY (za7 M.k_NoPoints (fun _ ha=>zao zau rfl M.b_isinstance (by decide +kernel) (zag ha (zag (zaV (v:=.ref (KC.cls .NoPoints)) rfl M.n_NoPoints rfl) zaK))) (Zj (pv 0))) (ZY (za7 M.k_NoBox (fun _ ha=>zao zau rfl M.b_isinstance (by decide +kernel) (zag ha (zag (zaV (v:=.ref (KC.cls .NoBox)) rfl M.n_NoBox rfl) zaK))) (Zj (pv 0))) (ZY (za7 M.k_NoAsks (fun _ ha=>zao zau rfl M.b_isinstance (by decide +kernel) (zag ha (zag (zaV (v:=.ref (KC.cls .NoAsks)) rfl M.n_NoAsks rfl) zaK))) (Zj (pv 0))) (ZY (za7 M.k_NoRun (fun _ ha=>zao zau rfl M.b_isinstance (by decide +kernel) (zag ha (zag (zaV (v:=.ref (KC.cls .NoRun)) rfl M.n_NoRun rfl) zaK))) (Zj (pv 0))) zad))))))
  (zan (zaR (i:=1) sc__law_kind.nd rfl (zat rfl) (zbc zb1 zb4 (Zj (pv 1)) (za3 (ZY (za7 M.k_NoText (fun _ ha=>zao zau rfl M.b_isinstance (by decide +kernel) (zag ha (zag (zaV (v:=.ref (KC.cls .NoText)) rfl M.n_NoText rfl) zaK))) (Zj (pv 0))) (ZY (za7 M.k_NoTurn (fun _ ha=>zao zau rfl M.b_isinstance (by decide +kernel) (zag ha (zag (zaV (v:=.ref (KC.cls .NoTurn)) rfl M.n_NoTurn rfl) zaK))) (Zj (pv 0))) (ZY (za7 M.k_NoTree (fun _ ha=>zao zau rfl M.b_isinstance (by decide +kernel) (zag ha (zag (zaV (v:=.ref (KC.cls .NoTree)) rfl M.n_NoTree rfl) zaK))) (Zj (pv 0))) zad))))))
  (zan (zaR (i:=1) sc__law_kind.nd rfl (zat rfl) (zbc zb1 zb4 (Zj (pv 1)) (za3 (ZY (za7 M.k_NoTop (fun _ ha=>zao zau rfl M.b_isinstance (by decide +kernel) (zag ha (zag (zaV (v:=.ref (KC.cls .NoTop)) rfl M.n_NoTop rfl) zaK))) (Zj (pv 0))) (ZY (za7 M.k_NotServed (fun _ ha=>zao zau rfl M.b_isinstance (by decide +kernel) (zag ha (zag (zaV (v:=.ref (KC.cls .NotServed)) rfl M.n_NotServed rfl) zaK))) (Zj (pv 0))) (ZY (za7 M.k_NoRow (fun _ ha=>zao zau rfl M.b_isinstance (by decide +kernel) (zag ha (zag (zaV (v:=.ref (KC.cls .NoRow)) rfl M.n_NoRow rfl) zaK))) (Zj (pv 0))) zad))))))
  (zan (zaR (i:=1) sc__law_kind.nd rfl (zat rfl) (zbc zb1 zb4 (Zj (pv 1)) (za3 (ZY (za7 M.k_NoPoint (fun _ ha=>zao zau rfl M.b_isinstance (by decide +kernel) (zag ha (zag (zaV (v:=.ref (KC.cls .NoPoint)) rfl M.n_NoPoint rfl) zaK))) (Zj (pv 0))) (ZY (za7 M.k_NoName (fun _ ha=>zao zau rfl M.b_isinstance (by decide +kernel) (zag ha (zag (zaV (v:=.ref (KC.cls .NoName)) rfl M.n_NoName rfl) zaK))) (Zj (pv 0))) (ZY (za7 M.k_NoKey (fun _ ha=>zao zau rfl M.b_isinstance (by decide +kernel) (zag ha (zag (zaV (v:=.ref (KC.cls .NoKey)) rfl M.n_NoKey rfl) zaK))) (Zj (pv 0))) zad))))))
  (zan (zaR (i:=1) sc__law_kind.nd rfl (zat rfl) (zbc zb1 zb4 (Zj (pv 1)) (za3 (ZY (za7 M.k_NoBack (fun _ ha=>zao zau rfl M.b_isinstance (by decide +kernel) (zag ha (zag (zaV (v:=.ref (KC.cls .NoBack)) rfl M.n_NoBack rfl) zaK))) (Zj (pv 0))) (ZY (za7 M.k_TooMany (fun _ ha=>zao zau rfl M.b_isinstance (by decide +kernel) (zag ha (zag (zaV (v:=.ref (KC.cls .TooMany)) rfl M.n_TooMany rfl) zaK))) (Zj (pv 0))) zad)))))
  (zan (zcd (zb6 (zmw (zaN (zbn hr) za6 (zgY (fun _ ha=>zjg PySem.F.plainAttrs_list PySem.F.slot_list_count PySem.F.type_list_count zmM (pv 1) ha) zh8 (ZY zcW zad)) zae (zaH _)) (zit (zaN (zbn hr) za6 (za7 M.k_PointError (fun _ ha=>zao zau rfl M.b_isinstance (by decide +kernel) (zag ha (zag (zaV (v:=.ref (KC.cls .PointError)) rfl M.n_PointError rfl) zaK))) (Zj (pv 0))) (zg2 zmy zh3 (zgY (fun _ ha=>zjg PySem.F.plainAttrs_list PySem.F.slot_list_index PySem.F.type_list_index zhS (pv 1) ha) zeZ (ZY zcW zad)) zae (zaH _)) (zaH _)))))
  (zas (zaU zaL))
  zbf)
  (zan (zaR (i:=2) sc__law_kind.nd rfl (zat rfl) (za3 (ZY zaL (ZY zaL (ZY zaL (ZY zaL (ZY zaL (ZY zaL (ZY zaL (ZY zaL (ZY zaL (ZY zaL (ZY zaL (ZY zaL (ZY zaL zad)))))))))))))))
  (zas (zaU (zaC (zbc zb1 zb4 (Zj (pv 2)) (za3 (ZY zaL (ZY zaL zad)))) (zgY (fun _ ha=>zjg PySem.F.plainAttrs_list PySem.F.slot_list_index PySem.F.type_list_index zhS (pv 1) ha) zeZ (ZY zcW zad))))))))))))
theorem zhL:FnScope ["one","other"] ["one","other"] (defScope zcj):=⟨rfl,rfl,rfl,by decide +kernel,rfl,by decide +kernel,by decide +kernel⟩
theorem zhw(M:Nm mg)(C_is_point:zfp P w mg base k_is_point zam)(L_is_point:k_is_point<=k)(hr:Rom k A s fa cdv "have_box" zcj) :
 VSs (cxP P w mg base fa cdv A outer s H E ["one","other"] "have_box" zcj) EN ios (defBody zcj) (zbX zam) :=
 (zas (zaU (zcs (zaP C_is_point (hr.mono L_is_point) rfl (ZY (Zj (pv 0)) zad)) (zcs (zaP C_is_point (hr.mono L_is_point) rfl (ZY (Zj (pv 1)) zad)) (zcs (zg2 (zbn hr) za6 (zaC (Zj (pv 0)) zae) (zaC (Zj (pv 1)) zae) (zaH _)) (zdx (zg2 (zbn hr) za6 (zaC (Zj (pv 0)) zae) (zaC (Zj (pv 1)) zae) (zaH _))))))))
theorem sc_in_box:FnScope ["point","one","other","key","moment"] ["point","one","other"] (defScope zcX):=⟨rfl,rfl,rfl,by decide +kernel,rfl,by decide +kernel,by decide +kernel⟩
theorem zka(M:Nm mg)  (hr:Rom k A s fa cdv "in_box" zcX) :
 VSs (cxP P w mg base fa cdv A outer s H E ["point","one","other","key","moment"] "in_box" zcX) EN ios (defBody zcX) (zek ) :=
 (zan (ziH (n:=5) (Zj (pv 0)) (zdi (zbh (zaM (by decide)) (zbh (zaM (by decide)) zdd))) (fun _ h=>zih h (zel rfl (zbj (zaW (i:=3) sc_in_box.nd rfl (zat rfl)) (zbj (zaW (i:=4) sc_in_box.nd rfl (zat rfl)) zdc)))))
  (zas (zaU (zcs (zoE (zci zcq zcq zbH zbH (zaC (Zj (pv 1)) zae) (Zj (pv 3)) (zaC (Zj (pv 2)) zae)) (zdx (zci zcq zcq zbH zbH (zaC (Zj (pv 2)) zae) (Zj (pv 3)) (zaC (Zj (pv 1)) zae)))) (zdx (zoE (zci zcq zcq zbH zbH (zaC (Zj (pv 1)) zae) (Zj (pv 4)) (zaC (Zj (pv 2)) zae)) (zdx (zci zcq zcq zbH zbH (zaC (Zj (pv 2)) zae) (Zj (pv 4)) (zaC (Zj (pv 1)) zae)))))))))
theorem zkJ:FnScope ["points","one","other"] ["points","one","other"] (defScope zcx):=⟨rfl,rfl,rfl,by decide +kernel,rfl,by decide +kernel,by decide +kernel⟩
theorem zjW(M:Nm mg)(C_Points_points:zcV P w mg base k_Points_points zai)(L_Points_points:k_Points_points<=k)(C_have_box:zik P w mg base k_have_box zay)(L_have_box:k_have_box<=k)(C_in_box:zmx P w mg base k_in_box zbk)(L_in_box:k_in_box<=k)(hr:Rom k A s fa cdv "thirds" zcx)(hk2:2<=k) :
 VSs (cxX P w mg base fa cdv A outer s H E ["points","one","other"] "thirds" zcx) (fun _=>E) ios (defBody zcx) (zda zai zay zbk) :=
 (zan (zcd (zig (zft (zaP C_have_box (hr.mono L_have_box) rfl (ZY (Zj (pv 1)) (ZY (Zj (pv 2)) zad)))))
  (zas (zkR zpv (M.i_NoBox _ _ _) hr (by omega) M.n_NoBox (ZY (Zj (pv 1)) (ZY (Zj (pv 2)) zad))))
  zbf)
  (zas (zaU (zfR rfl (zdy (Nc:=["point","one","other"]) (own:=1) (fr:=[1,2]) (sc:=defScope zcx) (N:=["points","one","other"]) rfl rfl (by decide +kernel)) (by decide) (zcK (zfP M.cl_Points C_Points_points (hr.mono L_Points_points) (Zj (pv 0)))) (zeO (by decide)) (fun _ _ _ _ _ _=>(zaW (i:=0) (show(["point","one","other"]:List Str).Nodup by decide +kernel) rfl (zat rfl))) (zaM (by decide)) (zbL (by decide)) (fun _ _ _ _ _ _=>zjB (zb6 (zdq (zft (zaP C_in_box (hr.mono L_in_box) rfl (ZY (Zj (pv 0)) (ZY (Zj (pv 1)) (ZY (Zj (pv 2)) zad))))) (zdf (zaN (zjU hr) znF (Zj (pv 0)) (zbq (ZY (Zj (pv 1)) (ZY (Zj (pv 2)) zad))) rfl))))) (fun _ _ _ _ _ _=>(Zj (pv 0)))))))
theorem sc__law_told:FnScope ["_law_made","_law_one","_law_other","_law_caught","_law_found","e"] ["_law_made","_law_one","_law_other"] (defScope zbU):=⟨rfl,rfl,rfl,by decide +kernel,rfl,by decide +kernel,by decide +kernel⟩
theorem zg0(M:Nm mg)(C__law_kind:zhZ P w mg base k__law_kind zaJ)(L__law_kind:k__law_kind<=k)(C_thirds:zmk P w mg base k_thirds za9)(L_thirds:k_thirds<=k)(hr:Rom k A s fa cdv "_law_told" zbU) :
 VD (cxP P w mg base fa cdv A outer s H E ["_law_made","_law_one","_law_other","_law_caught","_law_found","e"] "_law_told" zbU) EN ios (defBody zbU) (zb7 zaJ za9) :=
 (zgq (zaR (i:=3) sc__law_told.nd rfl (zat rfl) zfy)
  (zgq (zaR (i:=4) sc__law_told.nd rfl (zat rfl) zfy)
  (zgq (zoU (i:=5) sc__law_told.nd rfl rfl (zgp rfl M.n_PointError (zgp rfl M.n_NoPoint (zgp rfl M.n_TooMany zpA))) (by simp) M.t_PointError_NoPoint_TooMany (fun E0 pn0 EE0 ok =>
  (zas (zaR (i:=4) sc__law_told.nd rfl (zat rfl) (zl2 ok C_thirds (hr.mono L_thirds) rfl (ZY (Zj (pv 0)) (ZY (Zj (pv 1)) (ZY (Zj (pv 2)) zad))))))) (fun a0 =>
  (zas (zaR (i:=3) sc__law_told.nd rfl (zat rfl) (Zj (pv 5))))))
  (zrE (zaN zlf zmf (Zj (pv 3)) zfy (zaH _))
  (zpK zaL (pv 4))
  (znP (zaP C__law_kind (hr.mono L__law_kind) rfl (ZY (Zj (pv 3)) zad)) (zp3 (zaN (zdB hr) zcM (zaP C__law_kind (hr.mono L__law_kind) rfl (ZY (Zj (pv 3)) zad)) zaL (zaH _)) (zbI (fun _ ha=>zao (zds hr M.sysm) rfl M.b_repr (by decide +kernel) ha) zcY (ZY (za3 (ZY (zjN M.a_one (Zj (pv 3)) rfl) (ZY (zjN M.a_other (Zj (pv 3)) rfl) zad))) zad)) zaL))))))
theorem sc_law:FnScope ["_law_script","_law_k","_law_pool_here","_law_wide","_law_spots","_law_made","_law_turn","_law_one","_law_other","_law_due","_law_found","_law_odd","_law_pair"] ["_law_script"] (defScope zeo):=⟨rfl,rfl,rfl,by decide +kernel,rfl,by decide +kernel,by decide +kernel⟩
theorem zlQ(M:Nm mg)(C_Points:zkX P w mg base k_Points zba)(L_Points:k_Points+1<=k)(C_Points_points:zcV P w mg base k_Points_points zai)(L_Points_points:k_Points_points<=k)(C__law_point:zgF P w mg base k__law_point zap)(L__law_point:k__law_point<=k)(C__law_pool:zhn P w mg base k__law_pool zaD)(L__law_pool:k__law_pool<=k)(C__law_sorted:zfN P w mg base k__law_sorted zaw)(L__law_sorted:k__law_sorted<=k)(C__law_take:zep P w mg base k__law_take zaj)(L__law_take:k__law_take<=k)(C__law_thirds:zfK P w mg base k__law_thirds zax)(L__law_thirds:k__law_thirds<=k)(C__law_told:zhR P w mg base k__law_told zak)(L__law_told:k__law_told<=k)(hr:Rom k A s fa cdv "law" zeo) :
 VSs (cxP P w mg base fa cdv A outer s H E ["_law_script","_law_k","_law_pool_here","_law_wide","_law_spots","_law_made","_law_turn","_law_one","_law_other","_law_due","_law_found","_law_odd","_law_pair"] "law" zeo) EN ios (defBody zeo) (ziO zba zai zap zaD zaw zaj zax zak) :=
 (zan (zgG (n:=13) (zgD (fun _ ha=>zee rfl M.b_range ha) (ZY (zbI (fun _ ha=>zao (zkS rfl) rfl M.b_max (by decide +kernel) ha) zh9 (ZY zae (ZY (zbI (fun _ ha=>zao (zj0 rfl) rfl M.b_min (by decide +kernel) ha) zir (ZY zae (ZY (zbI (fun _ ha=>zao zcH rfl M.b_len PySem.boot_len ha) zcz (ZY (Zj (pv 0)) zad)) zad))) zad))) zad)) (zaM (by decide))
  (zan (zaR (i:=2) sc_law.nd rfl (zat rfl) (zaP C__law_pool (hr.mono L__law_pool) rfl (ZY (Zj (pv 0)) (ZY (Zj (pv 1)) zad))))
  (zan (zaR (i:=3) sc_law.nd rfl (zat rfl) (zaC (za3 (ZY zae (ZY zae (ZY zae (ZY zae zad))))) (zbs C__law_take (hr.mono L__law_take) rfl (ZY (Zj (pv 2)) (ZY zae zad)))))
  (zan (zaR (i:=4) sc_law.nd rfl (zat rfl) (zaP C__law_sorted (hr.mono L__law_sorted) rfl (ZY (zfR rfl (zdy (Nc:=["_law_turn","_law_pool_here","_law_wide"]) (own:=1) (fr:=[2,3]) (sc:=defScope zeo) (N:=["_law_script","_law_k","_law_pool_here","_law_wide","_law_spots","_law_made","_law_turn","_law_one","_law_other","_law_due","_law_found","_law_odd","_law_pair"]) rfl rfl (by decide +kernel)) (by decide) (zgD (fun _ ha=>zee rfl M.b_range ha) (ZY (zbs C__law_take (hr.mono L__law_take) rfl (ZY (Zj (pv 2)) (ZY zae zad))) zad)) (zeO (by decide)) (fun _ _ _ _ _ _=>(zaW (i:=0) (show(["_law_turn","_law_pool_here","_law_wide"]:List Str).Nodup by decide +kernel) rfl (zat rfl))) (zaM (by decide)) (zbL (by decide)) (fun _ _ _ _ _ _=>zdL) (fun _ _ _ _ _ _=>(zbs C__law_point (hr.mono L__law_point) rfl (ZY (Zj (pv 1)) (ZY (Zj (pv 2)) (ZY (Zj (pv 2)) zad)))))) zad)))
  (zan (zaR (i:=5) sc_law.nd rfl (zat rfl) (VY.ve (zrj zmb C_Points (hr.mono L_Points) rfl (ZY (Zj (pv 4)) zad))))
  (zan (zgG (n:=13) (zgD (fun _ ha=>zee rfl M.b_range ha) (ZY zae zad)) (zaM (by decide))
  (zan (zaR (i:=7) sc_law.nd rfl (zat rfl) (zbs C__law_point (hr.mono L__law_point) rfl (ZY (Zj (pv 2)) (ZY (Zj (pv 3)) (ZY (Zj (pv 3)) zad)))))
  (zan (zaR (i:=8) sc_law.nd rfl (zat rfl) (zbs C__law_point (hr.mono L__law_point) rfl (ZY (Zj (pv 2)) (ZY (Zj (pv 3)) (ZY (Zj (pv 3)) zad)))))
  (zan (zcd (zb6 (zdq (zaN (zbn hr) za6 (Zj (pv 4)) (za3 zad) (zaH _)) (zdf (zaN (zdB hr) zcM (zbc zc7 zcm (Zj (pv 6)) zae) zae (zaH _)))))
  (zas (zaR (i:=7) sc_law.nd rfl (zat rfl) (zaC (Zj (pv 4)) (zbs C__law_take (hr.mono L__law_take) rfl (ZY (Zj (pv 2)) (ZY (zbI (fun _ ha=>zao zcH rfl M.b_len PySem.boot_len ha) zcz (ZY (Zj (pv 4)) zad)) zad))))))
  zbf)
  (zan (zaR (i:=9) sc_law.nd rfl (zat rfl) (za3 (ZY zaL (ZY (zbI (fun _ ha=>zao (zds hr M.sysm) rfl M.b_repr (by decide +kernel) ha) zcY (ZY (za3 (ZY (Zj (pv 7)) (ZY (Zj (pv 8)) zad))) zad)) zad))))
  (zan (zcd (zb6 (zdq (zaN (zbn hr) za6 (zaC (Zj (pv 7)) zae) (zaC (Zj (pv 8)) zae) (zaH _)) (zdf (zaN (zbn hr) za6 (zaC (Zj (pv 7)) zae) (zaC (Zj (pv 8)) zae) (zaH _)))))
  (zas (zaR (i:=9) sc_law.nd rfl (zat rfl) (za3 (ZY zaL (ZY (zaP C__law_thirds (hr.mono L__law_thirds) rfl (ZY (Zj (pv 4)) (ZY (Zj (pv 7)) (ZY (Zj (pv 8)) zad)))) zad)))))
  zbf)
  (zlO (j:=10) sc_law.nd rfl (zat rfl) C__law_told (hr.mono L__law_told) rfl (ZY (Zj (pv 5)) (ZY (Zj (pv 7)) (ZY (Zj (pv 8)) zad))) (fun s0 bs =>
  (zq2 hr (pv 10) (Zj (pv 9)) (zb6 (zdq (zaN (zdB hr) zcM (zaC (Zj (pv 9)) zae) zaL (zaH _)) (zdf (zaN (zbn hr) za6 (zaP (zfw C__law_told) (hr.mono L__law_told) rfl (ZY (Zj (pv 5)) (ZY (Zj (pv 8)) (ZY (Zj (pv 7)) zad)))) (Zj (pv 9)) (zaH _)))))
  (zm8 zg4 (zjg PySem.F.plainAttrs_list PySem.F.slot_list_append PySem.F.type_list_append zgb (zoI zmi (pv 10) zl1 (by intro _ _;rfl)) (zag zlT zaK)) (fun _ _ _ h=>h) (fun _=>.cons .non .nil) (zaN (zdB hr) zcM (zaC (Zj (pv 9)) zae) zaL (zaH _))
  (zas (zcd (zaN (zbn hr) za6 (zaP (zfw C__law_told) (hr.mono L__law_told) rfl (ZY (Zj (pv 5)) (ZY (Zj (pv 7)) (ZY (Zj (pv 8)) zad)))) (Zj (pv 9)) (zaH _))
  (zas (zaU zcW))
  zbf)))))
  (zan (zcd (zb6 (zmw (zaN (zbn hr) za6 (Zj (pv 10)) (Zj (pv 9)) (zaH _)) (zit (zb6 (zdq (zaN (zdB hr) zcM (zaC (Zj (pv 9)) zae) zaL (zaH _)) (zdf (zaN (zbn hr) za6 (zaP (zfw C__law_told) (hr.mono L__law_told) rfl (ZY (Zj (pv 5)) (ZY (Zj (pv 8)) (ZY (Zj (pv 7)) zad)))) (Zj (pv 9)) (zaH _))))))))
  (zas (zaU zcW))
  zbf)
  (zan (zcd (zaN (zdB hr) zcM (zaC (Zj (pv 9)) zae) zaL (zaH _))
  (zas zfo)
  zbf)
  (zas (zcd (zaN (zbn hr) za6 (zaP (zfw C__law_told) (hr.mono L__law_told) rfl (ZY (Zj (pv 5)) (ZY (Zj (pv 7)) (ZY (Zj (pv 8)) zad)))) (Zj (pv 9)) (zaH _))
  (zas (zaU zcW))
  zbf)))))))))) (fun _ _ h1 h2=>zgK PassesOwn.never rfl h1 (zaW (i:=6) sc_law.nd rfl (zat rfl)) h2))
  (zan (zaR (i:=11) sc_law.nd rfl (zat rfl) (zaC (za3 (ZY zfy (ZY zcW (ZY zae (ZY (zbq (ZY zae zad)) (ZY (za3 (ZY zae (ZY zae zad))) (ZY (zbq (ZY zae (ZY zae zad))) (ZY (zbq (ZY zcW (ZY zae zad))) (ZY (zbq (ZY zae (ZY zaL zad))) (ZY (zbq (ZY (zpq zae) (ZY zae zad))) (ZY (zbq zad) (ZY zpb (ZY zaL zad))))))))))))) (zbs C__law_take (hr.mono L__law_take) rfl (ZY (Zj (pv 2)) (ZY zae zad)))))
  (zan (zgG (n:=13) (zcK (za3 (ZY (zbq (ZY (Zj (pv 11)) (ZY (zbq (ZY zae (ZY zae zad))) zad))) (ZY (zbq (ZY (zbq (ZY zae (ZY zae zad))) (ZY (Zj (pv 11)) zad))) (ZY (zbq (ZY (Zj (pv 11)) (ZY (Zj (pv 11)) zad))) zad))))) (zaM (by decide))
  (zas (zcd (zaN (zbn hr) za6 (zaP (zfw C__law_told) (hr.mono L__law_told) rfl (ZY (Zj (pv 5)) (ZY (zaC (Zj (pv 12)) zae) (ZY (zaC (Zj (pv 12)) zae) zad)))) (za3 (ZY zaL (ZY (zbI (fun _ ha=>zao (zds hr M.sysm) rfl M.b_repr (by decide +kernel) ha) zcY (ZY (zbI (fun _ ha=>zeh zdN rfl M.b_list (by decide +kernel) ha) zeU (ZY (Zj (pv 12)) zad)) zad)) zad))) (zaH _))
  (zas (zaU zcW))
  zbf)) (fun _ _ h1 h2=>zgK PassesOwn.never rfl h1 (zaW (i:=12) sc_law.nd rfl (zat rfl)) h2))
  (zas (zcd (zaN (zbn hr) za6 (zfP M.cl_Points C_Points_points (hr.mono L_Points_points) (Zj (pv 5))) (Zj (pv 4)) (zaH _))
  (zas (zaU zcW))
  zbf))))))))) (fun _ _ h1 h2=>zgK PassesOwn.never rfl h1 (zaW (i:=1) sc_law.nd rfl (zat rfl)) h2))
  (zas (zaU zcW)))
end
end K06
namespace K06
open PySem L2 Ex Dv
section
variable[KC]{P:Program}{w:World}{mg:Str->Option Value}{base:Heap}
structure Ats(mg:Str->Option Value):Prop where
 a_in_order:At mg "in_order" zbC
 a_is_key:At mg "is_key" zc0
 a_is_point:At mg "is_point" zcf
 a_look_at_points:At mg "look_at_points" za8
 a_Points:AtI .Points "Points.__init__" zbM ["points"]
 a_Points_points:AtM .Points "points" "Points.points" zaZ
 a__law_take:At mg "_law_take" zbW
 a__law_point:At mg "_law_point" zbG
 a__law_cell_at:At mg "_law_cell_at" zbp
 a__law_pool:At mg "_law_pool" zbY
 a__law_sorted:At mg "_law_sorted" za2
 a__law_inside:At mg "_law_inside" zbz
 a__law_thirds:At mg "_law_thirds" zbl
 a__law_kind:At mg "_law_kind" zbT
 a_have_box:At mg "have_box" zcj
 a_in_box:At mg "in_box" zcX
 a_thirds:At mg "thirds" zcx
 a__law_told:At mg "_law_told" zbU
 a_law:At mg "law" zeo
theorem zgT(T:Ats mg)(M:Nm mg):Cal P w mg base "in_order" 1 ["points"] (spP zaA) :=
 zbO (k:=0) T.a_in_order zg7 (fun _ _ _ _ _ _ us hl=>match us,hl with | [_],_=>rfl) (fun _ _ _ _ _ _ _ hr=>zhA M  hr) (fun _ _ h=>zbg h)
theorem ziu(T:Ats mg)(M:Nm mg):Cal P w mg base "is_key" 1 ["thing"] (spP zaS) :=
 zbO (k:=0) T.a_is_key zkQ (fun _ _ _ _ _ _ us hl=>match us,hl with | [_],_=>rfl) (fun _ _ _ _ _ _ _ hr=>zjY M  hr) (fun _ _ h=>zbg h)
theorem zdP(T:Ats mg)(M:Nm mg):Cal P w mg base "is_point" 2 ["thing"] (spP zam) :=
 zbO (k:=1) T.a_is_point zhp (fun _ _ _ _ _ _ us hl=>match us,hl with | [_],_=>rfl) (fun _ _ _ _ _ _ _ hr=>zhc M (ziu T M) (by omega) hr) (fun _ _ h=>zbg h)
theorem zdE(T:Ats mg)(M:Nm mg):Cal P w mg base "look_at_points" 3 ["thing"] (spP zah) :=
 zbO (k:=2) T.a_look_at_points sc_look_at_points (fun _ _ _ _ _ _ us hl=>match us,hl with | [_],_=>rfl) (fun _ _ _ _ _ _ _ hr=>zdT M (zdP T M) (by omega) hr) (fun _ _ h=>zbg h)
theorem ze7(T:Ats mg)(M:Nm mg):zom P w mg base "Points" 4 ["points"] [.non] .Points "held" zba :=
 znz (k:=3) (st1:=zeT) (st2:=zfs) (e:=zhq) T.a_Points M.n_Points sc_Points rfl M.cl_Points M.na_held rfl (by decide) (fun _ _ _ _ _ _ _ hr=>let ⟨h1,h2,h3⟩:=zkF M (zgT T M) (by omega) (zdE T M) (by omega) hr (by omega); ⟨h1,h2,h3,pv 0,rfl⟩)
theorem zbJ(T:Ats mg)(M:Nm mg):zoe P w mg base .Points "points" 1 ["self"] (spP zai) :=
 znh (k:=0) T.a_Points_points zdZ (fun _ _ _ _ _ _ us hl=>match us,hl with | [_],_=>rfl) (fun _ _ _ _ _ _ _ hr=>zei M  hr) (fun _ _ h=>zbg h)
theorem zcv(T:Ats mg)(M:Nm mg):Cal P w mg base "_law_take" 1 ["_law_pool_here","_law_many"] (spI zaj) :=
 zly (k:=0) T.a__law_take sc__law_take (fun _ _ _ _ _ _ us hl=>match us,hl with | [_,_],_=>rfl) (fun _ _ _ _ _ _ _ _ hr=>zgM M  hr) (fun _ _ _ h=>zjb h)
theorem zc5(T:Ats mg)(M:Nm mg):Cal P w mg base "_law_point" 2 ["_law_pool_here","_law_keys","_law_moments"] (spI zap) :=
 zly (k:=1) T.a__law_point zfH (fun _ _ _ _ _ _ us hl=>match us,hl with | [_,_,_],_=>rfl) (fun _ _ _ _ _ _ _ _ hr=>zfI M (zcv T M) (by omega) hr) (fun _ _ _ h=>zjb h)
theorem zd6(T:Ats mg)(M:Nm mg):Cal P w mg base "_law_cell_at" 1 ["_law_script","_law_k"] (spP zav) :=
 zbO (k:=0) T.a__law_cell_at zew (fun _ _ _ _ _ _ us hl=>match us,hl with | [_,_],_=>rfl) (fun _ _ _ _ _ _ _ hr=>zes M  hr) (fun _ _ h=>zbg h)
theorem zdn(T:Ats mg)(M:Nm mg):Cal P w mg base "_law_pool" 2 ["_law_script","_law_k"] (spP zaD) :=
 zbO (k:=1) T.a__law_pool sc__law_pool (fun _ _ _ _ _ _ us hl=>match us,hl with | [_,_],_=>rfl) (fun _ _ _ _ _ _ _ hr=>zgB M (zd6 T M) (by omega) hr) (fun _ _ h=>zbg h)
theorem zcT(T:Ats mg)(M:Nm mg):Cal P w mg base "_law_sorted" 1 ["_law_spots"] (spP zaw) :=
 zbO (k:=0) T.a__law_sorted zfq (fun _ _ _ _ _ _ us hl=>match us,hl with | [_],_=>rfl) (fun _ _ _ _ _ _ _ hr=>zfi M  hr) (fun _ _ h=>zbg h)
theorem zey(T:Ats mg)(M:Nm mg):Cal P w mg base "_law_inside" 1 ["_law_one","_law_other","_law_point_here"] (spP zaB) :=
 zbO (k:=0) T.a__law_inside sc__law_inside (fun _ _ _ _ _ _ us hl=>match us,hl with | [_,_,_],_=>rfl) (fun _ _ _ _ _ _ _ hr=>zeQ M  hr) (fun _ _ h=>zbg h)
theorem zcU(T:Ats mg)(M:Nm mg):Cal P w mg base "_law_thirds" 2 ["_law_spots","_law_one","_law_other"] (spP zax) :=
 zbO (k:=1) T.a__law_thirds zfD (fun _ _ _ _ _ _ us hl=>match us,hl with | [_,_,_],_=>rfl) (fun _ _ _ _ _ _ _ hr=>zfC M (zey T M) (by omega) hr) (fun _ _ h=>zbg h)
theorem zfF(T:Ats mg)(M:Nm mg):Cal P w mg base "_law_kind" 1 ["_law_error"] (spP zaJ) :=
 zbO (k:=0) T.a__law_kind sc__law_kind (fun _ _ _ _ _ _ us hl=>match us,hl with | [_],_=>rfl) (fun _ _ _ _ _ _ _ hr=>zgz M  hr) (fun _ _ h=>zbg h)
theorem zgE(T:Ats mg)(M:Nm mg):Cal P w mg base "have_box" 3 ["one","other"] (spP zay) :=
 zbO (k:=2) T.a_have_box zhL (fun _ _ _ _ _ _ us hl=>match us,hl with | [_,_],_=>rfl) (fun _ _ _ _ _ _ _ hr=>zhw M (zdP T M) (by omega) hr) (fun _ _ h=>zbg h)
theorem zis(T:Ats mg)(M:Nm mg):Cal P w mg base "in_box" 1 ["point","one","other"] (spP zbk) :=
 zbO (k:=0) T.a_in_box sc_in_box (fun _ _ _ _ _ _ us hl=>match us,hl with | [_,_,_],_=>rfl) (fun _ _ _ _ _ _ _ hr=>zka M  hr) (fun _ _ h=>zbg h)
theorem ziy(T:Ats mg)(M:Nm mg):zm2 P w mg base "thirds" 4 ["points","one","other"] (spX za9) :=
 znG (k:=3) T.a_thirds zkJ (fun _ _ _ _ _ _ us hl=>match us,hl with | [_,_,_],_=>rfl) (fun _ _ _ _ _ _ _ hr=>zjW M (zbJ T M) (by omega) (zgE T M) (by omega) (zis T M) (by omega) hr (by omega)) (fun _ _ h=>zob h)
theorem zdm(T:Ats mg)(M:Nm mg):Cal P w mg base "_law_told" 5 ["_law_made","_law_one","_law_other"] (spD zak) :=
 zlx (k:=4) T.a__law_told sc__law_told (fun _ _ _ _ _ _ us hl=>match us,hl with | [_,_,_],_=>rfl) (fun _ _ _ _ _ _ _ hr=>zg0 M (zfF T M) (by omega) (ziy T M) (by omega) hr)
theorem cal_law(T:Ats mg)(M:Nm mg):Cal P w mg base "law" 6 ["_law_script"] (spP zhu) :=
 zbO (k:=5) T.a_law sc_law (fun _ _ _ _ _ _ us hl=>match us,hl with | [_],_=>rfl) (fun _ _ _ _ _ _ _ hr=>zlQ M (ze7 T M) (by omega) (zbJ T M) (by omega) (zc5 T M) (by omega) (zdn T M) (by omega) (zcT T M) (by omega) (zcv T M) (by omega) (zcU T M) (by omega) (zdm T M) (by omega) hr) (fun _ _ h=>zbg h)
theorem zpZ(T:Ats mg)(M:Nm mg){f:Addr}{fd:FuncData}(U:Fun KC.K "law" "law" zeo f fd):FnOk P w KC.K mg base CX0 6 f fd ["_law_script"] (spP zhu) :=
 zgk (k:=5) U sc_law (fun _ _ _ _ _ _ hr=>zlQ M (ze7 T M) (by omega) (zbJ T M) (by omega) (zc5 T M) (by omega) (zdn T M) (by omega) (zcT T M) (by omega) (zcv T M) (by omega) (zcU T M) (by omega) (zdm T M) (by omega) hr) (fun _ _ h=>zbg h)
end
end K06
namespace K06
open PySem L2 Ex Dv Tr St So Bp
theorem zp7(ns:List Int)(h:ns.length<=63):zhu [.scr ns]=some (.val (.bl true)):=by
 generalize hn:(if (ns.length:Int)<8 then (ns.length:Int) else 8)=n1
 generalize hn2:(if n1 > 1 then n1 else 1)=n2
 have b1:0<=n1/\n1<=8:=by rw[<- hn];split<;>omega
 have b2:1<=n2/\n2<=8:=by rw[<- hn2];split<;>omega
 have sm:small n2=true:=zgj (by omega)
 obtain⟨Γ',hl,y1,y2,y3,y4,y5,y6,y7,y8,y9,y10,y11,y12,rfl⟩:=zhf (m:=gN 1) (s:=zm9)
  (fun _ Γ=>∃ (y1 y2 y3 y4 y5 y6 y7 y8 y9 y10 y11 y12:Sl),Γ=[some (.frz,.scr ns),y1,y2,y3,y4,y5,y6,y7,y8,y9,y10,y11,y12])
  (ds:=upI 0 n2.toNat) (Γ:=[some (.frz,.scr ns),none,none,none,none,none,none,none,none,none,none,none,none])
  ⟨none,none,none,none,none,none,none,none,none,none,none,none,rfl⟩ (by
   rintro i d Γ hd ⟨y1,y2,y3,y4,y5,y6,y7,y8,y9,y10,y11,y12,rfl⟩
   obtain⟨rfl,hi⟩:=zov hd
   obtain⟨z2,z3,z4,z5,z6,z7,z8,z9,z10,z11,z12,hz⟩:=zop (ns:=ns) (k:=i) (x2:=y2) (x3:=y3) (x4:=y4) (x5:=y5) (x6:=y6) (x7:=y7) (x8:=y8) (x9:=y9) (x10:=y10) (x11:=y11) (x12:=y12) (by omega)
   exact⟨_,_,rfl,.inl (by simpa using hz),some (.frz,.int i),z2,z3,z4,z5,z6,z7,z8,z9,z10,z11,z12,rfl⟩)
 unfold zhu
 rw[zqD]
 simp[zbm,zbb,gam,hn,hn2,sm,hl]
end K06
namespace K06
open PySem PySem.W PyProof.Rows Hd
abbrev pm0:Value:=vS "law_thirdpoint_k06_thirds_told" 740
abbrev pm2:Value:=vS "thirdpoint.errors" 194
abbrev pm3:Value:=vS "thirdpoint.points" 564
def KK(P:Params):Frag:=[
 (nat_lit 1,dO P [de "builtins" 162 (.ref 4),de "__main__" 163 (.ref 5)] 2),
 (nat_lit 2,dN P [de "type.__subclasses__.KeyError.0" 455 (vI 213 0),de "type.__subclasses__.KeyError.n" 456 (vI 2 0),de "type.__subclasses__.KeyError.1" 484 (vI 233 0),de "type.__subclasses__.IndexError.0" 531 (vI 266 0),de "type.__subclasses__.IndexError.n" 532 (vI 1 0),de "type.__subclasses__.OverflowError.0" 560 (vI 286 0),de "type.__subclasses__.OverflowError.n" 561 (vI 1 0)] 7),
 (nat_lit 3,dO P [de "__name__" 165 pm0,de "__doc__" 166 .none,de "__package__" 167 .none,de "__loader__" 168 (.builtin "__main__.__loader__#opaque"),de "__spec__" 169 .none,de "__annotations__" 170 (.ref 6),de "__builtins__" 171 (.ref 4),de "__file__" 173 (vS "/claim/cut.py" 172),de "__cached__" 174 .none,de "_wall" 193 (.ref 21),de "PointError" 213 (.ref 31),de "NoPoints" 238 (.ref 51),de "NoBox" 265 (.ref 70),de "NoAsks" 290 (.ref 89),de "NoRun" 315 (.ref 108),de "NoText" 340 (.ref 127),de "NoTurn" 365 (.ref 146),de "NoTree" 381 (.ref 158),de "NoTop" 397 (.ref 170),de "NotServed" 413 (.ref 182),de "NoRow" 429 (.ref 194),de "NoPoint" 458 (.ref 213),de "NoName" 487 (.ref 233),de "NoKey" 514 (.ref 253),de "NoBack" 534 (.ref 266),de "TooMany" 563 (.ref 286),de "LAST_KEY" 567 (vI 30 566),de "MOST_POINTS" 569 (vI 200 568),de "is_key" 576 (.ref 296),de "is_point" 583 (.ref 303),de "look_at_points" 592 (.ref 310),de "in_order" 598 (.ref 315),de "Points" 712 (.ref 410),de "have_box" 722 (.ref 421),de "in_box" 733 (.ref 428),de "thirds" 739 (.ref 433),de "_law_cell_at" 749 (.ref 440),de "_law_pool" 759 (.ref 447),de "_law_take" 768 (.ref 454),de "_law_point" 777 (.ref 461),de "_law_sorted" 783 (.ref 466),de "_law_inside" 794 (.ref 473),de "_law_thirds" 800 (.ref 478),de "_law_bare" 811 (.ref 485),de "_law_kind" 820 (.ref 492),de "_law_told" 832 (.ref 499),de "law" 838 (.ref 504)] 47),
 (nat_lit 30,dO P [de "__module__" 203 pm2,de "__firstlineno__" 207 (vI 5 206),de "__static_attributes__" 208 (.ref 29),de "__weakref__" 210 (.ref 32),de "__doc__" 211 .none] 3),
 (nat_lit 31,cO "PointError" [(.type "ValueError")] [(.ref 31),(.type "ValueError"),(.type "Exception"),(.type "BaseException"),(.type "object")] 30 [(.ref 51),(.ref 70),(.ref 89),(.ref 108),(.ref 127),(.ref 146),(.ref 158),(.ref 170),(.ref 182),(.ref 194)] #[some (.ref 22),none,some (vS "PointError" 196),some (vS "PointError" 204),some (.builtin "ValueError.__new__"),some (.bool true)]),
 (nat_lit 50,dO P [de "__module__" 221 pm2,de "__firstlineno__" 225 (vI 7 224),de "__init__" 233 (.ref 48),de "__static_attributes__" 235 (.ref 49),de "__doc__" 236 .none] 2),
 (nat_lit 51,cO "NoPoints" [(.ref 31)] [(.ref 51),(.ref 31),(.type "ValueError"),(.type "Exception"),(.type "BaseException"),(.type "object")] 50 [] #[some (.ref 35),none,some (vS "NoPoints" 214),some (vS "NoPoints" 222),some (.builtin "ValueError.__new__"),some (.bool true)]),
 (nat_lit 66,kO "__init__" "NoBox.__init__" 251 14 3 [(vI 0 0),(vI 0 0),(vI 3 0),(.ref 61),(.bool true),(vI 181 0),(.ref 62),.none,(.ref 63),(.ref 64),(.ref 65),(vI 257 0),(vI 14 0),(vS "/claim/cut.py" 258)]),
 (nat_lit 67,fO "__init__" "NoBox.__init__" (L2.inClass (top 4) 0) .none pm2 66),
 (nat_lit 69,dO P [de "__module__" 246 pm2,de "__firstlineno__" 250 (vI 12 249),de "__init__" 259 (.ref 67),de "__static_attributes__" 262 (.ref 68),de "__doc__" 263 .none] 2),
 (nat_lit 70,cO "NoBox" [(.ref 31)] [(.ref 70),(.ref 31),(.type "ValueError"),(.type "Exception"),(.type "BaseException"),(.type "object")] 69 [] #[some (.ref 54),none,some (vS "NoBox" 239),some (vS "NoBox" 247),some (.builtin "ValueError.__new__"),some (.bool true)]),
 (nat_lit 88,dO P [de "__module__" 273 pm2,de "__firstlineno__" 277 (vI 18 276),de "__init__" 285 (.ref 86),de "__static_attributes__" 287 (.ref 87),de "__doc__" 288 .none] 2),
 (nat_lit 89,cO "NoAsks" [(.ref 31)] [(.ref 89),(.ref 31),(.type "ValueError"),(.type "Exception"),(.type "BaseException"),(.type "object")] 88 [] #[some (.ref 73),none,some (vS "NoAsks" 266),some (vS "NoAsks" 274),some (.builtin "ValueError.__new__"),some (.bool true)]),
 (nat_lit 107,dO P [de "__module__" 298 pm2,de "__firstlineno__" 302 (vI 23 301),de "__init__" 310 (.ref 105),de "__static_attributes__" 312 (.ref 106),de "__doc__" 313 .none] 2),
 (nat_lit 108,cO "NoRun" [(.ref 31)] [(.ref 108),(.ref 31),(.type "ValueError"),(.type "Exception"),(.type "BaseException"),(.type "object")] 107 [] #[some (.ref 92),none,some (vS "NoRun" 291),some (vS "NoRun" 299),some (.builtin "ValueError.__new__"),some (.bool true)]),
 (nat_lit 126,dO P [de "__module__" 323 pm2,de "__firstlineno__" 327 (vI 28 326),de "__init__" 335 (.ref 124),de "__static_attributes__" 337 (.ref 125),de "__doc__" 338 .none] 2),
 (nat_lit 127,cO "NoText" [(.ref 31)] [(.ref 127),(.ref 31),(.type "ValueError"),(.type "Exception"),(.type "BaseException"),(.type "object")] 126 [] #[some (.ref 111),none,some (vS "NoText" 316),some (vS "NoText" 324),some (.builtin "ValueError.__new__"),some (.bool true)]),
 (nat_lit 145,dO P [de "__module__" 348 pm2,de "__firstlineno__" 352 (vI 33 351),de "__init__" 360 (.ref 143),de "__static_attributes__" 362 (.ref 144),de "__doc__" 363 .none] 2),
 (nat_lit 146,cO "NoTurn" [(.ref 31)] [(.ref 146),(.ref 31),(.type "ValueError"),(.type "Exception"),(.type "BaseException"),(.type "object")] 145 [] #[some (.ref 130),none,some (vS "NoTurn" 341),some (vS "NoTurn" 349),some (.builtin "ValueError.__new__"),some (.bool true)]),
 (nat_lit 157,dO P [de "__module__" 373 pm2,de "__firstlineno__" 377 (vI 38 376),de "__static_attributes__" 378 (.ref 156),de "__doc__" 379 .none] 2),
 (nat_lit 158,cO "NoTree" [(.ref 31)] [(.ref 158),(.ref 31),(.type "ValueError"),(.type "Exception"),(.type "BaseException"),(.type "object")] 157 [] #[some (.ref 149),none,some (vS "NoTree" 366),some (vS "NoTree" 374),some (.builtin "ValueError.__new__"),some (.bool true)]),
 (nat_lit 169,dO P [de "__module__" 389 pm2,de "__firstlineno__" 393 (vI 40 392),de "__static_attributes__" 394 (.ref 168),de "__doc__" 395 .none] 2),
 (nat_lit 170,cO "NoTop" [(.ref 31)] [(.ref 170),(.ref 31),(.type "ValueError"),(.type "Exception"),(.type "BaseException"),(.type "object")] 169 [] #[some (.ref 161),none,some (vS "NoTop" 382),some (vS "NoTop" 390),some (.builtin "ValueError.__new__"),some (.bool true)]),
 (nat_lit 181,dO P [de "__module__" 405 pm2,de "__firstlineno__" 409 (vI 42 408),de "__static_attributes__" 410 (.ref 180),de "__doc__" 411 .none] 2),
 (nat_lit 182,cO "NotServed" [(.ref 31)] [(.ref 182),(.ref 31),(.type "ValueError"),(.type "Exception"),(.type "BaseException"),(.type "object")] 181 [] #[some (.ref 173),none,some (vS "NotServed" 398),some (vS "NotServed" 406),some (.builtin "ValueError.__new__"),some (.bool true)]),
 (nat_lit 193,dO P [de "__module__" 421 pm2,de "__firstlineno__" 425 (vI 44 424),de "__static_attributes__" 426 (.ref 192),de "__doc__" 427 .none] 2),
 (nat_lit 194,cO "NoRow" [(.ref 31)] [(.ref 194),(.ref 31),(.type "ValueError"),(.type "Exception"),(.type "BaseException"),(.type "object")] 193 [] #[some (.ref 185),none,some (vS "NoRow" 414),some (vS "NoRow" 422),some (.builtin "ValueError.__new__"),some (.bool true)]),
 (nat_lit 212,dO P [de "__module__" 437 pm2,de "__firstlineno__" 441 (vI 46 440),de "__init__" 449 (.ref 210),de "__static_attributes__" 451 (.ref 211),de "__weakref__" 453 (.ref 214),de "__doc__" 454 .none] 3),
 (nat_lit 213,cO "NoPoint" [(.type "KeyError")] [(.ref 213),(.type "KeyError"),(.type "LookupError"),(.type "Exception"),(.type "BaseException"),(.type "object")] 212 [] #[some (.ref 197),none,some (vS "NoPoint" 430),some (vS "NoPoint" 438),some (.builtin "LookupError.__new__"),some (.bool true)]),
 (nat_lit 232,dO P [de "__module__" 466 pm2,de "__firstlineno__" 470 (vI 51 469),de "__init__" 478 (.ref 230),de "__static_attributes__" 480 (.ref 231),de "__weakref__" 482 (.ref 234),de "__doc__" 483 .none] 3),
 (nat_lit 233,cO "NoName" [(.type "KeyError")] [(.ref 233),(.type "KeyError"),(.type "LookupError"),(.type "Exception"),(.type "BaseException"),(.type "object")] 232 [] #[some (.ref 217),none,some (vS "NoName" 459),some (vS "NoName" 467),some (.builtin "LookupError.__new__"),some (.bool true)]),
 (nat_lit 252,dO P [de "__module__" 495 pm2,de "__firstlineno__" 499 (vI 56 498),de "__init__" 507 (.ref 250),de "__static_attributes__" 509 (.ref 251),de "__weakref__" 511 (.ref 254),de "__doc__" 512 .none] 3),
 (nat_lit 253,cO "NoKey" [(.type "LookupError")] [(.ref 253),(.type "LookupError"),(.type "Exception"),(.type "BaseException"),(.type "object")] 252 [] #[some (.ref 237),none,some (vS "NoKey" 488),some (vS "NoKey" 496),some (.builtin "LookupError.__new__"),some (.bool true)]),
 (nat_lit 265,dO P [de "__module__" 522 pm2,de "__firstlineno__" 526 (vI 61 525),de "__static_attributes__" 527 (.ref 264),de "__weakref__" 529 (.ref 267),de "__doc__" 530 .none] 3),
 (nat_lit 266,cO "NoBack" [(.type "IndexError")] [(.ref 266),(.type "IndexError"),(.type "LookupError"),(.type "Exception"),(.type "BaseException"),(.type "object")] 265 [] #[some (.ref 257),none,some (vS "NoBack" 515),some (vS "NoBack" 523),some (.builtin "IndexError.__new__"),some (.bool true)]),
 (nat_lit 285,dO P [de "__module__" 542 pm2,de "__firstlineno__" 546 (vI 63 545),de "__init__" 554 (.ref 283),de "__static_attributes__" 556 (.ref 284),de "__weakref__" 558 (.ref 287),de "__doc__" 559 .none] 3),
 (nat_lit 286,cO "TooMany" [(.type "OverflowError")] [(.ref 286),(.type "OverflowError"),(.type "ArithmeticError"),(.type "Exception"),(.type "BaseException"),(.type "object")] 285 [] #[some (.ref 270),none,some (vS "TooMany" 535),some (vS "TooMany" 543),some (.builtin "OverflowError.__new__"),some (.bool true)]),
 (nat_lit 295,kO "is_key" "is_key" 570 71 1 [(vI 0 0),(vI 0 0),(vI 3 0),(.ref 290),(.bool true),(vI 181 0),(.ref 291),.none,(.ref 292),(.ref 293),(.ref 294),(vI 574 0),(vI 71 0),(vS "/claim/cut.py" 575)]),
 (nat_lit 296,fO "is_key" "is_key" (top 21) .none pm3 295),
 (nat_lit 302,kO "is_point" "is_point" 577 73 1 [(vI 0 0),(vI 0 0),(vI 3 0),(.ref 297),(.bool true),(vI 181 0),(.ref 298),.none,(.ref 299),(.ref 300),(.ref 301),(vI 581 0),(vI 73 0),(vS "/claim/cut.py" 582)]),
 (nat_lit 303,fO "is_point" "is_point" (top 22) .none pm3 302),
 (nat_lit 309,kO "look_at_points" "look_at_points" 584 75 1 [(vI 0 0),(vI 0 0),(vI 3 0),(.ref 304),(.bool true),(vI 181 0),(.ref 305),.none,(.ref 306),(.ref 307),(.ref 308),(vI 590 0),(vI 75 0),(vS "/claim/cut.py" 591)]),
 (nat_lit 310,fO "look_at_points" "look_at_points" (top 23) .none pm3 309),
 (nat_lit 314,kO "in_order" "in_order" 593 81 1 [(vI 0 0),(vI 0 0),(vI 3 0),(.ref 311),(.bool true),(vI 181 0),(.ref 312),.none,.none,.none,(.ref 313),(vI 596 0),(vI 81 0),(vS "/claim/cut.py" 597)]),
 (nat_lit 315,fO "in_order" "in_order" (top 24) .none pm3 314),
 (nat_lit 323,{ cls:=.type "tuple",data:=.seq #[.none] }),
 (nat_lit 329,kO "__init__" "Points.__init__" 611 85 2 [(vI 0 0),(vI 0 0),(vI 3 0),(.ref 324),(.bool true),(vI 181 0),(.ref 325),.none,(.ref 326),(.ref 327),(.ref 328),(vI 616 0),(vI 85 0),(vS "/claim/cut.py" 617)]),
 (nat_lit 330,fO "__init__" "Points.__init__" (L2.inClass (top 25) 0) (.ref 323) pm3 329),
 (nat_lit 336,kO "points" "Points.points" 619 91 1 [(vI 0 0),(vI 0 0),(vI 3 0),(.ref 331),(.bool true),(vI 181 0),(.ref 332),.none,(.ref 333),(.ref 334),(.ref 335),(vI 623 0),(vI 91 0),(vS "/claim/cut.py" 624)]),
 (nat_lit 337,fO "points" "Points.points" (L2.inClass (top 25) 1) .none pm3 336),
 (nat_lit 409,dO P [de "__module__" 606 pm3,de "__firstlineno__" 610 (vI 83 609),de "__init__" 618 (.ref 330),de "points" 625 (.ref 337),de "has" 633 (.ref 344),de "keys_at" 641 (.ref 351),de "moments_of" 649 (.ref 358),de "all_keys" 656 (.ref 365),de "all_moments" 663 (.ref 372),de "more" 672 (.ref 379),de "less" 680 (.ref 386),de "__eq__" 688 (.ref 393),de "__len__" 695 (.ref 400),de "__repr__" 702 (.ref 407),de "__static_attributes__" 704 (.ref 408),de "__dict__" 706 (.ref 411),de "__weakref__" 708 (.ref 412),de "__doc__" 709 .none,de "__hash__" 710 .none] 5),
 (nat_lit 410,cO "Points" [(.type "object")] [(.ref 410),(.type "object")] 409 [] #[none,none,some (vS "Points" 599),some (vS "Points" 607),some (.builtin "object.__new__"),some (.bool true)]),
 (nat_lit 420,kO "have_box" "have_box" 715 128 2 [(vI 0 0),(vI 0 0),(vI 3 0),(.ref 415),(.bool true),(vI 181 0),(.ref 416),.none,(.ref 417),(.ref 418),(.ref 419),(vI 720 0),(vI 128 0),(vS "/claim/cut.py" 721)]),
 (nat_lit 421,fO "have_box" "have_box" (top 27) .none (vS "thirdpoint.boxes" 713) 420),
 (nat_lit 427,kO "in_box" "in_box" 723 130 3 [(vI 0 0),(vI 0 0),(vI 3 0),(.ref 422),(.bool true),(vI 181 0),(.ref 423),.none,(.ref 424),(.ref 425),(.ref 426),(vI 731 0),(vI 130 0),(vS "/claim/cut.py" 732)]),
 (nat_lit 428,fO "in_box" "in_box" (top 28) .none (vS "thirdpoint.boxes" 713) 427),
 (nat_lit 432,kO "thirds" "thirds" 734 133 3 [(vI 0 0),(vI 0 0),(vI 3 0),(.ref 429),(.bool true),(vI 181 0),(.ref 430),.none,.none,.none,(.ref 431),(vI 737 0),(vI 133 0),(vS "/claim/cut.py" 738)]),
 (nat_lit 433,fO "thirds" "thirds" (top 29) .none (vS "thirdpoint.boxes" 713) 432),
 (nat_lit 439,kO "_law_cell_at" "_law_cell_at" 742 138 2 [(vI 0 0),(vI 0 0),(vI 3 0),(.ref 434),(.bool true),(vI 181 0),(.ref 435),.none,(.ref 436),(.ref 437),(.ref 438),(vI 747 0),(vI 138 0),(vS "/claim/cut.py" 748)]),
 (nat_lit 440,fO "_law_cell_at" "_law_cell_at" (top 31) .none pm0 439),
 (nat_lit 446,kO "_law_pool" "_law_pool" 750 142 2 [(vI 0 0),(vI 0 0),(vI 3 0),(.ref 441),(.bool true),(vI 181 0),(.ref 442),.none,(.ref 443),(.ref 444),(.ref 445),(vI 757 0),(vI 142 0),(vS "/claim/cut.py" 758)]),
 (nat_lit 447,fO "_law_pool" "_law_pool" (top 32) .none pm0 446),
 (nat_lit 453,kO "_law_take" "_law_take" 760 148 2 [(vI 0 0),(vI 0 0),(vI 3 0),(.ref 448),(.bool true),(vI 181 0),(.ref 449),.none,(.ref 450),(.ref 451),(.ref 452),(vI 766 0),(vI 148 0),(vS "/claim/cut.py" 767)]),
 (nat_lit 454,fO "_law_take" "_law_take" (top 33) .none pm0 453),
 (nat_lit 460,kO "_law_point" "_law_point" 769 155 3 [(vI 0 0),(vI 0 0),(vI 3 0),(.ref 455),(.bool true),(vI 181 0),(.ref 456),.none,(.ref 457),(.ref 458),(.ref 459),(vI 775 0),(vI 155 0),(vS "/claim/cut.py" 776)]),
 (nat_lit 461,fO "_law_point" "_law_point" (top 34) .none pm0 460),
 (nat_lit 465,kO "_law_sorted" "_law_sorted" 778 157 1 [(vI 0 0),(vI 0 0),(vI 3 0),(.ref 462),(.bool true),(vI 181 0),(.ref 463),.none,.none,.none,(.ref 464),(vI 781 0),(vI 157 0),(vS "/claim/cut.py" 782)]),
 (nat_lit 466,fO "_law_sorted" "_law_sorted" (top 35) .none pm0 465),
 (nat_lit 472,kO "_law_inside" "_law_inside" 784 159 3 [(vI 0 0),(vI 0 0),(vI 3 0),(.ref 467),(.bool true),(vI 181 0),(.ref 468),.none,(.ref 469),(.ref 470),(.ref 471),(vI 792 0),(vI 159 0),(vS "/claim/cut.py" 793)]),
 (nat_lit 473,fO "_law_inside" "_law_inside" (top 36) .none pm0 472),
 (nat_lit 477,kO "_law_thirds" "_law_thirds" 795 163 3 [(vI 0 0),(vI 0 0),(vI 3 0),(.ref 474),(.bool true),(vI 181 0),(.ref 475),.none,.none,.none,(.ref 476),(vI 798 0),(vI 163 0),(vS "/claim/cut.py" 799)]),
 (nat_lit 478,fO "_law_thirds" "_law_thirds" (top 37) .none pm0 477),
 (nat_lit 491,kO "_law_kind" "_law_kind" 812 172 1 [(vI 0 0),(vI 0 0),(vI 3 0),(.ref 486),(.bool true),(vI 181 0),(.ref 487),.none,(.ref 488),(.ref 489),(.ref 490),(vI 818 0),(vI 172 0),(vS "/claim/cut.py" 819)]),
 (nat_lit 492,fO "_law_kind" "_law_kind" (top 39) .none pm0 491),
 (nat_lit 498,kO "_law_told" "_law_told" 821 182 3 [(vI 0 0),(vI 0 0),(vI 3 0),(.ref 493),(.bool true),(vI 181 0),(.ref 494),.none,(.ref 495),(.ref 496),(.ref 497),(vI 830 0),(vI 182 0),(vS "/claim/cut.py" 831)]),
 (nat_lit 499,fO "_law_told" "_law_told" (top 40) .none pm0 498),
 (nat_lit 503,kO "law" "law" 833 192 1 [(vI 0 0),(vI 0 0),(vI 3 0),(.ref 500),(.bool true),(vI 181 0),(.ref 501),.none,.none,.none,(.ref 502),(vI 836 0),(vI 192 0),(vS "/claim/cut.py" 837)]),
 (nat_lit 504,fO "law" "law" (top 41) .none pm0 503)]
def kAs:List Addr:=[1,2,3,30,31,50,51,66,67,69,70,88,89,107,108,126,127,145,146,157,158,169,170,181,182,193,194,212,213,232,233,252,253,265,266,285,286,295,296,302,303,309,310,314,315,323,329,330,336,337,409,410,420,421,427,428,432,433,439,440,446,447,453,454,460,461,465,466,472,473,477,478,491,492,498,499,503,504]
theorem kAs_eq(P:Params):kAs=(KK P).map (·.1):=by kernel_rfl
def kKeep:List Nat:=[0,2,3,4,5,6,7,8,9,10,11,12,13,14,15,16,17,19,20,21,22,23,24,25,27,28,29,31,32,33,34,35,36,37,38,39,40,41]
theorem twin:Nat.ble 1 PySem.Challenge.pw_thirdpoint_k06_thirds_told.main.body.length=true:=by k_qdec
set_option maxHeartbeats 0 in
theorem run(w:World)(os:OsState):(zmV Fast.tw14364793385576792824 Fast.tw17304112791417657050 w 11 (some (.ref 6)) 9736 (zlg w.params os) (topStub Fast.tw17304112791417657050)).map (fun s=>((staticsOk (importedModules Fast.tw17304112791417657050.main.body) (boot_heap w.params) s.abs.heap && namesBound Fast.tw17304112791417657050 s.abs.heap && gensDone s.abs && laidKept (boot_heap w.params) s.abs.heap),
 Fast.tw4187177175401517315 (view Fast.tw17304112791417657050 kKeep) [] (importedModules Fast.tw17304112791417657050.main.body) (fun s=>xlAt (view Fast.tw17304112791417657050 kKeep) [] s && recOk [] s) true s.abs,kAs.map s.abs.heap.get?))=some (true,openGood (view Fast.tw17304112791417657050 kKeep) [],(KK w.params).map fun x=>some x.2):=by kernel_rfl
theorem left:LeftO PySem.Challenge.pw_thirdpoint_k06_thirds_told (view PySem.Challenge.pw_thirdpoint_k06_thirds_told kKeep) [] (fun s=>xlAt (view PySem.Challenge.pw_thirdpoint_k06_thirds_told kKeep) [] s && recOk [] s) (fun s=>kAs.map s.heap.get?) (fun w=>(KK w.params).map fun x=>some x.2) 9736 :=
 znd Fast.te17304112791417657050 (by kernel_rfl) rfl (fun _=>by kernel_rfl) run
end K06
namespace Xf
open PySem L2 Ex Dv
abbrev upV:List Value:=[.type "ValueError",.type "Exception",.type "BaseException",.type "object"]
abbrev upK:List Value:=[.type "KeyError",.type "LookupError",.type "Exception",.type "BaseException",.type "object"]
abbrev upL:List Value:=[.type "LookupError",.type "Exception",.type "BaseException",.type "object"]
abbrev upI:List Value:=[.type "IndexError",.type "LookupError",.type "Exception",.type "BaseException",.type "object"]
abbrev upO:List Value:=[.type "OverflowError",.type "ArithmeticError",.type "Exception",.type "BaseException",.type "object"]
theorem zbv(self:Value):refuseLoop self "__setattr__" upV=pure ():=F.store_ValueError.passes self
theorem zls(self:Value):refuseLoop self "__setattr__" upK=pure ():=by kernel_rfl
theorem zoY(self:Value):refuseLoop self "__setattr__" upL=pure ():=by kernel_rfl
theorem zpE(self:Value):refuseLoop self "__setattr__" upI=pure ():=by kernel_rfl
theorem zo8(self:Value):refuseLoop self "__setattr__" upO=pure ():=by kernel_rfl
def upOf:Cn->List Value
 | .NoPoint | .NoName=>upK
 | .NoKey=>upL
 | .NoBack=>upI
 | .TooMany=>upO
 | _=>upV
def nwOf:Cn->String
 | .NoPoint | .NoName | .NoKey => "LookupError.__new__"
 | .NoBack => "IndexError.__new__"
 | .TooMany => "OverflowError.__new__"
 | _ => "ValueError.__new__"
theorem zpp:∀ (C:Cn) (self:Value),refuseLoop self "__setattr__" (upOf C)=pure ()
 | .PointError,s=>zbv s
 | .NoPoints,s=>zbv s
 | .NoBox,s=>zbv s
 | .NoAsks,s=>zbv s
 | .NoRun,s=>zbv s
 | .NoText,s=>zbv s
 | .NoTurn,s=>zbv s
 | .NoTree,s=>zbv s
 | .NoTop,s=>zbv s
 | .NotServed,s=>zbv s
 | .NoRow,s=>zbv s
 | .NoPoint,s=>zls s
 | .NoName,s=>zls s
 | .NoKey,s=>zoY s
 | .NoBack,s=>zpE s
 | .TooMany,s=>zo8 s
 | .Points,s=>zbv s
 | .Grower,s=>zbv s
 | .Search,s=>zbv s
 | .Turner,s=>zbv s
 | .Desk,s=>zbv s
def clsB(K:W.Frag)(C:Addr)(up:List Value)(nw:String):Bool:=ze2 K C up nw && (W.findIn K (.ref C) "__getattribute__" == some (some (.builtin "BaseException.__getattribute__"))) && (W.findIn K (.ref C) "__getattr__" == some none) &&
 (W.findIn K (.ref C) "__setattr__" == some (some (.builtin "object.__setattr__"))) && (W.mroIn K C (.type "BaseException") == some true) && (W.mroIn K C (.type "object") == some true) && (W.findIn K (.ref C) "__class__" == some (some (.builtin "object.__class__"))) &&
 (W.specialIn K (.builtin "object.__class__") "__get__" == some (some (.builtin "getset_descriptor.__get__"))) && (W.takesIn K (.builtin "object.__class__") == some true) && (W.kitCls K (.ref C) (.ref C) == some true) && W.keepIn K (.ref C)
theorem zqe{K:W.Frag}{C:Addr}{up:List Value}{nw:String}(ok:∀ self,refuseLoop self "__setattr__" up=pure ())(h:clsB K C up nw=true):ze2 K C up nw=true/\XK0 K C:=by
 unfold clsB at h
 simp only[Bool.and_eq_true,beq_iff_eq] at h
 obtain⟨⟨⟨⟨⟨⟨⟨⟨⟨⟨a,b⟩,c⟩,d⟩,e⟩,f⟩,g⟩,i⟩,j⟩,k⟩,l⟩:=h
 exact⟨a,zpC ok a b c d e f g i j k l⟩
variable[KC]
theorem all_cls{L:List Cn}(h:L.all (fun C=>clsB KC.K (KC.cls C) (upOf C) (nwOf C))=true){C:Cn}(hc:L.contains C=true):ze2 KC.K (KC.cls C) (upOf C) (nwOf C)=true/\XK0 KC.K (KC.cls C) :=
 zqe (zpp C) (List.all_eq_true.mp h C (List.contains_iff_mem.mp hc))
def zqZ(K:W.Frag)(cls:Cn->Addr)(L:List Cn)(T:Cn):Bool:=L.all (fun C=>W.kitOne K (.ref (cls C)) (.ref (cls T)) == some (sub C T)) && tyNs.all (fun t=>W.kitOne K (.type t) (.ref (cls T)) == some false)
theorem kit_of{L:List Cn}{T:Cn}(h:zqZ KC.K KC.cls L T=true)(hx:∀ C,L.contains C=true->XC KC.K (KC.cls C)):KitX L T:=by
 unfold zqZ at h
 rw[Bool.and_eq_true,List.all_eq_true,List.all_eq_true] at h
 exact⟨fun C hc=>⟨beq_iff_eq.mp (h.1 C (List.contains_iff_mem.mp hc)),hx C hc⟩,fun t ht=>beq_iff_eq.mp (h.2 t ht)⟩
theorem mt_of{L:List Cn}{cs:List Value}(h:L.all (fun C=>matchIn KC.K (KC.cls C) cs == some true)=true):∀ C,L.contains C=true->matchIn KC.K (KC.cls C) cs=some true:=fun C hc=>beq_iff_eq.mp (List.all_eq_true.mp h C (List.contains_iff_mem.mp hc))
theorem na_of{L:List Cn}{y:Str}(h:L.all (fun C=>W.findIn KC.K (.ref (KC.cls C)) y == some none)=true)(hx:∀ C,L.contains C=true->XC KC.K (KC.cls C)):∀ C,L.contains C=true->XC KC.K (KC.cls C)/\NoAttr KC.K (KC.cls C) y:=fun C hc=>⟨hx C hc,beq_iff_eq.mp (List.all_eq_true.mp h C (List.contains_iff_mem.mp hc))⟩
theorem xin_pe{K:W.Frag}{D:Addr}(a:W.specialIn K (.ref D) "__getattribute__" = some (some (.builtin "type.__getattribute__")))(b:W.readsIn K D (.type "type")=true)(c:W.findCls K (.ref D) (.type "type") "__init__" = some (.val (.builtin "ValueError.__init__"))):XIn K (.ref D) "ValueError" "ValueError.__init__" :=
 ⟨.inl ⟨D,rfl,a,b,c⟩,by decide +kernel,_,XB.of F.excBase_ValueError⟩
theorem fun_K{K:W.Frag}{x q:Str}{st:Stmt}{a cd:Addr}{pm:Value}(l:K.lookup a=some (Hd.fO x q st .none pm cd))(c:W.codeIn K (.ref cd) q=true)(k:W.keepIn K (.ref a)=true):∃ fd,Fun K x q st a fd:=⟨_,L2.fun_mk l c k⟩
theorem at_K{mg:Str->Option Value}{x:Str}{st:Stmt}{a cd:Addr}{pm:Value}{h:Heap}(X:KC.K.In h)(G:h.Ns mainGlobals mg)(l:KC.K.lookup a=some (Hd.fO x x st .none pm cd):=by kernel_rfl)(c:W.codeIn KC.K (.ref cd) x=true:=by kernel_rfl)(k:W.keepIn KC.K (.ref a)=true:=by kernel_rfl)(n:W.nsIn KC.K mainGlobals x=some (some (.ref a)):=by kernel_rfl):At mg x st :=
 let ⟨fd,U⟩:=fun_K l c k; ⟨a,fd,U,W.mg_of X G n,k⟩
structure XT(K:W.Frag)(C:Addr)(B:String)(x:Str):Prop where
 xc:XC K C
 sub:W.mroIn K C (.type B)=some true
 no:NoAttr K C x
end Xf
namespace K06
open PySem L2 Ex Dv
def zq6:Cn->Addr
 | .PointError=>31
 | .NoPoints=>51
 | .NoBox=>70
 | .NoAsks=>89
 | .NoRun=>108
 | .NoText=>127
 | .NoTurn=>146
 | .NoTree=>158
 | .NoTop=>170
 | .NotServed=>182
 | .NoRow=>194
 | .NoPoint=>213
 | .NoName=>233
 | .NoKey=>253
 | .NoBack=>266
 | .TooMany=>286
 | .Points=>410
 | _=>0
section
variable{P:Program}{w:World}{K:W.Frag}{mg:Str->Option Value}{base:Heap}
theorem zlU:FnScope ["self","one","other"] ["self","one","other"] (defScope (L2.inClass (top 4) 0)):=⟨rfl,rfl,rfl,by decide +kernel,rfl,by decide +kernel,by decide +kernel⟩
theorem zlB{f C D:Addr}{fd:FuncData}{ini:String}(F:Fun K "__init__" "NoBox.__init__" (L2.inClass (top 4) 0) f fd)(T:Xf.XT K C "ValueError" "one")(n2:NoAttr K C "other")(Z:XIn K (.ref D) "ValueError" ini)(hm:mg "PointError" = some (.ref D)):FnOk P w K mg base CX0 1 f fd ["self","one","other"] (zqj C "one" "other"):=by
 refine F.ok zlU (fun vs H Q E h=>?_) (fun cdv A outer s H vs Q E hr h=>?_)
 · obtain⟨a,v,u,fr,rfl,_⟩:=h
   rfl
 · obtain⟨a,v,u,fr,rfl,ha,k⟩:=h
   refine⟨_,zbx (zgU (zlk (zaV (v:=.ref D) rfl hm rfl) Z (zag (pv 0) (zag zlj zaK)))) (zbx (zjF (pv 0) (pv 1) rfl) (zck (zjF (pv 0) (pv 2) rfl))),?_⟩
   refine⟨_,rfl,a,C,fr,_,rfl,ha,T.xc,T.sub,by decide,?_⟩
   refine⟨_,rfl,_,rfl,a,C,fr,rfl,T.xc,T.no,.inl ⟨ha,fun d hd ne=>?_⟩⟩
   refine⟨_,rfl,_,rfl,a,C,fr,rfl,T.xc,n2,.inr ⟨d,[("one",v)],zal,by rw[zaf ne,zal],by show 1<1000;decide,?_⟩⟩
   have e:zcw "other" u [(("one" : Str),v)]=[(("one" : Str),v),("other",u)]:=by
    show(if ("one" : Str) = "other" then _ else (("one" : Str),v)::zcw "other" u [])=_
    rw[if_neg (show ¬ (("one" : Str) = "other") by decide +kernel)]
    rfl
   rw[e]
   exact k d hd ne
end
def zjG(K:W.Frag):Sp:=fun vs H Q _=>∃ (a:Addr) (ns:List Int),vs=[.ref a]/\SqL K H a (ns.map V.int)/\ns.length<=63/\∀ H',Q (.bl true) H'
theorem znE[KC](vs:List V)(H:Hp)(Q:VK)(E:XK)(h:zjG KC.K vs H Q E):spP zhu vs H Q E:=by
 obtain⟨a,ns,rfl,hS,hl,hQ⟩:=h
 refine⟨H,[.scr ns],fun _ _ z=>z,.cons (.scr hS) .nil,?_⟩
 rw[zp7 ns hl]
 intro x H' R' _ hx
 cases hx
 exact hQ H'
theorem all_mk{l:W.OpenLaw}{w:World}{h:Heap}{mg:Str->Option Value}{fa:Addr}(X:(KK w.params).In h)(G:h.Ns mainGlobals mg)(hfa:mg "law" = some (.ref fa)) :
 ∃ fd:FuncData,(∀ (s:Shared) (v:Value),BindsTo s fd ⟨[v],[]⟩ [("_law_script",v)])/\∀ base:Heap,(KK w.params).In base->base.Ns mainGlobals mg->FnOk l.prog w (KK w.params) mg base CX0 6 fa fd ["_law_script"] (zjG (KK w.params)):=by
 letI:KC:=⟨KK w.params,zq6⟩
 have mg0:∀ {n:Str},W.nsIn (KK w.params) mainGlobals n=some none->mg n=none:=fun z=>W.mg_none_of X G z
 have mg1:∀ {n:Str} {v:Value},W.nsIn (KK w.params) mainGlobals n=some (some v)->mg n=some v:=fun z=>W.mg_of X G z
 have cl:exL.all (fun C=>Xf.clsB KC.K (KC.cls C) (Xf.upOf C) (Xf.nwOf C))=true:=by kernel_rfl
 have xc:∀ C,exL.contains C=true->XC KC.K (KC.cls C):=fun C hc=>(Xf.all_cls cl hc).2.xc
 have xV:=Xf.xin_pe (K:=KK w.params) (D:=zq6 .PointError) (by kernel_rfl) (by kernel_rfl) (by kernel_rfl)
 obtain⟨q_NoBox,z_NoBox⟩:=Xf.all_cls cl (C:=.NoBox) (by decide)
 obtain⟨fd_NoBox,U_NoBox⟩:=Xf.fun_K (K:=KK w.params) (x := "__init__") (q := "NoBox.__init__") (st:=(L2.inClass (top 4) 0)) (a:=67) (cd:=66) (pm:=pm2) (by kernel_rfl) (by kernel_rfl) (by kernel_rfl)
 have M:Nm mg:=⟨mg0 (n := "bool") (by kernel_rfl),
  mg0 (n := "enumerate") (by kernel_rfl),
  mg0 (n := "int") (by kernel_rfl),
  mg0 (n := "isinstance") (by kernel_rfl),
  mg0 (n := "len") (by kernel_rfl),
  mg0 (n := "list") (by kernel_rfl),
  mg0 (n := "max") (by kernel_rfl),
  mg0 (n := "min") (by kernel_rfl),
  mg0 (n := "range") (by kernel_rfl),
  mg0 (n := "repr") (by kernel_rfl),
  mg0 (n := "set") (by kernel_rfl),
  mg0 (n := "sorted") (by kernel_rfl),
  mg0 (n := "tuple") (by kernel_rfl),
  ⟨566,mg1 (n := "LAST_KEY") (v:=.int 30 566) (by kernel_rfl)⟩,
  ⟨568,mg1 (n := "MOST_POINTS") (v:=.int 200 568) (by kernel_rfl)⟩,
  mg1 (n := "NoAsks") (v:=.ref 89) (by kernel_rfl),
  mg1 (n := "NoBack") (v:=.ref 266) (by kernel_rfl),
  mg1 (n := "NoBox") (v:=.ref 70) (by kernel_rfl),
  mg1 (n := "NoKey") (v:=.ref 253) (by kernel_rfl),
  mg1 (n := "NoName") (v:=.ref 233) (by kernel_rfl),
  mg1 (n := "NoPoint") (v:=.ref 213) (by kernel_rfl),
  mg1 (n := "NoPoints") (v:=.ref 51) (by kernel_rfl),
  mg1 (n := "NoRow") (v:=.ref 194) (by kernel_rfl),
  mg1 (n := "NoRun") (v:=.ref 108) (by kernel_rfl),
  mg1 (n := "NoText") (v:=.ref 127) (by kernel_rfl),
  mg1 (n := "NoTop") (v:=.ref 170) (by kernel_rfl),
  mg1 (n := "NoTree") (v:=.ref 158) (by kernel_rfl),
  mg1 (n := "NoTurn") (v:=.ref 146) (by kernel_rfl),
  mg1 (n := "NotServed") (v:=.ref 182) (by kernel_rfl),
  mg1 (n := "PointError") (v:=.ref 31) (by kernel_rfl),
  mg1 (n := "Points") (v:=.ref 410) (by kernel_rfl),
  mg1 (n := "TooMany") (v:=.ref 286) (by kernel_rfl),
  fun P w2 base=>⟨⟨67,fd_NoBox,zpF F.excBase_ValueError (by decide +kernel) (XB.of F.excBase_ValueError) q_NoBox (by kernel_rfl) (by kernel_rfl),zlB U_NoBox ⟨z_NoBox.xc,by kernel_rfl,by show W.findIn _ _ _=_;kernel_rfl⟩ (by show W.findIn _ _ _=_;kernel_rfl) xV (mg1 (by kernel_rfl)),U_NoBox.binds (ps:=["self","one","other"]) fun _ _ _ _ _ _ us hl=>match us,hl with | [_,_,_],_=>rfl⟩,z_NoBox⟩,
  Xf.kit_of (by kernel_rfl) xc,
  Xf.kit_of (by kernel_rfl) xc,
  Xf.kit_of (by kernel_rfl) xc,
  Xf.kit_of (by kernel_rfl) xc,
  Xf.kit_of (by kernel_rfl) xc,
  Xf.kit_of (by kernel_rfl) xc,
  Xf.kit_of (by kernel_rfl) xc,
  Xf.kit_of (by kernel_rfl) xc,
  Xf.kit_of (by kernel_rfl) xc,
  Xf.kit_of (by kernel_rfl) xc,
  Xf.kit_of (by kernel_rfl) xc,
  Xf.kit_of (by kernel_rfl) xc,
  Xf.kit_of (by kernel_rfl) xc,
  Xf.kit_of (by kernel_rfl) xc,
  Xf.kit_of (by kernel_rfl) xc,
  Xf.kit_of (by kernel_rfl) xc,
  Xf.mt_of (by kernel_rfl),
  Xf.na_of (by kernel_rfl) xc,
  Xf.na_of (by kernel_rfl) xc,
  ⟨_,(by kernel_rfl:KC.K.lookup 1=some (Hd.dO w.params [Hd.de "builtins" 162 (.ref 4),Hd.de "__main__" 163 (.ref 5)] 2)),rfl⟩,
  ⟨by kernel_rfl,by kernel_rfl,by kernel_rfl,by kernel_rfl⟩,
  (by show W.findIn _ _ _=_;kernel_rfl)⟩
 have T:Ats mg:=⟨Xf.at_K (a:=315) (cd:=314) (pm:=pm3) X G,
  Xf.at_K (a:=296) (cd:=295) (pm:=pm3) X G,
  Xf.at_K (a:=303) (cd:=302) (pm:=pm3) X G,
  Xf.at_K (a:=310) (cd:=309) (pm:=pm3) X G,
  ⟨330,(.ref 323),.none,.none,pm3,.ref 329,.none,.type "function",none,none, #[],by kernel_rfl,by kernel_rfl,⟨by kernel_rfl,by kernel_rfl,by kernel_rfl,by kernel_rfl⟩,(fun s us X hl=>match us,hl with | [_,_],_=>W.kp_binds X fun S=>by kernel_rfl),(fun s us X hl=>match us,hl with | [_],_=>W.kp_binds X fun S=>by kernel_rfl | [],h=>by simp at h | _::_::_,h=>by simp at h)⟩,
  (let ⟨fd,U⟩:=Xf.fun_K (K:=KK w.params) (x := "points") (q := "Points.points") (st:=zaZ) (a:=337) (cd:=336) (pm:=pm3) (by kernel_rfl) (by kernel_rfl) (by kernel_rfl); ⟨337,fd,U,⟨by kernel_rfl,by kernel_rfl,by kernel_rfl⟩⟩),
  Xf.at_K (a:=454) (cd:=453) (pm:=pm0) X G,
  Xf.at_K (a:=461) (cd:=460) (pm:=pm0) X G,
  Xf.at_K (a:=440) (cd:=439) (pm:=pm0) X G,
  Xf.at_K (a:=447) (cd:=446) (pm:=pm0) X G,
  Xf.at_K (a:=466) (cd:=465) (pm:=pm0) X G,
  Xf.at_K (a:=473) (cd:=472) (pm:=pm0) X G,
  Xf.at_K (a:=478) (cd:=477) (pm:=pm0) X G,
  Xf.at_K (a:=492) (cd:=491) (pm:=pm0) X G,
  Xf.at_K (a:=421) (cd:=420) (pm:=(Hd.vS "thirdpoint.boxes" 713)) X G,
  Xf.at_K (a:=428) (cd:=427) (pm:=(Hd.vS "thirdpoint.boxes" 713)) X G,
  Xf.at_K (a:=433) (cd:=432) (pm:=(Hd.vS "thirdpoint.boxes" 713)) X G,
  Xf.at_K (a:=499) (cd:=498) (pm:=pm0) X G,
  Xf.at_K (a:=504) (cd:=503) (pm:=pm0) X G⟩
 obtain⟨d,U⟩:=Xf.fun_K (K:=KK w.params) (x := "law") (q := "law") (st:=zeo) (a:=504) (cd:=503) (pm:=pm0) (by kernel_rfl) (by kernel_rfl) (by kernel_rfl)
 have e:mg "law" = some (.ref 504):=mg1 (by kernel_rfl)
 rw[hfa] at e
 cases e
 refine⟨d,fun s v=>?_,fun base _ _=>(zpZ T M U).imp fun vs H Q E q=>znE vs H Q E q⟩
 obtain⟨oc,od,kV,doc,pm,an,cdv,ct,osl,e,_,_⟩:=U.ex
 rw[e]
 exact .of_eq rfl
end K06
namespace K06
open PySem L2 Ex
theorem walk{l:W.OpenLaw}{q:Program}{loose:List Str}{XP:(Str->Option Value)->Heap->Prop}{YP:World->Heap->Prop}{d:DefRec}{K:Params->W.Frag}(hn:l.most=some 63)(hdf:d.params.defaults=[])
 (hY:∀ (w:World) (h:Heap),YP w h->(K w.params).In h)
 (F:∀ (w:World) (mg:Str->Option Value) (fa:Addr) (h:Heap),(K w.params).In h->h.Ns mainGlobals mg->mg d.name=some (.ref fa) ->
  ∃ fd:FuncData,(∀ (s:Shared) (u:Value),BindsTo s fd ⟨[u],[]⟩ [("_law_script",u)])/\∀ base:Heap,(K w.params).In base->base.Ns mainGlobals mg->FnOk l.prog w (K w.params) mg base CX0 6 fa fd ["_law_script"] (zjG (K w.params))) :
 W.WalkO q loose XP YP l.row.toRowW d [] (fun f vs=>PySem.call f vs) :=
 L2.walk_of (n:=63) (k:=6) (x := "_law_script") (CX:=fun _=>CX0) (sp:=fun w=>zjG (K w.params)) hn (by decide) hdf ⟨rfl,by decide,by decide,rfl⟩ hY F (fun _ _ a ns hl _ hS=>⟨a,ns,rfl,hS,hl,fun _=>rfl⟩) fun _ _ _ _ _ z=>z
end K06
open PySem PySem.W PyProof.Rows
set_option maxRecDepth 100000 in
set_option maxHeartbeats 0 in
theorem PySem.Challenge.cw_thirdpoint_k06_thirds_told_holds : PySem.Challenge.rw_thirdpoint_k06_thirds_told.Holds := by
 w_on;o_law
 refine PySem.W.holds_open (q:=view PySem.Challenge.pw_thirdpoint_k06_thirds_told K06.kKeep) (Yf:=Hook.obs (kHook K06.KK K06.kAs K06.kAs_eq)) (Ya:=Hook.val (kHook K06.KK K06.kAs K06.kAs_eq)) (YP:=Hook.says (kHook K06.KK K06.kAs K06.kAs_eq)) K06.left (Hook.of (kHook K06.KK K06.kAs K06.kAs_eq)) (Hook.keeps (kHook K06.KK K06.kAs K06.kAs_eq)) (fun s e=>xl_of s (Bool.and_eq_true_iff.mp e).1) XL.keeps (by rfl) (by rfl) (by rfl) (fun s e=>recFacts_of (Bool.and_eq_true_iff.mp e).2) (by rfl) (by first | assumption | decide +kernel) (by decide +kernel) ⟨rfl,rfl,rfl,rfl,rfl,by decide +kernel⟩ ?hw ?hc
 case hw=>w_witness2
 case hc=>exact K06.walk (l:=PySem.Challenge.rw_thirdpoint_k06_thirds_told) rfl rfl (fun w h Y=>PySem.W.kIn_of Y) fun w mg fa h KX G hmg=>K06.all_mk KX G hmg
