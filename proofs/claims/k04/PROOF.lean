import PyProof.Rows.All
import PyProof.ForAny
import PyProof.TupleKey
import Wide.All
import OpenK.AllK
import Wide.FinOn
import Lean
import PyProof.EqAt
import PyProof.EqKinds
import PyProof.TupleCall
import PyProof.ExcClass3
import PyProof.ExcArgsOwn
import PyProof.InstStoreFacts
import PyProof.NsDelKeeps
import PyProof.CompUse
import PyProof.ConsumeWalk
import PyProof.ReprRoads
import PyProof.ReprBulk
import PyProof.ZipIter
import PyProof.TupleIter
import PyProof.EqLayable
import PyProof.EnumMake
import PyProof.EnumFor
import PyProof.WalkInts
import PyProof.SeqI3
import PyProof.Rows.SeqJoint
import PyProof.Rows.SortWalk
import PyProof.Rows.Range3
import PyProof.Rows.SortRuns
import KE.KSortTup
import PyProof.P3Eq
import PySem.Challenge.RW_thirdpoint_k04_points_alike_and_written
set_option bootstrap.genMatcherCode false
set_option genSizeOf false
set_option Elab.async false
set_option linter.all false
set_option maxRecDepth 100000
set_option maxHeartbeats 8000000
set_option autoImplicit true
set_option relaxedAutoImplicit true
noncomputable section
def qaa:=@PySem.wpAny_bind
def qab:=@PySem.Heap.get?_push_of_some
def qac:=@PySem.wpAny_pure
def qad:=@List.getElem?_eq_some_iff
def qae:=@List.getElem?_eq_getElem
def qaf:=@PySem.Heap.lt_size
def qag:=@Nat.le_refl
def qah:=@PySem.Heap.get?_push_size
def qai:=@List.getElem?_set_ne
def qaj:=@PyProof.Rows.wpS_bind
def qak:=@List.getElem?_set_self
def qal:=@Nat.ne_of_lt
def qam:=@Array.getElem?_eq_getElem
def qan:=@PyProof.Rows.wpS_pure
def qao:=@PySem.wpAny_mono
def qap:=@Bool.false_ne_true
def qaq:=@List.length_append
def qar:=@List.mem_append_right
def qas:=@beq_iff_eq
def qat:=@List.mem_cons_of_mem
def qau:=@Array.getElem?_toList
def qav:=@List.mem_cons
def qaw:=@List.mem_cons_self
def qax:=@Nat.lt_of_lt_of_le
def qay:=@if_pos
def qaz:=@if_neg
def qaA:=@List.getElem?_append_right
def qaB:=@of_decide_eq_true
def qaC:=@Array.getElem?_eq_some_iff
def qaD:=@List.length_cons
def qaE:=@List.getElem?_map
def qaF:=@PySem.Heap.get?_update_other
def qaG:=@decide_eq_true
def qaH:=@List.getElem?_append_left
def qaI:=@Array.toList_append
def qaJ:=@List.take_append_drop
def qaK:=@List.length_map
def qaL:=@Option.some.inj
def qaM:=@List.append_assoc
def qaN:=@List.mem_of_getElem?
def qaO:=@List.mem_append
def qaP:=@List.size_toArray
def qaQ:=@List.drop_eq_getElem_cons
def qaR:=@Array.getD_eq_getD_getElem?
def qaS:=@Option.map_eq_some_iff
def qaT:=@Ne.symm
def qaU:=@decide_eq_false
def qaV:=@List.map_cons
def qaW:=@Array.length_toList
def qaX:=@List.append_nil
def qaY:=@PySem.wpAny_holding
def qaZ:=@List.drop_eq_nil_of_le
def qa0:=@PySem.wpAny_call_entry
def qa1:=@Bool.and_eq_true
def qa2:=@Nat.le_trans
def qa3:=@PySem.wpAny_callSpecial?_slot
def qa4:=@List.mem_singleton
def qa5:=@List.pairwise_iff_getElem
def qa6:=@List.filterMap_cons
def qa7:=@List.mem_map
def qa8:=@List.pairwise_append
def qa9:=@List.length_drop
def qba:=@PySem.wpAny_setField_rec
def qbb:=@List.mem_iff_getElem?
def qbc:=@List.length_set
def qbd:=@List.mem_append_left
def qbe:=@PyProof.Rows.wpS_forRange
def qbf:=@Nat.lt_irrefl
def qbg:=@List.nodup_cons
def qbh:=@PySem.wpAny_setState_of
def qbi:=@List.getElem?_replicate
def qbj:=@PySem.Around.under_plainId
def qbk:=@PySem.wpAny_field
def qbl:=@Bool.and_eq_true_iff
def qbm:=@PyProof.Rows.F.plain_set_update_loop
def qbn:=@List.length_take
def qbo:=@List.lookup_cons
def qbp:=@Nat.zero_le
def qbq:=@List.replicate_succ
def qbr:=@PySem.wpAny_newObj_type
def qbs:=@PySem.MeetsSeq.plain_contains_loop
def qbt:=@PySem.wpAny_seqItems
def qbu:=@Int.emod_lt_of_pos
def qbv:=@PySem.wpAny_standAt
def qbw:=@PyProof.Rows.callWith_type1
def qbx:=@decide_eq_false_iff_not
def qby:=@PySem.wpAny_askSetting
def qbz:=@Nat.lt_succ_self
def qbA:=@List.mem_reverse
def qbB:=@Array.perm_iff_toList_perm
def qbC:=@List.take_of_length_le
def qbD:=@PySem.wpAny_truthy_bool
def qbE:=@PySem.wpAny_loadPart_at
def qbF:=@PySem.Heap.size_push
def qbG:=@PySem.codeAny_builtin
def qbH:=@List.length_replicate
def qbI:=@PySem.wpAny_Call_Name_kw
def qbJ:=@PySem.codeAny_call_builtin
def qbK:=@Array.toList_extract
def qbL:=@List.mem_of_mem_take
def qbM:=@PySem.wpAny_attempt
def qbN:=@Nat.add_sub_cancel_left
def qbO:=@Option.bind_eq_some_iff
def qbP:=@Nat.lt_succ_of_lt
def qbQ:=@Int.emod_nonneg
def qbR:=@Bool.eq_iff_iff
def qbS:=@List.reverse_append
namespace St
open PySem
def kZ(xs:Array Nat):Prop:=xs.toList.Pairwise (· < ·)
theorem Ib(xs:Array Nat)(j:Nat)(hr:kZ xs):∀ (fuel lo hi:Nat),hi - lo<=fuel->lo<=hi->hi<=xs.size->(∀ i,i<lo->xs.getD i j<j)->(∀ i,hi<=i->i<xs.size->j<=xs.getD i j) ->
 let p:=SetTable.below.go xs j fuel lo hi
 p<=xs.size/\(∀ i,i<p->xs.getD i j<j)/\∀ i,p<=i->i<xs.size->j<=xs.getD i j:=by
 have mono:∀ a b,a<=b->b<xs.size->xs.getD a j<=xs.getD b j:=fun a b h hb=>by
  rcases Nat.lt_or_ge a b with h1 | h1
  · have:=(qa5.mp hr) a b (by simpa using Nat.lt_trans h1 hb) (by simpa using hb) h1
    simp only[Array.getElem_toList] at this
    rw[qaR,qaR,qam hb,qam (Nat.lt_trans h1 hb)]
    exact Nat.le_of_lt this
  · have:a=b:=by omega
    subst this;exact qag _
 intro fuel
 induction fuel with
 |zero =>
   intro lo hi h1 h2 h3 h4 h5
   have:lo=hi:=by omega
   subst this
   exact⟨h3,h4,h5⟩
 |succ f ih =>
   intro lo hi h1 h2 h3 h4 h5
   dsimp only
   unfold SetTable.below.go
   by_cases c:lo<hi
   · rw[qay c]
     dsimp only
     by_cases c2:xs.getD ((lo+hi) / 2) j<j
     · rw[qay c2]
       exact ih _ _ (by omega) (by omega) h3 (fun i hi'=>Nat.lt_of_le_of_lt (mono i _ (by omega) (by omega)) c2) h5
     · rw[qaz c2]
       exact ih _ _ (by omega) (by omega) (by omega) h4 (fun i hi' hs=>qa2 (Nat.le_of_not_lt c2) (mono _ i hi' hs))
   · rw[qaz c]
     have:lo=hi:=by omega
     subst this
     exact⟨h3,h4,h5⟩
theorem xw(hr:kZ xs)(j:Nat):SetTable.below xs j<=xs.size/\(∀ i,i<SetTable.below xs j->xs.getD i j<j)/\∀ i,SetTable.below xs j<=i->i<xs.size->j<=xs.getD i j :=
 Ib xs j hr xs.size 0 xs.size (by omega) (qbp _) (qag _) (fun i h=>absurd h (Nat.not_lt_zero _)) (fun i h1 h2=>absurd h2 (Nat.not_lt_of_le h1))
theorem lP{xs:Array Nat}(h:i<xs.size):xs.getD i j=xs[i]:=by
 rw[qaR,qam h];rfl
theorem Ic(hr:kZ xs)(hj:xs[SetTable.below xs j]? ≠ some j):kZ (SetTable.insertAt xs (SetTable.below xs j) j):=by
 obtain⟨h1,h2,h3⟩:=xw hr j
 have hr':=hr
 unfold kZ at hr ⊢
 rw[SetTable.toList_insertAt]
 have hs:(xs.toList.take (SetTable.below xs j)++xs.toList.drop (SetTable.below xs j)).Pairwise (· < ·):=by rw[qaJ];exact hr
 rw[qa8] at hs ⊢
 have lo:∀ a∈xs.toList.take (SetTable.below xs j),a<j:=fun a ha=>by
  obtain⟨i,hi,rfl⟩:=List.mem_iff_getElem.mp ha
  have hi':i<SetTable.below xs j/\i<xs.size:=by simp at hi;omega
  have:=h2 i hi'.1
  rw[lP hi'.2] at this
  simpa using this
 have hi:∀ a∈xs.toList.drop (SetTable.below xs j),j<a:=fun a ha=>by
  obtain⟨i,hi,rfl⟩:=List.mem_iff_getElem.mp ha
  have hi':SetTable.below xs j+i<xs.size:=by simp at hi;omega
  have hb:SetTable.below xs j<xs.size:=by omega
  have l1:=h3 (SetTable.below xs j) (qag _) hb
  rw[lP hb] at l1
  have l2:xs[SetTable.below xs j]≠j:=fun e=>hj (by rw[qam hb,e])
  have l3:=h3 (SetTable.below xs j+i) (Nat.le_add_right _ _) hi'
  rw[lP hi'] at l3
  simp only[List.getElem_drop,Array.getElem_toList]
  rcases Nat.eq_zero_or_pos i with z | z
  · subst z
    exact Nat.lt_of_le_of_ne l1 (qaT l2)
  · have:=(qa5.mp hr) (SetTable.below xs j) (SetTable.below xs j+i) (by simpa using hb) (by simpa using hi') (by omega)
    simp only[Array.getElem_toList] at this
    omega
 refine⟨hs.1,List.pairwise_cons.mpr ⟨hi,hs.2.1⟩,fun a ha b hb=>?_⟩
 rcases qav.mp hb with rfl | hb
 · exact lo a ha
 · exact Nat.lt_trans (lo a ha) (hi b hb)
theorem B1(j:Nat):SetTable.has #[] j=false:=by
 unfold SetTable.has
 simp
theorem Ie{t:SetTable}(hd:t.dummies = #[])(h:t.slot j = .empty):t.place[SetTable.below t.place j]? ≠ some j:=by
 unfold SetTable.slot at h
 dsimp only at h
 intro e
 rw[e] at h
 simp at h
theorem uI{t:SetTable}(hd:t.dummies = #[])(j:Nat):t.slot j ≠ .dummy:=by
 unfold SetTable.slot
 dsimp only
 rw[hd,B1]
 split
 · intro h;cases h
 · intro h;cases h
theorem Ig{t:SetTable}(hd:t.dummies = #[])(f:Nat->Int)(h:Int):∀ (n:Nat) (p:SetTable.Probe) (j:Nat) (d:Option Nat),p.dummy=none->SetTable.probe.go t f h n p=some (.empty j d)->d=none/\t.slot j = .empty:=by
 intro n
 induction n with
 |zero=>intro p j d _ e;cases e
 |succ n ih =>
   intro p j d hp e
   unfold SetTable.probe.go at e
   split at e
   · rename_i q
     cases e
     exact⟨hp,q⟩
   · rename_i q
     exact absurd q (uI hd _)
   · rename_i i q
     split at e
     · cases e
     · refine ih _ j d ?_ e
       unfold SetTable.advance
       split
       · exact hp
       · exact hp
structure pW(t:SetTable)(B:Bool):Prop where
 rise:kZ t.place
 m7:t.dummies = #[]
 led:t.led = !B
theorem Ih(owner:Array (Option Nat))(n:Nat):((((List.range n).filterMap fun j=>(owner.getD j none).map (j, ·)).map (·.1)).toArray).toList.Pairwise (· < ·):=by
 have e:(((List.range n).filterMap fun j=>(owner.getD j none).map (j, ·)).map (·.1))=(List.range n).filter fun j=>(owner.getD j none).isSome:=by
  induction List.range n with
  |nil=>rfl
  |cons a r ih =>
    rw[qa6,List.filter_cons]
    cases q:owner.getD a none with
    |none=>simpa [q] using ih
    |some b=>simpa [q] using ih
 rw[e]
 exact List.Pairwise.sublist List.filter_sublist List.pairwise_lt_range
theorem pW.fresh(B:Bool):pW (.fresh 0 0 (!B)) B:=⟨List.Pairwise.nil,rfl,rfl⟩
end St
namespace St
open PySem PyProof.Rows
noncomputable def bh(es:Array (Int×Value))(ep:Nat)(t:SetTable):Obj:={ cls:=.type "set",dict:=none,data:=.set es ep t,slots := #[] }
section
variable{prog:Program}{w:World}{A:Around}{E:Value->Shared->Prop}{s:Shared}
theorem B4{h:Heap}(e:h.get? a=some (bh es ep t)):(h.update a (Obj.putSet es' t')).get? a=some (bh es' (ep+1) t') :=
 Heap.get?_update_self (Obj.putSet es' t') e rfl
end
end St
namespace St
open PySem PyProof.Rows PySem.Spec
section
variable{prog:Program}{w:World}{A:Around}{E:Value->Shared->Prop}{s:Shared}
theorem Ii(a:Value)(h:Q₁ (.ref s.heap.objs.size) { s with heap:=s.heap.push (bh #[] 0 (.fresh 0 0 (!(w.params.followText "set-order")))) }) :
 codeAny (model prog w) A (.call (.builtin "set.__new__") ⟨[.type "set",a],[]⟩) (wants Q₁ E) s:=by
 have self:=sub_set_self
 refine qbJ F.plain_set_new F.entry_set_new (by
  rw[F.newCall_set_1 a]
  refine qac ?_
  unfold Builtin.«set.__new__»
  unfold Builtin.Frozenset.newClass
  cases s
  dsimp only
  wp_walk
  refine qby ?_
  refine qac ?_
  refine qaa ?_
  exact wpAny_alloc (qac (qac h)))
theorem B5{Q₁:Value->Shared->Prop}{R:Result->Shared->Prop}(h:∀ v s,Q₁ v s->R (.ok (.ret v)) s)(he:∀ e s,E e s->R (.error e) s):∀ r s,wants Q₁ E r s->R r s:=by
 intro r s hr
 cases r with
 |error e=>exact he e s hr
 |ok f=>cases f<;>first | exact h _ _ hr | exact hr.elim
theorem Ij{l:Addr}{Q:Value->Shared->Prop}{O:Obj}(hO:bh #[] 0 (.fresh 0 0 (!(w.params.followText "set-order")))=O)
 (h:wpAny (model prog w) A.in1.in1 (Builtin.«set.__init__» ⟨[.ref s.heap.objs.size,.ref l],[]⟩) (fun fin s'=>match fin with
  | .done f=>wants (fun r s2=>r = .none/\Q (.ref s.heap.objs.size) s2) E (.ok f) s'
  | .again c'=>c'.quiet=true/\codeAny (model prog w) A.in1 c' (wants (fun r s2=>r = .none/\Q (.ref s.heap.objs.size) s2) E) s')
  (fun e s'=>wants (fun r s2=>r = .none/\Q (.ref s.heap.objs.size) s2) E (.error e) s') { s with heap:=s.heap.push O }):wpAny (model prog w) A (call (.type "set") [.ref l]) Q E s:=by
 obtain⟨f1,f2,⟨c,tl,f3⟩,f4,f5,f6,f7⟩:=F.called_set
 have f8:=F.typeCall_set_1 (.ref l)
 have f9:=f7.lookup
 have fa:=f7.bind (.ref s.heap.objs.size)
 have made:=Ii (prog:=prog) (w:=w) (A:=A.in1) (E:=E) (s:=s) (.ref l) (Q₁:=fun v s1=>v = .ref s.heap.objs.size/\s1={ s with heap:=s.heap.push O }) ⟨rfl,by rw[hO]⟩
 have hT:Shared.TypeIs { s with heap:=s.heap.push O } (.ref s.heap.objs.size) "set" := ⟨O,qah _ (by rw[<- hO];rfl),by rw[<- hO];rfl⟩
 have ini:=qbJ f7.plain F.entry_set_init (check_set_init_1 (M:=model prog w) hT h)
 refine wpAny_call (codeAny_of_tree (show wpAny _ _ (callAny (.type "set") _) _ _ _ from qac ⟨Code.quiet_builtin _ (by decide +kernel),qbG F.entry_type_call (by
  rw[Around.under_plain (weight_type_call_type "set" _ []) rfl]
  repeat (any_goals (first | wp_step | assumption))
  refine codeAny_mono made (B5 ?_ fun _ _ z=>z)
  rintro v s1 ⟨rfl,rfl⟩
  repeat (any_goals (first | wp_step | assumption))
  refine codeAny_mono ini (B5 ?_ fun _ _ z=>z)
  rintro v s2 ⟨rfl,q⟩
  repeat (any_goals (first | wp_step | assumption)))⟩))
end
theorem bg:Slot "set_iterator" "__next__" "set_iterator.__next__" :=
 .of (owner := "set_iterator") (n := "__next__") (by rw[typeLookup_type,builtinLookup_eq_fast];kernel_rfl) (by decide +kernel) (by decide +kernel) (by decide +kernel) (by first | exact .inl (by decide +kernel) | exact .inr (by decide +kernel)) (by rw[isSubtype_type];kernel_rfl)
theorem B6:Slot "set_iterator" "__iter__" "set_iterator.__iter__" :=
 .of (owner := "set_iterator") (n := "__iter__") (by rw[typeLookup_type,builtinLookup_eq_fast];kernel_rfl) (by decide +kernel) (by decide +kernel) (by decide +kernel) (by first | exact .inl (by decide +kernel) | exact .inr (by decide +kernel)) (by rw[isSubtype_type];kernel_rfl)
theorem uJ:entryFor table "set_iterator.__next__" = some Builtin.«set_iterator.__next__» := entryFor_of_tree (by kernel_rfl)
theorem Ik:entryFor table "set_iterator.__iter__" = some Builtin.«dict_keyiterator.__iter__» := entryFor_alias (id' := "dict_keyiterator.__iter__") (by kernel_rfl) rfl (by decide +kernel) (by kernel_rfl)
theorem Il:entryFor table "set.__iter__" = some Builtin.«frozenset.__iter__» := entryFor_alias (id' := "frozenset.__iter__") (by kernel_rfl) rfl (by decide +kernel) (by kernel_rfl)
theorem uK(a:Value):argsOk "set_iterator.__next__" ⟨[a],[]⟩:=by unfold argsOk;kernel_rfl
theorem Im(a:Value):argsOk "set_iterator.__iter__" ⟨[a],[]⟩:=by unfold argsOk;kernel_rfl
noncomputable def k6(f:Value)(i:Nat)(a:Addr)(n ep:Nat):Obj:={ cls:=.type "set_iterator",dict:=none,data:=.fields #[f,.int i 0,.ref a,.int n 0,.int ep 0],slots := #[] }
section
variable{prog:Program}{w:World}{A:Around}{E:Value->Shared->Prop}{s:Shared}{I a:Addr}{es:Array (Int×Value)}{ep i n:Nat}{t:SetTable}{f:Value}{Q:Option Value->Shared->Prop}
theorem stops{s:Shared}(hh:A.handled=none)(hQ:∀ h',(∀ b o,b≠I->s.heap.get? b=some o->h'.get? b=some o)->Q none { s with heap:=h' }) :
 wpAny (model prog w) A.in1 (do raiseNew (<- newExc (.type "StopIteration") []):Sem Fin) P (fun e s1=>wpAny (model prog w) A (do if <- isInstance e (.type "StopIteration") then pure none else throw e) Q E s1) s:=by
 refine qaa ?_
 unfold newExc newTuple
 refine qaa (qbr (qaa (m:=firstArgMember _ _) (wpAny_of_eq (a:=Value.none) (by simp only[firstArgMember];rfl) (qbr ?_ (by size_fits)))) (by size_fits))
 exact wpAny_raiseNew_none hh (qaa (wpAny_isInstance (T := "StopIteration") ⟨_,qah _ rfl,rfl⟩ isSubtype_stop (qac (hQ _ fun b o _ e=>qab _ (qab _ e)))))
theorem Io{slot nxt:Nat}{x:Value}(hI:s.heap.get? I=some (k6 (.int slot 0) i a es.size ep))(ha:s.heap.get? a=some (bh es ep t))(hf:t.fits es.size=true)
 (hN:∀ {Q':Option (Value×Nat)->Shared->Prop} {E'},Q' (some (x,nxt)) s->wpAny (model prog w) A.in1 (setNext a slot i ep) Q' E' s)
 (hQ:∀ h',h'.get? I=some (k6 (.int nxt 0) (i+1) a es.size ep)->(∀ b o,b≠I->s.heap.get? b=some o->h'.get? b=some o)->Q (some x) { s with heap:=h' }):wpAny (model prog w) A (pyNext (.ref I)) Q E s:=by
 have hTy:Shared.TypeIs _ (.ref I) "set_iterator" := ⟨_,hI,rfl⟩
 unfold pyNext
 refine qaa (qbM (qa3 (name:=Str.ofString "__next__") hTy bg (qa0 bg hTy uJ ?_ (uK _))))
 show wpAny _ _ (fieldsOf (.ref I) >>= _) _ _ _
 refine qaa (wpAny_fieldsOf hI rfl ?_)
 show wpAny _ _ (setEntries a >>= _) _ _ _
 refine qaa (wpAny_setEntries_of ha rfl hf ?_)
 rw[qaz (by simp)]
 dsimp only
 refine qaa (hN ?_)
 dsimp only
 refine qaa (qba hI (by simp) fun h1 g1 fw=>?_)
 refine qaa (qba g1 (by simp) fun h2 g2 m8=>?_)
 exact qac ⟨_,rfl,qac (hQ h2 g2 fun b o hb e=>m8.extBut b o hb (fw.extBut b o hb e))⟩
theorem Ip{slot:Nat}(hh:A.handled=none)(hI:s.heap.get? I=some (k6 (.int slot 0) i a es.size ep))(ha:s.heap.get? a=some (bh es ep t))(hf:t.fits es.size=true)
 (hN:∀ {Q':Option (Value×Nat)->Shared->Prop} {E'},Q' none s->wpAny (model prog w) A.in1 (setNext a slot i ep) Q' E' s)
 (hQ:∀ h',(∀ b o,b≠I->s.heap.get? b=some o->h'.get? b=some o)->Q none { s with heap:=h' }):wpAny (model prog w) A (pyNext (.ref I)) Q E s:=by
 have hTy:Shared.TypeIs _ (.ref I) "set_iterator" := ⟨_,hI,rfl⟩
 unfold pyNext
 refine qaa (qbM (qa3 (name:=Str.ofString "__next__") hTy bg (qa0 bg hTy uJ ?_ (uK _))))
 show wpAny _ _ (fieldsOf (.ref I) >>= _) _ _ _
 refine qaa (wpAny_fieldsOf hI rfl ?_)
 show wpAny _ _ (setEntries a >>= _) _ _ _
 refine qaa (wpAny_setEntries_of ha rfl hf ?_)
 rw[qaz (by simp)]
 dsimp only
 refine qaa (hN ?_)
 dsimp only
 refine qaa (qba hI (by simp) fun h1 g1 fw=>?_)
 exact stops (I:=I) hh fun h' k=>hQ h' fun b o hb e=>k b o hb (fw.extBut b o hb e)
theorem Iq{T:Addr}{ps:Array Value}{c p:Nat}{x:Int×Value}(hI:s.heap.get? I=some (k6 (.ref T) i a es.size ep))(ha:s.heap.get? a=some (bh es ep t))(hf:t.fits es.size=true)
 (hT:s.heap.get? T=some { cls:=.type "tuple",dict:=none,data:=.seq ps c,slots := #[] }) (hp:ps[i]? = some (.int p 0)) (hx:es[p]? = some x)
 (hQ:∀ h',h'.get? I=some (k6 (.ref T) (i+1) a es.size ep)->(∀ b o,b≠I->s.heap.get? b=some o->h'.get? b=some o)->Q (some x.2) { s with heap:=h' }):wpAny (model prog w) A (pyNext (.ref I)) Q E s:=by
 have hTy:Shared.TypeIs _ (.ref I) "set_iterator" := ⟨_,hI,rfl⟩
 unfold pyNext
 refine qaa (qbM (qa3 (name:=Str.ofString "__next__") hTy bg (qa0 bg hTy uJ ?_ (uK _))))
 show wpAny _ _ (fieldsOf (.ref I) >>= _) _ _ _
 refine qaa (wpAny_fieldsOf hI rfl ?_)
 show wpAny _ _ (setEntries a >>= _) _ _ _
 refine qaa (wpAny_setEntries_of ha rfl hf ?_)
 rw[qaz (by simp)]
 dsimp only
 refine qaa (qbt hT rfl ?_)
 simp only[Int.toNat_natCast,hp]
 refine qaa ?_
 unfold setNextDrawn
 refine qaa (qbh ha rfl hf ?_)
 dsimp only
 rw[qaz (by simp)]
 simp only[Int.toNat_natCast,hx]
 refine qac ?_
 refine qaa (qba hI (by simp) fun h1 g1 fw=>?_)
 exact qac ⟨_,rfl,qac (hQ h1 g1 fun b o hb e=>fw.extBut b o hb e)⟩
theorem Ir(hh:A.handled=none)(hI:s.heap.get? I=some (k6 (.ref T) i a es.size ep))(ha:s.heap.get? a=some (bh es ep t))(hf:t.fits es.size=true)
 (hT:s.heap.get? T=some { cls:=.type "tuple",dict:=none,data:=.seq ps c,slots := #[] }) (hp:ps[i]? = none)
 (hQ:∀ h',(∀ b o,b≠I->s.heap.get? b=some o->h'.get? b=some o)->Q none { s with heap:=h' }):wpAny (model prog w) A (pyNext (.ref I)) Q E s:=by
 have hTy:Shared.TypeIs _ (.ref I) "set_iterator" := ⟨_,hI,rfl⟩
 unfold pyNext
 refine qaa (qbM (qa3 (name:=Str.ofString "__next__") hTy bg (qa0 bg hTy uJ ?_ (uK _))))
 show wpAny _ _ (fieldsOf (.ref I) >>= _) _ _ _
 refine qaa (wpAny_fieldsOf hI rfl ?_)
 show wpAny _ _ (setEntries a >>= _) _ _ _
 refine qaa (wpAny_setEntries_of ha rfl hf ?_)
 rw[qaz (by simp)]
 dsimp only
 refine qaa (qbt hT rfl ?_)
 simp only[Int.toNat_natCast,hp]
 refine qaa (qba hI (by simp) fun h1 g1 fw=>?_)
 refine qaa (qba g1 (by simp) fun h2 g2 m8=>?_)
 exact stops (I:=I) hh fun h' k=>hQ h' fun b o hb e=>k b o hb (m8.extBut b o hb (fw.extBut b o hb e))
theorem B7{Q:Value->Shared->Prop}(hI:s.heap.get? I=some (k6 f i a n ep))(hQ:Q (.ref I) s):wpAny (model prog w) A (pyIter (.ref I)) Q E s:=by
 have hT:s.TypeIs (.ref I) "set_iterator" := ⟨_,hI,rfl⟩
 refine wpAny_pyIter_slot hT B6 (qa0 B6 hT Ik ?_ (Im _))
 exact qac ⟨_,rfl,"set_iterator",_,hT,bg.lookup,hQ⟩
end
theorem B8{α:Type}{l:List α}(h:i<l.length):(l[i]::l.eraseIdx i).Perm l:=by
 rw[List.eraseIdx_eq_take_drop_succ]
 refine List.perm_middle.symm.trans ?_
 rw[<- qaQ h,qaJ]
theorem Iu{α:Type}(next:Nat->Nat):∀ (fuel k:Nat) (left:List α) (out:Array α),fuel=left.length->((pickOrder.go next fuel k left out).toList).Perm (out.toList++left):=by
 intro fuel
 induction fuel with
 |zero =>
   intro k left out h
   have:left=[]:=List.length_eq_zero_iff.mp h.symm
   subst this
   unfold pickOrder.go
   simp
 |succ f ih =>
   intro k left out h
   unfold pickOrder.go
   have hlt:next k % left.length<left.length:=Nat.mod_lt _ (by omega)
   rw[qae hlt]
   dsimp only
   refine(ih (k+1) _ _ (by rw[List.length_eraseIdx_of_lt hlt];omega)).trans ?_
   rw[Array.toList_push,qaM]
   exact List.Perm.append_left _ (B8 hlt)
theorem Iv{α:Type}(next:Nat->Nat)(xs:Array α):(pickOrder next xs).toList.Perm xs.toList:=by
 have:=Iu next xs.size 0 xs.toList #[] (by simp)
 simpa [pickOrder] using this
section
variable{prog:Program}{w:World}{A:Around}{E:Value->Shared->Prop}{s:Shared}{I a:Addr}{es:Array (Int×Value)}{ep n:Nat}{t:SetTable}
theorem Iw(hn:n≠0)(h:∀ i d,i<n->Q i { s with drawn:=d }):wpAny (model prog w) A (choose src n) Q E s:=by
 intro Γ p SW
 unfold choose
 rw[Sem.wp_choose]
 refine⟨hn,?_⟩
 exact h _ _ (Nat.mod_lt _ (Nat.pos_of_ne_zero hn))
theorem Iy{α:Type}:∀ (n:Nat) (xs:List α) (s:Shared) (Q:List α->Shared->Prop),n=xs.length->(∀ l d,l.Perm xs->Q l { s with drawn:=d })->wpAny (model prog w) A (drawOrder n xs) Q E s:=by
 intro n
 induction n with
 |zero =>
   intro xs s Q h q
   have:xs=[]:=List.length_eq_zero_iff.mp h.symm
   subst this
   unfold drawOrder
   exact qac (q [] s.drawn .nil)
 |succ n ih =>
   intro xs s Q h q
   cases xs with
   |nil=>cases h
   |cons x r =>
     unfold drawOrder
     refine qaa (Iw (by simp) fun i d hi=>?_)
     rw[qae hi]
     dsimp only
     refine qaa (ih _ _ _ (by rw[List.length_eraseIdx_of_lt hi];simp at h ⊢;omega) fun l d' pl=>?_)
     exact qac (q _ d' ((List.Perm.cons _ pl).trans (B8 hi)))
def pos(xs:Array Nat):Nat->Nat
 | 0=>0
 |k+1=>xs.getD k 0+1
theorem B9(hr:kZ xs)(hi:i<=xs.size):SetTable.below xs (pos xs i)=i:=by
 obtain⟨h1,h2,h3⟩:=xw hr (pos xs i)
 generalize SetTable.below xs (pos xs i)=p at h1 h2 h3
 cases i with
 |zero =>
   rcases Nat.eq_zero_or_pos p with z | z
   · exact z
   · exact absurd (h2 0 z) (Nat.not_lt_zero _)
 |succ k =>
   have hk:k<xs.size:=hi
   have ek:pos xs (k+1)=xs[k]+1:=by show xs.getD k 0+1=_;rw[lP hk]
   rw[ek] at h2 h3
   have lt:∀ a b (ha:a<b) (hb:b<xs.size),xs[a]<xs[b]:=fun a b ha hb=>by
    have:=(qa5.mp hr) a b (by simpa using Nat.lt_trans ha hb) (by simpa using hb) ha
    simpa using this
   have a1:k<p:=Nat.lt_of_not_le fun z=>by
    have:=h3 k z hk
    rw[lP hk] at this
    omega
   have a2:p<=k+1:=Nat.le_of_not_lt fun z=>by
    have l1:=h2 (k+1) z
    have hk1:k+1<xs.size:=by omega
    rw[lP hk1] at l1
    have:=lt k (k+1) (qbz _) hk1
    omega
   omega
theorem B_(ha:s.heap.get? a=some (bh es ep t))(hf:t.fits es.size=true)(hB:w.params.followText "set-order" = true)
 (h:Q (((pickOrder (w.params.setOrder a ep) es)[i]?).map fun e=>(e.2,slot)) s):wpAny (model prog w) A (setNext a slot i ep) Q E s:=by
 unfold setNext
 refine qaa (qbh ha rfl hf ?_)
 dsimp only
 refine qaa ?_
 unfold setsByText
 refine qaa (qby (qac ?_))
 dsimp only
 rw[show(model prog w).w.params.followText "set-order" = true from hB,qay rfl,qaz (by simp)]
 refine qaa ?_
 unfold setWalk setsByText
 refine qaa (qbh ha rfl hf ?_)
 dsimp only
 refine qaa (qaa (qby (qac ?_)))
 dsimp only
 rw[show(model prog w).w.params.followText "set-order" = true from hB,qay rfl]
 refine qaa (qby (qac (qac h)))
theorem Ca(ha:s.heap.get? a=some (bh es ep t))(hf:t.fits es.size=true)(hB:w.params.followText "set-order" = false)(hl:t.led=true)(hd:(!t.plain && decide (es.size > 1))=false)
 (h:Q (match es[SetTable.below t.place slot]?,t.place[SetTable.below t.place slot]? with | some (_,x),some j=>some (x,j+1) | _,_=>none) s):wpAny (model prog w) A (setNext a slot i ep) Q E s:=by
 unfold setNext
 refine qaa (qbh ha rfl hf ?_)
 dsimp only
 refine qaa ?_
 unfold setsByText
 refine qaa (qby (qac ?_))
 dsimp only
 rw[show(model prog w).w.params.followText "set-order" = false from hB,qaz (by simp)]
 split
 · rename_i z
   have z':(!t.plain && decide (es.size > 1))=true:=z
   rw[hd] at z'
   cases z'
 · refine qaa (wpAny_of_eq (a:=()) ?_ ?_)
   · show(if (!t.led && !es.isEmpty)=true then unsupported "set:maker-not-led" else pure ())=pure ()
     rw[hl]
     rfl
   · exact qac h
theorem Cb(hh:A.handled=none)(hf:t.fits es.size=true)(hne:a≠I){vs:List Value}{fst:Nat->Nat}
 (hi:∀ (i:Nat) (v:Value),vs[i]? = some v->∀ {s:Shared} {A':Around} {Q':Option (Value×Nat)->Shared->Prop} {E'},s.heap.get? a=some (bh es ep t)->Q' (some (v,fst (i+1))) s->wpAny (model prog w) A' (setNext a (fst i) i ep) Q' E' s)
 (hd:∀ {s:Shared} {A':Around} {Q':Option (Value×Nat)->Shared->Prop} {E'},s.heap.get? a=some (bh es ep t)->Q' none s->wpAny (model prog w) A' (setNext a (fst vs.length) vs.length ep) Q' E' s) :
 Walks prog w A I [I,a] [I] vs.length (fun i v=>vs[i]? = some v) (fun i h=>h.get? I=some (k6 (.int (fst i) 0) i a es.size ep)/\h.get? a=some (bh es ep t)) where
 sub:=fun b hb=>by simp at hb;simp[hb]
 frame:=fun i h h' st k=>⟨k I (by simp) _ st.1,k a (by simp) _ st.2⟩
 item:=fun i s Q E hlt st hQ=>by
  refine Io (x:=vs[i]) (nxt:=fst (i+1)) st.1 st.2 hf (fun q=>hi i _ (qae hlt) st.2 q) fun h' g k=>?_
  exact hQ _ h' s.toks (qae hlt) ⟨g,k a _ hne st.2⟩ fun b o hb e=>k b o (fun z=>hb (by simp[z])) e
 done:=fun s Q E st hQ=>Ip hh st.1 st.2 hf (fun q=>hd st.2 q) fun h' k=>hQ h' s.toks fun b o hb e=>k b o (fun z=>hb (by simp[z])) e
 self:=fun _ _ _ _ st hQ=>B7 st.1 hQ
theorem Iz(hh:A.handled=none)(hf:t.fits es.size=true)(hne:a≠I)(hT:T≠I){ps:List Nat}{vs:List Value}(hl:ps.length=vs.length)
 (hv:∀ (i p:Nat),ps[i]? = some p->∃ x,es[p]? = some x/\vs[i]? = some x.2) :
 Walks prog w A I [I,a,T] [I] vs.length (fun i v=>vs[i]? = some v) (fun i h=>h.get? I=some (k6 (.ref T) i a es.size ep)/\h.get? a=some (bh es ep t)/\h.get? T=some { cls:=.type "tuple",dict:=none,data:=.seq (ps.map fun (p:Nat)=>rawInt p).toArray c,slots := #[] }) where
 sub:=fun b hb=>by simp at hb;simp[hb]
 frame:=fun i h h' st k=>⟨k I (by simp) _ st.1,k a (by simp) _ st.2.1,k T (by simp) _ st.2.2⟩
 item:=fun i s Q E hlt st hQ=>by
  have hlt':i<ps.length:=by omega
  obtain⟨x,hx,IA⟩:=hv i ps[i] (qae hlt')
  refine Iq (p:=ps[i]) (x:=x) st.1 st.2.1 hf st.2.2 (by simp[List.getElem?_eq_getElem hlt',rawInt]) hx fun h' g k=>?_
  exact hQ _ h' s.toks IA ⟨g,k a _ hne st.2.1,k T _ hT st.2.2⟩ fun b o hb e=>k b o (fun z=>hb (by simp[z])) e
 done:=fun s Q E st hQ=>Ir hh st.1 st.2.1 hf st.2.2 (by simp[hl]) fun h' k=>hQ h' s.toks fun b o hb e=>k b o (fun z=>hb (by simp[z])) e
 self:=fun _ _ _ _ st hQ=>B7 st.1 hQ
end
section
variable{prog:Program}{w:World}{A:Around}{E:Value->Shared->Prop}{s:Shared}{a:Addr}{es:Array (Int×Value)}{ep:Nat}{t:SetTable}
theorem IB(hf:t.fits es.size=true):t.place.size=es.size:=by
 simp only[SetTable.fits,Bool.and_eq_true,beq_iff_eq,decide_eq_true_eq] at hf
 exact hf.1
theorem IC(ha:s.heap.get? a=some (bh es ep t))(hon:pW t (w.params.followText "set-order"))(hf:t.fits es.size=true)(hz:es.size<=sizeLine)
 (h:∀ (I:Addr) (h':Heap) (d:Drawn) (fp:List Addr) (vs:List Value) (Wt:Nat->Heap->Prop),s.heap.objs.size<=I->(∀ b o,s.heap.get? b=some o->h'.get? b=some o)->(∀ b∈fp,b=a\/s.heap.objs.size<=b) ->
  vs.Perm (es.toList.map (·.2))->(∀ A':Around,A'.handled=none->Walks prog w A' I fp [I] vs.length (fun i v=>vs[i]? = some v) Wt)->Wt 0 h'->Q (.ref I) { s with heap:=h',drawn:=d }):wpAny (model prog w) A (pyIter (.ref a)) Q E s:=by
 have hT:s.TypeIs (.ref a) "set" := ⟨_,ha,rfl⟩
 have alt:a<s.heap.objs.size:=qaf ha
 refine wpAny_pyIter_slot hT F.slot_set_iter (qa0 F.slot_set_iter hT Il ?_ (F.args_set_iter_1 _))
 show wpAny _ _ (Builtin.Frozenset.sizeOf a >>= _) _ _ _
 refine qaa ?_
 unfold Builtin.Frozenset.sizeOf
 refine qaa (wpAny_setEntries_of ha rfl hf (qac ?_))
 refine qaa ?_
 unfold setDrawn setsByText
 refine qaa (qbh ha rfl hf ?_)
 dsimp only
 refine qaa (qaa (qby (qac ?_)))
 dsimp only
 refine qac ?_
 have fin:∀ (f:Value) (h1:Heap) (d:Drawn),h1.get? a=some (bh es ep t)->s.heap.objs.size<=h1.objs.size->(h1.get? h1.objs.size=none->Q (.ref h1.objs.size) { s with heap:=h1.push (k6 f 0 a es.size ep),drawn:=d }) ->
  wpAny (model prog w) A.in1 (do ret (<- newFields "set_iterator" [f,rawInt 0,.ref a,rawInt es.size,rawInt (<- setEpoch a)]):Sem Fin) (fun r s1=>∃ v,r = .done (.ret v)/\∃ T' r,s1.TypeIs v T'/\typeLookup (.type T') "__next__" = pure (some r)/\Q v s1) E { s with heap:=h1,drawn:=d }:=by
  intro f h1 d g le q
  refine qaa (wpAny_setEpoch_of (s:={ s with heap:=h1,drawn:=d }) g rfl hf ?_)
  refine qaa (qbr (qac ⟨_,rfl,"set_iterator",_,⟨_,qah _ rfl,rfl⟩,bg.lookup,q ?_⟩))
  cases z:h1.get? h1.objs.size with
  |none=>rfl
  |some o=>exact absurd (qaf z) (qbf _)
 have ez:=IB hf
 cases hB:w.params.followText "set-order" with
 |true =>
   rw[show(model prog w).w.params.followText "set-order" = true from hB,Bool.not_true,Bool.false_and,qaz (by simp)]
   refine qaa (qac ?_)
   refine fin _ s.heap s.drawn ha (qag _) fun _=>?_
   have pm:=Iv (w.params.setOrder a ep) es
   have len:((pickOrder (w.params.setOrder a ep) es).toList.map (·.2)).length=es.size:=by rw[qaK,pm.length_eq,qaW]
   refine h s.heap.objs.size _ s.drawn [s.heap.objs.size,a] ((pickOrder (w.params.setOrder a ep) es).toList.map (·.2)) _ (qag _) (fun b o e=>qab _ e) (fun b hb=>?_) (pm.map _)
    (fun A' hh'=>Cb (fst:=fun _=>0) hh' hf (qal alt) (fun i v hv s A' Q' E' g q=>B_ g hf hB ?_) fun {s A' Q' E'} g q=>B_ g hf hB ?_) ⟨qah _ rfl,qab _ ha⟩
   · simp only[List.mem_cons,List.not_mem_nil,or_false] at hb
     exact hb.symm.imp id fun z=>Nat.le_of_eq z.symm
   · rw[qaE,qau] at hv
     cases z:(pickOrder (w.params.setOrder a ep) es)[i]? with
     |none=>rw[z] at hv;cases hv
     |some e=>rw[z] at hv;cases hv;exact q
   · have:(pickOrder (w.params.setOrder a ep) es)[((pickOrder (w.params.setOrder a ep) es).toList.map (·.2)).length]? = none:=by simp
     rw[this];exact q
 |false =>
   rw[show(model prog w).w.params.followText "set-order" = false from hB,Bool.not_false,Bool.true_and]
   have rq:t.led=true:=by rw[hon.led,hB];rfl
   cases hd:(!t.plain && decide (es.size > 1)) with
   |false =>
     split
     · rename_i z
       have z':(!t.plain && decide (es.size > 1))=true:=z
       rw[hd] at z';cases z'
     · refine qaa ?_
       refine qac ?_
       refine fin _ s.heap s.drawn ha (qag _) fun _=>?_
       have len:(es.toList.map (·.2)).length=es.size:=by simp
       refine h s.heap.objs.size _ s.drawn [s.heap.objs.size,a] (es.toList.map (·.2)) _ (qag _) (fun b o e=>qab _ e) (fun b hb=>?_) (.refl _)
        (fun A' hh'=>Cb (fst:=pos t.place) hh' hf (qal alt) (fun i v hv s A' Q' E' g q=>Ca g hf hB rq hd ?_) fun {s A' Q' E'} g q=>Ca g hf hB rq hd ?_) ⟨qah _ rfl,qab _ ha⟩
       · simp only[List.mem_cons,List.not_mem_nil,or_false] at hb
         exact hb.symm.imp id fun z=>Nat.le_of_eq z.symm
       · have hi:i<es.size:=by
          have:=(qad.mp hv).1
          rwa[len] at this
         rw[B9 hon.rise (by omega),qam hi,qam (by omega:i<t.place.size)]
         rw[qaE,qau,qam hi] at hv
         cases hv
         have e:pos t.place (i+1)=t.place[i]'(by omega)+1:=by show t.place.getD i 0+1=_;rw[lP (by omega)]
         rw[e] at q
         exact q
       · rw[len,B9 hon.rise (by omega)]
         have:es[es.size]? = none:=by simp
         rw[this]
         exact q
   |true =>
     split
     · refine qaa (Iy _ _ _ _ (by simp) fun l d pl=>?_)
       refine qaa (qbr ?_ ?_)
       · have hl:l.length=es.size:=by rw[pl.length_eq];simp
         refine fin _ _ d (qab _ ha) (by rw[qbF];exact Nat.le_succ _) fun _=>?_
         have inr:∀ p∈l,p<es.size:=fun p hp=>by simpa using pl.mem_iff.mp hp
         have pv:(l.filterMap fun p=>(es[p]?).map (·.2)).Perm (es.toList.map (·.2)):=by
          refine(pl.filterMap _).trans ?_
          have e:(List.range es.size).filterMap (fun p=>(es[p]?).map (·.2))=((List.range es.size).filterMap fun p=>es[p]?).map (·.2):=by rw[List.map_filterMap]
          rw[e,filterMap_getElem?_range]
         have ev:∀ (l:List Nat),(∀ p∈l,p<es.size)->(l.filterMap fun p=>(es[p]?).map (·.2)).length=l.length/\∀ (i p:Nat),l[i]? = some p->∃ x,es[p]? = some x/\(l.filterMap fun p=>(es[p]?).map (·.2))[i]? = some x.2:=by
          intro l
          induction l with
          |nil=>intro _;exact⟨rfl,fun i p z=>by simp at z⟩
          |cons k r ih =>
            intro hk
            obtain⟨i1,i2⟩:=ih fun p hp=>hk p (.tail _ hp)
            have lt:=hk k (.head _)
            have e1:(es[k]?).map (·.2)=some es[k].2:=by rw[qam lt];rfl
            rw[List.filterMap_cons_some (f:=fun p:Nat=>(es[p]?).map fun (x:Int×Value)=>x.2) e1]
            refine⟨by simp[i1],fun i p z=>?_⟩
            cases i with
            |zero=>simp at z;subst z;exact⟨es[k],qam lt,rfl⟩
            |succ i=>simpa using i2 i p (by simpa using z)
         obtain⟨v1,v2⟩:=ev l inr
         have sz:(s.heap.push { cls:=.type "tuple",dict:=none,data:=.seq (l.map fun (i:Nat)=>rawInt i).toArray }).objs.size=s.heap.objs.size+1:=qbF ..
         refine h _ _ d [_,a,s.heap.objs.size] _ _ (by rw[sz];exact Nat.le_succ _) (fun b o e=>qab _ (qab _ e)) (fun b hb=>?_) pv
          (fun A' hh'=>Iz hh' hf (by rw[sz];exact qal (qbP alt)) (T:=s.heap.objs.size) (by rw[sz];exact qal (qbz _)) v1.symm v2) ⟨qah _ rfl,qab _ (qab _ ha),qab _ (qah _ rfl)⟩
         simp only[List.mem_cons,List.not_mem_nil,or_false] at hb
         rcases hb with z | z | z
         · exact .inr (by rw[z,sz];exact Nat.le_succ _)
         · exact .inl z
         · exact .inr (Nat.le_of_eq z.symm)
       · show(l.map fun (i:Nat)=>rawInt i).toArray.size<=sizeLine
         simp only[List.size_toArray,List.length_map,pl.length_eq,List.length_range]
         exact hz
     · rename_i z
       exact absurd hd z
theorem ID:typeLookup (.type "set") "__len__" = pure (some (.builtin "set.__len__")):=by rw[typeLookup_type,builtinLookup_eq_fast];kernel_rfl
theorem IE(hh:A.handled=none)(ha:s.heap.get? a=some (bh es ep t))(hon:pW t (w.params.followText "set-order"))(hf:t.fits es.size=true)(hz:es.size<=sizeLine)
 (h:∀ (vs:List Value) (h':Heap) (d:Drawn) (tk:Nat),s.heap.objs.size<=h'.objs.size->(∀ b o,s.heap.get? b=some o->h'.get? b=some o)->vs.Perm (es.toList.map (·.2))->Q vs { s with heap:=h',drawn:=d,toks:=tk }):wpAny (model prog w) A (collect (.ref a)) Q E s:=by
 have start:∀ {R:Result->Shared->Prop},wpAny (model prog w) A.in1 (Builtin.List.listExtendWith (.ref s.heap.objs.size) (.ref a) (.ref s.heap.objs.size)) (fun fin s'=>match fin with | .done f=>R (.ok f) s' | .again c'=>c'.quiet=true/\codeAny (model prog w) A c' R s') (fun e s'=>R (.error e) s') { s with heap:=s.heap.push { cls:=.type "list",dict:=none,data:=.seq ([]:List Value).toArray } } ->
  codeAny (model prog w) A (.builtin "proto.collect" ⟨[.ref a],[]⟩) R s:=fun {R} z=>qbG F.entry_proto_collect (by
  rw[qbj F.plain_proto_collect]
  exact show wpAny _ _ (newList [] >>= fun v=>again (.builtin "list.__iadd__" ⟨[v,.ref a],[]⟩)) _ _ _ from qaa (qbr (qac ⟨plainId_quiet F.plain_list_iadd _,qbG F.entry_list_iadd (by rw[qbj F.plain_list_iadd];exact z)⟩)))
 unfold collect
 refine qaa (wpAny_runValue (start ?_))
 have alt:a<s.heap.objs.size:=qaf ha
 generalize hH:s.heap.push { cls:=.type "list",dict:=none,data:=.seq ([]:List Value).toArray }=H
 have g0:H.get? s.heap.objs.size=some { cls:=.type "list",dict:=none,data:=.seq #[] 0,slots := #[] }:=by rw[<- hH];exact qah _ rfl
 have up:∀ b o,s.heap.get? b=some o->H.get? b=some o:=fun b o e=>by rw[<- hH];exact qab _ e
 have sz:H.objs.size=s.heap.objs.size+1:=by rw[<- hH];exact qbF ..
 have hT:Shared.TypeIs { s with heap:=H } (.ref a) "set" := ⟨_,up _ _ ha,rfl⟩
 unfold  Builtin.List.listExtendWith
 refine qaa (wpAny_typeOf hT ?_)
 have n1:Builtin.List.listSameRef (.ref s.heap.objs.size) (.ref a)=false:=by
  show(s.heap.objs.size == a)=false
  simpa using Nat.ne_of_gt alt
 have n2:(Value.type "set" == Value.type "list")=false:=by decide
 have n3:(Value.type "set" == Value.type "tuple")=false:=by decide
 rw[n1,n2,n3]
 simp only[Bool.or_false,Bool.false_eq_true,if_false]
 refine qaa (IC (up _ _ ha) hon hf hz fun I h1 d fp vs Wt hI k1 hfp pv W st=>?_)
 have hT1:Shared.TypeIs { s with heap:=h1,drawn:=d } (.ref a) "set" := ⟨_,k1 _ _ (up _ _ ha),rfl⟩
 refine qaa (qaY ?_)
 unfold  Builtin.List.listLengthHint
 refine qaa (wpAny_specialOf hT1 ID ?_)
 wp_delta
 refine qaa (wpAny_isInstance (b:=true) hT1 (by rw[isSubtype_type];kernel_rfl) ?_)
 show wpAny _ _ (typeOf (Value.ref a) >>= _) _ _ _
 refine qaa (wpAny_typeOf hT1 ?_)
 refine qac ?_
 rw[qay (by decide)]
 refine qaa (wpAny_rule ?_)
 unfold Builtin.List.listTouch
 have g1:=k1 _ _ g0
 refine qaa (qaa ?_)
 refine PyProof.Rows.listUpdate_at g1 rfl ?_ (qbp _) (by simp)
 have g2:=get?_update_seq g1 (fun xs=>xs.push Value.none)
 refine PyProof.Rows.listUpdate_at g2 rfl ?_ (by show 1<=sizeLine;decide) (by simp)
 have g3:=get?_update_seq g2 (fun xs=>xs.pop)
 have oth:∀ b o,b≠s.heap.objs.size->h1.get? b=some o->((h1.update s.heap.objs.size (Obj.mapSeq fun xs=>xs.push Value.none)).update s.heap.objs.size (Obj.mapSeq fun xs=>xs.pop)).get? b=some o:=fun b o hb e =>
  (qaF _ _ (qaT hb)).trans ((qaF _ _ (qaT hb)).trans e)
 have hSf:s.heap.objs.size ∉ fp:=fun z=>by
  rcases hfp _ z with e | e
  · exact absurd alt (by rw[e];exact qbf _)
  · exact absurd (show H.objs.size<=s.heap.objs.size from e) (by rw[sz];exact Nat.not_succ_le_self _)
 have W':=W A.in1 hh
 have hn:vs.length<=sizeLine:=by rw[pv.length_eq];simpa using hz
 refine qac ⟨plainId_quiet F.plain_extend_loop _,codeAny_extend_loopS W'.toS hn _ hSf _ vs.length 0 _ _ _ rfl (qbp _) (W'.frame _ _ _ st fun b hb o e=>oth b o (fun z=>hSf (by rw[<- z];exact hb)) e) g3 (ItemsOf.nil _) fun s' acc c hm g' hacc=>?_⟩
 show wpAny _ _ (load s.heap.objs.size >>= _) _ _ _
 refine qaa (wpAny_load g' (qac ?_))
 have ev:acc.toList=vs:=by
  refine List.ext_getElem? fun i=>?_
  cases q:acc[i]? with
  |none =>
    have:acc.size<=i:=by simpa using q
    rw[hacc.1] at this
    rw[qau,q,List.getElem?_eq_none this]
  |some v=>rw[qau,q,hacc.2 i v q]
 rw[ev]
 obtain⟨h',g,d',tk,os⟩:=s'
 have e1:=(hm.gens:g=s.gens)
 have e2:d'=d:=hm.drawn
 have e3:os=s.os:=hm.os
 subst e1;subst e2;subst e3
 refine h vs h' d' tk (Nat.le_of_lt (qaf g')) (fun b o e=>hm.heap b o (fun z=>?_) (oth b o (qal (qaf e)) (k1 b o (up b o e)))) pv
 have blt:=qaf e
 rcases qav.mp z with z | z
 · exact absurd blt (by rw[z];exact qbf _)
 · rw[qa4] at z
   have:H.objs.size<=I:=hI
   rw[<- z,sz] at this
   exact absurd blt (Nat.not_lt.mpr (Nat.le_of_succ_le this))
theorem IF{h:Heap}{vs:List Value}(ho:h.get? a=some (seqObj "list" vs.toArray n))(out:Array Value):∃ e,(sortedHeap h a vs out).get? a=some (seqObj "list" out e):=by
 have lt:a<h.objs.size:=qaf ho
 unfold sortedHeap
 have g1:=get?_update_seq ho fun _ => #[]
 have g2:(((h.update a (Obj.mapSeq fun _ => #[])).push (seqObj "tuple" vs.toArray 0)).push (seqObj "list" #[] 0)).get? a=some (seqObj "list" #[] (if ((#[]:Array Value).size == vs.toArray.size)=true then n else n+1)):=by
  rw[Heap.get?_push_ne _ _ _ (by rw[size_push',Heap.size_update];exact qal (qbP lt)),Heap.get?_push_ne _ _ _ (by rw[Heap.size_update];exact qal lt)]
  exact g1
 exact⟨_,get?_update_seq g2 fun _=>out⟩
theorem IG{h:Heap}(hb:b≠a)(e:h.get? b=some o):(sortedHeap h a vs out).get? b=some o:=by
 unfold sortedHeap
 rw[qaF _ _ (qaT hb)]
 exact qab _ (qab _ ((qaF _ _ (qaT hb)).trans e))
end
end St
namespace St
open PySem
def lp(M:Nat)(s:Nat×Nat):Nat×Nat:=SetTable.leap M s.1 s.2
def gD(M:Nat):Nat->Nat×Nat->Nat×Nat
 | 0,s=>s
 |n+1,s=>gD M n (lp M s)
theorem nV(M:Nat):∀ (n:Nat) (s:Nat×Nat),gD M (n+1) s=lp M (gD M n s)
 | 0,s=>rfl
 |n+1,s=>by rw[gD,nV M n,gD]
theorem IH(M a b:Nat)(s:Nat×Nat):gD M (a+b) s=gD M b (gD M a s):=by
 induction b with
 |zero=>rfl
 |succ b ih=>rw[<- Nat.add_assoc,nV,ih,nV]
theorem Cc(M:Nat):∀ (n:Nat) (s:Nat×Nat),(gD M n s).2=s.2 / 32 ^ n
 | 0,s=>by simp[gD]
 |n+1,s=>by rw[nV];show(gD M n s).2 / 32=_;rw[Cc M n,Nat.div_div_eq_div_mul,Nat.pow_succ]
theorem II(hp:p<2 ^ 64)(i:Nat):(gD M 13 (i,p)).2=0:=by
 rw[Cc]
 exact Nat.div_eq_of_lt (qax hp (by decide))
def st(M x:Nat):Nat:=(x * 5+1) % (M+1)
def sts(M:Nat):Nat->Nat->Nat
 | 0,x=>x
 |n+1,x=>st M (sts M n x)
theorem rA(M a:Nat)(x:Nat):∀ b,sts M (a+b) x=sts M b (sts M a x)
 | 0=>rfl
 |b+1=>by rw[<- Nat.add_assoc,sts,rA M a x b,sts]
theorem Cd(M:Nat):∀ (n i:Nat),gD M n (i,0)=(sts M n i,0)
 | 0,i=>rfl
 |n+1,i=>by
   rw[nV,Cd M n i]
   show SetTable.leap M (sts M n i) 0=_
   simp[SetTable.leap,sts,st]
def jD(M:Nat):Prop:=M=7\/M=31\/M=127\/M=511\/M=2047
def om(M:Nat):Nat->Nat->Nat->Nat
 | 0,_,c=>c
 |n+1,x,c=>om M n (st M x) (c ||| 2 ^ x)
theorem Ce:∀ (n x c:Nat),(om M n x c).testBit j=true->c.testBit j=true\/∃ k,k<n/\sts M k x=j
 | 0,_,_,h=>.inl h
 |n+1,x,c,h=>by
   rcases Ce n (st M x) (c ||| 2 ^ x) h with h | ⟨k,hk,e⟩
   · rw[Nat.testBit_or,Bool.or_eq_true] at h
     rcases h with h | h
     · exact .inl h
     · rw[Nat.testBit_two_pow] at h
       exact .inr ⟨0,by omega,qaB h⟩
   · refine .inr ⟨k+1,by omega,?_⟩
     have:=rA M 1 x k
     rw[Nat.add_comm] at this
     rw[this]
     exact e
theorem IJ(h:jD M):om M (M+1) 0 0=2 ^ (M+1) - 1/\sts M (M+1) 0=0:=by
 rcases h with rfl | rfl | rfl | rfl | rfl<;>decide +kernel
theorem Cf(h:sts M (M+1) 0=0):∀ q r,sts M ((M+1) * q+r) 0=sts M r 0
 | 0,r=>by simp
 |q+1,r=>by
   have e:(M+1) * (q+1)+r=(M+1)+((M+1) * q+r):=by rw[Nat.mul_succ];omega
   rw[e,rA,h,Cf h q r]
theorem IK(h:jD M)(hx:x<=M)(hy:y<=M):∃ m,m<=M/\sts M m x=y:=by
 obtain⟨a,b⟩:=IJ h
 have f:∀ z,z<=M->∃ k,k<=M/\sts M k 0=z:=fun z hz=>by
  rcases Ce (M:=M) (j:=z) (M+1) 0 0 (by rw[a,Nat.testBit_two_pow_sub_one];exact qaG (by omega)) with h | ⟨k,hk,e⟩
  · rw[Nat.zero_testBit] at h;cases h
  · exact⟨k,by omega,e⟩
 obtain⟨kx,hkx,ex⟩:=f x hx
 obtain⟨ky,SX,ey⟩:=f y hy
 rcases Nat.le_total kx ky with le | le
 · refine⟨ky - kx,by omega,?_⟩
   rw[<- ex, <- rA, <- ey]
   congr 1
   omega
 · refine⟨(M+1+ky - kx) % (M+1),Nat.lt_succ_iff.mp (Nat.mod_lt _ (Nat.succ_pos M)),?_⟩
   rw[<- ex, <- rA]
   have b':=Cf b 1 ky
   rcases Nat.lt_or_ge (M+1+ky - kx) (M+1) with z | z
   · rw[Nat.mod_eq_of_lt z, <- ey, <- b']
     congr 1
     omega
   · have e:kx=ky:=by omega
     subst e
     have:(M+1+kx - kx) % (M+1)=0:=by rw[Nat.add_sub_cancel];exact Nat.mod_self _
     rw[this]
     exact ey
theorem xx(M i p:Nat):(SetTable.leap M i p).1<=M:=Nat.lt_succ_iff.mp (Nat.mod_lt _ (Nat.succ_pos M))
theorem rB(M i:Nat):i<=SetTable.runEnd M i/\SetTable.runEnd M i - i<=9:=by unfold SetTable.runEnd;split<;>omega
noncomputable def b8(t:SetTable):Nat->SetTable.Probe->SetTable.Probe
 | 0,p=>p
 |n+1,p=>b8 t n (t.advance p)
theorem IL{t:SetTable}(hd:t.dummies = #[])(f:Nat->Int)(h:Int):∀ (n:Nat) (p:SetTable.Probe),SetTable.probe.go t f h n p=none->∀ k,k<n->∃ i,t.slot (b8 t k p).j = .live i:=by
 intro n
 induction n with
 |zero=>intro p _ k hk;exact absurd hk (Nat.not_lt_zero _)
 |succ n ih =>
   intro p e k hk
   unfold SetTable.probe.go at e
   split at e
   · cases e
   · rename_i q
     exact absurd q (uI hd _)
   · rename_i i q
     split at e
     · cases e
     · cases k with
       |zero=>exact⟨i,q⟩
       |succ k=>exact ih _ e k (by omega)
theorem pX(t:SetTable):∀ (a b:Nat) (p:SetTable.Probe),b8 t (a+b) p=b8 t b (b8 t a p)
 | 0,b,p=>by rw[Nat.zero_add];rfl
 |a+1,b,p=>by rw[show a+1+b=(a+b)+1 by omega];exact pX t a b _
def k7(M:Nat)(p:SetTable.Probe)(s:Nat×Nat):Prop:=p.j=s.1/\p.i=s.1/\p.perturb=s.2/\p.more=SetTable.runEnd M s.1 - s.1
theorem xy(t:SetTable):∀ (m:Nat) (p:SetTable.Probe),p.more=m->(b8 t m p).more=0/\(b8 t m p).i=p.i/\(b8 t m p).perturb=p.perturb
 | 0,p,h=>⟨h,rfl,rfl⟩
 |m+1,p,h=>by
   have e:t.advance p={ p with j:=p.j+1,more:=p.more - 1 }:=by unfold SetTable.advance;rw[if_pos (by omega)]
   obtain⟨a,b,c⟩:=xy t m (t.advance p) (by rw[e];show p.more - 1=m;omega)
   refine⟨a,?_,?_⟩
   · show(b8 t m (t.advance p)).i=_;rw[b,e]
   · show(b8 t m (t.advance p)).perturb=_;rw[c,e]
theorem IM(t:SetTable)(h:k7 t.mask p s):∃ m,m<=10/\k7 t.mask (b8 t m p) (lp t.mask s):=by
 obtain⟨h1,h2,h3,h4⟩:=h
 obtain⟨a,b,c⟩:=xy t p.more p rfl
 refine⟨p.more+1,by have:=rB t.mask s.1;omega,?_⟩
 rw[pX]
 show k7 t.mask (t.advance (b8 t p.more p)) _
 unfold SetTable.advance
 rw[qaz (by omega),b,c,h2,h3]
 exact⟨rfl,rfl,rfl,rfl⟩
theorem Cg(t:SetTable)(h:k7 t.mask p s):∀ k,∃ m,m<=10 * k/\k7 t.mask (b8 t m p) (gD t.mask k s)
 | 0=>⟨0,by omega,h⟩
 |k+1=>by
   obtain⟨m,hm,a⟩:=Cg t h k
   obtain⟨m',hm',a'⟩:=IM t a
   exact⟨m+m',by omega,by rw[pX,nV];exact a'⟩
theorem Ci(h:Int):SetTable.bits h<2 ^ 64:=by
 unfold SetTable.bits
 have:=qbu h (show(0:Int)<2 ^ 64 by decide)
 have:=qbQ h (show(2 ^ 64:Int)≠0 by decide)
 omega
theorem Cj{M:Nat}(h:jD M){i p:Nat}(hi:i<=M)(hp:p<2 ^ 64){P:Nat->Prop}(hP:∀ k,k<=M+14->P (gD M k (i,p)).1):∀ j,j<=M->P j:=by
 intro j hj
 have z:=II (M:=M) hp i
 generalize hs:gD M 13 (i,p)=nW at z
 have xA:nW.1<=M:=by
  rw[<- hs,nV]
  exact xx M _ _
 obtain⟨m,hm,e⟩:=IK h xA hj
 have:=hP (13+m) (by omega)
 rw[IH,hs,show nW=(nW.1,0) by rw[<- z],Cd] at this
 simp only at this
 rw[e] at this
 exact this
theorem xB{t:SetTable}(h:t.slot j = .live i):t.place[i]? = some j:=by
 unfold SetTable.slot at h
 dsimp only at h
 split at h
 · rename_i e
   cases h
   exact eq_of_beq e
 · split at h<;>cases h
theorem IP{t:SetTable}(hd:t.dummies = #[])(hm:jD t.mask)(hr:t.place.size<=t.mask)(f:Nat->Int)(h:Int):∃ m,t.probe f h (t.probeStart h)=some m:=by
 cases q:t.probe f h (t.probeStart h) with
 |some m=>exact⟨m,rfl⟩
 |none =>
   exfalso
   have st:k7 t.mask (t.probeStart h) (SetTable.bits h % (t.mask+1),SetTable.bits h):=⟨rfl,rfl,rfl,rfl⟩
   have all:=Cj hm (i:=SetTable.bits h % (t.mask+1)) (p:=SetTable.bits h) (Nat.lt_succ_iff.mp (Nat.mod_lt _ (Nat.succ_pos _))) (Ci h) (P:=fun j=>∃ i:Nat,t.place[i]? = some j) (fun k hk=>by
    obtain⟨m,hm',a⟩:=Cg t st k
    obtain⟨i,hi⟩:=IL hd f h _ _ q m (by unfold SetTable.turns;omega)
    rw[a.1] at hi
    exact⟨i,xB hi⟩)
   have sub:(List.range (t.mask+1)).length<=t.place.toList.length:=by
    refine List.Nodup.length_le_of_subset List.nodup_range fun j hj=>?_
    obtain⟨i,hi⟩:=all j (by simpa using Nat.lt_succ_iff.mp (List.mem_range.mp hj))
    rw[<- qau] at hi
    exact qaN hi
   simp at sub
   omega
theorem IQ(M:Nat)(owner:Array (Option Nat))(hs:owner.size=M+1):∀ (n i p j:Nat),SetTable.layClean.free M owner n i p=some j->owner[j]? = some none:=by
 intro n
 induction n with
 |zero=>intro i p j h;cases h
 |succ n ih =>
   intro i p j h
   unfold SetTable.layClean.free at h
   split at h
   · rename_i k q
     cases h
     have:=List.find?_some q
     cases e:owner[i+k]? with
     |none=>rw[qaR,e] at this;cases this
     |some o =>
       rw[qaR,e] at this
       cases o with
       |none=>rfl
       |some x=>cases this
   · exact ih _ _ _ h
theorem IS(M:Nat)(owner:Array (Option Nat))(hs:owner.size=M+1):∀ (n i p:Nat),i<=M->SetTable.layClean.free M owner n i p=none->∀ k,k<n->∃ x,owner[(gD M k (i,p)).1]? = some (some x):=by
 intro n
 induction n with
 |zero=>intro i p hi h k hk;exact absurd hk (Nat.not_lt_zero _)
 |succ n ih =>
   intro i p hi h k hk
   unfold SetTable.layClean.free at h
   split at h
   · cases h
   · rename_i q
     cases k with
     |zero =>
       have:=List.find?_eq_none.mp q 0 (by simp;have:=rB M i;omega)
       show ∃ x,owner[i]? = some (some x)
       have lt:i<owner.size:=by omega
       rw[Nat.add_zero,qaR,qam lt] at this
       rw[qam lt]
       cases e:owner[i] with
       |none=>rw[e] at this;simp at this
       |some x=>exact⟨x,rfl⟩
     |succ k=>exact ih _ _ (xx M i p) h k (by omega)
theorem Ck:∀ (l:List (Option Nat)) (j:Nat),l[j]? = some none->((l.set j (some k)).filterMap id).Perm (k::l.filterMap id)
 | [],j,h=>by simp at h
 |o::r,0,h=>by
   simp at h
   subst h
   simp
 |o::r,j+1,h=>by
   have ih:=Ck (k:=k) r j (by simpa using h)
   cases o with
   |none=>simpa using ih
   |some x =>
     show(x::(r.set j (some k)).filterMap id).Perm (k::x::r.filterMap id)
     exact(List.Perm.cons x ih).trans (List.Perm.swap k x _)
theorem Cm:∀ (l:List (Option Nat)),(∀ o∈l,∃ x,o=some x)->(l.filterMap id).length=l.length
 | [],_=>rfl
 |o::r,h=>by
   obtain⟨x,rfl⟩:=h o (.head _)
   simpa using Cm r fun o' ho=>h o' (.tail _ ho)
def pY(M k:Nat)(owner:Array (Option Nat)):Prop:=owner.size=M+1/\(owner.toList.filterMap id).Perm (List.range k)
theorem IT(hm:jD M)(h:pY M k owner)(hk:k<=M)(c:Int):∃ j,SetTable.layClean.free M owner (SetTable.turns M) (SetTable.bits c % (M+1)) (SetTable.bits c)=some j/\owner[j]? = some none:=by
 cases q:SetTable.layClean.free M owner (SetTable.turns M) (SetTable.bits c % (M+1)) (SetTable.bits c) with
 |some j=>exact⟨j,rfl,IQ M owner h.1 _ _ _ _ q⟩
 |none =>
   exfalso
   have hi:SetTable.bits c % (M+1)<=M:=Nat.lt_succ_iff.mp (Nat.mod_lt _ (Nat.succ_pos _))
   have all:=Cj hm hi (Ci c) (P:=fun j=>∃ x,owner[j]? = some (some x)) fun n hn=>IS M owner h.1 _ _ _ hi q n (by unfold SetTable.turns;omega)
   have len:=Cm owner.toList fun o ho=>by
    obtain⟨j,hj⟩:=List.getElem?_of_mem ho
    have jl:j<owner.size:=by have:=(qad.mp hj).1;simpa using this
    obtain⟨x,hx⟩:=all j (by have:=h.1;omega)
    rw[qau,hx] at hj
    exact⟨x,by injection hj with e;exact e.symm⟩
   have:=h.2.length_eq
   rw[len] at this
   simp at this
   have:=h.1
   omega
theorem IU(owner:Array (Option Nat)):((List.range owner.size).filterMap fun j=>(owner.getD j none).map (j, ·)).map (·.2)=owner.toList.filterMap id:=by
 have key:∀ (l:List (Option Nat)) (b:Nat) (f:Nat->Option Nat),(∀ i,i<l.length->f (b+i)=l.getD i none)->((List.range' b l.length).filterMap fun j=>(f j).map (j, ·)).map (·.2)=l.filterMap id:=by
  intro l
  induction l with
  |nil=>intro b f _;rfl
  |cons o r ih =>
    intro b f h
    have h0:=h 0 (by simp)
    have ih':=ih (b+1) f fun i hi=>by
     have:=h (i+1) (by simpa using hi)
     rw[show b+1+i=b+(i+1) by omega,this]
     rfl
    rw[qaD,List.range'_succ,qa6]
    have h0:f b=o:=h0
    cases o with
    |none=>simpa [h0] using ih'
    |some x=>simpa [h0] using ih'
 have:=key owner.toList 0 (fun j=>owner.getD j none) fun i hi=>by
  rw[Nat.zero_add]
  simp[Array.getD_eq_getD_getElem?,List.getD_eq_getElem?_getD]
 rw[<- this,List.range_eq_range']
 simp
noncomputable def hP(z:Int×Int):Int:=reduceHash (Builtin.Tuple.tupleHashOf [hashInt z.1,hashInt z.2])
def rP(n:Nat):Nat:=(hP ((n / 31:Nat),(n % 31:Nat)) % 8192).toNat
def apart:List Nat->Nat->Bool
 | [],_=>true
 |n::r,acc => !acc.testBit (rP n) && apart r (acc ||| 1 <<< rP n)
theorem Co:∀ (l:List Nat) (acc:Nat),apart l acc=true->(∀ n∈l,acc.testBit (rP n)=false)/\(l.map rP).Nodup
 | [],_,_=>⟨fun n hn=>(nomatch hn),List.nodup_nil⟩
 |n::r,acc,h=>by
   unfold apart at h
   rw[qa1] at h
   obtain⟨h1,h2⟩:=h
   obtain⟨a,b⟩:=Co r _ h2
   have a':∀ m∈r,acc.testBit (rP m)=false/\rP m≠rP n:=fun m hm=>by
    have:=a m hm
    rw[Nat.testBit_or,Bool.or_eq_false_iff] at this
    refine⟨this.1,fun e=>?_⟩
    have q:=this.2
    rw[e,Nat.one_shiftLeft,Nat.testBit_two_pow_self] at q
    cases q
   refine⟨fun m hm=>?_,qbg.mpr ⟨fun z=>?_,b⟩⟩
   · rcases qav.mp hm with e | e
     · rw[e];simpa using h1
     · exact(a' m e).1
   · obtain⟨m,hm,e⟩:=qa7.mp z
     exact(a' m hm).2 e
theorem IV:apart (List.range 961) 0=true:=by decide +kernel
def Sm(i:Int):Prop:=0<=i/\i<=30
def bp(z:Int×Int):Prop:=Sm z.1/\Sm z.2
theorem IW(hy:bp y)(hz:bp z)(e:hP y=hP z):y=z:=by
 have nd:=(Co _ _ IV).2
 obtain⟨⟨a1,a2⟩,a3,a4⟩:=hy
 obtain⟨⟨b1,b2⟩,b3,b4⟩:=hz
 obtain⟨i,hi⟩:∃ i:Nat,y.1=i:=⟨y.1.toNat,by omega⟩
 obtain⟨j,hj⟩:∃ j:Nat,y.2=j:=⟨y.2.toNat,by omega⟩
 obtain⟨k,hk⟩:∃ k:Nat,z.1=k:=⟨z.1.toNat,by omega⟩
 obtain⟨l,hl⟩:∃ l:Nat,z.2=l:=⟨z.2.toNat,by omega⟩
 have q:∀ (i j:Nat),j<31->rP (31 * i+j)=(hP ((i:Int),(j:Int)) % 8192).toNat:=fun i j h=>by
  unfold rP
  rw[show(31 * i+j) / 31=i by omega,show(31 * i+j) % 31=j by omega]
 have ey:y=((i:Int),(j:Int)):=Prod.ext hi hj
 have ez:z=((k:Int),(l:Int)):=Prod.ext hk hl
 have r1:=q i j (by omega)
 have r2:=q k l (by omega)
 rw[<- ey] at r1
 rw[<- ez] at r2
 rw[e, <- r2] at r1
 have m1:31 * i+j<961:=by omega
 have m2:31 * k+l<961:=by omega
 have:=qa5.mp nd
 have inj:31 * i+j=31 * k+l:=by
  rcases Nat.lt_trichotomy (31 * i+j) (31 * k+l) with z | z | z
  · exact absurd (by rw[List.getElem_map,List.getElem_map,List.getElem_range,List.getElem_range];exact r1) (this _ _ (by simpa using m1) (by simpa using m2) z)
  · exact z
  · exact absurd (by rw[List.getElem_map,List.getElem_map,List.getElem_range,List.getElem_range];exact r1.symm) (this _ _ (by simpa using m2) (by simpa using m1) z)
 have:i=k:=by omega
 have:j=l:=by omega
 rw[ey,ez]
 simp_all
def tm(M:Nat):SetTable:={ SetTable.fresh 0 0 true with mask:=M }
def W(M:Nat)(h:Int)(m:Nat):Nat:=(b8 (tm M) m ((tm M).probeStart h)).j
theorem IX(t:SetTable)(p:SetTable.Probe):t.advance p=(tm t.mask).advance p:=rfl
theorem Cp(t:SetTable):∀ (m:Nat) (p:SetTable.Probe),b8 t m p=b8 (tm t.mask) m p
 | 0,p=>rfl
 |m+1,p=>by show b8 t m (t.advance p)=b8 (tm t.mask) m ((tm t.mask).advance p);rw[Cp t m,IX]
theorem uL(t:SetTable)(h:Int)(m:Nat):(b8 t m (t.probeStart h)).j=W t.mask h m:=by rw[Cp];rfl
def nZ(M:Nat)(pl:List Nat)(h:Int)(j:Nat):Prop:=∃ m,m<10 * SetTable.turns M/\W M h m=j/\∀ m',m'<m->W M h m'∈pl
theorem nZ.mono(r:nZ M pl h j)(s:∀ x∈pl,x∈IZ):nZ M IZ h j:=by
 obtain⟨m,a,b,c⟩:=r
 exact⟨m,a,b,fun m' hm=>s _ (c m' hm)⟩
theorem Cq{t:SetTable}(hr:kZ t.place)(h:t.place[i]? = some j):t.slot j = .live i:=by
 obtain⟨lt,e⟩:=qaC.mp h
 obtain⟨h1,h2,h3⟩:=xw hr j
 have e0:SetTable.below t.place j=i:=by
  rcases Nat.lt_trichotomy (SetTable.below t.place j) i with z | z | z
  · have l:=h3 (SetTable.below t.place j) (qag _) (by omega)
    rw[lP (by omega:SetTable.below t.place j<t.place.size)] at l
    have:=(qa5.mp hr) (SetTable.below t.place j) i (by simp;omega) (by simpa using lt) z
    simp only[Array.getElem_toList] at this
    omega
  · exact z
  · have:=h2 i z
    rw[lP lt] at this
    omega
 unfold SetTable.slot
 dsimp only
 rw[e0,h]
 simp
theorem I0{t:SetTable}(hd:t.dummies = #[])(f:Nat->Int)(h:Int):∀ (n:Nat) (p:SetTable.Probe) (j:Nat) (d:Option Nat),SetTable.probe.go t f h n p=some (.empty j d)->∃ m,m<n/\(b8 t m p).j=j/\∀ m',m'<m->∃ i,t.slot (b8 t m' p).j = .live i:=by
 intro n
 induction n with
 |zero=>intro p j d e;cases e
 |succ n ih =>
   intro p j d e
   unfold SetTable.probe.go at e
   split at e
   · cases e
     exact⟨0,by omega,rfl,fun m' h=>absurd h (Nat.not_lt_zero _)⟩
   · rename_i q
     exact absurd q (uI hd _)
   · rename_i i q
     split at e
     · cases e
     · obtain⟨m,a,b,c⟩:=ih _ j d e
       refine⟨m+1,by omega,b,fun m' hm=>?_⟩
       cases m' with
       |zero=>exact⟨i,q⟩
       |succ m'=>exact c m' (by omega)
theorem I8{t:SetTable}(hd:t.dummies = #[])(f:Nat->Int)(h:Int):∀ (n:Nat) (p:SetTable.Probe) (m k:Nat),m<n->(∀ m',m'<m->∃ i,t.slot (b8 t m' p).j = .live i)->t.slot (b8 t m p).j = .live k->f k=h->∃ j i nx,SetTable.probe.go t f h n p=some (.candidate j i nx):=by
 intro n
 induction n with
 |zero=>intro p m k hm;exact absurd hm (Nat.not_lt_zero _)
 |succ n ih =>
   intro p m k hm hb hs hf
   unfold SetTable.probe.go
   have first:∃ i,t.slot p.j = .live i:=by
    cases m with
    |zero=>exact⟨k,hs⟩
    |succ m=>exact hb 0 (by omega)
   obtain⟨i,hi⟩:=first
   rw[hi]
   dsimp only
   split
   · exact⟨_,_,_,rfl⟩
   · rename_i c
     cases m with
     |zero =>
       have hs:t.slot p.j = .live k:=hs
       rw[hi] at hs
       cases hs
       exact absurd (by simpa using hf) c
     |succ m=>exact ih _ m k (by omega) (fun m' h'=>hb (m'+1) (by omega)) hs hf
theorem xF(M:Nat)(h:Int)(a:k7 M (b8 (tm M) m ((tm M).probeStart h)) s):∀ k,k<=SetTable.runEnd M s.1 - s.1->W M h (m+k)=s.1+k:=by
 have go:∀ (k:Nat) (p:SetTable.Probe),k<=p.more->(b8 (tm M) k p).j=p.j+k:=by
  intro k
  induction k with
  |zero=>intro p _;rfl
  |succ k ih =>
    intro p hk
    have e:(tm M).advance p={ p with j:=p.j+1,more:=p.more - 1 }:=by unfold SetTable.advance;rw[if_pos (by omega)]
    show(b8 (tm M) k ((tm M).advance p)).j=_
    rw[ih _ (by rw[e];show k<=p.more - 1;omega),e]
    show p.j+1+k=_
    omega
 intro k hk
 unfold W
 rw[pX,go k _ (by rw[a.2.2.2];exact hk),a.1]
theorem I9(M:Nat)(h:Int)(owner:Array (Option Nat)):∀ (n m g:Nat) (s:Nat×Nat) (j:Nat),k7 M (b8 (tm M) m ((tm M).probeStart h)) s->m<=10 * g->(∀ m',m'<m->∃ x,owner.getD (W M h m') (some 0)=some x) ->
 SetTable.layClean.free M owner n s.1 s.2=some j->∃ m2,m2<10 * (g+n)/\W M h m2=j/\∀ m',m'<m2->∃ x,owner.getD (W M h m') (some 0)=some x:=by
 intro n
 induction n with
 |zero=>intro m g s j _ _ _ e;cases e
 |succ n ih =>
   intro m g s j a hm hb e
   unfold SetTable.layClean.free at e
   have re:=rB M s.1
   split at e
   · rename_i k q
     cases e
     have kl:k<SetTable.runEnd M s.1+1 - s.1:=List.mem_range.mp (List.mem_of_find?_eq_some q)
     refine⟨m+k,by omega,xF M h a k (by omega),fun m' hm'=>?_⟩
     rcases Nat.lt_or_ge m' m with z | z
     · exact hb m' z
     · have:=List.find?_range_eq_some.mp q
       have w:=xF M h a (m' - m) (by omega)
       rw[show m+(m' - m)=m' by omega] at w
       rw[w]
       have nn:=this.2.2 (m' - m) (by omega)
       cases e:owner.getD (s.1+(m' - m)) (some 0) with
       |none=>rw[e] at nn;simp at nn
       |some x=>exact⟨x,rfl⟩
   · rename_i q
     have more:(b8 (tm M) m ((tm M).probeStart h)).more=SetTable.runEnd M s.1 - s.1:=a.2.2.2
     obtain⟨a1,a2,a3⟩:=xy (tm M) _ _ more
     have a':k7 M (b8 (tm M) (m+(SetTable.runEnd M s.1 - s.1)+1) ((tm M).probeStart h)) (lp M s):=by
      rw[pX,pX]
      show k7 M ((tm M).advance (b8 (tm M) (SetTable.runEnd M s.1 - s.1) (b8 (tm M) m ((tm M).probeStart h)))) _
      unfold SetTable.advance
      rw[qaz (by omega),a2,a3,a.2.1,a.2.2.1]
      exact⟨rfl,rfl,rfl,rfl⟩
     obtain⟨m2,b1,b2,b3⟩:=ih (m+(SetTable.runEnd M s.1 - s.1)+1) (g+1) (lp M s) j a' (by omega) (fun m' hm'=>by
      rcases Nat.lt_or_ge m' m with z | z
      · exact hb m' z
      · have w:=xF M h a (m' - m) (by omega)
        rw[show m+(m' - m)=m' by omega] at w
        rw[w]
        have nn:=List.find?_eq_none.mp q (m' - m) (by simp;omega)
        cases e:owner.getD (s.1+(m' - m)) (some 0) with
        |none=>rw[e] at nn;simp at nn
        |some x=>exact⟨x,rfl⟩) e
     exact⟨m2,by omega,b2,b3⟩
theorem Cr(h:i<=M):SetTable.runEnd M i<=M:=by unfold SetTable.runEnd;split<;>omega
theorem Cs(M:Nat):∀ (m:Nat) (p:SetTable.Probe),p.j+p.more<=M->(b8 (tm M) m p).j+(b8 (tm M) m p).more<=M
 | 0,p,h=>h
 |m+1,p,h=>by
   show(b8 (tm M) m ((tm M).advance p)).j+(b8 (tm M) m ((tm M).advance p)).more<=M
   refine Cs M m _ ?_
   unfold SetTable.advance
   split
   · rename_i c
     show p.j+1+(p.more - 1)<=M
     omega
   · have a:=xx M p.i p.perturb
     have b:=Cr a
     have c:=rB M (SetTable.leap M p.i p.perturb).1
     show(SetTable.leap M p.i p.perturb).1+(SetTable.runEnd M (SetTable.leap M p.i p.perturb).1 - (SetTable.leap M p.i p.perturb).1)<=M
     omega
theorem I_(M:Nat)(h:Int)(m:Nat):W M h m<=M:=by
 have a:SetTable.bits h % (M+1)<=M:=Nat.lt_succ_iff.mp (Nat.mod_lt _ (Nat.succ_pos M))
 have:=Cs M m ((tm M).probeStart h) (by
  show SetTable.bits h % (M+1)+(SetTable.runEnd M (SetTable.bits h % (M+1)) - SetTable.bits h % (M+1))<=M
  have b:=Cr a
  have c:=rB M (SetTable.bits h % (M+1))
  omega)
 exact qa2 (Nat.le_add_right _ _) this
def rC(M:Nat)(hs:List Int)(owner:Array (Option Nat)):Prop:=∀ j k,owner[j]? = some (some k)->∃ c,hs[k]? = some c/\∃ m,m<10 * SetTable.turns M/\W M c m=j/\∀ m',m'<m->∃ x,owner[W M c m']? = some (some x)
theorem Ct(hm:jD M)(all:List Int):∀ (hs:List Int) (owner:Array (Option Nat)) (k:Nat),pY M k owner->rC M all owner->all.drop k=hs->k+hs.length<=M+1 ->
 ∃ owner',hs.foldl (fun acc h=>do
  let (owner,k) <- acc
  let j <- SetTable.layClean.free M owner (SetTable.turns M) (SetTable.bits h % (M+1)) (SetTable.bits h)
  pure (owner.setIfInBounds j (some k),k+1)) (some (owner,k))=some (owner',k+hs.length)/\pY M (k+hs.length) owner'/\rC M all owner'
 | [],owner,k,h,r,_,_=>⟨owner,rfl,h,r⟩
 |c::rs,owner,k,h,r,hd,hl=>by
   simp only[List.length_cons] at hl
   obtain⟨j,hj,hn⟩:=IT hm h (by omega) c
   have ok:pY M (k+1) (owner.setIfInBounds j (some k)):=by
    refine⟨by rw[Array.size_setIfInBounds];exact h.1,?_⟩
    rw[Array.toList_setIfInBounds,List.range_succ]
    refine(Ck owner.toList j (by rw[qau];exact hn)).trans ?_
    exact(List.Perm.cons k h.2).trans (List.perm_append_singleton k _).symm
   have ck:all[k]? = some c:=by
    have:=congrArg List.head? hd
    rw[List.head?_drop] at this
    exact this
   have up:∀ i x,owner[i]? = some (some x)->(owner.setIfInBounds j (some k))[i]? = some (some x):=fun i x e=>by
    have ne:j≠i:=fun z=>by rw[z] at hn;rw[hn] at e;cases e
    rw[Array.getElem?_setIfInBounds_ne ne];exact e
   obtain⟨m2,b1,b2,b3⟩:=I9 M c owner (SetTable.turns M) 0 0 (SetTable.bits c % (M+1),SetTable.bits c) j ⟨rfl,rfl,rfl,rfl⟩ (by omega) (fun m' z=>absurd z (Nat.not_lt_zero _)) hj
   have gd:∀ i,i<=M->∀ x,owner.getD i (some 0)=some x->owner[i]? = some (some x):=fun i hi x e=>by
    have lt:i<owner.size:=by rw[h.1];omega
    rw[qaR,qam lt] at e
    rw[qam lt]
    exact congrArg some e
   have r':rC M all (owner.setIfInBounds j (some k)):=fun i x e=>by
    by_cases z:j=i
    · subst z
      have lt:j<owner.size:=(qaC.mp hn).1
      rw[Array.getElem?_setIfInBounds_self_of_lt lt] at e
      cases e
      refine⟨c,ck,m2,by omega,b2,fun m' hm'=>?_⟩
      obtain⟨x,hx⟩:=b3 m' hm'
      exact⟨x,up _ x (gd _ (I_ M c m') x hx)⟩
    · rw[Array.getElem?_setIfInBounds_ne z] at e
      obtain⟨c',hc,m,a1,a2,a3⟩:=r i x e
      exact⟨c',hc,m,a1,a2,fun m' hm'=>let ⟨y,hy⟩:=a3 m' hm'; ⟨y,up _ y hy⟩⟩
   have hd':all.drop (k+1)=rs:=by
    have:=congrArg List.tail hd
    rw[List.tail_drop] at this
    exact this
   obtain⟨o',e,ok',r2⟩:=Ct hm all rs _ (k+1) ok r' hd' (by omega)
   refine⟨o',?_,by rw[qaD,show k+(rs.length+1)=k+1+rs.length by omega];exact ok',r2⟩
   rw[List.foldl_cons,qaD,show k+(rs.length+1)=k+1+rs.length by omega, <- e]
   congr 1
   show(Option.bind (SetTable.layClean.free M owner (SetTable.turns M) (SetTable.bits c % (M+1)) (SetTable.bits c)) fun j=>some (owner.setIfInBounds j (some k),k+1))=_
   rw[hj]
   rfl
theorem Ja(hm:jD M)(hs:Array Int)(hl:hs.size<=M+1):∃ owner,SetTable.layClean M hs=some owner/\pY M hs.size owner/\rC M hs.toList owner:=by
 have ok:pY M 0 (Array.replicate (M+1) none):=⟨by simp,by
  rw[Array.toList_replicate]
  have:∀ n,(List.replicate n (none:Option Nat)).filterMap id=[]:=fun n=>by
   induction n with
   |zero=>rfl
   |succ n ih=>simpa [List.replicate_succ] using ih
  rw[this]
  exact .nil⟩
 have r0:rC M hs.toList (Array.replicate (M+1) none):=fun j k e=>by
  rw[Array.getElem?_replicate] at e
  split at e<;>cases e
 obtain⟨o',e,ok',r'⟩:=Ct hm hs.toList hs.toList _ 0 ok r0 (by simp) (by simpa using hl)
 refine⟨o',?_,by simpa using ok',r'⟩
 unfold SetTable.layClean
 rw[<- Array.foldl_toList]
 have e:=congrArg (Option.map (·.1)) e
 exact e
theorem Jb{t:SetTable}{es:Array (Int×Value)}(hm:jD (SetTable.sizeAbove n - 1))(hl:es.size<=SetTable.sizeAbove n - 1) :
 ∃ (t':SetTable) (live:List (Nat×Nat)),t.relaid (es.map (·.1)) n=some (t',(live.map (·.2)).toArray)/\(live.map (·.2)).Perm (List.range es.size)/\t'.mask=SetTable.sizeAbove n - 1/\kZ t'.place/\t'.dummies = #[]/\t'.led=t.led/\t'.plain=t.plain /\
  t'.place.toList=live.map (·.1)/\∀ q∈live,∃ c,(es.map (·.1)).toList[q.2]? = some c/\nZ (SetTable.sizeAbove n - 1) (live.map (·.1)) c q.1:=by
 obtain⟨owner,e,ok,uM⟩:=Ja hm (es.map (·.1)) (by simp;omega)
 rw[Array.size_map] at ok
 have lm:∀ j k,owner[j]? = some (some k)->(j,k)∈((List.range (SetTable.sizeAbove n - 1+1)).filterMap fun j=>(owner.getD j none).map (j, ·)):=fun j k h=>by
  have lt:j<owner.size:=(qaC.mp h).1
  refine List.mem_filterMap.mpr ⟨j,by rw[List.mem_range, <- ok.1];exact lt,?_⟩
  rw[qaR,h]
  rfl
 cases q:t.relaid (es.map (·.1)) n with
 |none =>
   unfold SetTable.relaid SetTable.laid at q
   rw[e] at q
   cases q
 |some r =>
   unfold SetTable.relaid SetTable.laid at q
   rw[e] at q
   cases q
   refine⟨_,(List.range (SetTable.sizeAbove n - 1+1)).filterMap fun j=>(owner.getD j none).map (j, ·),rfl,?_,rfl,Ih owner _,rfl,rfl,rfl,rfl,?_⟩
   · have:=IU owner
     rw[ok.1] at this
     rw[this]
     exact ok.2
   · rintro⟨j,k⟩ hq
     obtain⟨j',hj,ej⟩:=List.mem_filterMap.mp hq
     have own:owner[j]? = some (some k):=by
      cases z:owner.getD j' none with
      |none=>rw[z] at ej;cases ej
      |some x =>
        rw[z] at ej
        cases ej
        rw[qaR] at z
        cases y:owner[j]? with
        |none=>rw[y] at z;cases z
        |some o=>rw[y] at z;exact congrArg some z
     obtain⟨c,hc,m,a1,a2,a3⟩:=uM j k own
     refine⟨c,hc,m,a1,a2,fun m' hm'=>?_⟩
     obtain⟨x,hx⟩:=a3 m' hm'
     exact qa7.mpr ⟨(W (SetTable.sizeAbove n - 1) c m',x),lm _ x hx,rfl⟩
noncomputable abbrev Z:=(Int×Int)×Addr
def zO(z:Z):Int×Value:=(hP z.1,.ref z.2)
theorem rD(z:Z):zO z=(hP z.1,.ref z.2):=by unfold zO;rfl
section
variable{prog:Program}{w:World}{A:Around}{E:Value->Shared->Prop}{s:Shared}{a p:Addr}{es:Array (Int×Value)}{ep:Nat}{t:SetTable}
noncomputable def bO(h:Heap)(z:Int×Int)(p:Addr):Prop:=∃ o items n t u,h.get? p=some o/\o.cls = .type "tuple" /\ o.data = .seq items n/\items.toList=[.int z.1 t,.int z.2 u]
theorem bO.key(x:bO h z p)(prog:Program)(w:World):IsTupleKey (intKind prog w) h [z.1,z.2] p:=by
 obtain⟨o,items,n,t,u,e,c,d,i⟩:=x
 exact⟨o,items,n,e,c,d,by rw[i];exact .cons (intKind_is _ _ _ _) (.cons (intKind_is _ _ _ _) .nil)⟩
theorem bO.at{h h':Heap}(x:bO h z p)(k:∀ o,h.get? p=some o->h'.get? p=some o):bO h' z p:=by
 obtain⟨o,items,n,t,u,e,r⟩:=x
 exact⟨o,items,n,t,u,k _ e,r⟩
theorem Jc(hu:A.units<cLine)(hp:bO s.heap z p)(h:Q (hP z) { s with toks:=s.toks+3 }):wpAny (model prog w) A (pyHash (.ref p)) Q E s :=
 wpAny_pyHash_tuple (knd:=intKind prog w) hu (hp.key prog w) h
theorem Jd(hu:A.units<cLine)(hp:bO s.heap y p)(hq:bO s.heap z q)(h:Q (decide (y=z)) s):wpAny (model prog w) A (eqBool (.ref p) (.ref q)) Q E s:=by
 refine wpAny_eqBool_tuple (knd:=intKind prog w) hu (hp.key prog w) (hq.key prog w) ?_
 have e:decide ([y.1,y.2]=[z.1,z.2])=decide (y=z):=decide_eq_decide.mpr ⟨fun h=>by simp at h;exact Prod.ext h.1 h.2,fun h=>by rw[h]⟩
 rw[e]
 exact h
theorem Cu(hp:bO s.heap z p)(h:Q false s):wpAny (model prog w) A (ofAClassStatement 8 (.ref p)) Q E s:=by
 obtain⟨o,items,n,t,u,e,c,d,i⟩:=hp
 have hT:s.TypeIs (.ref p) "tuple" := ⟨o,e,c⟩
 unfold ofAClassStatement
 refine qaa (wpAny_typeOf hT ?_)
 dsimp only
 rw[qay (show(("tuple" : String) == "tuple")=true by decide)]
 refine qaa (qac ?_)
 rw[qaz (by decide)]
 refine qaa (qbt e d ?_)
 dsimp only
 refine qaa ?_
 rw[<- Array.forIn_toList,i]
 rw[List.forIn_cons]
 unfold ofAClassStatement
 simp only[pure_bind,List.forIn_cons,List.forIn_nil]
 exact qac (qac h)
theorem Je(hp:bO s.heap z p)(h:Q true s):wpAny (model prog w) A (hashByValue 8 (.ref p)) Q E s:=by
 obtain⟨o,items,n,t,u,e,c,d,i⟩:=hp
 have hT:s.TypeIs (.ref p) "tuple" := ⟨o,e,c⟩
 unfold hashByValue
 refine qaa (wpAny_specialOf hT F.slot_tuple_hash.lookup ?_)
 dsimp only
 refine qaa (qbt e d ?_)
 refine qaa ?_
 dsimp only[Option.getD]
 rw[<- Array.forIn_toList,i]
 rw[List.forIn_cons]
 unfold hashByValue
 simp only[pure_bind,List.forIn_cons,List.forIn_nil]
 exact qac (qac h)
theorem Jf(hp:bO s.heap z p)(h:Q false s):∀ (l:List Value),(∀ v∈l,∃ q y,v = .ref q/\bO s.heap y q)->wpAny (model prog w) A (searchCouldBeSeen (.ref p) l) Q E s:=by
 intro l hl
 unfold searchCouldBeSeen
 refine qaa ?_
 refine wpAny_forIn_list _ (fun rest r s'=>r.1=none/\s'=s/\∀ v∈rest,∃ q y,v = .ref q/\bO s.heap y q) _ ?_ ?_ _ _ ⟨rfl,rfl,hl⟩
 · rintro v rest r s' ⟨hr,rfl,hv⟩
   obtain⟨q,y,rfl,hq⟩:=hv v (.head _)
   have nx:∀ x∈rest,∃ q y,x=Value.ref q/\bO s'.heap y q:=fun x hx=>hv x (.tail _ hx)
   dsimp only
   split
   · exact qac ⟨rfl,rfl,nx⟩
   · refine qaa (wpAny_eqIsQuiet_tuple (hp.key prog w) ?_)
     rw[qaz (by decide)]
     refine qaa (wpAny_eqIsQuiet_tuple (hq.key prog w) ?_)
     rw[qaz (by decide)]
     refine qaa (Cu hp ?_)
     rw[qaz (by decide)]
     refine qaa (Cu hq ?_)
     rw[qaz (by decide)]
     exact qac ⟨rfl,rfl,nx⟩
 · rintro⟨r1,r2⟩ s' ⟨hr,rfl,_⟩
   simp only at hr
   subst hr
   exact qac h
structure bX(es:Array (Int×Value))(t:SetTable)(B:Bool)(zs:List Z):Prop where
 el:es.toList=zs.map zO
 sm:∀ z∈zs,bp z.1
 nd:(zs.map (·.1)).Nodup
 hon:pW t B
 rE:jD t.mask
 sz:t.place.size=es.size
 rm:t.place.size<=t.mask
 uM:∀ q∈zs.zip t.place.toList,nZ t.mask t.place.toList (hP q.1.1) q.2
theorem bX.fits(h:bX es t B zs):t.fits es.size=true:=by
 have:=h.sz
 have:=h.rm
 simp only[SetTable.fits,SetTable.fill,h.hon.m7,Bool.and_eq_true,beq_iff_eq,decide_eq_true_eq]
 exact⟨h.sz,by simp;omega⟩
theorem bX.get(h:bX es t B zs)(i:Nat):es[i]? = (zs[i]?).map zO:=by
 rw[<- qau,h.el,qaE]
theorem bX.len(h:bX es t B zs):zs.length=es.size:=by
 have:=congrArg List.length h.el
 simpa using this.symm
theorem Jg{t:SetTable}(hd:t.dummies = #[])(f:Nat->Int)(h:Int):∀ (n:Nat) (p:SetTable.Probe) (j i:Nat) (nx:SetTable.Probe),SetTable.probe.go t f h n p=some (.candidate j i nx)->t.slot j = .live i/\f i=h:=by
 intro n
 induction n with
 |zero=>intro p j i nx e;cases e
 |succ n ih =>
   intro p j i nx e
   unfold SetTable.probe.go at e
   split at e
   · cases e
   · rename_i q
     exact absurd q (uI hd _)
   · rename_i k q
     split at e
     · rename_i c
       cases e
       exact⟨q,eq_of_beq c⟩
     · exact ih _ j i nx e
theorem Jh{t:SetTable}(h:t.slot j = .live i):i<t.place.size:=(qaC.mp (xB h)).1
theorem bX.found(T:bX es t B zs)(hz:z∈zs.map (·.1))(hf:∀ i (h:i<zs.length),f i=hP zs[i].1):∃ j i nx,t.probe f (hP z) (t.probeStart (hP z))=some (.candidate j i nx):=by
 obtain⟨y,hy,rfl⟩:=qa7.mp hz
 obtain⟨k,hk,rfl⟩:=List.mem_iff_getElem.mp hy
 have kp:k<t.place.size:=by rw[T.sz, <- T.len];exact hk
 have zm:(zs[k],t.place[k])∈zs.zip t.place.toList:=by
  refine List.mem_iff_getElem.mpr ⟨k,by simp;omega,?_⟩
  simp
 obtain⟨m,a1,a2,a3⟩:=T.uM _ zm
 refine I8 T.hon.m7 f _ (10 * SetTable.turns t.mask) _ m k a1 (fun m' hm'=>?_) ?_ (hf k hk)
 · rw[uL]
   obtain⟨i,hi⟩:=List.getElem?_of_mem (a3 m' hm')
   rw[qau] at hi
   exact⟨i,Cq T.hon.rise hi⟩
 · rw[uL,a2]
   exact Cq T.hon.rise (qam kp)
theorem bX.hash(T:bX es t B zs)(h:i<zs.length):((es[i]?).map (·.1)).getD 0=hP zs[i].1:=by
 have e:=T.get i
 rw[qae h] at e
 rw[e,Option.map_some,Option.map_some,Option.getD_some,rD]
end
section
variable{prog:Program}{w:World}{A:Around}{E:Value->Shared->Prop}{s:Shared}{a p:Addr}{es:Array (Int×Value)}{ep:Nat}{t:SetTable}
theorem Ji(hu:A.units<cLine)(ha:s.heap.get? a=some (bh es ep t))(T:bX es t B zs)(hz:∀ y∈zs,bO s.heap y.1 y.2)(hp:bO s.heap z p)(sm:bp z)
 (there:z∈zs.map (·.1)->Q (.there none) s) (free:∀ j,z ∉ zs.map (·.1)->t.slot j = .empty->nZ t.mask t.place.toList (hP z) j->Q (.free j false) s) (n:Nat):wpAny (model prog w) A (setSearchFrom a (.ref p) (hP z) true (n+1) none) Q E s:=by
 rw[setSearchFrom]
 refine qaa (qbh ha rfl T.fits ?_)
 dsimp only
 have odd:t.gaveWay=false:=by
  unfold SetTable.gaveWay
  rcases T.rE with e | e | e | e | e<;>rw[e]<;>decide
 rw[odd,qaz (by decide)]
 have room:t.place.size<=t.mask:=T.rm
 obtain⟨m,hm⟩:=IP T.hon.m7 T.rE room (fun i:Nat=>((es[i]?).map (·.1)).getD 0) (hP z)
 generalize hq:SetTable.probe t _ (hP z) _=r
 have hr:r=some m:=by rw[<- hq];exact hm
 clear hq
 subst hr
 dsimp only
 · generalize hf:(fun i:Nat=>((es[i]?).map (·.1)).getD 0)=f at hm
   have hfi:∀ i (h:i<zs.length),f i=hP zs[i].1:=fun i h=>by rw[<- hf];exact T.hash h
   cases m with
   |empty j d =>
     dsimp only
     obtain⟨rfl,e⟩:=Ig T.hon.m7 f (hP z) _ _ j d rfl hm
     obtain⟨m,b1,b2,b3⟩:=I0 T.hon.m7 f (hP z) _ _ j none hm
     refine qac (free j (fun xG=>?_) e ⟨m,b1,by rw[<- uL];exact b2,fun m' hm'=>?_⟩)
     · obtain⟨j',i',nx',q⟩:=T.found xG hfi
       rw[hm] at q
       cases q
     · obtain⟨i,hi⟩:=b3 m' hm'
       rw[uL] at hi
       have:=xB hi
       rw[<- qau] at this
       exact qaN this
   |candidate j i nx =>
     dsimp only
     obtain⟨e1,e2⟩:=Jg T.hon.m7 f (hP z) _ _ j i nx hm
     have lz:i<zs.length:=by rw[T.len, <- T.sz];exact Jh e1
     have key:zs[i].1=z:=IW (T.sm _ (List.getElem_mem lz)) sm ((hfi i lz).symm.trans e2)
     have xG:z∈zs.map (·.1):=qa7.mpr ⟨zs[i],List.getElem_mem lz,key⟩
     have ge:=T.get i
     rw[qae lz] at ge
     rw[Option.map_some,rD] at ge
     have go:∀ {k:Bool->(Array (Int×Value)×Nat×SetTable)->Sem SetFound},(∀ x,k true x=pure (SetFound.there none))->wpAny (model prog w) A (do
      let equal <- holding [Value.ref zs[i].2] (eqBool (.ref zs[i].2) (.ref p))
      let x <- setState a
      k equal x) Q E s:=fun {k} hk=>by
      refine qaa (qaY (Jd hu (hz _ (List.getElem_mem lz)) hp ?_))
      rw[qaG key]
      refine qaa (qbh ha rfl T.fits ?_)
      rw[hk]
      exact qac (there xG)
     split
     · refine qaa (Jf hp ?_ _ fun v hv=>?_)
       · rw[qaz (by decide)]
         simp only[ge]
         exact go fun x=>by simp
       · obtain⟨e,he,rfl⟩:=qa7.mp hv
         have he:e∈es.toList:=by
          rw[Array.mem_toList_iff] at he ⊢
          exact(Array.mem_filter.mp he).1
         rw[T.el] at he
         obtain⟨y,hy,rfl⟩:=qa7.mp he
         exact⟨y.2,y.1,rfl,hz y hy⟩
     · simp only[ge]
       exact go fun x=>by simp
end
section
variable{prog:Program}{w:World}{A:Around}{E:Value->Shared->Prop}{s:Shared}{a p:Addr}{es:Array (Int×Value)}{ep:Nat}{t:SetTable}
theorem Jj{α β:Type}{x:α}{y:β}:∀ (xs:List α) (ys:List β) (n:Nat),xs.length=ys.length->∀ q∈(xs.take n++x::xs.drop n).zip (ys.take n++y::ys.drop n),q=(x,y)\/q∈xs.zip ys:=by
 intro xs ys n h q hq
 have l:(xs.take n).length=(ys.take n).length:=by rw[qbn,qbn,h]
 rw[List.zip_append l,List.zip_cons_cons] at hq
 have e:xs.zip ys=(xs.take n).zip (ys.take n)++(xs.drop n).zip (ys.drop n):=by rw[<- List.zip_append l,qaJ,qaJ]
 rw[e]
 rcases qaO.mp hq with z | z
 · exact .inr (qbd _ z)
 · rcases qav.mp z with z | z
   · exact .inl z
   · exact .inr (qar _ z)
theorem bX.put(T:bX es t B zs){z:Z}(hn:z.1 ∉ zs.map (·.1))(sm:bp z.1)(hj:t.slot j = .empty)(hr:nZ t.mask t.place.toList (hP z.1) j)(rm:t.place.size+1<=t.mask) :
 bX (SetTable.insertAt es (t.put j).2 (zO z)) (t.put j).1 B (zs.take (t.put j).2++z::zs.drop (t.put j).2)/\(t.put j).1.mask=t.mask/\(t.put j).1.place.size=t.place.size+1/\(t.put j).1.dummies = #[]:=by
 have dm:(t.put j).1.dummies = #[]:=by
  unfold SetTable.put
  dsimp only
  rw[T.hon.m7,B1]
  rfl
 have pl:(t.put j).1.place=SetTable.insertAt t.place (t.put j).2 j:=rfl
 have p2:(t.put j).2=SetTable.below t.place j:=rfl
 generalize hq:(t.put j).2=q at *
 have xH:(t.put j).1.place.toList=t.place.toList.take q++j::t.place.toList.drop q:=by rw[pl,SetTable.toList_insertAt]
 have mk:(t.put j).1.mask=t.mask:=rfl
 have m9:(t.put j).1.place.size=t.place.size+1:=by
  rw[<- qaW,xH]
  simp
  omega
 have len:zs.length=t.place.toList.length:=by rw[T.len, <- T.sz,qaW]
 have rF:∀ x∈t.place.toList,x∈(t.put j).1.place.toList:=fun x hx=>by
  rw[xH]
  rw[<- qaJ q t.place.toList] at hx
  rcases qaO.mp hx with h | h
  · exact qbd _ h
  · exact qar _ (qat _ h)
 have perm:(zs.take q++z::zs.drop q).Perm (z::zs):=by
  have:=List.perm_middle (a:=z) (l₁:=zs.take q) (l₂:=zs.drop q)
  rwa[qaJ] at this
 refine⟨⟨?_,fun y hy=>?_,?_,⟨?_,dm,T.hon.led⟩,T.rE,?_,by rw[m9];exact rm,fun y hy=>?_⟩,rfl,m9,dm⟩
 · rw[SetTable.toList_insertAt,T.el,List.map_append,qaV,List.map_take,List.map_drop]
 · rcases qav.mp (perm.mem_iff.mp hy) with e | e
   · rw[e];exact sm
   · exact T.sm y e
 · refine(perm.map _).nodup_iff.mpr ?_
   rw[qaV]
   exact qbg.mpr ⟨hn,T.nd⟩
 · show kZ (t.put j).1.place
   rw[pl,p2]
   exact Ic T.hon.rise (Ie T.hon.m7 hj)
 · have l2:(SetTable.insertAt es q (zO z)).toList.length=es.toList.length+1:=by
    rw[SetTable.toList_insertAt]
    simp only[List.length_append,List.length_take,List.length_cons,List.length_drop]
    omega
   rw[qaW,qaW] at l2
   rw[m9,l2,T.sz]
 · rw[xH] at hy
   rcases Jj zs t.place.toList q len y hy with e | e
   · rw[e,mk]
     exact hr.mono rF
   · rw[mk]
     exact(T.uM y e).mono rF
theorem Jk{zs:List Z}(hel:es.toList=zs.map zO)(l:List Nat):l.filterMap (fun i=>es[i]?)=(l.filterMap fun i=>zs[i]?).map zO:=by
 rw[List.map_filterMap]
 congr 1
 funext i
 rw[<- qau,hel,qaE]
theorem bX.rG(T:bX es t B zs)(hm:jD (SetTable.sizeAbove n - 1))(hl:es.size<=SetTable.sizeAbove n - 1) :
 ∃ (t':SetTable) (order:Array Nat) (zs':List Z),t.relaid (es.map (·.1)) n=some (t',order)/\(order.filterMap fun i=>es[i]?).size=es.size/\bX (order.filterMap fun i=>es[i]?) t' B zs'/\zs'.Perm zs/\t'.mask=SetTable.sizeAbove n - 1/\t'.place.size=es.size:=by
 obtain⟨t',live,e,pm,mk,ri,du,le,pn,Cv,rc⟩:=Jb (t:=t) hm hl
 have zp:((live.map (·.2)).filterMap fun i=>zs[i]?).Perm zs:=by
  have q:=pm.filterMap (fun i=>zs[i]?)
  rw[<- T.len,List.filterMap_getElem?_range_length] at q
  exact q
 have esl:((live.map (·.2)).toArray.filterMap fun i=>es[i]?).toList=((live.map (·.2)).filterMap fun i=>zs[i]?).map zO:=by
  rw[Array.toList_filterMap]
  exact Jk T.el _
 have Cw:((live.map (·.2)).toArray.filterMap fun i=>es[i]?).size=es.size:=by
  rw[<- qaW,esl,qaK,zp.length_eq,T.len]
 have ll:live.length=es.size:=by
  have:=pm.length_eq
  simpa using this
 have psz:t'.place.size=es.size:=by rw[<- qaW,Cv,qaK,ll]
 refine⟨t',_,_,e,Cw,⟨esl,fun y hy=>T.sm y (zp.mem_iff.mp hy),(zp.map _).nodup_iff.mpr T.nd,⟨ri,du,le.trans T.hon.led⟩,by rw[mk];exact hm,psz.trans Cw.symm,by rw[psz,mk];exact hl,fun y hy=>?_⟩,zp,mk,psz⟩
 have lt:∀ q∈live,q.2<zs.length:=fun q hq=>by
  have:=pm.mem_iff.mp (qa7.mpr ⟨q,hq,rfl⟩)
  rw[T.len]
  exact List.mem_range.mp this
 have Jl:∀ (l:List (Nat×Nat)),(∀ q∈l,q.2<zs.length)->∀ y∈((l.map (·.2)).filterMap fun i=>zs[i]?).zip (l.map (·.1)),∃ q∈l,zs[q.2]? = some y.1/\y.2=q.1:=by
  intro l
  induction l with
  |nil=>intro _ y hy;simp at hy
  |cons c r ih =>
    intro h y hy
    have lc:=h c (.head _)
    rw[qaV,qaV,List.filterMap_cons_some (qae lc),List.zip_cons_cons] at hy
    rcases qav.mp hy with e | e
    · exact⟨c,.head _,by rw[e];exact qae lc,by rw[e]⟩
    · obtain⟨q,hq,b⟩:=ih (fun q hq=>h q (.tail _ hq)) y e
      exact⟨q,.tail _ hq,b⟩
 rw[Cv] at hy ⊢
 obtain⟨q,hq,e1,e2⟩:=Jl live lt y hy
 obtain⟨c,hc,r⟩:=rc q hq
 have ec:c=hP y.1.1:=by
  have h2:(es.map (·.1)).toList[q.2]? = some (hP y.1.1):=by
   rw[Array.toList_map,T.el,List.map_map,qaE,e1,Option.map_some,Function.comp_apply,rD]
  rw[h2] at hc
  exact(qaL hc).symm
 rw[mk,e2]
 rw[ec] at r
 exact r
end
section
variable{prog:Program}{w:World}{A:Around}{E:Value->Shared->Prop}{s:Shared}{a p:Addr}
def bP(B:Bool)(h:Heap)(a:Addr)(zs:List Z):Prop:=∃ es ep t,h.get? a=some (bh es ep t)/\bX es t B zs/\t.place.size * 5<t.mask * 3
theorem bP.at{h h':Heap}(x:bP B h a zs)(k:∀ o,h.get? a=some o->h'.get? a=some o):bP B h' a zs:=by
 obtain⟨es,ep,t,e,r⟩:=x
 exact⟨es,ep,t,k _ e,r⟩
theorem bP.fresh(B:Bool){h:Heap}(e:h.get? a=some (bh #[] 0 (.fresh 0 0 (!B)))):bP B h a [] :=
 ⟨#[],0,_,e,⟨rfl,(fun z hz=>nomatch hz),List.nodup_nil,pW.fresh B,.inl rfl,rfl,(show 0<=7 by decide),(fun q hq=>by simp at hq)⟩,(show 0 * 5<7 * 3 by decide)⟩
theorem grow(hm:jD m)(h1:n * 5<m * 3)(h2:m * 3<=(n+1) * 5)(h3:n<600):jD (SetTable.sizeAbove (SetTable.grown (n+1)) - 1)/\n+1<=SetTable.sizeAbove (SetTable.grown (n+1)) - 1/\(n+1) * 5<(SetTable.sizeAbove (SetTable.grown (n+1)) - 1) * 3/\SetTable.sizeAbove (SetTable.grown (n+1))<=sizeLine:=by
 rcases hm with rfl | rfl | rfl | rfl | rfl
 · obtain rfl:n=4:=by omega
   exact⟨.inr (.inl (by decide)),by decide,by decide,by decide⟩
 · obtain rfl:n=18:=by omega
   exact⟨.inr (.inr (.inl (by decide))),by decide,by decide,by decide⟩
 · obtain rfl:n=76:=by omega
   exact⟨.inr (.inr (.inr (.inl (by decide)))),by decide,by decide,by decide⟩
 · obtain rfl:n=306:=by omega
   exact⟨.inr (.inr (.inr (.inr (by decide)))),by decide,by decide,by decide⟩
 · omega
theorem Cy(hu:A.units<cLine)(hS:bP B s.heap a zs)(hz:∀ y∈zs,bO s.heap y.1 y.2)(hp:bO s.heap z p)(sm:bp z)(hl:zs.length<600)
 (same:z∈zs.map (·.1)->∀ tk,Q false { s with toks:=tk })
 (new:z ∉ zs.map (·.1)->∀ h' tk zs',Heap.SameBut a s.heap h'->bP B h' a zs'->zs'.Perm ((z,p)::zs)->Q true { s with heap:=h',toks:=tk }):wpAny (model prog w) A (setAdd a (.ref p)) Q E s:=by
 obtain⟨es,ep,t,ha,T,nf⟩:=hS
 unfold setAdd
 refine qaY (qaa (Jc hu hp ?_))
 unfold setAddHashed
 refine qaY ?_
 show wpAny _ _ (setAddHashedIn a (.ref p) (hP z) (99999+1)) _ _ _
 rw[setAddHashedIn]
 refine qaa (qbh (s:={ s with toks:=s.toks+3 }) ha rfl T.fits ?_)
 have ns:byScan (.ref p) es=false:=rfl
 dsimp only
 rw[ns,qaz (by decide)]
 refine qaa ?_
 show wpAny _ _ (setSearchFrom a (.ref p) (hP z) true (99999+1) none) _ _ _
 refine Ji (s:={ s with toks:=s.toks+3 }) hu ha T hz hp sm (fun hin=>?_) (fun j hn hj hr=>?_) 99999
 · exact qac (same hin _)
 · dsimp only
   refine qaa (qbh (s:={ s with toks:=s.toks+3 }) ha rfl T.fits ?_)
   dsimp only
   have room:t.place.size+1<=t.mask:=by
    rcases T.rE with e | e | e | e<;>omega
   obtain⟨T1,mk1,m9,Cz⟩:=T.put (z:=(z,p)) hn sm hj hr room
   rw[rD] at T1
   generalize hq:(t.put j).2=q at T1
   generalize ht:(t.put j).1=t1 at T1 mk1 m9 Cz
   have m_:(zs.take q++(z,p)::zs.drop q).Perm ((z,p)::zs):=by
    have:=List.perm_middle (a:=(z,p)) (l₁:=zs.take q) (l₂:=zs.drop q)
    rwa[qaJ] at this
   have esl:(SetTable.insertAt es q (hP z,.ref p)).size=zs.length+1:=by
    rw[<- T1.len]
    simp only[List.length_append,List.length_take,List.length_cons,List.length_drop]
    omega
   have big:(600:Nat)<=sizeLine:=by decide
   have zl:t.place.size=zs.length:=by rw[T.sz,T.len]
   have ez:es.size=zs.length:=T.len.symm
   have g1:=B4 (es':=SetTable.insertAt es q (hP z,.ref p)) (t':=t1) ha
   have fw:=Heap.SameBut.update s.heap a (Obj.putSet (SetTable.insertAt es q (hP z,.ref p)) t1)
   have tf:t1.tooFull=decide (t1.place.size * 5 ≥ t1.mask * 3):=by
    unfold SetTable.tooFull SetTable.fill
    rw[Cz]
    rfl
   have fin:wpAny (model prog w) A (if (!false && t1.tooFull)=true then do
    setRelay a (SetTable.grown (es.size+1))
    pure true
    else pure true) Q E { s with heap:=s.heap.update a (Obj.putSet (SetTable.insertAt es q (hP z,.ref p)) t1),toks:=s.toks+3 }:=by
    split
    · rename_i c
      rw[tf,Bool.not_false,Bool.true_and,decide_eq_true_eq,m9,mk1] at c
      obtain⟨k1,k2,k3,k4⟩:=grow T.rE nf c (by omega)
      rw[<- T.sz]
      refine qaa ?_
      unfold setRelay
      refine qaa (qbh (s:={ s with heap:=s.heap.update a (Obj.putSet (SetTable.insertAt es q (hP z,.ref p)) t1),toks:=s.toks+3 }) g1 rfl T1.fits ?_)
      dsimp only
      rw[qaz (Nat.not_lt.mpr k4)]
      obtain⟨t2,order,Jm,e2,rH,T2,dM,mk2,ps2⟩:=T1.rG (n:=SetTable.grown (t.place.size+1)) k1 (by rw[esl, <- zl];exact k2)
      rw[e2]
      refine qaa (show wpAny _ _ (if ((order.filterMap fun i=>(SetTable.insertAt es q (hP z,.ref p))[i]?).size != (SetTable.insertAt es q (hP z,.ref p)).size)=true then (unsupported "internal:set-table-lost-an-element" >>= fun (_:PUnit)=>pure (order.filterMap fun i=>(SetTable.insertAt es q (hP z,.ref p))[i]?,t2)) else pure (order.filterMap fun i=>(SetTable.insertAt es q (hP z,.ref p))[i]?,t2)) _ _ _ from ?_)
      rw[qaz (by rw[rH];simp)]
      refine qac ?_
      dsimp only
      refine wpAny_storeSet_of (s:={ s with heap:=s.heap.update a (Obj.putSet (SetTable.insertAt es q (hP z,.ref p)) t1),toks:=s.toks+3 }) g1 rfl ?_ (by rw[rH,esl];omega)
      refine qac (new hn _ _ Jm (fw.trans (Heap.SameBut.update _ a _)) ⟨_,_,t2,B4 g1,T2,?_⟩ (dM.trans m_))
      rw[ps2,mk2,esl, <- zl]
      exact k3
    · rename_i c
      rw[tf,Bool.not_false,Bool.true_and,decide_eq_true_eq] at c
      exact qac (new hn _ _ _ fw ⟨_,_,t1,g1,T1,by omega⟩ m_)
   split
   · refine qaa (Je (s:={ s with toks:=s.toks+3 }) hp ?_)
     rw[qay rfl]
     refine qaa (wpAny_storeSet_of (s:={ s with toks:=s.toks+3 }) ha rfl ?_ (by omega))
     exact fin
   · refine qaa (qac ?_)
     rw[qay rfl]
     refine qaa (wpAny_storeSet_of (s:={ s with toks:=s.toks+3 }) ha rfl ?_ (by omega))
     exact fin
end
section
variable{prog:Program}{w:World}{A:Around}{E:Value->Shared->Prop}{s:Shared}{a p:Addr}
theorem Jn(hu:A.units+1<cLine)(hS:bP B s.heap a zs)(hz:∀ y∈zs,bO s.heap y.1 y.2)(hp:bO s.heap z p)(sm:bp z)(hl:zs.length<600)
 (h:∀ h' tk zs',Heap.SameBut a s.heap h'->bP B h' a zs'->(zs'=zs/\z∈zs.map (·.1))\/(zs'.Perm ((z,p)::zs)/\z ∉ zs.map (·.1))->Q .none { s with heap:=h',toks:=tk }):wpAny (model prog w) A (call (.builtin "set.add") [.ref a,.ref p]) Q E s:=by
 have hT:s.TypeIs (.ref a) "set" := by obtain⟨es,ep,t,e,_⟩:=hS;exact⟨_,e,rfl⟩
 refine qa0 F.slot_set_add hT F.entry_set_add ?_ (F.args_set_add_2 _ _)
 show wpAny _ _ (setAdd a (.ref p) >>= _) _ _ _
 refine qaa (Cy hu hS hz hp sm hl (fun hin tk=>?_) fun hn h' tk zs' sb S pm=>?_)
 · exact qac ⟨_,rfl,h s.heap tk zs (Heap.SameBut.refl _ _) hS (.inl ⟨rfl,hin⟩)⟩
 · exact qac ⟨_,rfl,h h' tk zs' sb S (.inr ⟨pm,hn⟩)⟩
end
end St
namespace L2
open PySem PySem.Spec PyProof.Rows
noncomputable abbrev Key:=Sum Int Str
def CA:Key->Value->Bool
 | .inl k,v=>Value.isInt k v
 | .inr x,v=>Value.isStrOf x v
def Jo(w:World):Key->Int
 | .inl k=>hashInt k
 | .inr x=>hashStr w x
theorem lQ:∀ {k:Key} {v:Value},CA k v=true->(∃ i t,k=Sum.inl i/\v=Value.int i t)\/(∃ x t,k=Sum.inr x/\v=Value.str x t)
 | .inl i,v,h=>by
   obtain⟨t,e⟩:=Value.isInt_shape (k:=i) (v:=v) h
   exact .inl ⟨i,t,rfl,e⟩
 | .inr x,v,h=>by
   obtain⟨t,e⟩:=Value.isStrOf_shape (x:=x) (v:=v) h
   exact .inr ⟨x,t,rfl,e⟩
theorem Jp(a b:Int):decide ((Sum.inl a:Key)=Sum.inl b)=(a == b):=by
 by_cases e:a=b
 · subst e;simp
 · have h : ¬ (Sum.inl a:Key)=Sum.inl b:=fun q=>e (Sum.inl.inj q)
   rw[qaU h]
   exact(beq_eq_false_iff_ne.mpr e).symm
theorem Jq(a b:Str):decide ((Sum.inr a:Key)=Sum.inr b)=decide (a=b):=by
 by_cases e:a=b
 · subst e;simp
 · have h : ¬ (Sum.inr a:Key)=Sum.inr b:=fun q=>e (Sum.inr.inj q)
   rw[qaU h,qaU e]
theorem Jr(a:Int)(b:Str):decide ((Sum.inl a:Key)=Sum.inr b)=false:=qaU (fun q=>nomatch q)
theorem Js(a:Str)(b:Int):decide ((Sum.inr a:Key)=Sum.inl b)=false:=qaU (fun q=>nomatch q)
def CB(prog:Program)(w:World):PySem.KeyKind prog w Key where
 is:=CA
 hash:=Jo w
 inj:=fun v a b ha hb=>by
  rcases lQ ha with ⟨i,t,rfl,rfl⟩ | ⟨x,t,rfl,rfl⟩
  · rcases lQ hb with ⟨j,u,rfl,e⟩ | ⟨y,u,rfl,e⟩
    · injection e with e1 _;rw[e1]
    · exact nomatch e
  · rcases lQ hb with ⟨j,u,rfl,e⟩ | ⟨y,u,rfl,e⟩
    · exact nomatch e
    · injection e with e1 _;rw[e1]
 byValue:=fun k v h=>by
  rcases lQ h with ⟨i,t,rfl,rfl⟩ | ⟨x,t,rfl,rfl⟩<;>rfl
 pyHash:=fun hv h=>by
  rcases lQ hv with ⟨i,t,rfl,rfl⟩ | ⟨x,t,rfl,rfl⟩
  · exact wpAny_pyHash_int h
  · exact wpAny_pyHash_str h
 eqBool:=fun hu hv h=>by
  rcases lQ hu with ⟨i,t,rfl,rfl⟩ | ⟨x,t,rfl,rfl⟩
  · rcases lQ hv with ⟨j,u,rfl,rfl⟩ | ⟨y,u,rfl,rfl⟩
    · rw[Jp] at h;exact wpAny_eqBool_int h
    · rw[Jr] at h;exact SeqAt.EqAt.int_str i t y u _ _ _ _ h
  · rcases lQ hv with ⟨j,u,rfl,rfl⟩ | ⟨y,u,rfl,rfl⟩
    · rw[Js] at h;exact SeqAt.EqAt.str_int x t j u _ _ _ _ h
    · rw[Jq] at h;exact wpAny_eqBool_str h
 «strs» := fun k x t v h=>by
  rcases lQ h with ⟨i,u,rfl,e⟩ | ⟨y,u,rfl,e⟩
  · exact nomatch e
  · injection e with e1 _
    subst e1
    cases v<;>rfl
inductive V where
 |av | bl (b:Bool) | int (i:Int) | str (x:Str) | jE (b:Array UInt8) | flt (b:UInt64) | ref (a:Addr) | ty (n:String)
 deriving DecidableEq
noncomputable def RelV:V->Value->Prop
 | .av,u=>u=Value.none
 | .bl b,u=>u=Value.bool b
 | .int i,u=>∃ t,u=Value.int i t
 | .str x,u=>∃ t,u=Value.str x t
 | .jE b,u=>∃ t,u=Value.bytes b t
 | .flt b,u=>∃ t,u=Value.float b t
 | .ref a,u=>u=Value.ref a
 | .ty n,u=>u=Value.type n
abbrev Vals:List V->List Value->Prop:=Paired RelV
theorem Vals.length(r:Vals xs us):xs.length=us.length:=Paired.length r
theorem Vals.get:∀ {xs:List V} {us:List Value} {i:Nat} {x:V},Vals xs us->xs[i]? = some x->∃ u,us[i]? = some u/\RelV x u
 | _,_,_,_,.nil,e=>by simp at e
 | _,_,0,_,.cons r _,e=>by simp at e;subst e;exact⟨_,rfl,r⟩
 | _,_,i+1,x,.cons _ t,e=>by
   obtain⟨u,h1,h2⟩:=Vals.get (i:=i) (x:=x) t (by simpa using e)
   exact⟨u,by simpa using h1,h2⟩
theorem Vals.set(r:RelV x u):∀ {xs:List V} {us:List Value} (i:Nat),Vals xs us->Vals (xs.set i x) (us.set i u)
 | _,_,_,.nil=>.nil
 | _,_,0,.cons _ t=>.cons r t
 | _,_,i+1,.cons q t=>.cons q (Vals.set r i t)
theorem Vals.append:∀ {xs ys:List V} {us ws:List Value},Vals xs us->Vals ys ws->Vals (xs++ys) (us++ws)
 | _,_,_,_,.nil,s=>s
 | _,_,_,_,.cons r t,s=>.cons r (Vals.append t s)
theorem Vals.take:∀ {xs:List V} {us:List Value} (n:Nat),Vals xs us->Vals (xs.take n) (us.take n)
 | _,_,0,_=>.nil
 | _,_,_+1,.nil=>.nil
 | _,_,n+1,.cons r t=>.cons r (Vals.take n t)
theorem Vals.drop:∀ {xs:List V} {us:List Value} (n:Nat),Vals xs us->Vals (xs.drop n) (us.drop n)
 | _,_,0,r=>r
 | _,_,_+1,.nil=>.nil
 | _,_,n+1,.cons _ t=>Vals.drop n t
theorem Vals.none_of:∀ {xs:List V} {us:List Value} {i:Nat},Vals xs us->xs[i]? = none->us[i]? = none:=fun {xs us i} r e=>by
 have h1:=r.length
 have h2:xs.length<=i:=List.getElem?_eq_none_iff.mp e
 exact List.getElem?_eq_none_iff.mpr (by omega)
def cG:Option V->Option Value->Prop
 |some v,some u=>RelV v u
 |none,none=>True
 | _,_=>False
def KV{κ:Type}:List (κ×V)->List (κ×Value)->Prop:=Paired fun (p:κ×V) (q:κ×Value)=>p.1=q.1/\RelV p.2 q.2
def kV:Key->V
 | .inl i=>.int i
 | .inr x=>.str x
inductive HO where
 |lst (xs:List V)
 |tup (xs:List V)
 |dK (kvs:List (Key×V)) | dT (kvs:List (List Key×V))
 |set (S:Int->Bool) (n:Nat)
 |ins (C dx:Addr) (fs:List (Str×V))
 |own (x:Addr)
 |xd (fs:List (Str×V))
 |met (f x:Addr)
 |xI (lo hi:Int)
 |ai (o:Obj) (u:HO)
 |n4 (ps:Array Value)
 |ext (φ:Heap->Prop)
noncomputable abbrev Hp:=Addr->Option HO
def upd(H:Hp)(a:Addr)(o:HO):Hp:=fun b=>if b=a then some o else H b
theorem dh:upd H a o a=some o:=by unfold upd;rw[if_pos rfl]
theorem aW(h:b≠a):upd H a o b=H b:=by unfold upd;rw[if_neg h]
theorem xJ:upd (upd H a o) a u=upd H a u:=by
 funext b;unfold upd;split<;>rfl
theorem n5{H:Hp}{a b:Addr}{o u:HO}(h:H a=some o)(h':H b=some u)(d:o≠u):a≠b:=by
 intro e;subst e;rw[h] at h';exact d (qaL h')
theorem fz{H:Hp}{a b:Addr}{o:HO}(h:H a=some o)(h':H b=none):a≠b:=by
 intro e;subst e;rw[h] at h';cases h'
section
variable(P:Program)(w:World)
def az(H:Hp)(h:Heap)(a:Addr):HO->Prop
 | .lst xs=>xs.length<=sizeLine/\∃ (its:List Value) (n:Nat),Vals xs its/\h.get? a=some { cls:=.type "list",data:=.seq its.toArray n }
 | .tup xs=>xs.length<=sizeLine/\∃ its:List Value,Vals xs its/\IsTup h a its.toArray
 | .dK kvs=>kvs.length<=sizeLine/\(a == sysModules)=false/\∃ vs,KV kvs vs/\h.DictOf (CB P w) a vs
 | .dT kvs=>kvs.length<=sizeLine/\(a == sysModules)=false/\∃ xs:List (List Key×Addr×Value),
  Paired (fun (p:List Key×V) (q:List Key×Addr×Value)=>p.1=q.1/\H q.2.1=some (.tup (p.1.map kV))/\RelV p.2 q.2.2) kvs xs /\
  ∃ o es ep,h.get? a=some o/\o.ExactDict/\o.data = .dict es ep/\es.toList=xs.map (entryOfKey (tupleKind (CB P w)))/\(xs.map (·.1)).Nodup
 | .set S n=>h.SetOf (intKind P w) a S n
 | .ins C dx fs=>H dx=some (.own a)/\fs.length<=1000/\dx≠a/\h.get? a=some (W.instObj C dx) /\
  ∃ mA,h.Ns1 dx mA/\(∀ f,cG (fs.lookup f) (mA f))/\PySem.Within mA (fs.map (·.1))
 | .own _=>∃ o,h.get? a=some o
 | .xd fs=>∃ mA,h.Ns1 a mA/\∀ f,cG (fs.lookup f) (mA f)
 | .xI lo hi=>∃ t u v,h.get? a=some { cls:=.type "range",data:=.fields #[.int lo t,.int hi u,.int 1 v] }
 | .ai o u=>h.get? a=some o/\az H h a u
 | .n4 ps=>h.get? a=some { cls:=.none,data:=.fields ps }
 | .met f x=>h.get? a=some (W.methodObj (.ref f) (.ref x))
 | .ext φ=>φ h/\(∃ o,h.get? a=some o)/\∀ h1 h2:Heap,φ h1->(∀ o,h1.get? a=some o->h2.get? a=some o)->φ h2
def bY(H:Hp)(h:Heap):Prop:=∀ a o,H a=some o->az P w H h a o
end
section
variable{P:Program}{w:World}{H H':Hp}{h h':Heap}{a:Addr}{o:HO}
theorem az.lt(x:az P w H h a o):a<h.objs.size:=by
 cases o with
 |lst xs=>obtain⟨_,_,_,_,e⟩:=x;exact qaf e
 |tup xs=>obtain⟨_,_,_,p⟩:=x;exact p.lt
 |dK kvs=>obtain⟨_,_,_,_,o,_,_,e,_⟩:=x;exact qaf e
 |dT kvs=>obtain⟨_,_,_,_,o,_,_,e,_⟩:=x;exact qaf e
 |set S n=>obtain⟨o,_,_,_,e,_⟩:=x;exact qaf e
 |ins C dx fs=>obtain⟨_,_,_,e,_⟩:=x;exact qaf e
 |own y=>obtain⟨_,e⟩:=x;exact qaf e
 |xd fs=>obtain⟨_,⟨_,_,_,e,_⟩,_⟩:=x;exact qaf e
 |xI lo hi=>obtain⟨_,_,_,e⟩:=x;exact qaf e
 |ai ob u=>obtain⟨e,_⟩:=x;exact qaf e
 |n4 ps=>exact qaf (show h.get? a=some _ from x)
 |met f y=>exact qaf (show h.get? a=some _ from x)
 |ext φ=>obtain⟨_,⟨_,e⟩,_⟩:=x;exact qaf e
theorem Paired.rJ{α β:Type}{F G:α->β->Prop}:∀ {l₁:List α} {l₂:List β},Paired F l₁ l₂->(∀ a b,F a b->G a b)->Paired G l₁ l₂
 | _,_,.nil,_=>.nil
 | _,_,.cons r t,f=>.cons (f _ _ r) (Paired.rJ t f)
theorem az.stay(x:az P w H h a o)(k:∀ b u,(b=a\/H b=some (.own a))->h.get? b=some u->h'.get? b=some u)
 (ho:∀ b,H b=some (.own a)->H' b=some (.own a)) (ht:∀ b xs,H b=some (.tup xs)->H' b=some (.tup xs)):az P w H' h' a o:=by
 induction o with
 |lst xs=>obtain⟨z,its,n,r,e⟩:=x;exact⟨z,its,n,r,k _ _ (.inl rfl) e⟩
 |tup xs=>obtain⟨z,its,r,ob,e,c⟩:=x;exact⟨z,its,r,ob,k _ _ (.inl rfl) e,c⟩
 |dK kvs=>obtain⟨z,y,vs,r,ob,es,ep,e,c⟩:=x;exact⟨z,y,vs,r,ob,es,ep,k _ _ (.inl rfl) e,c⟩
 |dT kvs =>
   obtain⟨z,y,xs,r,ob,es,ep,e,c⟩:=x
   exact⟨z,y,xs,Paired.rJ r fun p q z=>⟨z.1,ht _ _ z.2.1,z.2.2⟩,ob,es,ep,k _ _ (.inl rfl) e,c⟩
 |set S n=>obtain⟨ob,es,ep,t,e,c⟩:=x;exact⟨ob,es,ep,t,k _ _ (.inl rfl) e,c⟩
 |ins C dx fs =>
   obtain⟨d,z,ne,e,mA,⟨od,es,ep,e2,c⟩,r⟩:=x
   exact⟨ho _ d,z,ne,k _ _ (.inl rfl) e,mA,⟨od,es,ep,k _ _ (.inr d) e2,c⟩,r⟩
 |own y=>obtain⟨ob,e⟩:=x;exact⟨ob,k _ _ (.inl rfl) e⟩
 |xd fs=>obtain⟨mA,⟨od,es,ep,e,c⟩,r⟩:=x;exact⟨mA,⟨od,es,ep,k _ _ (.inl rfl) e,c⟩,r⟩
 |xI lo hi=>obtain⟨t,u,v,e⟩:=x;exact⟨t,u,v,k _ _ (.inl rfl) e⟩
 |ai ob u ih=>obtain⟨e,q⟩:=x;exact⟨k _ _ (.inl rfl) e,ih q⟩
 |n4 ps =>
   have e:h.get? a=some { cls:=.none,data:=.fields ps }:=x
   show h'.get? a=some { cls:=.none,data:=.fields ps }
   exact k a _ (.inl rfl) e
 |met f y =>
   have e:h.get? a=some (W.methodObj (.ref f) (.ref y)):=x
   show h'.get? a=some (W.methodObj (.ref f) (.ref y))
   exact k a _ (.inl rfl) e
 |ext φ=>obtain⟨p,⟨o,e⟩,st⟩:=x;exact⟨st _ _ p fun o q=>k _ _ (.inl rfl) q,⟨o,k _ _ (.inl rfl) e⟩,st⟩
theorem bY.lt(x:bY P w H h)(e:H a=some o):a<h.objs.size:=(x a o e).lt
theorem bY.fresh(x:bY P w H h)(e:h.objs.size<=a):H a=none:=by
 cases q:H a with
 |none=>rfl
 |some u=>exact absurd (qax (x.lt q) e) (qbf _)
theorem bY.kept(x:bY P w H h)(k:∀ b u,h.get? b=some u->h'.get? b=some u):bY P w H h':=fun a o e =>
 (x a o e).stay (fun b u _ q=>k b u q) (fun _ q=>q) fun _ _ q=>q
theorem bY.laid(x:bY P w H h)(k:∀ b u,h.get? b=some u->h'.get? b=some u)(hp:h.objs.size<=a)(new:az P w (upd H a o) h' a o):bY P w (upd H a o) h':=fun b u e=>by
 have hn:=x.fresh hp
 by_cases hb:b=a
 · subst hb;rw[dh] at e;cases e;exact new
 · rw[aW hb] at e
   exact(x b u e).stay (fun c v _ q=>k c v q) (fun c q=>by rw[aW (fz q hn)];exact q) fun c xs q=>by rw[aW (fz q hn)];exact q
end
def Rd(H:Hp)(a:Addr)(u:HO):Prop:=H a=some u\/∃ o,H a=some (.ai o u)
theorem Rd.ok(r:Rd H a u)(x:bY P w H h):az P w H h a u:=by
 rcases r with r | ⟨o,r⟩
 · exact x a u r
 · obtain⟨_,q⟩:=x a _ r
   exact q
def uN:Option HO->Prop
 |some (.lst _)=>True
 |some (.dK _)=>True
 |some (.dT _)=>True
 |some (.set _ _)=>True
 |some (.ins _ _ _)=>True
 |some (.ext _)=>True
 | _=>False
section
variable{P:Program}{w:World}{H:Hp}{h h':Heap}{x e:Addr}{o':HO}
theorem bY.write(ok:bY P w H h)(mu:uN (H x))(he:e=x\/H e=some (.own x))(k:∀ b u,b≠e->h.get? b=some u->h'.get? b=some u)(heo:∃ u,h'.get? e=some u)
 (new:az P w (upd H x o') h' x o'):bY P w (upd H x o') h':=fun b u q=>by
 have rK:∀ c y,H c=some (.own y)->c≠x:=fun c y r z=>by subst z;rw[r] at mu;exact mu
 have xK:∀ c xs,H c=some (.tup xs)->c≠x:=fun c xs r z=>by subst z;rw[r] at mu;exact mu
 by_cases hb:b=x
 · subst hb;rw[dh] at q;cases q;exact new
 · rw[aW hb] at q
   by_cases hbe:b=e
   · have q':H b=some (.own x):=by
      rcases he with z | z
      · exact absurd (hbe.trans z) hb
      · rw[hbe];exact z
     rw[q] at q';cases q'
     obtain⟨v,hv⟩:=heo
     exact⟨v,by rw[hbe];exact hv⟩
   · refine(ok b u q).stay (fun c v hc r=>k c v ?_ r) (fun c r=>by rw[aW (rK c b r)];exact r) fun c xs r=>by rw[aW (xK c xs r)];exact r
     rcases hc with rfl | hc
     · exact hbe
     · rintro rfl
       rcases he with z | z
       · exact rK c b hc z
       · rw[hc] at z;cases z;exact hb rfl
end
structure Un(fs ex:List Addr)(H H':Hp)(h h':Heap):Prop where
 keep:∀ b o,h.get? b=some o->H b=none->b ∉ fs->b ∉ ex->h'.get? b=some o
 slot:∀ b o,h.get? b=some o->H b=none->b∈fs->b ∉ ex->∃ sl,h'.get? b=some { o with slots:=sl }
 free:∀ b o,h.get? b=some o->H b=none->b ∉ ex->H' b=none
 there:∀ b o,h.get? b=some o->b ∉ ex->∃ o',h'.get? b=some o'
 tups:∀ b xs,H b=some (.tup xs)->H' b=some (.tup xs)
 d7:∀ b o u,H b=some (.ai o u)->H' b=some (.ai o u)
 eQ:∀ b ps,H b=some (.n4 ps)->∃ more,H' b=some (.n4 (ps++more))
section
variable{fs fs' ex ex':List Addr}{H H1 H2:Hp}{h h1 h2 h':Heap}{a x e:Addr}{o:HO}
theorem Un.any(u:Un fs ex H H1 h h1)(q:h.get? b=some ob)(n:H b=none)(hx:b ∉ ex):∃ sl,h1.get? b=some { ob with slots:=sl }:=by
 by_cases hb:b∈fs
 · exact u.slot b ob q n hb hx
 · exact⟨ob.slots,u.keep b ob q n hb hx⟩
theorem Un.kept(k:∀ b u,h.get? b=some u->h'.get? b=some u):Un fs ex H H h h' :=
 ⟨fun b ob q _ _ _=>k b ob q,fun b ob q _ _ _=>⟨ob.slots,k b ob q⟩,fun _ _ _ n _=>n,fun b ob q _=>⟨ob,k b ob q⟩,fun _ _ q=>q,fun _ _ _ q=>q,fun _ ps q=>⟨#[],by rw[q];simp⟩⟩
theorem Un.refl:Un fs ex H H h h:=Un.kept fun _ _ q=>q
theorem Un.laid(k:∀ b u,h.get? b=some u->h'.get? b=some u)(hp:h.objs.size<=a)(hn:H a=none):Un fs ex H (upd H a o) h h' where
 keep:=fun b u q _ _ _=>k b u q
 slot:=fun b u q _ _ _=>⟨u.slots,k b u q⟩
 free:=fun b u q n _=>by rw[aW (qal (qax (qaf q) hp))];exact n
 there:=fun b u q _=>⟨u,k b u q⟩
 tups:=fun b xs q=>by rw[aW (fz q hn)];exact q
 d7:=fun b u xs q=>by rw[aW (fz q hn)];exact q
 eQ:=fun b ps q=>⟨#[],by rw[aW (fz q hn),q];simp⟩
theorem Un.write(mu:uN (H x))(he:e=x\/H e=some (.own x))(k:∀ b u,b≠e->h.get? b=some u->h'.get? b=some u)(heo:∃ u,h'.get? e=some u):Un fs ex H (upd H x o) h h':=by
 have hx:∀ b,H b=none->b≠x:=fun b n z=>by subst z;rw[n] at mu;exact mu
 have hb:∀ b,H b=none->b≠e:=fun b n z=>by
  subst z
  rcases he with r | r
  · exact hx b n r
  · rw[n] at r;cases r
 have hm:∀ b u,H b=some u -> ¬ uN (some u)->b≠x:=fun b u q nm z=>by subst z;rw[q] at mu;exact nm mu
 refine⟨fun b u q n _ _=>k b u (hb b n) q,fun b u q n _ _=>⟨u.slots,k b u (hb b n) q⟩,fun b u q n _=>by rw[aW (hx b n)];exact n,fun b u q _=>?_,
  fun b xs q=>by rw[aW (hm b _ q fun z=>z)];exact q,fun b u xs q=>by rw[aW (hm b _ q fun z=>z)];exact q,fun b ps q=>⟨#[],by rw[aW (hm b _ q fun z=>z),q];simp⟩⟩
 by_cases hbe:b=e
 · subst hbe;exact heo
 · exact⟨u,k b u hbe q⟩
end
def uO(h:Heap)(H:Hp):List Addr:=(List.range h.objs.size).filter fun a=>(H a).isSome
def lR(h:Heap)(H:Hp):Heap:=W.hideAll h (uO h H)
theorem Ju(h:Heap)(H:Hp):(lR h H).objs.size=h.objs.size:=W.hideAll_size _ _
theorem Jv{h:Heap}(e:h.get? b=some o)(n:H b=none):(lR h H).get? b=some o :=
 W.hideAll_get _ e fun hm=>by
  have q:(H b).isSome=true:=(List.mem_filter.mp hm).2
  rw[n] at q;simp at q
theorem Jw(e:(lR h H).get? b=some o):h.get? b=some o/\H b=none:=by
 have e':h.get? b=some o:=W.of_hideAll (uO h H) e
 refine⟨e',?_⟩
 cases q:H b with
 |none=>rfl
 |some x =>
   have hm:b∈uO h H:=List.mem_filter.mpr ⟨List.mem_range.mpr (qaf e'),by simp[q]⟩
   have z:(lR h H).get? b=none:=W.hideAll_none (uO h H) hm
   rw[z] at e;cases e
structure Mod(K:W.Frag)(mg:Str->Option Value)(base:Heap):Prop where
 i7:K.In base
 glob:base.Ns mainGlobals mg
 blt:∃ mb,base.Ns builtinsNs mb/\∀ x:Str,x ≠ "__name__" -> mb x=bootBuiltins x
 nolimit:base.NoLimit
structure Cx where
 prog:Program
 w:World
 K:W.Frag
 mg:Str->Option Value
 base:Heap
 A:Around
 N:List Str
 s₀:Shared
 H₀:Hp
 env:Env
 outer:List Env
 stack:List Env
 ex:List Addr
 fn:Str->Bool
 calm:Bool
 pn:List (Addr×Obj)
 xe:Value->Shared->Prop
def frs(l:List Env):List Addr:=l.filterMap (·.frame)
abbrev Cx.fs(X:Cx):List Addr:=frs X.outer
noncomputable def rM(sc:Scope)(x:Str):Prop:=sc.names.lookup x=some .local\/sc.names.lookup x=some .cell\/sc.names.lookup x=some .free
noncomputable def Loc(sc:Scope)(x:Str):Prop:=sc.names.lookup x=some .local\/sc.names.lookup x=some .cell
noncomputable def Look(env:Env)(h:Heap)(m:Str->Option Value)(x:Str)(u:Value):Prop :=
 (env.kindOf x=some .local/\m x=some u)\/((env.kindOf x=some .cell\/env.kindOf x=some .free)/\∃ c,env.cells.lookup x=some c/\h.IsCell c (some u))
structure Cx.Ok(X:Cx):Prop where
 mod:Mod X.K X.mg X.base
 kind:X.env.scope.kind = .function
 glob:X.env.globals=mainGlobals
 blt:X.env.builtins=builtinsNs
 above:X.s₀.heap.objs.size<=X.env.locals
 inj:∀ x y c,X.env.cells.lookup x=some c->X.env.cells.lookup y=some c->x=y
 has:∀ x,(X.env.kindOf x=some .cell\/X.env.kindOf x=some .free)->∃ c,X.env.cells.lookup x=some c
 cab:∀ x c,X.fn x=true->X.env.cells.lookup x=some c->X.s₀.heap.objs.size<=c
 hd:X.calm=true->X.A.handled=none
 frames:X.A.frames=some X.stack
 uP:X.stack=X.outer\/(X.stack=X.env::X.outer/\X.env.frame=some X.env.locals)
 pZ:∀ b∈X.ex,b≠X.env.locals/\∀ x c,X.env.cells.lookup x=some c->c≠b
 bs:∀ b o,X.base.get? b=some o->X.s₀.heap.get? b=some o/\X.H₀ b=none
 jW:X.base.objs.size<=X.s₀.heap.objs.size
 jX:∀ b o,X.base.get? b=some o->b ∉ X.ex
 i8:∀ b∈X.ex,b ∉ X.fs
 dq:X.s₀.heap.FunFrames X.base X.outer
 nc:∀ b∈X.fs,X.H₀ b=none
structure Inv(X:Cx)(pins:List (Addr×Obj))(σ:List (Option V))(H:Hp)(s:Shared):Prop where
 ok:X.Ok
 os:s.os=X.s₀.os
 bare:AllBare s.gens
 base:Un X.fs X.ex X.H₀ H X.s₀.heap s.heap
 loc:∃ m,s.heap.Ns X.env.locals m/\∀ (i:Nat) (x:Str) (v:V),X.N[i]? = some x->σ[i]? = some (some v)->rM X.env.scope x->∃ u,RelV v u/\Look X.env s.heap m x u
 cell:∀ x c,X.env.cells.lookup x=some c->∃ v,s.heap.IsCell c v
 free:H X.env.locals=none
 bT:∀ x c,X.env.cells.lookup x=some c->H c=none
 pin:∀ p∈X.pn++pins,s.heap.get? p.1=some p.2/\H p.1=none/\p.1≠X.env.locals/\p.1 ∉ X.fs/\∀ v,p.2.data ≠ .cell v
 hok:bY X.prog X.w H s.heap
 len:σ.length=X.N.length
section
variable{X:Cx}{pins:List (Addr×Obj)}{σ:List (Option V)}{H H':Hp}{s:Shared}{h':Heap}
theorem Cx.Ok.xM(ok:X.Ok)(e:X.base.get? b=some o):b ∉ X.fs:=fun hb=>by
 have:=(ok.dq.mem hb).1
 rw[e] at this;cases this
theorem Inv.bs(I:Inv X pins σ H s):∀ b o,X.base.get? b=some o->s.heap.get? b=some o/\H b=none:=fun b o e =>
 ⟨I.base.keep b o (I.ok.bs b o e).1 (I.ok.bs b o e).2 (I.ok.xM e) (I.ok.jX b o e),I.base.free b o (I.ok.bs b o e).1 (I.ok.bs b o e).2 (I.ok.jX b o e)⟩
theorem Inv.bk(I:Inv X pins σ H s):∀ b o,X.base.get? b=some o->s.heap.get? b=some o:=fun b o e=>(I.bs b o e).1
theorem Inv.mod(I:Inv X pins σ H s):Mod X.K X.mg X.base:=I.ok.mod
theorem Inv.aS(I:Inv X pins σ H s):X.K.In s.heap:=I.ok.mod.i7.keeps I.bk
theorem Inv.fr(I:Inv X pins σ H s):∃ m,Fr X.base X.env.locals s.heap m :=
 let ⟨m,hn,_⟩:=I.loc
 ⟨m,hn,I.bk,qa2 I.ok.jW I.ok.above⟩
theorem Inv.lt(I:Inv X pins σ H s):X.env.locals<s.heap.objs.size:=let ⟨_,hn,_⟩:=I.loc;hn.lt
theorem Inv.sz(I:Inv X pins σ H s):X.s₀.heap.objs.size<=s.heap.objs.size:=qa2 I.ok.above (Nat.le_of_lt I.lt)
theorem Inv.xN(I:Inv X pins σ H s){a:Addr}(h:s.heap.objs.size<=a):a ∉ X.fs:=fun hb=>by
 obtain⟨_,o,ho,_⟩:=I.ok.dq.mem hb
 exact absurd (qax (qaf ho) (qa2 I.sz h)) (qbf _)
theorem Inv.n6(I:Inv X pins σ H s):∀ x c,X.env.cells.lookup x=some c->c≠X.env.locals:=fun x c e z=>by
 obtain⟨v,o,ho,hd⟩:=I.cell x c e
 obtain⟨m,⟨o',es,ep,ho',hd',_⟩,_⟩:=I.loc
 rw[z,ho'] at ho;cases ho;rw[hd'] at hd;cases hd
theorem Inv.dq(I:Inv X pins σ H s):s.heap.FunFrames X.base X.outer:=by
 have all:∀ (l:List Env),(∀ b∈frs l,b∈X.fs)->X.s₀.heap.FunFrames X.base l->s.heap.FunFrames X.base l:=by
  intro l
  induction l with
  |nil=>intro _ _;trivial
  |cons env r ih =>
    intro hs hl
    obtain⟨hk,⟨L,o,hf,hn,ho,hd⟩,hr⟩:=hl
    have hL:L∈X.fs:=hs L (by unfold frs;rw[List.filterMap_cons,hf];exact qaw)
    obtain⟨sl,e⟩:=I.base.slot L o ho (I.ok.nc L hL) hL fun z=>I.ok.i8 L z hL
    exact⟨hk,⟨L,_,hf,hn,e,hd⟩,ih (fun b hb=>hs b (by unfold frs;rw[List.filterMap_cons,hf];exact qat _ hb)) hr⟩
 exact all X.outer (fun _ hb=>hb) I.ok.dq
theorem Inv.stack(I:Inv X pins σ H s):s.heap.FunFrames X.base X.stack:=by
 rcases I.ok.uP with e | ⟨e,hf⟩
 · rw[e];exact I.dq
 · rw[e]
   obtain⟨m,hn,_⟩:=I.loc
   refine .cons (by rw[I.ok.kind];decide) hf hn ?_ I.dq
   exact Heap.get?_none_of_le (qa2 I.ok.jW I.ok.above)
theorem Inv.fW(I:Inv X pins σ H s):∀ b∈frs X.stack,b∈X.env.locals::X.fs:=fun b hb=>by
 rcases I.ok.uP with e | ⟨e,hf⟩
 · rw[e] at hb;exact qat _ hb
 · rw[e] at hb
   unfold frs at hb
   rw[qa6,hf] at hb
   exact hb
theorem Inv.fX(I:Inv X pins σ H s):∀ b∈frs X.stack,H b=none:=fun b hb=>by
 rcases qav.mp (I.fW b hb) with e | hb
 · rw[e];exact I.free
 · obtain⟨_,o,ho,_⟩:=I.ok.dq.mem hb
   exact I.base.free b o ho (I.ok.nc b hb) fun z=>I.ok.i8 b z hb
theorem Inv.step{g':Array GenState}{t':Nat}{d':Drawn}{ch:List Addr}(I:Inv X pins σ H s)
 (hch:∀ b∈ch,(b∈X.ex\/X.s₀.heap.objs.size<=b)/\b≠X.env.locals/\(∀ x c,X.env.cells.lookup x=some c->c≠b)/\∀ p∈X.pn++pins,p.1≠b)
 (keep:∀ b o,b≠X.env.locals->b ∉ X.fs->b ∉ ch->s.heap.get? b=some o->H b=none->h'.get? b=some o)
 (slot:∀ b o,b≠X.env.locals->b∈X.fs->b ∉ ch->s.heap.get? b=some o->H b=none->∃ sl,h'.get? b=some { o with slots:=sl }) (free:∀ b o,b ∉ ch->s.heap.get? b=some o->H b=none->H' b=none)
 (there:∀ b o,b ∉ ch->s.heap.get? b=some o->∃ o',h'.get? b=some o')
 (tups:∀ b xs,H b=some (.tup xs)->H' b=some (.tup xs)) (d7:∀ b o u,H b=some (.ai o u)->H' b=some (.ai o u)) (eQ:∀ b ps,H b=some (.n4 ps)->∃ more,H' b=some (.n4 (ps++more)))
 (ns:∀ m,s.heap.Ns X.env.locals m->h'.Ns X.env.locals m) (hok:bY X.prog X.w H' h') (hg:AllBare g') :
 Inv X pins σ H' { s with heap:=h',gens:=g',drawn:=d',toks:=t' }:=by
 have CC:∀ b o,X.s₀.heap.get? b=some o->b≠X.env.locals:=fun b o e=>qal (qax (qaf e) I.ok.above)
 have uQ:∀ b o,X.s₀.heap.get? b=some o->b ∉ X.ex->b ∉ ch:=fun b o e hx hb=>by
  rcases(hch b hb).1 with z | z
  · exact hx z
  · exact absurd (qax (qaf e) z) (qbf _)
 have cellK:∀ x c,X.env.cells.lookup x=some c->∀ v,s.heap.IsCell c v->h'.IsCell c v:=fun x c e v ⟨o,ho,hd⟩=>by
  have rN:c ∉ ch:=fun z=>(hch c z).2.2.1 x c e rfl
  by_cases hc:c∈X.fs
  · obtain⟨sl,q⟩:=slot c o (I.n6 x c e) hc rN ho (I.bT x c e)
    exact⟨_,q,hd⟩
  · exact⟨o,keep c o (I.n6 x c e) hc rN ho (I.bT x c e),hd⟩
 refine⟨I.ok,I.os,hg,⟨fun b o e n hb hx=>?_,fun b o e n hb hx=>?_,fun b o e n hx=>?_,fun b o e hx=>?_,fun b xs e=>tups b xs (I.base.tups b xs e),fun b o xs e=>d7 b o xs (I.base.d7 b o xs e),fun b ps e=>?_⟩,?_,fun x c e=>?_,?_,fun x c e=>?_,fun p hp=>?_,hok,I.len⟩
 · exact keep b o (CC b o e) hb (uQ b o e hx) (I.base.keep b o e n hb hx) (I.base.free b o e n hx)
 · obtain⟨sl,e1⟩:=I.base.slot b o e n hb hx
   obtain⟨sl',e2⟩:=slot b _ (CC b o e) hb (uQ b o e hx) e1 (I.base.free b o e n hx)
   exact⟨sl',e2⟩
 · obtain⟨o',e1⟩:=I.base.there b o e hx
   exact free b o' (uQ b o e hx) e1 (I.base.free b o e n hx)
 · obtain⟨o',e1⟩:=I.base.there b o e hx
   exact there b o' (uQ b o e hx) e1
 · obtain⟨m1,e1⟩:=I.base.eQ b ps e
   obtain⟨m2,e2⟩:=eQ b _ e1
   exact⟨m1++m2,by rw[e2,Array.append_assoc]⟩
 · obtain⟨m,hn,hl⟩:=I.loc
   refine⟨m,ns m hn,fun i x v e1 e2 e3=>?_⟩
   obtain⟨u,r,l⟩:=hl i x v e1 e2 e3
   refine⟨u,r,?_⟩
   rcases l with l | ⟨k,c,e,z⟩
   · exact .inl l
   · exact .inr ⟨k,c,e,cellK x c e _ z⟩
 · obtain⟨v,z⟩:=I.cell x c e
   exact⟨v,cellK x c e v z⟩
 · obtain⟨m,⟨o,_,_,ho,_⟩,_⟩:=I.loc
   exact free _ o (fun z=>(hch _ z).2.1 rfl) ho I.free
 · obtain⟨v,o,ho,hd⟩:=I.cell x c e
   exact free c o (fun z=>(hch c z).2.2.1 x c e rfl) ho (I.bT x c e)
 · obtain⟨e,n,ne,nf,d⟩:=I.pin p hp
   have rN:p.1 ∉ ch:=fun z=>(hch p.1 z).2.2.2 p hp rfl
   exact⟨keep p.1 p.2 ne nf rN e n,free p.1 p.2 rN e n,ne,nf,d⟩
theorem Inv.un{t':Nat}(I:Inv X pins σ H s)(u:Un X.fs [] H H' s.heap h')(hok:bY X.prog X.w H' h'):Inv X pins σ H' { s with heap:=h',toks:=t' }:=by
 obtain⟨m,⟨o,es,ep,ho,r⟩,_⟩:=id I.loc
 obtain⟨sl,hL⟩:=u.any ho I.free (by simp)
 exact I.step (g':=s.gens) (d':=s.drawn) (ch:=[]) (fun _ z=>nomatch z) (fun b o _ hb _ e n=>u.keep b o e n hb (by simp)) (fun b o _ hb _ e n=>u.slot b o e n hb (by simp)) (fun b o _ e n=>u.free b o e n (by simp)) (fun b o _ e=>u.there b o e (by simp)) u.tups u.d7 u.eQ (fun m' hm=>by
  obtain⟨o',es',ep',ho',r'⟩:=hm
  rw[ho] at ho';cases ho'
  exact⟨_,es',ep',hL,r'⟩) hok I.bare
theorem Inv.call{g':Array GenState}{t':Nat}{d':Drawn}{ch:List Addr}(I:Inv X pins σ H s)(u:Un (frs X.stack) ch H H' s.heap h')(hok:bY X.prog X.w H' h')(hg:AllBare g')
 (hch:∀ b∈ch,(b∈X.ex\/X.s₀.heap.objs.size<=b)/\b≠X.env.locals/\(∀ x c,X.env.cells.lookup x=some c->c≠b)/\∀ p∈X.pn++pins,p.1≠b) :
 Inv X pins σ H' { s with heap:=h',gens:=g',drawn:=d',toks:=t' }:=by
 obtain⟨m,⟨o,es,ep,ho,r⟩,_⟩:=id I.loc
 obtain⟨sl,hL⟩:=u.any ho I.free fun z=>(hch _ z).2.1 rfl
 exact I.step (ch:=ch) hch (fun b o hL hb hc e n=>u.keep b o e n (fun z=>(qav.mp (I.fW b z)).elim hL hb) hc) (fun b o _ _ hc e n=>u.any e n hc) (fun b o hc e n=>u.free b o e n hc) (fun b o hc e=>u.there b o e hc) u.tups u.d7 u.eQ (fun m' hm=>by
  obtain⟨o',es',ep',ho',r'⟩:=hm
  rw[ho] at ho';cases ho'
  exact⟨_,es',ep',hL,r'⟩) hok hg
theorem Inv.turned{t':Nat}{it:Addr}(I:Inv X pins σ H s)(k:∀ b o,b≠it->s.heap.get? b=some o->h'.get? b=some o)(hn:H it=none)(hL:it≠X.env.locals)
 (h1:it∈X.ex\/X.s₀.heap.objs.size<=it) (h2:∀ x c,X.env.cells.lookup x=some c->c≠it) (h3:∀ p∈X.pn++pins,p.1≠it):Inv X pins σ H { s with heap:=h',toks:=t' }:=by
 have CD:∀ b u,H b=some u->b≠it:=fun b u e z=>by rw[z,hn] at e;cases e
 refine I.step (g':=s.gens) (d':=s.drawn) (ch:=[it]) (fun b hb=>?_) (fun b o _ _ hc e _=>k b o (fun z=>hc (by simp[z])) e) (fun b o _ _ hc e _=>⟨o.slots,k b o (fun z=>hc (by simp[z])) e⟩) (fun _ _ _ _ n=>n)
  (fun b o hc e=>⟨o,k b o (fun z=>hc (by simp[z])) e⟩) (fun _ _ e=>e) (fun _ _ _ e=>e) (fun b ps e=>⟨#[],by rw[e];simp⟩) (fun m hm=>?_) (fun b u e=>?_) I.bare
 · have e:b=it:=by simpa using hb
   subst e
   exact⟨h1,hL,h2,h3⟩
 · obtain⟨o,es,ep,ho,r⟩:=hm
   exact⟨o,es,ep,k _ o (qaT hL) ho,r⟩
 · refine(I.hok b u e).stay (fun c v hc q=>k c v ?_ q) (fun _ q=>q) fun _ _ q=>q
   rcases hc with z | z
   · rw[z];exact CD b u e
   · exact CD c _ z
theorem Inv.tok(I:Inv X pins σ H s)(t:Nat):Inv X pins σ H { s with toks:=t }:=I.un (h':=s.heap) (t':=t) Un.refl I.hok
theorem Inv.kept(I:Inv X pins σ H s)(k:∀ b u,s.heap.get? b=some u->h'.get? b=some u):Inv X pins σ H { s with heap:=h',toks:=t' }:=I.un (Un.kept k) (I.hok.kept k)
theorem Inv.laid{a:Addr}{o:HO}{t':Nat}(I:Inv X pins σ H s)(k:∀ b u,s.heap.get? b=some u->h'.get? b=some u)(hp:s.heap.objs.size<=a)(new:az X.prog X.w (upd H a o) h' a o) :
 Inv X pins σ (upd H a o) { s with heap:=h',toks:=t' }:=I.un (Un.laid k hp (I.hok.fresh hp)) (I.hok.laid k hp new)
theorem Inv.write(I:Inv X pins σ H s)(mu:uN (H x))(he:e=x\/H e=some (.own x))(k:∀ b u,b≠e->s.heap.get? b=some u->h'.get? b=some u)(heo:∃ u,h'.get? e=some u)
 (new:az X.prog X.w (upd H x o) h' x o):Inv X pins σ (upd H x o) { s with heap:=h',toks:=t' }:=I.un (Un.write mu he k heo) (I.hok.write mu he k heo new)
theorem Inv.weak{ax:List (Option V)}(I:Inv X pins σ H s)(hl:ax.length=σ.length)(w:∀ (i:Nat) v,ax[i]? = some (some v)->σ[i]? = some (some v)):Inv X pins ax H s :=
 ⟨I.ok,I.os,I.bare,I.base,let ⟨m,hn,hl'⟩:=I.loc; ⟨m,hn,fun i x v e1 e2 e3=>hl' i x v e1 (w i v e2) e3⟩,I.cell,I.free,I.bT,I.pin,I.hok,hl.trans I.len⟩
theorem Inv.dU(I:Inv X pins σ H s)(h:∀ p∈jY,s.heap.get? p.1=some p.2/\H p.1=none/\p.1≠X.env.locals/\p.1 ∉ X.fs/\∀ v,p.2.data ≠ .cell v):Inv X jY σ H s :=
 ⟨I.ok,I.os,I.bare,I.base,I.loc,I.cell,I.free,I.bT,fun p hp=>(qaO.mp hp).elim (fun z=>I.pin p (qbd _ z)) (h p),I.hok,I.len⟩
theorem CF{N:List Str}(hN:N.Nodup){i j:Nat}{x:Str}(a:N[i]? = some x)(b:N[j]? = some x):i=j:=by
 obtain⟨h1,e1⟩:=qad.mp a
 obtain⟨h2,e2⟩:=qad.mp b
 exact(List.getElem_inj hN).mp (e1.trans e2.symm)
theorem Jx{M:Model}{A:Around}{E:Value->Shared->Prop}{i:Nat}{x:Str}{v:V}{u:Value}{Q:Unit->Shared->Prop}(I:Inv X pins σ H s)(hN:X.N.Nodup)(hi:X.N[i]? = some x)(hx:Loc X.env.scope x)(r:RelV v u)
 (h:∀ s',Inv X pins (σ.set i (some v)) H s'->(∃ a,Heap.SameBut a s.heap s'.heap/\(a=X.env.locals\/X.env.cells.lookup x=some a))->Q () s') (hf:X.fn x=true\/X.env.scope.names.lookup x=some .local:=by first | exact .inl rfl | exact .inr rfl | assumption):wpAny M A (storeName X.env x u) Q E s:=by
 obtain⟨m,hn,hl⟩:=id I.loc
 have hcls:(X.env.scope.kind == .class || (X.env.scope.kind == .module && X.env.locals != X.env.globals))=false:=by rw[I.ok.kind];rfl
 have rO:i<σ.length:=by rw[I.len];exact(qad.mp hi).1
 have n6:=I.n6
 have tracked:∀ {a:Addr} {h':Heap},(∃ o,s.heap.get? a=some o/\H a=none)->Heap.SameBut a s.heap h'->bY X.prog X.w H h':=fun {a h'} ha hs b ob e=>by
  obtain⟨_,_,hfree⟩:=ha
  refine(I.hok b ob e).stay (fun c w' hc q=>(hs.2 c ?_).trans q) (fun _ q=>q) fun _ _ q=>q
  rintro rfl
  rcases hc with rfl | hc
  · rw[hfree] at e;cases e
  · rw[hfree] at hc;cases hc
 rcases hx with hk | hk
 · refine wpAny_storeName_local hk hn (fun h' hn' hs=>?_) hcls
   obtain⟨oL,_,_,hoL,_⟩:=id hn
   refine h _ ⟨I.ok,I.os,I.bare,⟨fun b o e n hb hx=>?_,fun b o e n hb hx=>?_,I.base.free,fun b o e hx=>?_,I.base.tups,I.base.d7,I.base.eQ⟩,⟨_,hn',fun j y v' e1 e2 e3=>?_⟩,fun y c e=>?_,I.free,I.bT,fun p hp=>?_,tracked ⟨oL,hoL,I.free⟩ hs,by simpa using I.len⟩ ⟨_,hs,.inl rfl⟩
   · exact(hs.2 b (qal (qax (qaf e) I.ok.above))).trans (I.base.keep b o e n hb hx)
   · obtain⟨sl,e1⟩:=I.base.slot b o e n hb hx
     exact⟨sl,(hs.2 b (qal (qax (qaf e) I.ok.above))).trans e1⟩
   · obtain⟨o',e1⟩:=I.base.there b o e hx
     exact⟨o',(hs.2 b (qal (qax (qaf e) I.ok.above))).trans e1⟩
   · by_cases hj:j=i
     · subst hj
       rw[hi] at e1;cases e1
       rw[qak rO] at e2
       cases e2
       exact⟨u,r,.inl ⟨hk,by simp⟩⟩
     · rw[qai (qaT hj)] at e2
       obtain⟨u',r',q⟩:=hl j y v' e1 e2 e3
       refine⟨u',r',?_⟩
       rcases q with ⟨k,e⟩ | ⟨k,c,e,z⟩
       · refine .inl ⟨k,?_⟩
         have:y≠x:=fun e=>hj (CF hN e1 (e ▸ hi))
         simp[this,e]
       · exact .inr ⟨k,c,e,z.sameBut hs (n6 y c e)⟩
   · obtain⟨w',z⟩:=I.cell y c e
     exact⟨w',z.sameBut hs (n6 y c e)⟩
   · obtain⟨e,n,ne,nf,d⟩:=I.pin p hp
     exact⟨(hs.2 p.1 ne).trans e,n,ne,nf,d⟩
 · have hfn:X.fn x=true:=by
    rcases hf with z | z
    · exact z
    · rw[z] at hk;cases hk
   obtain⟨c,hc⟩:=I.ok.has x (.inl hk)
   obtain⟨w',z⟩:=I.cell x c hc
   refine wpAny_storeName_cell I.ok.kind hk hc z (fun h' hc' hs=>?_)
   obtain⟨oc,hoc,xO⟩:=id z
   refine h { s with heap:=h' } ⟨I.ok,I.os,I.bare,⟨fun b o e n hb hx=>?_,fun b o e n hb hx=>?_,I.base.free,fun b o e hx=>?_,I.base.tups,I.base.d7,I.base.eQ⟩,⟨m,hn.sameBut hs (qaT (n6 x c hc)),fun j y v' e1 e2 e3=>?_⟩,fun y c' e=>?_,I.free,I.bT,fun p hp=>?_,tracked ⟨oc,hoc,I.bT x c hc⟩ hs,by simpa using I.len⟩ ⟨c,hs,.inr hc⟩
   · exact(hs.2 b (qal (qax (qaf e) (I.ok.cab x c hfn hc)))).trans (I.base.keep b o e n hb hx)
   · obtain⟨sl,e1⟩:=I.base.slot b o e n hb hx
     exact⟨sl,(hs.2 b (qal (qax (qaf e) (I.ok.cab x c hfn hc)))).trans e1⟩
   · obtain⟨o',e1⟩:=I.base.there b o e hx
     exact⟨o',(hs.2 b (qal (qax (qaf e) (I.ok.cab x c hfn hc)))).trans e1⟩
   · by_cases hj:j=i
     · subst hj
       rw[hi] at e1;cases e1
       rw[qak rO] at e2
       cases e2
       exact⟨u,r,.inr ⟨.inl hk,c,hc,hc'⟩⟩
     · rw[qai (qaT hj)] at e2
       obtain⟨u',r',q⟩:=hl j y v' e1 e2 e3
       refine⟨u',r',?_⟩
       rcases q with q | ⟨k,c',e,z'⟩
       · exact .inl q
       · refine .inr ⟨k,c',e,z'.sameBut hs ?_⟩
         rintro rfl
         exact hj (CF hN e1 (I.ok.inj _ _ _ e hc ▸ hi))
   · by_cases hcc:c'=c
     · subst hcc;exact⟨_,hc'⟩
     · obtain⟨w2,z2⟩:=I.cell y c' e
       exact⟨w2,z2.sameBut hs hcc⟩
   · obtain⟨e,n,ne,nf,d⟩:=I.pin p hp
     refine⟨(hs.2 p.1 ?_).trans e,n,ne,nf,d⟩
     intro q
     rw[q,hoc] at e
     have q':oc=p.2:=qaL e
     exact d w' (by rw[<- q'];exact xO)
theorem xP(I:Inv X pins σ H s)(hN:X.N.Nodup)(hi:X.N[i]? = some x)(hx:Loc X.env.scope x)(r:RelV v u)
 (h:∀ s',Inv X pins (σ.set i (some v)) H s'->Q () s') (hf:X.fn x=true\/X.env.scope.names.lookup x=some .local:=by first | exact .inl rfl | exact .inr rfl | assumption):wpAny M A (storeName X.env x u) Q E s :=
 Jx I hN hi hx r (fun s' I' _=>h s' I') hf
theorem Inv.ng{s':Shared}(I:Inv X pins σ H s)(ho:s'.os=s.os)(u:Un (frs X.stack) ch H H' s.heap s'.heap)(hok:bY X.prog X.w H' s'.heap)(hg:AllBare s'.gens)
 (hch:∀ b∈ch,(b∈X.ex\/X.s₀.heap.objs.size<=b)/\b≠X.env.locals/\(∀ x c,X.env.cells.lookup x=some c->c≠b)/\∀ p∈X.pn++pins,p.1≠b):Inv X pins σ H' s':=by
 obtain⟨h',g',d',t',o'⟩:=s'
 have e:o'=s.os:=ho
 subst e
 exact I.call (g':=g') (t':=t') (d':=d') u hok hg hch
end
abbrev XK:=Value->Option Addr->Hp->Prop
noncomputable abbrev St:=List (Option V)
abbrev VK:=V->Hp->Prop
abbrev TE:=St->Hp->VK->Prop
abbrev TT:=St->Hp->(Bool->Hp->Prop)->Prop
abbrev TA:=St->Hp->(List V->Hp->Prop)->Prop
structure Ends where
 nx:St->Hp->Prop
 rt:VK
 bk:St->Hp->Prop:=fun _ _=>False
 ct:St->Hp->Prop:=fun _ _=>False
abbrev TS:=Ends->St->Hp->Prop
def EP(X:Cx)(pins:List (Addr×Obj))(σ:St)(Q:VK)(u:Value)(s':Shared):Prop:=∃ v H',Inv X pins σ H' s'/\RelV v u/\Q v H'
def TP(X:Cx)(pins:List (Addr×Obj))(σ:St)(Q:Bool->Hp->Prop)(b:Bool)(s':Shared):Prop:=∃ H',Inv X pins σ H' s'/\Q b H'
def AP(X:Cx)(pins:List (Addr×Obj))(σ:St)(Q:List V->Hp->Prop)(us:List Value)(s':Shared):Prop:=∃ vs H',Inv X pins σ H' s'/\Vals vs us/\Q vs H'
def SP(X:Cx)(pins:List (Addr×Obj))(D:Ends)(f:Flow)(s':Shared):Prop :=
 match f with
 | .next=>∃ ax H',Inv X pins ax H' s'/\D.nx ax H'
 | .brk=>∃ ax H',Inv X pins ax H' s'/\D.bk ax H'
 | .cont=>∃ ax H',Inv X pins ax H' s'/\D.ct ax H'
 | .ret u=>∃ v ax H',Inv X pins ax H' s'/\RelV v u/\D.rt v H'
def PE(X:Cx)(e:Expr)(t:TE):Prop :=
 ∀ (pins:List (Addr×Obj)) (s:Shared) (σ:St) (H:Hp) (Q:VK),Inv X pins σ H s->t σ H Q->wpAny (model X.prog X.w) X.A (eval e X.env) (EP X pins σ Q) X.xe s
def PT(X:Cx)(e:Expr)(t:TT):Prop :=
 ∀ (pins:List (Addr×Obj)) (s:Shared) (σ:St) (H:Hp) (Q:Bool->Hp->Prop),Inv X pins σ H s->t σ H Q->wpAny (model X.prog X.w) X.A (isTrue e X.env (eval e X.env)) (TP X pins σ Q) X.xe s
def PW(X:Cx)(e:Expr)(t:TT):Prop :=
 ∀ (whole:Sem Value) (pins:List (Addr×Obj)) (s:Shared) (σ:St) (H:Hp) (Q:Bool->Hp->Prop),Inv X pins σ H s->t σ H Q->wpAny (model X.prog X.w) X.A (isTrue e X.env whole) (TP X pins σ Q) X.xe s
theorem PW.pt(h:PW X e t):PT X e t:=h _
def PA(X:Cx)(es:List Expr)(t:TA):Prop :=
 ∀ (pos:Pos) (pins:List (Addr×Obj)) (s:Shared) (σ:St) (H:Hp) (Q:List V->Hp->Prop),Inv X pins σ H s->t σ H Q->wpAny (model X.prog X.w) X.A (spliced (backTo pos (starEach es X.env))) (AP X pins σ Q) X.xe s
def PS(X:Cx)(st:Stmt)(t:TS):Prop :=
 ∀ (pins:List (Addr×Obj)) (s:Shared) (σ:St) (H:Hp) (D:Ends),Inv X pins σ H s->t D σ H->wpAny (model X.prog X.w) X.A (exec st X.env) (SP X pins D) X.xe s
def PSs(X:Cx)(st:List Stmt)(t:TS):Prop :=
 ∀ (pins:List (Addr×Obj)) (s:Shared) (σ:St) (H:Hp) (D:Ends),Inv X pins σ H s->t D σ H->wpAny (model X.prog X.w) X.A (execs st X.env) (SP X pins D) X.xe s
theorem aI{α:Type}{t:Sem α}{Q Q':α->Shared->Prop}(h:wpAny M A t Q E s)(hQ:∀ a s,Q a s->Q' a s):wpAny M A t Q' E s:=qao h hQ fun _ _ x=>x
section
variable{X:Cx}
def n8(i:Nat):TE:=fun σ H Q=>∃ v,σ[i]? = some (some v)/\Q v H
def tC(v:V):TE:=fun _ H Q=>Q v H
theorem CG{i:Nat}{x:Str}{pos:Pos}(hN:X.N[i]? = some x)(hv:rM X.env.scope x)(hd:(x == ("__debug__" : Str))=false:=by decide)(hcd:(x == ("__classdict__" : Str))=false:=by decide):PE X (.Name x pos) (n8 i):=by
 intro pins s σ H Q I h
 obtain⟨v,e,h⟩:=h
 obtain⟨m,hn,hl⟩:=I.loc
 obtain⟨u,r,l⟩:=hl i x v hN e hv
 have fin:EP X pins σ Q u s:=⟨v,H,I,r,h⟩
 rcases l with ⟨hk,hm⟩ | ⟨hk,c,hc,hcell⟩
 · exact wpAny_Name (wpAny_loadName_local I.ok.kind hk hn hm fin) hd
 · rcases hk with hk | hk
   · exact wpAny_Name (wpAny_loadName_cell I.ok.kind hk hc hcell fin) hd
   · exact wpAny_Name (wpAny_loadName_free I.ok.kind hk hc hcell fin hcd) hd
theorem CH{i j pos}:PE X (.Constant (.int i) j pos) (tC (.int i)):=fun _ _ _ H _ I h=>wpAny_Constant_int ⟨.int i,H,I.tok _,⟨_,rfl⟩,h⟩
theorem Jy{b j pos}:PE X (.Constant (.bool b) j pos) (tC (.bl b)):=fun _ _ _ H _ I h=>Constant_bool ⟨.bl b,H,I,rfl,h⟩
theorem Jz{j pos}:PE X (.Constant .none j pos) (tC .av):=fun _ _ _ H _ I h=>Constant_none ⟨.av,H,I,rfl,h⟩
theorem p9{x j pos}:PE X (.Constant (.str x) j pos) (tC (.str x)):=fun _ _ _ H _ I h=>Calls.Constant_str ⟨.str x,H,I.tok _,⟨_,rfl⟩,h⟩
noncomputable def Gl(X:Cx)(x:Str):Prop:=X.env.kindOf x=some .globalImplicit
theorem p_{E:Value->Shared->Prop}{pins:List (Addr×Obj)}{s:Shared}{σ:St}{H:Hp}{x:Str}{u:Value}{pos:Pos}{Q:Value->Shared->Prop}(I:Inv X pins σ H s)(hg:Gl X x)(hm:X.mg x=some u)(h:Q u s)
 (hd:(x == ("__debug__" : Str))=false:=by decide):wpAny (model X.prog X.w) X.A (eval (.Name x pos) X.env) Q E s :=
 Calls.Name_function_global I.ok.kind hg (Calls.loadGlobal_global (by rw[I.ok.glob];exact I.mod.glob.keeps I.bk) hm h) hd
theorem n9{E:Value->Shared->Prop}{pins:List (Addr×Obj)}{s:Shared}{σ:St}{H:Hp}{x:Str}{u:Value}{pos:Pos}{Q:Value->Shared->Prop}(I:Inv X pins σ H s)(hg:Gl X x)(hm:X.mg x=none)(hv:bootBuiltins x=some u)(h:Q u s)
 (hn:x ≠ "__name__" := by decide) (hd:(x == ("__debug__" : Str))=false:=by decide):wpAny (model X.prog X.w) X.A (eval (.Name x pos) X.env) Q E s:=by
 obtain⟨mb,h1,h2⟩:=I.mod.blt
 exact Calls.Name_function_global I.ok.kind hg (Calls.loadGlobal_builtin (by rw[I.ok.glob];exact I.mod.glob.keeps I.bk) hm (by rw[I.ok.blt];exact h1.keeps I.bk) ((h2 x hn).trans hv) h) hd
theorem xQ(hg:Gl X x)(hm:X.mg x=some u)(r:RelV v u)(hd:(x == ("__debug__" : Str))=false:=by decide):PE X (.Name x pos) (tC v) :=
 fun _ _ _ H _ I h=>p_ I hg hm ⟨v,H,I,r,h⟩ hd
theorem rQ{x:Str}{v:V}{u:Value}{pos:Pos}(hg:Gl X x)(hm:X.mg x=none)(hv:bootBuiltins x=some u)(r:RelV v u)(hn:x ≠ "__name__" := by decide)(hd:(x == ("__debug__" : Str))=false:=by decide):PE X (.Name x pos) (tC v) :=
 fun _ _ _ H _ I h=>n9 I hg hm hv ⟨v,H,I,r,h⟩ hn hd
variable{a b:Expr}{ta tb:TE}{pos:Pos}
def tB(t:TE):TT:=fun σ H Q=>t σ H fun x H1=>∃ c,x = .bl c/\Q c H1
theorem JA(h:PE X e t)(he:∀ whole,isTrue e X.env whole=(do let v <- whole;standAt e.pos;holding [v] (truthy v)):=by intro _;rfl):PT X e (tB t):=by
 intro pins s σ H Q I hw
 refine isTrue_plain (aI (h pins s σ H _ I hw) fun v s1 zq=>?_) (he _)
 obtain⟨x,H1,I1,r1,q1⟩:=zq
 obtain⟨d,rfl,q⟩:=q1
 cases r1
 exact qbD ⟨H1,I1,q⟩
variable{tA uR:TT}{rest:List Expr}
def CI(t u:TT):TT:=fun σ H Q=>t σ H fun c H1=>if c=true then u σ H1 Q else Q false H1
def CJ(t u:TT):TT:=fun σ H Q=>t σ H fun c H1=>if c=true then Q true H1 else u σ H1 Q
def CK(t:TT):TT:=fun σ H Q=>t σ H fun c H1=>Q (!c) H1
theorem JB(ha:PT X a tA):PW X (.BoolOp .And [a] pos) tA:=by
 intro wh pins s σ H Q I h
 refine isTrue_and (aI (ha pins s σ H Q I h) fun c s1 e=>?_)
 cases c with
 |true=>exact isTrue_and_nil e
 |false=>exact e
theorem JC(ha:PT X a tA):PW X (.BoolOp .Or [a] pos) tA:=by
 intro wh pins s σ H Q I h
 refine isTrue_or (aI (ha pins s σ H Q I h) fun c s1 e=>?_)
 cases c with
 |false=>exact isTrue_or_nil e
 |true=>exact e
theorem JD(ha:PT X a tA)(hb:PW X (.BoolOp .And (b::rest) pos) uR):PW X (.BoolOp .And (a::b::rest) pos) (CI tA uR):=by
 intro wh pins s σ H Q I h
 refine isTrue_and (aI (ha pins s σ H _ I h) fun c s1 zq=>?_)
 obtain⟨H1,I1,q1⟩:=zq
 cases c with
 |true=>exact hb wh pins s1 σ H1 Q I1 q1
 |false=>exact⟨H1,I1,q1⟩
theorem JE(ha:PT X a tA)(hb:PW X (.BoolOp .Or (b::rest) pos) uR):PW X (.BoolOp .Or (a::b::rest) pos) (CJ tA uR):=by
 intro wh pins s σ H Q I h
 refine isTrue_or (aI (ha pins s σ H _ I h) fun c s1 zq=>?_)
 obtain⟨H1,I1,q1⟩:=zq
 cases c with
 |true=>exact⟨H1,I1,q1⟩
 |false=>exact hb wh pins s1 σ H1 Q I1 q1
theorem JF(ha:PT X a tA):PT X (.UnaryOp .Not a pos) (CK tA):=by
 intro pins s σ H Q I h
 exact isTrue_not (ha pins s σ H (fun c H1=>Q (!c) H1) I h)
def JG(ta tb:TE):TE:=fun σ H Q=>ta σ H fun x H1=>∃ c,x = .bl c/\if c=true then tb σ H1 Q else Q (.bl false) H1
def JH(ta:TE):TE:=fun σ H Q=>ta σ H fun x H1=>∃ c,x = .bl c/\Q (.bl (!c)) H1
theorem JI{op}(h:PE X a t):PE X (.BoolOp op [a] pos) t:=fun pins s σ H Q I hw=>BoolOp_one (h pins s σ H Q I hw)
theorem JJ(ha:PE X a ta)(hb:PE X (.BoolOp .And (b::rest) pos) tb):PE X (.BoolOp .And (a::b::rest) pos) (JG ta tb):=by
 intro pins s σ H Q I h
 refine BoolOp_and (aI (ha pins s σ H _ I h) fun v s1 zq=>?_)
 obtain⟨x,H1,I1,r1,q1⟩:=zq
 obtain⟨c,rfl,q1⟩:=q1
 cases r1
 refine qbD ?_
 cases c with
 |true=>exact hb pins s1 σ H1 Q I1 q1
 |false=>exact⟨.bl false,H1,I1,rfl,q1⟩
theorem JK(ha:PE X a ta):PE X (.UnaryOp .Not a pos) (JH ta):=by
 intro pins s σ H Q I h
 refine UnaryOp_ (aI (ha pins s σ H _ I h) fun v s1 zq=>?_)
 obtain⟨x,H1,I1,r1,q1⟩:=zq
 obtain⟨c,rfl,q1⟩:=q1
 cases r1
 exact not_of (qbD ⟨.bl (!c),H1,I1,rfl,q1⟩)
end
def aZ(K:W.Frag)(H:Hp)(a:Addr)(xs:List V):Prop :=
 Rd H a (.lst xs) \/
  ∃ (o:Obj) (its:Array Value) (n:Nat),K.lookup a=some o/\o.cls = .type "list" /\ o.dict=none/\o.data = .seq its n/\its.size<=sizeLine/\Vals xs its.toList
def b9(K:W.Frag)(H:Hp)(a:Addr)(xs:List V):Prop :=
 Rd H a (.tup xs) \/
  ∃ (o:Obj) (its:Array Value) (n:Nat),K.lookup a=some o/\o.cls = .type "tuple" /\ o.data = .seq its n/\its.size<=sizeLine/\Vals xs its.toList
noncomputable def JL:Value->Option V
 | .none=>some .av
 | .bool b=>some (.bl b)
 | .int i _=>some (.int i)
 | .str x _=>some (.str x)
 | .bytes b _=>some (.jE b)
 | .float b _=>some (.flt b)
 | .ref a=>some (.ref a)
 | .type n=>some (.ty n)
 | _=>none
theorem RelV.abs(r:RelV x u):JL u=some x:=by
 cases x with
 |av=>cases r;rfl
 |bl _=>cases r;rfl
 |int _=>obtain⟨t,rfl⟩:=r;rfl
 |str _=>obtain⟨t,rfl⟩:=r;rfl
 |jE _=>obtain⟨t,rfl⟩:=r;rfl
 |flt _=>obtain⟨t,rfl⟩:=r;rfl
 |ref _=>cases r;rfl
 |ty _=>cases r;rfl
theorem RelV.inj(r:RelV x u)(q:RelV y u):x=y:=qaL (r.abs.symm.trans q.abs)
theorem Vals.inj(h:Vals xs us)(h':Vals ys us):xs=ys:=by
 induction h generalizing ys with
 |nil=>cases h';rfl
 |cons r t ih=>cases h' with | cons r' t'=>rw[r.inj r',ih t']
section
variable{X:Cx}{pins:List (Addr×Obj)}{σ:St}{H:Hp}{s:Shared}{a:Addr}{xs ys:List V}
theorem aZ.of{K:W.Frag}(h:H a=some (.lst xs)):aZ K H a xs:=.inl (.inl h)
theorem b9.of{K:W.Frag}(h:H a=some (.tup xs)):b9 K H a xs:=.inl (.inl h)
theorem Inv.list(I:Inv X pins σ H s)(h:aZ X.K H a xs):∃ its:List Value,Vals xs its/\PlainL s.heap a its.toArray/\xs.length<=sizeLine:=by
 rcases h with h | ⟨o,its,n,hk,hc,hd,hs,hz,r⟩
 · obtain⟨z,its,n,r,e⟩:=h.ok I.hok
   exact⟨its,r,⟨_,n,e,rfl,rfl,rfl⟩,z⟩
 · refine⟨its.toList,r,⟨o,n,I.aS a o hk,hc,hd,by simpa using hs⟩,?_⟩
   have e:=r.length
   simp only[Array.length_toList] at e
   omega
theorem Inv.tuple(I:Inv X pins σ H s)(h:b9 X.K H a xs):∃ its:List Value,Vals xs its/\IsTup s.heap a its.toArray/\xs.length<=sizeLine:=by
 rcases h with h | ⟨o,its,n,hk,hc,hs,hz,r⟩
 · obtain⟨z,its,r,p⟩:=h.ok I.hok
   exact⟨its,r,p,z⟩
 · refine⟨its.toList,r,⟨o,I.aS a o hk,hc,n,by simpa using hs⟩,?_⟩
   have e:=r.length
   simp only[Array.length_toList] at e
   omega
theorem Inv.jZ(I:Inv X pins σ H s)(h:aZ X.K H a xs)(h':aZ X.K H a ys):xs=ys:=by
 obtain⟨its,r,⟨o,n,e,_,_,d⟩,_⟩:=I.list h
 obtain⟨its',r',⟨o',n',e',_,_,d'⟩,_⟩:=I.list h'
 rw[e] at e';cases e'
 rw[d] at d'
 injection d' with d1 _
 have:its=its':=by simpa using congrArg Array.toList d1
 subst this
 exact r.inj r'
theorem Inv.i9(I:Inv X pins σ H s)(h:b9 X.K H a xs)(h':b9 X.K H a ys):xs=ys:=by
 obtain⟨its,r,⟨o,e,_,n,d⟩,_⟩:=I.tuple h
 obtain⟨its',r',⟨o',e',_,n',d'⟩,_⟩:=I.tuple h'
 rw[e] at e';cases e'
 rw[d] at d'
 injection d' with d1 _
 have:its=its':=by simpa using congrArg Array.toList d1
 subst this
 exact r.inj r'
end
noncomputable abbrev Cx.eR(X:Cx)(E:Value->Shared->Prop):Cx:={ X with xe:=E }
abbrev Cx.k9(X:Cx):Cx:=X.eR fun _ _=>False
theorem Cx.Ok.eR{X:Cx}(ok:X.Ok)(E:Value->Shared->Prop):(X.eR E).Ok :=
 ⟨ok.mod,ok.kind,ok.glob,ok.blt,ok.above,ok.inj,ok.has,ok.cab,ok.hd,ok.frames,ok.uP,ok.pZ,ok.bs,ok.jW,ok.jX,ok.i8,ok.dq,ok.nc⟩
theorem Cx.Ok.b_{X:Cx}(ok:(X.eR E).Ok):X.Ok :=
 ⟨ok.mod,ok.kind,ok.glob,ok.blt,ok.above,ok.inj,ok.has,ok.cab,ok.hd,ok.frames,ok.uP,ok.pZ,ok.bs,ok.jW,ok.jX,ok.i8,ok.dq,ok.nc⟩
section
variable{X:Cx}{pins:List (Addr×Obj)}{σ:St}{H:Hp}{s:Shared}{E:Value->Shared->Prop}
theorem Inv.eR(I:Inv X pins σ H s)(E:Value->Shared->Prop):Inv (X.eR E) pins σ H s:=⟨I.ok.eR E,I.os,I.bare,I.base,I.loc,I.cell,I.free,I.bT,I.pin,I.hok,I.len⟩
theorem Inv.b_(I:Inv (X.eR E) pins σ H s):Inv X pins σ H s:=⟨I.ok.b_,I.os,I.bare,I.base,I.loc,I.cell,I.free,I.bT,I.pin,I.hok,I.len⟩
theorem SP.b_(h:SP (X.eR E) pins D f s'):SP X pins D f s':=by
 cases f with
 |next=>obtain⟨ax,H',I,q⟩:=h;exact⟨ax,H',I.b_,q⟩
 |brk=>obtain⟨ax,H',I,q⟩:=h;exact⟨ax,H',I.b_,q⟩
 |cont=>obtain⟨ax,H',I,q⟩:=h;exact⟨ax,H',I.b_,q⟩
 |ret u=>obtain⟨v,ax,H',I,r,q⟩:=h;exact⟨v,ax,H',I.b_,r,q⟩
theorem PSs.k9{st:List Stmt}{t:TS}(h:PSs X.k9 st t):PSs X st t:=fun pins s σ H D I hw =>
 qao (h pins s σ H D (I.eR _) hw) (fun _ _ q=>q.b_) fun _ _ z=>False.elim z
end
section
variable{X:Cx}{st:Stmt}{rest:List Stmt}{t u:TS}{e:Expr}{te:TE}{pos:Pos}
def JM:TS:=fun D σ H=>D.nx σ H
def JN(t u:TS):TS:=fun D σ H=>t { D with nx:=u D } σ H
theorem xR:PSs X [] JM:=fun _ _ σ H _ I h=>wpAny_execs_nil ⟨σ,H,I,h⟩
theorem qa(h1:PS X st t)(h2:PSs X rest u):PSs X (st::rest) (JN t u):=by
 intro pins s σ H D I h
 refine wpAny_execs_cons (aI (h1 pins s σ H { D with nx:=u D } I h) fun f s1 q=>?_)
 cases f with
 |next =>
   obtain⟨ax,H',I',q⟩:=q
   exact h2 pins s1 ax H' D I' q
 |ret v=>exact q
 |brk=>exact q
 |cont=>exact q
theorem n_(h1:PS X st t):PSs X [st] t:=by
 intro pins s σ H D I h
 refine wpAny_execs_cons (aI (h1 pins s σ H D I h) fun f s1 q=>?_)
 cases f with
 |next=>exact wpAny_execs_nil q
 |ret v=>exact q
 |brk=>exact q
 |cont=>exact q
theorem Inv.quiet{pins:List (Addr×Obj)}{σ:St}{H:Hp}{s:Shared}(I:Inv X pins σ H s):interactive X.env=false:=by simp[interactive,I.ok.kind]
def JO(te:TE):TS:=fun D σ H=>te σ H fun _ H1=>D.nx σ H1
theorem rR(he:PE X e te)(hs:swapsWith e none pos.line X.env=pure false:=by rfl):PS X (.Expr e pos) (JO te):=by
 intro pins s σ H D I h
 exact wpAny_Expr_any (aI (he pins s σ H _ I h) fun v s1 ⟨x,H1,I1,r1,q1⟩=>⟨σ,H1,I1,q1⟩) I.quiet hs
def JP(te:TE):TS:=fun D σ H=>te σ H D.rt
theorem CL(he:PE X e te):PS X (.Return (some e) pos) (JP te):=by
 intro pins s σ H D I h
 exact wpAny_Return_some (aI (he pins s σ H _ I h) fun v s1 ⟨x,H1,I1,r1,q1⟩=>⟨x,σ,H1,I1,r1,q1⟩)
def JQ(c:TT)(t u:TS):TS:=fun D σ H=>c σ H fun b H1=>if b=true then t D σ H1 else u D σ H1
theorem xS(hc:PT X c tc)(ha:PSs X a t)(hb:PSs X b u):PS X (.If c a b pos) (JQ tc t u):=by
 intro pins s σ H D I h
 refine wpAny_If (aI (hc pins s σ H _ I h) fun d s1 zq=>?_)
 obtain⟨H1,I1,q1⟩:=zq
 cases d with
 |true=>exact ha pins s1 σ H1 D I1 q1
 |false=>exact hb pins s1 σ H1 D I1 q1
end
abbrev TG:=V->St->Hp->(St->Hp->Prop)->Prop
abbrev i_:=List V->St->Hp->(St->Hp->Prop)->Prop
def PG(X:Cx)(target:Expr)(t:TG):Prop :=
 ∀ (pins:List (Addr×Obj)) (s:Shared) (σ:St) (H:Hp) (v:V) (u:Value) (Q:St->Hp->Prop),Inv X pins σ H s->RelV v u->t v σ H Q ->
  wpAny (model X.prog X.w) X.A (assign target X.env u) (fun _ s'=>∃ ax H',Inv X pins ax H' s'/\Q ax H') X.xe s
def PGs(X:Cx)(ts:List Expr)(t:i_):Prop :=
 ∀ (pins:List (Addr×Obj)) (s:Shared) (σ:St) (H:Hp) (vs:List V) (us:List Value) (Q:St->Hp->Prop),Inv X pins σ H s->Vals vs us->t vs σ H Q ->
  wpAny (model X.prog X.w) X.A (assignInOrder ((assignEach ts X.env).map (·.2)) us) (fun _ s'=>∃ ax H',Inv X pins ax H' s'/\Q ax H') X.xe s
abbrev CM:=V->V->V->Hp->(Hp->Prop)->Prop
def CN(X:Cx)(t:CM):Prop :=
 ∀ (pins:List (Addr×Obj)) (s:Shared) (σ:St) (H:Hp) (o i v:V) (ov iv u:Value) (Q:Hp->Prop),Inv X pins σ H s->RelV o ov->RelV i iv->RelV v u->t o i v H Q ->
  wpAny (model X.prog X.w) X.A (setItem ov iv u) (fun _ s'=>∃ H',Inv X pins σ H' s'/\Q H') X.xe s
section
variable{X:Cx}{pos:Pos}
def ja(i:Nat):TG:=fun v σ H Q=>Q (σ.set i (some v)) H
theorem gE(hN:X.N.Nodup)(hi:X.N[i]? = some x)(hx:Loc X.env.scope x)(hf:X.fn x=true\/X.env.scope.names.lookup x=some .local:=by first | exact .inl rfl | exact .inr rfl | assumption):PG X (.Name x pos) (ja i):=by
 intro pins s σ H v u Q I r h
 exact wpAny_assign_Name (xP I hN hi hx r (fun s' I'=>⟨_,H,I',h⟩) hf)
def qb:i_:=fun vs σ H Q=>vs=[]/\Q σ H
def nh(t:TG)(u:i_):i_:=fun vs σ H Q=>∃ v r,vs=v::r/\t v σ H fun ax H'=>u r ax H' Q
theorem qc:PGs X [] qb:=by
 intro pins s σ H vs us Q I r h
 obtain⟨e,h⟩:=h
 subst e
 cases r
 exact assignInOrder_nil ⟨σ,H,I,h⟩
theorem jF(h1:PG X e t)(h2:PGs X es u)
 (hs:(assignEach (e::es) X.env).map (·.2)=assign e X.env::(assignEach es X.env).map (·.2):=by rfl):PGs X (e::es) (nh t u):=by
 intro pins s σ H vs us Q I r h
 obtain⟨v,vr,e1,h⟩:=h
 subst e1
 cases r with
 |cons r rr =>
   rw[hs]
   refine assignInOrder_cons (aI (h1 pins s σ H _ _ _ I r h) fun _ s1 zq=>?_)
   obtain⟨eS,H1,I1,q1⟩:=zq
   exact h2 pins s1 eS H1 _ _ Q I1 rr q1
def qd(K:W.Frag)(n:Nat)(t:i_):TG:=fun v σ H Q=>∃ a xs,v = .ref a/\b9 K H a xs/\xs.length=n/\t xs σ H Q
theorem qe{es:List Expr}{k:Nat}{t:i_}{n:Nat}(hc:X.calm=true)(h:PGs X es t)
 (hn:(assignEach es X.env).length=n:=by rfl) (hst:(assignEach es X.env).findIdx? (·.1)=none:=by rfl):PG X (.Tuple es k pos) (qd X.K n t):=by
 intro pins s σ H v u Q I r hw
 obtain⟨a,xs,e1,hq,hl,hw⟩:=hw
 subst e1
 cases r
 obtain⟨its,rv,ht,hz⟩:=I.tuple hq
 refine assign_Tuple_tuple (I.ok.hd hc) ht (by simp[hn, <- hl,rv.length]) hst fun h' hx=>?_
 have I1:Inv X pins σ H { s with heap:=h' }:=I.kept (t':=s.toks) fun b o e=>hx b o (qal (qaf e)) e
 exact h pins _ σ H xs _ Q I1 (by simpa using rv) hw
def CO(to ti:TE)(t:CM):TG:=fun v σ H Q=>to σ H fun o H1=>ti σ H1 fun i H2=>t o i v H2 fun H3=>Q σ H3
theorem CP(ho:PE X o to)(hi:PE X i ti)(hs:CN X t)
 (ha:∀ v,assign (.Subscript o i pos) X.env v=(do
  let ov <- holding [v] (eval o X.env)
  let iv <- holding [v,ov] (eval i X.env)
  standAt pos
  holding [v,ov,iv] (setItem ov iv v)
  release [v,ov,iv] []):=by intro _;rfl):PG X (.Subscript o i pos) (CO to ti t):=by
 intro pins s σ H v u Q I r h
 rw[ha]
 refine qaa (qaY (aI (ho pins s σ H _ I h) fun ov s1 zq=>?_))
 obtain⟨x,H1,I1,r1,q1⟩:=zq
 refine qaa (qaY (aI (hi pins s1 σ H1 _ I1 q1) fun iv s2 zq=>?_))
 obtain⟨y,H2,I2,r2,q2⟩:=zq
 refine qaa (qbv (qaa (qaY (aI (hs pins s2 σ H2 x y v ov iv u _ I2 r1 r2 r q2) fun _ s3 zq=>?_))))
 obtain⟨H3,I3,q3⟩:=zq
 exact wpAny_release ⟨σ,H3,I3,q3⟩
def qf(te:TE)(g:TG):TS:=fun D σ H=>te σ H fun x H1=>g x σ H1 D.nx
theorem CQ(he:PE X e te)(hg:PG X tg g)(hs:swapsWithSole [tg] e pos.line X.env=pure false:=by rfl)(hw:swappedStores [tg] e X.env=pure none:=by rfl)
 (h1:(assignEach [tg] X.env).map (·.2)=[assign tg X.env]:=by rfl):PS X (.Assign [tg] e pos) (qf te g):=by
 intro pins s σ H D I h
 refine wpAny_Assign_stores (aI (he pins s σ H _ I h) fun v s1 zq=>?_) hs hw
 obtain⟨x,H1,I1,r1,q1⟩:=zq
 rw[h1]
 exact aI (hg pins s1 σ H1 x v _ I1 r1 q1) fun _ s2 q=>q
theorem CS(hN:X.N.Nodup)(hi:X.N[i]? = some x)(hx:Loc X.env.scope x)(he:PE X e te)(hs:swapsWith e (some (.Name x pos')) pos.line X.env=pure false:=by rfl)(hf:X.fn x=true\/X.env.scope.names.lookup x=some .local:=by first | exact .inl rfl | exact .inr rfl | assumption) :
 PS X (.Assign [.Name x pos'] e pos) (qf te (ja i)):=by
 intro pins s σ H D I h
 refine wpAny_Assign_Name (aI (he pins s σ H _ I h) fun v s1 zq=>?_) hs
 obtain⟨y,H1,I1,r1,q1⟩:=zq
 exact xP I1 hN hi hx r1 (fun s2 I2=>⟨_,H1,I2,q1⟩) hf
end
structure It where
 go:Nat->Hp->Prop
 lT:Nat->Hp->V->Hp->Prop
 stop:Nat->Hp->Prop
def ig(X:Cx)(pins:List (Addr×Obj))(H:Hp)(b:Addr):Prop :=
 H b=none/\b≠X.env.locals/\b ∉ X.fs/\(b∈X.ex\/X.s₀.heap.objs.size<=b)/\(∀ x c,X.env.cells.lookup x=some c->c≠b)/\∀ p∈X.pn++pins,p.1≠b
theorem Inv.gF{X:Cx}{pins:List (Addr×Obj)}{σ:St}{H H':Hp}{s:Shared}{b:Addr}(I:Inv X pins σ H s)(hb:s.heap.objs.size<=b)(hn:H' b=none):ig X pins H' b:=by
 refine⟨hn,Nat.ne_of_gt (qax I.lt hb),I.xN hb,.inr (qa2 I.sz hb),fun x c e z=>?_,fun p hp z=>?_⟩
 · obtain⟨v,q⟩:=I.cell x c e
   exact absurd (qax q.lt (by rw[z];exact hb)) (qbf _)
 · exact absurd (qax (qaf (I.pin p hp).1) (by rw[z];exact hb)) (qbf _)
structure Turn(P:Program)(w:World)(K:W.Frag)(tg:Expr)(J:It)(fp:List Addr)(it:Addr)(tn:Nat->Heap->Prop):Prop where
 mem:it∈fp
 obj:∀ i h,tn i h->∀ b∈fp,∃ o,h.get? b=some o/\∀ v,o.data ≠ .cell v
 keep:∀ i h h',tn i h->(∀ b∈fp,∀ o,h.get? b=some o->h'.get? b=some o)->tn i h'
 item:∀ (X:Cx),X.prog=P->X.w=w->X.K=K->X.calm=true->∀ (i:Nat) (pins:List (Addr×Obj)) (s:Shared) (σ:St) (H:Hp) (E:Value->Shared->Prop),Inv X pins σ H s->(∀ b∈fp,ig X pins H b)->tn i s.heap->J.go i H ->
  wpAny (model P w) X.A (pyNext (.ref it)) (fun r s1=>∃ u,r=some u /\
   wpAny (model P w) X.A (letOwnedTupleGo tg (.ref it) u) (fun _ s2=>∃ x H',Inv X pins σ H' s2/\RelV x u/\J.lT i H x H'/\tn (i+1) s2.heap/\∀ b∈fp,H' b=none) E s1) E s
 done:∀ (X:Cx),X.prog=P->X.w=w->X.K=K->X.calm=true->∀ (i:Nat) (pins:List (Addr×Obj)) (s:Shared) (σ:St) (H:Hp) (E:Value->Shared->Prop),Inv X pins σ H s->(∀ b∈fp,ig X pins H b)->tn i s.heap->J.stop i H ->
  wpAny (model P w) X.A (pyNext (.ref it)) (fun r s1=>r=none/\Inv X pins σ H s1) E s
 self:∀ (A:Around) (i:Nat) (s:Shared) (Q:Value->Shared->Prop) (E:Value->Shared->Prop),tn i s.heap->Q (.ref it) s->wpAny (model P w) A (pyIter (.ref it)) Q E s
abbrev TI:=St->Hp->(It->Hp->Prop)->Prop
def CT(X:Cx)(pins:List (Addr×Obj))(σ:St)(tg:Expr)(R:It->Hp->Prop)(itv:Value)(s2:Shared):Prop :=
 ∃ (it:Addr) (fp:List Addr) (tn:Nat->Heap->Prop) (J:It) (H':Hp),itv = .ref it/\Inv X pins σ H' s2/\Turn X.prog X.w X.K tg J fp it tn/\tn 0 s2.heap/\(∀ b∈fp,ig X pins H' b)/\R J H'
def PI(X:Cx)(tg iter:Expr)(wi:TI):Prop :=
 ∀ (pins:List (Addr×Obj)) (s:Shared) (σ:St) (H:Hp) (R:It->Hp->Prop),Inv X pins σ H s->wi σ H R ->
  wpAny (model X.prog X.w) X.A (eval iter X.env) (fun v s1=>wpAny (model X.prog X.w) X.A (pyIter v) (CT X pins σ tg R) X.xe s1) X.xe s
theorem xT{s:Shared}(ho:s.heap.get? it=some o)(hc:o.cls = .type n)(hd:o.data = .fields vs)
 (hn:["enumerate","zip","dict_itemiterator","dict_reverseitemiterator","odict_iterator","itertools.zip_longest","itertools.pairwise"].contains n=false) (hQ:Q () s):wpAny M A (letOwnedTupleGo tg (.ref it) u) Q E s:=by
 unfold letOwnedTupleGo
 cases tg<;>first
  |exact qac hQ
  | (cases u<;>first
   |exact qac hQ
   | (refine qaa (wpAny_load ho ?_)
      rw[hc,hd]
      show wpAny M A (if (["enumerate","zip","dict_itemiterator","dict_reverseitemiterator","odict_iterator","itertools.zip_longest","itertools.pairwise"].contains n && vs[0]? == some (rawInt _))=true then _ else _) Q E s
      rw[qaz (by intro h;rw[hn,Bool.false_and] at h;cases h)]
      exact qac hQ))
def xU(K:W.Frag)(a:Addr):It :=
 ⟨fun i H=>∃ xs x,aZ K H a xs/\xs[i]? = some x,fun i H x H'=>H'=H/\∀ xs,aZ K H a xs->xs[i]? = some x,fun i H=>∃ xs,aZ K H a xs/\xs.length<=i⟩
def xW(K:W.Frag)(a:Addr):It :=
 ⟨fun i H=>∃ xs x,b9 K H a xs/\xs[i]? = some x,fun i H x H'=>H'=H/\∀ xs,b9 K H a xs->xs[i]? = some x,fun i H=>∃ xs,b9 K H a xs/\xs.length<=i⟩
noncomputable def uS(lo:Int)(n:Nat):It:=⟨fun i _=>i<n,fun i H x H'=>H'=H/\x = .int (lo+i),fun i _=>n<=i⟩
theorem JR{P:Program}{w:World}{K:W.Frag}{tg:Expr}(a it:Addr):Turn P w K tg (xU K a) [it] it (fun i h=>h.IsListIter it a i) where
 mem:=by simp
 obj:=fun i h st b hb=>by
  have e:b=it:=by simpa using hb
  subst e
  obtain⟨o,e,c,d⟩:=st
  exact⟨o,e,fun v z=>by rw[d] at z;cases z⟩
 keep:=fun i h h' st k=>st.at fun o e=>k it (by simp) o e
 item:=by
  intro X hP hw hK hc i pins s σ H E I hf st hg
  subst hP hw hK
  obtain⟨xs,x,hq,hx⟩:=hg
  obtain⟨its,rv,p,hz⟩:=I.list hq
  obtain⟨u,hu,ru⟩:=rv.get hx
  obtain⟨f0,f1,f2,f3,f4,f5⟩:=hf it (by simp)
  refine wpAny_pyNext_list_item st p.isList (x:=u) (by simpa using hu) fun h' st' sb=>?_
  have I1:Inv X pins σ H { s with heap:=h' }:=I.turned (t':=s.toks) (fun b o hb e=>(sb.2 b hb).trans e) f0 f1 f3 f4 f5
  obtain⟨o,e,c,d⟩:=id st'
  exact⟨u,rfl,xT (s:={ s with heap:=h' }) e c d (by decide) ⟨x,H,I1,ru,⟨rfl,fun ys hy=>by rw[I.jZ hy hq];exact hx⟩,st',fun b hb=>(hf b hb).1⟩⟩
 done:=by
  intro X hP hw hK hc i pins s σ H E I hf st hg
  subst hP hw hK
  obtain⟨xs,hq,hx⟩:=hg
  obtain⟨its,rv,p,hz⟩:=I.list hq
  obtain⟨f0,f1,f2,f3,f4,f5⟩:=hf it (by simp)
  have hl:=rv.length
  exact wpAny_pyNext_list_end (I.ok.hd hc) st p.isList (by simp;omega) fun h' eb=>⟨rfl,I.turned (t':=s.toks) (fun b o hb e=>eb b o hb e) f0 f1 f3 f4 f5⟩
 self:=fun _ _ _ _ _ st h=>wpAny_pyIter_listiter st h
theorem JS{P:Program}{w:World}{K:W.Frag}{tg:Expr}(a it:Addr):Turn P w K tg (xW K a) [it] it (fun i h=>h.IsTupleIter it a i) where
 mem:=by simp
 obj:=fun i h st b hb=>by
  have e:b=it:=by simpa using hb
  subst e
  obtain⟨o,e,c,d⟩:=st
  exact⟨o,e,fun v z=>by rw[d] at z;cases z⟩
 keep:=fun i h h' st k=>st.at fun o e=>k it (by simp) o e
 item:=by
  intro X hP hw hK hc i pins s σ H E I hf st hg
  subst hP hw hK
  obtain⟨xs,x,hq,hx⟩:=hg
  obtain⟨its,rv,p,hz⟩:=I.tuple hq
  obtain⟨u,hu,ru⟩:=rv.get hx
  obtain⟨f0,f1,f2,f3,f4,f5⟩:=hf it (by simp)
  refine wpAny_pyNext_tuple_item st (show s.heap.IsTuple a its.toArray from p) (x:=u) (by simpa using hu) fun h' st' sb=>?_
  have I1:Inv X pins σ H { s with heap:=h' }:=I.turned (t':=s.toks) (fun b o hb e=>(sb.2 b hb).trans e) f0 f1 f3 f4 f5
  obtain⟨o,e,c,d⟩:=id st'
  exact⟨u,rfl,xT (s:={ s with heap:=h' }) e c d (by decide) ⟨x,H,I1,ru,⟨rfl,fun ys hy=>by rw[I.i9 hy hq];exact hx⟩,st',fun b hb=>(hf b hb).1⟩⟩
 done:=by
  intro X hP hw hK hc i pins s σ H E I hf st hg
  subst hP hw hK
  obtain⟨xs,hq,hx⟩:=hg
  obtain⟨its,rv,p,hz⟩:=I.tuple hq
  obtain⟨f0,f1,f2,f3,f4,f5⟩:=hf it (by simp)
  have hl:=rv.length
  exact wpAny_pyNext_tuple_end (I.ok.hd hc) st (show s.heap.IsTuple a its.toArray from p) (by simp;omega) fun h' eb=>⟨rfl,I.turned (t':=s.toks) (fun b o hb e=>eb b o hb e) f0 f1 f3 f4 f5⟩
 self:=fun _ _ _ _ _ st h=>wpAny_pyIter_tupleiter st h
theorem JT{P:Program}{w:World}{K:W.Frag}{tg:Expr}(it:Addr)(lo:Int)(n:Nat):Turn P w K tg (uS lo n) [it] it (fun i h=>IsRangeIter h it (lo+(i:Nat) * 1) ((n:Int) - (i:Nat)) 1) where
 mem:=by simp
 obj:=fun i h st b hb=>by
  have e:b=it:=by simpa using hb
  subst e
  exact⟨_,st,fun v z=>by
   have z':Data.fields _=Data.cell v:=z
   cases z'⟩
 keep:=fun i h h' st k=>k it (by simp) _ st
 item:=by
  intro X hP hw hK hc i pins s σ H E I hf st hg
  subst hP hw hK
  obtain⟨f0,f1,f2,f3,f4,f5⟩:=hf it (by simp)
  have W:=Walks.range (prog:=X.prog) (w:=X.w) (I.ok.hd hc) it lo 1 n
  refine W.item i s _ _ hg st fun v h' tk hv st' kk=>?_
  obtain⟨t,rfl⟩:=hv
  have I1:Inv X pins σ H { s with heap:=h',toks:=tk }:=I.turned (fun b o hb e=>kk b o (by simpa using hb) e) f0 f1 f3 f4 f5
  refine⟨_,rfl,xT (s:={ s with heap:=h',toks:=tk }) (n := "range_iterator") st' rfl rfl (by decide) ⟨.int (lo+i),H,I1,⟨t,?_⟩,⟨rfl,rfl⟩,st',fun b hb=>(hf b hb).1⟩⟩
  rw[Int.mul_one]
 done:=by
  intro X hP hw hK hc i pins s σ H E I hf st hg
  subst hP hw hK
  obtain⟨f0,f1,f2,f3,f4,f5⟩:=hf it (by simp)
  exact wpAny_pyNext_range_end (I.ok.hd hc) st (by have:n<=i:=hg;omega) fun h' eb=>⟨rfl,I.turned (t':=s.toks) (fun b o hb e=>eb b o hb e) f0 f1 f3 f4 f5⟩
 self:=fun _ _ _ _ _ st h=>wpAny_pyIter_rangeiter st h
section
variable{X:Cx}{tg:Expr}
def JU(K:W.Frag)(tl:TE):TI:=fun σ H R=>tl σ H fun x H1=>∃ a,x = .ref a/\(∃ xs,aZ K H1 a xs)/\R (xU K a) H1
def JV(K:W.Frag)(tl:TE):TI:=fun σ H R=>tl σ H fun x H1=>∃ a,x = .ref a/\(∃ xs,b9 K H1 a xs)/\R (xW K a) H1
theorem JW{l:Expr}{tl:TE}(hl:PE X l tl):PI X tg l (JU X.K tl):=by
 intro pins s σ H R I h
 refine aI (hl pins s σ H _ I h) fun v s1 zq=>?_
 obtain⟨x,H1,I1,r1,q1⟩:=zq
 obtain⟨a,e,⟨xs,hq⟩,q⟩:=q1
 subst e
 cases r1
 obtain⟨its,rv,p,hz⟩:=I1.list hq
 refine wpAny_pyIter_list p.isList ?_
 refine⟨s1.heap.objs.size,[s1.heap.objs.size],_,_,H1,rfl,I1.kept (t':=s1.toks) fun b o e=>qab _ e,JR a _,⟨_,qah _ rfl,rfl,rfl⟩,fun b hb=>?_,q⟩
 have e:b=s1.heap.objs.size:=by simpa using hb
 subst e
 exact I1.gF (qag _) (I1.hok.fresh (qag _))
theorem JX{l:Expr}{tl:TE}(hl:PE X l tl):PI X tg l (JV X.K tl):=by
 intro pins s σ H R I h
 refine aI (hl pins s σ H _ I h) fun v s1 zq=>?_
 obtain⟨x,H1,I1,r1,q1⟩:=zq
 obtain⟨a,e,⟨xs,hq⟩,q⟩:=q1
 subst e
 cases r1
 obtain⟨its,rv,p,hz⟩:=I1.tuple hq
 refine wpAny_pyIter_tuple (show s1.heap.IsTuple a its.toArray from p) ?_
 refine⟨s1.heap.objs.size,[s1.heap.objs.size],_,_,H1,rfl,I1.kept (t':=s1.toks) fun b o e=>qab _ e,JS a _,⟨_,qah _ rfl,rfl,rfl⟩,fun b hb=>?_,q⟩
 have e:b=s1.heap.objs.size:=by simpa using hb
 subst e
 exact I1.gF (qag _) (I1.hok.fresh (qag _))
theorem JY{pins:List (Addr×Obj)}{σ:St}{H:Hp}{s:Shared}{R:It->Hp->Prop}{E:Value->Shared->Prop}{lo hi:Int}{t u v:Tok}{tk:Nat}(I:Inv X pins σ H s)(h1 : -(2 ^ 62)<=lo)(h2:lo<2 ^ 62)(h3 : -(2 ^ 62)<=hi)(h4:hi<2 ^ 62)
 (q:R (uS lo (hi - lo).toNat) H):wpAny (model X.prog X.w) X.A (pyIter (.ref s.heap.objs.size)) (CT X pins σ tg R) E { s with heap:=s.heap.push { cls:=.type "range",data:=.fields #[.int lo t,.int hi u,.int 1 v] },toks:=tk }:=by
 refine wpAny_pyIter_range (IsRange.new ..) (small_one h1 h2 h3 h4) ?_
 have I1:Inv X pins σ H { s with heap:=s.heap.push { cls:=.type "range",data:=.fields #[.int lo t,.int hi u,.int 1 v] },toks:=tk }:=I.kept fun b o e=>qab _ e
 refine⟨(s.heap.push { cls:=.type "range",data:=.fields #[.int lo t,.int hi u,.int 1 v] }).objs.size,[(s.heap.push { cls:=.type "range",data:=.fields #[.int lo t,.int hi u,.int 1 v] }).objs.size],_,_,H,rfl,
  I1.kept (t':=tk) fun b o e=>qab _ e,JT _ lo (hi - lo).toNat,?_,fun b hb=>?_,q⟩
 · have e1:lo+((0:Nat):Int) * 1=lo:=by simp
   have e2:(((hi - lo).toNat:Nat):Int) - ((0:Nat):Int)=Builtin.Range.rangeSize lo hi 1:=by rw[rangeSize_one];split<;>omega
   show IsRangeIter _ _ (lo+((0:Nat):Int) * 1) ((((hi - lo).toNat:Nat):Int) - ((0:Nat):Int)) 1
   rw[e1,e2]
   exact qah _ rfl
 · have e:b=(s.heap.push { cls:=.type "range",data:=.fields #[.int lo t,.int hi u,.int 1 v] }).objs.size:=by simpa using hb
   subst e
   exact I1.gF (qag _) (I1.hok.fresh (qag _))
def CU(ta:TA):TI:=fun σ H R=>ta σ H fun vs H1=>∃ j:Int,vs=[.int j] /\ -(2 ^ 62)<=j/\j<2 ^ 62/\R (uS 0 j.toNat) H1
theorem CV{a:Expr}{ta:TA}{p pos:Pos}(hg:Gl X "range")(hm:X.mg "range" = none)(ha:PA X [a] ta)(hs:starEach [a] X.env=[(false,eval a X.env)]:=by rfl):PI X tg (.Call (.Name "range" p) [a] [] pos) (CU ta):=by
 intro pins s σ H R I h
 refine Call_ (n9 I hg hm boot_range (qbw (aI (ha pos pins s σ H _ I h) fun us s1 zq=>?_) hs rfl))
 obtain⟨vs,H1,I1,r1,q1⟩:=zq
 obtain⟨j,e,q1,q2,q⟩:=q1
 subst e
 cases r1 with
 |cons r rr =>
   cases rr
   obtain⟨t,rfl⟩:=r
   exact call_range_1 (JY I1 (by omega) (by omega) q1 q2 (by simpa using q))
def rT(wi:TI)(g:TG)(tb:TS):TS:=fun D σ H=>wi σ H fun J H1=>∃ W:Nat->Nat->St->Hp->Prop,(∃ m,W 0 m σ H1)/\∀ i m σ H,W i m σ H ->
 (J.stop i H/\D.nx σ H)\/(J.go i H/\∃ N:St->Hp->Prop,(∀ ax H',N ax H'->∃ m',m'<m/\W (i+1) m' ax H')/\∀ x H',J.lT i H x H'->g x σ H' fun cn H2=>tb { D with nx:=N,ct:=N,bk:=D.nx } cn H2)
noncomputable def qg(fp:List Addr)(h:Heap):List (Addr×Obj):=fp.filterMap fun b=>(h.get? b).map fun o=>(b,o)
theorem qh{h:Heap}(hb:b∈fp)(e:h.get? b=some o):(b,o)∈qg fp h:=List.mem_filterMap.mpr ⟨b,hb,by rw[e];rfl⟩
theorem JZ(hp:p∈qg fp h):p.1∈fp/\h.get? p.1=some p.2:=by
 obtain⟨b,hb,e⟩:=List.mem_filterMap.mp hp
 cases q:h.get? b with
 |none=>rw[q] at e;cases e
 |some o =>
   rw[q] at e
   have e':(b,o)=p:=qaL e
   subst e'
   exact⟨hb,q⟩
theorem Inv.pinned{pins:List (Addr×Obj)}{σ:St}{H:Hp}{s:Shared}{fp:List Addr}(I:Inv X pins σ H s)(hf:∀ b∈fp,ig X pins H b)(ho:∀ b∈fp,∃ o,s.heap.get? b=some o/\∀ v,o.data ≠ .cell v):Inv X (pins++qg fp s.heap) σ H s :=
 I.dU fun p hp=>(qaO.mp hp).elim (fun z=>I.pin p (qar _ z)) fun z=>by
  obtain⟨hb,e⟩:=JZ z
  obtain⟨f0,f1,f2,_⟩:=hf p.1 hb
  obtain⟨o,e',d⟩:=ho p.1 hb
  rw[e] at e';cases e'
  exact⟨e,f0,f1,f2,d⟩
theorem Inv.cb{pins pl:List (Addr×Obj)}{σ:St}{H:Hp}{s:Shared}(I:Inv X (pins++pl) σ H s):Inv X pins σ H s:=I.dU fun p hp=>I.pin p (qar _ (qbd _ hp))
theorem xZ(hp:PassesOwn (model X.prog X.w) X.A X.env X.xe)(hc:X.calm=true)(hi:PI X tg iter wi)(hg:PG X tg g)(hb:PSs X body tb)
 (hs:∀ x,foldedSetIterable iter X.env x=pure x:=by intro _;rfl):PS X (.For tg iter body [] pos) (rT wi g tb):=by
 intro pins s σ H D I h
 refine wpAny_For (aI (hi pins s σ H _ I h) fun v s1 h1=>aI h1 fun itv s2 h2=>?_) hs
 obtain⟨it,fp,tn,J,H2,e,I2,T,st2,f2,W,⟨m0,w0⟩,turn⟩:=h2
 subst e
 have stat:∀ {H':Hp},(∀ b∈fp,H' b=none)->∀ b∈fp,ig X pins H' b:=fun hn b hb=>⟨hn b hb,(f2 b hb).2⟩
 refine codeAny_forLoop_any (fun n s'=>∃ i ax H',Inv X pins ax H' s'/\tn i s'.heap/\(∀ b∈fp,H' b=none)/\W i n ax H') ?_ m0 ⟨0,σ,H2,I2,st2,fun b hb=>(f2 b hb).1,w0⟩
 rintro n s3 ⟨i,iP,H3,I3,st3,ni,w3⟩
 rcases turn i n iP H3 w3 with ⟨stop,qn⟩ | ⟨go,N,hN,step⟩
 · refine wpAny_passesOwn hp (aI (T.done X rfl rfl rfl hc i pins s3 iP H3 X.xe I3 (stat ni) st3 stop) fun r s4 zq=>?_)
   obtain⟨hr,I4⟩:=zq
   subst hr
   exact wpAny_execs_nil ⟨iP,H3,I4,qn⟩
 · refine wpAny_passesOwn hp (aI (T.item X rfl rfl rfl hc i pins s3 iP H3 X.xe I3 (stat ni) st3 go) fun r s4 zq=>?_)
   obtain⟨u,hr,h4⟩:=zq
   subst hr
   refine wpAny_passesOwn hp (aI h4 fun _ s5 zq=>?_)
   obtain⟨x,H5,I5,r5,y5,eF,rV⟩:=zq
   have J0:=I5.pinned (stat rV) (T.obj _ _ eF)
   refine wpAny_passesOwn hp (aI (hg _ s5 iP H5 x u _ J0 r5 (step x H5 y5)) fun _ s6 zq=>?_)
   obtain⟨j4,H6,I6,q6⟩:=zq
   refine wpAny_passesOwn hp (aI (hb _ s6 j4 H6 _ I6 q6) fun f s7 q7=>?_)
   have again:∀ {j6:St} {H7:Hp},Inv X (pins++qg fp s5.heap) j6 H7 s7->N j6 H7->∃ m,m<n/\∃ i ax H',Inv X pins ax H' s7/\tn i s7.heap/\(∀ b∈fp,H' b=none)/\W i m ax H':=fun {j6 H7} I7 n7=>by
    obtain⟨m',hm,w7⟩:=hN j6 H7 n7
    refine⟨m',hm,i+1,j6,H7,I7.cb,T.keep _ _ _ eF fun b hb o e=>(I7.pin (b,o) (qar _ (qar _ (qh hb e)))).1,fun b hb=>?_,w7⟩
    obtain⟨o,e,d⟩:=T.obj _ _ eF b hb
    exact(I7.pin (b,o) (qar _ (qar _ (qh hb e)))).2.1
   cases f with
   |next=>obtain⟨j6,H7,I7,n7⟩:=q7;exact again I7 n7
   |cont=>obtain⟨j6,H7,I7,n7⟩:=q7;exact again I7 n7
   |brk=>obtain⟨j6,H7,I7,q7⟩:=q7;exact⟨j6,H7,I7.cb,q7⟩
   |ret v=>obtain⟨x7,j6,H7,I7,r7,q7⟩:=q7;exact⟨x7,j6,H7,I7.cb,r7,q7⟩
end
abbrev R2:=V->V->Hp->VK->Prop
def bw(X:Cx)(f:Value->Value->Sem Value)(r:R2):Prop :=
 ∀ (pins:List (Addr×Obj)) (s:Shared) (σ:St) (H:Hp) (x y:V) (v u:Value) (Q:VK),Inv X pins σ H s->RelV x v->RelV y u->r x y H Q ->
  wpAny (model X.prog X.w) X.A (f v u) (EP X pins σ Q) X.xe s
def x_(X:Cx)(f:Value->Sem Value)(r:V->Hp->VK->Prop):Prop :=
 ∀ (pins:List (Addr×Obj)) (s:Shared) (σ:St) (H:Hp) (x:V) (v:Value) (Q:VK),Inv X pins σ H s->RelV x v->r x H Q ->
  wpAny (model X.prog X.w) X.A (f v) (EP X pins σ Q) X.xe s
def aB(X:Cx)(f:Value)(r:List V->Hp->VK->Prop):Prop :=
 ∀ (pins:List (Addr×Obj)) (s:Shared) (σ:St) (H:Hp) (xs:List V) (us:List Value) (Q:VK),Inv X pins σ H s->Vals xs us->r xs H Q ->
  wpAny (model X.prog X.w) X.A (call f us) (EP X pins σ Q) X.xe s
def rW(r:R2)(ta tb:TE):TE:=fun σ H Q=>ta σ H fun x H1=>tb σ H1 fun y H2=>r x y H2 Q
def J1(r:V->Hp->VK->Prop)(ta:TE):TE:=fun σ H Q=>ta σ H fun x H1=>r x H1 Q
def rI(C:Int->Int->Prop)(g:Int->Int->V):R2:=fun x y H Q=>∃ i j,x = .int i/\y = .int j/\C i j/\Q (g i j) H
def j7(g:Int->Int->V):R2:=fun x y H Q=>∃ i j,x = .int i/\y = .int j/\Q (g i j) H
def rU(g:Int->V):V->Hp->VK->Prop:=fun x H Q=>∃ i,x = .int i/\Q (g i) H
section
variable{X:Cx}{a b c:Expr}{ta tb tc:TE}{pos:Pos}
theorem ya(ha:PE X a ta)(hb:PE X b tb){pins:List (Addr×Obj)}{s:Shared}{σ:St}{H:Hp}{R:V->V->Hp->Prop}(I:Inv X pins σ H s)
 (h:ta σ H fun x H1=>tb σ H1 fun y H2=>R x y H2) {Q:Value->Shared->Prop} {f:Value->Value->Sem Value}
 (hf:∀ v u s2 x y H2,Inv X pins σ H2 s2->RelV x v->RelV y u->R x y H2->wpAny (model X.prog X.w) X.A (f v u) Q X.xe s2) :
 wpAny (model X.prog X.w) X.A (eval a X.env) (fun v ay=>wpAny (model X.prog X.w) X.A (eval b X.env) (fun u yb=>wpAny (model X.prog X.w) X.A (f v u) Q X.xe yb) X.xe ay) X.xe s:=by
 refine aI (ha pins s σ H _ I h) fun v s1 zq=>?_
 obtain⟨x,H1,I1,r1,q1⟩:=zq
 refine aI (hb pins s1 σ H1 _ I1 q1) fun u s2 zq=>?_
 obtain⟨y,H2,I2,r2,q2⟩:=zq
 exact hf v u s2 x y H2 I2 r1 r2 q2
theorem J2{op:Operator}{r:R2}(ho:bw X (binaryOp op) r)(ha:PE X a ta)(hb:PE X b tb):PE X (.BinOp a op b pos) (rW r ta tb):=by
 intro pins s σ H Q I h
 exact wpAny_BinOp (ya ha hb I h fun v u s2 x y H2 I2 rx ry q=>ho pins s2 σ H2 x y v u Q I2 rx ry q)
theorem J_(ho:x_ X (unaryOp op) r)(ha:PE X a ta):PE X (.UnaryOp op a pos) (J1 r ta):=by
 intro pins s σ H Q I h
 exact UnaryOp_ (aI (ha pins s σ H _ I h) fun v s1 ⟨x,H1,I1,r1,q1⟩=>ho pins s1 σ H1 x v Q I1 r1 q1)
theorem uT{f:Value->Value->Sem Value}{C:Int->Int->Prop}{g:Int->Int->Int}
 (rule:∀ (i j:Int) (t u:Tok) (s:Shared) (Q:Value->Shared->Prop) (E:Value->Shared->Prop),C i j->Q (.int (g i j) s.toks) { s with toks:=s.toks+1 }->wpAny (model X.prog X.w) X.A (f (.int i t) (.int j u)) Q E s) :
 bw X f (rI C fun i j=>.int (g i j)):=by
 intro pins s σ H x y v u Q I rx ry h
 obtain⟨i,j,rfl,rfl,hc,q⟩:=h
 obtain⟨t,rfl⟩:=rx
 obtain⟨t',rfl⟩:=ry
 exact rule i j t t' s _ _ hc ⟨.int (g i j),H,I.tok _,⟨_,rfl⟩,q⟩
theorem Ka{f:Value->Value->Sem Value}{g:Int->Int->Int}
 (rule:∀ (i j:Int) (t u:Tok) (s:Shared) (Q:Value->Shared->Prop) (E:Value->Shared->Prop),Q (.int (g i j) s.toks) { s with toks:=s.toks+1 }->wpAny (model X.prog X.w) X.A (f (.int i t) (.int j u)) Q E s) :
 bw X f (j7 fun i j=>.int (g i j)):=by
 intro pins s σ H x y v u Q I rx ry h
 obtain⟨i,j,rfl,rfl,q⟩:=h
 obtain⟨t,rfl⟩:=rx
 obtain⟨t',rfl⟩:=ry
 exact rule i j t t' s _ _ ⟨.int (g i j),H,I.tok _,⟨_,rfl⟩,q⟩
theorem yc{f:Value->Value->Sem Value}{g:Int->Int->Bool}
 (rule:∀ (i j:Int) (t u:Tok) (s:Shared) (Q:Value->Shared->Prop) (E:Value->Shared->Prop),Q (.bool (g i j)) s->wpAny (model X.prog X.w) X.A (f (.int i t) (.int j u)) Q E s) :
 bw X f (j7 fun i j=>.bl (g i j)):=by
 intro pins s σ H x y v u Q I rx ry h
 obtain⟨i,j,rfl,rfl,q⟩:=h
 obtain⟨t,rfl⟩:=rx
 obtain⟨t',rfl⟩:=ry
 exact rule i j t t' s _ _ ⟨.bl (g i j),H,I,rfl,q⟩
def CW(i j:Int):Prop:=0<j/\j<1073741824
def CY(i j:Int):Prop:=0<=j/\j<=1000000/\i.natAbs<2 ^ 64
noncomputable def jb(i j:Int):Prop:=(-(2 ^ 64)<i/\i<2 ^ 64)\/(-(2 ^ 64)<j/\j<2 ^ 64)
theorem jb.ok(h:jb i j):IntMulOk i j:=by
 rcases h with ⟨h1,h2⟩ | ⟨h1,h2⟩
 · exact .of_left (intBits_le_64 h1 h2)
 · exact .of_right (intBits_le_64 h1 h2)
theorem og:bw X (binaryOp .Add) (j7 fun i j=>.int (i+j)):=Ka fun _ _ _ _ _ _ _ q=>add_int q
theorem oh:bw X (binaryOp .Mult) (rI jb fun i j=>.int (i * j)):=uT fun _ _ _ _ _ _ _ hc q=>mul_int q hc.ok
theorem CZ:bw X (binaryOp .FloorDiv) (rI CW fun i j=>.int (i / j)):=uT fun i j _ _ _ _ _ hc q=>by
 have h1:(0:Int)<j:=hc.1
 have h2:j<1073741824:=hc.2
 exact floordiv_int (by omega) (by rw[Int.fdiv_eq_ediv_of_nonneg i (by omega)];exact q) (.inl (PyProof.noPylong_small (by omega)))
theorem oi:bw X (binaryOp .Mod) (rI (fun _ j=>0<j) fun i j=>.int (i % j)):=uT fun i j _ _ _ _ _ hc q=>by
 have h1:(0:Int)<j:=hc
 exact mod_int' (by omega) (by rw[Int.fmod_eq_emod_of_nonneg i (by omega)];exact q)
theorem Kb:bw X (binaryOp .Pow) (rI CY fun i j=>.int (i ^ j.toNat)):=uT fun _ _ _ _ _ _ _ hc q=>pow_int_small hc.1 hc.2.1 hc.2.2 q
theorem Kc{f:Value->Sem Value}{g:Int->Int}
 (rule:∀ (i:Int) (t:Tok) (s:Shared) (Q:Value->Shared->Prop) (E:Value->Shared->Prop),Q (.int (g i) s.toks) { s with toks:=s.toks+1 }->wpAny (model X.prog X.w) X.A (f (.int i t)) Q E s) :
 x_ X f (rU fun i=>.int (g i)):=by
 intro pins s σ H x v Q I rx h
 obtain⟨i,rfl,q⟩:=h
 obtain⟨t,rfl⟩:=rx
 exact rule i t s _ _ ⟨.int (g i),H,I.tok _,⟨_,rfl⟩,q⟩
theorem Ke:x_ X (unaryOp .USub) (rU fun i=>.int (-i)):=Kc fun _ _ _ _ _ q=>neg_int q
end
noncomputable def C0:V->V->Bool
 | .av,.av=>true | .av,.int _=>true | .int _,.av=>true | .av,.bl _=>true | .bl _,.av=>true | .av,.str _=>true | .str _,.av=>true
 | .int _,.int _=>true | .bl _,.bl _=>true | .str _,.str _=>true | .jE _,.jE _=>true
 | .int _,.str _=>true | .str _,.int _=>true | .bl _,.str _=>true | .str _,.bl _=>true
 | _,_=>false
def C3:R2:=fun x y H Q=>C0 x y=true/\Q (.bl (decide (x=y))) H
def C4:R2:=fun x y H Q=>C0 x y=true/\Q (.bl (!decide (x=y))) H
theorem C5:decide (V.int i=V.int j)=(i == j):=by
 rw[qbR]
 simp
theorem C6:decide (V.bl i=V.bl j)=(i == j):=by
 rw[qbR]
 simp
theorem C7:decide (V.str i=V.str j)=(i == j):=by
 rw[qbR]
 simp
theorem C8:decide (V.jE i=V.jE j)=(i.toList == j.toList):=by
 rw[qbR]
 cases i
 cases j
 simp
section
variable{X:Cx}{a b c:Expr}{ta tb tc:TE}{pos:Pos}
theorem cH{pins:List (Addr×Obj)}{σ:St}{H:Hp}{s:Shared}{Q:VK}{k k':Bool}(I:Inv X pins σ H s)(q:Q (.bl k) H)(e:k=k'):EP X pins σ Q (.bool k') s:=by
 subst e
 exact⟨.bl k,H,I,rfl,q⟩
theorem op_eq:bw X (compareOp .Eq) C3:=by
 intro pins s σ H x y v u Q I rx ry h
 obtain⟨hs,q⟩:=h
 cases x with
 |av =>
   cases rx
   cases y with
   |av=>cases ry;exact PySem.EqNone.eq_none_none (cH I q (by simp))
   |bl j=>cases ry;exact PySem.EqNone.eq_none_bool (cH I q (by simp))
   |int j=>obtain⟨t',rfl⟩:=ry;exact PySem.EqNone.eq_none_int (cH I q (by simp))
   |str j=>obtain⟨t',rfl⟩:=ry;exact PySem.EqNone.eq_none_str (cH I q (by simp))
   | _=>exact absurd (show false=true from hs) qap
 |bl i =>
   cases rx
   cases y with
   |av=>cases ry;exact PySem.EqNone.eq_bool_none (cH I q (by simp))
   |bl j=>cases ry;exact eq_bool (cH I q C6)
   |str j=>obtain⟨t',rfl⟩:=ry;exact PySem.EqMixed.eq_bool_str (cH I q (by simp))
   | _=>exact absurd (show false=true from hs) qap
 |int i =>
   obtain⟨t,rfl⟩:=rx
   cases y with
   |av=>cases ry;exact PySem.EqNone.eq_int_none (cH I q (by simp))
   |int j=>obtain⟨t',rfl⟩:=ry;exact eq_int (cH I q C5)
   |str j=>obtain⟨t',rfl⟩:=ry;exact PySem.EqMixed.eq_int_str (cH I q (by simp))
   | _=>exact absurd (show false=true from hs) qap
 |str i =>
   obtain⟨t,rfl⟩:=rx
   cases y with
   |av=>cases ry;exact PySem.EqNone.eq_str_none (cH I q (by simp))
   |bl j=>cases ry;exact PySem.EqMixed.eq_str_bool (cH I q (by simp))
   |int j=>obtain⟨t',rfl⟩:=ry;exact PySem.EqMixed.eq_str_int (cH I q (by simp))
   |str j=>obtain⟨t',rfl⟩:=ry;exact eq_str (cH I q C7)
   | _=>exact absurd (show false=true from hs) qap
 |jE i =>
   obtain⟨t,rfl⟩:=rx
   cases y with
   |jE j=>obtain⟨t',rfl⟩:=ry;exact W.eq_bytes (cH I q C8)
   | _=>exact absurd (show false=true from hs) qap
 | _=>cases y<;>exact absurd (show false=true from hs) qap
theorem Kf:bw X (compareOp .NotEq) C4:=by
 intro pins s σ H x y v u Q I rx ry h
 obtain⟨hs,q⟩:=h
 cases x with
 |av =>
   cases rx
   cases y with
   |av=>cases ry;exact PySem.EqNone.ne_none_none (cH I q (by simp))
   |bl j=>cases ry;exact PySem.EqNone.ne_none_bool (cH I q (by simp))
   |int j=>obtain⟨t',rfl⟩:=ry;exact PySem.EqNone.ne_none_int (cH I q (by simp))
   |str j=>obtain⟨t',rfl⟩:=ry;exact PySem.EqNone.ne_none_str (cH I q (by simp))
   | _=>exact absurd (show false=true from hs) qap
 |bl i =>
   cases rx
   cases y with
   |av=>cases ry;exact PySem.EqNone.ne_bool_none (cH I q (by simp))
   |bl j=>cases ry;exact ne_bool (cH I q (congrArg not C6))
   |str j=>obtain⟨t',rfl⟩:=ry;exact PySem.EqMixed.ne_bool_str (cH I q (by simp))
   | _=>exact absurd (show false=true from hs) qap
 |int i =>
   obtain⟨t,rfl⟩:=rx
   cases y with
   |av=>cases ry;exact PySem.EqNone.ne_int_none (cH I q (by simp))
   |int j=>obtain⟨t',rfl⟩:=ry;exact ne_int (cH I q (congrArg not C5))
   |str j=>obtain⟨t',rfl⟩:=ry;exact PySem.EqMixed.ne_int_str (cH I q (by simp))
   | _=>exact absurd (show false=true from hs) qap
 |str i =>
   obtain⟨t,rfl⟩:=rx
   cases y with
   |av=>cases ry;exact PySem.EqNone.ne_str_none (cH I q (by simp))
   |bl j=>cases ry;exact PySem.EqMixed.ne_str_bool (cH I q (by simp))
   |int j=>obtain⟨t',rfl⟩:=ry;exact PySem.EqMixed.ne_str_int (cH I q (by simp))
   |str j=>obtain⟨t',rfl⟩:=ry;exact ne_str (cH I q (congrArg not C7))
   | _=>exact absurd (show false=true from hs) qap
 |jE i =>
   obtain⟨t,rfl⟩:=rx
   cases y with
   |jE j=>obtain⟨t',rfl⟩:=ry;exact W.ne_bytes (cH I q (congrArg not C8))
   | _=>exact absurd (show false=true from hs) qap
 | _=>cases y<;>exact absurd (show false=true from hs) qap
theorem C9:bw X (compareOp .Lt) (j7 fun i j=>.bl (decide (i<j))):=yc fun _ _ _ _ _ _ _ q=>lt_int q
theorem C_:bw X (compareOp .LtE) (j7 fun i j=>.bl (decide (i<=j))):=yc fun _ _ _ _ _ _ _ q=>le_int q
theorem yd:bw X (compareOp .Gt) (j7 fun i j=>.bl (decide (j<i))):=yc fun _ _ _ _ _ _ _ q=>gt_int q
theorem Kg:bw X (compareOp .Is) (fun x y H Q=>y = .av/\Q (.bl (decide (x = .av))) H):=by
 intro pins s σ H x y v u Q I rx ry h
 obtain⟨rfl,q⟩:=h
 cases ry
 refine is_none_gen (cH I q ?_)
 cases x<;>first
  | (cases rx;rfl)
  | (obtain⟨t,rfl⟩:=rx;rfl)
theorem bw.or(h:bw X f r)(h':bw X f r'):bw X f (fun x y H Q=>r x y H Q\/r' x y H Q):=by
 intro pins s σ H x y v u Q I rx ry q
 rcases q with q | q
 · exact h pins s σ H x y v u Q I rx ry q
 · exact h' pins s σ H x y v u Q I rx ry q
theorem cV(b:Expr)(h:op ≠ .In:=by decide)(h2:op ≠ .NotIn:=by decide):behindInMarks op b=false:=by
 have e1:(op == CmpOp.In)=false:=by cases op<;>first | rfl | exact absurd rfl h
 have e2:(op == CmpOp.NotIn)=false:=by cases op<;>first | rfl | exact absurd rfl h2
 cases b<;>simp[behindInMarks,e1,e2]
theorem Kh(ho:bw X (compareOp op) r)(ha:PE X a ta)(hb:PE X b tb)(hm:behindInMarks op b=false):PE X (.Compare a [op] [b] pos) (rW r ta tb):=by
 intro pins s σ H Q I h
 exact wpAny_Compare1 (ya ha hb I h fun v u s2 x y H2 I2 rx ry q=>ho pins s2 σ H2 x y v u Q I2 rx ry q) hm
def Dc(t:TE):TT:=fun σ H Q=>t σ H fun x H'=>∃ k,x = .bl k/\Q k H'
theorem Ki(ho:bw X (compareOp op) r)(ha:PE X a ta)(hb:PE X b tb)(hm:behindInMarks op b=false):PT X (.Compare a [op] [b] pos) (Dc (rW r ta tb)):=by
 intro pins s σ H Q I h
 refine wpAny_isTrue_Compare1 (aI (ha pins s σ H _ I h) fun v s1 ⟨x,H1,I1,r1,q1⟩=>aI (hb pins s1 σ H1 _ I1 q1) fun u s2 ⟨y,H2,I2,r2,q2⟩ =>
  aI (ho pins s2 σ H2 x y v u _ I2 r1 r2 q2) fun c s3 ⟨z,H3,I3,r3,k,e,q3⟩=>?_) hm
 subst e
 cases r3
 exact qbD ⟨H3,I3,q3⟩
def Dd(r r':R2)(ta tb tc:TE):TE:=fun σ H Q=>ta σ H fun x H1=>tb σ H1 fun y H2=>r x y H2 fun z H3=>∃ k,z = .bl k /\
 (if k=true then tc σ H3 fun w' H4=>r' y w' H4 Q else Q (.bl false) H3)
theorem Kj(ho:bw X (compareOp op) r)(ho':bw X (compareOp op') r')(ha:PE X a ta)(hb:PE X b tb)(hc:PE X c tc)
 (hm:lastMarks [op,op'] [b,c]=false:=by with_unfolding_all rfl):PE X (.Compare a [op,op'] [b,c] pos) (Dd r r' ta tb tc):=by
 intro pins s σ H Q I h
 refine Compare_chain (aI (ha pins s σ H _ I h) fun v s1 ⟨x,H1,I1,r1,q1⟩=>chain_link (aI (hb pins s1 σ H1 _ I1 q1) fun u s2 ⟨y,H2,I2,r2,q2⟩ =>
  aI (ho pins s2 σ H2 x y v u _ I2 r1 r2 q2) fun d s3 ⟨z,H3,I3,r3,k,e,q3⟩=>?_)) hm
 subst e
 cases r3
 refine qbD ?_
 cases k with
 |false=>exact ite_ff ⟨.bl false,H3,I3,rfl,q3⟩
 |true=>exact ite_tt (chain_last (aI (hc pins s3 σ H3 _ I3 q3) fun w' s4 ⟨z',H4,I4,r4,q4⟩=>ho' pins s4 σ H4 y z' u w' Q I4 r2 r4 q4))
theorem qi:(sizeLine:Nat)<2 ^ 63:=by rw[sizeLine_eq];decide
theorem Kk:bw X (binaryOp .Add) (fun x y H Q=>∃ i j,x = .str i/\y = .str j/\i.length+j.length<=sizeLine/\Q (.str (i++j)) H):=by
 intro pins s σ H x y v u Q I rx ry h
 obtain⟨i,j,rfl,rfl,hz,q⟩:=h
 obtain⟨t,rfl⟩:=rx
 obtain⟨t',rfl⟩:=ry
 exact add_str (fun t' tk=>⟨.str (i++j),H,I.tok _,⟨_,rfl⟩,q⟩) hz
theorem vals1(r:Vals [x] us):∃ u,us=[u]/\RelV x u:=by
 cases r with
 |cons r1 r2=>cases r2;exact⟨_,rfl,r1⟩
theorem vals2(r:Vals [x,y] us):∃ u w',us=[u,w']/\RelV x u/\RelV y w':=by
 cases r with
 |cons r1 r2 =>
   cases r2 with
   |cons r3 r4=>cases r4;exact⟨_,_,rfl,r1,r3⟩
theorem Kl(hc:X.calm=true):aB X (.builtin "max") (fun xs H Q=>∃ i j,xs=[.int i,.int j]/\Q (.int (if j > i then j else i)) H):=by
 intro pins s σ H xs us Q I r h
 obtain⟨i,j,rfl,q⟩:=h
 obtain⟨u,w',rfl,⟨t,rfl⟩,⟨t',rfl⟩⟩:=vals2 r
 refine max_two_ints (I.ok.hd hc) fun h' tk k=>⟨_,H,I.kept k,?_,q⟩
 by_cases hj:j > i
 · rw[qay hj,qay hj];exact⟨_,rfl⟩
 · rw[qaz hj,qaz hj];exact⟨_,rfl⟩
theorem Km(hc:X.calm=true):aB X (.builtin "min") (fun xs H Q=>∃ i j,xs=[.int i,.int j]/\Q (.int (if j<i then j else i)) H):=by
 intro pins s σ H xs us Q I r h
 obtain⟨i,j,rfl,q⟩:=h
 obtain⟨u,w',rfl,⟨t,rfl⟩,⟨t',rfl⟩⟩:=vals2 r
 refine min_two_ints (I.ok.hd hc) fun h' tk k=>⟨_,H,I.kept k,?_,q⟩
 by_cases hj:j<i
 · rw[qay hj,qay hj];exact⟨_,rfl⟩
 · rw[qaz hj,qaz hj];exact⟨_,rfl⟩
end
structure iu(h:Heap)(x dx C:Addr)(mA:Str->Option Value):Prop where
 obj:h.get? x=some (W.instObj C dx)
 ns:h.Ns1 dx mA
 ne:dx≠x
theorem fA{h:Heap}(n:h.Ns1 dx mA):∃ od,h.get? dx=some od/\∀ name,W.lookIn name od=some (mA name):=by
 obtain⟨o,es,ep,ho,hd,hk,_,hm⟩:=n
 refine⟨o,ho,fun name=>?_⟩
 have e:=hm name
 unfold nsFind findBy at e
 rw[<- Array.find?_toList] at e
 unfold W.lookIn
 rw[hd]
 dsimp only
 split
 · rename_i y q
   rw[q] at e
   exact congrArg some e
 · rename_i q
   rw[q] at e
   have a:es.toList.any (·.refKey)=false:=by
    rw[List.any_eq_false]
    intro y hy
    obtain⟨z,t,hkey⟩:=hk y (Array.mem_toList_iff.mp hy)
    simp[DictEntry.refKey,hkey]
   have a' : ¬ es.toList.any (·.refKey)=true:=by rw[a];exact qap
   rw[qaz a']
   exact congrArg some e
theorem iu.look(I:iu h x dx C mA):∃ od,W.InstAt h x (W.instObj C dx) C (some od)/\∀ name,W.lookIn name od=some (mA name) :=
 let ⟨od,ho,hl⟩:=fA I.ns
 ⟨od,⟨I.obj,rfl,rfl,ho⟩,hl⟩
section
variable{prog:Program}{w:World}{A:Around}{E:Value->Shared->Prop}{s:Shared}{K:W.Frag}{x dx C f:Addr}{mA:Str->Option Value}{name:Str}{v:Value}
theorem Kn(X:K.In s.heap)(I:iu s.heap x dx C mA)(hg:W.plainGet K C name=true)(hh:W.hasDictIn K C=true)
 (ha:W.findIn K (.ref C) name=some none) (hv:mA name=some v) (hv':W.handedIn v=true) (h:Q v { s with toks:=s.toks+1 }) :
 wpAny (model prog w) A (getAttr (.ref x) name expr) Q E s:=by
 obtain⟨od,J,hl⟩:=I.look
 exact W.get_value X J (W.plainGet_of hg).1 (W.findObj_own hh ha rfl (by rw[hl,hv])) hv' h
theorem Ko(X:K.In s.heap)(I:iu s.heap x dx C mA)(hg:W.plainGet K C name=true)
 (hf:W.findIn K (.ref C) name=some (some (.ref f))) (ht:W.isFn K (.ref f)=true) (hv:mA name=none) (h:Q (.ref f,[.ref x]) s) :
 wpAny (model prog w) A (getMethod (.ref x) name pl) Q E s:=by
 obtain⟨od,J,hl⟩:=I.look
 exact W.method_fn X J (W.plainGet_of hg).1 (W.plainGet_of hg).2 hf (qas.mp ht) (by show(W.lookIn name od).map (·.isSome)=some false;rw[hl,hv];rfl) h
theorem Kp(X:K.In s.heap)(I:iu s.heap x dx C mA)
 (hs:W.findIn K (.ref C) "__setattr__" = some (some (.builtin "object.__setattr__"))) (hp:W.plainOver K C=true) (ht:W.takerIn K C name=some none) (hh:W.hasDictIn K C=true)
 (hw:PySem.Within mA ns) (hsz:ns.length<=sizeLine)
 (h:∀ h',iu h' x dx C (fun y=>if y=name then some v else mA y)->Heap.SameBut dx s.heap h'->Q () { s with heap:=h',toks:=s.toks+2 }) :
 wpAny (model prog w) A (setAttr (.ref x) name v) Q E s:=by
 obtain⟨od,J,hl⟩:=I.look
 refine W.set_plain X J hs (W.osa_open (s:={ s with toks:=s.toks+1 }) (r:=none) X J hp ht fun b=>?_)
 obtain⟨cd,hc,hd'⟩:=W.any_some hh
 have hx:s.heap.get? x=some ⟨.ref C,some dx,.plain, #[]⟩:=I.obj
 refine qaa (qac (qaa (qaa (wpAny_loadPart hx (qaa (W.Looks.here (s:={ s with toks:=s.toks+1 }) (W.looks_clsIn X hc) ?_))))))
 rw[hd']
 refine qac (a:=some dx) (qaa (qac (qaa ?_)))
 refine wpAny_nsSet1 (s:={ s with toks:=s.toks+1 }) I.ns fun h' hn2 hs2=>?_
 obtain⟨oD,esD,epD,hoD,hdD,hcD⟩:=hn2.count (PySem.Within.cons name v hw)
 refine qaa (wpAny_lookBehind hoD (by rw[hdD];exact pastItsLine_dict (qa2 hcD (by rw[qaD];omega))) ?_)
 exact qac (h _ ⟨(hs2.2 _ (qaT I.ne)).trans I.obj,hn2,I.ne⟩ hs2)
theorem Kq(X:K.In s.heap)(hm:W.makesIn K C=true)
 (hi:W.findIn K (.ref C) "__init__" = some (some (.ref f))) (hf:W.typeIn K (.ref f)=some (.type "function"))
 (h:codeAny (model prog w) (A.under (.builtin "type.__call__" ⟨.ref C::vs,kw⟩)) (.call (.ref f) ⟨.ref (s.heap.objs.size+1)::vs,kw⟩) (W.InitBack (s.heap.objs.size+1) R)
  { s with heap:=(s.heap.push W.emptyDict).push (W.instObj C s.heap.objs.size) }) :
 codeAny (model prog w) A (.call (.ref C) ⟨vs,kw⟩) R s:=by
 obtain⟨hh,g,d,t,os⟩:=s
 exact W.make_core (W.makes_of X hm) (W.looks_findIn X hi) (fun self=>W.bind_fn X self hf) (.inl rfl) h
end
noncomputable def gy(f:Str)(v:V):List (Str×V)->List (Str×V)
 | []=>[(f,v)]
 | (g,x)::r=>if g=f then (g,v)::r else (g,x)::gy f v r
theorem ye(f g:Str)(v:V):∀ fs:List (Str×V),(gy f v fs).lookup g=if g=f then some v else fs.lookup g
 | []=>by
   show List.lookup g [(f,v)]=_
   by_cases h:g=f
   · have hb:(g == f)=true:=qas.mpr h
     simp only[List.lookup,hb,if_pos h]
   · have hb:(g == f)=false:=beq_eq_false_iff_ne.mpr h
     simp only[List.lookup,hb,if_neg h]
 | (k,x)::r=>by
   have ih:=ye f g v r
   rw[show gy f v ((k,x)::r)=(if k=f then (k,v)::r else (k,x)::gy f v r) from rfl]
   by_cases hk:k=f
   · rw[qay hk]
     by_cases h:g=k
     · have hb:(g == k)=true:=qas.mpr h
       simp only[List.lookup,hb,if_pos (h.trans hk)]
     · have hb:(g == k)=false:=beq_eq_false_iff_ne.mpr h
       simp only[List.lookup,hb,if_neg (fun e:g=f=>h (e.trans hk.symm))]
   · rw[qaz hk]
     by_cases h:g=k
     · have hb:(g == k)=true:=qas.mpr h
       simp only[List.lookup,hb,if_neg (fun e:g=f=>hk (h.symm.trans e))]
     · have hb:(g == k)=false:=beq_eq_false_iff_ne.mpr h
       simp only[List.lookup,hb]
       exact ih
theorem rX(f:Str)(v:V):∀ fs:List (Str×V),f∈(gy f v fs).map (·.1)/\∀ g,g∈fs.map (·.1)->g∈(gy f v fs).map (·.1)
 | []=>⟨by simp[gy],fun g h=>by simp at h⟩
 | (k,x)::r=>by
   obtain⟨i1,i2⟩:=rX f v r
   rw[show gy f v ((k,x)::r)=(if k=f then (k,v)::r else (k,x)::gy f v r) from rfl]
   by_cases hk:k=f
   · rw[qay hk]
     subst hk
     exact⟨by simp,fun g h=>by simpa using h⟩
   · rw[qaz hk]
     refine⟨?_,fun g h=>?_⟩
     · rw[qaV]
       exact qat _ i1
     · rw[qaV] at h ⊢
       rcases qav.mp h with e | e
       · exact qav.mpr (.inl e)
       · exact qat _ (i2 g e)
theorem De(f:Str)(v:V):∀ fs:List (Str×V),(gy f v fs).length<=fs.length+1
 | []=>by simp[gy]
 | (k,x)::r=>by
   have ih:=De f v r
   rw[show gy f v ((k,x)::r)=(if k=f then (k,v)::r else (k,x)::gy f v r) from rfl]
   by_cases hk:k=f
   · rw[qay hk,qaD,qaD];omega
   · rw[qaz hk,qaD,qaD];omega
theorem cG.some_of(r:cG (some v) o):∃ u,o=some u/\RelV v u:=by
 cases o with
 |none=>exact(show False from r).elim
 |some u=>exact⟨u,rfl,r⟩
theorem cG.none_of(r:cG none o):o=none:=by
 cases o with
 |none=>rfl
 |some u=>exact(show False from r).elim
theorem Kr(r:RelV v u):W.handedIn u=true:=by
 cases v with
 |av=>cases (show u=Value.none from r);rfl
 |bl b=>cases (show u=Value.bool b from r);rfl
 |int i=>obtain⟨t,e⟩:=(show ∃ t,u=Value.int i t from r);cases e;rfl
 |str x=>obtain⟨t,e⟩:=(show ∃ t,u=Value.str x t from r);cases e;rfl
 |jE b=>obtain⟨t,e⟩:=(show ∃ t,u=Value.bytes b t from r);cases e;rfl
 |flt b=>obtain⟨t,e⟩:=(show ∃ t,u=Value.float b t from r);cases e;rfl
 |ref a=>cases (show u=Value.ref a from r);rfl
 |ty n=>cases (show u=Value.type n from r);rfl
section
variable{P:Program}{w:World}{H H':Hp}{h h':Heap}{a C dx:Addr}{fs fs':List (Str×V)}
theorem qj(hok:bY P w H h)(e:H a=some (.ins C dx fs)):∃ mA,iu h a dx C mA/\(∀ f,cG (fs.lookup f) (mA f))/\PySem.Within mA (fs.map (·.1))/\fs.length<=1000/\H dx=some (.own a):=by
 obtain⟨d,z,ne,ob,mA,n,r,q⟩:=(show az P w H h a (.ins C dx fs) from hok a _ e)
 exact⟨mA,⟨ob,n,ne⟩,r,q,z,d⟩
end
structure fB(K:W.Frag)(C:Addr):Prop where
 pg:W.plainGet K C Str.empty=true
 hd:W.hasDictIn K C=true
 po:W.plainOver K C=true
 sa:W.findIn K (.ref C) "__setattr__" = some (some (.builtin "object.__setattr__"))
theorem fB.get{K:W.Frag}{C:Addr}(c:fB K C)(f:Str):W.plainGet K C f=true:=c.pg
def a9(K:W.Frag)(C:Addr)(f:Str):Prop:=W.findIn K (.ref C) f=some none
theorem a9.taker{K:W.Frag}{C:Addr}{f:Str}(n:a9 K C f):W.takerIn K C f=some none:=by
 unfold W.takerIn
 rw[show W.findIn K (.ref C) f=some none from n]
 rfl
structure Meth(K:W.Frag)(C:Addr)(m:Str)(f:Addr):Prop where
 at_:W.findIn K (.ref C) m=some (some (.ref f))
 fn:W.isFn K (.ref f)=true
 kp:W.keepIn K (.ref f)=true
section
variable{X:Cx}{pins:List (Addr×Obj)}{σ:St}{H:Hp}{s:Shared}{a C dx:Addr}{fs:List (Str×V)}{f:Str}{v:V}{A:Around}{E:Value->Shared->Prop}
theorem Ks(I:Inv X pins σ H s)(e:H a=some (.ins C dx fs))(c:fB X.K C)(n:a9 X.K C f)(l:fs.lookup f=some v)
 (h:∀ u s',Inv X pins σ H s'->RelV v u->Q u s'):wpAny (model X.prog X.w) A (getAttr (.ref a) f b) Q E s:=by
 obtain⟨mA,O,r,_,_,_⟩:=qj I.hok e
 obtain⟨u,hu,ru⟩:=cG.some_of (v:=v) (o:=mA f) (by rw[<- l];exact r f)
 exact Kn I.aS O (c.get f) c.hd n hu (Kr ru) (h u _ (I.tok _) ru)
theorem Df(I:Inv X pins σ H s)(e:H a=some (.ins C dx fs))(c:fB X.K C)(k:Meth X.K C m g)(l:fs.lookup m=none)
 (h:Q (.ref g,[.ref a]) s):wpAny (model X.prog X.w) A (getMethod (.ref a) m pl) Q E s:=by
 obtain⟨mA,O,r,_,_,_⟩:=qj I.hok e
 have hn:mA m=none:=cG.none_of (by rw[<- l];exact r m)
 exact Ko I.aS O (c.get m) k.at_ k.fn hn h
theorem Kt(I:Inv X pins σ H s)(e:H a=some (.ins C dx fs))(c:fB X.K C)(n:a9 X.K C f)(hl:fs.length<1000)(ry:RelV y u)
 (h:∀ s',Inv X pins σ (upd H a (.ins C dx (gy f y fs))) s'->Q () s'):wpAny (model X.prog X.w) A (setAttr (.ref a) f u) Q E s:=by
 obtain⟨mA,O,r,wi,_,ho⟩:=qj I.hok e
 have hz:(fs.map (·.1)).length<=sizeLine:=by rw[qaK,sizeLine_eq];omega
 refine Kp I.aS O c.sa c.po n.taker c.hd wi hz fun h' O' sb=>h _ ?_
 have hd:∃ o,h'.get? dx=some o:=let ⟨o,_,_,e',_⟩:=O'.ns; ⟨o,e'⟩
 refine I.write (x:=a) (e:=dx) (by rw[e];exact True.intro) (.inr ho) (fun b q hb z=>(sb.2 b hb).trans z) hd ?_
 refine⟨by rw[aW O.ne];exact ho,?_,O.ne,O'.obj,_,O'.ns,fun g=>?_,fun g hg=>?_⟩
 · have:=De f y fs;omega
 · show cG ((gy f y fs).lookup g) (if g=f then some u else mA g)
   rw[ye]
   by_cases q:g=f
   · rw[qay q,qay q];exact ry
   · rw[qaz q,qaz q];exact r g
 · by_cases q:g=f
   · rw[q];exact(rX f y fs).1
   · refine(rX f y fs).2 g (wi g fun z=>hg ?_)
     show(if g=f then some u else mA g)=none
     rw[qaz q];exact z
theorem Inv.made(I:Inv X pins σ H s):Inv X pins σ (upd (upd H s.heap.objs.size (.own (s.heap.objs.size+1))) (s.heap.objs.size+1) (.ins C s.heap.objs.size []))
 { s with heap:=(s.heap.push W.emptyDict).push (W.instObj C s.heap.objs.size) }:=by
 have e1:(s.heap.push W.emptyDict).get? s.heap.objs.size=some W.emptyDict:=qah s.heap rfl
 have e2:((s.heap.push W.emptyDict).push (W.instObj C s.heap.objs.size)).get? (s.heap.objs.size+1)=some (W.instObj C s.heap.objs.size):=by
  have:=qah (s.heap.push W.emptyDict) (o:=W.instObj C s.heap.objs.size) rfl
  rwa[qbF] at this
 have e3:(s.heap.push W.emptyDict).Ns s.heap.objs.size (fun _=>none):=⟨W.emptyDict, #[],_,e1,rfl,(fun e he=>absurd he (by simp)),fun _=>rfl⟩
 have I1:=I.laid (a:=s.heap.objs.size) (o:=.own (s.heap.objs.size+1)) (h':=s.heap.push W.emptyDict) (t':=s.toks) (fun b u q=>qab _ q) (qag _) ⟨_,e1⟩
 refine I1.laid (a:=s.heap.objs.size+1) (o:=.ins C s.heap.objs.size []) (t':=s.toks) (fun b u q=>qab _ q) (Nat.le_of_eq (qbF _ _)) ?_
 have ne:s.heap.objs.size≠s.heap.objs.size+1:=qal (qbz _)
 refine⟨by rw[aW ne,dh],qbp _,ne,e2,fun _=>none,(Heap.Ns1.of_empty e3).at fun o q=>qab _ q,fun _=>True.intro,fun y hy=>absurd rfl hy⟩
theorem Ku(hb:attributeBase e f env (eval e env)=eval e env)
 (h:wpAny (model prog w) A (eval e env) (fun o ay=>wpAny (model prog w) A (getAttr o f true) Q E ay) E s):wpAny (model prog w) A (eval (.Attribute e f pos) env) Q E s :=
 Attribute_any_ h (by rw[arm_eval_Attribute,hb])
end
def Kv(K:W.Frag)(ta:TE)(f:Str):TE:=fun σ H Q=>ta σ H fun x H1=>∃ a C dx fs v,x = .ref a/\H1 a=some (.ins C dx fs)/\fB K C/\a9 K C f/\fs.lookup f=some v/\Q v H1
def Kw(K:W.Frag)(ta tv:TE)(f:Str):TS:=fun D σ H=>tv σ H fun y H1=>ta σ H1 fun x H2=>∃ a C dx fs,x = .ref a/\H2 a=some (.ins C dx fs)/\fB K C/\a9 K C f/\fs.length<1000 /\
 D.nx σ (upd H2 a (.ins C dx (gy f y fs)))
section
variable{X:Cx}{o e value:Expr}{f:Str}{pos pos' tpos:Pos}{ta tv:TE}
theorem Kx(he:PE X e ta)(hb:attributeBase e f X.env (eval e X.env)=eval e X.env):PE X (.Attribute e f pos) (Kv X.K ta f):=by
 intro pins s σ H Q I h
 refine Ku hb (aI (he pins s σ H _ I h) fun u s1 zq=>?_)
 obtain⟨x,H1,I1,rx,a,C,dx,fs,v,ex,ea,c,n,l,q⟩:=zq
 subst ex
 obtain rfl:u=Value.ref a:=rx
 exact Ks I1 ea c n l fun u' s2 I2 ru=>⟨v,H1,I2,ru,q⟩
theorem Ky(ha:PE X o ta)(hv:PE X value tv)(hs:swapsWith value (some (.Attribute o f pos')) pos.line X.env=pure false):PS X (.Assign [.Attribute o f pos'] value pos) (Kw X.K ta tv f):=by
 intro pins s σ H D I h
 refine plainObj_wpAny_Assign_Attribute (aI (hv pins s σ H _ I h) fun u s1 zq=>?_) hs
 obtain⟨y,H1,I1,ry,q⟩:=zq
 refine aI (ha pins s1 σ H1 _ I1 q) fun ov s2 zq=>?_
 obtain⟨x,H2,I2,rx,a,C,dx,fs,ex,ea,c,n,l,q2⟩:=zq
 subst ex
 obtain rfl:ov=Value.ref a:=rx
 exact Kt I2 ea c n l ry fun s3 I3=>⟨σ,_,I3,q2⟩
end
section
variable{X:Cx}{pins:List (Addr×Obj)}{σ:St}{H:Hp}{s:Shared}{A:Around}{E:Value->Shared->Prop}{Q:Value->Shared->Prop}{c:Value}{b:Bool}
inductive cu(K:W.Frag)(H:Hp):V->Value->Prop where
 |av:cu K H .av (.type "NoneType")
 |bl (x:Bool):cu K H (.bl x) (.type "bool")
 |int (i:Int):cu K H (.int i) (.type "int")
 |str (x:Str):cu K H (.str x) (.type "str")
 |flt (x:UInt64):cu K H (.flt x) (.type "float")
 |lst {a:Addr} {xs:List V} (e:H a=some (.lst xs)):cu K H (.ref a) (.type "list")
 |ai {a:Addr} {o:Obj} {xs:List V} (e:H a=some (.ai o (.lst xs))):cu K H (.ref a) (.type "list")
 |tup {a:Addr} {xs:List V} (e:H a=some (.tup xs)):cu K H (.ref a) (.type "tuple")
 |dK {a:Addr} {kvs:List (Key×V)} (e:H a=some (.dK kvs)):cu K H (.ref a) (.type "dict")
 |dT {a:Addr} {kvs:List (List Key×V)} (e:H a=some (.dT kvs)):cu K H (.ref a) (.type "dict")
 |ins {a C dx:Addr} {fs:List (Str×V)} (e:H a=some (.ins C dx fs)) (cl:fB K C) (ha:W.findIn K (.ref C) "__class__" = some (some (.builtin "object.__class__")))
  (hn:W.specialIn K (.builtin "object.__class__") "__get__" = some (some (.builtin "getset_descriptor.__get__"))) (htk:W.takesIn K (.builtin "object.__class__")=some true)
  (hm:W.mroIn K C (.type "object")=some true):cu K H (.ref a) (.ref C)
theorem Kz(I:Inv X pins σ H s)(rx:RelV x u)(ty:cu X.K H x t)(e:W.kitOne X.K t c=some b)(h:∀ tk,Q (.bool b) { s with toks:=tk }) :
 wpAny (model X.prog X.w) A (call (.builtin "isinstance") [u,c]) Q E s:=by
 cases ty with
 |av=>cases (show u=Value.none from rx);exact W.kia_one W.kitx_none I.aS True.intro e (fun z=>nomatch z) h
 |bl y=>cases (show u=Value.bool y from rx);exact W.kia_one W.kitx_bool I.aS True.intro e (fun z=>nomatch z) h
 |int i=>obtain⟨t,q⟩:=(show ∃ t,u=Value.int i t from rx);cases q;exact W.kia_one W.kitx_int I.aS True.intro e (fun z=>nomatch z) h
 |str y=>obtain⟨t,q⟩:=(show ∃ t,u=Value.str y t from rx);cases q;exact W.kia_one W.kitx_str I.aS True.intro e (fun z=>nomatch z) h
 |flt y=>obtain⟨t,q⟩:=(show ∃ t,u=Value.float y t from rx);cases q;exact W.kia_one W.kitx_float I.aS True.intro e (fun z=>nomatch z) h
 | @lst a xs ea =>
   cases (show u=Value.ref a from rx)
   obtain⟨_,_,n,_,h1⟩:=(show az X.prog X.w H s.heap a (.lst xs) from I.hok a _ ea)
   exact W.kia_one W.kitx_list I.aS ⟨_,h1,rfl⟩ e (fun z=>nomatch z) h
 | @ai a ob xs ea =>
   cases (show u=Value.ref a from rx)
   obtain⟨_,_,_,n,_,h1⟩:=(show az X.prog X.w H s.heap a (.ai ob (.lst xs)) from I.hok a _ ea)
   exact W.kia_one W.kitx_list I.aS ⟨_,h1,rfl⟩ e (fun z=>nomatch z) h
 | @tup a xs ea =>
   cases (show u=Value.ref a from rx)
   obtain⟨_,_,_,p⟩:=(show az X.prog X.w H s.heap a (.tup xs) from I.hok a _ ea)
   obtain⟨o,h1,h2,_⟩:=p
   exact W.kia_one W.kitx_tuple I.aS ⟨o,h1,h2⟩ e (fun z=>nomatch z) h
 | @dK a kvs ea =>
   cases (show u=Value.ref a from rx)
   obtain⟨_,_,vs,_,p⟩:=(show az X.prog X.w H s.heap a (.dK kvs) from I.hok a _ ea)
   obtain⟨o,es,ep,h1,h2,_⟩:=p
   exact W.kia_one W.kitx_dict I.aS ⟨o,h1,h2.1⟩ e (fun z=>nomatch z) h
 | @dT a kvs ea =>
   cases (show u=Value.ref a from rx)
   obtain⟨_,_,xs,_,o,es,ep,h1,h2,_⟩:=(show az X.prog X.w H s.heap a (.dT kvs) from I.hok a _ ea)
   exact W.kia_one W.kitx_dict I.aS ⟨o,h1,h2.1⟩ e (fun z=>nomatch z) h
 | @ins a C dx fs ea cl ha hn htk hm =>
   cases (show u=Value.ref a from rx)
   obtain⟨mA,O,_⟩:=qj I.hok ea
   obtain⟨od,J,_⟩:=O.look
   exact W.kia_one (W.kitx_own (cl.get _) cl.hd ha hn htk hm) I.aS J e (fun z=>nomatch z) h
end
structure aj(k:Nat)(A:Around):Prop where
 hd:A.handled=none
 dp:A.depth+3 * k+5<recursionLimit
 un:A.units+16 * k+200<cLine
 gd:A.guards=some []
theorem aj.mono(r:aj k A)(h:j<=k):aj j A:=⟨r.hd,by have:=r.dp;omega,by have:=r.un;omega,r.gd⟩
theorem aj.deeper(r:aj (k+1) A)(env:Env):aj k (A.deeper env) :=
 ⟨r.hd,by have:=r.dp;show A.depth+1+3 * k+5<_;omega,by have:=r.un;show A.units+3+16 * k+200<_;omega,r.gd⟩
theorem aj.in1(r:aj (k+1) A):aj k A.in1 :=
 ⟨r.hd,by have:=r.dp;show A.depth+3 * k+5<_;omega,by have:=r.un;show A.units+1+16 * k+200<_;omega,r.gd⟩
theorem KA{A:Around}:(A.under (.builtin "type.__call__" ⟨.ref C::us,kw⟩)).depth=A.depth+1:=by
 first | rfl | simp[Around.under,Code.weight,Code.isCreation,Code.isGuard,Code.isCaller,Code.frames,Code.isFrame,guardIds]
theorem KD{A:Around}:(A.under (.builtin "type.__call__" ⟨.ref C::us,kw⟩)).units=A.units+1:=by
 first | rfl | simp[Around.under,Code.cUnits,Code.frames,Code.isFrame]
theorem KG{A:Around}(h:A.guards=some []):(A.under (.builtin "type.__call__" ⟨.ref C::us,kw⟩)).guards=some []:=by
 show pushGuards (Code.guards (.builtin "type.__call__" ⟨.ref C::us,kw⟩)) A.guards=some []
 rw[h];first | rfl | (simp[Code.guards,Code.isGuard,guardIds,pushGuards])
theorem aj.make(r:aj (k+1) A)(C:Addr)(us:List Value)(kw:List (Str×Value)):aj k (A.under (.builtin "type.__call__" ⟨.ref C::us,kw⟩)) :=
 ⟨r.hd,by have:=r.dp;rw[KA];omega,by have:=r.un;rw[KD];omega,KG r.gd⟩
theorem aj.depth(r:aj k A):A.depth<recursionLimit:=by have:=r.dp;omega
theorem aj.units(r:aj k A):A.units+64<cLine:=by have:=r.un;omega
theorem aj.bq(r:aj k A):A.units<cLine:=by have:=r.un;omega
def qk:TA:=fun _ H Q=>Q [] H
def k_(ta:TE)(tr:TA):TA:=fun σ H Q=>ta σ H fun x H1=>tr σ H1 fun xs H2=>Q (x::xs) H2
section
variable{X:Cx}{e:Expr}{es:List Expr}{te:TE}{t:TA}{pos:Pos}
theorem lb:PA X [] qk:=fun _ _ _ _ H Q I h=>Calls.spliced_nil ⟨[],H,I,.nil,h⟩
theorem gG(ha:PE X e te)(hr:PA X es t)(hs:starEach (e::es) X.env=(false,eval e X.env)::starEach es X.env:=by rfl):PA X (e::es) (k_ te t):=by
 intro pos pins s σ H Q I h
 rw[hs]
 show wpAny _ _ (spliced ((false,eval e X.env)::backTo pos (starEach es X.env))) _ _ s
 refine Calls.spliced_cons (aI (ha pins s σ H _ I h) fun u s1 zq=>?_)
 obtain⟨x,H1,I1,r1,q1⟩:=zq
 exact aI (hr pos pins s1 σ H1 _ I1 q1) fun us s2 ⟨xs,H2,I2,r2,q2⟩=>⟨x::xs,H2,I2,.cons r1 r2,q2⟩
def Dg(t:TA):TE:=fun σ H Q=>t σ H fun xs H1=>xs.length<=sizeLine/\∀ p,H1 p=none->Q (.ref p) (upd H1 p (.tup xs))
def KH(t:TA):TE:=fun σ H Q=>t σ H fun xs H1=>xs.length<=sizeLine/\∀ p,H1 p=none->Q (.ref p) (upd H1 p (.lst xs))
theorem Dh{x1}(h:PA X es t):PE X (.Tuple es x1 pos) (Dg t):=by
 intro pins s σ H Q I hq
 refine wpAny_Tuple_spliced (aI (h pos pins s σ H _ I hq) fun us s1 zq=>?_)
 obtain⟨xs,H1,I1,r,z,q⟩:=zq
 refine⟨by rw[<- r.length];exact z,?_⟩
 have hf:H1 s1.heap.objs.size=none:=I1.hok.fresh (qag _)
 refine⟨.ref s1.heap.objs.size,upd H1 s1.heap.objs.size (.tup xs),I1.laid (t':=s1.toks) (fun b u e=>qab _ e) (qag _) ?_,rfl,q _ hf⟩
 exact⟨z,us,r,⟨_,qah _ rfl,rfl,_,rfl⟩⟩
theorem KI(h:PA X es t):PE X (.List es pos) (KH t):=by
 intro pins s σ H Q I hq
 refine wpAny_List_spliced (aI (h pos pins s σ H _ I hq) fun us s1 zq=>?_)
 obtain⟨xs,H1,I1,r,z,q⟩:=zq
 refine⟨by rw[<- r.length];exact z,?_⟩
 have hf:H1 s1.heap.objs.size=none:=I1.hok.fresh (qag _)
 refine⟨.ref s1.heap.objs.size,upd H1 s1.heap.objs.size (.lst xs),I1.laid (t':=s1.toks) (fun b u e=>qab _ e) (qag _) ?_,rfl,q _ hf⟩
 exact⟨z,us,0,r,qah _ rfl⟩
end
abbrev Sp:=List V->Hp->VK->XK->Prop
abbrev j8:=List Env->Hp->Shared->XK->Value->Shared->Prop
structure dP(P:Program)(w:World)(K:W.Frag)(mg:Str->Option Value)(base:Heap)(A:Around)(outer:List Env)(s:Shared)(H:Hp):Prop where
 frames:A.frames=some outer
 mod:Mod K mg base
 bs:∀ b o,base.get? b=some o->s.heap.get? b=some o/\H b=none
 jW:base.objs.size<=s.heap.objs.size
 dq:s.heap.FunFrames base outer
 nc:∀ b∈frs outer,H b=none
 hok:bY P w H s.heap
 bare:AllBare s.gens
def CE(outer:List Env)(P:Program)(w:World)(H:Hp)(s:Shared)(Q:VK)(u:Value)(s':Shared):Prop :=
 ∃ v H',s'.os=s.os/\AllBare s'.gens/\Un (frs outer) [] H H' s.heap s'.heap/\bY P w H' s'.heap/\RelV v u/\Q v H'
def CR(CX:j8)(outer:List Env)(P:Program)(w:World)(H:Hp)(s:Shared)(Q:VK)(E:XK)(r:Result)(s':Shared):Prop :=
 match r with
 | .ok (.ret u)=>CE outer P w H s Q u s'
 | .ok _=>False
 | .error e=>CX outer H s E e s'
structure aD(P:Program)(w:World)(K:W.Frag)(mg:Str->Option Value)(base:Heap)(CX:j8)(k:Nat)(f:Addr)(fd:FuncData)(ps:List Str)(sp:Sp):Prop where
 len:∀ vs H Q E,sp vs H Q E->vs.length=ps.length
 run:∀ (A:Around) (outer:List Env) (s:Shared) (H:Hp) (args:Args) (us:List Value) (vs:List V) (Q:VK) (E:XK),aj k A->dP P w K mg base A outer s H->BindsTo s fd args (ps.zip us)->Vals vs us->sp vs H Q E ->
  codeAny (model P w) A (.call (.ref f) args) (CR CX outer P w H s Q E) s
theorem aD.imp{P:Program}{w:World}{K:W.Frag}{mg:Str->Option Value}{base:Heap}{CX:j8}{k:Nat}{f:Addr}{fd:FuncData}{ps:List Str}{sp Di:Sp}(F:aD P w K mg base CX k f fd ps sp)
 (h:∀ vs H Q E,Di vs H Q E->sp vs H Q E):aD P w K mg base CX k f fd ps Di :=
 ⟨fun vs H Q E q=>F.len vs H Q E (h _ _ _ _ q),fun A outer s H args us vs Q E hr he hb hv hs=>F.run A outer s H args us vs Q E hr he hb hv (h _ _ _ _ hs)⟩
theorem dP.make{P:Program}{w:World}{K:W.Frag}{mg:Str->Option Value}{base:Heap}{A:Around}{outer:List Env}{s:Shared}{H:Hp}(e:dP P w K mg base A outer s H)(C:Addr)(us:List Value)(kw:List (Str×Value)) :
 dP P w K mg base (A.under (.builtin "type.__call__" ⟨.ref C::us,kw⟩)) outer s H:=⟨by first | exact e.frames | (simpa [Around.under,Code.envs,Code.isFrame,pushEnvs] using e.frames),e.mod,e.bs,e.jW,e.dq,e.nc,e.hok,e.bare⟩
theorem dP.in1{P:Program}{w:World}{K:W.Frag}{mg:Str->Option Value}{base:Heap}{A:Around}{outer:List Env}{s:Shared}{H:Hp}(e:dP P w K mg base A outer s H) :
 dP P w K mg base A.in1 outer s H:=⟨e.frames,e.mod,e.bs,e.jW,e.dq,e.nc,e.hok,e.bare⟩
section
variable{X:Cx}{pins:List (Addr×Obj)}{σ:St}{H:Hp}{s s':Shared}
theorem Inv.env0(I:Inv X pins σ H s):dP X.prog X.w X.K X.mg X.base X.A X.stack s H :=
 ⟨I.ok.frames,I.ok.mod,I.bs,qa2 I.ok.jW I.sz,I.stack,I.fX,I.hok,I.bare⟩
theorem Inv.after(I:Inv X pins σ H s)(h:CE X.stack X.prog X.w H s Q u s'):EP X pins σ Q u s':=by
 obtain⟨v,H',os,bare,un,hok,r,q⟩:=h
 obtain⟨hh,g,d,t,os'⟩:=s'
 obtain rfl:os'=s.os:=os
 exact⟨v,H',I.call (h':=hh) (g':=g) (d':=d) (t':=t) (ch:=[]) un hok bare (fun b z=>absurd z (by simp)),r,q⟩
end
def yf(sp:Sp)(dvs:List V)(E:XK)(t:TA):TE:=fun σ H Q=>t σ H fun vs H1=>sp (vs++dvs) H1 Q E
def KJ(C:Addr)(m:Str)(sp:Sp)(dvs:List V)(E:XK)(ta:TE)(t:TA):TE:=fun σ H Q=>ta σ H fun x H1=>∃ a dx fs,x = .ref a/\H1 a=some (.ins C dx fs)/\fs.lookup m=none /\
 t σ H1 fun vs H2=>sp (x::(vs++dvs)) H2 Q E
def Binds(K:W.Frag)(fd:FuncData)(ps:List Str)(ds:List Value):Prop :=
 ∀ (s:Shared) (us:List Value),K.In s.heap->(us++ds).length=ps.length->BindsTo s fd ⟨us,[]⟩ (ps.zip (us++ds))
theorem Binds.all{K:W.Frag}{fd:FuncData}{ps:List Str}(h:∀ us:List Value,us.length=ps.length->bindArgs fd ⟨us,[]⟩=pure (ps.zip us)):Binds K fd ps []:=fun s us _ hl=>by
 rw[qaX] at hl ⊢
 exact .of_eq (h us hl)
def uU(CX:j8)(X:Cx)(E:XK):Prop:=∀ (pins:List (Addr×Obj)) (σ:St) (H:Hp) (s:Shared) (e:Value) (s':Shared),Inv X pins σ H s->CX X.stack H s E e s'->X.xe e s'
section
variable{X:Cx}{CX:j8}{k:Nat}{f C:Addr}{fd:FuncData}{ps:List Str}{sp:Sp}{dvs:List V}{ds:List Value}{E:XK}{x m:Str}{p pos apos:Pos}{e o:Expr}{es:List Expr}{ta:TE}{t:TA}
theorem Dj{pins:List (Addr×Obj)}{σ:St}{H:Hp}{s:Shared}{Q:VK}{us:List Value}{vs:List V}(F:aD X.prog X.w X.K X.mg X.base CX k f fd ps sp)(hr:aj k X.A)(hb:Binds X.K fd ps ds)(hd:Vals dvs ds)(hx:uU CX X E)
 (I:Inv X pins σ H s) (r:Vals vs us) (h:sp (vs++dvs) H Q E):wpAny (model X.prog X.w) X.A (call (.ref f) us) (EP X pins σ Q) X.xe s:=by
 have r2:Vals (vs++dvs) (us++ds):=r.append hd
 have hl:(us++ds).length=ps.length:=by rw[<- r2.length];exact F.len _ _ _ _ h
 refine wpAny_call (codeAny_mono (F.run X.A X.stack s H ⟨us,[]⟩ (us++ds) (vs++dvs) Q E hr I.env0 (hb s us I.aS hl) r2 h) fun r s' hq=>?_)
 cases r with
 |error e=>exact hx pins σ H s e s' I hq
 |ok fl =>
   cases fl with
   |ret u=>exact I.after hq
   |next=>exact False.elim hq
   |brk=>exact False.elim hq
   |cont=>exact False.elim hq
theorem Dk(F:aD X.prog X.w X.K X.mg X.base CX k f fd ps sp)(hr:aj k X.A)(hg:Gl X x)(hm:X.mg x=some (.ref f))(hk:W.keepIn X.K (.ref f)=true)(hb:Binds X.K fd ps ds)(hd:Vals dvs ds)(hx:uU CX X E)
 (ha:PA X (e::es) t) (hdb:(x == ("__debug__" : Str))=false:=by decide) (he:starEach (e::es) X.env=(false,eval e X.env)::starEach es X.env:=by rfl) (hpl:(backTo pos (starEach es X.env)).any (·.1)=false:=by rfl) :
 PE X (.Call (.Name x p) (e::es) [] pos) (yf sp dvs E t):=by
 intro pins s σ H Q I h
 refine qbI (p_ I hg hm ?_ hdb)
 refine W.callWith_K (h₀:=X.base) I.ok.mod.i7 hk (aI (ha pos pins s σ H _ I h) fun us s1 zq=>?_) he hpl
 obtain⟨vs,H1,I1,r,q⟩:=zq
 refine⟨I1.aS,?_⟩
 exact Dj F hr hb hd hx I1 r q
theorem KL{pl:Sem Bool}(he:PE X o ta)(c:fB X.K C)(hm:Meth X.K C m f)(F:aD X.prog X.w X.K X.mg X.base CX k f fd ps sp)(hr:aj k X.A)(hb:Binds X.K fd ps ds)(hd:Vals dvs ds)(hx:uU CX X E)(ha:PA X (e::es) t)
 (hst:starEach (e::es) X.env=(false,eval e X.env)::starEach es X.env:=by rfl) (hpl:(backTo pos (starEach es X.env)).any (·.1)=false:=by rfl)
 (ht:eval (.Call (.Attribute o m apos) (e::es) [] pos) X.env=(do
  let ov <- eval o X.env
  standAt apos.atName
  let (f,first) <- holding [ov] (getMethod ov m pl)
  callWith pos f first (backTo pos (starEach (e::es) X.env)) (backToKw pos (keywordEach [] X.env))):=by rfl) :
 PE X (.Call (.Attribute o m apos) (e::es) [] pos) (KJ C m sp dvs E ta t):=by
 intro pins s σ H Q I h
 refine W.methodCall_KW (pl:=pl) (aI (he pins s σ H _ I h) fun u s1 zq=>?_) ht
 obtain⟨x,H1,I1,rx,a,dx,fs,ex,ea,l,q⟩:=zq
 subst ex
 obtain rfl:u=Value.ref a:=rx
 refine Df I1 ea c hm l ?_
 refine W.callWith_K (first:=[.ref a]) (h₀:=X.base) I.ok.mod.i7 hm.kp (aI (ha pos pins s1 σ H1 _ I1 q) fun us s2 zq=>?_) hst hpl
 obtain⟨vs,H2,I2,r,q2⟩:=zq
 refine⟨I2.aS,?_⟩
 exact Dj (us:=.ref a::us) (vs:=.ref a::vs) F hr hb hd hx I2 (.cons rfl r) q2
structure Mk(K:W.Frag)(C f:Addr):Prop where
 makes:W.makesIn K C=true
 init:W.findIn K (.ref C) "__init__" = some (some (.ref f))
 fn:W.isFn K (.ref f)=true
 kp:W.keepIn K (.ref C)=true
end
structure ak(N P:List Str)(sc:Scope):Prop where
 kind:sc.kind = .function
 co:sc.isCoroutine=false
 gen:sc.isGenerator=false
 nd:N.Nodup
 pre:N.take P.length=P
 par:∀ x∈P,sc.names.lookup x=some .local\/sc.names.lookup x=some .cell
 oj:∀ y∈sc.names,y.2 ≠ .free
theorem Dl{kindOf:Str->Option NameKind}{x:Str}:∀ {binds:List (Str×Value)} {m:Str->Option Value},(∀ v,(x,v) ∉ binds)->bindL kindOf binds m x=m x
 | [],_,_=>rfl
 | (n,v)::r,m,h=>by
   unfold bindL
   rw[Dl fun w hw=>h w (qat _ hw)]
   split
   · have:x≠n:=by rintro rfl;exact h v qaw
     simp[this]
   · rfl
theorem Dm{kindOf:Str->Option NameKind}{x:Str}:∀ {binds:List (Str×Value)} {m:Str->Option Value},(∀ v,(x,v) ∉ binds)->bindC kindOf binds m x=m x
 | [],_,_=>rfl
 | (n,v)::r,m,h=>by
   unfold bindC
   rw[Dm fun w hw=>h w (qat _ hw)]
   split
   · rfl
   · have:x≠n:=by rintro rfl;exact h v qaw
     simp[this]
theorem Dp{kindOf:Str->Option NameKind}{x:Str}{v:Value}:∀ {P:List Str} {vs:List Value} {i:Nat} {m:Str->Option Value},P.Nodup->P[i]? = some x->vs[i]? = some v->kindOf x=some .local ->
 bindL kindOf (P.zip vs) m x=some v
 | [],_,_,_,_,h,_,_=>by simp at h
 | _::_,[],_,_,_,_,h,_=>by simp at h
 |p::P,w::vs,0,m,nd,h1,h2,hk=>by
   simp at h1 h2;subst h1;subst h2
   show bindL kindOf ((p,w)::P.zip vs) m p=_
   unfold bindL
   rw[Dl fun v hv=>(qbg.mp nd).1 (List.of_mem_zip hv).1,qay hk]
   simp
 |p::P,w::vs,i+1,m,nd,h1,h2,hk=>by
   show bindL kindOf ((p,w)::P.zip vs) m x=_
   unfold bindL
   exact Dp (i:=i) (qbg.mp nd).2 (by simpa using h1) (by simpa using h2) hk
theorem Dr{kindOf:Str->Option NameKind}{x:Str}{v:Value}:∀ {P:List Str} {vs:List Value} {i:Nat} {m:Str->Option Value},P.Nodup->P[i]? = some x->vs[i]? = some v->kindOf x≠some .local ->
 bindC kindOf (P.zip vs) m x=some v
 | [],_,_,_,_,h,_,_=>by simp at h
 | _::_,[],_,_,_,_,h,_=>by simp at h
 |p::P,w::vs,0,m,nd,h1,h2,hk=>by
   simp at h1 h2;subst h1;subst h2
   show bindC kindOf ((p,w)::P.zip vs) m p=_
   unfold bindC
   rw[Dm fun v hv=>(qbg.mp nd).1 (List.of_mem_zip hv).1,qaz hk]
   simp
 |p::P,w::vs,i+1,m,nd,h1,h2,hk=>by
   show bindC kindOf ((p,w)::P.zip vs) m x=_
   unfold bindC
   exact Dr (i:=i) (qbg.mp nd).2 (by simpa using h1) (by simpa using h2) hk
def start(N:List Str)(vs:List V):St:=vs.map some++List.replicate (N.length - vs.length) none
def fZ(CX:j8)(P:Program)(w:World)(K:W.Frag)(mg:Str->Option Value)(base:Heap)(N:List Str)(qual:Str)(scope:Scope)(f:Addr)(cd:Value)(A:Around)(outer:List Env)(s:Shared)(H:Hp)(E:XK):Cx where
 prog:=P
 w:=w
 K:=K
 mg:=mg
 base:=base
 A:=A.deeper (envOfC qual scope s.heap.objs.size f cd)
 N:=N
 s₀:=s
 H₀:=H
 env:=envOfC qual scope s.heap.objs.size f cd
 outer:=outer
 stack:=envOfC qual scope s.heap.objs.size f cd::outer
 ex:=[]
 calm:=true
 fn:=fun _=>true
 pn:=[]
 xe:=fun e s'=>wpAny (model P w) (A.deeper (envOfC qual scope s.heap.objs.size f cd)) (leaving (envOfC qual scope s.heap.objs.size f cd) e) (fun _ s''=>CX outer H s E e s'') (fun e' s''=>CX outer H s E e' s'') s'
theorem Ds{sc:Scope}(h:sc.names.lookup x=some .cell):∃ c,(cellsFrom n sc.names []).lookup x=some c:=by
 have q:=W.cellsFrom_some sc.names n [] (.inl h)
 exact Option.isSome_iff_exists.mp q
theorem KN{CX:j8}{P:Program}{w:World}{K:W.Frag}{mg:Str->Option Value}{base:Heap}{N ps:List Str}{qual:Str}{scope:Scope}{f:Addr}{cd:Value}{A:Around}{outer:List Env}{s s1:Shared}{H:Hp}{E:XK}{us:List Value}{vs:List V}
 (S:ak N ps scope) (hd:A.handled=none) (e0:dP P w K mg base A outer s H) (hl:vs.length=ps.length) (r:Vals vs us)
 (x:InCallC s s.heap.objs.size (bindL (envOfC qual scope s.heap.objs.size f cd).kindOf (ps.zip us) fun _=>none) (cellsFrom (s.heap.objs.size+1) scope.names []) (bindC (envOfC qual scope s.heap.objs.size f cd).kindOf (ps.zip us) fun _=>none) s1) :
 Inv (fZ CX P w K mg base N qual scope f cd A outer s H E) [] (start N vs) H s1:=by
 have hpl:ps.length<=N.length:=by have:=congrArg List.length S.pre;rw[qbn] at this;omega
 obtain⟨h1,tk,rfl,hk⟩:=x.done
 have rY:∀ b:Addr,b ∉ (fZ CX P w K mg base N qual scope f cd A outer s H E).ex:=fun b z=>absurd (show b∈([]:List Addr) from z) (by simp)
 refine⟨⟨e0.mod,S.kind,rfl,rfl,qag _,fun y z c h1 h2=>?_,fun y hy=>?_,fun y c _ h=>?_,fun _=>hd,Around.frames_deeper e0.frames,.inr ⟨rfl,rfl⟩,fun b z=>absurd z (rY b),e0.bs,e0.jW,fun b _ _=>rY b,fun b z=>absurd z (rY b),e0.dq,e0.nc⟩,
  rfl,e0.bare,Un.kept hk,⟨_,x.toInCall.ns,fun i y v h1 h2 h3=>?_⟩,fun y c h=>⟨_,x.cell y c h⟩,e0.hok.fresh (qag _),fun y c h=>?_,fun p hp=>absurd (show p∈([]:List (Addr×Obj)) from hp) (by simp),e0.hok.kept hk,?_⟩
 · exact name_of_addr x.apart (PySem.mem_of_lookup h1) (PySem.mem_of_lookup h2)
 · have hy:scope.names.lookup y=some .cell\/scope.names.lookup y=some .free:=hy
   rcases hy with hy | hy
   · exact Ds hy
   · exact absurd rfl (S.oj _ (PySem.mem_of_lookup hy))
 · exact Nat.le_of_lt (x.above y c (PySem.mem_of_lookup h))
 · have hi:i<vs.length:=by
    unfold start at h2
    by_cases hi:i<vs.length
    · exact hi
    · rw[qaA (by simpa using hi)] at h2
      rw[qbi] at h2
      split at h2<;>cases h2
   have ha:vs[i]? = some v:=by
    unfold start at h2
    rw[qaH (by simpa using hi),qaE] at h2
    cases e:vs[i]? with
    |none=>rw[e] at h2;cases h2
    |some a=>rw[e] at h2;cases h2;rfl
   obtain⟨u,hu,rv⟩:=r.get ha
   have hp:ps[i]? = some y:=by
    rw[<- S.pre,List.getElem?_take_of_lt (by omega)];exact h1
   have Dt:ps.Nodup:=by rw[<- S.pre];exact S.nd.sublist (List.take_sublist _ _)
   refine⟨u,rv,?_⟩
   rcases S.par y (qaN hp) with k | k
   · exact .inl ⟨k,Dp Dt hp hu k⟩
   · obtain⟨c,e⟩:=Ds (n:=s.heap.objs.size+1) k
     refine .inr ⟨.inl k,c,e,?_⟩
     have q:=x.cell y c e
     rw[Dr Dt hp hu (by show scope.names.lookup y≠_;rw[k];decide)] at q
     exact q
 · exact e0.hok.fresh (Nat.le_of_lt (x.above y c (PySem.mem_of_lookup h)))
 · unfold start
   show _=N.length
   rw[qaq,qaK,qbH]
   omega
theorem yg{CX:j8}{P:Program}{w:World}{K:W.Frag}{mg:Str->Option Value}{base:Heap}{k:Nat}{f:Addr}{name qual:Str}{params:Arguments}{body:List Stmt}{scope:Scope}{dV kV doc pm cdv ct oc:Value}{an od:Option Addr}
 {osl:Array (Option Value)} {N ps:List Str} {sp:Sp} (lk:K.lookup f=some ⟨oc,od,.func (W.fnOf name qual params body scope dV kV doc pm an cdv ct),osl⟩) (hcd:W.codeIn K cdv qual=true) (S:ak N ps scope)
 (len:∀ vs H Q E,sp vs H Q E->vs.length=ps.length)
 (hbody:∀ (A:Around) (outer:List Env) (s:Shared) (H:Hp) (vs:List V) (Q:VK) (E:XK),aj k (A.deeper (envOfC qual scope s.heap.objs.size f cdv))->sp vs H Q E ->
  ∃ t,PSs (fZ CX P w K mg base N qual scope f cdv A outer s H E) body t/\t { nx:=fun _ H'=>Q .av H',rt:=Q } (start N vs) H) :
 aD P w K mg base CX (k+1) f (W.fnOf name qual params body scope dV kV doc pm an cdv ct) ps sp:=by
 refine⟨len,fun A outer s H args us vs Q E hr e0 hb r hsp=>?_⟩
 have hl:=len _ _ _ _ hsp
 have KX:K.In s.heap:=e0.mod.i7.keeps fun b o e=>(e0.bs b o e).1
 have lim:s.heap.NoLimit:=e0.mod.nolimit.keeps fun b o e=>(e0.bs b o e).1
 have hkind:∀ y∈ps.zip us,scope.names.lookup y.1=some .local\/(scope.names.lookup y.1=some .cell/\((cellsFrom (s.heap.objs.size+1) scope.names []).lookup y.1).isSome=true):=fun ⟨n,v⟩ hy=>by
  rcases S.par n (List.of_mem_zip hy).1 with q | q
  · exact .inl q
  · exact .inr ⟨q,W.cellsFrom_some _ _ _ (.inl q)⟩
 refine codeAny_call_function hr.depth (KX _ _ lk) rfl S.co S.gen rfl (W.codeRec_of KX hcd) (hb _ _ _ _ ?_)
 refine wpAny_newFunctionEnv_cells S.kind hkind fun env he s1 x=>?_
 subst he
 refine⟨lim.keeps x.toInCall.keep,codeAny_func ?_⟩
 obtain⟨t,ht,hq⟩:=hbody A outer s H vs Q E (hr.deeper _) hsp
 have I:Inv (fZ CX P w K mg base N qual scope f cdv A outer s H E) [] (start N vs) H s1:=KN S hr.hd e0 hl r x
 refine qao (ht [] s1 (start N vs) H _ I hq) (fun fl s' hs=>?_) fun e s' hs=>hs
 have fin:∀ {ax:St} {H':Hp} {v:V} {u:Value},Inv (fZ CX P w K mg base N qual scope f cdv A outer s H E) [] ax H' s'->RelV v u->Q v H'->CE outer P w H s Q u s' :=
  fun {ax H' v u} J rv q=>⟨v,H',J.os,J.bare,J.base,J.hok,rv,q⟩
 cases fl with
 |ret u =>
   obtain⟨v,ax,H',J,rv,q⟩:=hs
   exact fin J rv q
 |next =>
   obtain⟨ax,H',J,q⟩:=hs
   exact fin (v:=V.av) (u:=Value.none) J rfl q
 |brk =>
   obtain⟨_,_,_,q⟩:=hs
   exact False.elim q
 |cont =>
   obtain⟨_,_,_,q⟩:=hs
   exact False.elim q
section
variable{X:Cx}{x:Str}{p pos:Pos}{e:Expr}{es:List Expr}{t:TA}{id T:String}{r:List V->Hp->VK->Prop}
def ql(r:List V->Hp->VK->Prop)(t:TA):TE:=fun σ H Q=>t σ H fun vs H1=>r vs H1 Q
theorem j9(hc:aB X (.builtin id) r)(hg:Gl X x)(hm:X.mg x=none)(hv:bootBuiltins x=some (.builtin id))(ha:PA X (e::es) t)(hn:x ≠ "__name__" := by decide)(hdb:(x == ("__debug__" : Str))=false:=by decide)
 (he:starEach (e::es) X.env=(false,eval e X.env)::starEach es X.env:=by rfl) (hpl:(backTo pos (starEach es X.env)).any (·.1)=false:=by rfl):PE X (.Call (.Name x p) (e::es) [] pos) (ql r t):=by
 intro pins s σ H Q I h
 refine qbI (n9 I hg hm hv ?_ hn hdb)
 exact PyProof.Rows.callWith_builtin1 (aI (ha pos pins s σ H _ I h) fun us s1 ⟨vs,H1,I1,r1,q1⟩=>hc pins s1 σ H1 vs us Q I1 r1 q1) he hpl
theorem qm(hc:aB X (.type T) r)(hg:Gl X x)(hm:X.mg x=none)(hv:bootBuiltins x=some (.type T))(ha:PA X (e::es) t)(hn:x ≠ "__name__" := by decide)(hdb:(x == ("__debug__" : Str))=false:=by decide)
 (he:starEach (e::es) X.env=(false,eval e X.env)::starEach es X.env:=by rfl) (hpl:(backTo pos (starEach es X.env)).any (·.1)=false:=by rfl):PE X (.Call (.Name x p) (e::es) [] pos) (ql r t):=by
 intro pins s σ H Q I h
 refine qbI (n9 I hg hm hv ?_ hn hdb)
 exact qbw (aI (ha pos pins s σ H _ I h) fun us s1 ⟨vs,H1,I1,r1,q1⟩=>hc pins s1 σ H1 vs us Q I1 r1 q1) he hpl
end
end L2
namespace HT
open PySem PyProof.Rows
section
variable{prog:Program}{w:World}{A:Around}{E:Value->Shared->Prop}{s:Shared}
noncomputable def fC(n d:Nat):Option Int->Nat
 |none=>d
 |some v=>if v<0 then (v+(n:Int)).toNat else min v.toNat n
theorem lU(n d k:Nat):fC n d (some (k:Int))=min k n:=by
 show(if (k:Int)<0 then ((k:Int)+(n:Int)).toNat else min (k:Int).toNat n)=min k n
 rw[qaz (by omega),Int.toNat_natCast]
end
end HT
namespace L2
open PySem PySem.Spec PyProof.Rows
abbrev TO:=St->Hp->(Option Int->Hp->Prop)->Prop
def PO(X:Cx)(e:Option Expr)(t:TO):Prop :=
 ∀ (pins:List (Addr×Obj)) (s:Shared) (σ:St) (H:Hp) (Q:Option Int->Hp->Prop),Inv X pins σ H s->t σ H Q ->
  wpAny (model X.prog X.w) X.A (evalPart e X.env) (fun u s'=>∃ o H',Inv X pins σ H' s'/\IsPart u o/\Q o H') X.xe s
def KO:TO:=fun _ H Q=>Q none H
def KP(t:TE):TO:=fun σ H Q=>t σ H fun x H1=>∃ i,x = .int i/\Q (some i) H1
section
variable{X:Cx}{e:Expr}{te:TE}{lo hi:Option Expr}{tl th:TO}{pos p2:Pos}
theorem KQ:PO X none KO:=by
 intro pins s σ H Q I h
 rw[evalPart_none]
 exact qac ⟨none,H,I,.none,h⟩
theorem KR(h:PE X e te):PO X (some e) (KP te):=by
 intro pins s σ H Q I hw
 rw[evalPart_some]
 refine aI (h pins s σ H _ I hw) fun u s1 zq=>?_
 obtain⟨x,H1,I1,r1,q1⟩:=zq
 obtain⟨i,rfl,q⟩:=q1
 obtain⟨t,rfl⟩:=r1
 exact⟨some i,H1,I1,.int i t,q⟩
def lg(X:Cx)(r:V->Option Int->Option Int->Hp->VK->Prop):Prop :=
 ∀ (pins:List (Addr×Obj)) (s:Shared) (σ:St) (H:Hp) (x:V) (v vl vu:Value) (lo hi:Option Int) (sl:Addr) (Q:VK),Inv X pins σ H s->RelV x v->s.heap.IsSliceOf sl vl vu .none->IsPart vl lo->IsPart vu hi->r x lo hi H Q ->
  ∃ T id,typeLookup (.type T) "__getitem__" = pure (some (.builtin id))/\s.TypeIs v T/\wpAny (model X.prog X.w) X.A (getItem v (.ref sl)) (EP X pins σ Q) X.xe s
def KS(r:V->Option Int->Option Int->Hp->VK->Prop)(te:TE)(tl th:TO):TE:=fun σ H Q=>te σ H fun x H1=>tl σ H1 fun l H2=>th σ H2 fun u H3=>r x l u H3 Q
theorem KU(hr:lg X r)(he:PE X e te)(hl:PO X lo tl)(hu:PO X hi th):PE X (.Subscript e (.Slice lo hi none p2) pos) (KS r te tl th):=by
 intro pins s σ H Q I h
 refine Subscript_ (aI (he pins s σ H _ I h) fun v s1 zq=>?_)
 obtain⟨x,H1,I1,r1,q1⟩:=zq
 refine wpAny_Slice (aI (hl pins s1 σ H1 _ I1 q1) fun vl s2 zq=>?_)
 obtain⟨l,H2,I2,pl,q2⟩:=zq
 refine aI (hu pins s2 σ H2 _ I2 q2) fun vu s3 zq=>?_
 obtain⟨u,H3,I3,pu,q3⟩:=zq
 rw[evalPart_none]
 refine qac ?_
 have I4:Inv X pins σ H3 { s3 with heap:=s3.heap.push { cls:=.type "slice",data:=.fields #[vl,vu,.none] } }:=I3.kept (t':=s3.toks) fun b ob q=>qab _ q
 obtain⟨T,id,hT,ht,hg⟩:=hr pins { s3 with heap:=s3.heap.push { cls:=.type "slice",data:=.fields #[vl,vu,.none] } } σ H3 x v vl vu l u s3.heap.objs.size Q I4 r1 (Heap.IsSliceOf.new ..) pl pu q3
 show wpAny (model X.prog X.w) X.A (subscriptTail e (.Slice lo hi none p2) v (.ref s3.heap.objs.size)) (EP X pins σ Q) X.xe { s3 with heap:=s3.heap.push { cls:=.type "slice",data:=.fields #[vl,vu,.none] } }
 exact tail_any (ops:=[.ref s3.heap.objs.size,v]) ht hT hg (by with_unfolding_all rfl)
def oq(xs:List V)(lo hi:Option Int):List V:=(xs.drop (HT.fC xs.length 0 lo)).take (HT.fC xs.length xs.length hi - HT.fC xs.length 0 lo)
theorem KW(xs:List V)(lo hi:Option Int):(oq xs lo hi).length<=xs.length:=by
 unfold oq
 rw[qbn,qa9]
 omega
end
noncomputable def iw(n:Nat)(i:Int):Option Nat:=if 0<=i then (if i<n then some i.toNat else none) else if -(n:Int)<=i then some (i+n).toNat else none
def cw{α:Type}(xs:List α)(i:Int):Option α:=(iw xs.length i).bind fun j=>xs[j]?
theorem Du(h:iw n i=some j):seqIndex? i n=some j/\j<n /\ -(n:Int)<=i/\i<n:=by
 unfold iw at h
 by_cases h0:0<=i
 · rw[qay h0] at h
   by_cases h1:i<n
   · rw[qay h1] at h
     have e:i.toNat=j:=qaL h
     exact⟨by rw[seqIndex_of h0 h1,e],by omega,by omega,h1⟩
   · rw[qaz h1] at h;cases h
 · rw[qaz h0] at h
   by_cases h1 : -(n:Int)<=i
   · rw[qay h1] at h
     have e:(i+n).toNat=j:=qaL h
     exact⟨by rw[seqIndex_neg (by omega) h1,e],by omega,h1,by omega⟩
   · rw[qaz h1] at h;cases h
theorem yh{α:Type}{xs:List α}{v:α}(h:cw xs i=some v):∃ j,seqIndex? i xs.length=some j/\xs[j]? = some v/\j<xs.length /\ -(xs.length:Int)<=i/\i<xs.length:=by
 unfold cw at h
 cases e:iw xs.length i with
 |none=>rw[e] at h;cases h
 |some j =>
   rw[e] at h
   obtain⟨h1,h2,h3,h4⟩:=Du e
   exact⟨j,h1,h,h2,h3,h4⟩
theorem KY{α:Type}{xs:List α}{j:Nat}{v:α}(h:xs[j]? = some v):cw xs (j:Int)=some v:=by
 have hj:j<xs.length:=(qad.mp h).1
 have e:iw xs.length (j:Int)=some j:=by
  unfold iw
  rw[qay (by omega),qay (by omega)];simp
 unfold cw;rw[e];exact h
noncomputable def Dw(b:Expr):Prop:=∀ o i,subscripted b false o i=operate [o,i] (getItem o i)
def lV(X:Cx)(r:R2):Prop :=
 ∀ (value slice:Expr) (pins:List (Addr×Obj)) (s:Shared) (σ:St) (H:Hp) (x y:V) (v u:Value) (Q:VK),Inv X pins σ H s->RelV x v->RelV y u->r x y H Q ->
  subscripted slice false v u=operate [v,u] (getItem v u)->wpAny (model X.prog X.w) X.A (subscriptTail value slice v u) (EP X pins σ Q) X.xe s
def KZ(X:Cx)(id:String)(r:V->List V->Hp->VK->Prop):Prop :=
 ∀ (pins:List (Addr×Obj)) (s:Shared) (σ:St) (H:Hp) (x:V) (xs:List V) (v:Value) (us:List Value) (Q:VK),Inv X pins σ H s->RelV x v->Vals xs us->r x xs H Q ->
  wpAny (model X.prog X.w) X.A (call (.builtin id) (v::us)) (EP X pins σ Q) X.xe s
section
variable{X:Cx}{a b:Expr}{ta tb:TE}{pos:Pos}
theorem lV.or(h:lV X r)(h':lV X r'):lV X (fun x y H Q=>r x y H Q\/r' x y H Q):=by
 intro value slice pins s σ H x y v u Q I rx ry q hs
 rcases q with q | q
 · exact h value slice pins s σ H x y v u Q I rx ry q hs
 · exact h' value slice pins s σ H x y v u Q I rx ry q hs
theorem K0(hr:lV X r)(ha:PE X a ta)(hb:PE X b tb)(hs:Dw b):PE X (.Subscript a b pos) (rW r ta tb):=by
 intro pins s σ H Q I h
 exact Subscript_ (ya ha hb I h fun v u s2 x y H2 I2 rx ry q=>hr a b pins s2 σ H2 x y v u Q I2 rx ry q (hs _ _))
def Dx(K:W.Frag):R2:=fun x y H Q=>∃ p xs i v,x = .ref p/\y = .int i/\aZ K H p xs/\cw xs i=some v/\Q v H
def Dy(K:W.Frag):R2:=fun x y H Q=>∃ p xs i v,x = .ref p/\y = .int i/\b9 K H p xs/\cw xs i=some v/\Q v H
def Dz:R2:=fun x y H Q=>∃ z i c,x = .str z/\y = .int i/\z.length<=sizeLine/\cw z.cps.toList i=some c/\Q (.str ⟨#[c]⟩) H
theorem lW:lV X (Dx X.K):=by
 intro value slice pins s σ H x y v u Q I rx ry h hs
 obtain⟨p,xs,i,z,rfl,rfl,hq,he,q⟩:=h
 cases rx
 obtain⟨t,rfl⟩:=ry
 obtain⟨its,r,pl,hz⟩:=I.list hq
 obtain⟨j,h1,h2,h3,h4,h5⟩:=yh he
 obtain⟨w,ew,rw'⟩:=r.get h2
 have hl:=r.length
 have hn:=qi
 have fin:EP X pins σ Q w s:=⟨z,H,I,rw',q⟩
 by_cases h0:0<=i
 · have hj:i.toNat=j:=by
    rw[seqIndex_of h0 h5] at h1
    exact qaL h1
   exact item_listR pl.isList h0 (by omega) (by rw[hj];simpa using ew) fin hs
 · have hj:(i+(its.toArray.size:Int)).toNat=j:=by
    rw[seqIndex_neg (by omega) h4] at h1
    rw[qaP, <- hl]
    exact qaL h1
   exact subscriptTail_builtinR (x:=w) pl.isList.typeIs slot_list_getitem.lookup
    (wpAny_getItem_list_neg (Q:=fun r s'=>r=w/\EP X pins σ Q r s') pl.isList (by omega) (by rw[qaP]<;>omega) (by omega) (by rw[hj];simpa using ew) ⟨rfl,fin⟩) hs
theorem ot:lV X (Dy X.K):=by
 intro value slice pins s σ H x y v u Q I rx ry h hs
 obtain⟨p,xs,i,z,rfl,rfl,hq,he,q⟩:=h
 cases rx
 obtain⟨t,rfl⟩:=ry
 obtain⟨its,r,pl,hz⟩:=I.tuple hq
 obtain⟨j,h1,h2,h3,h4,h5⟩:=yh he
 obtain⟨w,ew,rw'⟩:=r.get h2
 have hl:=r.length
 have hn:=qi
 have fin:EP X pins σ Q w s:=⟨z,H,I,rw',q⟩
 exact subscriptTail_builtinR (x:=w) pl.typeIs slot_tuple_getitem.lookup
  (getItem_tuple (j:=j) (Q:=fun r s'=>r=w/\EP X pins σ Q r s') pl (by omega) (by omega) (by rw[qaP, <- hl];exact h1) (by simpa using ew) ⟨rfl,fin⟩) hs
theorem K3:lV X Dz:=by
 intro value slice pins s σ H x y v u Q I rx ry h hs
 obtain⟨z,i,c,rfl,rfl,hz,he,q⟩:=h
 obtain⟨t,rfl⟩:=rx
 obtain⟨t',rfl⟩:=ry
 obtain⟨j,h1,h2,h3,h4,h5⟩:=yh he
 have hl:z.cps.toList.length=z.length:=by simp[Str.length]
 rw[hl] at h1 h4 h5
 have hn:=qi
 exact tail_any (typeIs_str s z t) slot_str_getitem.lookup (getItem_str (c:=c) (by
  have e1:decide (i < -(2 ^ 63:Int))=false:=qaU (by omega)
  have e2:decide (i ≥ 2 ^ 63)=false:=qaU (by omega)
  rw[e1,e2,Bool.or_false]) (by rw[h1];simpa using h2) ⟨.str ⟨#[c]⟩,H,I.tok _,⟨_,rfl⟩,q⟩) hs
def DA(K:W.Frag):R2:=fun x y H Q=>Dx K x y H Q\/Dy K x y H Q\/Dz x y H Q
theorem K4:lV X (DA X.K):=lW.or (ot.or K3)
theorem K5(its:List Value)(n j:Nat)(u:Value):Obj.mapSeq (·.setIfInBounds j u) { cls:=.type "list",data:=.seq its.toArray n }={ cls:=.type "list",data:=.seq (its.set j u).toArray n }:=by
 simp[Obj.mapSeq]
theorem Inv.lst{pins:List (Addr×Obj)}{σ:St}{H:Hp}{s:Shared}{p:Addr}{xs:List V}(I:Inv X pins σ H s)(h:H p=some (.lst xs)) :
 ∃ (its:List Value) (n:Nat),Vals xs its/\s.heap.get? p=some { cls:=.type "list",data:=.seq its.toArray n }/\xs.length<=sizeLine:=by
 obtain⟨z,its,n,r,e⟩:=I.hok p _ h
 exact⟨its,n,r,e,z⟩
theorem Inv.ou{pins:List (Addr×Obj)}{σ:St}{H:Hp}{s:Shared}{p:Addr}{xs ys:List V}{its its':List Value}{n n':Nat}{f:Obj->Obj}(I:Inv X pins σ H s)(h:H p=some (.lst xs))
 (ho:s.heap.get? p=some { cls:=.type "list",data:=.seq its.toArray n }) (hf:f { cls:=.type "list",data:=.seq its.toArray n }={ cls:=.type "list",data:=.seq its'.toArray n' }) (r:Vals ys its') (hz:ys.length<=sizeLine) (t:Nat) :
 Inv X pins σ (upd H p (.lst ys)) { s with heap:=s.heap.update p f,toks:=t }:=by
 have e:(s.heap.update p f).get? p=some { cls:=.type "list",data:=.seq its'.toArray n' }:=by
  rw[Heap.get?_update_self f ho (by rw[hf]<;>rfl),hf]
 refine I.write (x:=p) (e:=p) (by rw[h];trivial) (.inl rfl) (fun b u hb q=>(qaF _ _ (qaT hb)).trans q) ⟨_,e⟩ ?_
 exact⟨hz,its',n',r,e⟩
def DB:V->V->V->Hp->(Hp->Prop)->Prop:=fun o i v H Q=>∃ p xs k j,o = .ref p/\i = .int k/\H p=some (.lst xs)/\iw xs.length k=some j/\Q (upd H p (.lst (xs.set j v)))
theorem set_list:CN X DB:=by
 intro pins s σ H o i v ov iv u Q I ro ri rv h
 obtain⟨p,xs,k,j,rfl,rfl,hp,hj,q⟩:=h
 cases ro
 obtain⟨t,rfl⟩:=ri
 obtain⟨its,n,r,ho,hz⟩:=I.lst hp
 obtain⟨h1,h2,h3,h4⟩:=Du hj
 have hl:=r.length
 have hn:=qi
 have I':Inv X pins σ (upd H p (.lst (xs.set j v))) { s with heap:=s.heap.update p (Obj.mapSeq (·.setIfInBounds j u)) } :=
  I.ou hp ho (K5 its n j u) (r.set rv j) (by rw[qbc];exact hz) s.toks
 by_cases h0:0<=k
 · have hk:k.toNat=j:=by
    rw[seqIndex_of h0 h4] at h1
    exact qaL h1
   exact W.ki_setAt ho h0 (by omega) (by rw[qaP, <- hl];exact h4) (by rw[hk];exact⟨_,I',q⟩)
 · have hk:(k+(its.toArray.size:Int)).toNat=j:=by
    rw[seqIndex_neg (by omega) h3] at h1
    rw[qaP, <- hl]
    exact qaL h1
   exact W.ki_setBack ho (by omega) (by rw[qaP, <- hl];exact h3) (by omega) (by rw[hk];exact⟨_,I',q⟩)
theorem K6(lo hi:Option Int)(n:Nat):(sliceBounds lo hi none n).1=((HT.fC n 0 lo:Nat):Int)/\(sliceBounds lo hi none n).2.1=((HT.fC n n hi:Nat):Int)/\(sliceBounds lo hi none n).2.2=1:=by
 refine⟨?_,?_,rfl⟩
 · cases lo with
   |none=>simp[sliceBounds,HT.fC]
   |some i =>
     simp only[sliceBounds,HT.fC,Option.getD_none,show(1:Int) > 0 by decide,if_true]
     by_cases h:i<0
     · simp only[h,if_true]<;>omega
     · simp only[h,if_false]<;>omega
 · cases hi with
   |none=>simp[sliceBounds,HT.fC]
   |some i =>
     simp only[sliceBounds,HT.fC,Option.getD_none,show(1:Int) > 0 by decide,if_true]
     by_cases h:i<0
     · simp only[h,if_true]<;>omega
     · simp only[h,if_false]<;>omega
theorem K7(its:List Value)(lo hi:Option Int):slicePick its.toArray lo hi none=((its.drop (HT.fC its.length 0 lo)).take (HT.fC its.length its.length hi - HT.fC its.length 0 lo)).toArray:=by
 obtain⟨h1,h2,h3⟩:=K6 lo hi its.toArray.size
 unfold slicePick
 rw[h1,h2,h3]
 simp only[sliceRange_one,pick_run,List.size_toArray]<;>rfl
def K8(K:W.Frag):V->Option Int->Option Int->Hp->VK->Prop:=fun x lo hi H Q=>∃ a xs,x = .ref a/\aZ K H a xs/\∀ p,H p=none->Q (.ref p) (upd H p (.lst (oq xs lo hi)))
theorem K9:lg X (K8 X.K):=by
 intro pins s σ H x v vl vu lo hi sl Q I rx hs pl pu h
 obtain⟨a,xs,rfl,hx,q⟩:=h
 cases rx
 obtain⟨its,r,ht,hz⟩:=I.list hx
 have hlen:=r.length
 refine⟨"list",_,slot_list_getitem.lookup,ht.isList.typeIs,?_⟩
 refine wpAny_getItem_list_slice ht.isList hs pl pu .none (by simp) ?_ (by rw[List.size_toArray]<;>omega)
 rw[K7, <- hlen]
 refine⟨.ref s.heap.objs.size,_,I.laid (t':=s.toks) (o:=.lst (oq xs lo hi)) (fun b ob q=>qab _ q) (qag _) ?_,rfl,q _ (I.hok.fresh (qag _))⟩
 exact⟨qa2 (KW xs lo hi) hz,_,0,(r.drop (HT.fC xs.length 0 lo)).take (HT.fC xs.length xs.length hi - HT.fC xs.length 0 lo),qah _ rfl⟩
noncomputable def lh:V->Bool
 | .av=>true
 | .bl _=>true
 | .int _=>true
 | .str _=>true
 | _=>false
noncomputable def lj:V->V->Bool
 | .av,.av=>true
 | .bl a,.bl b=>a == b
 | .bl a,.int b=>(if a then 1 else 0) == b
 | .int a,.bl b=>a == (if b then 1 else 0)
 | .int a,.int b=>a == b
 | .str a,.str b=>a == b
 | _,_=>false
theorem K_(ry:RelV y u)(rx:RelV x v)(fy:lh y=true)(fx:lh x=true):SeqAt.EqAt A s u v (lj y x):=by
 cases y with
 |av =>
   cases ry
   cases x with
   |av=>cases rx;exact SeqAt.EqAt.same _
   |bl b=>cases rx;exact SeqAt.EqAt.none_bool b
   |int b=>obtain⟨t,rfl⟩:=rx;exact SeqAt.EqAt.none_int b t
   |str b=>obtain⟨t,rfl⟩:=rx;exact SeqAt.EqAt.none_str b t
   | _=>exact absurd (show false=true from fx) qap
 |bl a =>
   cases ry
   cases x with
   |av=>cases rx;exact SeqAt.EqAt.bool_none a
   |bl b=>cases rx;exact SeqAt.EqAt.bool_bool a b
   |int b=>obtain⟨t,rfl⟩:=rx;exact SeqAt.EqAt.bool_int a b t
   |str b=>obtain⟨t,rfl⟩:=rx;exact SeqAt.EqAt.bool_str a b t
   | _=>exact absurd (show false=true from fx) qap
 |int a =>
   obtain⟨t',rfl⟩:=ry
   cases x with
   |av=>cases rx;exact SeqAt.EqAt.int_none a t'
   |bl b=>cases rx;exact SeqAt.EqAt.int_bool a t' b
   |int b=>obtain⟨t,rfl⟩:=rx;exact SeqAt.EqAt.int_int a t' b t
   |str b=>obtain⟨t,rfl⟩:=rx;exact SeqAt.EqAt.int_str a t' b t
   | _=>exact absurd (show false=true from fx) qap
 |str a =>
   obtain⟨t',rfl⟩:=ry
   cases x with
   |av=>cases rx;exact SeqAt.EqAt.str_none a t'
   |bl b=>cases rx;exact SeqAt.EqAt.str_bool a t' b
   |int b=>obtain⟨t,rfl⟩:=rx;exact SeqAt.EqAt.str_int a t' b t
   |str b=>obtain⟨t,rfl⟩:=rx;exact SeqAt.EqAt.str_str a t' b t
   | _=>exact absurd (show false=true from fx) qap
 | _=>exact absurd (show false=true from fy) qap
def l7(x:V)(u:Value):Bool:=match u with
 | .none=>lj .av x
 | .bool b=>lj (.bl b) x
 | .int i _=>lj (.int i) x
 | .str z _=>lj (.str z) x
 | _=>false
theorem DC(r:RelV y u)(f:lh y=true):l7 x u=lj y x:=by
 cases y with
 |av=>cases r;rfl
 |bl b=>cases r;rfl
 |int i=>obtain⟨t,rfl⟩:=r;rfl
 |str z=>obtain⟨t,rfl⟩:=r;rfl
 | _=>exact absurd (show false=true from f) qap
theorem yi:∀ {xs:List V} {us:List Value},Vals xs us->xs.all lh=true->us.any (l7 x)=xs.any fun y=>lj y x
 | _,_,.nil,_=>rfl
 |y::xs,u::us,.cons r t,f=>by
   rw[List.all_cons,qa1] at f
   rw[List.any_cons,List.any_cons,DC r f.1,yi t f.2]
theorem yj(rx:RelV x v)(fx:lh x=true):∀ {xs:List V} {us:List Value},Vals xs us->xs.all lh=true->∀ u∈us,SeqAt.EqAt A s u v (l7 x u)
 | _,_,.nil,_=>fun u hu=>by cases hu
 |y::xs,u::us,.cons r t,f=>fun u' hu=>by
   rw[List.all_cons,qa1] at f
   rcases qav.mp hu with rfl | hu
   · rw[DC r f.1];exact K_ r rx f.1 fx
   · exact yj rx fx t f.2 u' hu
def inV(x:V)(xs:List V):Bool:=xs.any fun y=>lj y x
def yk(K:W.Frag)(neg:Bool):R2:=fun x y H Q=>∃ p xs,y = .ref p/\(aZ K H p xs\/b9 K H p xs)/\lh x=true/\xs.all lh=true/\Q (.bl (if neg then !inV x xs else inV x xs)) H
theorem La:bw X (compareOp .In) (yk X.K false):=by
 intro pins s σ H x y v u Q I rx ry h
 obtain⟨p,xs,rfl,hq,fx,fs,q⟩:=h
 cases ry
 rcases hq with hq | hq
 · obtain⟨its,r,pl,hz⟩:=I.list hq
   refine SeqAt.in_listAt (l7 x) pl.isList (fun w hw=>yj rx fx r fs w (by simpa using hw)) ⟨.bl _,H,I,rfl,?_⟩
   rw[show its.toArray.any (l7 x)=its.any (l7 x) by simp,yi r fs]
   exact q
 · obtain⟨its,r,pl,hz⟩:=I.tuple hq
   refine SeqAt.in_tupleAt (l7 x) pl (fun w hw=>yj rx fx r fs w (by simpa using hw)) ⟨.bl _,H,I,rfl,?_⟩
   rw[show its.toArray.any (l7 x)=its.any (l7 x) by simp,yi r fs]
   exact q
theorem f_:aB X (.builtin "len") (fun xs H Q=>∃ p ys,xs=[.ref p]/\(aZ X.K H p ys\/b9 X.K H p ys)/\Q (.int ys.length) H):=by
 intro pins s σ H xs us Q I r h
 obtain⟨p,ys,rfl,hq,q⟩:=h
 obtain⟨u,rfl,rx⟩:=vals1 r
 cases rx
 have hn:=qi
 rcases hq with hq | hq
 · obtain⟨its,r',pl,hz⟩:=I.list hq
   have hlen:=r'.length
   exact Calls.call_len_list pl.isList (by simp only[List.size_toArray]<;>omega) ⟨.int ys.length,H,I.tok _,⟨s.toks+1,by rw[qaP,hlen]⟩,q⟩
 · obtain⟨its,r',pl,hz⟩:=I.tuple hq
   have hlen:=r'.length
   exact len_tuple pl (by simp only[List.size_toArray]<;>omega) ⟨.int ys.length,H,I.tok _,⟨s.toks+1,by rw[qaP,hlen]⟩,q⟩
theorem Lb:aB X (.builtin "len") (fun xs H Q=>∃ z,xs=[.str z]/\z.length<=sizeLine/\Q (.int z.length) H):=by
 intro pins s σ H xs us Q I r h
 obtain⟨z,rfl,hz,q⟩:=h
 obtain⟨u,rfl,t,rfl⟩:=vals1 r
 have hn:=qi
 exact len_str (by omega) ⟨.int z.length,H,I.tok _,⟨_,rfl⟩,q⟩
theorem aB.or(h:aB X f r)(h':aB X f r'):aB X f (fun xs H Q=>r xs H Q\/r' xs H Q):=by
 intro pins s σ H xs us Q I rs q
 rcases q with q | q
 · exact h pins s σ H xs us Q I rs q
 · exact h' pins s σ H xs us Q I rs q
theorem Lc:aB X (.type "list") (fun xs H Q=>∃ p ys,xs=[.ref p]/\(aZ X.K H p ys\/b9 X.K H p ys)/\∀ l,H l=none->Q (.ref l) (upd H l (.lst ys))):=by
 intro pins s σ H xs us Q I r h
 obtain⟨p,ys,rfl,hq,q⟩:=h
 obtain⟨u,rfl,rx⟩:=vals1 r
 cases rx
 have fin:∀ (its:List Value),Vals ys its->ys.length<=sizeLine->∀ (h':Heap) (c':Nat),(∀ b o',s.heap.get? b=some o'->h'.get? b=some o') ->
  h'.get? s.heap.objs.size=some { cls:=.type "list",dict:=none,data:=.seq its.toArray c',slots := #[] }->EP X pins σ Q (.ref s.heap.objs.size) { s with heap:=h' }:=fun its r' hz h' c' kp e =>
  ⟨.ref s.heap.objs.size,_,I.laid (t':=s.toks) kp (qag _) (show az X.prog X.w _ h' _ (.lst ys) from⟨hz,its,c',r',e⟩),rfl,q _ (I.hok.fresh (qag _))⟩
 rcases hq with hq | hq
 · obtain⟨its,r',pl,hz⟩:=I.list hq
   have hlen:=r'.length
   obtain⟨o,ho,hc,n,hd⟩:=pl.isList
   exact call_list_seq p (.inl rfl) ho hc hd (fun h' c' kp e=>fin its r' hz h' c' kp e) (by simp only[List.size_toArray]<;>omega)
 · obtain⟨its,r',pl,hz⟩:=I.tuple hq
   have hlen:=r'.length
   obtain⟨o,ho,hc,n,hd⟩:=pl
   exact call_list_seq p (.inr rfl) ho hc hd (fun h' c' kp e=>fin its r' hz h' c' kp e) (by simp only[List.size_toArray]<;>omega)
theorem DD:aB X (.type "tuple") (fun xs H Q=>∃ p ys,xs=[.ref p]/\((aZ X.K H p ys/\∀ l,H l=none->Q (.ref l) (upd H l (.tup ys)))\/(b9 X.K H p ys/\Q (.ref p) H))):=by
 intro pins s σ H xs us Q I r h
 obtain⟨p,ys,rfl,h⟩:=h
 obtain⟨u,rfl,rx⟩:=vals1 r
 cases rx
 rcases h with ⟨hq,q⟩ | ⟨hq,q⟩
 · obtain⟨its,r',pl,hz⟩:=I.list hq
   have hlen:=r'.length
   refine call_tuple_list pl.isList (fun h' kp=>?_) (by simp only[List.size_toArray]<;>omega)
   have I1:Inv X pins σ H { s with heap:=h' }:=I.kept (t':=s.toks) kp
   have I2:Inv X pins σ (upd H h'.objs.size (.tup ys)) { s with heap:=h'.push { cls:=.type "tuple",data:=.seq its.toArray } } :=
    I1.laid (t':=s.toks) (fun b o e=>qab _ e) (qag _) (show az X.prog X.w _ _ _ (.tup ys) from⟨hz,its,r',IsTup.new _ _⟩)
   exact⟨.ref h'.objs.size,_,I2,rfl,q _ (I1.hok.fresh (qag _))⟩
 · obtain⟨its,r',pl,hz⟩:=I.tuple hq
   exact call_tuple_same pl ⟨.ref p,H,I,rfl,q⟩
def yl(K:W.Frag)(T:String)(x:V)(H:Hp):Prop:=match x with
 | .str _=>T = "str"
 | .int _=>T = "int"
 | .ref p=>(T = "list" /\ ∃ xs,aZ K H p xs)\/(T = "tuple" /\ ∃ o,K.lookup p=some o/\o.cls = .type "tuple" /\ o.dict=none) \/
  (T = "dict" /\ ((∃ kvs,H p=some (.dK kvs))\/∃ kvs,H p=some (.dT kvs)))\/(T = "set" /\ ∃ S n,H p=some (.set S n))
 | _=>False
theorem Ld{pins:List (Addr×Obj)}{σ:St}{H:Hp}{s:Shared}{T:String}{x:V}{v:Value}(I:Inv X pins σ H s)(r:RelV x v)(ty:yl X.K T x H) :
 s.TypeIs v T/\∀ a,v = .ref a->∃ ob,s.heap.get? a=some ob/\ob.dict=none:=by
 cases x with
 |str z =>
   obtain⟨t,rfl⟩:=r
   cases (show T = "str" from ty)
   exact⟨typeIs_str s z t,fun _ e=>nomatch e⟩
 |int i =>
   obtain⟨t,rfl⟩:=r
   cases (show T = "int" from ty)
   exact⟨typeIs_int s i t,fun _ e=>nomatch e⟩
 |ref p =>
   cases r
   rcases ty with ⟨rfl,xs,hq⟩ | ⟨rfl,o,hk,hc,hd⟩ | ⟨rfl,hk⟩ | ⟨rfl,S,n,hk⟩
   · obtain⟨its,_,pl,_⟩:=I.list hq
     refine⟨pl.isList.typeIs,fun a e=>?_⟩
     cases e
     obtain⟨o,n,e,c,hd,_⟩:=pl
     exact⟨o,e,hd⟩
   · refine⟨⟨o,I.aS p o hk,hc⟩,fun a e=>?_⟩
     cases e
     exact⟨o,I.aS _ o hk,hd⟩
   · have z:∃ o,s.heap.get? p=some o/\o.ExactDict:=by
      rcases hk with ⟨kvs,hk⟩ | ⟨kvs,hk⟩
      · obtain⟨_,_,_,_,o,_,_,e,ex,_⟩:=I.hok p _ hk
        exact⟨o,e,ex⟩
      · obtain⟨_,_,_,_,o,_,_,e,ex,_⟩:=I.hok p _ hk
        exact⟨o,e,ex⟩
     obtain⟨o,e,ex⟩:=z
     refine⟨⟨o,e,ex.1⟩,fun a e2=>?_⟩
     cases e2
     exact⟨o,e,ex.2.1⟩
   · obtain⟨o,_,_,_,e,ex,_⟩:=I.hok p _ hk
     refine⟨⟨o,e,ex.1⟩,fun a e2=>?_⟩
     cases e2
     exact⟨o,e,ex.2.1⟩
 | _=>exact False.elim ty
def DE(K:W.Frag)(T:String)(r:V->List V->Hp->VK->Prop)(to:TE)(t:TA):TE:=fun σ H Q=>to σ H fun x H1=>yl K T x H1/\t σ H1 fun xs H2=>r x xs H2 Q
variable{o e:Expr}{es:List Expr}{to:TE}{t:TA}{name:Str}{apos cpos:Pos}{T id:String}{r:V->List V->Hp->VK->Prop}
theorem DF(pa:PlainAttrs T)(slot:Slot T name id)(hty:typeOf (.builtin id)=pure (.type "method_descriptor"))(hm:KZ X id r)(ho:PE X o to)(ha:PA X (e::es) t)
 (hbase:attributeBase o name X.env (eval o X.env)=eval o X.env:=by rfl)
 (hfew:((backTo cpos (starEach (e::es) X.env)).all (fun x => !x.1) && (backToKw cpos (keywordEach [] X.env)).all (fun x=>x.1.isSome)
  && decide ((e::es).length+([]:List Keyword).length+(if ([]:List Keyword).isEmpty then 0 else 1)<30))=true:=by rfl)
 (hline:(apos.endLine == cpos.line)=true:=by rfl) (hs:starEach (e::es) X.env=(false,eval e X.env)::starEach es X.env:=by rfl) (hplain:(backTo cpos (starEach es X.env)).any (·.1)=false:=by rfl) :
 PE X (.Call (.Attribute o name apos) (e::es) [] cpos) (DE X.K T r to t):=by
 intro pins s σ H Q I h
 refine wpAny_Call_method_late hbase hfew hline rfl (aI (ho pins s σ H _ I h) fun v s1 zq=>?_)
 obtain⟨x,H1,I1,r1,ty,q1⟩:=zq
 obtain⟨h1,h2⟩:=Ld I1 r1 ty
 refine⟨T,id,pa,slot,hty,h1,h2,?_⟩
 have hA:=ha cpos pins s1 σ H1 _ I1 q1
 rw[hs] at hA ⊢
 refine Calls.callWith_builtin (by show(false || (backTo cpos (starEach es X.env)).any (·.1))=false;rw[hplain]<;>rfl) (Calls.evalArgs_plain ?_)
 exact aI hA fun us s2 ⟨vs,H2,I2,r2,q2⟩=>hm pins s2 σ H2 x vs v us Q I2 r1 r2 q2
end
def Le(X:Cx)(id:String)(r:V->List V->Hp->VK->Prop):Prop :=
 ∀ (pins:List (Addr×Obj)) (s:Shared) (σ:St) (H:Hp) (x:V) (xs:List V) (v:Value) (us:List Value) (Q:VK),Inv X pins σ H s->RelV x v->Vals xs us->r x xs H Q ->
  wpAny (model X.prog X.w) X.A (call (.builtin id) (v::us)) (EP X pins σ Q) X.xe s
theorem Vals.one(h:Vals [x] us):∃ u,us=[u]/\RelV x u:=by
 rcases h with _ | ⟨r,⟨⟩⟩
 exact⟨_,rfl,r⟩
theorem Vals.two(h:Vals [x,y] us):∃ u v,us=[u,v]/\RelV x u/\RelV y v:=by
 rcases h with _ | ⟨r,_ | ⟨q,⟨⟩⟩⟩
 exact⟨_,_,rfl,r,q⟩
theorem Vals.rep(h:Vals xs us):∀ k:Nat,Vals (List.replicate k xs).flatten (List.replicate k us).flatten
 | 0=>.nil
 |k+1=>by
   rw[qbq,qbq,List.flatten_cons,List.flatten_cons]
   exact Vals.append h (Vals.rep h k)
theorem foldl_rep(its:List Value):∀ (k:Nat) (acc:List Value),
 List.foldl (fun x1 x2=>x1++x2) acc.toArray (List.replicate k its.toArray)=(acc++(List.replicate k its).flatten).toArray
 | 0,acc=>by simp
 |k+1,acc=>by
   have e:acc.toArray++its.toArray=(acc++its).toArray:=by simp
   have e2:(acc++its)++(List.replicate k its).flatten=acc++(List.replicate (k+1) its).flatten:=by
    rw[qbq,List.flatten_cons,qaM]
   rw[<- e2, <- foldl_rep its k (acc++its), <- e,qbq,List.foldl_cons]
section
variable{X:Cx}{pins:List (Addr×Obj)}{σ:St}{H:Hp}{s:Shared}{l b:Addr}{xs ys zs:List V}
theorem Inv.ym{its its':List Value}(I:Inv X pins σ H s)(hH:H l=some (.lst xs))
 (e:s.heap.get? l=some { cls:=.type "list",data:=.seq its.toArray n }) (hf:f its.toArray=its'.toArray) (hv:Vals ys its') (hz:ys.length<=sizeLine) :
 Inv X pins σ (upd H l (.lst ys)) { s with heap:=s.heap.update l (Obj.mapSeq f),toks:=t' }:=by
 have q:=PySem.IsL.update e f
 rw[hf] at q
 refine I.write (x:=l) (e:=l) (by rw[hH];exact trivial) (.inl rfl) (fun b' u hb hu=>(qaF s.heap (Obj.mapSeq f) (qaT hb)).trans hu) ⟨_,q⟩ ?_
 exact⟨hz,its',_,hv,q⟩
theorem Inv.oy(I:Inv X pins σ H s)(hv:Vals ys its)(hz:ys.length<=sizeLine) :
 Inv X pins σ (upd H s.heap.objs.size (.lst ys)) { s with heap:=s.heap.push { cls:=.type "list",data:=.seq its.toArray },toks:=t' } :=
 I.laid (fun _ _ q=>qab _ q) (qag _) ⟨hz,its,0,hv,qah _ rfl⟩
theorem Inv.fresh(I:Inv X pins σ H s):H s.heap.objs.size=none:=I.hok.fresh (qag _)
theorem Inv.aO(I:Inv X pins σ H s)(hH:H l=some (.lst xs)):xs.length<=sizeLine/\∃ (its:List Value) (n:Nat),Vals xs its/\xs.length=its.length/\s.heap.get? l=some { cls:=.type "list",data:=.seq its.toArray n }:=by
 obtain⟨z,its,n,r,e⟩:=I.hok l _ hH
 exact⟨z,its,n,r,r.length,e⟩
theorem Lf(h:n<=sizeLine):Builtin.List.listTooLong n=false:=by
 unfold Builtin.List.listTooLong
 exact qaU (by omega)
end
section
variable{X:Cx}
def DG:V->List V->Hp->VK->Prop:=fun x vs H Q=>∃ l xs y,x = .ref l/\vs=[y]/\H l=some (.lst xs)/\xs.length<sizeLine/\Q .av (upd H l (.lst (xs++[y])))
theorem yn:Le X "list.append" DG:=by
 intro pins s σ H x vs v us Q I rx rv h
 obtain⟨l,xs,y,rfl,rfl,hH,hz,q⟩:=h
 cases rx
 obtain⟨u,rfl,ru⟩:=rv.one
 obtain⟨z,its,n,r,hl,e⟩:=I.aO hH
 refine call_meets F.slot_list_append ⟨_,e,rfl⟩ F.entry_list_append (F.args_list_append_2 _ _) (PySem.list_append l its.toArray n u (by rw[qaP];omega)) ⟨e,?_⟩
 refine⟨.av,_,I.ym (its':=its++[u]) hH e (by simp) (r.append (.cons ru .nil)) ?_,rfl,q⟩
 rw[qaq,List.length_singleton]
 omega
def DH:R2:=fun x y H Q=>∃ l b xs zs,x = .ref l/\y = .ref b/\H l=some (.lst xs)/\H b=some (.lst zs)/\xs.length+zs.length<=sizeLine/\∀ p,H p=none->Q (.ref p) (upd H p (.lst (xs++zs)))
theorem oz:bw X (binaryOp .Add) DH:=by
 intro pins s σ H x y v u Q I rx ry h
 obtain⟨l,b,xs,zs,rfl,rfl,hH,hB,hz,q⟩:=h
 cases rx
 cases ry
 obtain⟨z,its,n,r,hl,e⟩:=I.aO hH
 obtain⟨z2,its2,n2,r2,hl2,e2⟩:=I.aO hB
 refine PySem.P.add_list e e2 ?_ (by rw[qaP,qaP];omega)
 have ea:its.toArray++its2.toArray=(its++its2).toArray:=by simp
 rw[ea]
 exact⟨.ref _,_,I.oy (t':=s.toks) (r.append r2) (by rw[qaq];omega),rfl,q _ I.fresh⟩
def DI:R2:=fun x y H Q=>∃ l k xs,x = .ref l/\y = .int k/\H l=some (.lst xs) /\ -(2 ^ 63)<=k/\k<2 ^ 63/\xs.length * k.toNat<=sizeLine /\
 ∀ p,H p=none->Q (.ref p) (upd H p (.lst (List.replicate k.toNat xs).flatten))
theorem len_rep{α:Type}(xs:List α)(k:Nat):(List.replicate k xs).flatten.length=k * xs.length:=by
 induction k with
 |zero=>simp
 |succ k ih=>rw[qbq,List.flatten_cons,qaq,ih,Nat.succ_mul,Nat.add_comm]
theorem DJ:bw X (binaryOp .Mult) DI:=by
 intro pins s σ H x y v u Q I rx ry h
 obtain⟨l,k,xs,rfl,rfl,hH,h1,h2,hz,q⟩:=h
 cases rx
 obtain⟨t,rfl⟩:=ry
 obtain⟨z,its,n,r,hl,e⟩:=I.aO hH
 have hlen:its.toArray.size * k.toNat<=sizeLine:=by rw[qaP, <- hl];exact hz
 have yo : ¬ its.toArray.size * k.toNat > (2 ^ 63 - 1) / 8:=by
  have:(sizeLine:Nat)<=(2 ^ 63 - 1) / 8:=by decide
  omega
 have hfit : ¬ (!Builtin.List.listFitsIndex k)=true:=by
  rw[fitsIndex_both h1 h2]
  exact qap
 have rZ : ¬ Builtin.List.listTooLong (its.toArray.size * k.toNat)=true:=by
  rw[Lf hlen]
  exact qap
 have hnew:List.foldl (fun x1 x2=>x1++x2) #[] (List.replicate (if its.toArray.isEmpty=true then 0 else k.toNat) its.toArray)=(List.replicate k.toNat its).flatten.toArray:=by
  have f0:∀ m:Nat,List.foldl (fun x1 x2=>x1++x2) #[] (List.replicate m its.toArray)=(List.replicate m its).flatten.toArray:=fun m=>by
   have:=foldl_rep its m []
   rw[List.nil_append] at this
   exact this
  rw[f0]
  cases its with
  |nil=>simp
  |cons a r'=>rw[qaz (by simp)]
 refine wpAny_binaryOp_repeat_ref (T := "list") (U := "int") (by decide) ⟨_,e,rfl⟩ (fun s'=>typeIs_int s' k t) noFill_list_mul F.fills_int_mul F.slot_int_rmul repeat_list F.slot_int_index.lookup
  (call_meets F.slot_int_rmul (typeIs_int s k t) F.entry_int_rmul (F.args_int_rmul_2 _ _) (int___rmul___int_list k t l its.toArray n)
   ⟨e,rfl,⟨_,e,rfl⟩,call_meets F.slot_list_mul ⟨_,e,rfl⟩ F.entry_list_mul (F.args_list_mul_2 _ _) (AutoListH.list___mul___list_int_3 l its.toArray n k t hfit yo rZ) ⟨e,?_⟩⟩)
 rw[hnew]
 exact⟨.ref _,_,I.oy (t':=s.toks) (r.rep k.toNat) (by rw[len_rep,Nat.mul_comm];exact hz),rfl,q _ I.fresh⟩
end
end L2
namespace DK
open PySem PySem.W PySem.Calls PyProof.Rows
theorem Lg:∀ (ns:List Int) (vs:List Value),WellAll P h vs (ns.map WData.int)->IntsAre vs ns:=by
 intro ns
 induction ns with
 |nil =>
   intro vs w
   rw[List.map_nil] at w
   cases w
   exact .nil
 |cons n ns ih =>
   intro vs w
   rw[qaV] at w
   cases w with
   |cons a b =>
     cases a
     exact .cons _ _ (ih _ b)
theorem Lh{l:OpenLaw}(hn:l.most=some n)
 (hpre:l.row.toRowW.claim.pre args=true) (hwl:WellAll P h vals args) :
 ∃ a vs ns,vals=[Value.ref a]/\args=[WData.list (ns.map WData.int)]/\h.get? a=some { cls:=.type "list",data:=.seq vs.toArray }/\IntsAre vs ns/\ns.length<=n:=by
 have hsh:WShape.hasAll [] args [.list .int]=true:=(pre_splitW hpre).1
 have hc:l.pre.holds [] { args:=args }=true:=(pre_splitW hpre).2
 obtain⟨d,r,rfl,h1,h2⟩:=hasAllW_cons hsh
 obtain rfl:=hasAllW_nil h2
 obtain⟨xs,rfl,h3⟩:=hasW_list h1
 obtain⟨ns,rfl⟩:=items_int h3
 have hlen:ns.length<=n:=by
  unfold OpenLaw.pre at hc
  have h4:(WTm.not (.lt (.lit (.int (n:Int))) (.len (.arg 0)))).holds [] { args:=[.list (ns.map .int)] }=true:=by
   have h4:=(holds_andW hc).1
   rw[hn] at h4
   exact h4
  have h5:=condW_of h4 (w_not (w_lt w_lit (w_len_list (w_arg rfl))))
  rw[qaK] at h5
  refine Nat.le_of_not_lt fun q=>?_
  have q':(n:Int)<((ns.length:Nat):Int):=by omega
  first
   | (rw[qaG q'] at h5;exact absurd h5 (by decide))
   | (simp at h5;omega)
 cases hwl with
 |cons w1 w2 =>
   cases w2
   cases w1 with
   |list ho hall=>exact⟨_,_,ns,rfl,rfl,ho,Lg ns _ hall,hlen⟩
theorem Li(l:OpenLaw)(args:List WData):l.row.toRowW.claim.post args (.bool true) args=true :=
 postW_of (r:=l.row.toRowW) (X:=(true == true))
  (show WShape.has [] (.bool true) .bool=true by first | rfl | decide | simp[WShape.has,WShape.arms,WShape.armsAll])
  (show(WTm.eq .res (.lit (.bool true))).value [] { args:=args,res:=some (.bool true),after:=args }=some (.bool (true == true)) from w_eq_bool (w_res rfl) w_lit) rfl
theorem gH{l:OpenLaw}{d:DefRec}
 (hn:l.most=some n) (hdf:d.params.defaults=[])
 (call:∀ (w:World) (s₀ ay:Shared) (mg mb:Str->Option Value) (fa:Addr) (o:Obj) (pm cd doc:Value) (a:Addr) (vs:List Value) (ns:List Int),
  Ground q loose [] XP w s₀ mg mb ay.heap->YP w ay.heap ->
  ay.heap.get? fa=some o->o.data = .func (docDef d.name d.params d.body d.scope pm cd doc)->ay.heap.CodeRec cd d.name->mg d.name=some (.ref fa) ->
  ay.heap.get? a=some { cls:=.type "list",data:=.seq vs.toArray }->IntsAre vs ns->ns.length<=n->ay.gens = #[] ->
  codeAny (model l.prog w) callerA (.call (.ref fa) ⟨[.ref a],[]⟩) (fun r s'=>r = .ok (.ret (.bool true))/\OldK ay.heap s'.heap/\s'.os=ay.os/\AllBare s'.gens) ay) :
 WalkO q loose XP YP l.row.toRowW d [] (fun f vs=>PySem.call f vs):=by
 intro w s₀ ay mg mb G Y fa o pm cd doc dV kV ho hd hcd hD hmg hg args vals as hpre hlay hrd hwl hlo
 obtain rfl:dV = .none:=Dflts.none hD hdf
 obtain rfl:kV = .none:=Dflts.noKw hD
 obtain⟨a,vs,ns,rfl,rfl,hobj,hints,hlen⟩:=Lh hn hpre hwl
 refine enter_call (codeAny_mono (call w s₀ ay mg mb fa o pm cd doc a vs ns G Y ho (fd_plain hd) hcd hmg hobj hints hlen hg) fun r s' hq=>?_)
 obtain⟨rfl,h2,h3,h4⟩:=hq
 exact⟨.inl ⟨.bool true,.bool true,[],rfl,fun _=>rfl,.bool true,Li l _,fun _=>⟨List.Pairwise.nil,fun _ hm=>(nomatch hm)⟩⟩,h2,h3,h4⟩
end DK
namespace L2
open PySem PySem.Spec PyProof.Rows
theorem DL:∀ {vs:List Value} {ns:List Int},IntsAre vs ns->Vals (ns.map V.int) vs
 | _,_,.nil=>.nil
 | _,_,.cons n t h=>.cons ⟨t,rfl⟩ (DL h)
def yp(H:Hp):Prop:=∀ b,H b=none\/∃ o xs,H b=some (.ai o (.lst xs))
theorem Lj{K:W.Frag}{ay:Shared}{vs:List Value}
 (KX:K.In ay.heap) (hns:ay.heap.Ns mainGlobals mg) (hb:ay.heap.Ns builtinsNs mb) (Lk:∀ x:Str,x ≠ "__name__" -> mb x=bootBuiltins x) (hlim:ay.heap.NoLimit) (hg:ay.gens = #[])
 (ha:ay.heap.get? a=some { cls:=.type "list",data:=.seq vs.toArray }) (hi:IntsAre vs ns) (hl:ns.length<=sizeLine) (hr:aj k callerA)
 (F:∀ base:Heap,K.In base->base.Ns mainGlobals mg->aD P w K mg base CX k fa fd [x] sp) (hbind:∀ (s:Shared) (u:Value),BindsTo s fd ⟨[u],[]⟩ [(x,u)])
 (hsp:∀ H:Hp,yp H->aZ K H a (ns.map V.int)->sp [.ref a] H (fun v _=>v = .bl true) fun _ _ _=>False)
 (yq:∀ H e s',CX [] H ay (fun _ _ _=>False) e s'->False) :
 codeAny (model P w) callerA (.call (.ref fa) ⟨[.ref a],[]⟩) (fun r s'=>r = .ok (.ret (.bool true))/\OldK ay.heap s'.heap/\s'.os=ay.os/\AllBare s'.gens) ay:=by
 have rv:=DL hi
 have lenV:=hi.length
 have core:∀ H:Hp,yp H->aZ K H a (ns.map V.int)->bY P w H ay.heap->(∀ b,H b≠none->b=a)->(H a≠none->K.lookup a=none) ->
  codeAny (model P w) callerA (.call (.ref fa) ⟨[.ref a],[]⟩) (fun r s'=>r = .ok (.ret (.bool true))/\OldK ay.heap s'.heap/\s'.os=ay.os/\AllBare s'.gens) ay:=by
  intro H hO hS hok hA hK
  have iQ:∀ {b:Addr} {o:Obj},ay.heap.get? b=some o->H b=none->(lR ay.heap H).get? b=some o:=fun e n=>Jv e n
  have rY:∀ {b:Addr} {o:Obj} {es:Array DictEntry} {ep:Nat},ay.heap.get? b=some o->o.data = .dict es ep->H b=none:=fun {b o es ep} e d=>by
   cases q:H b with
   |none=>rfl
   |some u =>
     have e':b=a:=hA b (by rw[q];simp)
     subst e'
     rw[ha] at e;cases e
     have d':Data.seq vs.toArray _=Data.dict es ep:=d
     cases d'
  have uV:∀ {b:Addr} {m:Str->Option Value},ay.heap.Ns b m->(lR ay.heap H).Ns b m:=fun {b m} ⟨o,es,ep,e,d,r⟩=>⟨o,es,ep,iQ e (rY e d),d,r⟩
  have DM:K.In (lR ay.heap H):=fun b o e=>iQ (KX b o e) (by
   cases q:H b with
   |none=>rfl
   |some u =>
     have e':b=a:=hA b (by rw[q];simp)
     subst e'
     rw[hK (by rw[q];simp)] at e;cases e)
  have hM:Mod K mg (lR ay.heap H):=⟨DM,uV hns,⟨mb,uV hb,Lk⟩,let ⟨mc,h1,h2⟩:=hlim; ⟨mc,uV h1,h2⟩⟩
  have e0:dP P w K mg (lR ay.heap H) callerA [] ay H:=⟨rfl,hM,fun b o e=>Jw e,Nat.le_of_eq (Ju _ _),trivial,fun b hb=>absurd (show b∈([]:List Addr) from hb) (by simp),hok,.of_eq hg⟩
  refine codeAny_mono ((F _ DM (uV hns)).run callerA [] ay H ⟨[.ref a],[]⟩ [.ref a] [.ref a] _ _ hr e0 (hbind ay (.ref a)) (.cons rfl .nil) (hsp H hO hS)) fun r s' h=>?_
  cases r with
  |error e=>exact(yq H e s' h).elim
  |ok fl =>
    cases fl with
    |next=>exact False.elim h
    |brk=>exact False.elim h
    |cont=>exact False.elim h
    |ret u =>
      obtain⟨v,H',os,bare,un,hok',r',q⟩:=h
      have q':v = .bl true:=q
      subst q'
      obtain rfl:u=Value.bool true:=r'
      refine⟨rfl,OldK.of_keep fun b o e=>?_,os,bare⟩
      cases q:H b with
      |none=>exact un.keep b o e q (by intro z;exact absurd (show b∈([]:List Addr) from z) (by simp)) (by simp)
      |some u =>
        rcases hO b with z | ⟨ob,xs,z⟩
        · rw[q] at z;cases z
        · have z2:=un.d7 b ob _ z
          obtain⟨e1,_⟩:=hok b _ z
          obtain⟨e2,_⟩:=hok' b _ z2
          rw[e] at e1;cases e1
          exact e2
 cases hk:K.lookup a with
 |some o =>
   have e:=KX a o hk
   rw[ha] at e
   cases e
   refine core (fun _=>none) (fun _=>.inl rfl) (.inr ⟨_,vs.toArray,_,hk,rfl,rfl,rfl,by rw[qaP,lenV];exact hl,by simpa using rv⟩) (fun b u z=>by have z':(none:Option HO)=some u:=z;cases z') (fun b z=>absurd rfl z) fun z=>absurd rfl z
 |none =>
   refine core (fun b=>if b=a then some (.ai { cls:=.type "list",data:=.seq vs.toArray } (.lst (ns.map V.int))) else none) (fun b=>?_) (.inl (.inr ⟨{ cls:=.type "list",data:=.seq vs.toArray },qay rfl⟩)) (fun b u z=>?_) (fun b z=>?_) fun _=>hk
   · by_cases hb:b=a
     · exact .inr ⟨_,_,qay hb⟩
     · exact .inl (qaz hb)
   · by_cases hb:b=a
     · have z':=(qay hb).symm.trans z
       cases z'
       subst hb
       exact⟨ha,by rw[qaK];exact hl,vs,_,rv,ha⟩
     · have z':=(qaz hb).symm.trans z
       cases z'
   · by_cases hb:b=a
     · exact hb
     · exact absurd (qaz hb) z
theorem l8{l:W.OpenLaw}{n k:Nat}{q:Program}{loose:List Str}{XP:(Str->Option Value)->Heap->Prop}{YP:World->Heap->Prop}{d:DefRec}{K:Params->W.Frag}{CX:World->j8}{sp:World->Sp}{x:Str}
 (hn:l.most=some n) (hn2:n<=sizeLine) (hdf:d.params.defaults=[]) (hr:aj k callerA)
 (hY:∀ (w:World) (h:Heap),YP w h->(K w.params).In h)
 (F:∀ (w:World) (mg:Str->Option Value) (fa:Addr) (h:Heap),(K w.params).In h->h.Ns mainGlobals mg->mg d.name=some (.ref fa) ->
  ∃ fd:FuncData,(∀ (s:Shared) (u:Value),BindsTo s fd ⟨[u],[]⟩ [(x,u)]) /\
   ∀ base:Heap,(K w.params).In base->base.Ns mainGlobals mg->aD l.prog w (K w.params) mg base (CX w) k fa fd [x] (sp w))
 (hsp:∀ (w:World) (H:Hp) (a:Addr) (ns:List Int),ns.length<=n->yp H->aZ (K w.params) H a (ns.map V.int)->sp w [.ref a] H (fun v _=>v = .bl true) fun _ _ _=>False)
 (yq:∀ (w:World) (H:Hp) (s:Shared) (e:Value) (s':Shared),CX w [] H s (fun _ _ _=>False) e s'->False) :
 W.WalkO q loose XP YP l.row.toRowW d [] (fun f vs=>PySem.call f vs):=by
 refine DK.gH hn hdf fun w s₀ ay mg mb fa o pm cd doc a vs ns G Y ho hd hcd hmg hobj hints hlen hg=>?_
 have KX:=hY w _ Y
 obtain⟨fd,hb,hF⟩:=F w mg fa _ KX G.T.g hmg
 exact Lj KX G.T.g G.T.b G.T.builtins G.T.nolimit hg hobj hints (qa2 hlen hn2) hr hF hb (fun H hO hS=>hsp w H a ns hlen hO hS) fun H e s'=>yq w H ay e s'
noncomputable def inClass(s:Stmt)(j:Nat):Stmt:=match s with
 | .ClassDef _ _ _ body _ _ _ _ _ _ _=>body.getD j (.Pass ⟨0,0,0,0⟩)
 | _=>.Pass ⟨0,0,0,0⟩
noncomputable def aP(s:Stmt):Arguments:=match s with
 | .FunctionDef _ a _ _ _ _ _ _ _ _=>a
 | _=>{ posonlyargs:=[],args:=[],vararg:=none,kwonlyargs:=[],kw_defaults:=[],kwarg:=none,defaults:=[] }
noncomputable def af(s:Stmt):List Stmt:=match s with
 | .FunctionDef _ _ b _ _ _ _ _ _ _=>b
 | _=>[]
noncomputable def aa(s:Stmt):Scope:=match s with
 | .FunctionDef _ _ _ _ _ _ sc _ _ _=>sc
 | _=>{ kind:=.function,names:=[],isGenerator:=false,isCoroutine:=false }
abbrev bZ:j8:=fun _ _ _ _ _ _=>False
abbrev E0:XK:=fun _ _ _=>False
theorem yr:uU bZ X E0:=fun _ _ _ _ _ _ _ h=>h.elim
structure ix(K:W.Frag)(x qual:Str)(st:Stmt)(f:Addr)(fd:FuncData):Prop where
 ex:∃ (oc:Value) (od:Option Addr) (kV doc pm:Value) (an:Option Addr) (cdv ct:Value) (osl:Array (Option Value)),
  fd=W.fnOf x qual (aP st) (af st) (aa st) .none kV doc pm an cdv ct/\K.lookup f=some ⟨oc,od,.func fd,osl⟩/\W.codeIn K cdv qual=true
 kp:W.keepIn K (.ref f)=true
section
variable{P:Program}{w:World}{K:W.Frag}{mg:Str->Option Value}{base:Heap}
theorem ix.ok{x qual:Str}{st:Stmt}{f:Addr}{fd:FuncData}{N ps:List Str}{k:Nat}{sp:Sp}(F:ix K x qual st f fd)(S:ak N ps (aa st))(len:∀ vs H Q E,sp vs H Q E->vs.length=ps.length)
 (hbody:∀ (cdv:Value) (A:Around) (outer:List Env) (s:Shared) (H:Hp) (vs:List V) (Q:VK) (E:XK),aj k (A.deeper (envOfC qual (aa st) s.heap.objs.size f cdv))->sp vs H Q E ->
  ∃ t,PSs (fZ bZ P w K mg base N qual (aa st) f cdv A outer s H E).k9 (af st) t/\t { nx:=fun _ H'=>Q .av H',rt:=Q } (start N vs) H):aD P w K mg base bZ (k+1) f fd ps sp:=by
 obtain⟨oc,od,kV,doc,pm,an,cdv,ct,osl,rfl,lk,hcd⟩:=F.ex
 refine yg lk hcd S len fun A outer s H vs Q E hr hsp=>?_
 obtain⟨t,h,q⟩:=hbody cdv A outer s H vs Q E hr hsp
 exact⟨t,h.k9,q⟩
theorem ix.binds{x qual:Str}{st:Stmt}{f:Addr}{fd:FuncData}{ps:List Str}(F:ix K x qual st f fd)
 (h:∀ (kV doc pm:Value) (an:Option Addr) (cdv ct:Value) (us:List Value),us.length=ps.length->bindArgs (W.fnOf x qual (aP st) (af st) (aa st) .none kV doc pm an cdv ct) ⟨us,[]⟩=pure (ps.zip us)):Binds K fd ps []:=by
 obtain⟨oc,od,kV,doc,pm,an,cdv,ct,osl,rfl,lk,hcd⟩:=F.ex
 exact .all (h kV doc pm an cdv ct)
theorem j_{x qual:Str}{st:Stmt}{f:Addr}{oc:Value}{od an:Option Addr}{osl:Array (Option Value)}{kV doc pm cdv ct:Value}(l:K.lookup f=some ⟨oc,od,.func (W.fnOf x qual (aP st) (af st) (aa st) .none kV doc pm an cdv ct),osl⟩)
 (c:W.codeIn K cdv qual=true) (k:W.keepIn K (.ref f)=true):ix K x qual st f (W.fnOf x qual (aP st) (af st) (aa st) .none kV doc pm an cdv ct):=⟨⟨oc,od,kV,doc,pm,an,cdv,ct,osl,rfl,l,c⟩,k⟩
end
section
variable{X:Cx}
theorem pv(i:Nat){x:Str}{pos:Pos}(hN:X.N[i]? = some x:=by rfl)(hv:rM X.env.scope x:=by first | exact Or.inl rfl | exact Or.inr (Or.inl rfl) | exact Or.inr (Or.inr rfl))(hd:(x == ("__debug__" : Str))=false:=by decide)
 (hcd:(x == ("__classdict__" : Str))=false:=by decide):PE X (.Name x pos) (n8 i):=CG hN hv hd hcd
end
theorem oA{A B:Prop}(h:B):if false=true then A else B:=by
 rw[qaz qap]
 exact h
theorem oB{A B:Prop}(h:A):if true=true then A else B:=by
 rw[qay rfl]
 exact h
def ae(H H':Hp):Prop:=∀ b o,H b=some o->H' b=some o
theorem ae.refl(H:Hp):ae H H:=fun _ _ h=>h
theorem ae.trans(a:ae H H1)(b:ae H1 H2):ae H H2:=fun c o h=>b c o (a c o h)
theorem ae.free(e:ae H H')(h:H' l=Option.none):H l=Option.none:=by
 cases q:H l with
 |none=>rfl
 |some o =>
   rw[e l o q] at h
   cases h
theorem ae.seq{K:W.Frag}{H H':Hp}{a:Addr}{xs:List V}(e:ae H H')(h:aZ K H a xs):aZ K H' a xs:=by
 rcases h with (h | ⟨o,h⟩) | h
 · exact .inl (.inl (e _ _ h))
 · exact .inl (.inr ⟨o,e _ _ h⟩)
 · exact .inr h
end L2
namespace Ex
open PySem PySem.Spec PyProof.Rows PySem.W
structure XB(B ini:String)(up:List Value):Prop where
 mroIs:mroOf (.type B)=pure up
 hasB:up.contains (.type B)=true
 noAttr:up.contains (.type "AttributeError")=false
 noName:up.contains (.type "NameError")=false
 slot:Slot B "__init__" ini
 entry:entryFor table ini=some Builtin.«BaseException.__init__»
 split:splitId ini=some (B,"__init__")
 kind:builtinKind ini=some .slot
 row:Manifest.signature? ini=some ⟨.positional,"*",B,.self,[⟨"args",.varPos,false⟩]⟩
 star:(B != "*")=true
theorem XB.of(f:ExcBaseFacts B nw ini up):XB B ini up:=⟨f.mroIs,f.hasB,f.noAttr,f.noName,f.init,f.initEntry,f.initSplit,f.initKind,f.initRow,f.noStar⟩
theorem Ll:Slot "KeyError" "__init__" "KeyError.__init__" := by
 apply Slot.of (owner := "KeyError") (n := "__init__")
 case hl=>rw[typeLookup_type,builtinLookup_eq_fast];kernel_rfl
 all_goals first | decide +kernel | exact .inl (by decide +kernel) | exact .inr (by decide +kernel) | (rw[isSubtype_type];kernel_rfl)
theorem Lm:XB "KeyError" "KeyError.__init__" [.type "KeyError",.type "LookupError",.type "Exception",.type "BaseException",.type "object"]:=by
 refine⟨?_,?_,?_,?_,Ll,?_,?_,?_,?_,?_⟩
 case refine_1=>rw[mroOf_type];kernel_rfl
 case refine_5 =>
  apply entryFor_alias (id' := "BaseException.__init__")
  all_goals first | decide +kernel | (rw[fastTable_eq_tree];kernel_rfl) | rfl
 all_goals first | decide +kernel | kernel_rfl
def qp(h:Heap)(C:Addr)(as:List Value):Heap :=
 (h.push { cls:=.type "tuple",data:=.seq as.toArray }).push { cls:=.ref C,data:=.fields #[.ref h.objs.size,.none,.none,.none,.bool false,.none] }
theorem uW{h:Heap}:∀ b o,h.get? b=some o->(qp h C as).get? b=some o:=fun b o e=>qab _ (qab _ e)
theorem DN:(qp h C as).get? (h.objs.size+1)=some { cls:=.ref C,data:=.fields #[.ref h.objs.size,.none,.none,.none,.bool false,.none] } :=
 Heap.get?_push_at (by rw[qbF]) rfl
section
variable{prog:Program}{w:World}{A:Around}{E:Value->Shared->Prop}{h:Heap}{g:Array GenState}{d:Drawn}{t:Nat}{os:OsState}{nm qn:Str}{C N:Addr}{bs tl up un:List Value}{hd:Bool}{sn:List Str}{sub:List Value}{ab:Bool}{col:Option Bool}
 {dd:Option Addr} {j0 j1 j2 j3 j5:Option Value} {B D nw ini l9:String} {K:Frag} {fI:Addr} {as:List Value}
theorem Ln(fn:ExcBaseFacts D nw l9 un)(hD:up.contains (.type D)=true)(F:XB B ini up)(T:OwnTail h up tl)(hC:h.get? C=some (excClassObj nm qn C N bs tl hd sn sub ab col dd j0 j1 j2 j3 j5 nw))
 (hl:as.length<=sizeLine) (q:R (.ok (.ret (.ref (h.objs.size+1)))) ⟨qp h C as,g,d,t,os⟩):codeAny (model prog w) A (.builtin nw ⟨.ref C::as,[]⟩) R ⟨h,g,d,t,os⟩:=by
 have isIn:∀ {n:String} {b:Bool},up.contains (.type n)=b->(Value.ref C::tl).contains (.type n)=b:=fun {n b} e=>by rw[List.contains_cons,T.hasType e];exact Bool.false_or _
 have c1:=isIn hD;have c2:=isIn F.noAttr;have c3:=isIn F.noName;have ends:=fn.ends
 apply codeAny_builtinAt fn.entry
 delta Builtin.«BaseException.__new__»
 apply PySem.wpAt_bind
 change PySem.wpAt _ _ _ (stack >>= _) _ _ _
 apply PySem.wpAt_bind;apply PySem.wpAt_stack;intro p below;apply PySem.wpAt_of_wpAny
 wp_walk
 apply PySem.wpAt_of_wpAny
 rw[fn.owner]
 repeat (first
  | (with_reducible apply wpAny_madeHere_exc fn.canon hC)
  | (with_reducible apply qbE hC)
  | (with_reducible apply wpAny_isSubtype_exc hC;first | rw[c1] | rw[c2] | rw[c3])
  |wp_step)
 change R _ _
 rw[qbF]
 exact q
theorem Lo(fn:ExcBaseFacts D nw l9 un)(hD:up.contains (.type D)=true)(F:XB B ini up)(T:OwnTail h up tl)(X:K.In h)(hC:h.get? C=some (excClassObj nm qn C N bs tl hd sn sub ab col dd j0 j1 j2 j3 j5 nw))
 (at_:findIn K (.ref C) "__init__" = some (some iv)) (bd:Looks (model prog w) (qp h C as) (bindSpecial iv (.ref (h.objs.size+1))) (iv,[.ref (h.objs.size+1)])) (hl:as.length<=sizeLine)
 (q:wpAny (model prog w) (A.under (.builtin "type.__call__" ⟨.ref C::as,[]⟩)) (call iv (.ref (h.objs.size+1)::as)) (fun r s'=>r = .none/\Q (.ref (h.objs.size+1)) s') E ⟨qp h C as,g,d,t,os⟩) :
 wpAny (model prog w) A (call (.ref C) as) Q E ⟨h,g,d,t,os⟩:=by
 have look:=tc_lookup;have bnd:=tc_bind (.ref C)
 have tyC:(⟨h,g,d,t,os⟩:Shared).TypeIs (.ref C) "type" := ⟨_,hC,rfl⟩
 have X':K.In (qp h C as):=X.keeps uW
 have hC':=uW (as:=as) (C:=C) _ _ hC
 have self:(Value.ref C::tl).contains (.ref C)=true:=by rw[List.contains_cons,beq_self_eq_true];exact Bool.true_or _
 apply wpAny_call;apply codeAny_of_tree
 change wpAny _ _ (callAny (.ref C) _) _ _ _
 repeat (any_goals (first | assumption | (with_reducible apply qbE hC) | wp_step))
 constructor
 · rfl
 apply codeAny_call_builtin_at (Code.quiet_builtin _ (by decide +kernel)) entry_typeCall
 apply wpAny_check_type_call_sub hC
 repeat (first | (with_reducible apply qbE hC) | (with_reducible apply wpAny_madeBy_exc hC) | wp_step)
 apply codeAny_call_builtin_code (Code.quiet_builtin _ fn.quiet)
 apply wpAny_check_new_subU fn hD T hC
 apply Ln fn hD F T hC hl
 change wpAny _ _ _ _ _ _
 delta isInstance
 repeat (first | (with_reducible apply qbE DN) | (with_reducible apply wpAny_isSubtype_exc hC';rw[self]) | wp_step)
 change wpAny _ _ (typeLookup (.ref C) _) _ _ _
 apply (looks_findIn X' at_).here (s:=⟨_,g,d,t,os⟩)
 apply qaY;apply qaa
 apply bd.here (s:=⟨_,g,d,t,os⟩)
 apply qaa
 apply qao q
 · rintro r s' ⟨rfl,k⟩
   wp_walk
   exact k
 · exact fun _ _ z=>z
end
end Ex
namespace Ex
open PySem PySem.Spec PyProof.Rows PySem.W PySem.Calls Builtin Builtin.ObjectAttr
structure XC(K:Frag)(C:Addr):Prop where
 ga:findIn K (.ref C) "__getattribute__" = some (some (.builtin "BaseException.__getattribute__"))
 gt:findIn K (.ref C) "__getattr__" = some none
 sa:findIn K (.ref C) "__setattr__" = some (some (.builtin "object.__setattr__"))
 be:mroIn K C (.type "BaseException")=some true
 ob:mroIn K C (.type "object")=some true
 pass:∃ cd,clsIn K C=some cd/\cd.hasDict=true/\∀ self,refuseLoop self "__setattr__" cd.mro=pure ()
 ca:findIn K (.ref C) "__class__" = some (some (.builtin "object.__class__"))
 cg:specialIn K (.builtin "object.__class__") "__get__" = some (some (.builtin "getset_descriptor.__get__"))
 ct:takesIn K (.builtin "object.__class__")=some true
 kc:kitCls K (.ref C) (.ref C)=some true
section
variable{prog:Program}{w:World}{A:Around}{E:Value->Shared->Prop}{s:Shared}{K:Frag}{x C:Addr}{ox:Obj}{od:Option Obj}{n:Str}{ex fl:Bool}{tk:Tok}
theorem Lp(X:K.In s.heap)(I:InstAt s.heap x ox C od)(c:XC K C)
 (k:wpAny (model prog w) A.in1 (Builtin.«object.__getattribute__» ⟨[.ref x,.str n tk],[]⟩) (fun r s'=>∃ v,r = .done (.ret v)/\wpAny (model prog w) A (handedOut v) Q E s') (fun _ _=>False) s) :
 wpAny (model prog w) A (getAttrBy (.ref x) (.str n tk) fl ex) Q E s:=by
 have noObj:(Value.builtin "BaseException.__getattribute__" == Value.builtin "object.__getattribute__")=false:=by decide +kernel
 have SL:=PySem.F.attr_ValueError.ga
 have hook:Looks (model prog w) s.heap (hookBefore (.ref C)) none:=looks_hook X (mc:=.ref C) (show findIn K (.ref C) "__getattr__" = some none from c.gt)
 apply qaY;apply qaa;apply I.type.here;apply qaa;apply (looks_findIn X c.ga).here
 dsimp only
 rw[noObj,Bool.and_false,qaz qap]
 apply qaa;apply hook.here;apply qaa;apply qbM;apply qaY
 unfold callGetattribute
 rw[show(ex && onTheHeap (Value.builtin "BaseException.__getattribute__"))=false from Bool.and_false ex,qaz qap]
 unfold boundAndCalled
 rw[SL.bind]
 apply qaa;apply qac
 change wpAny _ _ (call (.builtin "BaseException.__getattribute__") [.ref x,.str n tk]) _ _ _
 apply wpAny_call;apply qbJ SL.plain PySem.F.entry_bexc_ga
 apply @check_slot (model prog w) A.in1 _ s "BaseException.__getattribute__" "BaseException" "__getattribute__" (.ref x) [.str n tk] []
 · decide +kernel
 · decide +kernel
 · exact I.type.andThen (looks_mroIn X c.be)
 · exact PySem.F.args_bexc_ga _ _
 · exact qao k (fun r s' ⟨v,e,z⟩=>by subst e;exact z) fun _ _ z=>z.elim
theorem Lq(X:K.In s.heap)(I:InstAt s.heap x ox C od)(c:XC K C)(q:Q (some (.ref C)) { s with toks:=s.toks+1 }):wpAny (model prog w) A (getAttr? (.ref x) "__class__") Q E s:=by
 obtain⟨cd,hc,_,_⟩:=c.pass
 have Lr:findObj K C od "__class__" = some (.bind (.builtin "getset_descriptor.__get__") (.builtin "object.__class__")):=by
  unfold findObj
  rw[hc,Option.bind_some,c.ca,Option.bind_some];dsimp only
  rw[c.cg,Option.bind_some];dsimp only
  rw[c.ct,Option.bind_some]
 apply qaa;apply wpAny_mkText;apply qaa;apply qbM
 apply Lp (s:={ s with toks:=s.toks+1 }) X I c
 delta Builtin.«object.__getattribute__»
 apply qaa;apply qac;apply qaa;apply qac
 apply qaa;apply I.type.here (s:={ s with toks:=s.toks+1 })
 apply qaa;apply (looks_find X I Lr).here (s:={ s with toks:=s.toks+1 })
 change wpAny _ _ (holding [_] (call (.builtin "getset_descriptor.__get__") [.builtin "object.__class__",.ref x,.ref C]) >>= ret) _ _ _
 apply qaa;apply qaY;apply wpAny_call
 exact class_get (s:={ s with toks:=s.toks+1 }) (ox:=ox) (od:=od) X I c.ob (qac ⟨_,rfl,handed_on rfl (qac q)⟩)
end
theorem Ls{K:Frag}{x C:Addr}(c:XC K C):KitX K (.ref x) (.ref C) (fun h=>∃ ox od,InstAt h x ox C od) where
 ty:=fun _ _ _ ⟨_,_,I⟩=>I.type
 it:=fun _ _ X _=>(kit_cls X c.kc).2.1
 ne:=fun h tp _ _ _ _ X e=>by
  obtain⟨cd,hc,_⟩:=c.pass
  cases z:(Value.ref C == Value.ref tp) with
  |false=>rfl
  |true =>
    cases qas.mp z
    unfold clsIn at hc
    split at hc
    · rename_i a
      cases (X _ _ a).symm.trans e
    · cases hc
 ca:=fun X ⟨_,_,I⟩ k=>Lq X I c k
section
variable{prog:Program}{w:World}{A:Around}{E:Value->Shared->Prop}{s:Shared}{K:Frag}{x C:Addr}{ox:Obj}{od:Option Obj}{n:Str}{v:Value}
theorem DO(X:K.In s.heap)(I:InstAt s.heap x ox C od)(c:XC K C)(none_:findIn K (.ref C) n=some none)
 (k:wpAny (model prog w) A.in1 (storeInOwnDict (.ref x) (.ref C) (.str n s.toks) n v false) (fun r s'=>∃ u,r = .done (.ret u)/\Q () s') E { s with toks:=s.toks+1 }):wpAny (model prog w) A (setAttr (.ref x) n v) Q E s:=by
 have SO:=PySem.F.store_object
 obtain⟨cd,hc,_,pass⟩:=c.pass
 apply set_plain X I c.sa
 apply qbJ SO.slot.plain SO.entry
 apply @check_slot (model prog w) A.in1 _ { s with toks:=s.toks+1 } "object.__setattr__" "object" "__setattr__" (.ref x) [.str n s.toks,v] [] _ SO.kind SO.split
 · exact I.type.andThen (looks_mroIn X c.ob)
 · exact SO.args _ _ _
 rw[osa_eq,refuse_eq]
 apply qaa;apply qaa;apply I.type.here (s:={ s with toks:=s.toks+1 })
 apply qaa;apply ((looks_clsIn X hc).andThen .now:Looks (model prog w) s.heap (mroOf (.ref C)) cd.mro).here (s:={ s with toks:=s.toks+1 })
 rw[pass]
 apply qac;apply qaa;apply I.type.here (s:={ s with toks:=s.toks+1 })
 apply qaa;apply (looks_findIn X none_).here (s:={ s with toks:=s.toks+1 })
 apply qaa;apply qac
 exact qao k (fun r s' ⟨u,e,z⟩=>by subst e;exact z) fun _ _ z=>z
theorem DP(N:s.heap.Ns1 dx mA)(W:Within mA ks)(few:ks.length<sizeLine)
 (k:∀ h' tk',Heap.SameBut dx s.heap h'->h'.Ns1 dx (fun y=>if y=n then some v else mA y)->R (.done (.ret .none)) { s with heap:=h',toks:=tk' }):wpAny (model prog w) A (storeInDict dx (.str n tk) n v) R E s:=by
 unfold storeInDict newKeyGuard;apply qaa;apply qac;apply qaa;apply wpAny_nsSet1 N
 intro h' N' sb
 obtain⟨o,es,ep,ho,hd,le⟩:=N'.count (Within.cons n v W)
 apply qaa
 apply wpAny_lookBehind ho
 · rw[hd];apply pastItsLine_dict;rw[qaD] at le;omega
 · exact qac (k h' _ sb N')
theorem DQ(hx:s.heap.get? x=some ox)(cl:ox.cls = .ref C)(hd:ox.data = .fields vs)(dict:match ox.dict,od with | some dx,some o=>s.heap.get? dx=some o | none,none=>True | _,_=>False):InstAt s.heap x ox C od :=
 ⟨hx,cl,by unfold notCls;rw[hd],dict⟩
theorem Lu(X:K.In s.heap)(hx:s.heap.get? x=some ox)(cl:ox.cls = .ref C)(hd:ox.data = .fields vs)(yt:ox.dict=none)(c:XC K C)(none_:findIn K (.ref C) n=some none)
 (k:∀ h' tk',(∀ b o,b≠x->s.heap.get? b=some o->h'.get? b=some o)->h'.get? x=some { ox with dict:=some s.heap.objs.size }->h'.Ns1 s.heap.objs.size (fun y=>if y=n then some v else none)->Q () { s with heap:=h',toks:=tk' }) :
 wpAny (model prog w) A (setAttr (.ref x) n v) Q E s:=by
 obtain⟨cd,hc,own,_⟩:=c.pass
 apply DO (od:=none) X (DQ hx cl hd (by rw[yt];trivial)) c none_
 obtain⟨p1,p2,p3,osl⟩:=ox
 dsimp only at cl hd yt
 subst cl hd yt
 obtain⟨h,g,d,t,os⟩:=s
 dsimp only at hx X k
 have new:x≠h.objs.size:=qal (qaf hx)
 have hx2:=qab emptyDict hx
 unfold storeInOwnDict
 apply qaa;apply qac
 rw[qaz (show ¬ ((Value.ref C == Value.type "module")=true) by intro z;cases qas.mp z)]
 change wpAny _ _ (instanceDict x true >>= _) _ _ _
 unfold instanceDict
 apply qaa;apply qaa;apply qbE hx;dsimp only
 apply qaa;apply (looks_clsIn X hc).here (s:=⟨h,g,d,t+1,os⟩)
 rw[own,qaz (by decide)]
 rw[qaz (show ¬ ((!true || !typeHasDict (.ref C))=true) from qap)]
 apply qaa;apply wpAny_alloc;apply qaa;apply wpAny_update hx2;apply qac
 have gx:((h.push emptyDict).update x fun o=>{ o with dict:=some h.objs.size }).get? x=some ⟨.ref C,some h.objs.size,.fields vs,osl⟩:=Heap.get?_update_self _ hx2 rfl
 have gd:((h.push emptyDict).update x fun o=>{ o with dict:=some h.objs.size }).get? h.objs.size=some emptyDict:=by
  rw[qaF _ _ new];exact qah h rfl
 apply DP (ks:=[]) (Heap.Ns1.of_empty ⟨_, #[],_,gd,rfl,(by intro e he;exact absurd he (by simp)),fun _=>rfl⟩) Within.nil (by rw[sizeLine_eq];decide)
 intro h' tk' sb N
 refine⟨_,rfl,k h' tk' (fun b o ne e=>?_) ((sb.2 x new).trans gx) N⟩
 rw[sb.2 b (qal (qaf e)),qaF _ _ (qaT ne)]
 exact qab emptyDict e
theorem Lv(X:K.In s.heap)(hx:s.heap.get? x=some ox)(cl:ox.cls = .ref C)(hd:ox.data = .fields vs)(hdx:ox.dict=some dx)(N:s.heap.Ns1 dx mA)(W:Within mA ks)(few:ks.length<sizeLine)
 (c:XC K C) (none_:findIn K (.ref C) n=some none) (k:∀ h' tk',Heap.SameBut dx s.heap h'->h'.Ns1 dx (fun y=>if y=n then some v else mA y)->Q () { s with heap:=h',toks:=tk' }):wpAny (model prog w) A (setAttr (.ref x) n v) Q E s:=by
 obtain⟨cd,hc,own,_⟩:=c.pass
 obtain⟨oD,hD,_⟩:=L2.fA N
 apply DO (od:=some oD) X (DQ hx cl hd (by rw[hdx];exact hD)) c none_
 obtain⟨p1,p2,p3,osl⟩:=ox
 dsimp only at cl hd hdx
 subst cl hd hdx
 obtain⟨h,g,d,t,os⟩:=s
 dsimp only at hx X k N
 unfold storeInOwnDict
 apply qaa;apply qac
 rw[qaz (show ¬ ((Value.ref C == Value.type "module")=true) by intro z;cases qas.mp z)]
 change wpAny _ _ (instanceDict x true >>= _) _ _ _
 unfold instanceDict
 apply qaa;apply qaa;apply qbE hx;dsimp only
 apply qaa;apply (looks_clsIn X hc).here (s:=⟨h,g,d,t+1,os⟩)
 rw[own,qaz (by decide)]
 apply qac
 apply DP (s:=⟨h,g,d,t+1,os⟩) N W few
 exact fun h' tk' sb N'=>⟨_,rfl,k h' tk' sb N'⟩
theorem zsV{as:List Value}(F:XB B ini up)(X:K.In s.heap)(I:InstAt s.heap x ox C od)(c:XC K C)(sub:mroIn K C (.type B)=some true)(hd:ox.data = .fields vs)(v0:vs[0]? = some (.ref t0))(few:as.length<=sizeLine)
 (k:∀ h',(∀ b o,b≠x->s.heap.get? b=some o->h'.get? b=some o)->h'.get? x=some { ox with data:=.fields (vs.setIfInBounds 0 (.ref s.heap.objs.size)) }->Q .none { s with heap:=h' }):wpAny (model prog w) A (call (.builtin ini) (.ref x::as)) Q E s:=by
 have DR:Looks (model prog w) s.heap (isInstance (.ref x) (.type B)) true:=I.type.andThen (looks_mroIn X sub)
 obtain⟨cd,hc,_,_⟩:=c.pass
 have lc:=looks_clsIn (M:=model prog w) X hc
 have hx:=I.at_;have cl:=I.cls
 obtain⟨h,g,d,t,os⟩:=s
 obtain⟨p1,p2,p3,p4⟩:=ox
 dsimp only at cl hd hx DR k
 subst cl hd
 have pos:0<vs.size:=(qaC.mp v0).1
 have hx2:=qab { cls:=.type "tuple",data:=.seq as.toArray } hx
 have anyArgs:∀ (a b:String) (m:Nat),Bind.check ⟨.positional,"*",B,.self,[⟨"args",.varPos,false⟩]⟩ a b m (List.map (·.fst) ({ pos:=Value.ref x::as }:Args).kw)=pure ():=fun _ _ _=>check_star_args _ _ _ _ _ _
 have last:Q .none ⟨(h.push { cls:=.type "tuple",data:=.seq as.toArray }).update x (Obj.mapFields (·.setIfInBounds 0 (.ref h.objs.size))),g,d,t,os⟩:=k _ (fun b o ne e=>by rw[qaF _ _ (qaT ne)];exact qab _ e) (Heap.get?_update_self _ hx2 rfl)
 have notStar:=F.star
 apply wpAny_call;apply qbJ F.slot.plain F.entry
 simp only[F.kind,F.split,F.row,checkBuiltinCall]
 apply qaa;apply DR.here (s:=⟨h,g,d,t,os⟩)
 rw[show(!true)=false from rfl,qaz qap]
 repeat (first | apply wpAny_onRaise | (rw[anyArgs];apply qac) | (apply qaa;apply lc.here (s:=⟨h,g,d,t,os⟩)) | wp_step)
 rw[v0]
 apply qac;apply qaa
 apply wpAny_setField hx2 rfl pos
 dsimp only
 repeat (first | exact last | wp_step)
end
end Ex
namespace Ex
open PySem PySem.Spec PyProof.Rows PySem.W PySem.Calls
noncomputable def oE(h:Heap)(e:Addr)(m:Value):Option Addr->Prop
 |none=>∃ oe vs,h.get? e=some oe/\oe.data = .fields vs/\vs[1]? = some .none
 |some T=>∃ oe vs oT ts,h.get? e=some oe/\oe.data = .fields vs/\vs[1]? = some (.ref T)/\T≠e/\h.get? T=some oT/\oT.data = .fields ts/\ts[3]? = some m
structure Step(fr:List Addr)(e:Addr)(tb:Option Addr)(h h':Heap):Prop where
 keep:∀ b o,h.get? b=some o->b≠e->tb≠some b->b ∉ fr->h'.get? b=some o
 slot:∀ b o,h.get? b=some o->b≠e->tb≠some b->∃ sl,h'.get? b=some { o with slots:=sl }
 exc:∀ oe vs,h.get? e=some oe->oe.data = .fields vs->∃ vs':Array Value,h'.get? e=some { oe with data:=.fields vs' }/\vs'[0]? = vs[0]? /\ vs'.size=vs.size
 there:∀ b o,h.get? b=some o->∃ o',h'.get? b=some o'
theorem Lw{o:Obj}(hd:o.data = .fields vs)(f:Array Value->Array Value):o.mapFields f={ o with data:=.fields (f vs) }:=by
 cases o with
 |mk c d dt sl=>cases hd;rfl
theorem uX{h:Heap}(e:h.get? a=some o)(hd:o.data = .fields vs)(i:Nat)(v:Value) :
 (h.update a (Obj.mapFields (·.setIfInBounds i v))).get? a=some { o with data:=.fields (vs.setIfInBounds i v) }:=by
 rw[<- Lw hd (·.setIfInBounds i v)]
 exact Heap.get?_update_self _ e (Obj.isFreed_of_fields (Obj.data_mapFields hd _))
section
variable{M:Model}{A:Around}{E:Value->Shared->Prop}{s:Shared}{env:Env}{outer:List Env}{base:Heap}{L e:Addr}
theorem DS(fr:A.frames=some (env::outer))(ff:s.heap.FunFrames base (env::outer))(at_:env.frame=some L)(he:s.heap.get? e=some oe)(hd:oe.data = .fields vs)(two:1<vs.size)
 (k:∀ h' T,Step (L2.frs (env::outer)) e none s.heap h'->s.heap.objs.size<=T->oE h' e (rawInt L) (some T)->Q () { s with heap:=h' }) :
 wpAny M A (do let fo <- frameOf env;let pl <- entryPlaceOf L more;let en <- EntryCells.newEntry hd0 fo .none (rawInt L) .none pl;setField (.ref e) 1 en) Q E s:=by
 have Lx:e ∉ L2.frs (env::outer):=fun m=>let ⟨_,o,ho,no⟩:=ff.mem m;no vs (by rw[he] at ho;cases ho;exact hd)
 apply qaa;apply wpAny_frameOf_fun fr ff at_
 rintro h1 ⟨sz,same,DT⟩
 apply qaa;apply wpAny_entryPlaceOf;intro pl r6
 delta EntryCells.newEntry newFields
 apply qaa;apply qbr _ (r6.sizeOk5 _ _ _ _ _)
 generalize eN:({ cls:=.type "traceback",dict:=none,data:=.fields ([hd0,.ref L,.none,rawInt L,.none]++(if pl.isEmpty then List.replicate 6 Value.none else pl)).toArray }:Obj)=en
 have e1:h1.get? e=some oe:=(same e Lx).trans he
 have ne:h1.objs.size≠e:=fun z=>absurd (qaf e1) (by rw[z];exact qbf _)
 have e2:=uX (qab en e1) hd 1 (.ref h1.objs.size)
 have oth:∀ b o,b≠e->h1.get? b=some o->((h1.push en).update e (Obj.mapFields (·.setIfInBounds 1 (.ref h1.objs.size)))).get? b=some o:=fun b o nb z=>by
  rw[qaF _ _ (qaT nb)];exact qab en z
 have yu:((h1.push en).update e (Obj.mapFields (·.setIfInBounds 1 (.ref h1.objs.size)))).get? h1.objs.size=some en:=by
  rw[qaF _ _ (qaT ne)];exact qah h1 (by rw[<- eN];rfl)
 apply wpAny_setField (qab en e1) hd two
 apply k _ h1.objs.size
 · constructor
   · exact fun b o z nb _ nf=>oth b o nb ((same b nf).trans z)
   · intro b o z nb _
     obtain⟨sl,z'⟩:=DT b o z
     exact⟨sl,oth b _ nb z'⟩
   · intro oe' vs' z zd
     cases he.symm.trans z
     cases hd.symm.trans zd
     exact⟨_,e2,Array.getElem?_setIfInBounds_ne (by decide),Array.size_setIfInBounds⟩
   · intro b o z
     by_cases nb:b=e
     · rw[nb];exact⟨_,e2⟩
     · obtain⟨sl,z'⟩:=DT b o z
       exact⟨_,oth b _ nb z'⟩
 · rw[sz];exact qag _
 · refine⟨_,_,_,_,e2,rfl,by simp[two],ne,yu,by rw[<- eN],?_⟩
   rcases r6 with z | ⟨_,_,_,_,_,_,_,z⟩<;>subst z<;>rfl
theorem Ly(fr:A.frames=some (env::outer))(ff:s.heap.FunFrames base (env::outer))(at_:env.frame=some L)(F:oE s.heap e .none tb)(two:∀ oe vs,s.heap.get? e=some oe->oe.data = .fields vs->1<vs.size)
 (k:∀ h' T,Step (L2.frs (env::outer)) e tb s.heap h'->s.heap.objs.size<=T->oE h' e (rawInt L) (some T)->Q () { s with heap:=h' }):wpAny M A (noteFrame (.ref e) env) Q E s:=by
 unfold noteFrame
 rw[at_]
 dsimp only
 cases tb with
 |none =>
   obtain⟨oe,vs,he,hd,v1⟩:=F
   apply qaa;apply qbk he hd v1
   rw[qaz (show ¬ ((Value.none != Value.none)=true) by decide)]
   exact DS fr ff at_ he hd (two _ _ he hd) k
 |some T =>
   obtain⟨oe,vs,oT,ts,he,hd,v1,nT,hT,hdT,t3⟩:=F
   have oth:∀ b,b≠T->(s.heap.update T (Obj.mapFields (·.setIfInBounds 3 .none))).get? b=s.heap.get? b:=fun b z=>qaF _ _ (qaT z)
   have Lz:∀ b o,s.heap.get? b=some o->(∀ vs,o.data ≠ .fields vs)->b≠T:=fun b o z no q=>by subst q;cases hT.symm.trans z;exact no ts hdT
   apply qaa;apply qbk he hd v1
   rw[qay (show(Value.ref T != Value.none)=true by rfl)]
   apply qaa;apply qbk hT hdT t3
   rw[qaz (show ¬ ((Value.none == rawInt L)=true) by intro z;cases qas.mp z)]
   apply qaa;apply wpAny_setField hT hdT (qaC.mp t3).1
   apply DS (s:={ s with heap:=s.heap.update T (Obj.mapFields (·.setIfInBounds 3 .none)) }) fr (ff.of_keeps fun b o z no=>⟨o,(oth b (Lz b o z no)).trans z,rfl⟩) at_ ((oth e (qaT nT)).trans he) hd (two _ _ he hd)
   intro h' T' S le F'
   apply k h' T' _ (by rw[Heap.size_after_update] at le;exact le) F'
   have via:∀ b,some T≠some b->b≠T:=fun b z q=>z (by rw[q])
   constructor
   · exact fun b o z nb nt nf=>S.keep b o ((oth b (via b nt)).trans z) nb (by intro q;cases q) nf
   · exact fun b o z nb nt=>S.slot b o ((oth b (via b nt)).trans z) nb (by intro q;cases q)
   · exact fun oe' vs' z zd=>S.exc oe' vs' ((oth e (qaT nT)).trans z) zd
   · intro b o z
     by_cases q:b=T
     · rw[q];exact S.there T _ (uX hT hdT 3 .none)
     · exact S.there b o ((oth b q).trans z)
theorem LA(F:oE s.heap e m (some T))
 (k:∀ h',(∀ b,b≠T->h'.get? b=s.heap.get? b)->oE h' e .none (some T)->Q () { s with heap:=h' }):wpAny M A (setFlight (.ref e) none) Q E s:=by
 obtain⟨oe,vs,oT,ts,he,hd,v1,nT,hT,hdT,t3⟩:=F
 have l3:3<ts.size:=(qaC.mp t3).1
 have oth:∀ b,b≠T->(s.heap.update T (Obj.mapFields (·.setIfInBounds 3 .none))).get? b=s.heap.get? b:=fun b z=>qaF _ _ (qaT z)
 unfold setFlight
 apply qaa;apply qbk he hd v1
 rw[qay (show(Value.ref T != Value.none)=true by rfl)]
 apply wpAny_setField hT hdT l3
 exact k _ oth ⟨oe,vs,_,_,(oth e (qaT nT)).trans he,hd,v1,nT,uX hT hdT 3 .none,rfl,by simp[l3]⟩
end
end Ex
namespace L2
open PySem PySem.Spec PyProof.Rows Ex
def b6(C e:Addr)(dd:Option Addr)(fr:Bool):HO:=.ext fun h=>∃ oe vs t0,h.get? e=some oe/\oe.cls = .ref C/\oe.dict=dd/\oe.data = .fields vs/\vs[0]? = some (.ref t0)/\1<vs.size/\(fr=true->vs[1]? = some .none)
def ke(d:Addr)(fs:List (Str×V)):HO:=.ext fun h=>∃ mA,h.Ns1 d mA/\(∀ f,cG (fs.lookup f) (mA f))/\PySem.Within mA (fs.map (·.1))
section
variable{P:Program}{w:World}{H:Hp}{h:Heap}{e C d:Addr}{dd:Option Addr}{fr:Bool}{fs:List (Str×V)}
theorem r9(he:h.get? e=some oe)(hc:oe.cls = .ref C)(hdd:oe.dict=dd)(hd:oe.data = .fields vs)(h0:vs[0]? = some (.ref t0))(hs:1<vs.size)(hf:fr=true->vs[1]? = some .none) :
 az P w H h e (b6 C e dd fr) :=
 ⟨⟨oe,vs,t0,he,hc,hdd,hd,h0,hs,hf⟩,⟨oe,he⟩,fun _ _ ⟨oe,vs,t0,he,r⟩ k=>⟨oe,vs,t0,k _ he,r⟩⟩
theorem DU(hn:h.Ns1 d mA)(hr:∀ f,cG (fs.lookup f) (mA f))(hw:PySem.Within mA (fs.map (·.1))):az P w H h d (ke d fs) :=
 ⟨⟨mA,hn,hr,hw⟩,let ⟨o,_,_,q,_⟩:=hn; ⟨o,q⟩,fun _ _ ⟨mA,⟨o,es,ep,q,r⟩,r2⟩ k=>⟨mA,⟨o,es,ep,k _ q,r⟩,r2⟩⟩
theorem oF(ok:bY P w H h)(q:H e=some (b6 C e dd fr)):∃ oe vs t0,h.get? e=some oe/\oe.cls = .ref C/\oe.dict=dd/\oe.data = .fields vs/\vs[0]? = some (.ref t0)/\1<vs.size/\(fr=true->vs[1]? = some .none):=(ok _ _ q).1
theorem DV(ok:bY P w H h)(q:H d=some (ke d fs)):∃ mA,h.Ns1 d mA/\(∀ f,cG (fs.lookup f) (mA f))/\PySem.Within mA (fs.map (·.1)):=(ok _ _ q).1
end
structure LB(X:Cx)(pins:List (Addr×Obj))(H:Hp)(s:Shared)(e C:Addr):Prop where
 ex:∃ dd,H e=some (b6 C e dd false)
 lo:X.s₀.heap.objs.size<=e
 tr:∃ tb,oE s.heap e .none tb/\∀ T,tb=some T->H T=none/\X.s₀.heap.objs.size<=T/\∀ p∈X.pn++pins,p.1≠T
abbrev aT:=St->XK
def XOk(X:Cx)(EE:aT):Prop:=∀ (pins:List (Addr×Obj)) (σ:St) (H:Hp) (s:Shared) (e C:Addr),Inv X pins σ H s->LB X pins H s e C->EE σ (.ref C) (some e) H->X.xe (.ref e) s
def eT(P:Program)(w:World):j8:=fun outer H s E ev s'=>∃ e C H',ev = .ref e/\s'.os=s.os/\AllBare s'.gens/\Un (frs outer) [] H H' s.heap s'.heap/\bY P w H' s'.heap /\
 (∃ dd,H' e=some (b6 C e dd false))/\s.heap.objs.size<=e/\(∃ tb,oE s'.heap e .none tb/\∀ T,tb=some T->H' T=none/\s.heap.objs.size<=T)/\E (.ref C) (some e) H'
theorem DW{X:Cx}{EE:aT}(hX:XOk X EE){pins:List (Addr×Obj)}{σ:St}{H:Hp}{s s':Shared}{ev:Value}(I:Inv X pins σ H s)(h:eT X.prog X.w X.stack H s (EE σ) ev s'):X.xe ev s':=by
 obtain⟨e,C,H',rfl,os,bare,un,hok,ex,lo,⟨tb,F,hT⟩,q⟩:=h
 have I':Inv X pins σ H' s':=I.ng (ch:=[]) os un hok bare fun b z=>absurd z (by simp)
 refine hX pins σ H' s' e C I' ⟨ex,qa2 I.sz lo,tb,F,fun T z=>⟨(hT T z).1,qa2 I.sz (hT T z).2,fun p hp=>?_⟩⟩ q
 have lt:=qaf (I.pin p hp).1
 have:=(hT T z).2
 exact qal (qax lt this)
section
variable{P:Program}{w:World}{K:W.Frag}{mg:Str->Option Value}{base:Heap}{N:List Str}{qual:Str}{scope:Scope}{f:Addr}{cd:Value}{A:Around}{outer:List Env}{s:Shared}{H:Hp}{E:XK}
theorem nj:XOk (fZ (eT P w) P w K mg base N qual scope f cd A outer s H E) (fun _=>E):=by
 intro pins σ H1 s1 e C I T q
 obtain⟨⟨dd,ex⟩,lo,tb,F,hT⟩:=T
 show wpAny (model P w) (A.deeper (envOfC qual scope s.heap.objs.size f cd)) (leaving (envOfC qual scope s.heap.objs.size f cd) (.ref e)) (fun _ s''=>eT P w outer H s E (.ref e) s'') (fun e' s''=>eT P w outer H s E e' s'') s1
 have hfr:(A.deeper (envOfC qual scope s.heap.objs.size f cd)).frames=some (envOfC qual scope s.heap.objs.size f cd::outer):=I.ok.frames
 have hl:s1.heap.FunFrames base (envOfC qual scope s.heap.objs.size f cd::outer):=I.stack
 obtain⟨oe,vs,t0,he,hc,hdd,hd,h0,hsz,_⟩:=oF I.hok ex
 have s0:∀ b o,s.heap.get? b=some o->b≠e/\tb≠some b/\b≠s.heap.objs.size:=fun b o z=>by
  have lt:=qaf z
  refine⟨qal (qax lt lo),fun y=>?_,qal lt⟩
  exact qbf _ (qax lt (hT b y).2.1)
 unfold leaving
 refine qaa (Ly (L:=s.heap.objs.size) hfr hl rfl F (fun oe' vs' a b=>by rw[he] at a;cases a;rw[hd] at b;cases b;exact hsz) fun h' T' S hle FF=>?_)
 refine LA (s:={ s1 with heap:=h' }) FF fun h'' oth F2=>?_
 have LC:s.heap.objs.size<=s1.heap.objs.size:=I.sz
 have hT':∀ b o,s1.heap.get? b=some o->b≠T':=fun b o z=>qal (qax (qaf z) hle)
 have fresh:H1 T'=none:=I.hok.fresh hle
 have keep:∀ b o,s1.heap.get? b=some o->b≠e->tb≠some b->b ∉ frs (envOfC qual scope s.heap.objs.size f cd::outer)->h''.get? b=some o:=fun b o z a1 a2 a3=>(oth b (hT' b o z)).trans (S.keep b o z a1 a2 a3)
 have r_:∀ b,b∈frs (envOfC qual scope s.heap.objs.size f cd::outer)->b=s.heap.objs.size\/b∈frs outer:=fun b hb=>by
  unfold frs at hb ⊢
  rw[qa6] at hb
  rcases qav.mp hb with z | z
  · exact .inl z
  · exact .inr z
 have tracked:∀ b u,H1 b=some u->b ∉ frs (envOfC qual scope s.heap.objs.size f cd::outer):=fun b u z hb=>by
  have n:H1 b=none:=I.fX b hb
  rw[z] at n
  cases n
 refine⟨e,C,H1,rfl,I.os,I.bare,⟨fun b o z n hb hx=>?_,fun b o z n hb hx=>?_,I.base.free,fun b o z hx=>?_,I.base.tups,I.base.d7,I.base.eQ⟩,fun b u z=>?_,⟨dd,ex⟩,lo,⟨some T',F2,fun T z=>?_⟩,q⟩
 · obtain⟨a1,a2,a3⟩:=s0 b o z
   exact keep b o (I.base.keep b o z n hb hx) a1 a2 fun y=>(r_ b y).elim a3 hb
 · obtain⟨a1,a2,a3⟩:=s0 b o z
   obtain⟨sl,e1⟩:=I.base.slot b o z n hb hx
   obtain⟨sl2,e2⟩:=S.slot b _ e1 a1 a2
   exact⟨sl2,(oth b (hT' b _ e1)).trans e2⟩
 · obtain⟨o',e1⟩:=I.base.there b o z hx
   obtain⟨o2,e2⟩:=S.there b o' e1
   exact⟨o2,(oth b (hT' b _ e1)).trans e2⟩
 · by_cases hb:b=e
   · subst hb
     rw[ex] at z
     cases z
     obtain⟨vs',e1,e2,e3⟩:=S.exc oe vs he hd
     exact r9 ((oth b (hT' b _ he)).trans e1) hc hdd rfl (by rw[e2];exact h0) (by rw[e3];exact hsz) fun z=>nomatch z
   · refine(I.hok b u z).stay (fun c v hcv r=>?_) (fun _ r=>r) fun _ _ r=>r
     have ne:c≠e:=by
      rcases hcv with rfl | hcv
      · exact hb
      · exact n5 hcv ex (by intro y;cases y)
     have tr:∃ u',H1 c=some u':=by
      rcases hcv with rfl | hcv
      · exact⟨_,z⟩
      · exact⟨_,hcv⟩
     obtain⟨u',hu'⟩:=tr
     exact keep c v r ne (fun y=>by have:=(hT c y).1;rw[hu'] at this;cases this) (tracked c u' hu')
 · cases z
   exact⟨fresh,qa2 LC hle⟩
end
end L2
namespace Ex
open PySem PySem.Spec PyProof.Rows PySem.W PySem.Calls Builtin Builtin.ObjectAttr
def DX(K:Frag)(h:Heap)(e:Addr):Prop:=∃ oe vs C oC,h.get? e=some oe/\oe.cls = .ref C/\mroIn K C (.type "BaseException")=some true/\K.lookup C=some oC/\oC.cls = .type "type" /\ oe.data = .fields vs/\vs[1]? = some .none
theorem yv{A:Around}{K:Frag}(calm:A.handled=none)
 (k:wpAny M A x (fun v s'=>∃ e,v = .ref e/\K.In s'.heap/\DX K s'.heap e/\E v s') E s):wpAny M A (raiseStmt env (some x) none) Q E s:=by
 delta raiseStmt
 apply qaa;apply qao k _ fun _ _ z=>z
 rintro v ⟨h,g,d,t,os⟩ ⟨e,rfl,X,⟨⟨c1,c2,c3,c4⟩,vs,C,⟨d1,d2,d3,d4⟩,he,hc,sub,hC,ht,hd,v1⟩,last⟩
 dsimp only at X he hc hd ht
 subst hc hd ht
 have LS:=looks_mroIn (M:=M) X sub
 have hC':=X _ _ hC
 repeat (first | (with_reducible apply qbE hC') | (with_reducible apply qbE he) | (with_reducible apply LS.here (s:=⟨h,g,d,t,os⟩)) | rw[v1] | wp_step)
 exact wpAny_raiseNew_none calm last
end Ex
namespace L2
open PySem PySem.Spec PyProof.Rows Ex
def LD(K:W.Frag)(ta tv:TE)(f:Str):TS:=fun D σ H=>tv σ H fun y H1=>ta σ H1 fun x H2=>∃ a C fr,x = .ref a/\XC K C/\a9 K C f /\
 ((H2 a=some (b6 C a none fr)/\∀ d,H2 d=none->d≠a->D.nx σ (upd (upd H2 d (ke d [(f,y)])) a (b6 C a (some d) fr))) \/
  (∃ d fs,H2 a=some (b6 C a (some d) fr)/\H2 d=some (ke d fs)/\fs.length<1000/\D.nx σ (upd H2 d (ke d (gy f y fs)))))
section
variable{X:Cx}{o e value:Expr}{f:Str}{pos pos' tpos:Pos}{ta tv:TE}
theorem yw{K:W.Frag}(ok:bY P w H h)(q:H a=some (b6 C a dd fr))(hdd:∀ d,dd=some d->∃ o,h.get? d=some o) :
 ∃ ox od,W.InstAt h a ox C od/\ox.dict=dd/\(∀ d,dd=some d->∃ o,od=some o/\h.get? d=some o):=by
 obtain⟨oe,vs,t0,he,hc,hd,hda,_⟩:=oF ok q
 have hn:W.notCls oe=true:=by unfold W.notCls;rw[hda]
 cases dd with
 |none=>exact⟨oe,none,⟨he,hc,hn,by rw[hd];trivial⟩,hd,fun d z=>nomatch z⟩
 |some d =>
   obtain⟨o,ho⟩:=hdd d rfl
   exact⟨oe,some o,⟨he,hc,hn,by rw[hd];exact ho⟩,hd,fun d' z=>by cases z;exact⟨o,rfl,ho⟩⟩
theorem yx(ha:PE X o ta)(hv:PE X value tv)(hs:swapsWith value (some (.Attribute o f pos')) pos.line X.env=pure false):PS X (.Assign [.Attribute o f pos'] value pos) (LD X.K ta tv f):=by
 intro pins s σ H D I h
 refine plainObj_wpAny_Assign_Attribute (aI (hv pins s σ H _ I h) fun u s1 zq=>?_) hs
 obtain⟨y,H1,I1,ry,q⟩:=zq
 refine aI (ha pins s1 σ H1 _ I1 q) fun ov s2 zq=>?_
 obtain⟨x,H2,I2,rx,a,C,fr,ex,c,n,q2⟩:=zq
 subst ex
 obtain rfl:ov=Value.ref a:=rx
 rcases q2 with ⟨ea,k⟩ | ⟨d,fs,ea,ed,hl,k⟩
 · obtain⟨oe,vs,t0,he,hc,hd,hda,h0,hsz,hfr⟩:=oF I2.hok ea
   have na:s2.heap.objs.size≠a:=Nat.ne_of_gt (qaf he)
   refine Lu I2.aS he hc hda hd c n fun h' tk' kp hx hn=>?_
   refine⟨σ,_,?_,k s2.heap.objs.size (I2.hok.fresh (qag _)) na⟩
   have fresh:H2 s2.heap.objs.size=none:=I2.hok.fresh (qag _)
   have hdn:∃ o,h'.get? s2.heap.objs.size=some o:=let ⟨o,_,_,z,_⟩:=hn; ⟨o,z⟩
   have od:∀ (G:Hp),az X.prog X.w G h' s2.heap.objs.size (ke s2.heap.objs.size [(f,y)]):=fun G=>DU hn (fun g=>by
    show cG (List.lookup g [(f,y)]) (if g=f then some u else none)
    rw[qbo]
    by_cases z:g=f
    · subst z;rw[qay rfl];simp only[beq_self_eq_true];exact ry
    · have z':(g == f)=false:=by simpa using z
      rw[qaz z,z'];exact True.intro) (fun g hg=>by
    have z:g=f:=by
     by_cases z:g=f
     · exact z
     · exact absurd (qaz z) hg
    rw[z];simp)
   have oe':∀ (G:Hp),az X.prog X.w G h' a (b6 C a (some s2.heap.objs.size) fr):=fun G=>r9 hx hc rfl hda h0 hsz hfr
   have un:Un X.fs [] H2 (upd (upd H2 s2.heap.objs.size (ke s2.heap.objs.size [(f,y)])) a (b6 C a (some s2.heap.objs.size) fr)) s2.heap h':=by
    have ne:∀ b,H2 b=none->b≠a:=fun b z e=>by rw[e,ea] at z;cases z
    refine⟨fun b ob z z2 _ _=>kp b ob (ne b z2) z,fun b ob z z2 _ _=>⟨ob.slots,kp b ob (ne b z2) z⟩,fun b ob z z2 _=>?_,fun b ob z _=>?_,fun b xs z=>?_,fun b ob xs z=>?_,fun b ps z=>⟨#[],?_⟩⟩
    · rw[aW (ne b z2),aW (qal (qaf z))];exact z2
    · by_cases hb:b=a
      · subst hb;exact⟨_,hx⟩
      · exact⟨ob,kp b ob hb z⟩
    · rw[aW (n5 z ea (by intro y;cases y)),aW (fz z fresh)];exact z
    · rw[aW (n5 z ea (by intro y;cases y)),aW (fz z fresh)];exact z
    · rw[aW (n5 z ea (by intro y;cases y)),aW (fz z fresh),z];simp
   refine I2.un un fun b ob z=>?_
   by_cases hb:b=a
   · subst hb;rw[dh] at z;cases z;exact oe' _
   · rw[aW hb] at z
     by_cases hb2:b=s2.heap.objs.size
     · subst hb2;rw[dh] at z;cases z;exact od _
     · rw[aW hb2] at z
       refine(I2.hok b ob z).stay (fun c v hcv r=>kp c v ?_ r) (fun c r=>?_) fun c xs r=>?_
       · rcases hcv with rfl | hcv
         · exact hb
         · exact n5 hcv ea (by intro y;cases y)
       · rw[aW (n5 r ea (by intro y;cases y)),aW (fz r fresh)];exact r
       · rw[aW (n5 r ea (by intro y;cases y)),aW (fz r fresh)];exact r
 · obtain⟨oe,vs,t0,he,hc,hd,hda,h0,hsz,hfr⟩:=oF I2.hok ea
   obtain⟨mA,hn,hr,hw⟩:=DV I2.hok ed
   refine Lv I2.aS he hc hda hd hn hw (by rw[qaK,sizeLine_eq];omega) c n fun h' tk' sb hn'=>?_
   refine⟨σ,_,I2.write (x:=d) (e:=d) (by rw[ed];exact True.intro) (.inl rfl) (fun b q hb z=>(sb.2 b hb).trans z) (let ⟨o,_,_,z,_⟩:=hn'; ⟨o,z⟩) ?_,k⟩
   refine DU hn' (fun g=>?_) fun g hg=>?_
   · show cG ((gy f y fs).lookup g) (if g=f then some u else mA g)
     rw[ye]
     by_cases q:g=f
     · rw[qay q,qay q];exact ry
     · rw[qaz q,qaz q];exact hr g
   · by_cases q:g=f
     · rw[q];exact(rX f y fs).1
     · refine(rX f y fs).2 g (hw g fun z=>hg ?_)
       show(if g=f then some u else mA g)=none
       rw[qaz q];exact z
end
structure nk(h h':Heap)(e C:Addr):Prop where
 keeps:∀ c u,h.get? c=some u->h'.get? c=some u
 le:h.objs.size<=e
 obj:∃ t0,h'.get? e=some { cls:=.ref C,data:=.fields #[.ref t0,.none,.none,.none,.bool false,.none] }
def XMk(K:W.Frag)(C fI:Addr):Prop:=∀ (prog:Program) (w:World) (A:Around) (E:Value->Shared->Prop) (s:Shared) (rest:List Value) (Q:Value->Shared->Prop),K.In s.heap->rest.length<=sizeLine ->
 (∀ h' e,nk s.heap h' e C->wpAny (model prog w) (A.under (.builtin "type.__call__" ⟨.ref C::rest,[]⟩)) (call (.ref fI) (.ref e::rest)) (fun r s'=>r = .none/\Q (.ref e) s') E { s with heap:=h' }) ->
 wpAny (model prog w) A (call (.ref C) rest) Q E s
structure sf(K:W.Frag)(C:Addr):Prop where
 xc:XC K C
 mt:∃ oC,K.lookup C=some oC/\oC.cls = .type "type"
 kp:W.keepIn K (.ref C)=true
section
variable{X:Cx}{k:Nat}{fI C:Addr}{fd:FuncData}{ps:List Str}{sp:Sp}{dvs:List V}{ds:List Value}{x:Str}{p pos cpos apos:Pos}{e:Expr}{es:List Expr}{t:TA}{EE:aT}
theorem Inv.exc{pins:List (Addr×Obj)}{σ:St}{H:Hp}{s:Shared}{h':Heap}{a:Addr}(I:Inv X pins σ H s)(m:nk s.heap h' a C)(fr:Bool) :
 Inv X pins σ (upd H a (b6 C a none fr)) { s with heap:=h' }:=by
 obtain⟨t0,he⟩:=m.obj
 exact I.laid (a:=a) (o:=b6 C a none fr) (t':=s.toks) m.keeps m.le (r9 he rfl rfl rfl rfl (by simp) fun _=>rfl)
theorem LF{pins:List (Addr×Obj)}{σ:St}{H:Hp}{s:Shared}{Q:VK}{us:List Value}{vs:List V}(M:XMk X.K C fI)(F:aD X.prog X.w X.K X.mg X.base bZ k fI fd ps sp)(hr:aj (k+1) X.A)(hb:Binds X.K fd ps ds)(hd:Vals dvs ds)
 (I:Inv X pins σ H s) (r:Vals vs us) (hlen:vs.length<=1000)
 (h:∀ a,H a=none->sp (.ref a::(vs++dvs)) (upd H a (b6 C a none true)) (fun v H2=>v = .av/\Q (.ref a) H2) E0) :
 wpAny (model X.prog X.w) X.A (call (.ref C) us) (fun u s'=>∃ a H',u = .ref a/\Inv X pins σ H' s'/\s.heap.objs.size<=a/\Q (.ref a) H') X.xe s:=by
 refine M X.prog X.w X.A X.xe s us _ I.aS (by rw[<- r.length,sizeLine_eq];omega) fun h' a m=>?_
 have hq:=h a (I.hok.fresh m.le)
 have I2:=I.exc m true
 have r2:Vals (V.ref a::(vs++dvs)) (Value.ref a::(us++ds)):=.cons rfl (r.append hd)
 have hl:(Value.ref a::us++ds).length=ps.length:=by
  have e:=r2.length
  rw[F.len _ _ _ _ hq] at e
  exact e.symm
 refine wpAny_call (codeAny_mono (F.run _ X.stack _ _ ⟨Value.ref a::us,[]⟩ (Value.ref a::(us++ds)) _ _ E0 (hr.make C us [])
  (I2.env0.make C us []) (hb _ (Value.ref a::us) I2.aS hl) r2 hq) fun r s' hq'=>?_)
 cases r with
 |error e=>exact False.elim hq'
 |ok fl =>
   cases fl with
   |ret u =>
     obtain⟨v,H',I3,rv,ev,q3⟩:=I2.after hq'
     subst ev
     exact⟨rv,a,H',rfl,I3,m.le,q3⟩
   |next=>exact False.elim hq'
   |brk=>exact False.elim hq'
   |cont=>exact False.elim hq'
theorem LG{pins:List (Addr×Obj)}{σ:St}{H:Hp}{s:Shared}{a:Addr}{dd:Option Addr}(hX:XOk X EE)(I:Inv X pins σ H s)(hle:X.s₀.heap.objs.size<=a)(ea:H a=some (b6 C a dd true))(q:EE σ (.ref C) (some a) (upd H a (b6 C a dd false))):X.xe (.ref a) s:=by
 obtain⟨oe,vs,t0,he,hc,hd,hda,h0,hsz,hfr⟩:=oF I.hok ea
 have I':Inv X pins σ (upd H a (b6 C a dd false)) s:=I.write (x:=a) (e:=a) (t':=s.toks) (h':=s.heap) (by rw[ea];exact True.intro) (.inl rfl) (fun b u _ z=>z) ⟨_,he⟩ (r9 he hc hd hda h0 hsz fun z=>nomatch z)
 exact hX pins σ _ s a C I' ⟨⟨dd,dh⟩,hle,none,⟨oe,vs,he,hda,hfr rfl⟩,fun T z=>nomatch z⟩ q
def LH(C:Addr)(sp:Sp)(dvs:List V)(EE:aT)(t:TA):TS:=fun _ σ H=>t σ H fun vs H1=>vs.length<=1000/\∀ a,H1 a=none ->
 sp (.ref a::(vs++dvs)) (upd H1 a (b6 C a none true)) (fun v H2=>v = .av/\∃ dd,H2 a=some (b6 C a dd true)/\EE σ (.ref C) (some a) (upd H2 a (b6 C a dd false))) E0
theorem LI(hh:X.A.handled=none)
 (h:wpAny (model X.prog X.w) X.A (eval xe X.env) (fun v ay=>∃ e,v = .ref e/\X.K.In ay.heap/\DX X.K ay.heap e/\X.xe v ay) X.xe s) :
 wpAny (model X.prog X.w) X.A (exec (.Raise (some xe) none pos) X.env) Q X.xe s:=by
 rw[arm_exec_Raise]
 first
  |exact qaa (qbv (yv hh (qaa (qao h (fun v ay h₁=>qaa (qbv (qac h₁))) fun _ _ x=>x))))
  | (simp only[evalOpt,Option.map];exact qaa (qbv (yv hh (qaa (qao h (fun v ay h₁=>qaa (qbv (qac h₁))) fun _ _ x=>x)))))
  | (show wpAny _ _ (do standAt pos;raiseStmt X.env (some (do let v <- eval xe X.env;standAt pos;pure v)) none) Q X.xe s;exact qaa (qbv (yv hh (qaa (qao h (fun v ay h₁=>qaa (qbv (qac h₁))) fun _ _ x=>x)))))
theorem LJ(hX:XOk X EE)(hc:X.calm=true)(M:XMk X.K C fI)(Z:sf X.K C)(F:aD X.prog X.w X.K X.mg X.base bZ k fI fd ps sp)(hr:aj (k+1) X.A)(hg:Gl X x)(hm:X.mg x=some (.ref C))(hb:Binds X.K fd ps ds)(hd:Vals dvs ds)
 (ha:PA X (e::es) t) (hdb:(x == ("__debug__" : Str))=false:=by decide) (he:starEach (e::es) X.env=(false,eval e X.env)::starEach es X.env:=by rfl) (hpl:(backTo cpos (starEach es X.env)).any (·.1)=false:=by rfl) :
 PS X (.Raise (some (.Call (.Name x p) (e::es) [] cpos)) none pos) (LH C sp dvs EE t):=by
 intro pins s σ H D I h
 refine LI (I.ok.hd hc) (qbI (p_ I hg hm ?_ hdb))
 refine W.callWith_K (h₀:=X.base) I.ok.mod.i7 Z.kp (aI (ha cpos pins s σ H _ I h) fun us s1 zq=>?_) he hpl
 obtain⟨vs,H1,I1,r,hlen,q⟩:=zq
 refine⟨I1.aS,?_⟩
 refine aI (LF (Q:=fun v H2=>∃ a dd,v = .ref a/\H2 a=some (b6 C a dd true)/\EE σ (.ref C) (some a) (upd H2 a (b6 C a dd false))) M F hr hb hd I1 r hlen fun a na=>?_) fun u s2 ⟨a,H2,eu,I2,hle,a',dd,yy,ex,q2⟩=>?_
 · have q':=q a na
   have:(fun v H2=>v=V.av/\∃ dd,H2 a=some (b6 C a dd true)/\EE σ (.ref C) (some a) (upd H2 a (b6 C a dd false)))=(fun v H2=>v=V.av/\∃ a' dd,V.ref a=V.ref a'/\H2 a'=some (b6 C a' dd true)/\EE σ (.ref C) (some a') (upd H2 a' (b6 C a' dd false))):=by
    funext v H2
    apply propext
    constructor
    · rintro⟨z,dd,z1,z2⟩;exact⟨z,a,dd,rfl,z1,z2⟩
    · rintro⟨z,a',dd,z0,z1,z2⟩;cases z0;exact⟨z,dd,z1,z2⟩
   rw[<- this]
   exact q'
 · cases yy
   obtain⟨oe,ws,t0,h1,h2,h3,h4,h5,h6,h7⟩:=oF I2.hok ex
   obtain⟨oC,m1,m2⟩:=Z.mt
   exact⟨a,eu,I2.aS,⟨oe,ws,C,oC,h1,h2,Z.xc.be,m1,m2,h4,h7 rfl⟩,by rw[eu];exact LG hX I2 (qa2 I1.sz hle) ex q2⟩
end
def oG(K:W.Frag)(C:Addr)(up:List Value)(nw:String):Bool:=(K.lookup C).any fun o=>o.cls == .type "type" && o.slots.size == 6 && o.slots.toList[4]? == some (some (.builtin nw)) &&
 match o.data with
 | .cls cd=>cd.mro.head? == some (.ref C) && !cd.hasDel && cd.hasDict && W.tailIn K up cd.mro.tail && W.nsOkIn K cd.ns
 | _=>false
theorem LK{l:List (Option Value)}(h:l.length=6)(q:l[4]? = some v):∃ a b c d e,l=[a,b,c,d,v,e]:=by
 rcases l with _ | ⟨a,_ | ⟨b,_ | ⟨c,_ | ⟨d,_ | ⟨x,_ | ⟨e,_ | _⟩⟩⟩⟩⟩⟩<;>simp at h q
 exact⟨a,b,c,d,e,by rw[q]⟩
theorem DY{K:W.Frag}{C:Addr}{up:List Value}{nw:String}(q:oG K C up nw=true) :
 ∃ tl N nm qn bs sn sub ab col dd j0 j1 j2 j3 j5,K.lookup C=some (excClassObj nm qn C N bs tl true sn sub ab col dd j0 j1 j2 j3 j5 nw)/\W.tailIn K up tl=true/\W.nsOkIn K N=true:=by
 unfold oG at q
 cases z:K.lookup C with
 |none=>rw[z] at q;cases q
 |some o =>
   rw[z] at q
   cases o with
   |mk oc od oda osl =>
     simp only[Option.any_some,Bool.and_eq_true,beq_iff_eq] at q
     obtain⟨⟨⟨rfl,sz⟩,s4⟩,q⟩:=q
     cases oda with
     |cls cd =>
       cases cd with
       |mk nm bs mro N qn LL sn sub ab col del =>
         simp only[Bool.not_eq_true',Bool.and_eq_true,beq_iff_eq] at q
         obtain⟨⟨⟨⟨hm,rfl⟩,rfl⟩,ht⟩,hn⟩:=q
         cases mro with
         |nil=>cases hm
         |cons a tl =>
           cases hm
           obtain⟨l⟩:=osl
           obtain⟨a,b,c,d,e,rfl⟩:=LK (by simpa using sz) (by simpa using s4)
           exact⟨tl,N,nm,qn,bs,sn,sub,ab,col,od,a,b,c,d,e,rfl,ht,hn⟩
     | _=>cases q
section
variable{K:W.Frag}{C fI:Addr}{B D nw l9 ini:String}{un up:List Value}
theorem yz(fn:ExcBaseFacts D nw l9 un)(hD:up.contains (.type D)=true)(F:XB B ini up)(q:oG K C up nw=true)(at_:W.findIn K (.ref C) "__init__" = some (some (.ref fI)))(isF:W.isFn K (.ref fI)=true):XMk K C fI:=by
 rintro prog w A E ⟨h,g,d,t,os⟩ as Q X few k
 obtain⟨tl,N,nm,qn,bs,sn,sub,ab,col,dd,j0,j1,j2,j3,j5,hC,ht,hn⟩:=DY q
 exact Lo fn hD F (W.tail_of_in X ht) X (X _ _ hC) at_ (W.bind_fn (X.keeps uW) _ (qas.mp isF)) few (k _ _ ⟨uW,Nat.le_succ _,_,DN⟩)
theorem stores(ok:refuseLoop self "__setattr__" up=pure ()):∀ {l:List Value},W.tailIn K up l=true->refuseLoop self "__setattr__" l=pure ()
 | [],e=>by
   have z:up=[]:=qas.mp e
   rw[<- z];exact ok
 |v::r,e=>by
   unfold W.tailIn at e
   cases z:((v::r) == up) with
   |true=>rw[qas.mp z];exact ok
   |false =>
     rw[z,Bool.false_or] at e
     cases v with
     |ref a =>
       dsimp only at e
       split at e
       · rw[qa1] at e
         rw[refuseLoop_ref]
         exact stores ok e.2
       · cases e
     | _=>cases e
theorem LM(ok:∀ self,refuseLoop self "__setattr__" up=pure ())(q:oG K C up nw=true)
 (ga:W.findIn K (.ref C) "__getattribute__" = some (some (.builtin "BaseException.__getattribute__"))) (gt:W.findIn K (.ref C) "__getattr__" = some none) (sa:W.findIn K (.ref C) "__setattr__" = some (some (.builtin "object.__setattr__")))
 (be:W.mroIn K C (.type "BaseException")=some true) (ob:W.mroIn K C (.type "object")=some true) (ca:W.findIn K (.ref C) "__class__" = some (some (.builtin "object.__class__")))
 (cg:W.specialIn K (.builtin "object.__class__") "__get__" = some (some (.builtin "getset_descriptor.__get__"))) (ct:W.takesIn K (.builtin "object.__class__")=some true) (kc:W.kitCls K (.ref C) (.ref C)=some true) (kp:W.keepIn K (.ref C)=true):sf K C:=by
 obtain⟨tl,N,nm,qn,bs,sn,sub,ab,col,dd,j0,j1,j2,j3,j5,hC,ht,hn⟩:=DY q
 exact⟨⟨ga,gt,sa,be,ob,⟨_,by unfold W.clsIn;rw[hC],rfl,fun self=>by rw[refuseLoop_ref];exact stores (ok self) ht⟩,ca,cg,ct,kc⟩,⟨_,hC,rfl⟩,kp⟩
end
def oH(H:Hp)(a C:Addr):Prop:=∃ fr,H a=some (b6 C a none fr)\/∃ d fs,H a=some (b6 C a (some d) fr)/\H d=some (ke d fs)
noncomputable def uY:V->Option Value
 | .ref a=>some (.ref a)
 | .ty n=>some (.type n)
 | _=>none
theorem LN(h:uY c=some cv)(r:RelV c u):u=cv:=by
 cases c<;>first | (cases h;exact r) | cases h
def yA(K:W.Frag)(H:Hp)(x:V)(t:Value):Prop:=cu K H x t\/∃ a C,x = .ref a/\t = .ref C/\oH H a C/\XC K C
section
variable{X:Cx}
theorem oH.inst(ok:bY P w H h)(q:oH H a C):∃ ox od,W.InstAt h a ox C od:=by
 obtain⟨fr,q | ⟨d,fs,q,q2⟩⟩:=q
 · obtain⟨ox,od,I,_⟩:=yw (K:=[]) ok q fun d z=>nomatch z
   exact⟨ox,od,I⟩
 · obtain⟨mA,hn,_⟩:=DV ok q2
   obtain⟨ox,od,I,_⟩:=yw (K:=[]) ok q fun d' z=>by cases z;exact let ⟨o,_,_,z,_⟩:=hn; ⟨o,z⟩
   exact⟨ox,od,I⟩
theorem DZ:aB X (.builtin "isinstance") (fun xs H Q=>∃ x c t cv b,xs=[x,c]/\uY c=some cv/\yA X.K H x t/\W.kitOne X.K t cv=some b/\Q (.bl b) H):=by
 intro pins s σ H xs us Q I r h
 obtain⟨x,c,t,cv,b,rfl,hc,ty,e,q⟩:=h
 obtain⟨u,u2,rfl,rx,rc⟩:=Vals.two r
 cases LN hc rc
 rcases ty with ty | ⟨a,C,rfl,rfl,ea,c⟩
 · exact Kz I rx ty e fun tk=>⟨.bl b,H,I.tok _,rfl,q⟩
 · obtain rfl:u=Value.ref a:=rx
   exact W.kia_one (Ls c) I.aS (ea.inst I.hok) e (fun z=>nomatch z) fun tk=>⟨.bl b,H,I.tok _,rfl,q⟩
structure oI(K:W.Frag)(b:V)(B initId:String):Prop where
 get:(∃ D,b = .ref D/\W.specialIn K (.ref D) "__getattribute__" = some (some (.builtin "type.__getattribute__"))/\W.readsIn K D (.type "type")=true/\W.findCls K (.ref D) (.type "type") "__init__" = some (.val (.builtin initId))) \/
  (∃ T,b = .ty T/\typeOf (.type T)=pure (.type "type")/\Manifest.isStub T=false/\W.findCls K (.type T) (.type "type") "__init__" = some (.val (.builtin initId)))
 hh:W.handedIn (.builtin initId)=true
 base:∃ bmB,XB B initId bmB
def LO(K:W.Frag)(B:String)(t:TA):TE:=fun σ H Q=>t σ H fun vs H1=>∃ a C fr rest,vs = .ref a::rest/\H1 a=some (b6 C a none fr)/\XC K C/\W.mroIn K C (.type B)=some true/\rest.length<=1000/\Q .av H1
theorem yB{b:V}{B initId:String}{x:Str}{p apos pos:Pos}{e:Expr}{es:List Expr}{t:TA}{pl:Sem Bool}(hb:PE X (.Name x p) (tC b))(Z:oI X.K b B initId)(ha:PA X (e::es) t)
 (hst:starEach (e::es) X.env=(false,eval e X.env)::starEach es X.env:=by rfl) (hpl:(backTo pos (starEach es X.env)).any (·.1)=false:=by rfl)
 (ht:eval (.Call (.Attribute (.Name x p) "__init__" apos) (e::es) [] pos) X.env=(do
  let ov <- eval (.Name x p) X.env
  standAt apos.atName
  let (f,first) <- holding [ov] (getMethod ov "__init__" pl)
  callWith pos f first (backTo pos (starEach (e::es) X.env)) (backToKw pos (keywordEach [] X.env))):=by rfl) :
 PE X (.Call (.Attribute (.Name x p) "__init__" apos) (e::es) [] pos) (LO X.K B t):=by
 intro pins s σ H Q I h
 refine W.methodCall_KW (pl:=pl) (aI (hb pins s σ H (fun v H1=>v=b/\H1=H) I ⟨rfl,rfl⟩) fun u s1 zq=>?_) ht
 obtain⟨x',H1,I1,rx,ex,eH⟩:=zq
 subst ex eH
 obtain⟨bmB,F⟩:=Z.base
 have rest:∀ tk,wpAny (model X.prog X.w) X.A (callWith pos (.builtin initId) [] (backTo pos (starEach (e::es) X.env)) (backToKw pos (keywordEach [] X.env))) (EP X pins σ Q) X.xe { s1 with toks:=tk }:=fun tk=>by
  refine PyProof.Rows.callWith_builtin1 (aI (ha pos pins _ σ H1 _ (I1.tok tk) h) fun us s2 zq=>?_) hst hpl
  obtain⟨vs,H2,I2,r,a,C,fr,rest,ev,ea,c,hm,hl,q⟩:=zq
  subst ev
  cases r with
  | @cons _ u' _ us' ra rr =>
    obtain rfl:u'=Value.ref a:=ra
    obtain⟨oe,ws,t0,h1,h2,h3,h4,h5,h6,h7⟩:=oF I2.hok ea
    obtain⟨ox,od,D0,hdd,_⟩:=yw (K:=X.K) I2.hok ea fun d z=>nomatch z
    have e1:=D0.at_
    rw[h1] at e1
    cases e1
    refine zsV F I2.aS D0 c hm h4 h5 (by rw[<- rr.length,sizeLine_eq];omega) fun h' kp hx=>?_
    refine⟨.av,H2,?_,rfl,q⟩
    have I3:=I2.write (x:=a) (e:=a) (o:=b6 C a none fr) (t':=s2.toks) (h':=h') (by rw[ea];exact True.intro) (.inl rfl) (fun b u hb z=>kp b u hb z) ⟨_,hx⟩ (by
     exact r9 hx h2 h3 rfl (show(ws.setIfInBounds 0 (Value.ref s2.heap.objs.size))[0]? = some (.ref s2.heap.objs.size) by have:0<ws.size:=(by omega);simp[Array.getElem?_setIfInBounds,this]) (by simp;exact h6) (fun z=>by rw[Array.getElem?_setIfInBounds_ne (by decide)];exact h7 z))
    have e2:upd H2 a (b6 C a none fr)=H2:=by
     funext b
     by_cases z:b=a
     · subst z;rw[dh,ea]
     · rw[aW z]
    rw[e2] at I3
    exact I3
 rcases Z.get with ⟨D,rfl,hg,hr,hc⟩ | ⟨T,rfl,h1,h2,hc⟩
 · obtain rfl:u=Value.ref D:=rx
   exact W.method_cls I1.aS hg (W.cls_value I1.aS hr hc Z.hh (rest _))
 · obtain rfl:u=Value.type T:=rx
   obtain⟨m,Fr⟩:=I1.fr
   exact W.method_type Fr I1.ok.mod.i7 h1 h2 hc Z.hh (rest _)
end
structure D4(env:Env)(scope:Scope)(cl:List (Str×Addr)):Prop where
 clos:closureFor scope env=pure cl
 sub:∀ x c,cl.lookup x=some c->env.cells.lookup x=some c
 has:∀ x,(x,NameKind.free)∈scope.names->∃ c,cl.lookup x=some c
theorem lookup_mem{α:Type}{x:Str}{c:α}:∀ {l:List (Str×α)},l.lookup x=some c->(x,c)∈l
 | [],h=>by simp at h
 | (y,d)::r,h=>by
   rw[qbo] at h
   split at h
   · rename_i q
     cases h
     rw[qas.mp q]
     exact qaw ..
   · exact qat _ (lookup_mem h)
theorem mem_lookup{α:Type}{x:Str}{c:α}:∀ {l:List (Str×α)},(x,c)∈l->∃ d,l.lookup x=some d
 | [],h=>nomatch h
 | (y,d)::r,h=>by
   rw[qbo]
   split
   · exact⟨d,rfl⟩
   · rename_i q
     rcases qav.mp h with z | z
     · cases z;simp at q
     · exact mem_lookup z
theorem D5{env:Env}{scope:Scope}(h:∀ x,(x,NameKind.free)∈scope.names->∃ c,env.cells.lookup x=some c):∃ cl,D4 env scope cl:=by
 have go:∀ (names:List (Str×NameKind)) (cs:List (Str×Addr)),(∀ x,(x,NameKind.free)∈names->∃ c,env.cells.lookup x=some c) ->
  ∃ cl,(forIn (m:=Sem) names cs fun x r=>(match x with | (name,kind)=>if (kind == NameKind.free)=true then do let a <- cellOf env name;pure (ForInStep.yield ((name,a)::r)) else pure (ForInStep.yield r)))=pure cl /\
   (∀ y c,(y,c)∈cl->(y,c)∈cs\/env.cells.lookup y=some c)/\(∀ y c,(y,c)∈cs->(y,c)∈cl)/\(∀ y,(y,NameKind.free)∈names->∃ c,(y,c)∈cl):=by
  intro names
  induction names with
  |nil=>intro cs _;exact⟨cs,rfl,fun _ _ z=>.inl z,fun _ _ z=>z,fun _ z=>nomatch z⟩
  |cons p r ih =>
    intro cs hh
    obtain⟨y,k⟩:=p
    by_cases hk:k = .free
    · subst hk
      obtain⟨c,hc⟩:=hh y (qaw ..)
      obtain⟨cl,e,h1,h2,h3⟩:=ih ((y,c)::cs) fun x hx=>hh x (qat _ hx)
      refine⟨cl,?_,fun z d hz=>?_,fun z d hz=>h2 z d (qat _ hz),fun z hz=>?_⟩
      · have ec:cellOf env y=pure c:=by simp only[cellOf,hc]
        rw[List.forIn_cons]
        simp only[beq_self_eq_true,if_true,ec,pure_bind]
        exact e
      · rcases h1 z d hz with q | q
        · rcases qav.mp q with q | q
          · cases q;exact .inr hc
          · exact .inl q
        · exact .inr q
      · rcases qav.mp hz with q | q
        · cases q;exact⟨c,h2 _ _ (qaw ..)⟩
        · exact h3 z q
    · obtain⟨cl,e,h1,h2,h3⟩:=ih cs fun x hx=>hh x (qat _ hx)
      refine⟨cl,?_,h1,h2,fun z hz=>?_⟩
      · rw[List.forIn_cons]
        have:(k == NameKind.free)=false:=by simpa using hk
        simp only[this,Bool.false_eq_true,if_false,pure_bind]
        exact e
      · rcases qav.mp hz with q | q
        · cases q;exact absurd rfl hk
        · exact h3 z q
 obtain⟨cl,e,h1,h2,h3⟩:=go scope.names [] h
 refine⟨cl,?_,fun x c hx=>?_,fun x hx=>?_⟩
 · unfold closureFor
   first
    |exact e
    | (show(forIn (m:=Sem) scope.names ([]:List (Str×Addr)) _ >>= fun r=>pure r)=pure cl;rw[bind_pure];exact e)
    | (rw[bind_pure];exact e)
    | (trace_state;fail "x")
 · exact(h1 x c (lookup_mem hx)).elim (fun z=>nomatch z) id
 · obtain⟨c,hc⟩:=h3 x hx
   exact mem_lookup hc
abbrev Cx.blk(X:Cx)(Nc:List Str)(scope:Scope)(cl:List (Str×Addr))(C:Addr)(s3:Shared)(H3:Hp)(fp:List Addr)(pn':List (Addr×Obj))(E':Value->Shared->Prop):Cx :=
 { X with N:=Nc,s₀:=s3,H₀:=H3,env:=compEnvC scope cl C X.env,outer:=X.stack,ex:=fp,fn:=fun _=>false,pn:=pn',xe:=E' }
def ao(fr:List Nat)(own:Nat)(σ:St):St:=List.replicate own none++fr.map fun j=>(σ[j]?).join
structure eU(X:Cx)(scope:Scope)(Nc:List Str)(own:Nat)(fr:List Nat):Prop where
 len:Nc.length=own+fr.length
 free:∀ (k j:Nat) (x:Str),fr[k]? = some j->Nc[own+k]? = some x->X.N[j]? = some x/\(X.env.scope.names.lookup x=some .cell\/X.env.scope.names.lookup x=some .free)/\scope.names.lookup x=some .free
 kind:scope.kind = .function
 gc:∀ y∈scope.names,y.2 ≠ .cell
 names:∀ x∈scope.names,x.2 = .local->scope.names.lookup x.1=some .local
 frees:∀ x,(x,NameKind.free)∈scope.names->X.env.scope.names.lookup x=some .cell\/X.env.scope.names.lookup x=some .free
def nq(X:Cx)(ifs:List Expr)(t:TT):Prop :=
 ∀ (pins:List (Addr×Obj)) (s:Shared) (σ:St) (H:Hp) (Q:Bool->Hp->Prop),Inv X pins σ H s->t σ H Q ->
  wpAny (model X.prog X.w) X.A (forIn ifs true fun c r=>if r=true then do let ok <- isTrue c X.env (eval c X.env);pure (ForInStep.yield ok) else pure (ForInStep.yield r)) (TP X pins σ Q) X.xe s
theorem LP:nq X [] (fun _ H Q=>Q true H):=fun _ _ _ H _ I h=>wpAny_tests_nil ⟨H,I,h⟩
theorem LQ(h:PT X c t):nq X [c] t:=fun pins s σ H Q I q=>wpAny_tests_one (h pins s σ H Q I q)
def yC(fr:List Nat)(own:Nat)(wi:TI)(g:TG)(tc:TT)(te:TE):TE:=fun σ H Q=>wi σ H fun J H1=>∀ D,H1 D=none->∃ W:Nat->Nat->List V->Hp->Prop,(∃ m,W 0 m [] (upd H1 D (.lst []))) /\
 ∀ i m ys H2,H2 D=some (.lst ys)->W i m ys H2->(J.stop i H2/\Q (.ref D) H2)\/(J.go i H2/\ys.length<sizeLine/\∀ x H3,J.lT i H2 x H3->g x (ao fr own σ) H3 fun cW H4=>tc cW H4 fun b H5 =>
  if b=true then te cW H5 fun y H6=>H6 D=some (.lst ys)/\∃ m',m'<m/\W (i+1) m' (ys++[y]) (upd H6 D (.lst (ys++[y]))) else H5 D=some (.lst ys)/\∃ m',m'<m/\W (i+1) m' ys H5)
theorem D6{scope:Scope}(hn:∀ y∈scope.names,y.2 ≠ .cell)(h:(relabel scope env).names.lookup x=some k)(hk:k = .cell\/k = .free):(x,NameKind.free)∈scope.names:=by
 have m:=lookup_mem h
 obtain⟨⟨y,k'⟩,hy,e⟩:=qa7.mp m
 dsimp only at e
 split at e
 · rename_i q
   rw[qa1,qa1] at q
   have LR:=qas.mp q.1.1
   cases e
   rw[LR] at hy
   exact hy
 · cases e
   rcases hk with rfl | rfl
   · exact absurd rfl (hn _ hy)
   · exact hy
theorem LU{scope:Scope}(h:scope.names.lookup x=some .free):(relabel scope env).names.lookup x=some .cell\/(relabel scope env).names.lookup x=some .free:=by
 unfold relabel
 dsimp only
 generalize scope.names=l at h
 induction l with
 |nil=>simp at h
 |cons p r ih =>
   obtain⟨y,k⟩:=p
   rw[qbo] at h
   rw[qaV, ]
   split at h
   · rename_i q
     cases h
     dsimp only
     split
     · rw[qbo,q];exact .inl rfl
     · rw[qbo,q];exact .inr rfl
   · rename_i q
     dsimp only
     split
     · rw[qbo,q];exact ih h
     · rw[qbo,q];exact ih h
section
variable{X:Cx}{pins:List (Addr×Obj)}{σ:St}{H:Hp}{s:Shared}
theorem Inv.block{scope:Scope}{Nc:List Str}{own:Nat}{fr:List Nat}{cl:List (Str×Addr)}{fp:List Addr}{h₁:Heap}{t':Nat}{E':Value->Shared->Prop}(I:Inv X pins σ H s)(B:eU X scope Nc own fr)(iy:D4 X.env scope cl)
 (hfp:∀ b∈fp,ig X pins H b/\∃ o,s.heap.get? b=some o) (hns:h₁.Ns s.heap.objs.size (fun _=>none)) (keep:∀ b o,s.heap.get? b=some o->h₁.get? b=some o) :
 Inv (X.blk Nc scope cl s.heap.objs.size s H fp (X.pn++pins) E') [] (ao fr own σ) H { s with heap:=h₁,toks:=t' }:=by
 have lt:∀ b∈fp,b<s.heap.objs.size:=fun b hb=>let ⟨_,_,e⟩:=hfp b hb;qaf e
 have yD:∀ x c,X.env.cells.lookup x=some c->c<s.heap.objs.size:=fun x c e=>let ⟨_,_,e,_⟩:=I.cell x c e;qaf e
 refine⟨⟨I.ok.mod,B.kind,I.ok.glob,I.ok.blt,qag _,fun x y c h1 h2=>I.ok.inj x y c (iy.sub x c h1) (iy.sub y c h2),fun x hx=>?_,(fun x c z=>nomatch z),I.ok.hd,I.ok.frames,.inl rfl,fun b hb=>?_,I.bs,qa2 I.ok.jW I.sz,fun b o e hb=>?_,fun b hb=>?_,I.stack,I.fX⟩,
  rfl,I.bare,Un.kept keep,⟨_,hns,fun i x v e1 e2 e3=>?_⟩,fun x c e=>?_,I.hok.fresh (qag _),fun x c e=>I.bT x c (iy.sub x c e),fun p hp=>?_,I.hok.kept keep,?_⟩
 · rcases hx with hx | hx
   · exact iy.has x (D6 B.gc hx (.inl rfl))
   · exact iy.has x (D6 B.gc hx (.inr rfl))
 · exact⟨qal (lt b hb),fun x c e z=>(hfp b hb).1.2.2.2.2.1 x c (iy.sub x c e) z⟩
 · -- a base object is no iterator of ours
   have e0:=I.ok.bs b o e
   rcases(hfp b hb).1.2.2.2.1 with z | z
   · exact I.ok.jX b o e z
   · exact absurd (qax (qax (qaf e) I.ok.jW) z) (qbf _)
 · intro z
   rcases qav.mp (I.fW b z) with z | z
   · exact(hfp b hb).1.2.1 z
   · exact(hfp b hb).1.2.2.1 z
 · -- a slot
   unfold ao at e2
   by_cases hi:i<own
   · rw[qaH (by simpa using hi),qbi,qay hi] at e2
     cases e2
   · have hge:own<=i:=Nat.le_of_not_lt hi
     rw[qaA (by simpa using hge),qbH,qaE] at e2
     cases hj:fr[i - own]? with
     |none=>rw[hj] at e2;cases e2
     |some j =>
       rw[hj] at e2
       have e2':(σ[j]?).join=some v:=by simpa using e2
       have e4:σ[j]? = some (some v):=by
        cases q:σ[j]? with
        |none=>rw[q] at e2';cases e2'
        |some o=>rw[q] at e2';have:o=some v:=e2';rw[this]
       have e5:Nc[own+(i - own)]? = some x:=by rw[Nat.add_sub_cancel' hge];exact e1
       obtain⟨n1,n2,n3⟩:=B.free (i - own) j x hj e5
       obtain⟨m,hn,hl⟩:=I.loc
       have LV:rM X.env.scope x:=n2.elim (fun z=>.inr (.inl z)) fun z=>.inr (.inr z)
       obtain⟨u,r,l⟩:=hl j x v n1 e4 LV
       refine⟨u,r,.inr ⟨LU n3,?_⟩⟩
       rcases l with ⟨k,_⟩ | ⟨_,c,hc,hcell⟩
       · rcases n2 with n2 | n2
         · have k':X.env.scope.names.lookup x=some .local:=k
           rw[n2] at k';cases k'
         · have k':X.env.scope.names.lookup x=some .local:=k
           rw[n2] at k';cases k'
       · obtain⟨c',hc'⟩:=iy.has x (lookup_mem n3)
         have e6:=iy.sub x c' hc'
         rw[hc] at e6
         cases e6
         obtain⟨o,ho,hd⟩:=hcell
         exact⟨c,hc',o,keep _ _ ho,hd⟩
 · obtain⟨v,o,ho,hd⟩:=I.cell x c (iy.sub x c e)
   exact⟨v,o,keep _ _ ho,hd⟩
 · have hp':p∈X.pn++pins:=by simpa using hp
   obtain⟨e,n,ne,nf,d⟩:=I.pin p hp'
   refine⟨keep _ _ e,n,qal (qaf e),fun z=>?_,d⟩
   rcases qav.mp (I.fW p.1 z) with z | z
   · exact ne z
   · exact nf z
 · show(ao fr own σ).length=Nc.length
   unfold ao
   rw[qaq,qbH,qaK,B.len]
theorem Inv.iR{scope:Scope}{Nc:List Str}{cl:List (Str×Addr)}{fp:List Addr}{E':Value->Shared->Prop}{jY:List (Addr×Obj)}{ax:St}{H':Hp}{s':Shared}{h':Heap}(I:Inv X pins σ H s)(hfp:∀ b∈fp,ig X pins H b)
 (J:Inv (X.blk Nc scope cl s.heap.objs.size s H fp (X.pn++pins) E') jY ax H' s') (sb:Heap.SameBut s.heap.objs.size s'.heap h'):Inv X pins σ H' { s' with heap:=h' }:=by
 have ne:∀ b o,s.heap.get? b=some o->b≠s.heap.objs.size:=fun b o e=>qal (qaf e)
 have hC:H' s.heap.objs.size=none:=J.free
 refine I.ng (s':={ s' with heap:=h' }) (ch:=fp) J.os ⟨fun b o e n hb hx=>?_,fun b o e n hb hx=>?_,J.base.free,fun b o e hx=>?_,J.base.tups,J.base.d7,J.base.eQ⟩ (fun b u e=>?_) J.bare fun b hb=>?_
 · exact(sb.2 b (ne b o e)).trans (J.base.keep b o e n hb hx)
 · obtain⟨sl,z⟩:=J.base.slot b o e n hb hx
   exact⟨sl,(sb.2 b (ne b o e)).trans z⟩
 · obtain⟨o',z⟩:=J.base.there b o e hx
   exact⟨o',(sb.2 b (ne b o e)).trans z⟩
 · refine(J.hok b u e).stay (fun c v hc q=>(sb.2 c ?_).trans q) (fun _ q=>q) fun _ _ q=>q
   rintro rfl
   rcases hc with rfl | hc
   · rw[hC] at e;cases e
   · rw[hC] at hc;cases hc
 · obtain⟨f0,f1,f2,f3,f4,f5⟩:=hfp b hb
   exact⟨f3,f1,f4,f5⟩
def kg(own:Nat)(g:TG):Prop:=∀ (x:V) (σ:St) (H:Hp) (Q:St->Hp->Prop),g x σ H Q->g x σ H fun ax H'=>Q ax H'/\∀ k,own<=k->ax[k]? = σ[k]?
def uZ(own:Nat)(g:i_):Prop:=∀ (x:List V) (σ:St) (H:Hp) (Q:St->Hp->Prop),g x σ H Q->g x σ H fun ax H'=>Q ax H'/\∀ k,own<=k->ax[k]? = σ[k]?
theorem u0(h:i<own):kg own (ja i):=fun x σ H Q q=>⟨q,fun k hk=>qai (by omega)⟩
theorem LW:uZ own qb:=fun x σ H Q q=>⟨q.1,q.2,fun _ _=>rfl⟩
theorem D7(h:i<own)(hu:uZ own u):uZ own (nh (ja i) u):=fun x σ H Q q=>by
 obtain⟨v,r,e,q⟩:=q
 refine⟨v,r,e,?_⟩
 have q':=hu r _ H _ q
 have e2:(fun ax H'=>Q ax H'/\∀ k,own<=k->ax[k]? = (σ.set i (some v))[k]?)=(fun ax H'=>Q ax H'/\∀ k,own<=k->ax[k]? = σ[k]?):=by
  funext ax H'
  apply propext
  constructor
  · rintro⟨a,b⟩
    exact⟨a,fun k hk=>by rw[b k hk,qai (by omega)]⟩
  · rintro⟨a,b⟩
    exact⟨a,fun k hk=>by rw[b k hk,qai (by omega)]⟩
 rw[e2] at q'
 exact q'
theorem LX{own n:Nat}{K:W.Frag}{u:i_}(hu:uZ own u):kg own (qd K n u):=fun x σ H Q q=>by
 obtain⟨a,xs,e1,e2,e3,q⟩:=q
 exact⟨a,xs,e1,e2,e3,hu xs σ H Q q⟩
end
def turnOf(e:Expr)(k:Nat)(tg:Expr)(p:Pos)(ifs:List Expr)(act:Sem Unit)(it acc:Value)(env:Env):Sem Fin:=do
 standAt p
 match <- pyNext it with
 |none=>pure (.done .next)
 |some v =>
   letOwnedTupleGo tg it v
   assign tg env v
   let mut ok:=true
   for c in ifs do
    if ok then ok <- isTrue c env (eval c env)
   if ok then act
   again (.compLoop e k it acc env)
abbrev LY(M:Model)(A:Around)(env:Env)(tg:Expr)(it:Value)(ifs:List Expr)(act:Sem Unit)(N:Value->Shared->Prop)(next:Shared->Prop)(v:Value)(s:Shared):Prop :=
 wpAny M A (letOwnedTupleGo tg it v) (fun _ a=>wpAny M A (assign tg env v) (fun _ b =>
  wpAny M A (forIn ifs true fun c r=>if r=true then do let ok <- isTrue c env (eval c env);pure (ForInStep.yield ok) else pure (ForInStep.yield r)) (fun yes c =>
   if yes=true then wpAny M A act (fun _=>next) N c else next c) N b) N a) N s
theorem LZ(ht:compTurn (.ListComp el gs sc pos) k it acc env=turnOf (.ListComp el gs sc pos) k tg p ifs act it acc env)(J:Nat->Shared->Prop)(n:Nat)(start:J n s)
 (turn:∀ n s,J n s->wpAny (model prog w) A (pyNext it) (fun r a=>match r with
  |none=>R (.ok .next) a
  |some v=>LY (model prog w) A env tg it ifs act (notedBy (model prog w) A env fun x=>R (.error x)) (fun b=>∃ m,m<n/\J m b) v a) (notedBy (model prog w) A env fun x=>R (.error x)) s) :
 codeAny (model prog w) A (.compLoop (.ListComp el gs sc pos) k it acc env) R s:=by
 apply codeAny_loop rfl J _ n start
 intro n s j
 change wpAny _ A (Sem.onRaise (compTurn (.ListComp el gs sc pos) k it acc env) fun x=>do noteFrame x env;theTreesLotGoes x) _ _ s
 apply wpAny_noted;rw[ht];unfold turnOf
 apply qaa;apply qbv;apply qaa;apply qao (turn n s j) _ fun _ _ z=>z
 intro r a k
 cases r with
 |none=>exact qac k
 |some v =>
   apply qaa;apply qao k _ fun _ _ z=>z;intro _ b k
   apply qaa;apply qao k _ fun _ _ z=>z;intro _ c k
   apply qaa;apply qao k _ fun _ _ z=>z;intro yes d k
   cases yes
   · exact qac (And.intro rfl k)
   · apply qaa;apply qao k _ fun _ _ z=>z;intro _ f k
     exact qac (And.intro rfl k)
abbrev u3:=St->Hp->Addr->List V->(List V->Hp->Prop)->Prop
def D8(Y:Cx)(L:List V->Prop)(te:u3)(act:Value->Sem Unit):Prop:=∀ (pins:List (Addr×Obj)) (s:Shared) (σ:St) (H:Hp) (D:Addr) (ys:List V) (K:List V->Hp->Prop),Inv Y pins σ H s->L ys->te σ H D ys K ->
 wpAny (model Y.prog Y.w) Y.A (act (.ref D)) (fun _ s'=>∃ H' ys',Inv Y pins σ H' s'/\H' D=some (.lst ys')/\K ys' H') (fun _ _=>False) s
noncomputable def emit(el:Expr)(env:Env)(acc:Value):Sem Unit:=do let _ <- call (.builtin "list.append") [acc, <- eval el env]
def yE(te:TE):u3:=fun σ H D ys K=>te σ H fun y H6=>H6 D=some (.lst ys)/\K (ys++[y]) (upd H6 D (.lst (ys++[y])))
abbrev yF(ys:List V):Prop:=ys.length<sizeLine
theorem D9{Y:Cx}(hx:Y.xe=fun _ _=>False)(he:PE Y el te):D8 Y yF (yE te) (emit el Y.env):=by
 intro pins s σ H D ys K J hlen q
 unfold emit
 refine qaa (qao (he pins s σ H _ J q) (fun v s8 zq=>?_) fun _ _ z=>by rw[hx] at z;exact z)
 obtain⟨y,H8,J8,r8,e8,k8⟩:=zq
 refine qaa (qao (yn _ s8 σ H8 (.ref D) [y] (.ref D) [v] (fun _ H9=>H9=upd H8 D (.lst (ys++[y]))) J8 rfl (.cons r8 .nil) ⟨_,ys,y,rfl,rfl,e8,hlen,rfl⟩) (fun _ s9 zq=>?_) fun _ _ z=>by rw[hx] at z;exact z)
 obtain⟨_,H9,J9,_,e9⟩:=zq
 subst e9
 exact qac ⟨_,_,J9,dh,k8⟩
def yG(fr:List Nat)(own:Nat)(wi:TI)(g:TG)(tc:TT)(L:List V->Prop)(te:u3):TE:=fun σ H Q=>wi σ H fun J H1=>∀ D,H1 D=none->∃ W:Nat->Nat->List V->Hp->Prop,(∃ m,W 0 m [] (upd H1 D (.lst []))) /\
 ∀ i m ys H2,H2 D=some (.lst ys)->W i m ys H2->(J.stop i H2/\Q (.ref D) H2)\/(J.go i H2/\L ys/\∀ x H3,J.lT i H2 x H3->g x (ao fr own σ) H3 fun cW H4=>tc cW H4 fun b H5 =>
  if b=true then te cW H5 D ys (fun ys' H6=>∃ m',m'<m/\W (i+1) m' ys' H6) else H5 D=some (.lst ys)/\∃ m',m'<m/\W (i+1) m' ys H5)
section
variable{X:Cx}{pins:List (Addr×Obj)}{σ:St}{H:Hp}{s:Shared}
theorem D_{elt tg iter:Expr}{ifs:List Expr}{scope:Scope}{pos oJ:Pos}{Nc:List Str}{own:Nat}{fr:List Nat}{wi:TI}{g:TG}{tc:TT}{L:List V->Prop}{te:u3}{act:Env->Value->Sem Unit}{gs:List Comprehension}{use:Option (Value->Sem Unit)}{QQ:Value->Shared->Prop}{Q:VK}(hc:X.calm=true)(B:eU X scope Nc own fr)(hi:PI X tg iter wi)(hog:kg own g)
 (hg:∀ cl C s3 H3 fp pn',PG (X.blk Nc scope cl C s3 H3 fp pn' fun _ _=>False) tg g) (ht:∀ cl C s3 H3 fp pn',nq (X.blk Nc scope cl C s3 H3 fp pn' fun _ _=>False) ifs tc) (hturn:∀ it acc env,compTurn (.ListComp elt (⟨tg,iter,ifs,0⟩::gs) scope pos) 0 it acc env=turnOf (.ListComp elt (⟨tg,iter,ifs,0⟩::gs) scope pos) 0 tg iter.pos ifs (act env acc) it acc env) (ha:∀ cl C s3 H3 fp pn',D8 (X.blk Nc scope cl C s3 H3 fp pn' fun _ _=>False) L te (act (compEnvC scope cl C X.env)))
 (hs:∀ x,foldedSetIterable iter X.env x=pure x) (I:Inv X pins σ H s) (h:yG fr own wi g tc L te σ H Q)
 (fin:∀ (D C:Addr) (H3:Hp) (s4:Shared),(∃ m,s4.heap.Ns C m)->ig X pins H3 C->(∀ h',Heap.SameBut C s4.heap h'->Inv X pins σ H3 { s4 with heap:=h' })->Q (.ref D) H3->compPost (model X.prog X.w) X.A X.xe use QQ (.ref D) C (.ok .next) s4) :
 wpAny (model X.prog X.w) X.A (comprehension (.ListComp elt (⟨tg,iter,ifs,0⟩::gs) scope pos) scope X.env oJ (newList []) false (eval iter X.env) use) QQ X.xe s:=by
 obtain⟨cl,iy⟩:=D5 (env:=X.env) (scope:=scope) fun x hx=>I.ok.has x (B.frees x hx)
 apply wpAny_comprehension_free rfl hs iy.clos B.kind B.names
 apply qao (hi pins s σ H _ I h) _ fun _ _ e=>e
 intro xv s1 h1
 apply qao h1 _ fun _ _ e=>e
 intro itv s2 h2
 obtain⟨it,fp,tn,J,H2,rfl,I2,T,st2,f2,q⟩:=h2
 refine qbr (wpAny_newFunctionEnv B.gc (by intro y hy;simp at hy) (fun h₁ iz iA=>?_) B.kind)
 have hD:H2 s2.heap.objs.size=none:=I2.hok.fresh (qag _)
 obtain⟨W,⟨m0,w0⟩,turn⟩:=q s2.heap.objs.size hD
 have I3:Inv X pins σ (upd H2 s2.heap.objs.size (.lst [])) { s2 with heap:=s2.heap.push { cls:=.type "list",dict:=none,data:=.seq ([]:List Value).toArray } } :=
  I2.laid (t':=s2.toks) (fun b u e=>qab _ e) (qag _) ⟨qbp _,[],0,.nil,qah _ rfl⟩
 have oK:∀ b∈fp,b≠s2.heap.objs.size:=fun b hb=>let ⟨o,e,_⟩:=T.obj _ _ st2 b hb;qal (qaf e)
 have f3:∀ b∈fp,ig X pins (upd H2 s2.heap.objs.size (.lst [])) b:=fun b hb=>⟨by rw[aW (oK b hb)];exact(f2 b hb).1,(f2 b hb).2⟩
 have keep:∀ b o,(s2.heap.push { cls:=.type "list",dict:=none,data:=.seq ([]:List Value).toArray }).get? b=some o->h₁.get? b=some o:=fun b o e =>
  (iA.2 b (qal (qaf e))).trans (qab _ e)
 have IY:=I3.block (h₁:=h₁) (t':=s2.toks+([]:List (Str×Value)).length) (E':=fun _ _=>False) B iy (fun b hb=>⟨f3 b hb,let ⟨o,e,_⟩:=T.obj _ _ st2 b hb; ⟨o,qab _ e⟩⟩) iz keep
 have st1:tn 0 h₁:=T.keep _ _ _ st2 fun b hb o e=>keep b o (qab _ e)
 have fY:∀ {H':Hp},(∀ b∈fp,H' b=none)->∀ b∈fp,ig (X.blk Nc scope cl (s2.heap.push { cls:=.type "list",dict:=none,data:=.seq ([]:List Value).toArray }).objs.size { s2 with heap:=s2.heap.push { cls:=.type "list",dict:=none,data:=.seq ([]:List Value).toArray } } (upd H2 s2.heap.objs.size (.lst [])) fp (X.pn++pins) fun _ _=>False) [] H' b:=fun hn b hb =>
  ⟨hn b hb,(IY.ok.pZ b hb).1,IY.ok.i8 b hb,.inl hb,(IY.ok.pZ b hb).2,fun p hp=>(f2 b hb).2.2.2.2.2 p (by simpa using hp)⟩
 have loop:codeAny (model X.prog X.w) X.A (.compLoop (.ListComp elt (⟨tg,iter,ifs,0⟩::gs) scope pos) 0 (.ref it) (.ref s2.heap.objs.size) (compEnvC scope cl (s2.heap.push { cls:=.type "list",dict:=none,data:=.seq ([]:List Value).toArray }).objs.size X.env))
  (compPost (model X.prog X.w) X.A X.xe use QQ (.ref s2.heap.objs.size) (s2.heap.push { cls:=.type "list",dict:=none,data:=.seq ([]:List Value).toArray }).objs.size) { s2 with heap:=h₁,toks:=s2.toks+([]:List (Str×Value)).length }:=by
  refine LZ (hturn _ _ _) (fun n s'=>∃ i ys H',Inv (X.blk Nc scope cl (s2.heap.push { cls:=.type "list",dict:=none,data:=.seq ([]:List Value).toArray }).objs.size { s2 with heap:=s2.heap.push { cls:=.type "list",dict:=none,data:=.seq ([]:List Value).toArray } } (upd H2 s2.heap.objs.size (.lst [])) fp (X.pn++pins) fun _ _=>False) [] (ao fr own σ) H' s'/\tn i s'.heap/\(∀ b∈fp,H' b=none)/\H' s2.heap.objs.size=some (.lst ys)/\W i n ys H')
   m0 ⟨0,[],_,IY,st1,fun b hb=>(f3 b hb).1,dh,w0⟩ ?_
  rintro n s3 ⟨i,ys,H3,J3,st3,ni,e3,w3⟩
  rcases turn i n ys H3 e3 w3 with ⟨stop,qn⟩ | ⟨go,hlen,step⟩
  · refine aI (T.done (X.blk Nc scope cl (s2.heap.push { cls:=.type "list",dict:=none,data:=.seq ([]:List Value).toArray }).objs.size { s2 with heap:=s2.heap.push { cls:=.type "list",dict:=none,data:=.seq ([]:List Value).toArray } } (upd H2 s2.heap.objs.size (.lst [])) fp (X.pn++pins) fun _ _=>False) rfl rfl rfl hc i [] s3 _ H3 _ J3 (fY ni) st3 stop) fun r s4 zq=>?_
    obtain⟨hr,J4⟩:=zq
    subst hr
    obtain⟨m,hn,_⟩:=J4.loc
    exact fin _ _ H3 s4 ⟨m,hn⟩ (I3.gF (qag _) J4.free) (fun h' sb=>I3.iR f3 J4 sb) qn
  · refine aI (T.item (X.blk Nc scope cl (s2.heap.push { cls:=.type "list",dict:=none,data:=.seq ([]:List Value).toArray }).objs.size { s2 with heap:=s2.heap.push { cls:=.type "list",dict:=none,data:=.seq ([]:List Value).toArray } } (upd H2 s2.heap.objs.size (.lst [])) fp (X.pn++pins) fun _ _=>False) rfl rfl rfl hc i [] s3 _ H3 _ J3 (fY ni) st3 go) fun r s4 zq=>?_
    obtain⟨u,hr,h4⟩:=zq
    subst hr
    refine aI h4 fun _ s5 zq=>?_
    obtain⟨x,H5,J5,r5,y5,eF,rV⟩:=zq
    have yH:=J5.pinned (fY rV) (T.obj _ _ eF)
    have lift:∀ {α:Type} {m:Sem α} {Q':α->Shared->Prop} {E':Value->Shared->Prop} {s':Shared},wpAny (model X.prog X.w) X.A m Q' (fun _ _=>False) s'->wpAny (model X.prog X.w) X.A m Q' E' s':=fun h=>qao h (fun _ _ z=>z) fun _ _ z=>z.elim
    refine lift (aI (hg _ _ _ _ _ _ _ s5 _ H5 x u _ yH r5 (hog _ _ _ _ (step x H5 y5))) fun _ s6 zq=>?_)
    obtain⟨j4,H6,J6,q6,oM⟩:=zq
    refine lift (aI (ht _ _ _ _ _ _ _ s6 j4 H6 _ J6 q6) fun b s7 zq=>?_)
    obtain⟨H7,J7,q7⟩:=zq
    have back:∀ {H8:Hp} {s8:Shared} {ys':List V} {m':Nat},Inv (X.blk Nc scope cl (s2.heap.push { cls:=.type "list",dict:=none,data:=.seq ([]:List Value).toArray }).objs.size { s2 with heap:=s2.heap.push { cls:=.type "list",dict:=none,data:=.seq ([]:List Value).toArray } } (upd H2 s2.heap.objs.size (.lst [])) fp (X.pn++pins) fun _ _=>False) ([]++qg fp s5.heap) j4 H8 s8->H8 s2.heap.objs.size=some (.lst ys')->m'<n->W (i+1) m' ys' H8 ->
     ∃ m,m<n/\∃ i ys H',Inv (X.blk Nc scope cl (s2.heap.push { cls:=.type "list",dict:=none,data:=.seq ([]:List Value).toArray }).objs.size { s2 with heap:=s2.heap.push { cls:=.type "list",dict:=none,data:=.seq ([]:List Value).toArray } } (upd H2 s2.heap.objs.size (.lst [])) fp (X.pn++pins) fun _ _=>False) [] (ao fr own σ) H' s8/\tn i s8.heap/\(∀ b∈fp,H' b=none)/\H' s2.heap.objs.size=some (.lst ys)/\W i m ys H':=fun {H8 s8 ys' m'} J8 e8 hm w8=>by
     refine⟨m',hm,i+1,ys',H8,?_,T.keep _ _ _ eF fun b hb o e=>(J8.pin (b,o) (qar _ (qar _ (qh hb e)))).1,fun b hb=>?_,e8,w8⟩
     · refine(Inv.cb (pins:=[]) J8).weak ?_ fun j v' z=>?_
       · rw[IY.len];exact J8.len.symm
       · by_cases hj:j<own
         · unfold ao at z
           rw[qaH (by simpa using hj),qbi,qay hj] at z
           cases z
         · rw[oM j (Nat.le_of_not_lt hj)];exact z
     · obtain⟨o,e,d⟩:=T.obj _ _ eF b hb
       exact(J8.pin (b,o) (qar _ (qar _ (qh hb e)))).2.1
    cases b with
    |false =>
      obtain⟨e7,m',hm,w7⟩:=(show H7 s2.heap.objs.size=some (.lst ys)/\∃ m',m'<n/\W (i+1) m' ys H7 from by simpa using q7)
      exact back J7 e7 hm w7
    |true =>
      have yI:te j4 H7 s2.heap.objs.size ys (fun ys' H6=>∃ m',m'<n/\W (i+1) m' ys' H6):=by simpa using q7
      refine lift (aI (ha _ _ _ _ _ _ _ s7 j4 H7 _ ys _ J7 hlen yI) fun v s8 zq=>?_)
      obtain⟨H8,ys',J8,e8,m',hm,w8⟩:=zq
      exact back J8 e8 hm w8
 exact codeAny_compStart_list loop (T.self _ _ _ _ _ st1 loop)
theorem L0(hc:X.calm=true)(B:eU X scope Nc own fr)(hi:PI X tg iter wi)(hog:kg own g)
 (hg:∀ cl C s3 H3 fp pn',PG (X.blk Nc scope cl C s3 H3 fp pn' fun _ _=>False) tg g) (ht:∀ cl C s3 H3 fp pn',nq (X.blk Nc scope cl C s3 H3 fp pn' fun _ _=>False) ifs tc) (he:∀ cl C s3 H3 fp pn',PE (X.blk Nc scope cl C s3 H3 fp pn' fun _ _=>False) elt te)
 (hs:∀ x,foldedSetIterable iter X.env x=pure x:=by intro _;rfl):PE X (.ListComp elt [⟨tg,iter,ifs,0⟩] scope pos) (yC fr own wi g tc te):=by
 intro pins s σ H Q I h
 rw[eval_ListComp]
 exact D_ (act:=fun env acc=>emit elt env acc) (QQ:=EP X pins σ Q) hc B hi hog hg ht (fun _ _ _=>rfl) (fun cl C s3 H3 fp pn'=>D9 rfl (he cl C s3 H3 fp pn')) hs I (show yG fr own wi g tc yF (yE te) σ H Q from h) fun L C H3 s4 hn f sg q=>let ⟨m,hm⟩:=hn; ⟨m,hm,fun h' sb=>⟨.ref L,H3,sg h' sb,rfl,q⟩⟩
theorem L1{pos py spos:Pos}(hN:X.N.Nodup)(hi':X.N[i]? = some y)(hx:Loc X.env.scope y)(hc:X.calm=true)(B:eU X scope Nc own fr)(hi:PI X tg iter wi)(hog:kg own g)
 (hg:∀ cl C s3 H3 fp pn',PG (X.blk Nc scope cl C s3 H3 fp pn' fun _ _=>False) tg g) (ht:∀ cl C s3 H3 fp pn',nq (X.blk Nc scope cl C s3 H3 fp pn' fun _ _=>False) ifs tc) (he:∀ cl C s3 H3 fp pn',PE (X.blk Nc scope cl C s3 H3 fp pn' fun _ _=>False) elt te)
 (hs:∀ x,foldedSetIterable iter X.env x=pure x:=by intro _;rfl) (hsw:swapsWith (.ListComp elt [⟨tg,iter,ifs,0⟩] scope pos) (some (.Name y py)) spos.line X.env=pure true:=by rfl)
 (hf:X.fn y=true\/X.env.scope.names.lookup y=some .local:=by first | exact .inl rfl | exact .inr rfl | assumption) :
 PS X (.Assign [.Name y py] (.ListComp elt [⟨tg,iter,ifs,0⟩] scope pos) spos) (qf (yC fr own wi g tc te) (ja i)):=by
 intro pins s σ H D I h
 rw[exec_Assign_Name_used (hs:=hsw)]
 apply qaa;apply qbv;apply qaa
 change wpAny _ _ (comprehension (.ListComp elt [⟨tg,iter,ifs,0⟩] scope pos) scope X.env _ (newList []) false (eval iter X.env) (some (assign (.Name y py) X.env)) >>= fun _=>pure ()) _ _ _
 apply qaa
 refine qao (D_ (Q:=fun x H1=>ja i x σ H1 D.nx) (act:=fun env acc=>emit elt env acc) (QQ:=fun _ s'=>SP X pins D .next s') hc B hi hog hg ht (fun _ _ _=>rfl) (fun cl C s3 H3 fp pn'=>D9 rfl (he cl C s3 H3 fp pn')) hs I (show yG fr own wi g tc yF (yE te) σ H _ from h) (fun L C H3 s4 hn f sg q=>?_)) (fun _ s' q=>qac (qac q)) fun _ _ e=>e
 obtain⟨m,o,es,ep,ho,hd,r⟩:=hn
 have I4:Inv X pins σ H3 s4:=sg s4.heap (Heap.SameBut.refl _ _)
 obtain⟨f0,f1,f2,f3,f4,f5⟩:=f
 have I5:Inv X ((C,o)::pins) σ H3 s4:=I4.dU fun p hp=>by
  rcases qav.mp hp with e | e
  · subst e;exact⟨ho,f0,f1,f2,fun v z=>by rw[hd] at z;cases z⟩
  · exact I4.pin p (qar _ e)
 show wpAny _ _ (assign (.Name y py) X.env (.ref L)) _ _ _
 apply wpAny_assign_Name
 apply xP I5 hN hi' hx (v:=.ref L) rfl _ hf
 intro s5 I6
 have hC:=(I6.pin (C,o) (qar _ (qaw ..))).1
 refine⟨m,⟨o,es,ep,hC,hd,r⟩,fun h' sb=>⟨_,H3,?_,q⟩⟩
 have I7:Inv X pins (σ.set i (some (.ref L))) H3 s5:=I6.dU fun p hp=>I6.pin p (qar _ (qat _ hp))
 exact I7.turned (t':=s5.toks) (fun b o hb e=>(sb.2 b hb).trans e) f0 f1 f3 f4 f5
end
section
variable{X:Cx}
mutual
inductive bA(H:Hp):V->PyData->Prop
 |av:bA H .av .none
 |bl (b:Bool):bA H (.bl b) (.bool b)
 |int (i:Int):bA H (.int i) (.int i)
 |str (x:Str):bA H (.str x) (.str x)
 |lst {a:Addr} {xs:List V} {ds:List PyData}:H a=some (.lst xs)->aV H xs ds->bA H (.ref a) (.list ds)
 |tup {a:Addr} {xs:List V} {ds:List PyData}:H a=some (.tup xs)->aV H xs ds->bA H (.ref a) (.tuple ds)
inductive aV(H:Hp):List V->List PyData->Prop
 |nil:aV H [] []
 |cons {x:V} {d:PyData} {xs:List V} {ds:List PyData}:bA H x d->aV H xs ds->aV H (x::xs) (d::ds)
end
mutual
theorem bA.reads(ok:bY P w H h):∀ {x:V} {d:PyData} {u:Value},bA H x d->RelV x u->∃ as,Reads h u d as
 | _,_,_,.av,r=>by cases r;exact⟨_,.none⟩
 | _,_,_,.bl b,r=>by cases r;exact⟨_,.bool b⟩
 | _,_,_,.int i,r=>by obtain⟨t,rfl⟩:=r;exact⟨_,.int i t⟩
 | _,_,_,.str x,r=>by obtain⟨t,rfl⟩:=r;exact⟨_,.str x t⟩
 | _,_,_,.lst e D,r=>by
   cases r
   obtain⟨_,its,n,rv,q⟩:=ok _ _ e
   obtain⟨as,R⟩:=aV.reads ok D rv
   exact⟨_,.list q rfl rfl R⟩
 | _,_,_,.tup e D,r=>by
   cases r
   obtain⟨_,its,rv,o,q,c,n,d⟩:=ok _ _ e
   obtain⟨as,R⟩:=aV.reads ok D rv
   exact⟨_,.tuple q c d R⟩
theorem aV.reads(ok:bY P w H h):∀ {xs:List V} {ds:List PyData} {us:List Value},aV H xs ds->Vals xs us->∃ as,ReadsAll h us ds as
 | _,_,_,.nil,r=>by cases r;exact⟨_,.nil⟩
 | _,_,_,.cons a b,r=>by
   cases r with
   |cons r1 r2 =>
     obtain⟨_,R1⟩:=bA.reads ok a r1
     obtain⟨_,R2⟩:=aV.reads ok b r2
     exact⟨_,.cons R1 R2⟩
end
end
end L2
namespace Ex
open PySem PySem.Spec PyProof.Rows PySem.Calls Builtin.SmallTypes
structure u4(prog:Program)(w:World)(it:Addr)(fp:List Addr)(xs:Array Value)(St:Nat->Heap->Prop):Prop where
 keep:∀ k h h',St k h->(∀ b∈it::fp,∀ o,h.get? b=some o->h'.get? b=some o)->St k h'
 obj:∀ k h,St k h->∃ o vs,h.get? it=some o/\o.data = .fields vs
 item:∀ (A:Around) (E:Value->Shared->Prop) (s:Shared) (k:Nat) (x:Value) (Q:Value->Shared->Prop),St k s.heap->xs[k]? = some x->(∀ h',St (k+1) h'->Heap.SameBut it s.heap h'->Q x { s with heap:=h' })->wpAny (model prog w) A (nextOf (.ref it)) Q E s
theorem Ea(ne:l≠it):u4 prog w it [l] xs (fun k h=>h.IsListIter it l k/\h.IsList l xs) where
 keep:=fun k h h' st kp=>⟨st.1.at fun o e=>kp it (by simp) o e,st.2.at fun o e=>kp l (by simp) o e⟩
 obj:=fun k h st=>let ⟨o,e,_,d⟩:=st.1; ⟨o,_,e,d⟩
 item:=fun A E s k x Q st hx q=>wpAny_nextOf_list_item st.1 st.2 hx fun h' a sb=>q h' ⟨a,st.2.extBut sb.extBut ne⟩ sb
theorem fD(ne:l≠it):u4 prog w it [l] xs (fun k h=>h.IsTupleIter it l k/\h.IsTuple l xs) where
 keep:=fun k h h' st kp=>⟨let ⟨o,e,r⟩:=st.1; ⟨o,kp it (by simp) o e,r⟩,let ⟨o,e,r⟩:=st.2; ⟨o,kp l (by simp) o e,r⟩⟩
 obj:=fun k h st=>let ⟨o,e,_,d⟩:=st.1; ⟨o,_,e,d⟩
 item:=fun A E s k x Q st hx q=>by
  obtain⟨st1,st2⟩:=st
  obtain⟨o,ho,hc,hd⟩:=id st1
  obtain⟨ol,hol,_,nl,hdl⟩:=id st2
  delta nextOf
  apply qaa
  apply qa3 (name:=Str.ofString "__next__") st1.typeIs F.slot_tuple_iterator_next
  apply qa0 F.slot_tuple_iterator_next st1.typeIs F.entry_tuple_iterator_next _ (F.args_tuple_iterator_next_1 _)
  change wpAny _ _ (field (.ref it) 0 >>= _) _ _ _
  apply qaa;apply qbk ho hd (x:=.ref l) rfl
  change wpAny _ _ (if (Value.ref l == Value.none)=true then _ else _) _ _ _
  rw[qaz (by intro z;cases qas.mp z)]
  change wpAny _ _ (field (.ref it) 1 >>= _) _ _ _
  apply qaa;apply qbk ho hd (x:=.int k 0) rfl
  change wpAny _ _ (seqItems? (.ref l) >>= _) _ _ _
  apply qaa;apply qbt hol hdl
  rw[Int.toNat_natCast]
  dsimp only
  rw[hx]
  dsimp only
  apply qaa;apply wpAny_setField ho hd (by simp)
  have e2:=uX ho hd 1 (rawInt (k+1))
  refine qac ⟨x,rfl,qac (q _ ⟨⟨_,e2,hc,rfl⟩,st2.extBut (Heap.SameBut.update ..).extBut ne⟩ (Heap.SameBut.update ..))⟩
structure u5(z TI TO i1 i2:Addr)(f1 f2:List Addr):Prop where
 Eb:z≠TI
 sj:z≠TO
 z1:z ∉ i1::f1
 z2:z ∉ i2::f2
 TITO:TI≠TO
 L3:TI≠i1
 L4:TI≠i2
 Ec:TO ∉ i1::f1
 yJ:TO ∉ i2::f2
 a1:i1 ∉ i2::f2
 a2:i2 ∉ i1::f1
section
variable{prog:Program}{w:World}{A:Around}{E:Value->Shared->Prop}{s:Shared}{z TI TO i1 i2:Addr}{f1 f2:List Addr}{xs ys:Array Value}{S1 S2:Nat->Heap->Prop}
theorem L5(Z:u5 z TI TO i1 i2 f1 f2)(D1:u4 prog w i1 f1 xs S1)(D2:u4 prog w i2 f2 ys S2)(hz:IsZip s.heap z TI TO .none)(hTI:IsPair s.heap TI (.ref i1) (.ref i2))(hTO:IsPair s.heap TO a b)(s1:S1 k s.heap)(s2:S2 k s.heap)
 (hx:xs[k]? = some x) (hy:ys[k]? = some y)
 (q:∀ h',IsZip h' z TI TO (rawInt s.heap.objs.size)->IsPair h' TO x y->S1 (k+1) h'->S2 (k+1) h'->IsPair h' s.heap.objs.size x y->(∀ c o,c≠z->c≠TO->c≠i1->c≠i2->s.heap.get? c=some o->h'.get? c=some o)->Q (some (.ref s.heap.objs.size)) { s with heap:=h' }) :
 wpAny (model prog w) A (pyNext (Value.ref z)) Q E s:=by
 have ty:s.TypeIs (.ref z) "zip" := ⟨_,hz,rfl⟩
 delta pyNext
 apply qaa;apply qbM
 apply qa3 (name:=Str.ofString "__next__") ty F.slot_zip_next
 apply qa0 F.slot_zip_next ty F.entry_zip_next _ (F.args_zip_next_1 _)
 change wpAny _ _ (field (.ref z) 2 >>= _) _ _ _
 apply qaa;apply qbk hz rfl (x:=.bool false) rfl
 change wpAny _ _ (field (.ref z) 3 >>= _) _ _ _
 apply qaa;apply qbk hz rfl (x:=.ref TI) rfl
 apply qaa;apply qbt hTI rfl
 change wpAny _ _ (ownedTupleIsFree (.ref z) >>= _) _ _ _
 apply qaa;delta ownedTupleIsFree
 apply qaa;apply qbk hz rfl (x:=.none) rfl;apply qac
 rw[qay (by decide)]
 apply qaa;apply wpAny_rule
 apply qaa;apply qbk hz rfl (x:=.ref TO) rfl
 apply qaa;apply qba hz (by simp)
 intro h1 hz1 fw
 have l_:IsZip h1 z TI TO .ellipsis:=hz1
 have L6:IsPair h1 TO a b:=(fw.2 TO (qaT Z.sj)).trans hTO
 have st1:S1 k h1:=D1.keep _ _ _ s1 fun c hc o e=>(fw.2 c fun y=>Z.z1 (y ▸ hc)).trans e
 have st2:S2 k h1:=D2.keep _ _ _ s2 fun c hc o e=>(fw.2 c fun y=>Z.z2 (y ▸ hc)).trans e
 apply qaa
 simp only[List.forIn_cons,List.forIn_nil,List.zipIdx_cons,List.zipIdx_nil]
 apply qaa;apply qaa;apply wpAny_onRaise
 change wpAny _ _ (nextOf (.ref i1) >>= _) _ _ _
 apply qaa
 apply qao (D1.item _ _ { s with heap:=h1 } k x (fun v s'=>v=x/\∃ h2,s'={ s with heap:=h2 }/\S1 (k+1) h2/\Heap.SameBut i1 h1 h2) st1 hx fun h2 a1 a2=>⟨rfl,h2,rfl,a1,a2⟩) _ fun _ _ e=>e
 rintro v _ ⟨ev,h2,rfl,yK,m8⟩
 have ev':=ev.symm;subst ev'
 apply qac
 have yL:TO≠i1:=fun e=>Z.Ec (by rw[e];exact qaw ..)
 have to2:IsPair h2 TO a b:=(m8.2 TO yL).trans L6
 apply qaa;apply qbt to2 rfl
 apply qaa;apply wpAny_updateSeq_pair (s:={ s with heap:=h2 }) to2
 intro h3 to3 oN
 have yM:IsPair h3 TO x b:=to3
 apply qaa;apply wpAny_letGo;apply qac
 apply qaa;apply qaa;apply wpAny_onRaise
 change wpAny _ _ (nextOf (.ref i2) >>= _) _ _ _
 apply qaa
 have yN:S2 k h3:=D2.keep _ _ _ st2 fun c hc o e=>(oN.2 c fun y=>Z.yJ (y ▸ hc)).trans ((m8.2 c fun y=>Z.a1 (y ▸ hc)).trans e)
 apply qao (D2.item _ _ { s with heap:=h3 } k y (fun v s'=>v=y/\∃ h4,s'={ s with heap:=h4 }/\S2 (k+1) h4/\Heap.SameBut i2 h3 h4) yN hy fun h4 a1 a2=>⟨rfl,h4,rfl,a1,a2⟩) _ fun _ _ e=>e
 rintro v _ ⟨ev,h4,rfl,sk,u6⟩
 have ev':=ev.symm;subst ev'
 apply qac
 have yO:TO≠i2:=fun e=>Z.yJ (by rw[e];exact qaw ..)
 have Ed:IsPair h4 TO x b:=(u6.2 TO yO).trans yM
 apply qaa;apply qbt Ed rfl
 apply qaa;apply wpAny_updateSeq_pair (s:={ s with heap:=h4 }) Ed
 intro h5 L7 u7
 have sq:IsPair h5 TO x y:=L7
 apply qaa;apply wpAny_letGo;apply qac;apply qac
 apply qaa;apply qbt sq rfl
 apply qaa;apply wpAny_newTuple
 have Ee:z≠i1:=fun e=>Z.z1 (by rw[e];exact qaw ..)
 have nz2:z≠i2:=fun e=>Z.z2 (by rw[e];exact qaw ..)
 have size:h5.objs.size=s.heap.objs.size:=by rw[u7.1,u6.1,oN.1,m8.1,fw.1]
 have back:∀ c,c≠TO->c≠i1->c≠i2->h5.get? c=h1.get? c:=fun c c1 c2 c3=>by rw[u7.2 c c1,u6.2 c c3,oN.2 c c1,m8.2 c c2]
 have L8:IsZip (h5.push { cls:=.type "tuple",data:=.seq #[x,y] }) z TI TO .ellipsis:=qab _ ((back z Z.sj Ee nz2).trans l_)
 change wpAny _ _ (ownedTupleHandOut (.ref z) (.ref h5.objs.size) >>= _) _ _ _
 apply qaa;delta ownedTupleHandOut
 apply qaa;apply qba L8 (by simp)
 intro h7 L9 Ef
 apply qba L9 (by simp)
 intro h8 hz8 Eg
 have up:∀ c o,c≠z->h5.get? c=some o->h8.get? c=some o:=fun c o cz e=>(Eg.2 c cz).trans ((Ef.2 c cz).trans (qab _ e))
 have new:h8.get? h5.objs.size=some { cls:=.type "tuple",data:=.seq #[x,y] }:=by
  have lt:z≠h5.objs.size:=fun e=>absurd (qaf ((back z Z.sj Ee nz2).trans l_)) (by rw[e];exact qbf _)
  rw[Eg.2 _ (qaT lt),Ef.2 _ (qaT lt)];exact qah h5 rfl
 refine qac ⟨_,rfl,qac ?_⟩
 change Q (some (.ref h5.objs.size)) _
 rw[size] at new ⊢
 refine q h8 (by rw[<- size];exact hz8) (up TO _ (qaT Z.sj) sq) (D1.keep _ _ _ yK fun c hc o e=>up c o (fun y=>Z.z1 (y ▸ hc)) ?_) (D2.keep _ _ _ sk fun c hc o e=>up c o (fun y=>Z.z2 (y ▸ hc)) ?_) new fun c o c1 c2 c3 c4 e=>up c o c1 ((back c c2 c3 c4).trans ((fw.2 c c1).trans e))
 · have n1:c≠TO:=fun y=>Z.Ec (y ▸ hc)
   have n2:c≠i2:=fun y=>Z.a2 (y ▸ hc)
   rw[u7.2 c n1,u6.2 c n2,oN.2 c n1];exact e
 · rw[u7.2 c fun y=>Z.yJ (y ▸ hc)];exact e
 all_goals size_fits
end
end Ex
namespace L2
open PySem PySem.Spec PyProof.Rows Ex
section
variable{X:Cx}{pins:List (Addr×Obj)}{σ:St}{H:Hp}{s:Shared}{h':Heap}{fp:List Addr}
theorem Inv.dr(I:Inv X pins σ H s)(k:∀ b o,b ∉ fp->s.heap.get? b=some o->h'.get? b=some o)(hf:∀ b∈fp,ig X pins H b):Inv X pins σ H { s with heap:=h',toks:=t' }:=by
 have apart:∀ b u,H b=some u->b ∉ fp:=fun b u e z=>by have q:=(hf b z).1;rw[e] at q;cases q
 refine I.step (g':=s.gens) (d':=s.drawn) (ch:=fp) (fun b hb=>?_) (fun b o _ _ hc e _=>k b o hc e) (fun b o _ _ hc e _=>⟨o.slots,k b o hc e⟩) (fun _ _ _ _ n=>n) (fun b o hc e=>⟨o,k b o hc e⟩) (fun _ _ e=>e) (fun _ _ _ e=>e) (fun b ps e=>⟨#[],by rw[e];simp⟩) (fun m hm=>?_) (fun b u e=>?_) I.bare
 · obtain⟨_,f1,_,f3,f4,f5⟩:=hf b hb
   exact⟨f3,f1,f4,f5⟩
 · obtain⟨o,es,ep,ho,r⟩:=hm
   exact⟨o,es,ep,k _ o (fun z=>(hf _ z).2.1 rfl) ho,r⟩
 · apply (I.hok b u e).stay (h':=h') (H':=H) _ (fun _ q=>q) (fun _ _ q=>q)
   intro c v hc q
   cases hc with
   |inl z=>exact k c v (by rw[z];exact apart b u e) q
   |inr z=>exact k c v (apart c _ z) q
theorem Inv.dv{t':Nat}{a:Addr}{o:HO}(I:Inv X pins σ H s)(k:∀ b o,b ∉ fp->s.heap.get? b=some o->h'.get? b=some o)(hf:∀ b∈fp,ig X pins H b)(ha:s.heap.objs.size<=a)(new:az X.prog X.w (upd H a o) h' a o):Inv X pins σ (upd H a o) { s with heap:=h',toks:=t' }:=by
 have apart:∀ b u,H b=some u->b ∉ fp:=fun b u e z=>by have q:=(hf b z).1;rw[e] at q;cases q
 have fr:H a=none:=I.hok.fresh ha
 have old:∀ b u,H b=some u->upd H a o b=some u:=fun b u e=>by rw[aW (fz e fr)];exact e
 refine I.step (g':=s.gens) (d':=s.drawn) (ch:=fp) (fun b hb=>?_) (fun b o _ _ hc e _=>k b o hc e) (fun b o _ _ hc e _=>⟨o.slots,k b o hc e⟩) (fun b u _ e n=>?_) (fun b o hc e=>⟨o,k b o hc e⟩) (fun b xs e=>old b _ e) (fun b o u e=>old b _ e) (fun b ps e=>⟨#[],by rw[old b _ e];simp⟩) (fun m hm=>?_) (fun b u e=>?_) I.bare
 · obtain⟨_,f1,_,f3,f4,f5⟩:=hf b hb
   exact⟨f3,f1,f4,f5⟩
 · have lt:b<s.heap.objs.size:=qaf e
   rw[aW (qal (qax lt ha))];exact n
 · obtain⟨o,es,ep,ho,r⟩:=hm
   exact⟨o,es,ep,k _ o (fun z=>(hf _ z).2.1 rfl) ho,r⟩
 · by_cases hb:b=a
   · subst hb;rw[dh] at e;cases e;exact new
   · rw[aW hb] at e
     apply (I.hok b u e).stay (h':=h') (H':=upd H a o) _ (fun c q=>old c _ q) (fun c xs q=>old c _ q)
     intro c v hc q
     cases hc with
     |inl z=>exact k c v (by rw[z];exact apart b u e) q
     |inr z=>exact k c v (apart c _ z) q
end
end L2
namespace Ex
open PySem PySem.Spec PyProof.Rows PySem.Calls Builtin.SmallTypes
section
variable{prog:Program}{w:World}{A:Around}{E:Value->Shared->Prop}{s:Shared}{z TI TO i1 i2 l1:Addr}{f2:List Addr}{xs:Array Value}
theorem L_{a b:Value}(hh:A.handled=none)(Z:u5 z TI TO i1 i2 [l1] f2)(hz:IsZip s.heap z TI TO .none)(hTI:IsPair s.heap TI (.ref i1) (.ref i2))(st:s.heap.IsListIter i1 l1 k)(hl:s.heap.IsList l1 xs)(hx:xs[k]? = none)
 (q:∀ h',(∀ c o,c≠z->c≠i1->s.heap.get? c=some o->h'.get? c=some o)->Q none { s with heap:=h' }):wpAny (model prog w) A (pyNext (Value.ref z)) Q E s:=by
 have ty:s.TypeIs (.ref z) "zip" := ⟨_,hz,rfl⟩
 have n1:i1≠z:=fun e=>Z.z1 (by rw[e];exact qaw ..)
 have n2:l1≠z:=fun e=>Z.z1 (by rw[e];simp)
 delta pyNext
 apply qaa;apply qbM
 apply qa3 (name:=Str.ofString "__next__") ty F.slot_zip_next
 apply qa0 F.slot_zip_next ty F.entry_zip_next _ (F.args_zip_next_1 _)
 change wpAny _ _ (field (.ref z) 2 >>= _) _ _ _
 apply qaa;apply qbk hz rfl (x:=.bool false) rfl
 change wpAny _ _ (field (.ref z) 3 >>= _) _ _ _
 apply qaa;apply qbk hz rfl (x:=.ref TI) rfl
 apply qaa;apply qbt hTI rfl
 change wpAny _ _ (ownedTupleIsFree (.ref z) >>= _) _ _ _
 apply qaa;delta ownedTupleIsFree
 apply qaa;apply qbk hz rfl (x:=.none) rfl;apply qac
 rw[qay (by decide)]
 apply qaa;apply wpAny_rule
 apply qaa;apply qbk hz rfl (x:=.ref TO) rfl
 apply qaa;apply qba hz (by simp)
 intro h1 hz1 fw
 have l_:IsZip h1 z TI TO .ellipsis:=hz1
 apply qaa
 simp only[List.forIn_cons,List.forIn_nil,List.zipIdx_cons,List.zipIdx_nil]
 apply qaa;apply qaa;apply wpAny_onRaise
 change wpAny _ _ (nextOf (.ref i1) >>= _) _ _ _
 apply qaa
 apply wpAny_nextOf_list_end (show A.in1.handled=none from hh) (st.extBut fw.extBut n1) (hl.extBut fw.extBut n2) hx
 rintro h2 e eb ⟨oe,he,ce⟩
 have hz2:IsZip h2 z TI TO .ellipsis:=eb z _ (qaT n1) l_
 have ne:e≠z:=by rintro rfl;rw[hz2] at he;cases he;simp at ce
 apply qba hz2 (by simp)
 intro h3 _ oN
 apply qaa
 have ts:({ s with heap:=h3 }:Shared).TypeIs (.ref e) "StopIteration" := ⟨oe,oN.extBut _ _ ne he,ce⟩
 apply wpAny_isInstance ts isSubtype_stop
 apply qac
 exact q h3 fun c o c1 c2 y=>oN.extBut _ _ c1 (eb c o c2 (fw.extBut _ _ c1 y))
end
noncomputable def nu(l1:Addr):Obj:={ cls:=.type "list_iterator",data:=.fields #[.ref l1,.int 0 0] }
noncomputable def u9(n m:Addr):Obj:={ cls:=.type "tuple",data:=.seq #[.ref n,.ref m] }
noncomputable def yP:Obj:={ cls:=.type "tuple",data:=.seq #[.none,.none] }
noncomputable def Eh(i o:Addr):Obj:={ cls:=.type "zip",data:=.fields #[.none,.bool false,.bool false,.ref i,.ref o] }
end Ex
namespace L2
open PySem PySem.Spec PyProof.Rows Ex
def jG(n:Addr):List Addr:=[n+4,n+2,n+3,n,n+1]
theorem aJ:b∈jG n ↔ b=n+4\/b=n+2\/b=n+3\/b=n\/b=n+1:=by simp[jG]
theorem Ei(h1:l1 ∉ jG n)(h2:l2 ∉ jG n):u5 (n+4) (n+2) (n+3) n (n+1) [l1] [l2]:=by
 rw[aJ] at h1 h2
 have N:∀ k:Nat,(show Nat from n)+k=n+k:=fun _=>rfl
 constructor<;>simp only[List.mem_cons,List.not_mem_nil,or_false,ne_eq]<;>(simp only[Addr] at *;omega)
theorem u_{h:Heap}{o:Obj}(e:h.objs.size=n)(ho:o.isFreed=false):(h.push o).get? n=some o:=by subst e;exact qah h ho
section
variable{X:Cx}
theorem Ma:bootBuiltins "zip" = some (.type "zip"):=by decide +kernel
end
section
variable{X:Cx}
def yQ:R2:=fun x y H Q=>∃ d e,bA H x d/\bA H y e/\SeqAt.shaped d=true/\SeqAt.shaped e=true/\Q (.bl (PyData.eqv d e)) H
def yR:R2:=fun x y H Q=>∃ d e,bA H x d/\bA H y e/\SeqAt.shaped d=true/\SeqAt.shaped e=true/\Q (.bl (!PyData.eqv d e)) H
theorem Mb(hr:aj k X.A):bw X (compareOp .Eq) yQ:=by
 intro pins s σ H x y v u Q I rx ry h
 obtain⟨d,e,hd,he,sd,se,q⟩:=h
 obtain⟨as,ra⟩:=hd.reads I.hok rx
 obtain⟨bs,rb⟩:=he.reads I.hok ry
 exact SeqAt.compareEq_shaped ra rb sd se hr.units ⟨.bl _,H,I,rfl,q⟩
theorem Md(hr:aj k X.A):bw X (compareOp .NotEq) yR:=by
 intro pins s σ H x y v u Q I rx ry h
 obtain⟨d,e,hd,he,sd,se,q⟩:=h
 obtain⟨as,ra⟩:=hd.reads I.hok rx
 obtain⟨bs,rb⟩:=he.reads I.hok ry
 exact SeqAt.compareNe_shaped ra rb sd se hr.units ⟨.bl _,H,I,rfl,q⟩
end
def yS(l:Addr):It where
 go:=fun i H=>∃ xs x,H l=some (.lst xs)/\xs[i]? = some x
 lT:=fun i H v H'=>∃ p xs x,v = .ref p/\H p=none/\H'=upd H p (.tup [.int i,x])/\H l=some (.lst xs)/\xs[i]? = some x
 stop:=fun i H=>∃ xs,H l=some (.lst xs)/\xs.length<=i
def jH(n:Addr):List Addr:=[n+1,n]
theorem aK:b∈jH n ↔ b=n+1\/b=n:=by simp[jH]
noncomputable def Me(n l:Addr)(i:Nat)(h:Heap):Prop:=∃ old,IsEnum h (n+1) n i old/\h.IsListIter n l i
theorem Mf{P:Program}{w:World}{K:W.Frag}{es:List Expr}{x1}{pos:Pos}(l n:Addr):Turn P w K (.Tuple es x1 pos) (yS l) (jH n) (n+1) (Me n l) where
 mem:=by simp[jH]
 obj:=fun i h st b hb=>by
  obtain⟨old,he,⟨o,e,c,d⟩⟩:=st
  rcases aK.mp hb with z | z<;>subst z
  · exact⟨_,he,fun v z=>nomatch z⟩
  · exact⟨_,e,fun v z=>by rw[d] at z;cases z⟩
 keep:=fun i h h' st k=>by
  obtain⟨old,he,⟨o,e,r⟩⟩:=st
  exact⟨old,k _ (aK.mpr (.inl rfl)) _ he,⟨o,k _ (aK.mpr (.inr rfl)) _ e,r⟩⟩
 item:=by
  intro X hP hw hK hc i pins s σ H E I hf st hg
  subst hP hw hK
  obtain⟨xs,x,q1,hx⟩:=hg
  obtain⟨old,he,st1⟩:=st
  have ne:n+1≠n:=Nat.succ_ne_self n
  obtain⟨us,r1,p1,z1⟩:=I.list (aZ.of q1)
  obtain⟨u,hu,ru⟩:=r1.get hx
  have new:∀ b∈jH n,b<s.heap.objs.size:=fun b hb=>by
   rcases aK.mp hb with e | e<;>subst e
   · exact qaf he
   · obtain⟨_,e,_⟩:=st1;exact qaf e
  apply wpAny_pyNext_enum_item he st1 p1.isList (x:=u) (by simpa using hu) ne
  intro h1 ho1 s1 np sz kept
  refine⟨_,rfl,wpAny_letOwnedTupleGo_enum ho1 fun h2 he2 sb=>?_⟩
  have k2:∀ b o,b ∉ jH n->s.heap.get? b=some o->h2.get? b=some o:=fun b o hb e=>by
   rw[aK] at hb
   exact sb.extBut _ _ (fun z=>hb (.inl z)) (kept b o (fun z=>hb (.inl z)) (fun z=>hb (.inr z)) e)
  have fr:H s.heap.objs.size=none:=I.hok.fresh (qag _)
  have nz:s.heap.objs.size≠n+1:=fun e=>absurd (new (n+1) (aK.mpr (.inl rfl))) (by rw[e];exact qbf _)
  refine⟨.ref s.heap.objs.size,upd H s.heap.objs.size (.tup [.int i,x]),I.dv (t':=s.toks+1) k2 hf (qag _) ?_,rfl,⟨_,xs,x,rfl,fr,rfl,q1,hx⟩,⟨u,?_,?_⟩,fun b hb=>?_⟩
  · exact⟨by show(2:Nat)<=sizeLine;decide,[.int i s.toks,u],.cons ⟨_,rfl⟩ (.cons ru .nil),⟨_,sb.extBut _ _ nz np,rfl,_,rfl⟩⟩
  · exact he2
  · obtain⟨o,e,r⟩:=s1
    exact⟨o,sb.extBut _ _ (qaT ne) e,r⟩
  · rw[aW (qal (new b hb))];exact(hf b hb).1
 done:=by
  intro X hP hw hK hc i pins s σ H E I hf st hg
  subst hP hw hK
  obtain⟨xs,q1,hx⟩:=hg
  obtain⟨old,he,st1⟩:=st
  obtain⟨us,r1,p1,z1⟩:=I.list (aZ.of q1)
  have hl:=r1.length
  apply wpAny_pyNext_enum_end (I.ok.hd hc) he st1 p1.isList (by simp;omega)
  intro h1 kept
  exact⟨rfl,I.dr (t':=s.toks) (fun b o hb e=>kept b o (fun z=>hb (aK.mpr (.inr z))) e) hf⟩
 self:=fun A i s Q E st h=>by
  obtain⟨old,he,_⟩:=st
  have ty:s.TypeIs (.ref (n+1)) "enumerate" := ⟨_,he,rfl⟩
  apply wpAny_pyIter_slot ty F.slot_enumerate_iter
  apply qa0 F.slot_enumerate_iter ty F.entry_enumerate_iter _ (F.args_enumerate_iter_1 _)
  change wpAny _ _ (ret (.ref (n+1))) _ _ s
  exact qac ⟨_,rfl,"enumerate",_,ty,F.slot_enumerate_next.lookup,h⟩
def yT(ta:TA):TI:=fun σ H R=>ta σ H fun vs H1=>∃ l xs,vs=[.ref l]/\H1 l=some (.lst xs)/\R (yS l) H1
section
variable{X:Cx}
theorem Ej:bootBuiltins "enumerate" = some (.type "enumerate"):=by decide +kernel
theorem Mh{a:Expr}{es:List Expr}{x1}{tp:Pos}{ta:TA}{p pos:Pos}(hg:Gl X "enumerate")(hm:X.mg "enumerate" = none)(ha:PA X [a] ta)(hs:starEach [a] X.env=[(false,eval a X.env)]:=by rfl):PI X (.Tuple es x1 tp) (.Call (.Name "enumerate" p) [a] [] pos) (yT ta):=by
 intro pins s σ H R I h
 refine Call_ (n9 I hg hm Ej (qbw (aI (ha pos pins s σ H _ I h) fun us s1 zq=>?_) hs rfl))
 obtain⟨vs,H1,I1,r1,q1⟩:=zq
 obtain⟨l,xs,e,q1,q⟩:=q1
 subst e
 obtain⟨u,rfl,e1⟩:=vals1 r1
 cases e1
 obtain⟨us,r1,p1,z1⟩:=I1.list (aZ.of q1)
 apply call_enumerate_list p1.isList
 intro h' he st sz kept
 have T:=Mf (P:=X.prog) (w:=X.w) (K:=X.K) (es:=es) (x1:=x1) (pos:=tp) l s1.heap.objs.size
 apply T.self X.A 0 _ _ _ ⟨.none,he,st⟩
 refine⟨_,jH s1.heap.objs.size,_,_,H1,rfl,I1.kept (t':=s1.toks) kept,T,⟨.none,he,st⟩,fun b hb=>?_,q⟩
 have le:s1.heap.objs.size<=b:=by
  rw[aK] at hb
  rcases hb with e | e<;>rw[e]<;>first | exact qag _ | exact Nat.le_add_right _ _
 exact I1.gF le (I1.hok.fresh le)
end
section
variable{X:Cx}{tg:Expr}
def va(xs:List V)(lo hi:Option Int)(st:Int):List V:=(sliceRange (sliceBounds lo hi (some st) xs.length).1 (sliceBounds lo hi (some st) xs.length).2.1 (sliceBounds lo hi (some st) xs.length).2.2).filterMap (xs[·]?)
theorem yU(r:Vals xs us):∀ ps:List Nat,Vals (ps.filterMap (xs[·]?)) (ps.filterMap (us[·]?))
 | []=>.nil
 |p::ps=>by
   rw[qa6,qa6]
   cases e:xs[p]? with
   |none=>rw[r.none_of e];exact yU r ps
   |some x =>
     obtain⟨u,hu,ru⟩:=r.get e
     rw[hu]
     exact .cons ru (yU r ps)
def Mi(K:W.Frag)(te:TE)(tl th:TO)(st:Int):TE:=fun σ H Q=>te σ H fun x H1=>tl σ H1 fun l H2=>th σ H2 fun u H3=>∃ a xs,x = .ref a/\aZ K H3 a xs/\st≠0/\(va xs l u st).length<=sizeLine/\∀ p,H3 p=none->Q (.ref p) (upd H3 p (.lst (va xs l u st)))
theorem Mj{e se:Expr}{te:TE}{lo hi:Option Expr}{tl th:TO}{st:Int}{pos p2:Pos}(he:PE X e te)(hl:PO X lo tl)(hu:PO X hi th)(hse:PE X se (tC (.int st))):PE X (.Subscript e (.Slice lo hi (some se) p2) pos) (Mi X.K te tl th st):=by
 intro pins s σ H Q I h
 refine Subscript_ (aI (he pins s σ H _ I h) fun v s1 zq=>?_)
 obtain⟨x,H1,I1,r1,q1⟩:=zq
 refine wpAny_Slice (aI (hl pins s1 σ H1 _ I1 q1) fun vl s2 zq=>?_)
 obtain⟨l,H2,I2,pl,q2⟩:=zq
 refine aI (hu pins s2 σ H2 _ I2 q2) fun vu s3 zq=>?_
 obtain⟨u,H3,I3,pu,q3⟩:=zq
 rw[evalPart_some]
 refine aI (hse pins s3 σ H3 (fun x H'=>x = .int st/\H'=H3) I3 ⟨rfl,rfl⟩) fun vs s4 zq=>?_
 obtain⟨y,H4,I4,r4,ey,eH⟩:=zq
 subst ey eH
 obtain⟨t,rfl⟩:=r4
 obtain⟨a,xs,rfl,hx,s0,sz,q⟩:=q3
 cases r1
 have I5:Inv X pins σ H4 { s4 with heap:=s4.heap.push { cls:=.type "slice",data:=.fields #[vl,vu,.int st t] } }:=I4.kept (t':=s4.toks) fun b ob q=>qab _ q
 obtain⟨its,r,ht,hz⟩:=I5.list hx
 have hlen:=r.length
 show wpAny (model X.prog X.w) X.A (subscriptTail e (.Slice lo hi (some se) p2) (.ref a) (.ref s4.heap.objs.size)) (EP X pins σ Q) X.xe { s4 with heap:=s4.heap.push { cls:=.type "slice",data:=.fields #[vl,vu,.int st t] } }
 refine tail_any (ops:=[.ref a,.ref s4.heap.objs.size]) ht.isList.typeIs slot_list_getitem.lookup ?_ (by with_unfolding_all rfl)
 refine wpAny_getItem_list_slice ht.isList (Heap.IsSliceOf.new ..) pl pu (.int st t) (by simpa using s0) ?_ (by rw[List.size_toArray]<;>omega)
 have e1:slicePick its.toArray l u (some st)=((sliceRange (sliceBounds l u (some st) xs.length).1 (sliceBounds l u (some st) xs.length).2.1 (sliceBounds l u (some st) xs.length).2.2).filterMap (its[·]?)).toArray:=by
  unfold slicePick
  rw[qaP, <- hlen]
  simp
 rw[e1]
 exact⟨.ref _,_,I5.oy (t':=s4.toks) (yU r _) sz,rfl,q _ I5.fresh⟩
end
def Ml(K:W.Frag):List V->Hp->VK->Prop:=fun xs H Q=>∃ x c t cv b,xs=[x,c]/\uY c=some cv/\yA K H x t/\W.kitOne K t cv=some b/\Q (.bl b) H
theorem jc(h:H p=none):ae H (upd H p o):=fun b u e=>by rw[aW (fz e h)];exact e
end L2
namespace Dv
open PySem L2 Ex
inductive Cn where
 |PointError | NoPoints | NoBox | NoAsks | NoRun | NoText | NoTurn | NoTree | NoTop | NotServed | NoRow | NoPoint | NoName | NoKey | NoBack | TooMany | Points | oO | Search | oP | yV
 deriving DecidableEq
class KC where
 K:W.Frag
 cls:Cn->Addr
variable[KC]
inductive D where
 |av | bl (b:Bool) | int (i:Int) | str (x:Str)
 |lst (xs:List D) | tup (xs:List D) | md (ks vs:List D) | bH (ns:List Int) | ins (C:Cn) (ns:List Str) (vs:List D) | obj (C:Cn) (ns:List Str) (vs:List D)
mutual
inductive Rp(R:Hp):V->D->Prop
 |av:Rp R .av .av
 |bl (b:Bool):Rp R (.bl b) (.bl b)
 |int (i:Int):Rp R (.int i) (.int i)
 |str (x:Str):Rp R (.str x) (.str x)
 |lst {a:Addr} {xs:List V} {ds:List D}:R a=some (.lst xs)->aw R xs ds->Rp R (.ref a) (.lst ds)
 |tup {a:Addr} {xs:List V} {ds:List D}:R a=some (.tup xs)->aw R xs ds->Rp R (.ref a) (.tup ds)
 |iB {a:Addr}:R a=some (.dK [])->Rp R (.ref a) (.md [] [])
 |bH {a:Addr} {ns:List Int}:aZ KC.K R a (ns.map V.int)->Rp R (.ref a) (.bH ns)
 |iC {a:Addr} {C:Cn}:R a=some (b6 (KC.cls C) a none false)->Rp R (.ref a) (.ins C [] [])
 |exc {a d:Addr} {C:Cn} {fs:List (Str×V)} {ds:List D}:R a=some (b6 (KC.cls C) a (some d) false)->R d=some (ke d fs)->aw R (fs.map (·.2)) ds->Rp R (.ref a) (.ins C (fs.map (·.1)) ds)
 |obj {a dx:Addr} {C:Cn} {fs:List (Str×V)} {ds:List D}:R a=some (.ins (KC.cls C) dx fs)->aw R (fs.map (·.2)) ds->Rp R (.ref a) (.obj C (fs.map (·.1)) ds)
inductive aw(R:Hp):List V->List D->Prop
 |nil:aw R [] []
 |cons {x:V} {d:D} {xs:List V} {ds:List D}:Rp R x d->aw R xs ds->aw R (x::xs) (d::ds)
end
mutual
theorem Rp.sm(s:ae H H'):∀ {x:V} {d:D},Rp H x d->Rp H' x d
 | _,_,.av=>.av
 | _,_,.bl b=>.bl b
 | _,_,.int i=>.int i
 | _,_,.str x=>.str x
 | _,_,.lst e h=>.lst (s _ _ e) (aw.sm s h)
 | _,_,.tup e h=>.tup (s _ _ e) (aw.sm s h)
 | _,_,.iB e=>.iB (s _ _ e)
 | _,_,.bH e=>.bH (s.seq e)
 | _,_,.iC e=>.iC (s _ _ e)
 | _,_,.exc e e' h=>.exc (s _ _ e) (s _ _ e') (aw.sm s h)
 | _,_,.obj e h=>.obj (s _ _ e) (aw.sm s h)
theorem aw.sm(s:ae H H'):∀ {xs:List V} {ds:List D},aw H xs ds->aw H' xs ds
 | _,_,.nil=>.nil
 | _,_,.cons a b=>.cons (Rp.sm s a) (aw.sm s b)
end
section
variable{R:Hp}
theorem aw.len:∀ {xs:List V} {ds:List D},aw R xs ds->xs.length=ds.length
 | _,_,.nil=>rfl
 | _,_,.cons _ h=>congrArg Nat.succ (aw.len h)
theorem aw.at:∀ {xs:List V} {ds:List D} {i:Nat} {x:V},aw R xs ds->xs[i]? = some x->∃ d,ds[i]? = some d/\Rp R x d
 | _,_,_,_,.nil,e=>by simp at e
 | _,_,0,_,.cons r _,e=>by simp at e;subst e;exact⟨_,rfl,r⟩
 | _,_,i+1,x,.cons _ t,e=>by
   obtain⟨u,h1,h2⟩:=aw.at (i:=i) (x:=x) t (by simpa using e)
   exact⟨u,by simpa using h1,h2⟩
theorem aw.ta{xs:List V}{ds:List D}{i:Nat}{d:D}(h:aw R xs ds)(e:ds[i]? = some d):∃ x,xs[i]? = some x/\Rp R x d:=by
 have lt:i<xs.length:=by rw[h.len];exact(qad.mp e).1
 obtain⟨d',e',r⟩:=h.at (qae lt)
 rw[e] at e';cases e'
 exact⟨_,qae lt,r⟩
theorem aw.app:∀ {xs ys:List V} {ds es:List D},aw R xs ds->aw R ys es->aw R (xs++ys) (ds++es)
 | _,_,_,_,.nil,h=>h
 | _,_,_,_,.cons a b,h=>.cons a (aw.app b h)
theorem aw.take:∀ {xs:List V} {ds:List D} (n:Nat),aw R xs ds->aw R (xs.take n) (ds.take n)
 | _,_,0,_=>.nil
 | _,_,_+1,.nil=>.nil
 | _,_,n+1,.cons a b=>.cons a (aw.take n b)
theorem aw.drop:∀ {xs:List V} {ds:List D} (n:Nat),aw R xs ds->aw R (xs.drop n) (ds.drop n)
 | _,_,0,h=>h
 | _,_,_+1,.nil=>.nil
 | _,_,n+1,.cons _ b=>aw.drop n b
theorem aw.set(r:Rp R x d):∀ {xs:List V} {ds:List D} (n:Nat),aw R xs ds->aw R (xs.set n x) (ds.set n d)
 | _,_,_,.nil=>.nil
 | _,_,0,.cons _ b=>.cons r b
 | _,_,n+1,.cons a b=>.cons a (aw.set r n b)
theorem aw.ints:∀ ns:List Int,aw R (ns.map V.int) (ns.map D.int)
 | []=>.nil
 |n::r=>.cons (.int n) (aw.ints r)
theorem aw.pick(h:aw R xs ds):∀ ps:List Nat,aw R (ps.filterMap (xs[·]?)) (ps.filterMap (ds[·]?))
 | []=>.nil
 |p::r=>by
   rw[qa6,qa6]
   cases e:xs[p]? with
   |none =>
     have:ds[p]? = none:=by rw[List.getElem?_eq_none_iff] at e ⊢;rw[<- h.len];exact e
     rw[this];exact h.pick r
   |some x =>
     obtain⟨d,e2,q⟩:=h.at e
     rw[e2];exact .cons q (h.pick r)
end
inductive Kd where
 |ai | own | io (k:Nat)
 deriving DecidableEq
noncomputable abbrev Sl:=Option (Kd×D)
abbrev En:=List Sl
inductive RV where
 |val (d:D) | new (d:D) | var (i:Nat)
def OwR(R H:Hp)(v:V)(d:D):Prop:=∃ a xs ds,v = .ref a/\R a=none/\H a=some (.lst xs)/\d = .lst ds/\aw R xs ds
def lg(ios:List Addr)(R H:Hp)(v:V):Kd×D->Prop
 | (.ai,d)=>Rp R v d
 | (.own,d)=>OwR R H v d
 | (.io k,d)=>OwR R H v d/\∃ a,ios[k]? = some a/\v = .ref a
def owned:Kd->Bool
 | .ai=>false
 | _=>true
def Ow(σ:St)(Γ:En)(b:Addr):Prop:=∃ (i:Nat) (k:Kd) (d:D),Γ[i]? = some (some (k,d))/\owned k=true/\σ[i]? = some (some (.ref b))
structure ER(ios:List Addr)(R H:Hp)(σ:St)(Γ:En):Prop where
 sub:ae R H
 len:σ.length=Γ.length
 sl:∀ (i:Nat) (s:Kd×D),Γ[i]? = some (some s)->∃ v,σ[i]? = some (some v)/\lg ios R H v s
 dj:∀ (i j:Nat) (k l:Kd) (d e:D) (b:Addr),Γ[i]? = some (some (k,d))->owned k=true->Γ[j]? = some (some (l,e))->owned l=true->σ[i]? = some (some (.ref b))->σ[j]? = some (some (.ref b))->i=j
structure Go(O:Addr->Prop)(R H:Hp)(O':Addr->Prop)(R' H':Hp):Prop where
 rr:ae R R'
 hh:∀ b o,H b=some o -> ¬ O b->H' b=some o
 no:∀ b o,H b=some o -> ¬ O b->R b=none->R' b=none
 oo:∀ b,O' b->O b\/H b=none
 th:∀ b o,H b=some o->∃ o',H' b=some o'
theorem Go.refl:Go O R H O R H:=⟨ae.refl _,fun _ _ h _=>h,fun _ _ _ _ h=>h,fun _ h=>.inl h,fun _ o h=>⟨o,h⟩⟩
theorem Go.trans{O O1 O2:Addr->Prop}{R H R1 H1 R2 H2:Hp}(g:Go O R H O1 R1 H1)(k:Go O1 R1 H1 O2 R2 H2):Go O R H O2 R2 H2:=by
 have nO:∀ b o,H b=some o -> ¬ O b -> ¬ O1 b:=fun b o h n z=>(g.oo b z).elim n fun q=>by rw[h] at q;cases q
 refine⟨g.rr.trans k.rr,fun b o h n=>k.hh b o (g.hh b o h n) (nO b o h n),fun b o h n r=>k.no b o (g.hh b o h n) (nO b o h n) (g.no b o h n r),fun b z=>?_,fun b o h=>let ⟨o1,h1⟩:=g.th b o h;k.th b o1 h1⟩
 rcases k.oo b z with q | q
 · exact g.oo b q
 · by_cases hO:O b
   · exact .inl hO
   · cases e:H b with
     |none=>exact .inr rfl
     |some o=>rw[g.hh b o e hO] at q;cases q
end Dv
namespace Dv
open PySem L2 Ex
variable[KC]
structure Xc where
 C:Cn
 fs:List (Str×D)
inductive Res(α:Type) where
 |ok (a:α) (Γ:En) | ex (x:Xc) (Γ:En) | st
abbrev M(α:Type):=En->Res α
def M.pure{α:Type}(a:α):M α:=fun Γ=>.ok a Γ
def M.bind{α β:Type}(f:M α)(g:α->M β):M β:=fun Γ=>match f Γ with
 | .ok a Γ'=>g a Γ'
 | .ex x Γ'=>.ex x Γ'
 | .st=>.st
def M.st{α:Type}:M α:=fun _=>.st
def M.cx{α:Type}:Option α->M α
 |some a=>M.pure a
 |none=>M.st
def br{α:Type}(r:Res α)(K:α->En->Prop)(E:Xc->En->Prop):Prop:=match r with
 | .ok a Γ=>K a Γ
 | .ex x Γ=>E x Γ
 | .st=>False
theorem Zj{α β:Type}{f:M α}{g:α->M β}{Γ:En}{K:β->En->Prop}{E:Xc->En->Prop}:br (M.bind f g Γ) K E=br (f Γ) (fun a Γ'=>br (g a Γ') K E) E:=by
 unfold M.bind br
 cases f Γ<;>rfl
theorem aG{α:Type}{r:Res α}{K K':α->En->Prop}(h:br r K E)(hK:∀ a Γ,K a Γ->K' a Γ)(hE:∀ x Γ,E x Γ->E' x Γ):br r K' E':=by
 cases r with
 |ok a Γ=>exact hK _ _ h
 |ex x Γ=>exact hE _ _ h
 |st=>exact h
theorem ij{α:Type}{o:Option α}{K:α->En->Prop}(h:br (M.cx o Γ) K E):∃ a,o=some a/\K a Γ:=by
 cases o with
 |none=>exact False.elim h
 |some a=>exact⟨a,rfl,h⟩
structure Al(R H R' H':Hp):Prop where
 sub:ae R' H'
 rr:ae R R'
 hh:ae H H'
 no:∀ b o,H b=some o->R b=none->R' b=none
theorem Al.refl(s:ae R H):Al R H R H:=⟨s,ae.refl _,ae.refl _,fun _ _ _ h=>h⟩
theorem Al.trans{R H R1 H1 R2 H2:Hp}(a:Al R H R1 H1)(b:Al R1 H1 R2 H2):Al R H R2 H2 :=
 ⟨b.sub,a.rr.trans b.rr,a.hh.trans b.hh,fun c o h r=>b.no c o (a.hh c o h) (a.no c o h r)⟩
theorem Al.go(a:Al R H R' H'):Go O R H O R' H':=⟨a.rr,fun b o h _=>a.hh b o h,fun b o h _ r=>a.no b o h r,fun _ h=>.inl h,fun b o h=>⟨o,a.hh b o h⟩⟩
theorem ER.ow(e:ER ios R H σ Γ)(o:Ow σ Γ b):R b=none/\∃ xs,H b=some (.lst xs):=by
 obtain⟨i,k,d,h1,h2,h3⟩:=o
 obtain⟨v,hv,s⟩:=e.sl i _ h1
 rw[h3] at hv
 cases hv
 cases k with
 |ai=>cases h2
 |own=>obtain⟨a,xs,ds,e1,e2,e3,_⟩:=s;cases e1;exact⟨e2,xs,e3⟩
 |io n=>obtain⟨⟨a,xs,ds,e1,e2,e3,_⟩,_⟩:=s;cases e1;exact⟨e2,xs,e3⟩
theorem OwR.mono(h:OwR R H v d)(rr:ae R R')(k:∀ a xs,v = .ref a->H a=some (.lst xs)->R a=none->H' a=some (.lst xs)/\R' a=none):OwR R' H' v d:=by
 obtain⟨a,xs,ds,rfl,h1,h2,rfl,h3⟩:=h
 obtain⟨k1,k2⟩:=k a xs rfl h2 h1
 exact⟨a,xs,ds,rfl,k2,k1,rfl,h3.sm rr⟩
theorem lg.mono(h:lg ios R H v s)(rr:ae R R')(k:owned s.1=true->∀ a xs,v = .ref a->H a=some (.lst xs)->R a=none->H' a=some (.lst xs)/\R' a=none):lg ios R' H' v s:=by
 obtain⟨kd,d⟩:=s
 cases kd with
 |ai=>exact Rp.sm rr h
 |own=>exact OwR.mono h rr (k rfl)
 |io n=>exact⟨OwR.mono h.1 rr (k rfl),h.2⟩
theorem ER.al(e:ER ios R H σ Γ)(a:Al R H R' H'):ER ios R' H' σ Γ where
 sub:=a.sub
 len:=e.len
 sl:=fun i s h=>let ⟨v,hv,q⟩:=e.sl i s h; ⟨v,hv,q.mono a.rr fun _ b xs _ h1 h2=>⟨a.hh _ _ h1,a.no _ _ h1 h2⟩⟩
 dj:=e.dj
structure aQ(ios:List Addr)(R H:Hp)(σ:St)(Γ:En)(R' H':Hp)(Γ':En):Prop where
 er:ER ios R' H' σ Γ'
 go:Go (Ow σ Γ) R H (Ow σ Γ') R' H'
 sh:∀ b,Ow σ Γ' b->Ow σ Γ b
section
variable{ios:List Addr}{R H R1 H1 R2 H2:Hp}{σ:St}{Γ ag aq:En}
theorem aQ.refl(e:ER ios R H σ Γ):aQ ios R H σ Γ R H Γ:=⟨e,Go.refl,fun _ h=>h⟩
theorem aQ.trans(a:aQ ios R H σ Γ R1 H1 ag)(b:aQ ios R1 H1 σ ag R2 H2 aq):aQ ios R H σ Γ R2 H2 aq:=⟨b.er,a.go.trans b.go,fun c h=>a.sh c (b.sh c h)⟩
theorem aQ.al(a:aQ ios R H σ Γ R1 H1 ag)(b:Al R1 H1 R2 H2):aQ ios R H σ Γ R2 H2 ag:=⟨a.er.al b,a.go.trans b.go,a.sh⟩
def dQ(R H H':Hp)(σ:St)(x:V):RV->Prop
 | .val d=>Rp R x d
 | .new d=>OwR R H' x d/\∃ a,x = .ref a/\H a=none
 | .var i=>σ[i]? = some (some x)
theorem dQ.go(e:ER ios R H σ Γ)(a:aQ ios R H σ Γ R1 H1 ag)(h:dQ R1 H H1 σ x rv)(b:Go (Ow σ ag) R1 H1 (Ow σ aq) R2 H2):dQ R2 H H2 σ x rv:=by
 cases rv with
 |val d=>exact Rp.sm b.rr h
 |var i=>exact h
 |new d =>
   obtain⟨h1,p,hp,hn⟩:=h
   refine⟨h1.mono b.rr fun q xs e1 e2 e3=>?_,p,hp,hn⟩
   have : ¬ Ow σ ag q:=fun z=>by
    have hq:q=p:=by rw[hp] at e1;exact(V.ref.inj e1).symm
    obtain⟨_,xs,e4⟩:=e.ow (a.sh q z)
    rw[hq,hn] at e4;cases e4
   exact⟨b.hh _ _ e2 this,b.no _ _ e2 this e3⟩
def Pk(R H:Hp)(x:V)(d:D):Prop:=Rp R x d\/∃ a xs ds,x = .ref a/\H a=some (.lst xs)/\d = .lst ds/\aw R xs ds
theorem Pk.lst{ds:List D}{x:V}(s:ae R H)(h:Pk R H x (.lst ds)):∃ a xs,x = .ref a/\H a=some (.lst xs)/\aw R xs ds:=by
 rcases h with h | ⟨a,xs,ds',rfl,h1,h2,h3⟩
 · cases h with | lst e q=>exact⟨_,_,rfl,s _ _ e,q⟩
 · cases h2;exact⟨a,xs,rfl,h1,h3⟩
theorem Pk.hv(s:ae R H)(h:Pk R H x d):Rp H x d:=by
 rcases h with h | ⟨a,xs,ds',rfl,h1,rfl,h3⟩
 · exact h.sm s
 · exact .lst h1 (h3.sm s)
theorem Pk.int(h:Pk R H x (.int i)):x = .int i:=by
 rcases h with h | ⟨a,xs,ds',rfl,h1,h2,h3⟩
 · cases h;rfl
 · cases h2
theorem Pk.bl(h:Pk R H x (.bl i)):x = .bl i:=by
 rcases h with h | ⟨a,xs,ds',rfl,h1,h2,h3⟩
 · cases h;rfl
 · cases h2
theorem Pk.str(h:Pk R H x (.str i)):x = .str i:=by
 rcases h with h | ⟨a,xs,ds',rfl,h1,h2,h3⟩
 · cases h;rfl
 · cases h2
theorem Pk.tup{ds:List D}{x:V}(h:Pk R H x (.tup ds)):∃ a xs,x = .ref a/\R a=some (.tup xs)/\aw R xs ds:=by
 rcases h with h | ⟨a,xs,ds',rfl,h1,h2,h3⟩
 · cases h with | tup e q=>exact⟨_,_,rfl,e,q⟩
 · cases h2
end
def peek:RV->M D
 | .val d=>M.pure d
 | .new d=>M.pure d
 | .var i=>fun Γ=>match Γ[i]? with
   |some (some (_,d))=>.ok d Γ
   | _=>.st
def mat:RV->M D
 | .val d=>M.pure d
 | .new d=>M.pure d
 | .var i=>fun Γ=>match Γ[i]? with
   |some (some (_,d))=>.ok d (Γ.set i (some (.ai,d)))
   | _=>.st
section
variable{ios:List Addr}{R H R1 H1 R2 H2:Hp}{σ:St}{Γ ag aq:En}
theorem lg.pk(h:lg ios R H v s):Pk R H v s.2:=by
 obtain⟨kd,d⟩:=s
 cases kd with
 |ai=>exact .inl h
 |own=>obtain⟨a,xs,ds,h1,_,h2,h3,h4⟩:=h;exact .inr ⟨a,xs,ds,h1,h2,h3,h4⟩
 |io n=>obtain⟨⟨a,xs,ds,h1,_,h2,h3,h4⟩,_⟩:=h;exact .inr ⟨a,xs,ds,h1,h2,h3,h4⟩
theorem iD(e:ER ios R1 H1 σ ag)(h:dQ R1 H H1 σ x rv)(k:br (peek rv ag) K E):∃ d,Pk R1 H1 x d/\K d ag:=by
 cases rv with
 |val d=>exact⟨d,.inl h,k⟩
 |new d =>
   obtain⟨⟨a,xs,ds,h1,_,h2,h3,h4⟩,_⟩:=h
   exact⟨d,.inr ⟨a,xs,ds,h1,h2,h3,h4⟩,k⟩
 |var i =>
   unfold peek at k
   dsimp only at k
   split at k
   · rename_i q
     obtain⟨v,hv,s⟩:=e.sl i _ q
     have h:σ[i]? = some (some x):=h
     rw[h] at hv
     cases hv
     exact⟨_,s.pk,k⟩
   · exact False.elim k
def ext(R H:Hp)(a:Addr):Hp:=fun b=>if b=a then H a else R b
theorem yW(h:R a=none):ae R (ext R H a):=fun b o e=>by
 unfold ext
 split
 · rename_i z;rw[z,h] at e;cases e
 · exact e
theorem vb:ext R H a a=H a:=by unfold ext;rw[if_pos rfl]
theorem qq(h:b≠a):ext R H a b=R b:=by unfold ext;rw[if_neg h]
theorem yX(s:ae R H):ae (ext R H a) H:=fun b o e=>by
 unfold ext at e
 split at e
 · rename_i z;rw[z];exact e
 · exact s b o e
theorem Ek(h:Ow σ (Γ.set i (some (.ai,d))) b):Ow σ Γ b /\ ¬ (σ[i]? = some (some (.ref b))/\∀ j k d,Γ[j]? = some (some (k,d))->owned k=true->σ[j]? = some (some (.ref b))->j=i):=by
 obtain⟨j,k,e,h1,h2,h3⟩:=h
 by_cases hj:j=i
 · subst hj
   by_cases hl:j<Γ.length
   · rw[qak hl] at h1;cases h1;cases h2
   · rw[List.getElem?_eq_none (by rw[qbc];omega)] at h1;cases h1
 · rw[qai (qaT hj)] at h1
   exact⟨⟨j,k,e,h1,h2,h3⟩,fun ⟨_,z⟩=>hj (z j k e h1 h2 h3)⟩
theorem ER.freeze{i:Nat}{k:Kd}{d:D}{x:V}(e:ER ios R H σ Γ)(hi:Γ[i]? = some (some (k,d)))(hx:σ[i]? = some (some x)):∃ R',aQ ios R H σ Γ R' H (Γ.set i (some (.ai,d)))/\Rp R' x d:=by
 obtain⟨v,hv,s⟩:=e.sl i _ hi
 rw[hx] at hv
 cases hv
 have hlt:i<Γ.length:=(qad.mp hi).1
 by_cases hk:owned k=true
 · obtain⟨a,xs,ds,rfl,h1,h2,rfl,h3⟩:OwR R H x d:=by
    cases k with
    |ai=>cases hk
    |own=>exact s
    |io n=>exact s.1
   have inj:∀ j l z,Γ[j]? = some (some (l,z))->owned l=true->σ[j]? = some (some (.ref a))->j=i:=fun j l z q1 q2 q3=>(e.dj i j k l _ z a hi hk q1 q2 hx q3).symm
   have rr:ae R (ext R H a):=yW h1
   refine⟨ext R H a,⟨⟨yX e.sub,by rw[qbc];exact e.len,fun j t hj=>?_,fun j j' l l' z z' b q1 q2 q3 q4 q5 q6=>?_⟩,⟨rr,fun _ _ h _=>h,fun b o hb nb rb=>?_,fun b z=>.inl (Ek z).1,fun b o h=>⟨o,h⟩⟩,fun b z=>(Ek z).1⟩,.lst (by rw[vb];exact h2) (h3.sm rr)⟩
   · by_cases hji:j=i
     · subst hji
       rw[qak hlt] at hj
       cases hj
       exact⟨_,hx,.lst (by rw[vb];exact h2) (h3.sm rr)⟩
     · rw[qai (qaT hji)] at hj
       obtain⟨v,hv,q⟩:=e.sl j t hj
       refine⟨v,hv,q.mono rr fun ho b ys eb hb rb=>⟨hb,?_⟩⟩
       rw[qq]
       · exact rb
       · rintro rfl
         subst eb
         exact hji (inj j t.1 t.2 hj ho hv)
   · have g1:Γ[j]? = some (some (l,z)):=by
      by_cases hji:j=i
      · subst hji;rw[qak hlt] at q1;cases q1;cases q2
      · rwa[qai (qaT hji)] at q1
     have g2:Γ[j']? = some (some (l',z')):=by
      by_cases hji:j'=i
      · subst hji;rw[qak hlt] at q3;cases q3;cases q4
      · rwa[qai (qaT hji)] at q3
     exact e.dj j j' l l' z z' b g1 q2 g2 q4 q5 q6
   · rw[qq]
     · exact rb
     · rintro rfl
       exact nb ⟨i,k,_,hi,hk,hx⟩
 · have hk:k = .ai:=by cases k<;>first | rfl | exact absurd rfl hk
   subst hk
   have:Γ.set i (some (.ai,d))=Γ:=by
    apply List.ext_getElem?
    intro j
    by_cases hj:j=i
    · subst hj;rw[qak hlt,hi]
    · rw[qai (qaT hj)]
   rw[this]
   exact⟨R,aQ.refl e,s⟩
theorem jd(e:ER ios R H σ Γ)(a:aQ ios R H σ Γ R1 H1 ag)(h:dQ R1 H H1 σ x rv)(k:br (mat rv ag) K E):∃ d aq R2,aQ ios R H σ Γ R2 H1 aq/\ae R1 R2/\Rp R2 x d/\K d aq:=by
 cases rv with
 |val d=>exact⟨d,ag,R1,a,ae.refl _,h,k⟩
 |new d =>
   obtain⟨⟨p,xs,ds,rfl,h1,h2,rfl,h3⟩,q,hq,hn⟩:=h
   cases hq
   have rr:ae R1 (ext R1 H1 p):=yW h1
   have nO : ¬ Ow σ Γ p:=fun z=>by obtain⟨_,xs,e4⟩:=e.ow z;rw[hn] at e4;cases e4
   refine⟨_,ag,ext R1 H1 p,⟨⟨yX a.er.sub,a.er.len,fun j t hj=>?_,a.er.dj⟩,⟨a.go.rr.trans rr,a.go.hh,fun b o hb nb rb=>?_,a.go.oo,a.go.th⟩,a.sh⟩,rr,.lst (by rw[vb];exact h2) (h3.sm rr),k⟩
   · obtain⟨v,hv,s⟩:=a.er.sl j t hj
     refine⟨v,hv,s.mono rr fun ho b ys eb hb rb=>⟨hb,?_⟩⟩
     rw[qq]
     · exact rb
     · rintro rfl
       subst eb
       exact nO (a.sh _ ⟨j,t.1,t.2,hj,ho,hv⟩)
   · rw[qq]
     · exact a.go.no b o hb nb rb
     · rintro rfl
       rw[hn] at hb;cases hb
 |var i =>
   unfold mat at k
   dsimp only at k
   split at k
   · rename_i q
     obtain⟨R',f,r⟩:=a.er.freeze q h
     exact⟨_,_,R',a.trans f,f.go.rr,r,k⟩
   · exact False.elim k
end
def me(R H0 H:Hp)(e:Addr)(x:Xc):Prop:=R e=none/\H0 e=none/\((x.fs=[]/\H e=some (b6 (KC.cls x.C) e none false)) \/
 ∃ d fs,H e=some (b6 (KC.cls x.C) e (some d) false)/\H d=some (ke d fs)/\R d=none/\H0 d=none/\fs.map (·.1)=x.fs.map (·.1)/\aw R (fs.map (·.2)) (x.fs.map (·.2)))
theorem me.back(b:∀ a,H1 a=none->H0 a=none)(h:me R H1 H e x):me R H0 H e x:=by
 obtain⟨h1,h2,h3⟩:=h
 refine⟨h1,b _ h2,h3.imp id fun ⟨d,fs,a1,a2,a3,a4,a5⟩=>⟨d,fs,a1,a2,a3,b _ a4,a5⟩⟩
theorem aQ.since(h:aQ ios R H σ Γ R' H' Γ'):∀ b,H' b=none->H b=none:=fun b hb=>by
 cases q:H b with
 |none=>rfl
 |some o =>
   obtain⟨o',z⟩:=h.go.th b o q
   rw[hb] at z;cases z
def dw(EE:aT)(ios:List Addr)(R H:Hp)(σ:St)(Γ:En):Xc->En->Prop:=fun x Γ'=>∀ e H' R',aQ ios R H σ Γ R' H' Γ'->me R' H H' e x->EE σ (.ref (KC.cls x.C)) (some e) H'
theorem dw.trans(a:aQ ios R H σ Γ R1 H1 ag)(h:dw EE ios R H σ Γ x Γ'):dw EE ios R1 H1 σ ag x Γ':=fun e H' R' b q=>h e H' R' (a.trans b) (q.back a.since)
def eV(EE:aT)(ios:List Addr)(t:TE)(f:M RV):Prop:=∀ σ H R Γ Q,ER ios R H σ Γ ->
 br (f Γ) (fun rv Γ'=>∀ x H' R',aQ ios R H σ Γ R' H' Γ'->dQ R' H H' σ x rv->Q x H') (dw EE ios R H σ Γ)->t σ H Q
def je(EE:aT)(ios:List Addr)(t:TT)(f:M Bool):Prop:=∀ σ H R Γ Q,ER ios R H σ Γ ->
 br (f Γ) (fun b Γ'=>∀ H' R',aQ ios R H σ Γ R' H' Γ'->Q b H') (dw EE ios R H σ Γ)->t σ H Q
def VE(X:Cx)(EE:aT)(ios:List Addr)(e:Expr)(f:M RV):Prop:=∃ t,PE X e t/\eV EE ios t f
def VT(X:Cx)(EE:aT)(ios:List Addr)(e:Expr)(f:M Bool):Prop:=∃ t,PT X e t/\je EE ios t f
def VW(X:Cx)(EE:aT)(ios:List Addr)(e:Expr)(f:M Bool):Prop:=∃ t,PW X e t/\je EE ios t f
def oQ(R:Hp)(σ:St)(x:V):RV->Prop
 | .val d=>Rp R x d
 | .new _=>False
 | .var i=>σ[i]? = some (some x)
inductive d8(R:Hp)(σ:St):List V->List RV->Prop where
 |nil:d8 R σ [] []
 |cons {x:V} {rv:RV} {xs:List V} {rvs:List RV}:oQ R σ x rv->d8 R σ xs rvs->d8 R σ (x::xs) (rv::rvs)
theorem oQ.sm(s:ae R R')(h:oQ R σ x rv):oQ R' σ x rv:=by
 cases rv with
 |val d=>exact Rp.sm s h
 |new d=>exact h
 |var i=>exact h
theorem d8.sm(s:ae R R'):∀ {xs:List V} {rvs:List RV},d8 R σ xs rvs->d8 R' σ xs rvs
 | _,_,.nil=>.nil
 | _,_,.cons a b=>.cons (a.sm s) (b.sm s)
theorem oQ.rv{R H H':Hp}{σ:St}{x:V}{rv:RV}(h:oQ R σ x rv):dQ R H H' σ x rv:=by
 cases rv with
 |val d=>exact h
 |new d=>exact h.elim
 |var i=>exact h
def oR(EE:aT)(ios:List Addr)(t:TA)(f:M (List RV)):Prop:=∀ σ H R Γ Q,ER ios R H σ Γ ->
 br (f Γ) (fun rvs Γ'=>∀ xs H' R',aQ ios R H σ Γ R' H' Γ'->d8 R' σ xs rvs->Q xs H') (dw EE ios R H σ Γ)->t σ H Q
def VA(X:Cx)(EE:aT)(ios:List Addr)(es:List Expr)(f:M (List RV)):Prop:=∃ t,PA X es t/\oR EE ios t f
section
variable{X:Cx}{EE:aT}{ios:List Addr}{e a b c:Expr}{f g k:M RV}{pos:Pos}
def ZS(i:Nat):M RV:=fun Γ=>match Γ[i]? with
 |some (some (.ai,d))=>.ok (.val d) Γ
 |some (some _)=>.ok (.var i) Γ
 | _=>.st
theorem Mm(h:PE X e (n8 i)):VE X EE ios e (ZS i):=by
 refine⟨_,h,fun σ H R Γ Q er w=>?_⟩
 unfold ZS at w
 split at w
 · rename_i q
   obtain⟨v,hv,s⟩:=er.sl i _ q
   exact⟨v,hv,w v H R (aQ.refl er) s⟩
 · rename_i q
   obtain⟨v,hv,s⟩:=er.sl i _ q
   exact⟨v,hv,w v H R (aQ.refl er) hv⟩
 · exact False.elim w
theorem su(h:PE X e (tC v))(r:∀ R,Rp R v d):VE X EE ios e (M.pure (.val d)) :=
 ⟨_,h,fun σ H R Γ Q er w=>w v H R (aQ.refl er) (r R)⟩
theorem bU:VE X EE ios (.Constant (.int i) j pos) (M.pure (.val (.int i))):=su CH fun _=>.int i
theorem lq:VE X EE ios (.Constant (.bool i) j pos) (M.pure (.val (.bl i))):=su Jy fun _=>.bl i
theorem sv:VE X EE ios (.Constant .none j pos) (M.pure (.val .av)):=su Jz fun _=>.av
theorem yY:VE X EE ios (.Constant (.str i) j pos) (M.pure (.val (.str i))):=su p9 fun _=>.str i
def jf(R H H':Hp)(z:V):RV->Prop
 | .val d=>Rp R z d
 | .new d=>OwR R H' z d/\∃ a,z = .ref a/\H a=none
 | .var _=>False
theorem jf.rv{R H0 H H':Hp}{σ:St}{z:V}{rv:RV}(h:jf R H H' z rv)(s:∀ b,H b=none->H0 b=none):dQ R H0 H' σ z rv:=by
 cases rv with
 |val d=>exact h
 |new d=>obtain⟨h1,a,h2,h3⟩:=h;exact⟨h1,a,h2,s _ h3⟩
 |var i=>exact h.elim
theorem aQ.back(er:ER ios R H σ Γ)(h:aQ ios R H σ Γ R' H' Γ'):∀ b,H' b=none->H b=none:=fun b hb=>by
 cases q:H b with
 |none=>rfl
 |some o =>
   obtain⟨o',z⟩:=h.go.th b o q
   rw[hb] at z;cases z
end
section
variable{X:Cx}{EE:aT}{ios:List Addr}{e a b c:Expr}{f g k:M RV}{pos:Pos}{ta tb tc t:TE}{r r':R2}
def cI(r:R2)(g:D->D->Option RV):Prop:=∀ R H x y d e rv (Q:VK),ae R H->Pk R H x d->Pk R H y e->g d e=some rv->(∀ z H' R',Al R H R' H'->jf R' H H' z rv->Q z H')->r x y H Q
def op2(o:D->D->Option RV)(f g:M RV):M RV:=M.bind f fun x=>M.bind g fun y=>M.bind (peek x) fun d=>M.bind (peek y) fun e=>M.cx (o d e)
theorem vc{o:D->D->Option RV}(ho:cI r o)(ha:eV EE ios ta f)(hb:eV EE ios tb g):eV EE ios (rW r ta tb) (op2 o f g):=by
 intro σ H R Γ Q er w
 unfold op2 at w
 rw[Zj] at w
 refine ha σ H R Γ _ er (aG w (fun rx ag w x H1 R1 p1 hx=>?_) fun _ _ z=>z)
 rw[Zj] at w
 refine hb σ H1 R1 ag _ p1.er (aG w (fun ry aq w y H2 R2 p2 hy=>?_) fun _ _ z=>dw.trans p1 z)
 rw[Zj] at w
 obtain⟨d,pd,w⟩:=iD p2.er (hx.go er p1 p2.go) w
 rw[Zj] at w
 obtain⟨e,pe,w⟩:=iD p2.er hy w
 obtain⟨rv,hg,w⟩:=ij w
 exact ho R2 H2 x y d e rv Q p2.er.sub pd pe hg fun z H' R' al ra=>w z H' R' ((p1.trans p2).al al) (ra.rv ((p1.trans p2).back er))
theorem dk{op:Operator}{o:D->D->Option RV}(h:bw X (binaryOp op) r)(ho:cI r o)(ha:VE X EE ios a f)(hb:VE X EE ios b g):VE X EE ios (.BinOp a op b pos) (op2 o f g) :=
 let ⟨_,h1,h2⟩:=ha;let ⟨_,h3,h4⟩:=hb; ⟨_,J2 h h1 h3,vc ho h2 h4⟩
theorem jI{op:CmpOp}{o:D->D->Option RV}(h:bw X (compareOp op) r)(ho:cI r o)(ha:VE X EE ios a f)(hb:VE X EE ios b g)(hm:behindInMarks op b=false):VE X EE ios (.Compare a [op] [b] pos) (op2 o f g) :=
 let ⟨_,h1,h2⟩:=ha;let ⟨_,h3,h4⟩:=hb; ⟨_,Kh h h1 h3 hm,vc ho h2 h4⟩
def aY(rv:RV):M Bool:=match rv with
 | .val (.bl b)=>M.pure b
 | _=>M.st
theorem Em(h:eV EE ios t f):je EE ios (Dc t) (M.bind f aY):=by
 intro σ H R Γ Q er w
 rw[Zj] at w
 refine h σ H R Γ _ er (aG w (fun rv ag w x H1 R1 p1 hx=>?_) fun _ _ z=>z)
 unfold aY at w
 split at w
 · cases hx;exact⟨_,rfl,w H1 R1 p1⟩
 · exact False.elim w
theorem eI{op:CmpOp}{o:D->D->Option RV}(h:bw X (compareOp op) r)(ho:cI r o)(ha:VE X EE ios a f)(hb:VE X EE ios b g)(hm:behindInMarks op b=false):VT X EE ios (.Compare a [op] [b] pos) (M.bind (op2 o f g) aY) :=
 let ⟨_,h1,h2⟩:=ha;let ⟨_,h3,h4⟩:=hb; ⟨_,Ki h h1 h3 hm,Em (vc ho h2 h4)⟩
theorem yZ(ha:VE X EE ios e f)(he:∀ whole,isTrue e X.env whole=(do let v <- whole;standAt e.pos;holding [v] (truthy v)):=by intro _;rfl):VT X EE ios e (M.bind f aY) :=
 let ⟨_,h1,h2⟩:=ha; ⟨_,JA h1 he,Em h2⟩
def sx(o o':D->D->Option RV)(f g k:M RV):M RV:=M.bind f fun x=>M.bind g fun y=>M.bind (peek x) fun d=>M.bind (peek y) fun e=>M.bind (M.bind (M.cx (o d e)) aY) fun q =>
 if q then M.bind k fun z=>M.bind (peek y) fun e'=>M.bind (peek z) fun u=>M.cx (o' e' u) else M.pure (.val (.bl false))
theorem Mn{o o':D->D->Option RV}(ho:cI r o)(ho':cI r' o')(ha:eV EE ios ta f)(hb:eV EE ios tb g)(hc:eV EE ios tc k):eV EE ios (Dd r r' ta tb tc) (sx o o' f g k):=by
 intro σ H R Γ Q er w
 unfold sx at w
 rw[Zj] at w
 refine ha σ H R Γ _ er (aG w (fun rx ag w x H1 R1 p1 hx=>?_) fun _ _ z=>z)
 rw[Zj] at w
 refine hb σ H1 R1 ag _ p1.er (aG w (fun ry aq w y H2 R2 p2 hy=>?_) fun _ _ z=>dw.trans p1 z)
 have jg:=p1.trans p2
 rw[Zj] at w
 obtain⟨d,pd,w⟩:=iD p2.er (hx.go er p1 p2.go) w
 rw[Zj] at w
 obtain⟨e,pe,w⟩:=iD p2.er hy w
 rw[Zj,Zj] at w
 obtain⟨rv,hg,w⟩:=ij w
 refine ho R2 H2 x y d e rv _ p2.er.sub pd pe hg fun z H3 R3 al ra=>?_
 unfold aY at w
 split at w
 · rename_i q
   cases ra
   refine⟨q,rfl,?_⟩
   have w:br ((if q=true then M.bind k fun z=>M.bind (peek ry) fun e'=>M.bind (peek z) fun u=>M.cx (o' e' u) else M.pure (.val (.bl false))) aq) _ _:=w
   cases q with
   |false=>exact oA (w (.bl false) H3 R3 (jg.al al) (.bl false))
   |true =>
     refine oB ?_
     simp only[if_true] at w
     rw[Zj] at w
     have jJ:=jg.al al
     refine hc σ H3 R3 aq _ jJ.er (aG w (fun rz jK w z H4 R4 p4 hz=>?_) fun _ _ z=>dw.trans jJ z)
     rw[Zj] at w
     have Mp:dQ R3 H1 H3 σ y ry:=hy.go p1.er p2 al.go
     obtain⟨e',Mq,w⟩:=iD p4.er (Mp.go p1.er (p2.al al) p4.go) w
     rw[Zj] at w
     obtain⟨u,pu,w⟩:=iD p4.er hz w
     obtain⟨rv,hg',w⟩:=ij w
     exact ho' R4 H4 y z e' u rv Q p4.er.sub Mq pu hg' fun v H' R' al' Mr=>w v H' R' ((jJ.trans p4).al al') (Mr.rv ((jJ.trans p4).back er))
 · exact False.elim w
theorem Ms{op op':CmpOp}{o o':D->D->Option RV}(h:bw X (compareOp op) r)(h':bw X (compareOp op') r')(ho:cI r o)(ho':cI r' o')(ha:VE X EE ios a f)(hb:VE X EE ios b g)(hc:VE X EE ios c k)
 (hm:lastMarks [op,op'] [b,c]=false:=by with_unfolding_all rfl):VE X EE ios (.Compare a [op,op'] [b,c] pos) (sx o o' f g k) :=
 let ⟨_,h1,h2⟩:=ha;let ⟨_,h3,h4⟩:=hb;let ⟨_,h5,h6⟩:=hc; ⟨_,Kj h h' h1 h3 h5 hm,Mn ho ho' h2 h4 h6⟩
variable{p q:M Bool}
def jL(p:M Bool):M Bool:=M.bind p fun b=>M.pure (!b)
def andM(p q:M Bool):M Bool:=M.bind p fun b=>if b then q else M.pure false
def orM(p q:M Bool):M Bool:=M.bind p fun b=>if b then M.pure true else q
theorem Mt{t:TT}(h:je EE ios t p):je EE ios (CK t) (jL p):=by
 intro σ H R Γ Q er w
 unfold jL at w
 rw[Zj] at w
 exact h σ H R Γ _ er (aG w (fun b ag w H1 R1 p1=>w H1 R1 p1) fun _ _ z=>z)
theorem Mu{t u:TT}(h:je EE ios t p)(h':je EE ios u q):je EE ios (CI t u) (andM p q):=by
 intro σ H R Γ Q er w
 unfold andM at w
 rw[Zj] at w
 refine h σ H R Γ _ er (aG w (fun b ag w H1 R1 p1=>?_) fun _ _ z=>z)
 cases b with
 |false=>exact oA (w H1 R1 p1)
 |true=>exact oB (h' σ H1 R1 ag _ p1.er (aG w (fun b aq w H2 R2 p2=>w H2 R2 (p1.trans p2)) fun _ _ z=>dw.trans p1 z))
theorem Mv{t u:TT}(h:je EE ios t p)(h':je EE ios u q):je EE ios (CJ t u) (orM p q):=by
 intro σ H R Γ Q er w
 unfold orM at w
 rw[Zj] at w
 refine h σ H R Γ _ er (aG w (fun b ag w H1 R1 p1=>?_) fun _ _ z=>z)
 cases b with
 |true=>exact oB (w H1 R1 p1)
 |false=>exact oA (h' σ H1 R1 ag _ p1.er (aG w (fun b aq w H2 R2 p2=>w H2 R2 (p1.trans p2)) fun _ _ z=>dw.trans p1 z))
theorem y_(h:VT X EE ios a p):VT X EE ios (.UnaryOp .Not a pos) (jL p):=let ⟨_,h1,h2⟩:=h; ⟨_,JF h1,Mt h2⟩
theorem Eo(h:VT X EE ios a p):VW X EE ios (.BoolOp .And [a] pos) p:=let ⟨_,h1,h2⟩:=h; ⟨_,JB h1,h2⟩
theorem qr(h:VT X EE ios a p):VW X EE ios (.BoolOp .Or [a] pos) p:=let ⟨_,h1,h2⟩:=h; ⟨_,JC h1,h2⟩
theorem Ep{rest:List Expr}(h:VT X EE ios a p)(h':VW X EE ios (.BoolOp .And (b::rest) pos) q):VW X EE ios (.BoolOp .And (a::b::rest) pos) (andM p q):=let ⟨_,h1,h2⟩:=h;let ⟨_,h3,h4⟩:=h'; ⟨_,JD h1 h3,Mu h2 h4⟩
theorem qs{rest:List Expr}(h:VT X EE ios a p)(h':VW X EE ios (.BoolOp .Or (b::rest) pos) q):VW X EE ios (.BoolOp .Or (a::b::rest) pos) (orM p q):=let ⟨_,h1,h2⟩:=h;let ⟨_,h3,h4⟩:=h'; ⟨_,JE h1 h3,Mv h2 h4⟩
theorem ny(h:VW X EE ios a p):VT X EE ios a p:=let ⟨_,h1,h2⟩:=h; ⟨_,PW.pt h1,h2⟩
def vd(p:M Bool):M RV:=M.bind p fun b=>M.pure (.val (.bl b))
def iS(f g:M RV):M RV:=M.bind (M.bind f aY) fun b=>if b then g else M.pure (.val (.bl false))
theorem Mw{R0 H0 R H R' H':Hp}{σ:St}{gI Γ Γ':En}{x:V}{rv:RV}(er:ER ios R0 H0 σ gI)(p1:aQ ios R0 H0 σ gI R H Γ)(h:dQ R' H H' σ x rv):dQ R' H0 H' σ x rv:=by
 cases rv with
 |val d=>exact h
 |new d=>obtain⟨h1,a,h2,h3⟩:=h;exact⟨h1,a,h2,p1.back er _ h3⟩
 |var i=>exact h
theorem sA{op:BoolOp}(h:VE X EE ios a f):VE X EE ios (.BoolOp op [a] pos) f:=let ⟨_,h1,h2⟩:=h; ⟨_,JI h1,h2⟩
theorem mf{rest:List Expr}(h:VE X EE ios a f)(h':VE X EE ios (.BoolOp .And (b::rest) pos) g):VE X EE ios (.BoolOp .And (a::b::rest) pos) (iS f g):=by
 obtain⟨_,h1,h2⟩:=h
 obtain⟨_,h3,h4⟩:=h'
 refine⟨_,JJ h1 h3,fun σ H R Γ Q er w=>?_⟩
 unfold iS at w
 rw[Zj] at w
 refine h2 σ H R Γ _ er (aG (by rw[Zj] at w;exact w) (fun rv ag w x H1 R1 p1 hx=>?_) fun _ _ z=>z)
 unfold aY at w
 split at w
 · rename_i q
   cases hx
   refine⟨_,rfl,?_⟩
   cases q with
   |false=>exact oA (w (.bl false) H1 R1 p1 (.bl false))
   |true=>exact oB (h4 σ H1 R1 ag _ p1.er (aG w (fun rv aq w y H2 R2 p2 hy=>w y H2 R2 (p1.trans p2) (Mw (Γ':=aq) er p1 hy)) fun _ _ z=>dw.trans p1 z))
 · exact False.elim w
theorem Mx(h:VE X EE ios a f):VE X EE ios (.UnaryOp .Not a pos) (vd (jL (M.bind f aY))):=by
 obtain⟨_,h1,h2⟩:=h
 refine⟨_,JK h1,fun σ H R Γ Q er w=>?_⟩
 unfold vd jL at w
 rw[Zj,Zj,Zj] at w
 refine h2 σ H R Γ _ er (aG w (fun rv ag w x H1 R1 p1 hx=>?_) fun _ _ z=>z)
 unfold aY at w
 split at w
 · cases hx
   exact⟨_,rfl,w _ H1 R1 p1 (.bl _)⟩
 · exact False.elim w
end
mutual
noncomputable def D.py:D->PyData
 | .av=>.none
 | .bl b=>.bool b
 | .int i=>.int i
 | .str x=>.str x
 | .lst xs=>.list (D.cy xs)
 | .tup xs=>.tuple (D.cy xs)
 | .md _ _=>.dict []
 | .bH _=>.dict []
 | .ins _ _ _=>.dict []
 | .obj _ _ _=>.dict []
noncomputable def D.cy:List D->List PyData
 | []=>[]
 |x::r=>x.py::D.cy r
end
mutual
theorem Rp.dat:∀ {x:V} {d:D},Rp H x d->d.py.canLay0=true->bA H x d.py
 | _,_,.av,_=>.av
 | _,_,.bl b,_=>.bl b
 | _,_,.int i,_=>.int i
 | _,_,.str x,_=>.str x
 | _,_,.lst e h,p=>.lst e (aw.dat h (by simpa [D.py,PyData.canLay0] using p))
 | _,_,.tup e h,p=>.tup e (aw.dat h (by simpa [D.py,PyData.canLay0] using p))
 | _,_,.iB e,p=>by simp[D.py,PyData.canLay0] at p
 | _,_,.bH e,p=>by simp[D.py,PyData.canLay0] at p
 | _,_,.iC e,p=>by simp[D.py,PyData.canLay0] at p
 | _,_,.exc e e' h,p=>by simp[D.py,PyData.canLay0] at p
 | _,_,.obj e h,p=>by simp[D.py,PyData.canLay0] at p
theorem aw.dat:∀ {xs:List V} {ds:List D},aw H xs ds->PyData.canLayAll0 (D.cy ds)=true->aV H xs (D.cy ds)
 | _,_,.nil,_=>.nil
 | _,_,.cons a b,p=>by
   have p:=qbl.mp (show(PyData.canLay0 _ && PyData.canLayAll0 _)=true from by simpa only [D.cy,PyData.canLayAll0] using p)
   exact .cons (Rp.dat a p.1) (aw.dat b p.2)
end
def eqB(d e:D):Bool:=PyData.eqv d.py e.py
def cX(d:D):Bool:=SeqAt.shaped d.py
theorem qt(h:cX d=true):d.py.canLay0=true:=SeqAt.canLay_of_shaped h
def qu(d e:D):Option RV:=if cX d && cX e then some (.val (.bl (eqB d e))) else none
def sC(d e:D):Option RV:=if cX d && cX e then some (.val (.bl (!eqB d e))) else none
section
variable{K:W.Frag}
theorem My:cI yQ qu:=by
 intro R H x y d e rv Q s px py hg q
 unfold qu at hg
 split at hg
 · rename_i c
   rw[qa1] at c
   cases hg
   exact⟨d.py,e.py,(px.hv s).dat (qt c.1),(py.hv s).dat (qt c.2),c.1,c.2,q _ H R (Al.refl s) (.bl _)⟩
 · cases hg
theorem Mz:cI yR sC:=by
 intro R H x y d e rv Q s px py hg q
 unfold sC at hg
 split at hg
 · rename_i c
   rw[qa1] at c
   cases hg
   exact⟨d.py,e.py,(px.hv s).dat (qt c.1),(py.hv s).dat (qt c.2),c.1,c.2,q _ H R (Al.refl s) (.bl _)⟩
 · cases hg
def gz:D->D->Option RV
 | .str x,.str y=>some (.val (.bl (decide (x=y))))
 |d,e=>qu d e
def bI:D->D->Option RV
 | .str x,.str y=>some (.val (.bl (!decide (x=y))))
 |d,e=>sC d e
def Er:R2:=fun x y H Q=>yQ x y H Q\/C3 x y H Q
def Es:R2:=fun x y H Q=>yR x y H Q\/C4 x y H Q
omit [KC] in
theorem vf{X:Cx}(hr:aj k X.A):bw X (compareOp .Eq) Er:=(Mb hr).or op_eq
omit [KC] in
theorem jh{X:Cx}(hr:aj k X.A):bw X (compareOp .NotEq) Es:=(Md hr).or Kf
omit [KC] in
theorem Et(x y:Str):decide (V.str x=V.str y)=decide (x=y):=by
 by_cases h:x=y
 · subst h;simp
 · simp[h]
theorem vg:cI Er gz:=by
 intro R H x y d e rv Q s px py hg q
 unfold gz at hg
 split at hg
 · cases hg
   cases px.str
   cases py.str
   refine .inr ⟨rfl,?_⟩
   rw[Et]
   exact q _ H R (Al.refl s) (.bl _)
 · exact .inl (My R H x y _ _ rv Q s px py hg q)
theorem ji:cI Es bI:=by
 intro R H x y d e rv Q s px py hg q
 unfold bI at hg
 split at hg
 · cases hg
   cases px.str
   cases py.str
   refine .inr ⟨rfl,?_⟩
   rw[Et]
   exact q _ H R (Al.refl s) (.bl _)
 · exact .inl (Mz R H x y _ _ rv Q s px py hg q)
noncomputable def qv(g:Int->Int->D)(d e:D):Option RV:=match d,e with
 | .int i,.int j=>some (.val (g i j))
 | _,_=>none
def sD(C:Int->Int->Bool)(g:Int->Int->D)(d e:D):Option RV:=match d,e with
 | .int i,.int j=>if C i j then some (.val (g i j)) else none
 | _,_=>none
theorem za(h:∀ R i j,Rp R (g i j) (g' i j)):cI (j7 g) (qv g'):=by
 intro R H x y d e rv Q s px py hg q
 unfold qv at hg
 split at hg
 · cases hg
   exact⟨_,_,px.int,py.int,q _ H R (Al.refl s) (h R _ _)⟩
 · cases hg
theorem zb(hC:∀ i j,C' i j=true->C i j)(h:∀ R i j,Rp R (g i j) (g' i j)):cI (rI C g) (sD C' g'):=by
 intro R H x y d e rv Q s px py hg q
 unfold sD at hg
 split at hg
 · split at hg
   · rename_i c
     cases hg
     exact⟨_,_,px.int,py.int,hC _ _ c,q _ H R (Al.refl s) (h R _ _)⟩
   · cases hg
 · cases hg
noncomputable def cd(p:Prop):Bool:=@decide p (Classical.propDecidable p)
omit [KC] in
theorem dz{p:Prop}(h:p):cd p=true:=by unfold cd;exact @decide_eq_true p (Classical.propDecidable p) h
omit [KC] in
theorem dR{p:Prop}(h:cd p=true):p:=by unfold cd at h;exact @of_decide_eq_true p (Classical.propDecidable p) h
abbrev zc:=qv fun i j=>.bl (decide (i<j))
abbrev ze:=qv fun i j=>.bl (decide (i<=j))
abbrev sE:=qv fun i j=>.bl (decide (j<i))
abbrev mh:=sD (fun _ j=>cd (0<j)) fun i j=>.int (i % j)
abbrev vh:=sD (fun _ j=>cd (0<j/\j<1073741824)) fun i j=>.int (i / j)
abbrev zf:=sD (fun i j=>cd (0<=j/\j<=1000000/\i.natAbs<2 ^ 64)) fun i j=>.int (i ^ j.toNat)
theorem Eu:cI (j7 fun i j=>.bl (decide (i<j))) zc:=za fun _ _ _=>.bl _
theorem Ew:cI (j7 fun i j=>.bl (decide (i<=j))) ze:=za fun _ _ _=>.bl _
theorem zg:cI (j7 fun i j=>.bl (decide (j<i))) sE:=za fun _ _ _=>.bl _
theorem oS:cI (rI (fun _ j=>0<j) fun i j=>.int (i % j)) mh:=zb (fun _ _ h=>dR h) fun _ _ _=>.int _
theorem Ey:cI (rI CW fun i j=>.int (i / j)) vh:=zb (fun _ _ h=>dR h) fun _ _ _=>.int _
theorem MA:cI (rI CY fun i j=>.int (i ^ j.toNat)) zf:=zb (fun _ _ h=>dR h) fun _ _ _=>.int _
theorem lu(s:ae R H)(hp:H p=none)(h:aw R xs ds):Al R H R (upd H p (.lst xs))/\jf R H (upd H p (.lst xs)) (.ref p) (.new (.lst ds)) :=
 ⟨⟨s.trans (jc hp),ae.refl _,jc hp,fun _ _ _ z=>z⟩,⟨p,xs,ds,rfl,s.free hp,dh,rfl,h⟩,p,rfl,hp⟩
theorem sF(s:ae R H)(hp:H p=none)(h:aw R xs ds):Al R H (upd R p (.tup xs)) (upd H p (.tup xs))/\jf (upd R p (.tup xs)) H (upd H p (.tup xs)) (.ref p) (.val (.tup ds)):=by
 have hr:R p=none:=s.free hp
 refine⟨⟨fun b o e=>?_,jc hr,jc hp,fun b o e r=>?_⟩,.tup dh (h.sm (jc hr))⟩
 · by_cases hb:b=p
   · subst hb;rw[dh] at e ⊢;exact e
   · rw[aW hb] at e ⊢;exact s b o e
 · rw[aW (fz e hp)];exact r
noncomputable def eJ(d e:D):Option RV:=match d,e with
 | .int i,.int j=>some (.val (.int (i+j)))
 | .lst xs,.lst ys=>if xs.length+ys.length<=sizeLine then some (.new (.lst (xs++ys))) else none
 | .str i,.str j=>if i.length+j.length<=sizeLine then some (.val (.str (i++j))) else none
 | _,_=>none
def Ez:R2:=fun x y H Q=>j7 (fun i j=>.int (i+j)) x y H Q\/(DH x y H Q\/(∃ i j,x = .str i/\y = .str j/\i.length+j.length<=sizeLine/\Q (.str (i++j)) H))
theorem mi:bw X (binaryOp .Add) Ez:=og.or (oz.or Kk)
theorem mj:cI Ez eJ:=by
 intro R H x y d e rv Q s px py hg q
 unfold eJ at hg
 split at hg
 · cases hg
   exact .inl ⟨_,_,px.int,py.int,q _ H R (Al.refl s) (.int _)⟩
 · split at hg
   · rename_i c
     cases hg
     obtain⟨a,xs,rfl,h1,h2⟩:=px.lst s
     obtain⟨b,ys,rfl,h3,h4⟩:=py.lst s
     refine .inr (.inl ⟨a,b,xs,ys,rfl,rfl,h1,h3,by rw[h2.len,h4.len];exact c,fun p hp=>?_⟩)
     obtain⟨al,rv⟩:=lu s hp (h2.app h4)
     exact q _ _ _ al rv
   · cases hg
 · split at hg
   · rename_i c
     cases hg
     exact .inr (.inr ⟨_,_,px.str,py.str,c,q _ H R (Al.refl s) (.str _)⟩)
   · cases hg
 · cases hg
def oU(i j:Int):Bool:=cd (jb i j)
def ly(d e:D):Option RV:=match d,e with
 | .int i,.int j=>if oU i j then some (.val (.int (i * j))) else none
 | _,_=>none
theorem MB(h:oU i j=true):jb i j:=dR h
theorem oV:cI (rI jb fun i j=>.int (i * j)) ly:=by
 intro R H x y d e rv Q s px py hg q
 unfold ly at hg
 split at hg
 · split at hg
   · rename_i c
     cases hg
     exact⟨_,_,px.int,py.int,MB c,q _ H R (Al.refl s) (.int _)⟩
   · cases hg
 · cases hg
noncomputable def isNone:D->Bool
 | .av=>true
 | _=>false
theorem Pk.isNone(h:Pk R H x d):decide (x = .av)=isNone d:=by
 rcases h with h | ⟨a,xs,ds,rfl,_,rfl,_⟩
 · cases h<;>first | rfl | exact qaU (fun z=>nomatch z)
 · exact qaU (fun z=>nomatch z)
def vi(d e:D):Option RV:=match e with
 | .av=>some (.val (.bl (isNone d)))
 | _=>none
theorem Pk.zh(h:Pk R H x .av):x = .av:=by
 rcases h with h | ⟨a,xs,ds,rfl,_,h2,_⟩
 · cases h;rfl
 · cases h2
theorem MC:cI (fun x y H Q=>y = .av/\Q (.bl (decide (x = .av))) H) vi:=by
 intro R H x y d e rv Q s px py hg q
 unfold vi at hg
 split at hg
 · cases hg
   refine⟨py.zh,?_⟩
   rw[px.isNone]
   exact q _ H R (Al.refl s) (.bl _)
 · cases hg
noncomputable def vj:D->Bool
 | .av=>true
 | .bl _=>true
 | .int _=>true
 | .str _=>true
 | _=>false
noncomputable def vk:D->D->Bool
 | .av,.av=>true
 | .bl a,.bl b=>a == b
 | .bl a,.int b=>(if a then 1 else 0) == b
 | .int a,.bl b=>a == (if b then 1 else 0)
 | .int a,.int b=>a == b
 | .str a,.str b=>a == b
 | _,_=>false
theorem Rp.flat(h:Rp R x d):lh x=vj d:=by cases h<;>rfl
theorem Rp.MD(h:Rp R x d)(h':Rp R y e):lj x y=vk d e:=by cases h<;>cases h'<;>rfl
theorem aw.flats:∀ {xs:List V} {ds:List D},aw R xs ds->xs.all lh=ds.all vj
 | _,_,.nil=>rfl
 | _,_,.cons a b=>by rw[List.all_cons,List.all_cons,a.flat,aw.flats b]
theorem aw.inf(h:Rp R x d):∀ {xs:List V} {ds:List D},aw R xs ds->inV x xs=ds.any (fun e=>vk e d)
 | _,_,.nil=>rfl
 | _,_,.cons a b=>by
   show(lj _ x || inV x _)=_
   rw[List.any_cons,a.MD h,aw.inf h b]
noncomputable def EA:D->Option (List D)
 | .lst xs=>some xs
 | .tup xs=>some xs
 | _=>none
def zi(neg:Bool)(d e:D):Option RV:=match EA e with
 |some xs=>if vj d && xs.all vj then some (.val (.bl (if neg then !xs.any (fun e=>vk e d) else xs.any (fun e=>vk e d)))) else none
 |none=>none
theorem Pk.seq(s:ae R H)(h:Pk R H x d)(e:EA d=some ds):∃ p xs,x = .ref p/\(aZ K H p xs\/b9 K H p xs)/\aw R xs ds:=by
 cases d<;>first | (cases e;done) | skip
 · cases e;obtain⟨a,xs,rfl,h1,h2⟩:=h.lst s;exact⟨a,xs,rfl,.inl (aZ.of h1),h2⟩
 · cases e;obtain⟨a,xs,rfl,h1,h2⟩:=h.tup;exact⟨a,xs,rfl,.inr (b9.of (s _ _ h1)),h2⟩
theorem ME:cI (yk K neg) (zi neg):=by
 intro R H x y d e rv Q s px py hg q
 unfold zi at hg
 split at hg
 · rename_i ds hs
   split at hg
   · rename_i c
     rw[qa1] at c
     cases hg
     obtain⟨p,xs,rfl,h1,h2⟩:=py.seq (K:=K) s hs
     have EB:=px.hv s
     have h2':=h2.sm s
     refine⟨p,xs,rfl,h1,by rw[EB.flat];exact c.1,by rw[h2'.flats];exact c.2,?_⟩
     rw[aw.inf EB h2']
     exact q _ H R (Al.refl s) (.bl _)
   · cases hg
 · cases hg
end
section
variable{X:Cx}{EE:aT}{ios:List Addr}{e a b c:Expr}{es:List Expr}{f g k:M RV}{fs:M (List RV)}{pos:Pos}{ta tb tc t:TE}{r r':R2}
def jM(f:M RV):M RV:=M.bind f fun rv=>match rv with
 | .var i=>M.pure (.var i)
 |rv=>M.bind (mat rv) fun d=>M.pure (.val d)
def ah(f:M RV)(g:M (List RV)):M (List RV):=M.bind (jM f) fun x=>M.bind g fun xs=>M.pure (x::xs)
theorem vm(h:eV EE ios t f){σ:St}{H R:Hp}{Γ:En}{Q:VK}(er:ER ios R H σ Γ)
 (w:br (jM f Γ) (fun rv Γ'=>∀ x H' R',aQ ios R H σ Γ R' H' Γ'->oQ R' σ x rv->Q x H') (dw EE ios R H σ Γ)):t σ H Q:=by
 unfold jM at w
 rw[Zj] at w
 refine h σ H R Γ _ er (aG w (fun rv ag w x H1 R1 p1 hx=>?_) fun _ _ z=>z)
 cases rv with
 |var i=>exact w x H1 R1 p1 hx
 |val d =>
   rw[Zj] at w
   obtain⟨d,aq,R2,e2,_,r2,w⟩:=jd er p1 hx w
   exact w x H1 R2 e2 r2
 |new d =>
   rw[Zj] at w
   obtain⟨d,aq,R2,e2,_,r2,w⟩:=jd er p1 hx w
   exact w x H1 R2 e2 r2
theorem aL:VA X EE ios [] (M.pure []):=⟨_,lb,fun σ H R Γ Q er w=>w [] H R (aQ.refl er) .nil⟩
theorem MF(h:eV EE ios t f)(h':oR EE ios u fs):oR EE ios (k_ t u) (ah f fs):=by
 intro σ H R Γ Q er w
 unfold ah at w
 rw[Zj] at w
 refine vm h er (aG w (fun rv ag w x H1 R1 p1 hx=>?_) fun _ _ z=>z)
 rw[Zj] at w
 refine h' σ H1 R1 ag _ p1.er (aG w (fun rvs aq w xs H2 R2 p2 hxs=>?_) fun _ _ z=>dw.trans p1 z)
 exact w (x::xs) H2 R2 (p1.trans p2) (.cons (hx.sm p2.go.rr) hxs)
theorem aA(ha:VE X EE ios e f)(hr:VA X EE ios es fs)(hs:starEach (e::es) X.env=(false,eval e X.env)::starEach es X.env:=by rfl):VA X EE ios (e::es) (ah f fs) :=
 let ⟨_,h1,h2⟩:=ha;let ⟨_,h3,h4⟩:=hr; ⟨_,gG h1 h3 hs,MF h2 h4⟩
def bV:List RV->M (List D)
 | []=>M.pure []
 |rv::r=>M.bind (mat rv) fun d=>M.bind (bV r) fun ds=>M.pure (d::ds)
def cY:List RV->M (List D)
 | []=>M.pure []
 |rv::r=>M.bind (peek rv) fun d=>M.bind (cY r) fun ds=>M.pure (d::ds)
inductive Pks(R H:Hp):List V->List D->Prop where
 |nil:Pks R H [] []
 |cons {x:V} {d:D} {xs:List V} {ds:List D}:Pk R H x d->Pks R H xs ds->Pks R H (x::xs) (d::ds)
theorem qw(er:ER ios R H σ Γ):∀ {xs:List V} {rvs:List RV} {K:List D->En->Prop} {E:Xc->En->Prop},d8 R σ xs rvs->br (cY rvs Γ) K E->∃ ds,Pks R H xs ds/\K ds Γ
 | _,_,K,E,.nil,w=>⟨[],.nil,w⟩
 | _,_,K,E,.cons a b,w=>by
   unfold cY at w
   rw[Zj] at w
   obtain⟨d,pd,w⟩:=iD (H:=H) er a.rv w
   rw[Zj] at w
   obtain⟨ds,pds,w⟩:=qw er b w
   exact⟨d::ds,.cons pd pds,w⟩
theorem iE(er:ER ios R0 H0 σ gI):∀ {xs:List V} {rvs:List RV} {R:Hp} {Γ:En} {K:List D->En->Prop} {E:Xc->En->Prop},aQ ios R0 H0 σ gI R H Γ->d8 R σ xs rvs->br (bV rvs Γ) K E ->
 ∃ ds Γ' R',aQ ios R0 H0 σ gI R' H Γ'/\ae R R'/\aw R' xs ds/\K ds Γ'
 | _,_,R,Γ,K,E,p,.nil,w=>⟨[],Γ,R,p,ae.refl _,.nil,w⟩
 | _,_,R,Γ,K,E,p,.cons a b,w=>by
   unfold bV at w
   rw[Zj] at w
   obtain⟨d,ag,R1,p1,s1,r1,w⟩:=jd er p a.rv w
   rw[Zj] at w
   obtain⟨ds,aq,R2,p2,s2,r2,w⟩:=iE er p1 (b.sm s1) w
   exact⟨d::ds,aq,R2,p2,s1.trans s2,.cons (r1.sm s2) r2,w⟩
def aO(fs:M (List RV)):M RV:=M.bind fs fun rvs=>M.bind (bV rvs) fun ds=>if ds.length<=sizeLine then M.pure (.new (.lst ds)) else M.st
def kh(fs:M (List RV)):M RV:=M.bind fs fun rvs=>M.bind (bV rvs) fun ds=>if ds.length<=sizeLine then M.pure (.val (.tup ds)) else M.st
theorem gJ(h:VA X EE ios es fs):VE X EE ios (.List es pos) (aO fs):=by
 obtain⟨t,h1,h2⟩:=h
 refine⟨_,KI h1,fun σ H R Γ Q er w=>?_⟩
 unfold aO at w
 rw[Zj] at w
 refine h2 σ H R Γ _ er (aG w (fun rvs ag w xs H1 R1 p1 hx=>?_) fun _ _ z=>z)
 rw[Zj] at w
 obtain⟨ds,aq,R2,p2,s2,r2,w⟩:=iE er p1 hx w
 split at w
 · rename_i c
   refine⟨by rw[r2.len];exact c,fun p hp=>?_⟩
   obtain⟨al,rv⟩:=lu p2.er.sub hp r2
   exact w _ _ _ (p2.al al) (rv.rv (p2.back er))
 · exact False.elim w
theorem sG(h:VA X EE ios es fs):VE X EE ios (.Tuple es k1 pos) (kh fs):=by
 obtain⟨t,h1,h2⟩:=h
 refine⟨_,Dh h1,fun σ H R Γ Q er w=>?_⟩
 unfold kh at w
 rw[Zj] at w
 refine h2 σ H R Γ _ er (aG w (fun rvs ag w xs H1 R1 p1 hx=>?_) fun _ _ z=>z)
 rw[Zj] at w
 obtain⟨ds,aq,R2,p2,s2,r2,w⟩:=iE er p1 hx w
 split at w
 · rename_i c
   refine⟨by rw[r2.len];exact c,fun p hp=>?_⟩
   obtain⟨al,rv⟩:=sF p2.er.sub hp r2
   exact w _ _ _ (p2.al al) (rv.rv (p2.back er))
 · exact False.elim w
def ki(r:List V->Hp->VK->Prop)(g:List D->Option RV):Prop:=∀ R H xs ds rv (Q:VK),ae R H->Pks R H xs ds->g ds=some rv->(∀ z H' R',Al R H R' H'->jf R' H H' z rv->Q z H')->r xs H Q
def bB(g:List D->Option RV)(fs:M (List RV)):M RV:=M.bind fs fun rvs=>M.bind (cY rvs) fun ds=>M.cx (g ds)
theorem kj{r:List V->Hp->VK->Prop}{g:List D->Option RV}{e0:Expr}(hp:∀ t,PA X es t->PE X e0 (ql r t))(hv:ki r g)(ha:VA X EE ios es fs):VE X EE ios e0 (bB g fs):=by
 obtain⟨t,h1,h2⟩:=ha
 refine⟨_,hp t h1,fun σ H R Γ Q er w=>?_⟩
 unfold bB at w
 rw[Zj] at w
 refine h2 σ H R Γ _ er (aG w (fun rvs ag w xs H1 R1 p1 hx=>?_) fun _ _ z=>z)
 rw[Zj] at w
 obtain⟨ds,pd,w⟩:=qw p1.er hx w
 obtain⟨rv,hg,w⟩:=ij w
 exact hv R1 H1 xs ds rv Q p1.er.sub pd hg fun z H' R' al ra=>w z H' R' (p1.al al) (ra.rv (p1.back er))
theorem Pks.one(h:Pks R H xs [d]):∃ x,xs=[x]/\Pk R H x d:=by
 cases h with | cons a b=>cases b;exact⟨_,rfl,a⟩
theorem Pks.two{R H:Hp}{xs:List V}{d e:D}(h:Pks R H xs [d,e]):∃ x y,xs=[x,y]/\Pk R H x d/\Pk R H y e:=by
 cases h with | cons a b=>obtain⟨y,rfl,q⟩:=b.one;exact⟨_,_,rfl,a,q⟩
noncomputable def gf:List D->Option RV
 | [.lst xs]=>some (.val (.int xs.length))
 | [.tup xs]=>some (.val (.int xs.length))
 | [.bH xs]=>some (.val (.int xs.length))
 | [.str z]=>if z.length<=sizeLine then some (.val (.int z.length)) else none
 | _=>none
def EC(K:W.Frag):List V->Hp->VK->Prop:=fun xs H Q=>(∃ p ys,xs=[.ref p]/\(aZ K H p ys\/b9 K H p ys)/\Q (.int ys.length) H)\/(∃ z,xs=[.str z]/\z.length<=sizeLine/\Q (.int z.length) H)
theorem mn:aB X (.builtin "len") (EC X.K):=f_.or Lb
theorem mq:ki (EC KC.K) gf:=by
 intro R H xs ds rv Q s px hg q
 unfold gf at hg
 split at hg
 · cases hg
   obtain⟨x,rfl,p⟩:=px.one
   obtain⟨a,ys,rfl,h1,h2⟩:=p.lst s
   refine .inl ⟨a,ys,rfl,.inl (aZ.of h1),?_⟩
   rw[h2.len]
   exact q _ H R (Al.refl s) (.int _)
 · cases hg
   obtain⟨x,rfl,p⟩:=px.one
   obtain⟨a,ys,rfl,h1,h2⟩:=p.tup
   refine .inl ⟨a,ys,rfl,.inr (b9.of (s _ _ h1)),?_⟩
   rw[h2.len]
   exact q _ H R (Al.refl s) (.int _)
 · cases hg
   obtain⟨x,rfl,p⟩:=px.one
   rcases p with p | ⟨_,_,_,_,_,z,_⟩
   · cases p with
     |bH h1 =>
       refine .inl ⟨_,_,rfl,.inl (s.seq h1),?_⟩
       rw[qaK]
       exact q _ H R (Al.refl s) (.int _)
   · cases z
 · split at hg
   · rename_i c
     cases hg
     obtain⟨x,rfl,p⟩:=px.one
     cases p.str
     exact .inr ⟨_,rfl,c,q _ H R (Al.refl s) (.int _)⟩
   · cases hg
 · cases hg
noncomputable def sH:List D->Option RV
 | [.int i,.int j]=>some (.val (.int (if j > i then j else i)))
 | _=>none
noncomputable def sI:List D->Option RV
 | [.int i,.int j]=>some (.val (.int (if j<i then j else i)))
 | _=>none
theorem MG:ki (fun xs H Q=>∃ i j,xs=[.int i,.int j]/\Q (.int (if j > i then j else i)) H) sH:=by
 intro R H xs ds rv Q s px hg q
 unfold sH at hg
 split at hg
 · cases hg
   obtain⟨x,y,rfl,p,p'⟩:=px.two
   exact⟨_,_,by rw[p.int,p'.int],q _ H R (Al.refl s) (.int _)⟩
 · cases hg
theorem MI:ki (fun xs H Q=>∃ i j,xs=[.int i,.int j]/\Q (.int (if j<i then j else i)) H) sI:=by
 intro R H xs ds rv Q s px hg q
 unfold sI at hg
 split at hg
 · cases hg
   obtain⟨x,y,rfl,p,p'⟩:=px.two
   exact⟨_,_,by rw[p.int,p'.int],q _ H R (Al.refl s) (.int _)⟩
 · cases hg
noncomputable def vo:List D->Option RV
 | [.lst xs]=>some (.new (.lst xs))
 | [.tup xs]=>some (.new (.lst xs))
 | _=>none
theorem MJ:ki (fun xs H Q=>∃ p ys,xs=[.ref p]/\(aZ K H p ys\/b9 K H p ys)/\∀ l,H l=none->Q (.ref l) (upd H l (.lst ys))) vo:=by
 intro R H xs ds rv Q s px hg q
 unfold vo at hg
 split at hg
 · cases hg
   obtain⟨x,rfl,p⟩:=px.one
   obtain⟨a,ys,rfl,h1,h2⟩:=p.lst s
   refine⟨a,ys,rfl,.inl (aZ.of h1),fun l hl=>?_⟩
   obtain⟨al,rv⟩:=lu s hl h2
   exact q _ _ _ al rv
 · cases hg
   obtain⟨x,rfl,p⟩:=px.one
   obtain⟨a,ys,rfl,h1,h2⟩:=p.tup
   refine⟨a,ys,rfl,.inr (b9.of (s _ _ h1)),fun l hl=>?_⟩
   obtain⟨al,rv⟩:=lu s hl h2
   exact q _ _ _ al rv
 · cases hg
noncomputable def nA:List D->Option RV
 | [.lst xs]=>some (.val (.tup xs))
 | [.tup xs]=>some (.val (.tup xs))
 | _=>none
theorem ED:ki (fun xs H Q=>∃ p ys,xs=[.ref p]/\((aZ K H p ys/\∀ l,H l=none->Q (.ref l) (upd H l (.tup ys)))\/(b9 K H p ys/\Q (.ref p) H))) nA:=by
 intro R H xs ds rv Q s px hg q
 unfold nA at hg
 split at hg
 · cases hg
   obtain⟨x,rfl,p⟩:=px.one
   obtain⟨a,ys,rfl,h1,h2⟩:=p.lst s
   refine⟨a,ys,rfl,.inl ⟨aZ.of h1,fun l hl=>?_⟩⟩
   obtain⟨al,rv⟩:=sF s hl h2
   exact q _ _ _ al rv
 · cases hg
   obtain⟨x,rfl,p⟩:=px.one
   obtain⟨a,ys,rfl,h1,h2⟩:=p.tup
   exact⟨a,ys,rfl,.inr ⟨b9.of (s _ _ h1),q _ H R (Al.refl s) (.tup h1 h2)⟩⟩
 · cases hg
end
section
variable{X:Cx}{EE:aT}{ios:List Addr}{e a b c:Expr}{es:List Expr}{f g k:M RV}{fs:M (List RV)}{pos:Pos}{ta tb tc t:TE}{r r':R2}{K:W.Frag}
def gA(d e:D):Option RV:=match d,e with
 | .lst xs,.int i=>(cw xs i).map .val
 | .tup xs,.int i=>(cw xs i).map .val
 | .bH ns,.int i=>(cw ns i).map fun n=>.val (.int n)
 | .str z,.int i=>if z.length<=sizeLine then (cw z.cps.toList i).map fun c=>.val (.str ⟨#[c]⟩) else none
 | _,_=>none
theorem aw.cw(h:aw R xs ds)(e:L2.cw ds i=some d):∃ x,L2.cw xs i=some x/\Rp R x d:=by
 unfold L2.cw at e ⊢
 rw[h.len]
 cases q:iw ds.length i with
 |none=>rw[q] at e;cases e
 |some j =>
   rw[q] at e
   exact h.ta e
theorem MK{α β:Type}(f:α->β)(xs:List α)(i:Int):L2.cw (xs.map f) i=(L2.cw xs i).map f:=by
 unfold L2.cw
 rw[qaK]
 cases iw xs.length i with
 |none=>rfl
 |some j=>simp
theorem MM:cI (DA KC.K) gA:=by
 intro R H x y d e rv Q s px py hg q
 unfold gA at hg
 split at hg
 · rename_i ds i
   cases h:L2.cw ds i with
   |none=>rw[h] at hg;cases hg
   |some d =>
     rw[h] at hg
     cases hg
     obtain⟨a,xs,rfl,h1,h2⟩:=px.lst s
     obtain⟨v,hv,rv⟩:=h2.cw h
     exact .inl ⟨a,xs,i,v,rfl,py.int,aZ.of h1,hv,q _ H R (Al.refl s) rv⟩
 · rename_i ds i
   cases h:L2.cw ds i with
   |none=>rw[h] at hg;cases hg
   |some d =>
     rw[h] at hg
     cases hg
     obtain⟨a,xs,rfl,h1,h2⟩:=px.tup
     obtain⟨v,hv,rv⟩:=h2.cw h
     exact .inr (.inl ⟨a,xs,i,v,rfl,py.int,b9.of (s _ _ h1),hv,q _ H R (Al.refl s) rv⟩)
 · rename_i ns i
   cases h:L2.cw ns i with
   |none=>rw[h] at hg;cases hg
   |some n =>
     rw[h] at hg
     cases hg
     rcases px with px | ⟨_,_,_,_,_,z,_⟩
     · cases px with
       |bH h1=>exact .inl ⟨_,_,i,.int n,rfl,py.int,s.seq h1,by rw[MK,h];rfl,q _ H R (Al.refl s) (.int n)⟩
     · cases z
 · rename_i z i
   split at hg
   · rename_i c
     cases h:L2.cw z.cps.toList i with
     |none=>rw[h] at hg;cases hg
     |some n =>
       rw[h] at hg
       cases hg
       exact .inr (.inr ⟨z,i,n,px.str,py.int,c,h,q _ H R (Al.refl s) (.str _)⟩)
   · cases hg
 · cases hg
theorem lC(ha:VE X EE ios a f)(hb:VE X EE ios b g)(hs:Dw b:=by intro _ _;rfl)(hK:X.K=KC.K:=by rfl):VE X EE ios (.Subscript a b pos) (op2 gA f g) :=
 let ⟨_,h1,h2⟩:=ha;let ⟨_,h3,h4⟩:=hb; ⟨_,K0 K4 h1 h3 hs,vc (by rw[hK];exact MM) h2 h4⟩
def km{α:Type}(xs:List α)(lo hi:Option Int):List α:=(xs.drop (HT.fC xs.length 0 lo)).take (HT.fC xs.length xs.length hi - HT.fC xs.length 0 lo)
def sJ(d:D)(lo hi:Option Int):Option RV:=match d with
 | .lst xs=>some (.new (.lst (km xs lo hi)))
 | .bH ns=>some (.new (.lst ((km ns lo hi).map D.int)))
 | _=>none
def MN(EE:aT)(ios:List Addr)(t:TO)(f:M (Option Int)):Prop:=∀ σ H R Γ Q,ER ios R H σ Γ ->
 br (f Γ) (fun o Γ'=>∀ H' R',aQ ios R H σ Γ R' H' Γ'->Q o H') (dw EE ios R H σ Γ)->t σ H Q
def VO(X:Cx)(EE:aT)(ios:List Addr)(e:Option Expr)(f:M (Option Int)):Prop:=∃ t,PO X e t/\MN EE ios t f
theorem zj:VO X EE ios none (M.pure none):=⟨_,KQ,fun σ H R Γ Q er w=>w H R (aQ.refl er)⟩
def sL(rv:RV):M (Option Int):=match rv with
 | .val (.int i)=>M.pure (some i)
 | _=>M.st
theorem MO(h:VE X EE ios e f):VO X EE ios (some e) (M.bind f sL):=by
 obtain⟨t,h1,h2⟩:=h
 refine⟨_,KR h1,fun σ H R Γ Q er w=>?_⟩
 rw[Zj] at w
 refine h2 σ H R Γ _ er (aG w (fun rv ag w x H1 R1 p1 hx=>?_) fun _ _ z=>z)
 unfold sL at w
 split at w
 · cases hx;exact⟨_,rfl,w H1 R1 p1⟩
 · exact False.elim w
def mv(o:D->Option Int->Option Int->Option RV)(f:M RV)(lo hi:M (Option Int)):M RV:=M.bind f fun x=>M.bind lo fun l=>M.bind hi fun u=>M.bind (peek x) fun d=>M.cx (o d l u)
theorem aw.cut(h:aw R xs ds)(lo hi:Option Int):aw R (oq xs lo hi) (km ds lo hi):=by
 unfold oq km
 rw[h.len]
 exact(h.drop _).take _
theorem MP{α β:Type}(f:α->β)(xs:List α)(lo hi:Option Int):(km xs lo hi).map f=km (xs.map f) lo hi:=by
 unfold km
 rw[qaK,List.map_take,List.map_drop]
theorem MQ(ha:VE X EE ios a f)(hl:VO X EE ios lo l)(hu:VO X EE ios hi u)(hK:X.K=KC.K:=by rfl):VE X EE ios (.Subscript a (.Slice lo hi none p2) pos) (mv sJ f l u):=by
 obtain⟨t1,h1,h2⟩:=ha
 obtain⟨t2,h3,h4⟩:=hl
 obtain⟨t3,h5,h6⟩:=hu
 refine⟨_,KU K9 h1 h3 h5,fun σ H R Γ Q er w=>?_⟩
 unfold mv at w
 rw[Zj] at w
 refine h2 σ H R Γ _ er (aG w (fun rx ag w x H1 R1 p1 hx=>?_) fun _ _ z=>z)
 rw[Zj] at w
 refine h4 σ H1 R1 ag _ p1.er (aG w (fun l aq w H2 R2 p2=>?_) fun _ _ z=>dw.trans p1 z)
 rw[Zj] at w
 have jg:=p1.trans p2
 refine h6 σ H2 R2 aq _ p2.er (aG w (fun u ik w H3 R3 p3=>?_) fun _ _ z=>dw.trans jg z)
 have jJ:=jg.trans p3
 rw[Zj] at w
 obtain⟨d,pd,w⟩:=iD p3.er (hx.go er p1 (p2.trans p3).go) w
 obtain⟨rv,hg,w⟩:=ij w
 unfold sJ at hg
 split at hg
 · cases hg
   obtain⟨a,xs,rfl,h1,h2⟩:=pd.lst p3.er.sub
   refine⟨a,xs,rfl,aZ.of h1,fun p hp=>?_⟩
   obtain⟨al,rv⟩:=lu p3.er.sub hp (h2.cut l u)
   exact w _ _ _ (jJ.al al) (rv.rv (jJ.back er))
 · cases hg
   rcases pd with pd | ⟨_,_,_,_,_,z,_⟩
   · cases pd with
     |bH h1 =>
       refine⟨_,_,rfl,by rw[hK];exact p3.er.sub.seq h1,fun p hp=>?_⟩
       rw[show oq=km from rfl, <- MP]
       obtain⟨al,rv⟩:=lu p3.er.sub hp (aw.ints (R:=R3) _)
       exact w _ _ _ (jJ.al al) (rv.rv (jJ.back er))
   · cases z
 · cases hg
def qy{α:Type}(xs:List α)(lo hi:Option Int)(st:Int):List α:=(sliceRange (sliceBounds lo hi (some st) xs.length).1 (sliceBounds lo hi (some st) xs.length).2.1 (sliceBounds lo hi (some st) xs.length).2.2).filterMap (xs[·]?)
def qz(st:Int)(d:D)(lo hi:Option Int):Option RV:=match d with
 | .lst xs=>if st≠0/\(qy xs lo hi st).length<=sizeLine then some (.new (.lst (qy xs lo hi st))) else none
 | _=>none
theorem aw.nB(h:aw R xs ds)(lo hi:Option Int)(st:Int):aw R (va xs lo hi st) (qy ds lo hi st):=by
 unfold va qy
 rw[h.len]
 exact h.pick _
theorem MR(ha:VE X EE ios a f)(hl:VO X EE ios lo l)(hu:VO X EE ios hi u)(hse:PE X se (tC (.int st))):VE X EE ios (.Subscript a (.Slice lo hi (some se) p2) pos) (mv (qz st) f l u):=by
 obtain⟨t1,h1,h2⟩:=ha
 obtain⟨t2,h3,h4⟩:=hl
 obtain⟨t3,h5,h6⟩:=hu
 refine⟨_,Mj h1 h3 h5 hse,fun σ H R Γ Q er w=>?_⟩
 unfold mv at w
 rw[Zj] at w
 refine h2 σ H R Γ _ er (aG w (fun rx ag w x H1 R1 p1 hx=>?_) fun _ _ z=>z)
 rw[Zj] at w
 refine h4 σ H1 R1 ag _ p1.er (aG w (fun l aq w H2 R2 p2=>?_) fun _ _ z=>dw.trans p1 z)
 rw[Zj] at w
 have jg:=p1.trans p2
 refine h6 σ H2 R2 aq _ p2.er (aG w (fun u ik w H3 R3 p3=>?_) fun _ _ z=>dw.trans jg z)
 have jJ:=jg.trans p3
 rw[Zj] at w
 obtain⟨d,pd,w⟩:=iD p3.er (hx.go er p1 (p2.trans p3).go) w
 obtain⟨rv,hg,w⟩:=ij w
 unfold qz at hg
 split at hg
 · split at hg
   · rename_i c
     cases hg
     obtain⟨a,xs,rfl,h1,h2⟩:=pd.lst p3.er.sub
     refine⟨a,xs,rfl,aZ.of h1,c.1,by rw[(h2.nB l u st).len];exact c.2,fun p hp=>?_⟩
     obtain⟨al,rv⟩:=lu p3.er.sub hp (h2.nB l u st)
     exact w _ _ _ (jJ.al al) (rv.rv (jJ.back er))
   · cases hg
 · cases hg
noncomputable def sM:D->String
 | .av => "NoneType"
 | .bl _ => "bool"
 | .int _ => "int"
 | .str _ => "str"
 | .lst _ => "list"
 | .tup _ => "tuple"
 | .md _ _ => "dict"
 | .bH _ => "list"
 | .ins _ _ _ => "object"
 | .obj _ _ _ => "object"
noncomputable def plain:D->Bool
 | .bH _=>false
 | .ins _ _ _=>false
 | .obj _ _ _=>false
 | _=>true
theorem Rp.ty(h:Rp H x d)(ns:plain d=true):cu K H x (.type (sM d)):=by
 cases h with
 |av=>exact .av
 |bl b=>exact .bl b
 |int i=>exact .int i
 |str x=>exact .str x
 |lst e _=>exact .lst e
 |tup e _=>exact .tup e
 |iB e=>exact .dK e
 |bH e=>cases ns
 |iC e=>cases ns
 |exc e _ _=>cases ns
 |obj e _=>cases ns
inductive Ty where
 |int | bool | str | list | tuple | dict
noncomputable def Ty.nm:Ty->String
 | .int => "int"
 | .bool => "bool"
 | .str => "str"
 | .list => "list"
 | .tuple => "tuple"
 | .dict => "dict"
noncomputable def jj:Ty->D->Bool
 | .int,.bl _=>true
 | .bool,.bl _=>true
 | .int,.int _=>true
 | .str,.str _=>true
 | .list,.lst _=>true
 | .list,.bH _=>true
 | .tuple,.tup _=>true
 | .dict,.md _ _=>true
 | _,_=>false
theorem MS(K:W.Frag)(d:D)(hd:plain d=true)(T:Ty):W.kitOne K (.type (sM d)) (.type T.nm)=some (jj T d):=by
 cases T<;>cases d<;>first | kernel_rfl | cases hd
def vp(T:Ty):D->Option RV
 | .bH _=>none
 | .ins _ _ _=>none
 | .obj _ _ _=>none
 |d=>some (.val (.bl (jj T d)))
def oW(T:Ty)(f:M RV):M RV:=M.bind (jM f) fun x=>M.bind (peek x) fun d=>M.cx (vp T d)
theorem MT{T:Ty}(hp:∀ t,PE X a t->PE X e0 (ql (Ml X.K) (k_ t (k_ (tC (.ty T.nm)) qk))))(ha:VE X EE ios a f):VE X EE ios e0 (oW T f):=by
 obtain⟨t,h1,h2⟩:=ha
 refine⟨_,hp t h1,fun σ H R Γ Q er w=>?_⟩
 unfold oW at w
 rw[Zj] at w
 refine vm h2 er (aG w (fun rx ag w x H1 R1 p1 hx=>?_) fun _ _ z=>z)
 rw[Zj] at w
 obtain⟨d,pd,w⟩:=iD (H:=H) p1.er hx.rv w
 have hv:=pd.hv p1.er.sub
 obtain⟨rv,hg,w⟩:=ij w
 have ns:plain d=true:=by cases d<;>first | rfl | cases hg
 have hg:rv = .val (.bl (jj T d)):=by cases d<;>first | (cases hg;done) | exact(qaL hg).symm
 subst hg
 exact⟨x,.ty T.nm,_,_,_,rfl,rfl,.inl (hv.ty ns),MS X.K d ns T,w _ H1 R1 p1 (.bl _)⟩
theorem ER.mut{R H:Hp}{σ:St}{Γ:En}{i:Nat}{kd:Kd}{ds ds':List D}{x:V}(er:ER ios R H σ Γ)(hi:Γ[i]? = some (some (kd,.lst ds)))(ho:owned kd=true)(hx:σ[i]? = some (some x)) :
 ∃ p xs,x = .ref p/\H p=some (.lst xs)/\aw R xs ds/\∀ xs',aw R xs' ds'->aQ ios R H σ Γ R (upd H p (.lst xs')) (Γ.set i (some (kd,.lst ds'))):=by
 obtain⟨v,hv,s⟩:=er.sl i _ hi
 rw[hx] at hv
 cases hv
 have hlt:i<Γ.length:=(qad.mp hi).1
 obtain⟨⟨a,xs,bF,rfl,h1,h2,h3,h4⟩,hio⟩:OwR R H x (.lst ds)/\∀ n,kd = .io n->∃ a,ios[n]? = some a/\x = .ref a:=by
  cases kd with
  |ai=>cases ho
  |own=>exact⟨s,fun _ z=>nomatch z⟩
  |io n=>exact⟨s.1,fun m z=>by cases z;exact s.2⟩
 cases h3
 have inj:∀ j l z,Γ[j]? = some (some (l,z))->owned l=true->σ[j]? = some (some (.ref a))->j=i:=fun j l z q1 q2 q3=>(er.dj i j kd l _ z a hi ho q1 q2 hx q3).symm
 have sN:∀ b,Ow σ (Γ.set i (some (kd,.lst ds'))) b->Ow σ Γ b:=by
  rintro b ⟨j,l,z,q1,q2,q3⟩
  by_cases hj:j=i
  · subst hj
    rw[qak hlt] at q1
    cases q1
    exact⟨j,kd,_,hi,ho,q3⟩
  · rw[qai (qaT hj)] at q1
    exact⟨j,l,z,q1,q2,q3⟩
 refine⟨a,xs,rfl,h2,h4,fun xs' h5=>⟨⟨fun b o e=>?_,by rw[qbc];exact er.len,fun j t hj=>?_,fun j j' l l' z z' b q1 q2 q3 q4 q5 q6=>?_⟩,⟨ae.refl _,fun b o h n=>?_,fun _ _ _ _ z=>z,fun b z=>.inl (sN b z),fun b o h=>?_⟩,sN⟩⟩
 · rw[aW]
   · exact er.sub b o e
   · rintro rfl;rw[h1] at e;cases e
 · by_cases hji:j=i
   · subst hji
     rw[qak hlt] at hj
     cases hj
     refine⟨_,hx,?_⟩
     have z:OwR R (upd H a (.lst xs')) (.ref a) (.lst ds'):=⟨a,xs',ds',rfl,h1,dh,rfl,h5⟩
     cases kd with
     |ai=>cases ho
     |own=>exact z
     |io n=>exact⟨z,hio n rfl⟩
   · rw[qai (qaT hji)] at hj
     obtain⟨v,hv,q⟩:=er.sl j t hj
     refine⟨v,hv,q.mono (ae.refl _) fun ho' b ys eb hb rb=>⟨?_,rb⟩⟩
     rw[aW]
     · exact hb
     · rintro rfl
       subst eb
       exact hji (inj j t.1 t.2 hj ho' hv)
 · have g:∀ {j:Nat} {l:Kd} {z:D},(Γ.set i (some (kd,.lst ds')))[j]? = some (some (l,z))->∃ z',Γ[j]? = some (some (l,z')):=by
    intro j l z q
    by_cases hji:j=i
    · subst hji;rw[qak hlt] at q;cases q;exact⟨_,hi⟩
    · rw[qai (qaT hji)] at q;exact⟨z,q⟩
   obtain⟨z1,g1⟩:=g q1
   obtain⟨z2,g2⟩:=g q3
   exact er.dj j j' l l' z1 z2 b g1 q2 g2 q4 q5 q6
 · rw[aW]
   · exact h
   · rintro rfl;exact n ⟨i,kd,_,hi,ho,hx⟩
 · by_cases hb:b=a
   · subst hb;exact⟨_,dh⟩
   · exact⟨o,by rw[aW hb];exact h⟩
def zk(r:V->List V->Hp->VK->Prop)(g:List D->List D->Option (List D×D)):Prop:=∀ R H p xs ds ys es ds' res (Q:VK),ae R H->R p=none->H p=some (.lst xs)->aw R xs ds->aw R ys es->g ds es=some (ds',res) ->
 (∀ xs' z,aw R xs' ds'->Rp R z res->Q z (upd H p (.lst xs')))->r (.ref p) ys H Q
def recv(i:Nat):M Unit:=fun Γ=>match Γ[i]? with
 |some (some (kd,.lst _))=>if owned kd then .ok () Γ else .st
 | _=>.st
def sO(i:Nat)(g:List D->List D->Option (List D×D))(es:List D):M RV:=fun Γ=>match Γ[i]? with
 |some (some (kd,.lst ds))=>if owned kd then match g ds es with
   |some (ds',res)=>.ok (.val res) (Γ.set i (some (kd,.lst ds')))
   |none=>.st else .st
 | _=>.st
def oX(i:Nat)(g:List D->List D->Option (List D×D))(fs:M (List RV)):M RV:=M.bind (recv i) fun _=>M.bind fs fun rvs=>M.bind (bV rvs) fun es=>sO i g es
theorem MU(h:H p=some (.lst xs)):yl K "list" (.ref p) H:=.inl ⟨rfl,_,aZ.of h⟩
theorem EF(er:ER ios R H σ Γ)(w:br (recv i Γ) K' E):∃ p xs,σ[i]? = some (some (.ref p))/\H p=some (.lst xs)/\K' () Γ:=by
 unfold recv at w
 split at w
 · rename_i kd ds q
   split at w
   · rename_i ho
     obtain⟨v,hv,s⟩:=er.sl i _ q
     obtain⟨p,xs,rfl,h2,_⟩:=er.mut (ds':=ds) q ho hv
     exact⟨p,xs,hv,h2,w⟩
   · exact False.elim w
 · exact False.elim w
theorem MV{i:Nat}{r:V->List V->Hp->VK->Prop}{g:List D->List D->Option (List D×D)}(hv:zk r g){R0 H0 R H:Hp}{σ:St}{gI Γ:En}{p:Addr}{ys:List V}{es:List D}{Q:VK}{E:Xc->En->Prop}(p1:aQ ios R0 H0 σ gI R H Γ)
 (nC:σ[i]? = some (some (.ref p))) (hys:aw R ys es) (w:br (sO i g es Γ) (fun rv Γ'=>∀ x H' R',aQ ios R0 H0 σ gI R' H' Γ'->dQ R' H0 H' σ x rv->Q x H') E):r (.ref p) ys H Q:=by
 unfold sO at w
 split at w
 · rename_i kd ds q
   split at w
   · rename_i ho
     split at w
     · rename_i ds' res hg
       obtain⟨p',xs,e,h2,h3,k⟩:=p1.er.mut (ds':=ds') q ho nC
       cases e
       have hr:R p=none:=(p1.er.ow ⟨i,kd,_,q,ho,nC⟩).1
       exact hv R H p xs ds ys es ds' res Q p1.er.sub hr h2 h3 hys hg fun xs' z hxs hz=>w z _ R (p1.trans (k xs' hxs)) hz
     · exact False.elim w
   · exact False.elim w
 · exact False.elim w
theorem EG{i:Nat}{r:V->List V->Hp->VK->Prop}{g:List D->List D->Option (List D×D)}{e0:Expr}(hp:∀ t,PA X es t->PE X e0 (DE X.K "list" r (n8 i) t))(hv:zk r g)(ha:VA X EE ios es fs):VE X EE ios e0 (oX i g fs):=by
 obtain⟨t,h1,h2⟩:=ha
 refine⟨_,hp t h1,fun σ H R Γ Q er w=>?_⟩
 unfold oX at w
 rw[Zj] at w
 obtain⟨p,xs0,nC,h0,w⟩:=EF er w
 have ty:=MU (K:=X.K) h0
 refine⟨_,nC,ty,?_⟩
 rw[Zj] at w
 refine h2 σ H R Γ _ er (aG w (fun rvs ag w xs H1 R1 p1 hx=>?_) fun _ _ z=>z)
 rw[Zj] at w
 obtain⟨ds,aq,R2,p2,s2,r2,w⟩:=iE er p1 hx w
 exact MV hv p2 nC r2 w
noncomputable def nD(ds es:List D):Option (List D×D):=match es with
 | [d]=>if ds.length<sizeLine then some (ds++[d],.av) else none
 | _=>none
theorem EH:zk DG nD:=by
 intro R H p xs ds ys es ds' res Q s hr hp hx hy hg q
 unfold nD at hg
 split at hg
 · split at hg
   · rename_i c
     cases hg
     cases hy with
     |cons h1 h2 =>
       cases h2
       exact⟨p,xs,_,rfl,rfl,hp,by rw[hx.len];exact c,q _ _ (hx.app (.cons h1 .nil)) .av⟩
   · cases hg
 · cases hg
end
inductive Fl where
 |nx | ret (rv:RV) | brk | cont
structure bt(ios:List Addr)(R H:Hp)(σ:St)(Γ:En)(R' H':Hp)(ax:St)(Γ':En):Prop where
 er:ER ios R' H' ax Γ'
 go:Go (Ow σ Γ) R H (Ow ax Γ') R' H'
section
variable{ios:List Addr}{R H R1 H1 R2 H2:Hp}{σ eS cn:St}{Γ ag aq:En}
theorem bt.refl(e:ER ios R H σ Γ):bt ios R H σ Γ R H σ Γ:=⟨e,Go.refl⟩
theorem bt.trans(a:bt ios R H σ Γ R1 H1 eS ag)(b:bt ios R1 H1 eS ag R2 H2 cn aq):bt ios R H σ Γ R2 H2 cn aq:=⟨b.er,a.go.trans b.go⟩
theorem aQ.dA(a:aQ ios R H σ Γ R1 H1 ag):bt ios R H σ Γ R1 H1 σ ag:=⟨a.er,a.go⟩
theorem bt.back(h:bt ios R H σ Γ R1 H1 eS ag):∀ b,H1 b=none->H b=none:=fun b hb=>by
 cases q:H b with
 |none=>rfl
 |some o=>obtain⟨o',z⟩:=h.go.th b o q;rw[hb] at z;cases z
theorem qA(p1:∀ b,H1 b=none->H b=none)(h:dQ R' H1 H' ax x rv):dQ R' H H' ax x rv:=by
 cases rv with
 |val d=>exact h
 |new d=>obtain⟨h1,a,h2,h3⟩:=h;exact⟨h1,a,h2,p1 _ h3⟩
 |var i=>exact h
end
def d9(EE:aT)(ios:List Addr)(R H:Hp)(σ:St)(Γ:En):Xc->En->Prop:=fun x Γ'=>∀ e ax H' R',bt ios R H σ Γ R' H' ax Γ'->me R' H H' e x->EE ax (.ref (KC.cls x.C)) (some e) H'
theorem d9.exp(h:d9 EE ios R H σ Γ x Γ'):dw EE ios R H σ Γ x Γ':=fun e H' R' p q=>h e σ H' R' p.dA q
theorem d9.trans(a:bt ios R H σ Γ R1 H1 eS ag)(h:d9 EE ios R H σ Γ x Γ'):d9 EE ios R1 H1 eS ag x Γ':=fun e ax H' R' b q=>h e ax H' R' (a.trans b) (q.back a.back)
def oY(ios:List Addr)(R H:Hp)(σ:St)(Γ:En)(D:Ends):Fl->En->Prop:=fun fl Γ'=>∀ ax H' R',bt ios R H σ Γ R' H' ax Γ'->match fl with
 | .nx=>D.nx ax H'
 | .brk=>D.bk ax H'
 | .cont=>D.ct ax H'
 | .ret rv=>∀ x,dQ R' H H' ax x rv->D.rt x H'
def qB(EE:aT)(ios:List Addr)(t:TS)(f:M Fl):Prop:=∀ σ H R Γ D,ER ios R H σ Γ->br (f Γ) (oY ios R H σ Γ D) (d9 EE ios R H σ Γ)->t D σ H
def VS(X:Cx)(EE:aT)(ios:List Addr)(st:Stmt)(f:M Fl):Prop:=∃ t,PS X st t/\qB EE ios t f
def cJ(X:Cx)(EE:aT)(ios:List Addr)(st:List Stmt)(f:M Fl):Prop:=∃ t,PSs X st t/\qB EE ios t f
section
variable{X:Cx}{EE:aT}{ios:List Addr}{e a b c:Expr}{es:List Expr}{f g k:M RV}{fs:M (List RV)}{p:M Bool}{s s':M Fl}{st:Stmt}{sts dB:List Stmt}{pos:Pos}
theorem iT:cJ X EE ios [] (M.pure .nx):=⟨_,xR,fun σ H R Γ D er w=>w σ H R (bt.refl er)⟩
def aU(f g:M Fl):M Fl:=M.bind f fun fl=>match fl with
 | .nx=>g
 |fl=>M.pure fl
theorem cK(h:VS X EE ios st s)(h':cJ X EE ios sts s'):cJ X EE ios (st::sts) (aU s s'):=by
 obtain⟨t,h1,h2⟩:=h
 obtain⟨u,h3,h4⟩:=h'
 refine⟨_,qa h1 h3,fun σ H R Γ D er w=>?_⟩
 unfold aU at w
 rw[Zj] at w
 refine h2 σ H R Γ _ er (aG w (fun fl ag w eS H1 R1 p1=>?_) fun _ _ z=>z)
 cases fl with
 |nx =>
   refine h4 eS H1 R1 ag D p1.er (aG w (fun fl aq w cn H2 R2 p2=>?_) fun _ _ z=>d9.trans p1 z)
   have:=w cn H2 R2 (p1.trans p2)
   cases fl with
   |nx=>exact this
   |brk=>exact this
   |cont=>exact this
   |ret rv=>exact fun x hx=>this x (qA p1.back hx)
 |brk=>exact w eS H1 R1 p1
 |cont=>exact w eS H1 R1 p1
 |ret rv=>exact w eS H1 R1 p1
theorem cA(h:VS X EE ios st s):cJ X EE ios [st] s:=let ⟨_,h1,h2⟩:=h; ⟨_,n_ h1,h2⟩
def kn(f:M RV):M Fl:=M.bind f fun _=>M.pure .nx
theorem zo(h:VE X EE ios e f)(hs:swapsWith e none pos.line X.env=pure false:=by rfl):VS X EE ios (.Expr e pos) (kn f):=by
 obtain⟨t,h1,h2⟩:=h
 refine⟨_,rR h1 hs,fun σ H R Γ D er w=>?_⟩
 unfold kn at w
 rw[Zj] at w
 exact h2 σ H R Γ _ er (aG w (fun rv ag w x H1 R1 p1 hx=>w σ H1 R1 p1.dA) fun _ _ z=>z.exp)
def bN(f:M RV):M Fl:=M.bind f fun rv=>M.pure (.ret rv)
theorem dW(h:VE X EE ios e f):VS X EE ios (.Return (some e) pos) (bN f):=by
 obtain⟨t,h1,h2⟩:=h
 refine⟨_,CL h1,fun σ H R Γ D er w=>?_⟩
 unfold bN at w
 rw[Zj] at w
 exact h2 σ H R Γ _ er (aG w (fun rv ag w x H1 R1 p1 hx=>w σ H1 R1 p1.dA x hx) fun _ _ z=>z.exp)
def cp(p:M Bool)(s s':M Fl):M Fl:=M.bind p fun b=>if b then s else s'
theorem iU(hc:VT X EE ios c p)(h:cJ X EE ios sts s)(h':cJ X EE ios dB s'):VS X EE ios (.If c sts dB pos) (cp p s s'):=by
 obtain⟨_,h0,h0'⟩:=hc
 obtain⟨t,h1,h2⟩:=h
 obtain⟨u,h3,h4⟩:=h'
 refine⟨_,xS h0 h1 h3,fun σ H R Γ D er w=>?_⟩
 unfold cp at w
 rw[Zj] at w
 refine h0' σ H R Γ _ er (aG w (fun b ag w H1 R1 p1=>?_) fun _ _ z=>z.exp)
 have go:∀ fl aq,oY ios R H σ Γ D fl aq->oY ios R1 H1 σ ag D fl aq:=fun fl aq w cn H2 R2 p2=>by
  have:=w cn H2 R2 (p1.dA.trans p2)
  cases fl with
  |nx=>exact this
  |brk=>exact this
  |cont=>exact this
  |ret rv=>exact fun x hx=>this x (qA p1.dA.back hx)
 cases b with
 |true=>exact oB (h2 σ H1 R1 ag D p1.er (aG w go fun _ _ z=>d9.trans p1.dA z))
 |false=>exact oA (h4 σ H1 R1 ag D p1.er (aG w go fun _ _ z=>d9.trans p1.dA z))
def sP(i:Nat)(s:Kd×D):M Unit:=fun Γ=>.ok () (Γ.set i (some s))
theorem MW{σ:St}{Γ:En}{i:Nat}{x:V}{s:Kd×D}{b:Addr}(h:Ow (σ.set i (some x)) (Γ.set i (some s)) b):Ow σ Γ b\/(owned s.1=true/\x = .ref b):=by
 obtain⟨j,k,d,h1,h2,h3⟩:=h
 by_cases hj:j=i
 · subst hj
   have l1:j<Γ.length:=by have:=(qad.mp h1).1;rwa[qbc] at this
   have l2:j<σ.length:=by have:=(qad.mp h3).1;rwa[qbc] at this
   rw[qak l1] at h1
   rw[qak l2] at h3
   cases h1
   cases h3
   exact .inr ⟨h2,rfl⟩
 · rw[qai (qaT hj)] at h1 h3
   exact .inl ⟨j,k,d,h1,h2,h3⟩
theorem bt.set{R H R1 H1:Hp}{σ:St}{Γ ag:En}{i:Nat}{x:V}{s:Kd×D}(er:ER ios R H σ Γ)(p1:aQ ios R H σ Γ R1 H1 ag)(hs:lg ios R1 H1 x s)(hn:owned s.1=true->∀ a,x = .ref a->H a=none) :
 bt ios R H σ Γ R1 H1 (σ.set i (some x)) (ag.set i (some s)):=by
 have hfresh:owned s.1=true->∀ a,x = .ref a -> ¬ Ow σ ag a:=fun ho a ea z=>by
  obtain⟨_,xs,q⟩:=er.ow (p1.sh a z)
  rw[hn ho a ea] at q;cases q
 refine⟨⟨p1.er.sub,by rw[qbc,qbc];exact p1.er.len,fun j t hj=>?_,fun j j' l l' d d' b q1 q2 q3 q4 q5 q6=>?_⟩,⟨p1.go.rr,p1.go.hh,p1.go.no,fun b z=>?_,p1.go.th⟩⟩
 · by_cases hji:j=i
   · subst hji
     have l1:j<ag.length:=by have:=(qad.mp hj).1;rwa[qbc] at this
     rw[qak l1] at hj
     cases hj
     exact⟨x,by rw[qak (by rw[p1.er.len];exact l1)],hs⟩
   · rw[qai (qaT hji)] at hj ⊢
     exact p1.er.sl j t hj
 · by_cases h1:j=i
   · by_cases h2:j'=i
     · rw[h1,h2]
     · subst h1
       have l1:j<ag.length:=by have:=(qad.mp q1).1;rwa[qbc] at this
       rw[qak l1] at q1
       rw[qak (by rw[p1.er.len];exact l1)] at q5
       rw[qai (qaT h2)] at q3 q6
       cases q1;cases q5
       exact absurd ⟨j',l',d',q3,q4,q6⟩ (hfresh q2 b rfl)
   · by_cases h2:j'=i
     · subst h2
       have l1:j'<ag.length:=by have:=(qad.mp q3).1;rwa[qbc] at this
       rw[qak l1] at q3
       rw[qak (by rw[p1.er.len];exact l1)] at q6
       rw[qai (qaT h1)] at q1 q5
       cases q3;cases q6
       exact absurd ⟨j,l,d,q1,q2,q5⟩ (hfresh q4 b rfl)
     · rw[qai (qaT h1)] at q1 q5
       rw[qai (qaT h2)] at q3 q6
       exact p1.er.dj j j' l l' d d' b q1 q2 q3 q4 q5 q6
 · rcases MW z with z | ⟨ho,rfl⟩
   · exact .inl (p1.sh b z)
   · exact .inr (hn ho b rfl)
def cL(i:Nat)(f:M RV):M Fl:=M.bind f fun rv=>M.bind (match rv with
 | .new d=>sP i (.own,d)
 | .val d=>sP i (.ai,d)
 | .var j=>M.bind (mat (.var j)) fun d=>sP i (.ai,d)) fun _=>M.pure .nx
theorem EI{t:TE}{i:Nat}(h:eV EE ios t f):qB EE ios (qf t (ja i)) (cL i f):=by
 intro σ H R Γ D er w
 unfold cL at w
 rw[Zj] at w
 refine h σ H R Γ _ er (aG w (fun rv ag w x H1 R1 p1 hx=>?_) fun _ _ z=>z.exp)
 show D.nx (σ.set i (some x)) H1
 rw[Zj] at w
 cases rv with
 |val d=>exact w _ H1 R1 (bt.set er p1 (s:=(.ai,d)) hx fun z=>by cases z)
 |new d =>
   obtain⟨h1,a,h2,h3⟩:=hx
   exact w _ H1 R1 (bt.set er p1 (s:=(.own,d)) h1 fun _ b eb=>by rw[h2] at eb;cases eb;exact h3)
 |var j =>
   rw[Zj] at w
   obtain⟨d,aq,R2,p2,_,r2,w⟩:=jd er p1 hx w
   exact w _ H1 R2 (bt.set er p2 (s:=(.ai,d)) r2 fun z=>by cases z)
theorem MX(hN:X.N.Nodup)(hi:X.N[i]? = some x)(hx:Loc X.env.scope x)(he:VE X EE ios e f)(hs:swapsWith e (some (.Name x pos')) pos.line X.env=pure false:=by rfl)(hf:X.fn x=true\/X.env.scope.names.lookup x=some .local:=by first | exact .inl rfl | exact .inr rfl | assumption) :
 VS X EE ios (.Assign [.Name x pos'] e pos) (cL i f):=let ⟨_,h1,h2⟩:=he; ⟨_,CS hN hi hx h1 hs hf,EI h2⟩
def oZ:Xc->En->Prop:=fun _ _=>False
def iV(ios:List Addr)(n:Nat)(g:TG)(m:D->M Unit):Prop:=∀ σ H R Γ v d (Q:St->Hp->Prop),ER ios R H σ Γ->Rp R v d ->
 br (m d Γ) (fun _ Γ'=>∀ ax H' R',bt ios R H σ Γ R' H' ax Γ'->(∀ k,n<=k->ax[k]? = σ[k]?)->ae R R'->Q ax H') oZ->g v σ H Q
def vq(ios:List Addr)(n:Nat)(g:i_)(m:List D->M Unit):Prop:=∀ σ H R Γ vs ds (Q:St->Hp->Prop),ER ios R H σ Γ->aw R vs ds ->
 br (m ds Γ) (fun _ Γ'=>∀ ax H' R',bt ios R H σ Γ R' H' ax Γ'->(∀ k,n<=k->ax[k]? = σ[k]?)->ae R R'->Q ax H') oZ->g vs σ H Q
def gN(i:Nat)(d:D):M Unit:=sP i (.ai,d)
theorem o3{i n:Nat}(h:i<n):iV ios n (ja i) (gN i):=fun σ H R Γ v d Q er hv w =>
 w _ H R (bt.set er (aQ.refl er) (s:=(.ai,d)) hv fun z=>by cases z) (fun k hk=>qai (by omega)) (ae.refl _)
def eK:List D->M Unit
 | []=>M.pure ()
 | _=>M.st
def bJ(m:D->M Unit)(ms:List D->M Unit):List D->M Unit
 |d::r=>M.bind (m d) fun _=>ms r
 | []=>M.st
theorem MY:vq ios n qb eK:=fun σ H R Γ vs ds Q er hv w=>by
 cases hv with
 |nil=>exact⟨rfl,w σ H R (bt.refl er) (fun _ _=>rfl) (ae.refl _)⟩
 |cons _ _=>exact False.elim w
theorem EJ{n:Nat}{g:TG}{gs:i_}{m:D->M Unit}{ms:List D->M Unit}(h:iV ios n g m)(h':vq ios n gs ms):vq ios n (nh g gs) (bJ m ms):=fun σ H R Γ vs ds Q er hv w=>by
 cases hv with
 |nil=>exact False.elim w
 |cons h1 h2 =>
   refine⟨_,_,rfl,?_⟩
   unfold bJ at w
   rw[Zj] at w
   refine h σ H R Γ _ _ _ er h1 (aG w (fun _ ag w eS H1 R1 p1 k1 s1=>?_) fun _ _ z=>z)
   exact h' eS H1 R1 ag _ _ _ p1.er (h2.sm s1) (aG w (fun _ aq w cn H2 R2 p2 k2 s2=>w cn H2 R2 (p1.trans p2) (fun k hk=>(k2 k hk).trans (k1 k hk)) (s1.trans s2)) fun _ _ z=>z)
def gT(n:Nat)(ms:List D->M Unit):D->M Unit
 | .tup ds=>if ds.length=n then ms ds else M.st
 | _=>M.st
theorem MZ(h:vq ios n gs ms):iV ios n (qd K m gs) (gT m ms):=fun σ H R Γ v d Q er hv w=>by
 unfold gT at w
 split at w
 · split at w
   · rename_i c
     cases hv with
     |tup e q=>exact⟨_,_,rfl,b9.of (er.sub _ _ e),by rw[q.len];exact c,h σ H R Γ _ _ Q er q w⟩
   · exact False.elim w
 · exact False.elim w
def lD(m:M Unit):M Unit:=fun Γ=>match m Γ with
 | .ok a Γ'=>.ok a Γ'
 | _=>.st
def qC(m:D->M Unit)(f:M RV):M Fl:=M.bind f fun rv=>M.bind (mat rv) fun d=>M.bind (lD (m d)) fun _=>M.pure .nx
theorem mw(h:br (lD m Γ) K E):br (m Γ) K oZ:=by
 unfold lD at h
 cases q:m Γ with
 |ok a Γ'=>rw[q] at h;exact h
 |ex x Γ'=>rw[q] at h;exact False.elim h
 |st=>rw[q] at h;exact False.elim h
theorem M0{t:TE}{g:TG}{m:D->M Unit}{n:Nat}(h:eV EE ios t f)(hg:iV ios n g m):qB EE ios (qf t g) (qC m f):=by
 intro σ H R Γ D er w
 unfold qC at w
 rw[Zj] at w
 refine h σ H R Γ _ er (aG w (fun rv ag w x H1 R1 p1 hx=>?_) fun _ _ z=>z.exp)
 rw[Zj] at w
 obtain⟨d,aq,R2,p2,_,r2,w⟩:=jd er p1 hx w
 rw[Zj] at w
 exact hg σ H1 R2 aq x d _ p2.er r2 (aG (mw w) (fun _ ik w iP H3 R3 p3 _ _=>w iP H3 R3 (p2.dA.trans p3)) fun _ _ z=>z)
theorem EK{tg:Expr}{g:TG}{m:D->M Unit}{n:Nat}(he:VE X EE ios e f)(hr:iV ios n g m)(hp:∀ t,PE X e t->PS X (.Assign [tg] e pos) (qf t g)):VS X EE ios (.Assign [tg] e pos) (qC m f) :=
 let ⟨_,h1,h2⟩:=he; ⟨_,hp _ h1,M0 h2 hr⟩
def setAt(j:Nat)(d di:D):M Unit:=fun Γ=>match Γ[j]?,di with
 |some (some (kd,.lst ds)),.int i=>if owned kd then match iw ds.length i with
   |some k=>.ok () (Γ.set j (some (kd,.lst (ds.set k d))))
   |none=>.st else .st
 | _,_=>.st
def gS(j:Nat)(fi:M RV)(d:D):M Unit:=M.bind (recv j) fun _=>M.bind fi fun ri=>M.bind (peek ri) fun di=>setAt j d di
theorem EL(hi:eV EE ios ti fi):iV ios n (CO (n8 j) ti DB) (gS j fi):=fun σ H R Γ v d Q er hv w=>by
 unfold gS at w
 rw[Zj] at w
 obtain⟨p,_,nC,_,w⟩:=EF er w
 refine⟨_,nC,?_⟩
 rw[Zj] at w
 refine hi σ H R Γ _ er (aG w (fun ri ag w y H1 R1 p1 hy=>?_) fun _ _ z=>z.elim)
 rw[Zj] at w
 obtain⟨di,pd,w⟩:=iD p1.er hy w
 unfold setAt at w
 split at w
 · rename_i kd ds i q
   split at w
   · rename_i ho
     split at w
     · rename_i k hk
       obtain⟨p',xs,e,h2,h3,m⟩:=p1.er.mut (ds':=ds.set k d) q ho nC
       cases e
       exact⟨p,xs,i,k,rfl,pd.int,h2,by rw[h3.len];exact hk,w σ _ R1 (p1.trans (m _ (h3.set (hv.sm p1.go.rr) k))).dA (fun _ _=>rfl) p1.go.rr⟩
     · exact False.elim w
   · exact False.elim w
 · exact False.elim w
def o4(J:It)(R0:Hp)(items:List D):Prop:=∀ (i:Nat) (H R:Hp),ae R0 R->ae R H ->
 (∀ d,items[i]? = some d->J.go i H/\∀ x H',J.lT i H x H'->∃ R',Al R H R' H'/\Rp R' x d)/\(items.length<=i->J.stop i H)
def qD(EE:aT)(ios:List Addr)(wi:TI)(f:M (List D)):Prop:=∀ σ H R Γ Rk,ER ios R H σ Γ ->
 br (f Γ) (fun items Γ'=>∀ J H' R',aQ ios R H σ Γ R' H' Γ'->o4 J R' items->Rk J H') (dw EE ios R H σ Γ)->wi σ H Rk
def VI(X:Cx)(EE:aT)(ios:List Addr)(tg iter:Expr)(f:M (List D)):Prop:=∃ wi,PI X tg iter wi/\qD EE ios wi f
variable{tg:Expr}
def jk(f:M RV):M (List D):=M.bind f fun rv=>M.bind (mat rv) fun d=>match d with
 | .lst ds=>M.pure ds
 | .bH ns=>M.pure (ns.map D.int)
 | _=>M.st
def tupI(f:M RV):M (List D):=M.bind f fun rv=>M.bind (mat rv) fun d=>match d with
 | .tup ds=>M.pure ds
 | _=>M.st
theorem EM{K:W.Frag}{R0:Hp}{a:Addr}{xs:List V}{ds:List D}(h:∀ H,ae R0 H->aZ K H a xs)(r:aw R0 xs ds):o4 (xU K a) R0 ds:=by
 intro i H R s1 s2
 have s:=s1.trans s2
 refine⟨fun d hd=>?_,fun hl=>⟨xs,h H s,by rw[r.len];exact hl⟩⟩
 obtain⟨x,hx,rx⟩:=r.ta hd
 refine⟨⟨xs,x,h H s,hx⟩,fun y H' hy=>?_⟩
 obtain⟨rfl,hy⟩:=hy
 have:=hy xs (h _ s)
 rw[hx] at this
 cases this
 exact⟨R,Al.refl s2,rx.sm s1⟩
theorem M1{K:W.Frag}{R0:Hp}{a:Addr}{xs:List V}{ds:List D}(h:∀ H,ae R0 H->b9 K H a xs)(r:aw R0 xs ds):o4 (xW K a) R0 ds:=by
 intro i H R s1 s2
 have s:=s1.trans s2
 refine⟨fun d hd=>?_,fun hl=>⟨xs,h H s,by rw[r.len];exact hl⟩⟩
 obtain⟨x,hx,rx⟩:=r.ta hd
 refine⟨⟨xs,x,h H s,hx⟩,fun y H' hy=>?_⟩
 obtain⟨rfl,hy⟩:=hy
 have:=hy xs (h _ s)
 rw[hx] at this
 cases this
 exact⟨R,Al.refl s2,rx.sm s1⟩
theorem o5(h:VE X EE ios e f)(hK:X.K=KC.K:=by rfl):VI X EE ios tg e (jk f):=by
 obtain⟨t,h1,h2⟩:=h
 refine⟨_,JW h1,fun σ H R Γ Rk er w=>?_⟩
 unfold jk at w
 rw[Zj] at w
 refine h2 σ H R Γ _ er (aG w (fun rv ag w x H1 R1 p1 hx=>?_) fun _ _ z=>z)
 rw[Zj] at w
 obtain⟨d,aq,R2,p2,_,r2,w⟩:=jd er p1 hx w
 split at w
 · cases r2 with
   |lst e q=>exact⟨_,rfl,⟨_,aZ.of (p2.er.sub _ _ e)⟩,w _ H1 R2 p2 (EM (fun H s=>aZ.of (s _ _ e)) q)⟩
 · cases r2 with
   |bH e=>exact⟨_,rfl,⟨_,by rw[hK];exact p2.er.sub.seq e⟩,w _ H1 R2 p2 (EM (fun H s=>by rw[hK];exact s.seq e) (aw.ints _))⟩
 · exact False.elim w
theorem M3(h:VE X EE ios e f):VI X EE ios tg e (tupI f):=by
 obtain⟨t,h1,h2⟩:=h
 refine⟨_,JX h1,fun σ H R Γ Rk er w=>?_⟩
 unfold tupI at w
 rw[Zj] at w
 refine h2 σ H R Γ _ er (aG w (fun rv ag w x H1 R1 p1 hx=>?_) fun _ _ z=>z)
 rw[Zj] at w
 obtain⟨d,aq,R2,p2,_,r2,w⟩:=jd er p1 hx w
 split at w
 · cases r2 with
   |tup e q=>exact⟨_,rfl,⟨_,b9.of (p2.er.sub _ _ e)⟩,w _ H1 R2 p2 (M1 (fun H s=>b9.of (s _ _ e)) q)⟩
 · exact False.elim w
noncomputable def iF(lo:Int)(n:Nat):List D:=(List.range n).map fun (i:Nat)=>D.int (lo+i)
theorem M4:o4 (uS lo n) R0 (iF lo n):=by
 intro i H R s1 s2
 refine⟨fun d hd=>?_,fun hl=>show n<=i by simpa [iF] using hl⟩
 unfold iF at hd
 rw[qaE] at hd
 cases q:(List.range n)[i]? with
 |none=>rw[q] at hd;cases hd
 |some j =>
   rw[q] at hd
   cases hd
   obtain⟨h1,h2⟩:=qad.mp q
   rw[List.getElem_range] at h2
   subst h2
   refine⟨show i<n by simpa using h1,fun x H' hx=>?_⟩
   obtain⟨rfl,rfl⟩:=hx
   exact⟨R,Al.refl s2,.int _⟩
def small(j:Int):Bool:=cd (-(2 ^ 62)<=j/\j<2 ^ 62)
def o6(fs:M (List RV)):M (List D):=M.bind fs fun rvs=>match rvs with
 | [.val (.int j)]=>if small j then M.pure (iF 0 j.toNat) else M.st
 | _=>M.st
theorem EO(hp:∀ t,PA X es t->PI X tg e0 (CU t))(ha:VA X EE ios es fs):VI X EE ios tg e0 (o6 fs):=by
 obtain⟨t,h1,h2⟩:=ha
 refine⟨_,hp t h1,fun σ H R Γ Rk er w=>?_⟩
 unfold o6 at w
 rw[Zj] at w
 refine h2 σ H R Γ _ er (aG w (fun rvs ag w xs H1 R1 p1 hx=>?_) fun _ _ z=>z)
 split at w
 · split at w
   · rename_i c
     have c:=dR c
     cases hx with
     |cons a b =>
       cases b
       cases a
       exact⟨_,rfl,c.1,c.2,w _ H1 R1 p1 M4⟩
   · exact False.elim w
 · exact False.elim w
noncomputable def mz(ds:List D):List D:=ds.zipIdx.map fun p=>D.tup [.int p.2,p.1]
theorem zrk(h:R0 l=some (.lst xs))(r:aw R0 xs ds):o4 (yS l) R0 (mz ds):=by
 intro i H R s1 s2
 have hl:H l=some (.lst xs):=s2 _ _ (s1 _ _ h)
 refine⟨fun d hd=>?_,fun hl'=>⟨xs,hl,by rw[r.len];simpa [mz] using hl'⟩⟩
 have hd:((ds.zipIdx)[i]?).map (fun p=>D.tup [.int p.2,p.1])=some d:=by rw[<- qaE];exact hd
 rw[List.getElem?_zipIdx] at hd
 cases q:ds[i]? with
 |none=>rw[q] at hd;cases hd
 |some d0 =>
   rw[q] at hd
   cases hd
   obtain⟨x,hx,rx⟩:=r.ta q
   refine⟨⟨xs,x,hl,hx⟩,fun v H' hv=>?_⟩
   obtain⟨p,ys,y,rfl,hp,rfl,hy,sQ⟩:=hv
   rw[hl] at hy
   cases hy
   rw[hx] at sQ
   cases sQ
   obtain⟨al,rv⟩:=sF (xs:=[.int i,x]) (ds:=[.int i,d0]) s2 hp (.cons (.int _) (.cons (rx.sm s1) .nil))
   refine⟨_,al,?_⟩
   have rv:Rp _ _ _:=rv
   simpa using rv
def sR(fs:M (List RV)):M (List D):=M.bind fs fun rvs=>M.bind (bV rvs) fun ds=>match ds with
 | [.lst ds]=>M.pure (mz ds)
 | _=>M.st
theorem M5(hp:∀ t,PA X es t->PI X tg e0 (yT t))(ha:VA X EE ios es fs):VI X EE ios tg e0 (sR fs):=by
 obtain⟨t,h1,h2⟩:=ha
 refine⟨_,hp t h1,fun σ H R Γ Rk er w=>?_⟩
 unfold sR at w
 rw[Zj] at w
 refine h2 σ H R Γ _ er (aG w (fun rvs ag w xs H1 R1 p1 hx=>?_) fun _ _ z=>z)
 rw[Zj] at w
 obtain⟨ds,aq,R2,p2,_,r2,w⟩:=iE er p1 hx w
 split at w
 · cases r2 with
   |cons a b =>
     cases b
     cases a with
     |lst e q=>exact⟨_,_,rfl,p2.er.sub _ _ e,w _ H1 R2 p2 (zrk e q)⟩
 · exact False.elim w
end
section
variable{X:Cx}{EE:aT}{ios:List Addr}{e a b c iter tg:Expr}{es:List Expr}{f g k:M RV}{fs:M (List RV)}{p:M Bool}{s s':M Fl}{st:Stmt}{sts dB:List Stmt}{pos:Pos}
theorem lF{α:Type}{a:α}{K:α->En->Prop}(h:K a Γ):br (.ok a Γ) K E:=h
theorem nE{α:Type}{a:α}{K:α->En->Prop}(h:br (.ok a Γ) K E):K a Γ:=h
def o7(m:D->M Unit)(body:M Fl)(rest:M Fl)(d:D):M Fl:=M.bind (lD (m d)) fun _=>M.bind body fun fl=>match fl with
 | .nx=>rest
 | .cont=>rest
 | .brk=>M.pure .nx
 | .ret rv=>M.pure (.ret rv)
def gK(m:D->M Unit)(body:M Fl):List D->M Fl
 | []=>M.pure .nx
 |d::r=>o7 m body (gK m body r) d
def forM(items:M (List D))(m:D->M Unit)(body:M Fl):M Fl:=M.bind items fun ds=>gK m body ds
theorem M6(hi:qD EE ios wi items)(hg:iV ios n gt m)(hb:qB EE ios tb s):qB EE ios (rT wi gt tb) (forM items m s):=by
 intro σ H R Γ D er w
 unfold forM at w
 rw[Zj] at w
 refine hi σ H R Γ _ er (aG w (fun ds ag w J H1 R1 p1 hJ=>?_) fun _ _ z=>z.exp)
 refine⟨fun i m' cn H2=>m'=ds.length - i/\i<=ds.length/\∃ R2 aq,bt ios R H σ Γ R2 H2 cn aq/\ae R1 R2/\br (gK m s (ds.drop i) aq) (oY ios R H σ Γ D) (d9 EE ios R H σ Γ),⟨ds.length,rfl,qbp _,R1,ag,p1.dA,ae.refl _,w⟩,?_⟩
 rintro i m' cn H2 ⟨rfl,hi',R2,aq,p2,s2,w⟩
 obtain⟨go,stop⟩:=hJ i H2 R2 s2 p2.er.sub
 by_cases hlt:i<ds.length
 · have hd:ds[i]? = some ds[i]:=qae hlt
   obtain⟨g1,g2⟩:=go _ hd
   rw[qaQ hlt] at w
   have w:br (o7 m s (gK m s (ds.drop (i+1))) ds[i] aq) (oY ios R H σ Γ D) (d9 EE ios R H σ Γ):=w
   unfold o7 at w
   rw[Zj] at w
   refine .inr ⟨g1,fun iP H3=>∃ R3 ik,bt ios R H σ Γ R3 H3 iP ik/\ae R1 R3/\br (gK m s (ds.drop (i+1)) ik) (oY ios R H σ Γ D) (d9 EE ios R H σ Γ),?_,fun x H3 hx=>?_⟩
   · rintro iP H3 ⟨R3,ik,q1,q2,q3⟩
     exact⟨_,by omega,rfl,hlt,R3,ik,q1,q2,q3⟩
   · obtain⟨R3,al,rx⟩:=g2 x H3 hx
     have o8:ER ios R3 H3 cn aq:=p2.er.al al
     have p3:bt ios R H σ Γ R3 H3 cn aq:=⟨o8,p2.go.trans al.go⟩
     refine hg cn H3 R3 aq x _ _ o8 rx (aG (mw w) (fun _ jK w cW H4 R4 p4 _ s4=>?_) fun _ _ z=>z)
     rw[Zj] at w
     have o9:=p3.trans p4
     refine hb cW H4 R4 jK _ p4.er (aG w (fun fl sS w qE H5 R5 p5=>?_) fun _ _ z=>d9.trans o9 z)
     have p35:=o9.trans p5
     have s5:ae R1 R5:=((s2.trans al.rr).trans s4).trans p5.go.rr
     cases fl with
     |nx=>exact⟨R5,sS,p35,s5,w⟩
     |cont=>exact⟨R5,sS,p35,s5,w⟩
     |brk=>exact w qE H5 R5 p35
     |ret rv=>exact fun y hy=>w qE H5 R5 p35 y (qA o9.back hy)
 · have e:ds.drop i=[]:=qaZ (by omega)
   rw[e] at w
   exact .inl ⟨stop (by omega),w cn H2 R2 p2⟩
theorem ES(hi:VI X EE ios tg iter items)(hr:iV ios n gt m)(hb:cJ X EE ios sts s)
 (hps:∀ wi tb,PI X tg iter wi->PSs X sts tb->PS X (.For tg iter sts [] pos) (rT wi gt tb)):VS X EE ios (.For tg iter sts [] pos) (forM items m s) :=
 let ⟨_,h1,h2⟩:=hi;let ⟨_,h3,h4⟩:=hb; ⟨_,hps _ _ h1 h3,M6 h2 hr h4⟩
def bK(fr:List Nat)(own:Nat)(Γ:En):En:=List.replicate own none++fr.map fun j=>(Γ[j]?).join
def aC:List Nat->Nat->En->En->En
 | [],_,Γ,_=>Γ
 |j::r,k,Γ,bQ=>aC r (k+1) (Γ.set j (bQ[k]?).join) bQ
theorem zt{α:Type}{fr:List Nat}{L:List (Option α)}(h:i<own):(List.replicate own (none:Option α)++fr.map fun j=>(L[j]?).join)[i]? = some none:=by
 rw[qaH (by rw[qbH];exact h),qbi,qay h]
theorem vt{α:Type}{fr:List Nat}{L:List (Option α)}(h:own<=i):(List.replicate own (none:Option α)++fr.map fun j=>(L[j]?).join)[i]? = (fr[i - own]?).map fun j=>(L[j]?).join:=by
 rw[qaA (by rw[qbH];exact h),qbH,qaE]
theorem vv{α:Type}{o:Option (Option α)}{a:α}(h:o.join=some a):o=some (some a):=by
 cases o with
 |none=>cases h
 |some o=>cases o with
   |none=>cases h
   |some b=>cases h;rfl
theorem qF{fr:List Nat}{own i:Nat}{Γ:En}{s:Kd×D}(h:(bK fr own Γ)[i]? = some (some s)):own<=i/\∃ j,fr[i - own]? = some j/\Γ[j]? = some (some s):=by
 unfold bK at h
 by_cases hi:i<own
 · rw[zt hi] at h;cases h
 · rw[vt (by omega)] at h
   cases q:fr[i - own]? with
   |none=>rw[q] at h;cases h
   |some j =>
     rw[q] at h
     exact⟨by omega,j,rfl,vv (qaL h)⟩
theorem M7(hi:own<=i)(hj:fr[i - own]? = some j)(hv:σ[j]? = some (some v)):(ao fr own σ)[i]? = some (some v):=by
 unfold ao
 rw[vt hi,hj]
 show some ((σ[j]?).join)=_
 rw[hv];rfl
theorem sT(hi:own<=i)(hj:fr[i - own]? = some j)(h:(ao fr own σ)[i]? = some (some v)):σ[j]? = some (some v):=by
 unfold ao at h
 rw[vt hi,hj] at h
 exact vv (qaL h)
theorem M8{fr:List Nat}(hn:fr.Nodup){i j x:Nat}(h1:fr[i]? = some x)(h2:fr[j]? = some x):i=j:=by
 obtain⟨l1,e1⟩:=qad.mp h1
 obtain⟨l2,e2⟩:=qad.mp h2
 exact(List.getElem_inj hn).mp (e1.trans e2.symm)
theorem ER.blk{R H:Hp}{σ:St}{Γ:En}{fr:List Nat}{own:Nat}(er:ER ios R H σ Γ)(hn:fr.Nodup):ER ios R H (ao fr own σ) (bK fr own Γ) where
 sub:=er.sub
 len:=by unfold ao bK;simp
 sl:=fun i s h=>by
  obtain⟨hi,j,hj,hs⟩:=qF h
  obtain⟨v,hv,q⟩:=er.sl j s hs
  exact⟨v,M7 hi hj hv,q⟩
 dj:=fun i j k l d e b q1 q2 q3 q4 q5 q6=>by
  obtain⟨hi,i',hi',s1⟩:=qF q1
  obtain⟨hj,j',hj',s2⟩:=qF q3
  have:=er.dj i' j' k l d e b s1 q2 s2 q4 (sT hi hi' q5) (sT hj hj' q6)
  subst this
  have:=M8 hn hi' hj'
  omega
theorem Ow.blk{σ:St}{Γ:En}{fr:List Nat}{own:Nat}{b:Addr}(h:Ow (ao fr own σ) (bK fr own Γ) b):Ow σ Γ b:=by
 obtain⟨i,k,d,h1,h2,h3⟩:=h
 obtain⟨hi,j,hj,hs⟩:=qF h1
 exact⟨j,k,d,hs,h2,sT hi hj h3⟩
theorem zu:∀ {fr:List Nat} {k:Nat} {Γ bQ:En},(aC fr k Γ bQ).length=Γ.length
 | [],_,_,_=>rfl
 |j::r,k,Γ,bQ=>by unfold aC;rw[zu,List.length_set]
theorem zv:∀ {fr:List Nat} {k j:Nat} {Γ bQ:En},j ∉ fr->(aC fr k Γ bQ)[j]? = Γ[j]?
 | [],_,_,_,_,_=>rfl
 |i::r,k,j,Γ,bQ,h=>by
   unfold aC
   rw[zv (fun z=>h (qat _ z)),qai (fun z=>h (by rw[z];exact qaw ..))]
theorem ET:∀ {fr:List Nat} {k i j:Nat} {Γ bQ:En},fr.Nodup->fr[i]? = some j->j<Γ.length->(aC fr k Γ bQ)[j]? = some (bQ[k+i]?).join
 | [],_,_,_,_,_,_,h,_=>by simp at h
 |x::r,k,0,j,Γ,bQ,hn,h,hl=>by
   simp at h
   subst h
   unfold aC
   rw[zv (qbg.mp hn).1,qak hl]
   rfl
 |x::r,k,i+1,j,Γ,bQ,hn,h,hl=>by
   unfold aC
   rw[ET (qbg.mp hn).2 (by simpa using h) (by rw[List.length_set];exact hl)]
   rw[show k+1+i=k+(i+1) by omega]
theorem aQ.aC{R H R1 H1:Hp}{σ qG:St}{Γ bQ:En}{fr:List Nat}{own:Nat}(er:ER ios R H σ Γ)(hn:fr.Nodup)(p:bt ios R H (ao fr own σ) (bK fr own Γ) R1 H1 qG bQ)(keep:∀ k,own<=k->qG[k]? = (ao fr own σ)[k]?)
 (sh:∀ b,Ow qG bQ b->Ow (ao fr own σ) (bK fr own Γ) b):aQ ios R H σ Γ R1 H1 (Dv.aC fr own Γ bQ):=by
 have slot:∀ (j:Nat) (s:Kd×D),(Dv.aC fr own Γ bQ)[j]? = some (some s)->(j ∉ fr/\Γ[j]? = some (some s))\/∃ i,fr[i]? = some j/\bQ[own+i]? = some (some s)/\qG[own+i]? = some ((σ[j]?).join):=by
  intro j s h
  by_cases hj:j∈fr
  · obtain⟨i,hi,e⟩:=List.getElem_of_mem hj
    have hi':fr[i]? = some j:=by rw[qae hi,e]
    have hl:j<Γ.length:=by have:=(qad.mp h).1;rwa[zu] at this
    rw[ET hn hi' hl] at h
    refine .inr ⟨i,hi',vv (qaL h),?_⟩
    rw[keep _ (by omega)]
    unfold ao
    rw[vt (by omega),show own+i - own=i by omega,hi']
    rfl
  · rw[zv hj] at h
    exact .inl ⟨hj,h⟩
 have inside:∀ (i j:Nat) (k:Kd) (d:D) (b:Addr),fr[i]? = some j->bQ[own+i]? = some (some (k,d))->owned k=true->qG[own+i]? = some ((σ[j]?).join)->σ[j]? = some (some (.ref b))->∃ j0 k0 d0,j0∈fr/\Γ[j0]? = some (some (k0,d0))/\owned k0=true/\σ[j0]? = some (some (.ref b)):=by
  intro i j k d b hi q h2 e h3
  have e:qG[own+i]? = some (some (.ref b)):=by rw[e,h3];rfl
  obtain⟨i0,k0,d0,g1,g2,g3⟩:=sh b ⟨own+i,k,d,q,h2,e⟩
  obtain⟨hi0,j0,hj0,hs0⟩:=qF g1
  exact⟨j0,k0,d0,qaN hj0,hs0,g2,sT hi0 hj0 g3⟩
 have sh':∀ b,Ow σ (Dv.aC fr own Γ bQ) b->Ow σ Γ b:=by
  rintro b ⟨j,k,d,h1,h2,h3⟩
  rcases slot j _ h1 with ⟨_,q⟩ | ⟨i,hi,q,e⟩
  · exact⟨j,k,d,q,h2,h3⟩
  · obtain⟨j0,k0,d0,_,g1,g2,g3⟩:=inside i j k d b hi q h2 e h3
    exact⟨j0,k0,d0,g1,g2,g3⟩
 have out:∀ (j:Nat) (k:Kd) (d:D) (b:Addr),j ∉ fr->Γ[j]? = some (some (k,d))->owned k=true->σ[j]? = some (some (.ref b)) -> ¬ Ow (ao fr own σ) (bK fr own Γ) b:=by
  rintro j k d b hj h1 h2 h3 ⟨i0,k0,d0,g1,g2,g3⟩
  obtain⟨hi0,j0,hj0,hs0⟩:=qF g1
  have:=er.dj j j0 k k0 d d0 b h1 h2 hs0 g2 h3 (sT hi0 hj0 g3)
  subst this
  exact hj (qaN hj0)
 refine⟨⟨p.er.sub,by rw[zu];exact er.len,fun j t hj=>?_,fun j j' l l' d d' b q1 q2 q3 q4 q5 q6=>?_⟩,⟨p.go.rr,fun b o h n=>p.go.hh b o h fun z=>n z.blk,fun b o h n r=>p.go.no b o h (fun z=>n z.blk) r,fun b z=>.inl (sh' b z),p.go.th⟩,sh'⟩
 · rcases slot j t hj with ⟨hf,q⟩ | ⟨i,hi,q,e⟩
   · obtain⟨v,hv,q'⟩:=er.sl j t q
     refine⟨v,hv,q'.mono p.go.rr fun ho b ys eb hb rb=>?_⟩
     subst eb
     have:=out j t.1 t.2 b hf q ho hv
     exact⟨p.go.hh b _ hb this,p.go.no b _ hb this rb⟩
   · obtain⟨v,hv,q'⟩:=p.er.sl _ t q
     rw[e] at hv
     exact⟨v,vv (qaL hv),q'⟩
 · rcases slot j _ q1 with ⟨hf,g1⟩ | ⟨i,hi,g1,e1⟩
   · rcases slot j' _ q3 with ⟨hf',g3⟩ | ⟨i',hi',g3,e3⟩
     · exact er.dj j j' l l' d d' b g1 q2 g3 q4 q5 q6
     · obtain⟨j0,k0,d0,m0,z1,z2,z3⟩:=inside i' j' l' d' b hi' g3 q4 e3 q6
       have:=er.dj j j0 l k0 d d0 b g1 q2 z1 z2 q5 z3
       subst this
       exact absurd m0 hf
   · rcases slot j' _ q3 with ⟨hf',g3⟩ | ⟨i',hi',g3,e3⟩
     · obtain⟨j0,k0,d0,m0,z1,z2,z3⟩:=inside i j l d b hi g1 q2 e1 q5
       have:=er.dj j' j0 l' k0 d' d0 b g3 q4 z1 z2 q6 z3
       subst this
       exact absurd m0 hf'
     · have:=p.er.dj (own+i) (own+i') l l' d d' b g1 q2 g3 q4 (by rw[e1,q5];rfl) (by rw[e3,q6];rfl)
       have:i=i':=by omega
       subst this
       rw[hi] at hi'
       exact qaL hi'
def mB(n:Nat)(m:D->M Unit):Prop:=∀ d Γ Γ',m d Γ = .ok () Γ'->(∀ k,n<=k->Γ'[k]? = Γ[k]?)/\∀ i s,i<n->Γ'[i]? = some (some s)->Γ[i]? = some (some s)\/s.1 = .ai
def vw(n:Nat)(m:List D->M Unit):Prop:=∀ d Γ Γ',m d Γ = .ok () Γ'->(∀ k,n<=k->Γ'[k]? = Γ[k]?)/\∀ i s,i<n->Γ'[i]? = some (some s)->Γ[i]? = some (some s)\/s.1 = .ai
theorem qH(h:i<n):mB n (gN i):=fun d Γ Γ' e=>by
 cases e
 refine⟨fun k hk=>qai (by omega),fun j s hj q=>?_⟩
 by_cases hji:j=i
 · subst hji
   have l1:j<Γ.length:=by have:=(qad.mp q).1;rwa[qbc] at this
   rw[qak l1] at q
   cases q
   exact .inr rfl
 · rw[qai (qaT hji)] at q
   exact .inl q
theorem M9:vw n eK:=fun d Γ Γ' e=>by
 cases d with
 |nil=>cases e;exact⟨fun _ _=>rfl,fun _ _ _ q=>.inl q⟩
 |cons _ _=>cases e
theorem EU(h:mB n m)(h':vw n ms):vw n (bJ m ms):=fun d Γ Γ' e=>by
 cases d with
 |nil=>cases e
 |cons d r =>
   have e:M.bind (m d) (fun _=>ms r) Γ = .ok () Γ':=e
   unfold M.bind at e
   cases q:m d Γ with
   |ok a ag =>
     rw[q] at e
     obtain⟨a1,a2⟩:=h d Γ ag q
     obtain⟨b1,b2⟩:=h' r ag Γ' e
     exact⟨fun k hk=>(b1 k hk).trans (a1 k hk),fun i s hi z=>(b2 i s hi z).elim (fun z=>a2 i s hi z) .inr⟩
   |ex x ag=>rw[q] at e;cases e
   |st=>rw[q] at e;cases e
theorem M_{n k:Nat}{ms:List D->M Unit}(h:vw n ms):mB n (gT k ms):=fun d Γ Γ' e=>by
 unfold gT at e
 split at e
 · split at e
   · exact h _ _ _ e
   · cases e
 · cases e
def jN(m:D->M Unit)(p:M Bool)(f:M RV)(d:D):M (Option D):=M.bind (lD (m d)) fun _=>M.bind p fun b=>if b then M.bind f fun rv=>M.bind (mat rv) fun y=>M.pure (some y) else M.pure none
def cS(fr:List Nat)(own:Nat)(m:D->M Unit)(p:M Bool)(f:M RV):List D->M (List D)
 | []=>M.pure []
 |d::r=>fun Γ=>match jN m p f d (bK fr own Γ) with
   | .ok y bQ=>match cS fr own m p f r (aC fr own Γ bQ) with
     | .ok ys Γ'=>.ok (y.toList++ys) Γ'
     | _=>.st
   | _=>.st
def iG(items:M (List D))(fr:List Nat)(own:Nat)(m:D->M Unit)(p:M Bool)(f:M RV):M RV:=M.bind items fun ds=>if ds.length<sizeLine then M.bind (cS fr own m p f ds) fun ys=>M.pure (.new (.lst ys)) else M.st
abbrev EN:aT:=fun _ _ _ _=>False
theorem EV{fr:List Nat}(hn:fr.Nodup)(hi:qD EE ios wi items)(hg:iV ios own gt m)(hk:mB own m)(hc:je EN ios tc p)(he:eV EN ios te f):eV EE ios (yC fr own wi gt tc te) (iG items fr own m p f):=by
 intro σ H R Γ Q er w
 unfold iG at w
 rw[Zj] at w
 refine hi σ H R Γ _ er (aG w (fun ds ag w J H1 R1 p1 hJ=>?_) fun _ _ z=>z)
 split at w
 · rename_i hsz
   rw[Zj] at w
   intro A hA
   have zw:R1 A=none:=p1.er.sub.free hA
   have zx:Al R1 H1 R1 (upd H1 A (.lst [])):=⟨p1.er.sub.trans (jc hA),ae.refl _,jc hA,fun _ _ _ z=>z⟩
   refine⟨fun i n ys H2=>n=ds.length - i/\i<=ds.length/\∃ R2 aq gL L,aQ ios R H σ Γ R2 H2 aq/\ae R1 R2/\R2 A=none/\aw R2 ys gL/\ys.length<=i/\cS fr own m p f (ds.drop i) aq=L/\br L (fun zs Γ'=>∀ x H' R',aQ ios R H σ Γ R' H' Γ'->dQ R' H H' σ x (.new (.lst (gL++zs)))->Q x H') (dw EE ios R H σ Γ),⟨ds.length,rfl,qbp _,R1,ag,[],_,p1.al zx,ae.refl _,zw,.nil,by simp,rfl,w⟩,?_⟩
   rintro i n ys H2 o_ ⟨rfl,hi',R2,aq,gL,L,p2,s2,mC,hys,hyl,rfl,w⟩
   obtain⟨go,stop⟩:=hJ i H2 R2 s2 p2.er.sub
   have sU : ¬ Ow σ Γ A:=fun z=>by
    obtain⟨_,xs,q⟩:=er.ow z
    rw[p1.back er A hA] at q;cases q
   by_cases hlt:i<ds.length
   · have hd:ds[i]? = some ds[i]:=qae hlt
     obtain⟨g1,g2⟩:=go _ hd
     rw[qaQ hlt] at w
     refine .inr ⟨g1,by omega,fun x H3 hx=>?_⟩
     obtain⟨R3,al,rx⟩:=g2 x H3 hx
     unfold cS at w
     have p3:aQ ios R H σ Γ R3 H3 aq:=p2.al al
     have mD:H3 A=some (.lst ys):=al.hh _ _ o_
     have ko:R3 A=none:=al.no _ _ o_ mC
     have zy:ER ios R3 H3 (ao fr own σ) (bK fr own aq):=p3.er.blk hn
     have gg : ¬ Ow (ao fr own σ) (bK fr own aq) A:=fun z=>sU (p3.sh A z.blk)
     have run:br (jN m p f ds[i] (bK fr own aq)) (fun y bQ=>br (cS fr own m p f (ds.drop (i+1)) (Dv.aC fr own aq bQ)) (fun zs Γ'=>∀ x H' R',aQ ios R H σ Γ R' H' Γ'->dQ R' H H' σ x (.new (.lst (gL++(y.toList++zs))))->Q x H') (fun _ _=>False)) oZ:=by
      cases q:jN m p f ds[i] (bK fr own aq) with
      |ok y bQ =>
        rw[q] at w
        dsimp only at w
        show br (cS fr own m p f (ds.drop (i+1)) (Dv.aC fr own aq bQ)) _ _
        cases q':cS fr own m p f (ds.drop (i+1)) (Dv.aC fr own aq bQ) with
        |ok zs Γ'=>rw[q'] at w;exact w
        |ex _ _=>rw[q'] at w;exact False.elim w
        |st=>rw[q'] at w;exact False.elim w
      |ex _ _=>rw[q] at w;exact False.elim w
      |st=>rw[q] at w;exact False.elim w
     unfold jN at run
     rw[Zj] at run
     cases hm:m ds[i] (bK fr own aq) with
     |ex _ _=>have:=mw run;rw[hm] at this;exact this.elim
     |st=>have:=mw run;rw[hm] at this;exact this.elim
     |ok u jK =>
       obtain⟨k1,k2⟩:=hk _ _ _ hm
       have wm:=mw run
       rw[hm] at wm
       refine hg (ao fr own σ) H3 R3 (bK fr own aq) x _ _ zy rx ?_
       rw[hm]
       refine lF fun cW H4 R4 p4 keep s4=>?_
       have w:=nE wm
       rw[Zj] at w
       have kq:∀ b,Ow cW jK b->Ow (ao fr own σ) (bK fr own aq) b:=by
        rintro b ⟨j,k,d,h1,h2,h3⟩
        by_cases hj:own<=j
        · rw[k1 j hj] at h1
          rw[keep j hj] at h3
          exact⟨j,k,d,h1,h2,h3⟩
        · rcases k2 j (k,d) (by omega) h1 with z | z
          · unfold bK at z;rw[zt (by omega)] at z;cases z
          · cases z;cases h2
       refine hc cW H4 R4 jK _ p4.er (aG w (fun b mE w H6 R6 p6=>?_) fun _ _ z=>z.elim)
       have p46:bt ios R3 H3 (ao fr own σ) (bK fr own aq) R6 H6 cW mE:=p4.trans p6.dA
       have sV:∀ b,Ow cW mE b->Ow (ao fr own σ) (bK fr own aq) b:=fun b z=>kq b (p6.sh b z)
       have zz:H6 A=some (.lst ys):=p46.go.hh _ _ mD gg
       have pf:R6 A=none:=p46.go.no _ _ mD gg ko
       cases b with
       |false =>
         simp only[Bool.false_eq_true,if_false] at w ⊢
         have pu:aQ ios R3 H3 σ aq R6 H6 (Dv.aC fr own aq mE):=aQ.aC p3.er hn p46 keep sV
         refine⟨zz,_,Nat.sub_lt_sub_left hlt (qbz i),rfl,hlt,R6,_,gL,_,p3.trans pu,(s2.trans al.rr).trans p46.go.rr,pf,hys.sm (al.rr.trans p46.go.rr),by omega,rfl,?_⟩
         exact aG w (fun zs Γ' w x H' R' p q=>w x H' R' p q) fun _ _ z=>z.elim
       |true =>
         simp only[if_true] at w ⊢
         rw[Zj] at w
         refine he cW H6 R6 mE _ p6.er (aG w (fun rv Na w y H7 R7 p7 hy=>?_) fun _ _ z=>z.elim)
         rw[Zj] at w
         obtain⟨dy,kr,R8,p8,s8,ry,w⟩:=jd p6.er p7 hy w
         have mF:bt ios R3 H3 (ao fr own σ) (bK fr own aq) R8 H7 cW kr:=p46.trans p8.dA
         have zA:∀ b,Ow cW kr b->Ow (ao fr own σ) (bK fr own aq) b:=fun b z=>sV b (p8.sh b z)
         have pu:aQ ios R3 H3 σ aq R8 H7 (Dv.aC fr own aq kr):=aQ.aC p3.er hn mF keep zA
         have zB:H7 A=some (.lst ys):=mF.go.hh _ _ mD gg
         have ku:R8 A=none:=mF.go.no _ _ mD gg ko
         have dX:=p3.trans pu
         have zC : ¬ Ow σ (Dv.aC fr own aq kr) A:=fun z=>sU (dX.sh A z)
         have pA:aQ ios R H σ Γ R8 (upd H7 A (.lst (ys++[y]))) (Dv.aC fr own aq kr):=by
          have up:∀ b,b≠A->upd H7 A (.lst (ys++[y])) b=H7 b:=fun b hb=>aW hb
          refine⟨⟨fun b o q=>?_,dX.er.len,fun j t hj=>?_,dX.er.dj⟩,⟨dX.go.rr,fun b o q n=>?_,dX.go.no,dX.go.oo,fun b o q=>?_⟩,dX.sh⟩
          · rw[up b (fun z=>by rw[z,ku] at q;cases q)];exact dX.er.sub b o q
          · obtain⟨v,hv,q⟩:=dX.er.sl j t hj
            refine⟨v,hv,q.mono (ae.refl _) fun ho b zs eb hb rb=>⟨?_,rb⟩⟩
            rw[up b]
            · exact hb
            · rintro rfl;subst eb;exact zC ⟨j,t.1,t.2,hj,ho,hv⟩
          · rw[up b (fun z=>by rw[z,p1.back er A hA] at q;cases q)];exact dX.go.hh b o q n
          · by_cases hb:b=A
            · subst hb;exact⟨_,dh⟩
            · rw[up b hb];exact dX.go.th b o q
         refine⟨zB,_,Nat.sub_lt_sub_left hlt (qbz i),rfl,hlt,R8,_,gL++[dy],_,pA,((s2.trans al.rr).trans p46.go.rr).trans p8.go.rr,ku,(hys.sm ((al.rr.trans p46.go.rr).trans p8.go.rr)).app (.cons ry .nil),by rw[qaq];simp;omega,rfl,?_⟩
         refine aG w (fun zs Γ' w x H' R' p q=>w x H' R' p ?_) fun _ _ z=>z.elim
         simpa using q
   · have e:ds.drop i=[]:=qaZ (by omega)
     rw[e] at w
     refine .inl ⟨stop (by omega),w _ H2 R2 p2 ⟨⟨A,ys,gL,rfl,mC,o_,by simp,hys⟩,A,rfl,p1.back er A hA⟩⟩
 · exact False.elim w
end
section
variable{X:Cx}{EE:aT}{ios:List Addr}{e a b c iter tg elt:Expr}{es ifs:List Expr}{f g k:M RV}{fs:M (List RV)}{p:M Bool}{s s':M Fl}{st:Stmt}{sts dB:List Stmt}{pos:Pos}
def EW(EE:aT)(ios:List Addr)(f:M RV):TE:=fun σ H Q=>∃ R Γ,ER ios R H σ Γ/\br (f Γ) (fun rv Γ'=>∀ x H' R',aQ ios R H σ Γ R' H' Γ'->dQ R' H H' σ x rv->Q x H') (dw EE ios R H σ Γ)
def EX(EE:aT)(ios:List Addr)(f:M Bool):TT:=fun σ H Q=>∃ R Γ,ER ios R H σ Γ/\br (f Γ) (fun b Γ'=>∀ H' R',aQ ios R H σ Γ R' H' Γ'->Q b H') (dw EE ios R H σ Γ)
theorem VE.pe(h:VE X EE ios e f):PE X e (EW EE ios f):=let ⟨_,h1,h2⟩:=h;fun pins s σ H Q I ⟨R,Γ,er,w⟩=>h1 pins s σ H Q I (h2 σ H R Γ Q er w)
theorem VT.pt(h:VT X EE ios e p):PT X e (EX EE ios p):=let ⟨_,h1,h2⟩:=h;fun pins s σ H Q I ⟨R,Γ,er,w⟩=>h1 pins s σ H Q I (h2 σ H R Γ Q er w)
def sW(X:Cx)(EE:aT)(ios:List Addr)(ifs:List Expr)(p:M Bool):Prop:=nq X ifs (EX EE ios p)
theorem ph:sW X EE ios [] (M.pure true):=fun pins s σ H Q I ⟨R,Γ,er,w⟩=>LP pins s σ H Q I (w H R (aQ.refl er))
theorem Nb(h:VT X EE ios c p):sW X EE ios [c] p:=LQ h.pt
abbrev mG(X:Cx)(Nc:List Str)(scope:Scope)(cl:List (Str×Addr))(C:Addr)(s3:Shared)(H3:Hp)(fp:List Addr)(pn':List (Addr×Obj)):Cx:=X.blk Nc scope cl C s3 H3 fp pn' fun _ _=>False
theorem qI(hc:X.calm=true)(B:eU X scope Nc own fr)(hn:fr.Nodup)(hi:VI X EE ios tg iter items)(hog:kg own gt)
 (hg:∀ cl C s3 H3 fp pn',PG (mG X Nc scope cl C s3 H3 fp pn') tg gt) (hr:iV ios own gt m) (hk:mB own m) (ht:∀ cl C s3 H3 fp pn',sW (mG X Nc scope cl C s3 H3 fp pn') EN ios ifs p) (he:∀ cl C s3 H3 fp pn',VE (mG X Nc scope cl C s3 H3 fp pn') EN ios elt f)
 (hs:∀ x,foldedSetIterable iter X.env x=pure x:=by intro _;rfl):VE X EE ios (.ListComp elt [⟨tg,iter,ifs,0⟩] scope pos) (iG items fr own m p f) :=
 let ⟨_,h1,h2⟩:=hi
 ⟨_,L0 hc B h1 hog hg ht (fun cl C s3 H3 fp pn'=>(he cl C s3 H3 fp pn').pe) hs,EV hn h2 hr hk (fun σ H R Γ Q er w=>⟨R,Γ,er,w⟩) (fun σ H R Γ Q er w=>⟨R,Γ,er,w⟩)⟩
theorem Nd{py spos:Pos}(hN:X.N.Nodup)(hi':X.N[i]? = some y)(hx:Loc X.env.scope y)(hc:X.calm=true)(B:eU X scope Nc own fr)(hn:fr.Nodup)(hi:VI X EE ios tg iter items)(hog:kg own gt)
 (hg:∀ cl C s3 H3 fp pn',PG (mG X Nc scope cl C s3 H3 fp pn') tg gt) (hr:iV ios own gt m) (hk:mB own m) (ht:∀ cl C s3 H3 fp pn',sW (mG X Nc scope cl C s3 H3 fp pn') EN ios ifs p) (he:∀ cl C s3 H3 fp pn',VE (mG X Nc scope cl C s3 H3 fp pn') EN ios elt f)
 (hs:∀ x,foldedSetIterable iter X.env x=pure x:=by intro _;rfl) (hsw:swapsWith (.ListComp elt [⟨tg,iter,ifs,0⟩] scope pos) (some (.Name y py)) spos.line X.env=pure true:=by rfl)
 (hf:X.fn y=true\/X.env.scope.names.lookup y=some .local:=by first | exact .inl rfl | exact .inr rfl | assumption):VS X EE ios (.Assign [.Name y py] (.ListComp elt [⟨tg,iter,ifs,0⟩] scope pos) spos) (cL i (iG items fr own m p f)) :=
 let ⟨_,h1,h2⟩:=hi
 ⟨_,L1 hN hi' hx hc B h1 hog hg ht (fun cl C s3 H3 fp pn'=>(he cl C s3 H3 fp pn').pe) hs hsw hf,EI (EV hn h2 hr hk (fun σ H R Γ Q er w=>⟨R,Γ,er,w⟩) (fun σ H R Γ Q er w=>⟨R,Γ,er,w⟩))⟩
inductive Rt where
 |val (d:D) | new (d:D)
def Rt.rv:Rt->RV
 | .val d=>.val d
 | .new d=>.new d
def Nf(R H:Hp)(r:Option Rt)(Q:VK):Prop:=match r with
 |some r=>∀ x H' R',Al R H R' H'->jf R' H H' x r.rv->Q x H'
 |none=>False
def aX(G:List D->Option Rt):Sp:=fun vs H Q _=>∃ R ds,ae R H/\aw R vs ds/\Nf R H (G ds) Q
def gam(N:List Str)(ds:List D):En:=ds.map (fun d=>some (.ai,d))++List.replicate (N.length - ds.length) none
noncomputable def b7:Res Fl->Option Rt
 | .ok .nx _=>some (.val .av)
 | .ok (.ret (.val d)) _=>some (.val d)
 | .ok (.ret (.new d)) _=>some (.new d)
 | .ok (.ret (.var i)) Γ=>match Γ[i]? with
   |some (some (.own,d))=>some (.new d)
   |some (some (.ai,d))=>some (.val d)
   | _=>none
 | _=>none
theorem vy{N:List Str}{ds:List D}{i:Nat}{t:Kd×D}(h:(gam N ds)[i]? = some (some t)):∃ d,ds[i]? = some d/\t=(.ai,d):=by
 unfold gam at h
 by_cases hi:i<ds.length
 · rw[qaH (by rw[qaK];exact hi),qaE,qae hi] at h
   cases h
   exact⟨_,qae hi,rfl⟩
 · rw[qaA (by rw[qaK];omega),qbi] at h
   split at h<;>cases h
theorem zD{N:List Str}{vs:List V}{i:Nat}{v:V}(h:vs[i]? = some v):(L2.start N vs)[i]? = some (some v):=by
 unfold L2.start
 have hi:=(qad.mp h).1
 rw[qaH (by rw[qaK];exact hi),qaE,h]
 rfl
theorem zE{N:List Str}{R H:Hp}{vs:List V}{ds:List D}(s:ae R H)(h:aw R vs ds):ER [] R H (L2.start N vs) (gam N ds) where
 sub:=s
 len:=by unfold L2.start gam;simp[h.len]
 sl:=fun i t q=>by
  obtain⟨d,hd,rfl⟩:=vy q
  obtain⟨x,hx,rx⟩:=h.ta hd
  exact⟨x,zD hx,rx⟩
 dj:=fun i j k l d e b q1 q2 _ _ _ _=>by
  obtain⟨_,_,z⟩:=vy q1
  cases z;cases q2
theorem vz{N:List Str}{σ:St}{ds:List D}{b:Addr} : ¬ Ow σ (gam N ds) b:=by
 rintro⟨i,k,d,q1,q2,_⟩
 obtain⟨_,_,z⟩:=vy q1
 cases z;cases q2
theorem bt.al(p:bt ios R H σ (gam N ds) R' H' ax Γ'):Al R H R' H':=⟨p.er.sub,p.go.rr,fun b o h=>p.go.hh b o h vz,fun b o h r=>p.go.no b o h vz r⟩
theorem zF{P:Program}{w:World}{K:W.Frag}{mg:Str->Option Value}{base:Heap}{x qual:Str}{fa:Addr}{fd:FuncData}{N ps:List Str}{k:Nat}{G:List D->Option Rt}{bm:M Fl}(F:ix K x qual st fa fd)(S:ak N ps (aa st))
 (hb:∀ (cdv:Value) (A:Around) (outer:List Env) (s:Shared) (H:Hp) (E:XK),aj k (A.deeper (PyProof.Rows.envOfC qual (aa st) s.heap.objs.size fa cdv))->cJ (fZ bZ P w K mg base N qual (aa st) fa cdv A outer s H E).k9 EN [] (af st) bm)
 (h:∀ ds r,G ds=some r->ds.length=ps.length/\b7 (bm (gam N ds))=some r):aD P w K mg base bZ (k+1) fa fd ps (aX G):=by
 refine F.ok S (fun vs H Q E q=>?_) (fun cdv A outer s H vs Q E hr q=>?_)
 · obtain⟨R,ds,_,h2,h3⟩:=q
   cases e:G ds with
   |none=>rw[e] at h3;exact h3.elim
   |some r=>rw[h2.len];exact(h ds r e).1
 · obtain⟨R,ds,h1,h2,h3⟩:=q
   cases e:G ds with
   |none=>rw[e] at h3;exact h3.elim
   |some r =>
     rw[e] at h3
     obtain⟨t,b1,b2⟩:=hb cdv A outer s H E hr
     refine⟨t,b1,b2 _ H R _ _ (zE h1 h2) ?_⟩
     have fin:=(h ds r e).2
     cases q:bm (gam N ds) with
     |st=>rw[q] at fin;cases fin
     |ex _ _=>rw[q] at fin;cases fin
     |ok fl Γ' =>
       rw[q] at fin
       refine lF fun ax H' R' p=>?_
       cases fl with
       |brk=>cases fin
       |cont=>cases fin
       |nx=>cases fin;exact h3 .av H' R' p.al .av
       |ret rv =>
         intro y hy
         cases rv with
         |val d=>cases fin;exact h3 y H' R' p.al hy
         |new d=>cases fin;exact h3 y H' R' p.al hy
         |var i =>
           have fin:(match Γ'[i]? with
            |some (some (.own,d))=>some (Rt.new d)
            |some (some (.ai,d))=>some (.val d)
            | _=>none)=some r:=fin
           split at fin
           · rename_i d hs
             cases fin
             obtain⟨v,hv,sl⟩:=p.er.sl i _ hs
             have hy:ax[i]? = some (some y):=hy
             rw[hy] at hv
             cases hv
             obtain⟨a,xs,ds',rfl,r1,r2,r3,r4⟩:=sl
             refine h3 _ H' R' p.al ⟨⟨a,xs,ds',rfl,r1,r2,r3,r4⟩,a,rfl,?_⟩
             exact(p.go.oo a ⟨i,.own,d,hs,rfl,hy⟩).elim (fun z=>absurd z vz) id
           · rename_i d hs
             cases fin
             obtain⟨v,hv,sl⟩:=p.er.sl i _ hs
             have hy:ax[i]? = some (some y):=hy
             rw[hy] at hv
             cases hv
             exact h3 _ H' R' p.al sl
           · cases fin
mutual
noncomputable def jO:D->Bool
 | .av=>true
 | .bl _=>true
 | .int _=>true
 | .str _=>true
 | .tup xs=>gM xs
 | _=>false
noncomputable def gM:List D->Bool
 | []=>true
 |d::r=>jO d && gM r
end
def gO:Rt->Bool
 | .val d=>jO d
 | .new (.lst ds)=>gM ds
 | .new _=>false
def jm:RV->Bool
 | .var _=>true
 | _=>false
mutual
theorem Rp.less(h:∀ b xs,R b=some (.tup xs)->R' b=some (.tup xs)):∀ {x:V} {d:D},Rp R x d->jO d=true->Rp R' x d
 | _,_,.av,_=>.av
 | _,_,.bl b,_=>.bl b
 | _,_,.int i,_=>.int i
 | _,_,.str x,_=>.str x
 | _,_,.lst _ _,z=>by simp[jO] at z
 | _,_,.tup e q,z=>.tup (h _ _ e) (aw.less h q (by simpa [jO] using z))
 | _,_,.iB _,z=>by simp[jO] at z
 | _,_,.bH _,z=>by simp[jO] at z
 | _,_,.iC _,z=>by simp[jO] at z
 | _,_,.exc _ _ _,z=>by simp[jO] at z
 | _,_,.obj _ _,z=>by simp[jO] at z
theorem aw.less(h:∀ b xs,R b=some (.tup xs)->R' b=some (.tup xs)):∀ {xs:List V} {ds:List D},aw R xs ds->gM ds=true->aw R' xs ds
 | _,_,.nil,_=>.nil
 | _,_,.cons a b,z=>by
   have z:=qbl.mp (show(jO _ && gM _)=true from by simpa only [gM] using z)
   exact .cons (Rp.less h a z.1) (aw.less h b z.2)
end
def ip(G:List D->Option Rt)(fs:M (List RV)):M RV:=M.bind fs fun rvs=>M.bind (cY rvs) fun ds=>match G ds with
 |some r=>if rvs.any jm && !gO r then M.bind (bV rvs) fun ds'=>M.cx ((G ds').map Rt.rv) else M.pure r.rv
 |none=>M.st
open Classical in
def lent(O:Addr->Prop)(R H:Hp):Hp:=fun b=>if O b then H b else R b
theorem vA(s:ae R H):ae (lent O R H) H:=fun b o e=>by
 unfold lent at e
 split at e
 · exact e
 · exact s b o e
theorem zG(h:∀ b,O b->R b=none):ae R (lent O R H):=fun b o e=>by
 unfold lent
 split
 · rename_i z;rw[h b z] at e;cases e
 · exact e
theorem Pks.lent(er:ER ios R H σ Γ):∀ {xs:List V} {rvs:List RV} {ds:List D},d8 R σ xs rvs->Pks R H xs ds->cY rvs Γ = .ok ds Γ->aw (lent (Ow σ Γ) R H) xs ds:=by
 have ss:ae R (Dv.lent (Ow σ Γ) R H):=zG fun b z=>(er.ow z).1
 intro xs rvs
 induction rvs generalizing xs with
 |nil=>intro ds h1 h2 _;cases h1;cases h2;exact .nil
 |cons rv r ih =>
   intro ds h1 h2 h3
   cases h1 with
   |cons a b =>
     cases h2 with
     |cons c d =>
       unfold cY M.bind at h3
       cases q:peek rv Γ with
       |ex _ _=>rw[q] at h3;cases h3
       |st=>rw[q] at h3;cases h3
       |ok d0 gI =>
         have e0:gI=Γ:=by
          cases rv with
          |val _=>cases q;rfl
          |new _=>cases q;rfl
          |var i=>unfold peek at q;dsimp only at q;split at q<;>cases q;rfl
         subst e0
         rw[q] at h3
         dsimp only at h3
         cases q2:cY r gI with
         |ex _ _=>rw[q2] at h3;cases h3
         |st=>rw[q2] at h3;cases h3
         |ok bF ag =>
           rw[q2] at h3
           cases h3
           refine .cons ?_ (ih b d q2)
           cases rv with
           |val d'=>cases q;exact Rp.sm ss a
           |new d'=>exact a.elim
           |var i =>
             unfold peek at q
             dsimp only at q
             split at q
             · rename_i kd d' hs
               cases q
               obtain⟨v,hv,sl⟩:=er.sl i _ hs
               have a:σ[i]? = some (some _):=a
               rw[a] at hv
               cases hv
               cases kd with
               |ai=>exact Rp.sm ss sl
               |own =>
                 obtain⟨ad,ys,es,rfl,r1,r2,rfl,r4⟩:=sl
                 refine .lst ?_ (r4.sm ss)
                 unfold Dv.lent
                 rw[qay ⟨i,.own,_,hs,rfl,a⟩]
                 exact r2
               |io n =>
                 obtain⟨⟨ad,ys,es,rfl,r1,r2,rfl,r4⟩,_⟩:=sl
                 refine .lst ?_ (r4.sm ss)
                 unfold Dv.lent
                 rw[qay ⟨i,.io n,_,hs,rfl,a⟩]
                 exact r2
             · cases q
theorem EY:∀ {rvs:List RV} {ds:List D},cY rvs Γ = .ok ds Γ'->Γ'=Γ:=by
 intro rvs
 induction rvs with
 |nil=>intro ds h;cases h;rfl
 |cons rv r ih =>
   intro ds h
   unfold cY M.bind at h
   cases q:peek rv Γ with
   |ex _ _=>rw[q] at h;cases h
   |st=>rw[q] at h;cases h
   |ok d0 gI =>
     have e0:gI=Γ:=by
      cases rv with
      |val _=>cases q;rfl
      |new _=>cases q;rfl
      |var i=>unfold peek at q;dsimp only at q;split at q<;>cases q;rfl
     subst e0
     rw[q] at h
     dsimp only at h
     cases q2:cY r gI with
     |ex _ _=>rw[q2] at h;cases h
     |st=>rw[q2] at h;cases h
     |ok bF ag=>rw[q2] at h;cases h;exact ih q2
theorem EZ:∀ {xs:List V} {rvs:List RV} {ds:List D},d8 R σ xs rvs->rvs.any jm=false->cY rvs Γ = .ok ds Γ->aw R xs ds:=by
 intro xs rvs
 induction rvs generalizing xs with
 |nil=>intro ds h1 _ h3;cases h1;cases h3;exact .nil
 |cons rv r ih =>
   intro ds h1 h2 h3
   rw[List.any_cons,Bool.or_eq_false_iff] at h2
   cases h1 with
   |cons a b =>
     cases rv with
     |var i=>cases h2.1
     |new d=>exact a.elim
     |val d =>
       have h3:M.bind (cY r) (fun ds=>M.pure (d::ds)) Γ = .ok ds Γ:=h3
       unfold M.bind at h3
       cases q2:cY r Γ with
       |ex _ _=>rw[q2] at h3;cases h3
       |st=>rw[q2] at h3;cases h3
       |ok bF ag =>
         have:=EY q2
         subst this
         rw[q2] at h3
         cases h3
         exact .cons a (ih b h2.2 q2)
theorem Ng:∀ {rvs:List RV},cY rvs Γ ≠ .ex x Γ':=by
 intro rvs
 induction rvs with
 |nil=>intro h;cases h
 |cons rv r ih =>
   intro h
   unfold cY M.bind at h
   cases q:peek rv Γ with
   |ex _ _ =>
     cases rv with
     |val _=>cases q
     |new _=>cases q
     |var i=>unfold peek at q;dsimp only at q;split at q<;>cases q
   |st=>rw[q] at h;cases h
   |ok d0 gI =>
     have e0:gI=Γ:=by
      cases rv with
      |val _=>cases q;rfl
      |new _=>cases q;rfl
      |var i=>unfold peek at q;dsimp only at q;split at q<;>cases q;rfl
     subst e0
     rw[q] at h
     dsimp only at h
     cases q2:cY r gI with
     |ex _ _=>exact ih (by rw[q2] at h;cases h;exact q2)
     |st=>rw[q2] at h;cases h
     |ok bF ag=>rw[q2] at h;cases h
theorem zH(w:br (cY rvs Γ) K E):∃ ds,cY rvs Γ = .ok ds Γ/\K ds Γ:=by
 cases q:cY rvs Γ with
 |ex _ _=>exact absurd q Ng
 |st=>rw[q] at w;exact False.elim w
 |ok ds Γ' =>
   have:=EY q
   subst this
   rw[q] at w
   exact⟨ds,rfl,w⟩
open Classical in
def cT(O:Addr->Prop)(R:Hp):Hp:=fun b=>if O b then none else R b
theorem Nh(hp:∀ t,PA X es t->PE X e0 (yf (aX G) [] E0 t))(ha:VA X EE ios es fs):VE X EE ios e0 (ip G fs):=by
 obtain⟨t,h1,h2⟩:=ha
 refine⟨_,hp t h1,fun σ H R Γ Q er w=>?_⟩
 unfold ip at w
 rw[Zj] at w
 refine h2 σ H R Γ _ er (aG w (fun rvs ag w xs H1 R1 p1 hx=>?_) fun _ _ z=>z)
 show aX G (xs++[]) H1 Q E0
 rw[qaX]
 rw[Zj] at w
 obtain⟨ds,q,w⟩:=zH w
 obtain⟨ds',pk,e⟩:=qw (K:=fun ds' _=>ds'=ds) (E:=fun _ _=>False) p1.er hx (by rw[q];exact rfl)
 subst e
 cases hG:G ds' with
 |none=>rw[hG] at w;exact False.elim w
 |some r =>
   rw[hG] at w
   dsimp only at w
   by_cases hv:rvs.any jm=true
   · by_cases gh:gO r=true
     · rw[hv,gh] at w
       have w:∀ x H' R',aQ ios R H σ Γ R' H' ag->dQ R' H H' σ x r.rv->Q x H':=w
       refine⟨lent (Ow σ ag) R1 H1,ds',vA p1.er.sub,Pks.lent p1.er hx pk q,?_⟩
       rw[hG]
       intro x H' R' al ra
       have ow:∀ b,Ow σ ag b->R1 b=none/\∃ xs,H1 b=some (.lst xs):=fun b z=>p1.er.ow z
       have un:∀ b, ¬ Ow σ ag b->cT (Ow σ ag) R' b=R' b:=fun b z=>by unfold cT;rw[if_neg z]
       have un':∀ b,Ow σ ag b->cT (Ow σ ag) R' b=none:=fun b z=>by unfold cT;rw[if_pos z]
       have tup:∀ b ys,R' b=some (.tup ys)->cT (Ow σ ag) R' b=some (.tup ys):=fun b ys z=>by
        rw[un b]
        · exact z
        · intro o
          obtain⟨_,zs,hz⟩:=ow b o
          have:=al.sub _ _ z
          rw[al.hh _ _ hz] at this
          cases this
       have rr:ae R1 (cT (Ow σ ag) R'):=fun b o z=>by
        have nb : ¬ Ow σ ag b:=fun q=>by rw[(ow b q).1] at z;cases z
        rw[un b nb]
        apply al.rr
        unfold lent
        rw[qaz nb]
        exact z
       have no:∀ b o,H1 b=some o->R1 b=none->cT (Ow σ ag) R' b=none:=fun b o hb rb=>by
        by_cases nb:Ow σ ag b
        · exact un' b nb
        · rw[un b nb]
          apply al.no b o hb
          unfold lent
          rw[qaz nb]
          exact rb
       have al':Al R1 H1 (cT (Ow σ ag) R') H':=⟨fun b o z=>by
        by_cases nb:Ow σ ag b
        · rw[un' b nb] at z;cases z
        · rw[un b nb] at z;exact al.sub b o z,rr,al.hh,no⟩
       refine w x H' _ (p1.al al') ?_
       cases r with
       |val d=>exact Rp.less tup ra gh
       |new d =>
         cases d with
         |lst zs =>
           obtain⟨⟨a,ys,gB,rfl,r1,r2,r3,r4⟩,a',ea,hf⟩:=ra
           cases ea
           cases r3
           refine⟨⟨a,ys,zs,rfl,?_,r2,rfl,r4.less tup gh⟩,a,rfl,p1.back er a hf⟩
           by_cases nb:Ow σ ag a
           · exact un' a nb
           · rw[un a nb];exact r1
         | _=>cases gh
     · have gh:gO r=false:=by cases z:gO r<;>simp_all
       rw[hv,gh] at w
       have w:br (M.bind (bV rvs) (fun ds'=>M.cx ((G ds').map Rt.rv)) ag) _ _:=w
       rw[Zj] at w
       obtain⟨gB,aq,R2,p2,s2,r2,w⟩:=iE er p1 hx w
       obtain⟨rv,hrv,w⟩:=ij w
       refine⟨R2,gB,p2.er.sub,r2,?_⟩
       cases kA:G gB with
       |none=>rw[kA] at hrv;cases hrv
       |some r' =>
         rw[kA] at hrv
         cases hrv
         exact fun x H' R' al ra=>w x H' R' (p2.al al) (ra.rv (p2.back er))
   · have hv:rvs.any jm=false:=by cases z:rvs.any jm<;>simp_all
     rw[hv] at w
     have w:∀ x H' R',aQ ios R H σ Γ R' H' ag->dQ R' H H' σ x r.rv->Q x H':=w
     refine⟨R1,ds',p1.er.sub,EZ hx hv q,?_⟩
     rw[hG]
     exact fun x H' R' al ra=>w x H' R' (p1.al al) (ra.rv (p1.back er))
end
section
variable{X:Cx}{EE:aT}{ios:List Addr}{e a b c iter tg elt:Expr}{es ifs:List Expr}{f g k:M RV}{fs:M (List RV)}{p:M Bool}{s s':M Fl}{st:Stmt}{sts dB:List Stmt}{pos:Pos}
abbrev GI:=List D->List D->Option (Rt×List D)
def mH(G:GI):Sp:=fun vs H Q _=>∃ R p xs bF vs' ds,vs = .ref p::vs'/\ae R H/\R p=none/\H p=some (.lst xs)/\aw R xs bF/\aw R vs' ds/\match G bF ds with
 |some (r,out)=>∀ x H' R' xs',ae R' H'->Go (· = p) R H (· = p) R' H'->H' p=some (.lst xs')->R' p=none->aw R' xs' out->jf R' H H' x r.rv->Q x H'
 |none=>False
def jP(N:List Str)(bF ds:List D):En:=some (.io 0,.lst bF)::(ds.map (fun d=>some (.ai,d))++List.replicate (N.length - (ds.length+1)) none)
def nF:Res Fl->Option (Rt×List D)
 | .ok fl Γ=>match (Γ:List Sl)[(0:Nat)]? with
   |some (some (.io 0,.lst out))=>(b7 (.ok fl Γ)).map fun r=>(r,out)
   | _=>none
 | _=>none
theorem vC{N:List Str}{bF ds:List D}{i:Nat}{t:Kd×D}(h:(jP N bF ds)[i]? = some (some t)):(i=0/\t=(.io 0,.lst bF))\/∃ j d,i=j+1/\ds[j]? = some d/\t=(.ai,d):=by
 cases i with
 |zero=>cases h;exact .inl ⟨rfl,rfl⟩
 |succ j =>
   have h:(ds.map (fun d=>some (Kd.ai,d))++List.replicate (N.length - (ds.length+1)) none)[j]? = some (some t):=h
   by_cases hj:j<ds.length
   · rw[qaH (by rw[qaK];exact hj),qaE,qae hj] at h
     cases h
     exact .inr ⟨j,_,rfl,qae hj,rfl⟩
   · rw[qaA (by rw[qaK];omega),qbi] at h
     split at h<;>cases h
theorem Ni(s:ae R H)(h0:R q=none)(h1:H q=some (.lst xs))(h2:aw R xs bF)(h:aw R vs ds):ER [q] R H (L2.start N (.ref q::vs)) (jP N bF ds) where
 sub:=s
 len:=by unfold L2.start jP;simp[h.len]
 sl:=fun i t z=>by
  rcases vC z with ⟨rfl,rfl⟩ | ⟨j,d,rfl,hd,rfl⟩
  · exact⟨.ref q,rfl,⟨q,xs,bF,rfl,h0,h1,rfl,h2⟩,q,rfl,rfl⟩
  · obtain⟨x,hx,rx⟩:=h.ta hd
    exact⟨x,zD (by simpa using hx),rx⟩
 dj:=fun i j k l d e b q1 q2 q3 q4 _ _=>by
  rcases vC q1 with ⟨rfl,z⟩ | ⟨j,d,_,_,z⟩
  · rcases vC q3 with ⟨rfl,_⟩ | ⟨j,d,_,_,z'⟩
    · rfl
    · cases z';cases q4
  · cases z;cases q2
theorem zI{N:List Str}{q:Addr}{vs:List V}{bF ds:List D}{b:Addr}:Ow (L2.start N (.ref q::vs)) (jP N bF ds) b ↔ b=q:=by
 constructor
 · rintro⟨i,k,d,q1,q2,q3⟩
   rcases vC q1 with ⟨rfl,z⟩ | ⟨j,d,_,_,z⟩
   · have:(L2.start N (.ref q::vs))[0]? = some (some (.ref q)):=rfl
     rw[this] at q3
     cases q3
     rfl
   · cases z;cases q2
 · rintro rfl
   exact⟨0,.io 0,.lst bF,rfl,rfl,rfl⟩
theorem Nj{P:Program}{w:World}{K:W.Frag}{mg:Str->Option Value}{base:Heap}{x qual:Str}{fa:Addr}{fd:FuncData}{N ps:List Str}{k:Nat}{G:GI}{bm:M Fl}(F:ix K x qual st fa fd)(S:ak N ps (aa st))
 (hb:∀ (cdv:Value) (A:Around) (outer:List Env) (s:Shared) (H:Hp) (E:XK) (q:Addr),aj k (A.deeper (PyProof.Rows.envOfC qual (aa st) s.heap.objs.size fa cdv))->cJ (fZ bZ P w K mg base N qual (aa st) fa cdv A outer s H E).k9 EN [q] (af st) bm)
 (h:∀ bF ds r,G bF ds=some r->ds.length+1=ps.length/\nF (bm (jP N bF ds))=some r):aD P w K mg base bZ (k+1) fa fd ps (mH G):=by
 refine F.ok S (fun vs H Q E q=>?_) (fun cdv A outer s H vs Q E hr q=>?_)
 · obtain⟨R,q,xs,bF,vs',ds,rfl,_,_,_,_,h2,h3⟩:=q
   cases e:G bF ds with
   |none=>rw[e] at h3;exact h3.elim
   |some r=>rw[qaD,h2.len];exact(h bF ds r e).1
 · obtain⟨R,q,xs,bF,vs',ds,rfl,s1,r0,hq,hxs,h2,h3⟩:=q
   cases e:G bF ds with
   |none=>rw[e] at h3;exact h3.elim
   |some ro =>
     obtain⟨r,out⟩:=ro
     rw[e] at h3
     obtain⟨t,b1,b2⟩:=hb cdv A outer s H E q hr
     refine⟨t,b1,b2 _ H R _ _ (Ni s1 r0 hq hxs h2) ?_⟩
     have fin:=(h bF ds _ e).2
     cases q0:bm (jP N bF ds) with
     |st=>rw[q0] at fin;cases fin
     |ex _ _=>rw[q0] at fin;cases fin
     |ok fl Γ' =>
       rw[q0] at fin
       refine lF fun ax H' R' pp=>?_
       unfold nF at fin
       dsimp only at fin
       split at fin
       · rename_i out' hs0
         obtain⟨v0,hv0,⟨a0,xs',ds',e0,r1,r2,r3,r4⟩,a1,i1,i2⟩:=pp.er.sl 0 _ hs0
         cases i1
         rw[i2] at e0
         cases e0
         cases r3
         rw[i2] at hv0
         have go:Go (· = q) R H (· = q) R' H':=⟨pp.go.rr,fun b o z n=>pp.go.hh b o z fun y=>n (zI.mp y),fun b o z n r=>pp.go.no b o z (fun y=>n (zI.mp y)) r,fun b z=>.inl z,pp.go.th⟩
         have fin':∀ {r'},b7 (.ok fl Γ')=some r'->r'=r/\out'=out:=fun z=>by rw[z] at fin;cases fin;exact⟨rfl,rfl⟩
         have use:∀ y r',b7 (.ok fl Γ')=some r'->jf R' H H' y r'.rv->Q y H':=fun y r' z ra=>by
          obtain⟨rfl,rfl⟩:=fin' z
          exact h3 y H' R' xs' pp.er.sub go r2 r1 r4 ra
         cases fl with
         |brk=>cases fin
         |cont=>cases fin
         |nx=>exact use .av _ rfl .av
         |ret rv =>
           intro y hy
           cases rv with
           |val d=>exact use y _ rfl hy
           |new d=>exact use y _ rfl hy
           |var i =>
             have hy:ax[i]? = some (some y):=hy
             cases hsi:Γ'[i]? with
             | none => have : b7 (.ok (.ret (.var i)) Γ') = none := by show (match Γ'[i]? with | some (some (.own, d)) => some (Rt.new d) | some (some (.ai, d)) => some (.val d) | _ => none) = none; rw [hsi]
                       rw[this] at fin;cases fin
             |some o =>
               cases o with
               | none => have : b7 (.ok (.ret (.var i)) Γ') = none := by show (match Γ'[i]? with | some (some (.own, d)) => some (Rt.new d) | some (some (.ai, d)) => some (.val d) | _ => none) = none; rw [hsi]
                         rw[this] at fin;cases fin
               |some sd =>
                 obtain⟨kd,d⟩:=sd
                 obtain⟨v,hv,sl⟩:=pp.er.sl i _ hsi
                 rw[hy] at hv
                 cases hv
                 cases kd with
                 | io n => have : b7 (.ok (.ret (.var i)) Γ') = none := by show (match Γ'[i]? with | some (some (.own, d)) => some (Rt.new d) | some (some (.ai, d)) => some (.val d) | _ => none) = none; rw [hsi]
                           rw[this] at fin;cases fin
                 |ai=>exact use y (.val d) (by show(match Γ'[i]? with | some (some (.own,d))=>some (Rt.new d) | some (some (.ai,d))=>some (.val d) | _=>none)=_;rw[hsi]) sl
                 |own =>
                   obtain⟨a,ys,gB,rfl,t1,t2,t3,t4⟩:=sl
                   refine use _ (.new d) (by show(match Γ'[i]? with | some (some (.own,d))=>some (Rt.new d) | some (some (.ai,d))=>some (.val d) | _=>none)=_;rw[hsi]) ⟨⟨a,ys,gB,rfl,t1,t2,t3,t4⟩,a,rfl,?_⟩
                   rcases pp.go.oo a ⟨i,.own,d,hsi,rfl,hy⟩ with z | z
                   · have:=zI.mp z
                     subst this
                     have:=pp.er.dj i 0 .own (.io 0) d _ a hsi rfl hs0 rfl hy hv0
                     subst this
                     rw[hs0] at hsi
                     cases hsi
                   · exact z
       · cases fin
def vD(i:Nat)(G:GI)(ds:List D):M RV:=fun Γ=>match Γ[i]? with
 |some (some (kd,.lst bF))=>if owned kd then match G bF ds with
   |some (r,out)=>.ok r.rv (Γ.set i (some (kd,.lst out)))
   |none=>.st else .st
 | _=>.st
def jn(G:GI)(fs:M (List RV)):M RV:=M.bind fs fun rvs=>match rvs with
 | .var i::r=>M.bind (bV r) fun ds=>vD i G ds
 | _=>M.st
theorem Nk(hp:∀ t,PA X es t->PE X e0 (yf (mH G) [] E0 t))(ha:VA X EE ios es fs):VE X EE ios e0 (jn G fs):=by
 obtain⟨t,h1,h2⟩:=ha
 refine⟨_,hp t h1,fun σ H R Γ Q er w=>?_⟩
 unfold jn at w
 rw[Zj] at w
 refine h2 σ H R Γ _ er (aG w (fun rvs ag w xs H1 R1 p1 hx=>?_) fun _ _ z=>z)
 show mH G (xs++[]) H1 Q E0
 rw[qaX]
 split at w
 · rename_i i r
   cases hx with
   |cons hx hr =>
     rw[Zj] at w
     obtain⟨ds,aq,R2,p2,s2,r2,w⟩:=iE er p1 hr w
     unfold vD at w
     split at w
     · rename_i kd bF hi
       split at w
       · rename_i ho
         cases hG:G bF ds with
         |none=>rw[hG] at w;exact False.elim w
         |some ro =>
           obtain⟨rt,out⟩:=ro
           rw[hG] at w
           dsimp only at w
           have w:=nE w
           have hx:σ[i]? = some (some _):=hx
           have hlt:i<aq.length:=(qad.mp hi).1
           obtain⟨q,ys,rfl,h2,h3,_⟩:=p2.er.mut (ds':=bF) hi ho hx
           have hr0:R2 q=none:=(p2.er.ow ⟨i,kd,_,hi,ho,hx⟩).1
           refine⟨R2,q,ys,bF,_,ds,rfl,p2.er.sub,hr0,h2,h3,r2,?_⟩
           rw[hG]
           intro x H' R' xs' sub go g1 g2 g3 ra
           have inj:∀ (j:Nat) (l:Kd) (z:D),aq[j]? = some (some (l,z))->owned l=true->σ[j]? = some (some (.ref q))->j=i:=fun j l z q1 q2 q3=>(p2.er.dj i j kd l _ z q hi ho q1 q2 hx q3).symm
           have sN:∀ b,Ow σ (aq.set i (some (kd,.lst out))) b->Ow σ aq b:=by
            rintro b ⟨j,l,z,q1,q2,q3⟩
            by_cases hj:j=i
            · subst hj
              rw[qak hlt] at q1
              cases q1
              exact⟨j,kd,_,hi,ho,q3⟩
            · rw[qai (qaT hj)] at q1
              exact⟨j,l,z,q1,q2,q3⟩
           have qo:Ow σ aq q:=⟨i,kd,_,hi,ho,hx⟩
           have o8:ER ios R' H' σ (aq.set i (some (kd,.lst out))):=by
            refine⟨sub,by rw[qbc];exact p2.er.len,fun j t hj=>?_,fun j j' l l' z z' b q1 q2 q3 q4 q5 q6=>?_⟩
            · by_cases hji:j=i
              · subst hji
                rw[qak hlt] at hj
                cases hj
                obtain⟨v,hv,sl⟩:=p2.er.sl j _ hi
                rw[hx] at hv
                cases hv
                have z:OwR R' H' (.ref q) (.lst out):=⟨q,xs',out,rfl,g2,g1,rfl,g3⟩
                refine⟨_,hx,?_⟩
                cases kd with
                |ai=>cases ho
                |own=>exact z
                |io n=>exact⟨z,sl.2⟩
              · rw[qai (qaT hji)] at hj
                obtain⟨v,hv,sl⟩:=p2.er.sl j t hj
                refine⟨v,hv,sl.mono go.rr fun ho' b zs eb hb rb=>?_⟩
                subst eb
                have nb : ¬ b=q:=by rintro rfl;exact hji (inj j t.1 t.2 hj ho' hv)
                exact⟨go.hh b _ hb nb,go.no b _ hb nb rb⟩
            · have g:∀ {j:Nat} {l:Kd} {z:D},(aq.set i (some (kd,.lst out)))[j]? = some (some (l,z))->∃ z',aq[j]? = some (some (l,z')):=by
               intro j l z y
               by_cases hji:j=i
               · subst hji;rw[qak hlt] at y;cases y;exact⟨_,hi⟩
               · rw[qai (qaT hji)] at y;exact⟨z,y⟩
              obtain⟨z1,y1⟩:=g q1
              obtain⟨z2,y2⟩:=g q3
              exact p2.er.dj j j' l l' z1 z2 b y1 q2 y2 q4 q5 q6
           have p3:aQ ios R2 H1 σ aq R' H' (aq.set i (some (kd,.lst out))):=⟨o8,⟨go.rr,fun b o hb nb=>go.hh b o hb (fun z=>nb (by rw[z];exact qo)),fun b o hb nb rb=>go.no b o hb (fun z=>nb (by rw[z];exact qo)) rb,fun b z=>.inl (sN b z),go.th⟩,sN⟩
           exact w x H' R' (p2.trans p3) (ra.rv (p2.back er))
       · exact False.elim w
     · exact False.elim w
 · exact False.elim w
end
def At(mg:Str->Option Value)(x:Str)(st:Stmt):Prop:=∃ f fd,ix KC.K x x st f fd/\mg x=some (.ref f)/\W.keepIn KC.K (.ref f)=true
def eW(P:Program)(w:World)(mg:Str->Option Value)(base:Heap)(x:Str)(k:Nat)(ps:List Str)(sp:Sp):Prop:=∃ f fd,aD P w KC.K mg base bZ k f fd ps sp/\mg x=some (.ref f)/\W.keepIn KC.K (.ref f)=true/\Binds KC.K fd ps []
section
variable{X:Cx}{EE:aT}{ios:List Addr}{e:Expr}{es:List Expr}{fs:M (List RV)}{x:Str}{k:Nat}{ps:List Str}{p pos:Pos}{st:Stmt}
theorem mI(C:eW X.prog X.w X.mg X.base x k ps (aX G))(hr:aj k X.A)(hg:Gl X x)(ha:VA X EE ios (e::es) fs)(hK:X.K=KC.K:=by rfl)(hdb:(x == ("__debug__" : Str))=false:=by decide)
 (he:starEach (e::es) X.env=(false,eval e X.env)::starEach es X.env:=by rfl) (hpl:(backTo pos (starEach es X.env)).any (·.1)=false:=by rfl):VE X EE ios (.Call (.Name x p) (e::es) [] pos) (ip G fs):=by
 obtain⟨f,fd,F,hm,hk,hb⟩:=C
 rw[<- hK] at F hk hb
 exact Nh (fun t h=>Dk F hr hg hm hk hb .nil yr h hdb he hpl) ha
theorem sZ(C:eW X.prog X.w X.mg X.base x k ps (mH G))(hr:aj k X.A)(hg:Gl X x)(ha:VA X EE ios (e::es) fs)(hK:X.K=KC.K:=by rfl)(hdb:(x == ("__debug__" : Str))=false:=by decide)
 (he:starEach (e::es) X.env=(false,eval e X.env)::starEach es X.env:=by rfl) (hpl:(backTo pos (starEach es X.env)).any (·.1)=false:=by rfl):VE X EE ios (.Call (.Name x p) (e::es) [] pos) (jn G fs):=by
 obtain⟨f,fd,F,hm,hk,hb⟩:=C
 rw[<- hK] at F hk hb
 exact Nk (fun t h=>Dk F hr hg hm hk hb .nil yr h hdb he hpl) ha
theorem pj(A0:At mg x st)(S:ak N ps (aa st))
 (bd:∀ (kV doc pm:Value) (an:Option Addr) (cdv ct:Value) (us:List Value),us.length=ps.length->bindArgs (W.fnOf x x (aP st) (af st) (aa st) .none kV doc pm an cdv ct) ⟨us,[]⟩=pure (ps.zip us))
 (hb:∀ (fa:Addr) (cdv:Value) (A:Around) (outer:List Env) (s:Shared) (H:Hp) (E:XK),aj k (A.deeper (PyProof.Rows.envOfC x (aa st) s.heap.objs.size fa cdv))->cJ (fZ bZ P w KC.K mg base N x (aa st) fa cdv A outer s H E).k9 EN [] (af st) bm)
 (h:∀ ds r,G ds=some r->ds.length=ps.length/\b7 (bm (gam N ds))=some r):eW P w mg base x (k+1) ps (aX G) :=
 let ⟨f,fd,F,hm,hk⟩:=A0
 ⟨f,fd,zF F S (hb f) h,hm,hk,F.binds bd⟩
theorem E2(A0:At mg x st)(S:ak N ps (aa st))
 (bd:∀ (kV doc pm:Value) (an:Option Addr) (cdv ct:Value) (us:List Value),us.length=ps.length->bindArgs (W.fnOf x x (aP st) (af st) (aa st) .none kV doc pm an cdv ct) ⟨us,[]⟩=pure (ps.zip us))
 (hb:∀ (fa:Addr) (cdv:Value) (A:Around) (outer:List Env) (s:Shared) (H:Hp) (E:XK) (q:Addr),aj k (A.deeper (PyProof.Rows.envOfC x (aa st) s.heap.objs.size fa cdv))->cJ (fZ bZ P w KC.K mg base N x (aa st) fa cdv A outer s H E).k9 EN [q] (af st) bm)
 (h:∀ bF ds r,G bF ds=some r->ds.length+1=ps.length/\nF (bm (jP N bF ds))=some r):eW P w mg base x (k+1) ps (mH G) :=
 let ⟨f,fd,F,hm,hk⟩:=A0
 ⟨f,fd,Nj F S (hb f) h,hm,hk,F.binds bd⟩
theorem Nl:PE X (.UnaryOp .USub (.Constant (.int i) j p1) p2) (tC (.int (-i))):=fun pins s σ H Q I h=>J_ Ke CH pins s σ H Q I ⟨i,rfl,h⟩
noncomputable def E3(sc scope:Scope)(N Nc:List Str)(own:Nat)(fr:List Nat):Bool :=
 decide (Nc.length=own+fr.length) && decide (scope.kind = .function) && scope.names.all (fun y=>decide (y.2 ≠ .cell)) && scope.names.all (fun y=>decide (y.2 = .local->scope.names.lookup y.1=some .local)) &&
 scope.names.all (fun y=>decide (y.2 = .free->sc.names.lookup y.1=some .cell\/sc.names.lookup y.1=some .free)) &&
 (List.range fr.length).all fun k=>match fr[k]?,Nc[own+k]? with
  |some j,some x=>decide (N[j]? = some x) && decide (sc.names.lookup x=some .cell\/sc.names.lookup x=some .free) && decide (scope.names.lookup x=some .free)
  | _,_=>true
omit [KC] in
theorem nG{X:Cx}(hs:X.env.scope=sc)(hN:X.N=N)(h:E3 sc scope N Nc own fr=true):eU X scope Nc own fr:=by
 subst hs hN
 unfold E3 at h
 simp only[Bool.and_eq_true,decide_eq_true_eq,List.all_eq_true] at h
 obtain⟨⟨⟨⟨⟨h1,h2⟩,h3⟩,h4⟩,h5⟩,h6⟩:=h
 refine⟨h1,fun k j x e1 e2=>?_,h2,h3,h4,fun x hx=>h5 _ hx rfl⟩
 have hk:k<fr.length:=(qad.mp e1).1
 have z:=h6 k (List.mem_range.mpr hk)
 rw[e1,e2] at z
 simp only[Bool.and_eq_true,decide_eq_true_eq] at z
 exact⟨z.1.1,z.1.2,z.2⟩
end
section
variable{X:Cx}{EE:aT}{ios:List Addr}{e a b c:Expr}{f g k:M RV}{pos p:Pos}{x:Str}{ps:List Str}{kk:Nat}
theorem E4:eV EE ios (EW EE ios f) f:=fun σ H R Γ Q er w=>⟨R,Γ,er,w⟩
theorem zJ(h:∃ t,X.mg x=some (.int i t))(hg:Gl X x)(hd:(x == ("__debug__" : Str))=false:=by decide):VE X EE ios (.Name x pos) (M.pure (.val (.int i))) :=
 let ⟨t,h⟩:=h;su (xQ (v:=.int i) hg h ⟨t,rfl⟩ hd) fun _=>.int i
end
def dC(n:Nat)(N:List Str)(bm:M Fl):List D->Option Rt:=fun ds=>if ds.length=n then b7 (bm (gam N ds)) else none
def pq(n:Nat)(N:List Str)(bm:M Fl):GI:=fun bF ds=>if ds.length+1=n then nF (bm (jP N bF ds)) else none
theorem jQ(h:dC n N bm ds=some r):ds.length=n/\b7 (bm (gam N ds))=some r:=by
 unfold dC at h
 split at h
 · rename_i q;exact⟨q,h⟩
 · cases h
theorem E5(h:pq n N bm bF ds=some r):ds.length+1=n/\nF (bm (jP N bF ds))=some r:=by
 unfold pq at h
 split at h
 · rename_i q;exact⟨q,h⟩
 · cases h
end Dv
namespace Dv
open PySem L2 Ex
section
variable{α β:Type}{Γ Γ':En}{f g k:M RV}{fs:M (List RV)}{p q:M Bool}{s s':M Fl}{d:D}{i:Nat}
@[simp] theorem zK:M.pure a Γ = .ok a Γ:=(rfl)
@[simp] theorem Nn{f:M α}{g:α->M β}:M.bind f g Γ=match f Γ with
 | .ok a Γ'=>g a Γ'
 | .ex x Γ'=>.ex x Γ'
 | .st=>.st:=(rfl)
@[simp] theorem zL:M.cx (some a) Γ = .ok a Γ:=(rfl)
@[simp] theorem zM:ZS i Γ=match Γ[i]? with
 |some (some (.ai,d))=>.ok (.val d) Γ
 |some (some _)=>.ok (.var i) Γ
 | _=>.st:=(rfl)
@[simp] theorem vE:peek (.val d) Γ = .ok d Γ:=(rfl)
@[simp] theorem vF:peek (.new d) Γ = .ok d Γ:=(rfl)
@[simp] theorem vG:peek (.var i) Γ=match Γ[i]? with
 |some (some (_,d))=>.ok d Γ
 | _=>.st:=(rfl)
@[simp] theorem zN:mat (.val d) Γ = .ok d Γ:=(rfl)
@[simp] theorem zP:mat (.new d) Γ = .ok d Γ:=(rfl)
@[simp] theorem zQ:mat (.var i) Γ=match Γ[i]? with
 |some (some (_,d))=>.ok d (Γ.set i (some (.ai,d)))
 | _=>.st:=(rfl)
@[simp] theorem E6:op2 o f g Γ=M.bind f (fun x=>M.bind g fun y=>M.bind (peek x) fun d=>M.bind (peek y) fun e=>M.cx (o d e)) Γ:=(rfl)
@[simp] theorem E7:sx o o' f g k Γ=M.bind f (fun x=>M.bind g fun y=>M.bind (peek x) fun d=>M.bind (peek y) fun e=>M.bind (M.bind (M.cx (o d e)) aY) fun q =>
 if q then M.bind k fun z=>M.bind (peek y) fun e'=>M.bind (peek z) fun u=>M.cx (o' e' u) else M.pure (.val (.bl false))) Γ:=(rfl)
@[simp] theorem E8:aY (.val (.bl b)) Γ = .ok b Γ:=(rfl)
@[simp] theorem Np:jL p Γ=M.bind p (fun b=>M.pure (!b)) Γ:=(rfl)
@[simp] theorem E9:andM p q Γ=M.bind p (fun b=>if b then q else M.pure false) Γ:=(rfl)
@[simp] theorem Nq:orM p q Γ=M.bind p (fun b=>if b then M.pure true else q) Γ:=(rfl)
@[simp] theorem zR:vd p Γ=M.bind p (fun b=>M.pure (.val (.bl b))) Γ:=(rfl)
@[simp] theorem zS:iS f g Γ=M.bind (M.bind f aY) (fun b=>if b then g else M.pure (.val (.bl false))) Γ:=(rfl)
@[simp] theorem E_:jM f Γ=match f Γ with
 | .ok (.var i) Γ'=>.ok (.var i) Γ'
 | .ok (.val d) Γ'=>.ok (.val d) Γ'
 | .ok (.new d) Γ'=>.ok (.val d) Γ'
 | .ex x Γ'=>.ex x Γ'
 | .st=>.st:=by
 unfold jM M.bind
 cases f Γ with
 |ok rv Γ'=>cases rv<;>rfl
 |ex _ _=>rfl
 |st=>rfl
@[simp] theorem zT:ah f fs Γ=M.bind (jM f) (fun x=>M.bind fs fun xs=>M.pure (x::xs)) Γ:=(rfl)
@[simp] theorem zU:bV [] Γ = .ok [] Γ:=(rfl)
@[simp] theorem zV:bV (rv::r) Γ=M.bind (mat rv) (fun d=>M.bind (bV r) fun ds=>M.pure (d::ds)) Γ:=(rfl)
@[simp] theorem vH:cY [] Γ = .ok [] Γ:=(rfl)
@[simp] theorem vJ:cY (rv::r) Γ=M.bind (peek rv) (fun d=>M.bind (cY r) fun ds=>M.pure (d::ds)) Γ:=(rfl)
@[simp] theorem Fb:aO fs Γ=M.bind fs (fun rvs=>M.bind (bV rvs) fun ds=>if ds.length<=sizeLine then M.pure (.new (.lst ds)) else M.st) Γ:=(rfl)
@[simp] theorem Fc:kh fs Γ=M.bind fs (fun rvs=>M.bind (bV rvs) fun ds=>if ds.length<=sizeLine then M.pure (.val (.tup ds)) else M.st) Γ:=(rfl)
@[simp] theorem Fd{g:List D->Option RV}:bB g fs Γ=M.bind fs (fun rvs=>M.bind (cY rvs) fun ds=>M.cx (g ds)) Γ:=(rfl)
@[simp] theorem Fe:oW T f Γ=M.bind (jM f) (fun x=>M.bind (peek x) fun d=>M.cx (vp T d)) Γ:=(rfl)
@[simp] theorem Ff:mv o f lo hi Γ=M.bind f (fun x=>M.bind lo fun l=>M.bind hi fun u=>M.bind (peek x) fun d=>M.cx (o d l u)) Γ:=(rfl)
@[simp] theorem Fg:sL (.val (.int n)) Γ = .ok (some n) Γ:=(rfl)
@[simp] theorem Fh:oX i m fs Γ=M.bind (recv i) (fun _=>M.bind fs fun rvs=>M.bind (bV rvs) fun es=>sO i m es) Γ:=(rfl)
@[simp] theorem zW:recv i Γ=match Γ[i]? with
 |some (some (kd,.lst _))=>if owned kd then .ok () Γ else .st
 | _=>.st:=(rfl)
@[simp] theorem vL:sO i m es Γ=match Γ[i]? with
 |some (some (kd,.lst ds))=>if owned kd then match m ds es with
   |some (ds',res)=>.ok (.val res) (Γ.set i (some (kd,.lst ds')))
   |none=>.st else .st
 | _=>.st:=(rfl)
@[simp] theorem Fi:owned .own=true:=(rfl)
@[simp] theorem Nr:owned (.io n)=true:=(rfl)
@[simp] theorem zX:aU s s' Γ=match s Γ with
 | .ok .nx Γ'=>s' Γ'
 | .ok fl Γ'=>.ok fl Γ'
 | .ex x Γ'=>.ex x Γ'
 | .st=>.st:=by
 unfold aU M.bind
 cases s Γ with
 |ok fl Γ'=>cases fl<;>rfl
 |ex _ _=>rfl
 |st=>rfl
@[simp] theorem zY:kn f Γ=M.bind f (fun _=>M.pure .nx) Γ:=(rfl)
@[simp] theorem Fj:bN f Γ=M.bind f (fun rv=>M.pure (.ret rv)) Γ:=(rfl)
@[simp] theorem Nt:cp p s s' Γ=M.bind p (fun b=>if b then s else s') Γ:=(rfl)
@[simp] theorem Fm:cL i f Γ=match f Γ with
 | .ok (.new d) Γ'=>.ok .nx (Γ'.set i (some (.own,d)))
 | .ok (.val d) Γ'=>.ok .nx (Γ'.set i (some (.ai,d)))
 | .ok (.var j) Γ'=>M.bind (mat (.var j)) (fun d=>M.bind (sP i (.ai,d)) fun _=>M.pure .nx) Γ'
 | .ex x Γ'=>.ex x Γ'
 | .st=>.st:=by
 unfold cL M.bind
 cases f Γ with
 |ok rv Γ' =>
   cases rv with
   |var j=>dsimp only[M.bind];cases mat (.var j) Γ'<;>rfl
   | _=>rfl
 |ex _ _=>rfl
 |st=>rfl
@[simp] theorem zZ:qC m f Γ=M.bind f (fun rv=>M.bind (mat rv) fun d=>M.bind (lD (m d)) fun _=>M.pure .nx) Γ:=(rfl)
@[simp] theorem Nu:lD m Γ=match m Γ with
 | .ok a Γ'=>.ok a Γ'
 | _=>.st:=(rfl)
@[simp] theorem Nv:gN i d Γ = .ok () (Γ.set i (some (.ai,d))):=(rfl)
@[simp] theorem Fn:eK [] Γ = .ok () Γ:=(rfl)
@[simp] theorem Fo:bJ m ms (d::r) Γ=M.bind (m d) (fun _=>ms r) Γ:=(rfl)
@[simp] theorem Nw:gT n ms (.tup ds) Γ=(if ds.length=n then ms ds else M.st) Γ:=(rfl)
@[simp] theorem Nx:gS i fi d Γ=M.bind (recv i) (fun _=>M.bind fi fun ri=>M.bind (peek ri) fun di=>setAt i d di) Γ:=(rfl)
@[simp] theorem vM:setAt i d (.int n) Γ=match Γ[i]? with
 |some (some (kd,.lst ds))=>if owned kd then match iw ds.length n with
   |some k=>.ok () (Γ.set i (some (kd,.lst (ds.set k d))))
   |none=>.st else .st
 | _=>.st:=by
 unfold setAt
 cases Γ[i]? with
 |none=>rfl
 |some o=>cases o with
   |none=>rfl
   |some t=>obtain⟨kd,d⟩:=t;cases d<;>rfl
@[simp] theorem Ny:forM items m s Γ=M.bind items (fun ds=>gK m s ds) Γ:=(rfl)
@[simp] theorem Nz:gK m s [] Γ = .ok .nx Γ:=(rfl)
theorem Fp:gK m s (d::r) Γ=match lD (m d) Γ with
 | .ok _ ag=>match s ag with
   | .ok .nx aq=>gK m s r aq
   | .ok .cont aq=>gK m s r aq
   | .ok .brk aq=>.ok .nx aq
   | .ok (.ret rv) aq=>.ok (.ret rv) aq
   | .ex x aq=>.ex x aq
   | .st=>.st
 | .ex x ag=>.ex x ag
 | .st=>.st:=by
 show o7 m s (gK m s r) d Γ=_
 unfold o7 M.bind
 cases lD (m d) Γ with
 |ok a ag =>
   dsimp only
   cases s ag with
   |ok fl aq=>cases fl<;>rfl
   |ex _ _=>rfl
   |st=>rfl
 |ex _ _=>rfl
 |st=>rfl
@[simp] theorem z_:jk f Γ=M.bind f (fun rv=>M.bind (mat rv) fun d=>match d with
 | .lst ds=>M.pure ds
 | .bH ns=>M.pure (ns.map D.int)
 | _=>M.st) Γ:=(rfl)
@[simp] theorem Aa:tupI f Γ=M.bind f (fun rv=>M.bind (mat rv) fun d=>match d with
 | .tup ds=>M.pure ds
 | _=>M.st) Γ:=(rfl)
@[simp] theorem Ab:sR fs Γ=M.bind fs (fun rvs=>M.bind (bV rvs) fun ds=>match ds with
 | [.lst ds]=>M.pure (mz ds)
 | _=>M.st) Γ:=(rfl)
@[simp] theorem Ac:o6 fs Γ=M.bind fs (fun rvs=>match rvs with
 | [.val (.int j)]=>if small j then M.pure (iF 0 j.toNat) else M.st
 | _=>M.st) Γ:=(rfl)
@[simp] theorem vN:ip G fs Γ=M.bind fs (fun rvs=>M.bind (cY rvs) fun ds=>match G ds with
 |some r=>if rvs.any jm && !gO r then M.bind (bV rvs) fun ds'=>M.cx ((G ds').map Rt.rv) else M.pure r.rv
 |none=>M.st) Γ:=(rfl)
@[simp] theorem vO:jn G fs Γ=M.bind fs (fun rvs=>match rvs with
 | .var i::r=>M.bind (bV r) fun ds=>vD i G ds
 | _=>M.st) Γ:=(rfl)
@[simp] theorem Fq:vD i G ds Γ=match Γ[i]? with
 |some (some (kd,.lst bF))=>if owned kd then match G bF ds with
   |some (r,out)=>.ok r.rv (Γ.set i (some (kd,.lst out)))
   |none=>.st else .st
 | _=>.st:=(rfl)
@[simp] theorem Fs:(Rt.val d).rv = .val d:=(rfl)
@[simp] theorem Ft:(Rt.new d).rv = .new d:=(rfl)
@[simp] theorem Fu:jm (.val d)=false:=(rfl)
@[simp] theorem Ad:jm (.var i)=true:=(rfl)
end
@[simp] theorem s_(h:0<j):mh (.int i) (.int j)=some (.val (.int (i % j))):=by
 show(if cd (0<j)=true then _ else _)=_
 rw[qay (dz h)]
@[simp] theorem qJ(h:0<j)(h':j<1073741824):vh (.int i) (.int j)=some (.val (.int (i / j))):=by
 show(if cd (0<j/\j<1073741824)=true then _ else _)=_
 rw[qay (dz ⟨h,h'⟩)]
@[irreducible] def vP:Int:=1000000000000000000
theorem Fv:zf (.int 10) (.int 18)=some (.val (.int vP)):=by
 show(if cd ((0:Int)<=18/\(18:Int)<=1000000/\(10:Int).natAbs<2 ^ 64)=true then some (RV.val (.int (10 ^ (18:Int).toNat))) else none)=_
 rw[qay (dz (by decide))]
 have:(10:Int) ^ (18:Int).toNat=vP:=by unfold vP;decide +kernel
 rw[this]
@[simp] theorem Fw:qv g (.int i) (.int j)=some (.val (g i j)):=(rfl)
@[simp] theorem Ae:eJ (.int i) (.int j)=some (.val (.int (i+j))):=(rfl)
@[simp] theorem NA{xs ys:List D}(h:xs.length+ys.length<=sizeLine):eJ (.lst xs) (.lst ys)=some (.new (.lst (xs++ys))):=by
 show(if _ then _ else _)=_
 rw[qay h]
@[simp] theorem Fx(h:oU i j=true):ly (.int i) (.int j)=some (.val (.int (i * j))):=by
 show(if _ then _ else _)=_
 rw[qay h]
@[simp] theorem NB:vi d .av=some (.val (.bl (isNone d))):=(rfl)
@[simp] theorem Af:gf [.lst xs]=some (.val (.int xs.length)):=(rfl)
@[simp] theorem Ag:gf [.tup xs]=some (.val (.int xs.length)):=(rfl)
@[simp] theorem Ah:gf [.bH xs]=some (.val (.int xs.length)):=(rfl)
@[simp] theorem Fy:gA (.lst xs) (.int i)=(L2.cw xs i).map .val:=(rfl)
@[simp] theorem Fz:gA (.tup xs) (.int i)=(L2.cw xs i).map .val:=(rfl)
@[simp] theorem FA:gA (.bH xs) (.int i)=(L2.cw xs i).map fun n=>.val (.int n):=(rfl)
@[simp] theorem FC:sH [.int i,.int j]=some (.val (.int (if j > i then j else i))):=(rfl)
@[simp] theorem FD:sI [.int i,.int j]=some (.val (.int (if j<i then j else i))):=(rfl)
@[simp] theorem Ai:vp T (.tup xs)=some (.val (.bl (jj T (.tup xs)))):=(rfl)
@[simp] theorem Aj:vp T (.int i)=some (.val (.bl (jj T (.int i)))):=(rfl)
@[simp] theorem Ak(h : -4611686018427387904<=j/\j<4611686018427387904):small j=true:=dz (by omega)
theorem pB(h : -18446744073709551616<i/\i<18446744073709551616):oU i j=true:=dz (.inl (by omega))
theorem FE(I:Nat->En->Prop)(h0:I 0 Γ)
 (step:∀ (i:Nat) (d:D) (Γ:En),ds[i]? = some d->I i Γ->∃ ag aq,m d Γ = .ok () ag/\(s ag = .ok .nx aq\/s ag = .ok .cont aq)/\I (i+1) aq):∃ Γ',gK m s ds Γ = .ok .nx Γ'/\I ds.length Γ':=by
 induction ds generalizing Γ I with
 |nil=>exact⟨Γ,rfl,h0⟩
 |cons d r ih =>
   obtain⟨ag,aq,h1,h2,h3⟩:=step 0 d Γ rfl h0
   obtain⟨Γ',h4,h5⟩:=ih (fun i=>I (i+1)) h3 fun i d Γ hd hi=>step (i+1) d Γ (by simpa using hd) hi
   refine⟨Γ',?_,h5⟩
   rw[Fp,Nu,h1]
   rcases h2 with h2 | h2<;>simp only[h2]<;>exact h4
end Dv
namespace Dv
open PySem L2 Ex
variable[KC]
def pC(d e:D):Option RV:=match d,e with
 | .lst xs,.int k=>if cd (-(2 ^ 63)<=k/\k<2 ^ 63/\xs.length * k.toNat<=sizeLine) then some (.new (.lst (List.replicate k.toNat xs).flatten)) else none
 | _,_=>none
theorem aw.rep(h:aw R xs ds):∀ k:Nat,aw R (List.replicate k xs).flatten (List.replicate k ds).flatten
 | 0=>.nil
 |k+1=>by
   rw[qbq,qbq,List.flatten_cons,List.flatten_cons]
   exact h.app (aw.rep h k)
theorem FG:cI DI pC:=by
 intro R H x y d e rv Q s px py hg q
 unfold pC at hg
 split at hg
 · split at hg
   · rename_i c
     cases hg
     obtain⟨c1,c2,c3⟩:=dR c
     obtain⟨a,xs,rfl,h1,h2⟩:=px.lst s
     refine⟨a,_,xs,rfl,py.int,h1,c1,c2,by rw[h2.len];exact c3,fun p hp=>?_⟩
     obtain⟨al,rv⟩:=lu s hp (h2.rep _)
     exact q _ _ _ al rv
   · cases hg
 · cases hg
end Dv
namespace L2
open PySem PySem.Spec PyProof.Rows Ex
section
variable{X:Cx}
theorem NC(ok:bY P w H h)(e:H b=some (.dK [])):Reads h (.ref b) (.dict []) [b]/\b≠sysModules:=by
 obtain⟨_,ns,vs,kv,o,es,ep,g,ex,dt,_,pr,_⟩:=ok _ _ e
 cases kv
 have z:es.toList=[]:=by
  cases q:es.toList with
  |nil=>rfl
  |cons a r=>rw[q] at pr;cases pr
 refine⟨?_,fun z=>by rw[z] at ns;exact absurd ns (by decide)⟩
 have R:Reads h (.ref b) (.dict []) (b::[]++[]):=.dict g ex.1 dt (by rw[z];exact .nil) (by rw[z];exact .nil)
 exact R
theorem gP:aB X (.builtin "repr") (fun xs H Q=>∃ i:Int,xs=[.int i]/\i.natAbs.log2<1920/\Q (.str (toString i)) H):=by
 intro pins s σ H xs us Q I r h
 obtain⟨i,rfl,hi,q⟩:=h
 obtain⟨u,rfl,ru⟩:=r.one
 obtain⟨t,rfl⟩:=ru
 exact PySem.P.repr_of_int hi ⟨.str (toString i),H,I.kept (fun _ _ e=>e),⟨_,rfl⟩,q⟩
end
end L2
namespace Dv
open PySem L2 Ex
section
variable{Γ Γ':En}{f g k l:M RV}{fs:M (List RV)}{p q:M Bool}{d:D}{i j:Nat}{m:D->M Unit}{fr:List Nat}{own:Nat}
@[simp] theorem Am:iG items fr own m p f Γ=M.bind items (fun ds=>if ds.length<sizeLine then M.bind (cS fr own m p f ds) fun ys=>M.pure (.new (.lst ys)) else M.st) Γ:=(rfl)
@[simp] theorem FH:jN m p f d Γ=M.bind (lD (m d)) (fun _=>M.bind p fun b=>if b then M.bind f fun rv=>M.bind (mat rv) fun y=>M.pure (some y) else M.pure none) Γ:=(rfl)
theorem An(F:D->Option D):∀ (ds:List D),(∀ d∈ds,∃ bQ,jN m p f d (bK fr own Γ) = .ok (F d) bQ/\aC fr own Γ bQ=Γ)->cS fr own m p f ds Γ = .ok (ds.filterMap F) Γ
 | [],_=>rfl
 |d::r,h=>by
   obtain⟨bQ,h1,h2⟩:=h d (qaw ..)
   have ih:=An F r fun d hd=>h d (qat _ hd)
   unfold cS
   rw[h1]
   simp only[h2,ih]
   cases e:F d<;>simp[List.filterMap_cons,e]
theorem ND(F:D->D)(h:∀ d∈ds,∃ bQ,jN m p f d (bK fr own Γ) = .ok (some (F d)) bQ/\aC fr own Γ bQ=Γ):cS fr own m p f ds Γ = .ok (ds.map F) Γ:=by
 rw[An (fun d=>some (F d)) ds h]
 exact congrArg (fun z=>Res.ok z Γ) (by induction ds with
  |nil=>rfl
  |cons a r ih=>rw[qa6,qaV,ih fun d hd=>h d (qat _ hd)])
end
end Dv
namespace L2
open PySem PySem.Spec PyProof.Rows Ex
section
variable{X:Cx}{EE:aT}{k:Nat}{f:Addr}{fd:FuncData}{ps:List Str}{sp:Sp}{dvs:List V}{ds:List Value}{x:Str}{p pos:Pos}{e:Expr}{es:List Expr}{t:TA}
def qK(sp:Sp)(dvs:List V)(EE:aT)(t:TA):TE:=fun σ H Q=>t σ H fun vs H1=>sp (vs++dvs) H1 Q (EE σ)
theorem FI{pins:List (Addr×Obj)}{σ:St}{H:Hp}{s:Shared}{Q:VK}{us:List Value}{vs:List V}(F:aD X.prog X.w X.K X.mg X.base (eT X.prog X.w) k f fd ps sp)(hr:aj k X.A)(hb:Binds X.K fd ps ds)(hd:Vals dvs ds)(hX:XOk X EE)
 (I:Inv X pins σ H s) (r:Vals vs us) (h:sp (vs++dvs) H Q (EE σ)):wpAny (model X.prog X.w) X.A (call (.ref f) us) (EP X pins σ Q) X.xe s:=by
 have r2:Vals (vs++dvs) (us++ds):=r.append hd
 have hl:(us++ds).length=ps.length:=by rw[<- r2.length];exact F.len _ _ _ _ h
 refine wpAny_call (codeAny_mono (F.run X.A X.stack s H ⟨us,[]⟩ (us++ds) (vs++dvs) Q (EE σ) hr I.env0 (hb s us I.aS hl) r2 h) fun r s' hq=>?_)
 cases r with
 |error e=>exact DW hX I hq
 |ok fl =>
   cases fl with
   |ret u=>exact I.after hq
   |next=>exact False.elim hq
   |brk=>exact False.elim hq
   |cont=>exact False.elim hq
theorem NF(F:aD X.prog X.w X.K X.mg X.base (eT X.prog X.w) k f fd ps sp)(hr:aj k X.A)(hg:Gl X x)(hm:X.mg x=some (.ref f))(hk:W.keepIn X.K (.ref f)=true)(hb:Binds X.K fd ps ds)(hd:Vals dvs ds)(hX:XOk X EE)
 (ha:PA X (e::es) t) (hdb:(x == ("__debug__" : Str))=false:=by decide) (he:starEach (e::es) X.env=(false,eval e X.env)::starEach es X.env:=by rfl) (hpl:(backTo pos (starEach es X.env)).any (·.1)=false:=by rfl) :
 PE X (.Call (.Name x p) (e::es) [] pos) (qK sp dvs EE t):=by
 intro pins s σ H Q I h
 refine qbI (p_ I hg hm ?_ hdb)
 refine W.callWith_K (h₀:=X.base) I.ok.mod.i7 hk (aI (ha pos pins s σ H _ I h) fun us s1 zq=>?_) he hpl
 obtain⟨vs,H1,I1,r,q⟩:=zq
 refine⟨I1.aS,?_⟩
 exact FI F hr hb hd hX I1 r q
theorem jo:XOk X (fun _ _ _ _=>False):=fun _ _ _ _ _ _ _ _ h=>h.elim
end
end L2
namespace Dv
open PySem L2 Ex
variable[KC]
section
variable{X:Cx}{EE:aT}{ios:List Addr}{e a b c:Expr}{es:List Expr}{f g:M RV}{fs:M (List RV)}{p:M Bool}{s s':M Fl}{st:Stmt}{sts dB:List Stmt}{pos:Pos}
inductive Rx where
 |ok (r:Rt) | ex (x:Xc)
def NG(R H:Hp)(r:Option Rx)(Q:VK)(E:XK):Prop:=match r with
 |some (.ok r)=>∀ x H' R',Al R H R' H'->jf R' H H' x r.rv->Q x H'
 |some (.ex x)=>∀ e H' R',Al R H R' H'->me R' H H' e x->E (.ref (KC.cls x.C)) (some e) H'
 |none=>False
def iH(G:List D->Option Rx):Sp:=fun vs H Q E=>∃ R ds,ae R H/\aw R vs ds/\NG R H (G ds) Q E
def nH:Res Fl->Option Rx
 | .ex x _=>some (.ex x)
 |r=>(b7 r).map .ok
theorem NH(fin:b7 (.ok fl Γ')=some r)(h3:∀ x H' R',Al R H R' H'->jf R' H H' x r.rv->Q x H'):oY ios R H σ (gam N ds) { nx:=fun _ H'=>Q .av H',rt:=Q } fl Γ':=by
 intro ax H' R' p
 cases fl with
 |brk=>cases fin
 |cont=>cases fin
 |nx=>cases fin;exact h3 .av H' R' p.al .av
 |ret rv =>
   intro y hy
   cases rv with
   |val d=>cases fin;exact h3 y H' R' p.al hy
   |new d=>cases fin;exact h3 y H' R' p.al hy
   |var i =>
     have fin:(match Γ'[i]? with
      |some (some (.own,d))=>some (Rt.new d)
      |some (some (.ai,d))=>some (.val d)
      | _=>none)=some r:=fin
     split at fin
     · rename_i d hs
       cases fin
       obtain⟨v,hv,sl⟩:=p.er.sl i _ hs
       have hy:ax[i]? = some (some y):=hy
       rw[hy] at hv
       cases hv
       obtain⟨a,xs,ds',rfl,r1,r2,r3,r4⟩:=sl
       refine h3 _ H' R' p.al ⟨⟨a,xs,ds',rfl,r1,r2,r3,r4⟩,a,rfl,?_⟩
       exact(p.go.oo a ⟨i,.own,d,hs,rfl,hy⟩).elim (fun z=>absurd z vz) id
     · rename_i d hs
       cases fin
       obtain⟨v,hv,sl⟩:=p.er.sl i _ hs
       have hy:ax[i]? = some (some y):=hy
       rw[hy] at hv
       cases hv
       exact h3 _ H' R' p.al sl
     · cases fin
theorem FJ(F:ix K x qual st fa fd)(S:ak N ps (aa st))
 (hb:∀ (cdv:Value) (A:Around) (outer:List Env) (s:Shared) (H:Hp) (E:XK),aj k (A.deeper (PyProof.Rows.envOfC qual (aa st) s.heap.objs.size fa cdv))->cJ (fZ (eT P w) P w K mg base N qual (aa st) fa cdv A outer s H E) (fun _=>E) [] (af st) bm)
 (h:∀ ds r,G ds=some r->ds.length=ps.length/\nH (bm (gam N ds))=some r):aD P w K mg base (eT P w) (k+1) fa fd ps (iH G):=by
 obtain⟨oc,od,kV,doc,pm,an,cdv,ct,osl,rfl,lk,hcd⟩:=F.ex
 refine yg lk hcd S (fun vs H Q E q=>?_) fun A outer s H vs Q E hr q=>?_
 · obtain⟨R,ds,_,h2,h3⟩:=q
   cases e:G ds with
   |none=>rw[e] at h3;exact h3.elim
   |some r=>rw[h2.len];exact(h ds r e).1
 · obtain⟨R,ds,h1,h2,h3⟩:=q
   cases e:G ds with
   |none=>rw[e] at h3;exact h3.elim
   |some r =>
     rw[e] at h3
     obtain⟨t,b1,b2⟩:=hb cdv A outer s H E hr
     refine⟨t,b1,b2 _ H R _ _ (zE h1 h2) ?_⟩
     have fin:=(h ds r e).2
     cases q:bm (gam N ds) with
     |st=>rw[q] at fin;cases fin
     |ex x Γ' =>
       rw[q] at fin
       cases fin
       exact fun e ax H' R' p qx=>h3 e H' R' p.al qx
     |ok fl Γ' =>
       rw[q] at fin
       have fin:(b7 (.ok fl Γ')).map Rx.ok=some r:=fin
       cases q2:b7 (.ok fl Γ') with
       |none=>rw[q2] at fin;cases fin
       |some r' =>
         rw[q2] at fin
         cases fin
         exact lF (NH q2 h3)
def M.thr{α:Type}(x:Xc):M α:=fun Γ=>.ex x Γ
def qL(G:List D->Option Rx)(fs:M (List RV)):M RV:=M.bind fs fun rvs=>M.bind (cY rvs) fun ds=>match G ds with
 |some (.ok r)=>if rvs.any jm && !gO r then M.bind (bV rvs) fun ds'=>match G ds' with
  |some (.ok r)=>M.pure r.rv
  | _=>M.st
   else M.pure r.rv
 |some (.ex x)=>M.bind (bV rvs) fun ds'=>match G ds' with
  |some (.ex x)=>M.thr x
  | _=>M.st
 |none=>M.st
theorem NI(hp:∀ t,PA X es t->PE X e0 (qK (iH G) [] EE t))(ha:VA X EE ios es fs):VE X EE ios e0 (qL G fs):=by
 obtain⟨t,h1,h2⟩:=ha
 refine⟨_,hp t h1,fun σ H R Γ Q er w=>?_⟩
 unfold qL at w
 rw[Zj] at w
 refine h2 σ H R Γ _ er (aG w (fun rvs ag w xs H1 R1 p1 hx=>?_) fun _ _ z=>z)
 show iH G (xs++[]) H1 Q (EE σ)
 rw[qaX]
 rw[Zj] at w
 obtain⟨ds,q,w⟩:=zH w
 obtain⟨ds',pk,e⟩:=qw (K:=fun ds' _=>ds'=ds) (E:=fun _ _=>False) p1.er hx (by rw[q];exact rfl)
 subst e
 cases hG:G ds' with
 |none=>rw[hG] at w;exact False.elim w
 |some rx =>
   rw[hG] at w
   cases rx with
   |ex x =>
     have w:br (M.bind (bV rvs) (fun ds'=>match G ds' with
      |some (.ex x)=>M.thr x
      | _=>M.st) ag) _ _:=w
     rw[Zj] at w
     obtain⟨gB,aq,R2,p2,s2,r2,w⟩:=iE er p1 hx w
     refine⟨R2,gB,p2.er.sub,r2,?_⟩
     cases kA:G gB with
     |none=>rw[kA] at w;exact False.elim w
     |some ry =>
       rw[kA] at w
       cases ry with
       |ok r=>exact False.elim w
       |ex y=>exact fun e H' R' al xr=>w e H' R' (p2.al al) (xr.back p2.since)
   |ok r =>
     dsimp only at w
     by_cases hv:rvs.any jm=true
     · by_cases gh:gO r=true
       · rw[hv,gh] at w
         have w:∀ x H' R',aQ ios R H σ Γ R' H' ag->dQ R' H H' σ x r.rv->Q x H':=w
         refine⟨lent (Ow σ ag) R1 H1,ds',vA p1.er.sub,Pks.lent p1.er hx pk q,?_⟩
         rw[hG]
         intro x H' R' al ra
         have ow:∀ b,Ow σ ag b->R1 b=none/\∃ xs,H1 b=some (.lst xs):=fun b z=>p1.er.ow z
         have un:∀ b, ¬ Ow σ ag b->cT (Ow σ ag) R' b=R' b:=fun b z=>by unfold cT;rw[if_neg z]
         have un':∀ b,Ow σ ag b->cT (Ow σ ag) R' b=none:=fun b z=>by unfold cT;rw[if_pos z]
         have tup:∀ b ys,R' b=some (.tup ys)->cT (Ow σ ag) R' b=some (.tup ys):=fun b ys z=>by
          rw[un b]
          · exact z
          · intro o
            obtain⟨_,zs,hz⟩:=ow b o
            have:=al.sub _ _ z
            rw[al.hh _ _ hz] at this
            cases this
         have rr:ae R1 (cT (Ow σ ag) R'):=fun b o z=>by
          have nb : ¬ Ow σ ag b:=fun q=>by rw[(ow b q).1] at z;cases z
          rw[un b nb]
          apply al.rr
          unfold lent
          rw[qaz nb]
          exact z
         have no:∀ b o,H1 b=some o->R1 b=none->cT (Ow σ ag) R' b=none:=fun b o hb rb=>by
          by_cases nb:Ow σ ag b
          · exact un' b nb
          · rw[un b nb]
            apply al.no b o hb
            unfold lent
            rw[qaz nb]
            exact rb
         have al':Al R1 H1 (cT (Ow σ ag) R') H':=⟨fun b o z=>by
          by_cases nb:Ow σ ag b
          · rw[un' b nb] at z;cases z
          · rw[un b nb] at z;exact al.sub b o z,rr,al.hh,no⟩
         refine w x H' _ (p1.al al') ?_
         cases r with
         |val d=>exact Rp.less tup ra gh
         |new d =>
           cases d with
           |lst zs =>
             obtain⟨⟨a,ys,gB,rfl,r1,r2,r3,r4⟩,a',ea,hf⟩:=ra
             cases ea
             cases r3
             refine⟨⟨a,ys,zs,rfl,?_,r2,rfl,r4.less tup gh⟩,a,rfl,p1.back er a hf⟩
             by_cases nb:Ow σ ag a
             · exact un' a nb
             · rw[un a nb];exact r1
           | _=>cases gh
       · have gh:gO r=false:=by cases z:gO r<;>simp_all
         rw[hv,gh] at w
         have w:br (M.bind (bV rvs) (fun ds'=>match G ds' with
          |some (.ok r)=>M.pure r.rv
          | _=>M.st) ag) _ _:=w
         rw[Zj] at w
         obtain⟨gB,aq,R2,p2,s2,r2,w⟩:=iE er p1 hx w
         refine⟨R2,gB,p2.er.sub,r2,?_⟩
         cases kA:G gB with
         |none=>rw[kA] at w;exact False.elim w
         |some r' =>
           rw[kA] at w
           cases r' with
           |ex y=>exact False.elim w
           |ok r'=>exact fun x H' R' al ra=>w x H' R' (p2.al al) (ra.rv (p2.back er))
     · have hv:rvs.any jm=false:=by cases z:rvs.any jm<;>simp_all
       rw[hv] at w
       have w:∀ x H' R',aQ ios R H σ Γ R' H' ag->dQ R' H H' σ x r.rv->Q x H':=w
       refine⟨R1,ds',p1.er.sub,EZ hx hv q,?_⟩
       rw[hG]
       exact fun x H' R' al ra=>w x H' R' (p1.al al) (ra.rv (p1.back er))
def vQ(P:Program)(w:World)(mg:Str->Option Value)(base:Heap)(x:Str)(k:Nat)(ps:List Str)(sp:Sp):Prop:=∃ f fd,aD P w KC.K mg base (eT P w) k f fd ps sp/\mg x=some (.ref f)/\W.keepIn KC.K (.ref f)=true/\Binds KC.K fd ps []
theorem FK{G:List D->Option Rx}{x:Str}{k:Nat}{ps:List Str}{p0:Pos}(hX:XOk X EE)(C:vQ X.prog X.w X.mg X.base x k ps (iH G))(hr:aj k X.A)(hg:Gl X x)(ha:VA X EE ios (e::es) fs)(hK:X.K=KC.K:=by rfl)(hdb:(x == ("__debug__" : Str))=false:=by decide)
 (he:starEach (e::es) X.env=(false,eval e X.env)::starEach es X.env:=by rfl) (hpl:(backTo pos (starEach es X.env)).any (·.1)=false:=by rfl):VE X EE ios (.Call (.Name x p0) (e::es) [] pos) (qL G fs):=by
 obtain⟨f,fd,F,hm,hk,hb⟩:=C
 rw[<- hK] at F hk hb
 exact NI (fun t h=>NF F hr hg hm hk hb .nil hX h hdb he hpl) ha
theorem NJ(A0:At mg x st)(S:ak N ps (aa st))
 (bd:∀ (kV doc pm:Value) (an:Option Addr) (cdv ct:Value) (us:List Value),us.length=ps.length->bindArgs (W.fnOf x x (aP st) (af st) (aa st) .none kV doc pm an cdv ct) ⟨us,[]⟩=pure (ps.zip us))
 (hb:∀ (fa:Addr) (cdv:Value) (A:Around) (outer:List Env) (s:Shared) (H:Hp) (E:XK),aj k (A.deeper (PyProof.Rows.envOfC x (aa st) s.heap.objs.size fa cdv))->cJ (fZ (eT P w) P w KC.K mg base N x (aa st) fa cdv A outer s H E) (fun _=>E) [] (af st) bm)
 (h:∀ ds r,G ds=some r->ds.length=ps.length/\nH (bm (gam N ds))=some r):vQ P w mg base x (k+1) ps (iH G) :=
 let ⟨f,fd,F,hm,hk⟩:=A0
 ⟨f,fd,FJ F S (hb f) h,hm,hk,F.binds bd⟩
def nJ(n:Nat)(N:List Str)(bm:M Fl):List D->Option Rx:=fun ds=>if ds.length=n then nH (bm (gam N ds)) else none
theorem Ao(h:nJ n N bm ds=some r):ds.length=n/\nH (bm (gam N ds))=some r:=by
 unfold nJ at h
 split at h
 · rename_i c;exact⟨c,h⟩
 · cases h
end
section
variable{X:Cx}{EE:aT}{ios:List Addr}{e a b c:Expr}{es:List Expr}{f g:M RV}{fs:M (List RV)}{p:M Bool}{s s':M Fl}{st:Stmt}{sts dB:List Stmt}{pos cpos p0:Pos}{x:Str}
theorem NK{R H:Hp}{p:Addr}{o:HO}(s:ae R H)(hp:H p=none):Al R H R (upd H p o) :=
 ⟨fun b u e=>by rw[aW (fz (s _ _ e) hp)];exact s _ _ e,ae.refl _,jc hp,fun _ _ _ r=>r⟩
def pE(C:Addr)(y:Str):Sp:=fun vs H Q _=>∃ a v fr,vs=[.ref a,v]/\H a=some (b6 C a none fr)/\∀ d,H d=none->d≠a->Q .av (upd (upd H d (ke d [(y,v)])) a (b6 C a (some d) fr))
structure vR(P:Program)(w:World)(mg:Str->Option Value)(base:Heap)(C:Cn)(ps:List Str)(sp:Sp):Prop where
 ex:∃ fI fd,XMk KC.K (KC.cls C) fI/\aD P w KC.K mg base bZ 1 fI fd ps sp/\Binds KC.K fd ps []
 z:sf KC.K (KC.cls C)
def nK(C:Cn)(ns:List Str)(fs:M (List RV)):M Fl:=M.bind fs fun rvs=>M.bind (bV rvs) fun ds=>if ds.length=ns.length/\ds.length<=1000 then M.thr ⟨C,ns.zip ds⟩ else M.st
theorem vU(hX:XOk X EE)(I:vR X.prog X.w X.mg X.base C ["self",y] (pE (KC.cls C) y))(hr:aj k X.A)(hk:2<=k)(hm:X.mg x=some (.ref (KC.cls C)))(ha:VA X EE ios (e::es) fs)(hg:Gl X x:=by rfl)(hc:X.calm=true:=by rfl)(hK:X.K=KC.K:=by rfl)(hdb:(x == ("__debug__" : Str))=false:=by decide)
 (he:starEach (e::es) X.env=(false,eval e X.env)::starEach es X.env:=by rfl) (hpl:(backTo cpos (starEach es X.env)).any (·.1)=false:=by rfl):VS X EE ios (.Raise (some (.Call (.Name x p0) (e::es) [] cpos)) none pos) (nK C [y] fs):=by
 obtain⟨t,h1,h2⟩:=ha
 obtain⟨⟨fI,fd,i1,i2,i3⟩,z⟩:=I
 refine⟨_,LJ hX hc (by rw[hK];exact i1) (by rw[hK];exact z) (by rw[hK];exact i2) (hr.mono hk) hg hm (by rw[hK];exact i3) .nil h1 hdb he hpl,fun σ H R Γ D er w=>?_⟩
 unfold nK at w
 rw[Zj] at w
 refine h2 σ H R Γ _ er (aG w (fun rvs ag w xs H1 R1 p1 hx=>?_) fun _ _ z=>z.exp)
 rw[Zj] at w
 obtain⟨ds,aq,R2,p2,s2,r2,w⟩:=iE er p1 hx w
 split at w
 · rename_i hl
   obtain⟨hl,hl2⟩:=hl
   match ds,hl with
   | [d],_ =>
     obtain⟨v,rfl,rv⟩:∃ v,xs=[v]/\Rp R2 v d:=by cases r2 with | cons rv r=>cases r;exact⟨_,rfl,rv⟩
     refine⟨by simp,fun a na=>?_⟩
     refine⟨a,v,true,rfl,dh,fun d' nd ne=>⟨rfl,some d',dh,?_⟩⟩
     have vV:H1 d'=none:=by rwa[aW ne] at nd
     have fa:R2 a=none:=p2.er.sub.free na
     have fd':R2 d'=none:=p2.er.sub.free vV
     refine w a σ _ R2 (p2.al ⟨fun b u q=>?_,ae.refl _,fun b u q=>?_,fun _ _ _ r=>r⟩).dA ⟨fa,p2.since _ na,.inr ⟨d',[(y,v)],dh,?_,fd',p2.since _ vV,rfl,.cons rv .nil⟩⟩
     · have q':=p2.er.sub _ _ q
       rw[xJ,aW (fz q' na),aW (fz q' vV),aW (fz q' na)];exact q'
     · rw[xJ,aW (fz q na),aW (fz q vV),aW (fz q na)];exact q
     · rw[xJ,aW ne,dh]
 · exact False.elim w
noncomputable def mJ:List String:=["NoneType","bool","int","str","list","tuple","dict"]
theorem NL(h:plain d=true):sM d∈mJ:=by cases d<;>first | (cases h;done) | simp[sM,mJ]
end
section
variable{X:Cx}{EE:aT}{ios:List Addr}{e a b c:Expr}{es:List Expr}{f g:M RV}{fs:M (List RV)}{p:M Bool}{pos p0 p1 p2 pos':Pos}
theorem FL:∀ {fs:List (Str×V)} {vs:List D} {d:D},aw R (fs.map (·.2)) vs->((fs.map (·.1)).zip vs).lookup y=some d->∃ v,fs.lookup y=some v/\Rp R v d
 | [],_,_,h,e=>by cases h;cases e
 | (n,v)::r,_,d,h,e=>by
   cases h with
   |cons a b =>
     rw[qaV,List.zip_cons_cons,qbo] at e
     rw[qbo]
     cases q:y == n with
     |true =>
       rw[q] at e
       simp only at e
       cases e
       exact⟨v,rfl,a⟩
     |false =>
       rw[q] at e
       exact FL b e
end
end Dv
namespace Dv
open PySem L2 Ex
section
variable{Γ Γ':En}{f g:M RV}{fs:M (List RV)}{p:M Bool}{s s':M Fl}{d:D}{i:Nat}{x:Xc}{C T:Cn}{L:List Cn}{y:Str}
@[simp] theorem vW:qL G fs Γ=M.bind fs (fun rvs=>M.bind (cY rvs) fun ds=>match G ds with
 |some (.ok r)=>if rvs.any jm && !gO r then M.bind (bV rvs) fun ds'=>match G ds' with
  |some (.ok r)=>M.pure r.rv
  | _=>M.st
   else M.pure r.rv
 |some (.ex x)=>M.bind (bV rvs) fun ds'=>match G ds' with
  |some (.ex x)=>M.thr x
  | _=>M.st
 |none=>M.st) Γ:=(rfl)
@[simp] theorem NM:nH (.ok fl Γ)=(b7 (.ok fl Γ)).map .ok:=(rfl)
end
end Dv
namespace L2
open PySem PySem.Spec PyProof.Rows Ex
section
variable{X:Cx}
theorem gQ:aB X (.builtin "repr") (fun xs H Q=>∃ x:Str,xs=[.str x]/\(reprText x).length<=sizeLine/\Q (.str (reprText x)) H):=by
 intro pins s σ H xs us Q I r h
 obtain⟨x,rfl,hx,q⟩:=h
 obtain⟨u,rfl,ru⟩:=r.one
 obtain⟨t,rfl⟩:=ru
 exact PySem.P.repr_of_str ⟨.str (reprText x),H,I.kept (fun _ _ e=>e),⟨_,rfl⟩,q⟩ hx
end
section
variable{X:Cx}
theorem Inv.drawn(I:Inv X pins σ H s)(d:Drawn):Inv X pins σ H { s with drawn:=d }:=⟨I.ok,I.os,I.bare,I.base,I.loc,I.cell,I.free,I.bT,I.pin,I.hok,I.len⟩
theorem gR:aB X (.builtin "repr") (fun xs H Q=>∃ b:Bool,xs=[.bl b]/\Q (.str (if b then "True" else "False")) H):=by
 intro pins s σ H xs us Q I r h
 obtain⟨b,rfl,q⟩:=h
 obtain⟨u,rfl,ru⟩:=r.one
 cases ru
 exact PySem.P.repr_of_bool ⟨.str _,H,I.kept (fun _ _ e=>e),⟨_,rfl⟩,q⟩
end
end L2
namespace Ex
open PySem PySem.Spec PyProof.Rows
theorem NN(el tg src:Expr)(ifs:List Expr)(sc:Scope)(pos:Pos)(it acc:Value)(env:Env):compTurn (.SetComp el [⟨tg,src,ifs,0⟩] sc pos) 0 it acc env=(do
 standAt src.pos
 match <- pyNext it with
 |none=>pure (.done .next)
 |some v =>
   letOwnedTupleGo tg it v
   assign tg env v
   let mut ok:=true
   for c in ifs do
    if ok then ok <- isTrue c env (eval c env)
   if ok then (do let v <- eval el env;standAt el.pos;let _ <- call (.builtin "set.add") [acc,v])
   again (.compLoop (.SetComp el [⟨tg,src,ifs,0⟩] sc pos) 0 it acc env)):=rfl
abbrev NO(M:Model)(A:Around)(env:Env)(tg:Expr)(it:Value)(ifs:List Expr)(el:Expr)(acc:Value)(N:Value->Shared->Prop)(next:Shared->Prop)(v:Value)(s:Shared):Prop :=
 wpAny M A (letOwnedTupleGo tg it v) (fun _ a=>wpAny M A (assign tg env v) (fun _ b =>
  wpAny M A (forIn ifs true fun c r=>if r=true then do let ok <- isTrue c env (eval c env);pure (ForInStep.yield ok) else pure (ForInStep.yield r)) (fun yes c =>
   if yes=true then wpAny M A (eval el env) (fun y d=>wpAny M A (standAt el.pos) (fun _ d'=>wpAny M A (call (.builtin "set.add") [acc,y]) (fun _=>next) N d') N d) N c else next c) N b) N a) N s
theorem NP(J:Nat->Shared->Prop)(n:Nat)(start:J n s)
 (turn:∀ n s,J n s->wpAny (model prog w) A (pyNext it) (fun r a=>match r with
  |none=>R (.ok .next) a
  |some v=>NO (model prog w) A env tg it ifs el acc (notedBy (model prog w) A env fun x=>R (.error x)) (fun b=>∃ m,m<n/\J m b) v a) (notedBy (model prog w) A env fun x=>R (.error x)) s) :
 codeAny (model prog w) A (.compLoop (.SetComp el [⟨tg,src,ifs,0⟩] sc pos) 0 it acc env) R s:=by
 apply codeAny_loop rfl J _ n start
 intro n s j
 change wpAny _ A (Sem.onRaise (compTurn (.SetComp el [⟨tg,src,ifs,0⟩] sc pos) 0 it acc env) fun x=>do noteFrame x env;theTreesLotGoes x) _ _ s
 apply wpAny_noted;rw[NN]
 apply qaa;apply qbv;apply qaa;apply qao (turn n s j) _ fun _ _ z=>z
 intro r a k
 cases r with
 |none=>exact qac k
 |some v =>
   apply qaa;apply qao k _ fun _ _ z=>z;intro _ b k
   apply qaa;apply qao k _ fun _ _ z=>z;intro _ c k
   apply qaa;apply qao k _ fun _ _ z=>z;intro yes d k
   cases yes
   · exact qac (And.intro rfl k)
   · apply qaa;apply qaa;apply qao k _ fun _ _ z=>z;intro y e k
     apply qaa;apply qao k _ fun _ _ z=>z;intro _ e' k
     apply qaa;apply qao k _ fun _ _ z=>z;intro _ f k
     exact qac (qac (And.intro rfl k))
theorem NQ(h0:codeAny (model prog w) A (.compLoop (.SetComp el [⟨tg,src,ifs,0⟩] sc pos) 0 it acc env) R s)
 (h:wpAny (model prog w) A (pyIter it) (fun it' s'=>codeAny (model prog w) A (.compLoop (.SetComp el [⟨tg,src,ifs,0⟩] sc pos) 0 it' acc env) R s') (notedBy (model prog w) A env fun x s'=>R (.error x) s') s) :
 codeAny (model prog w) A (.compStart (.SetComp el [⟨tg,src,ifs,0⟩] sc pos) 0 it acc env) R s:=by
 refine codeAny_of_tree (show wpAny _ _ ((compStart (.SetComp el [⟨tg,src,ifs,0⟩] sc pos) 0 it acc env).onRaise (fun x=>do noteFrame x env;standAt theWindowsPlace)) _ _ s from wpAny_notedAt ?_)
 unfold compStart
 refine(show wpAny _ _ (ask >>= _) _ _ s from qaa (qby (wpAny_ite ?_)))
 split
 · first
    |exact qaa (qac (qac (And.intro rfl h0)))
    |exact qac (And.intro rfl h0)
 · refine qaa ?_
   refine wpAny_rule (show wpAny _ _ (standAt src.pos >>= _) _ _ s from qaa (qbv (qaa ?_)))
   exact qao h (fun it' s' q=>qac (And.intro rfl q)) fun _ _ z=>z
theorem NR{w:World}{s:Shared}(h:Q (.ref s.heap.objs.size) { s with heap:=s.heap.push (St.bh #[] 0 (.fresh 0 0 (!(w.params.followText "set-order")))) }):wpAny (model prog w) A (newSet (.type "set")) Q E s:=by
 unfold newSet setsByText
 refine qaa (qaa ?_)
 refine qby (qac ?_)
 dsimp only
 simp only[newObj]
 exact qaa (wpAny_alloc (qac h))
end Ex
namespace L2
open PySem PySem.Spec PyProof.Rows Ex St
section
variable{X:Cx}{pins:List (Addr×Obj)}{σ:List (Option V)}{H:Hp}{s:Shared}
def nO(X:Cx):Obj:=bh #[] 0 (.fresh 0 0 (!(X.w.params.followText "set-order")))
def td(X:Cx)(D:Addr)(zs:List Z):HO:=.ext fun h=>bP (X.w.params.followText "set-order") h D zs
theorem NS{H:Hp}{h:Heap}{D:Addr}{zs:List Z}(S:bP (X.w.params.followText "set-order") h D zs):az X.prog X.w H h D (td X D zs):=⟨S,(let ⟨_,_,_,e,_⟩:=S; ⟨_,e⟩),fun h1 h2 x y=>x.at y⟩
theorem vX{c:Int×Int}(ok:bY P w H h)(e:H p=some (.tup [.int c.1,.int c.2])):bO h c p:=by
 obtain⟨_,its,rv,o,g,cl,n,d⟩:=ok p _ e
 cases rv with
 |cons r1 rv =>
   cases rv with
   |cons r2 rv =>
     cases rv
     obtain⟨t,rfl⟩:=r1
     obtain⟨u,rfl⟩:=r2
     exact⟨o,_,n,t,u,g,cl,d,rfl⟩
structure SK(X:Cx)(β:Type) where
 F:Addr->β->Heap->Prop
 e0:β
 AD:β->V->Hp->(β->Prop)->Prop
 nw:∀ (D:Addr) (h:Heap),h.get? D=some (nO X)->F D e0 h
 st:∀ (D:Addr) (b:β) (h1 h2:Heap),F D b h1->(∀ o,h1.get? D=some o->h2.get? D=some o)->F D b h2
 ob:∀ (D:Addr) (b:β) (h:Heap),F D b h->∃ o,h.get? D=some o
 add:∀ (D:Addr) (b:β) (y:V) (v:Value) (H:Hp) (s:Shared) (P:β->Prop) (Q:Value->Shared->Prop) (E:Value->Shared->Prop),bY X.prog X.w H s.heap->RelV y v->F D b s.heap->AD b y H P ->
  (∀ h' tk b',Heap.SameBut D s.heap h'->F D b' h'->P b'->Q .none { s with heap:=h',toks:=tk })->wpAny (model X.prog X.w) X.A (call (.builtin "set.add") [.ref D,v]) Q E s
abbrev SK.O{β:Type}(S:SK X β)(D:Addr)(b:β):HO:=.ext (S.F D b)
theorem SK.ok{β:Type}(S:SK X β){b:β}(z:S.F D b h):az X.prog X.w H h D (S.O D b):=⟨z,S.ob D b h z,fun h1 h2 x y=>S.st D b h1 h2 x y⟩
def Ap{β:Type}(S:SK X β)(fr:List Nat)(own:Nat)(wi:TI)(g:TG)(tc:TT)(te:TE):TE:=fun σ H Q=>wi σ H fun J H1=>∀ D,H1 D=none->∃ W:Nat->Nat->β->Hp->Prop,(∃ m,W 0 m S.e0 (upd H1 D (S.O D S.e0))) /\
 ∀ i m ys H2,H2 D=some (S.O D ys)->W i m ys H2->(J.stop i H2/\Q (.ref D) H2)\/(J.go i H2/\∀ x H3,J.lT i H2 x H3->g x (ao fr own σ) H3 fun cW H4=>tc cW H4 fun b H5 =>
  if b=true then te cW H5 fun y H6=>H6 D=some (S.O D ys)/\S.AD ys y H6 fun ys'=>∃ m',m'<m/\W (i+1) m' ys' (upd H6 D (S.O D ys')) else H5 D=some (S.O D ys)/\∃ m',m'<m/\W (i+1) m' ys H5)
theorem NT{elt tg iter:Expr}{ifs:List Expr}{scope:Scope}{pos oJ:Pos}{Nc:List Str}{own:Nat}{fr:List Nat}{wi:TI}{g:TG}{tc:TT}{te:TE}{use:Option (Value->Sem Unit)}{QQ:Value->Shared->Prop}{Q:VK}{β:Type}(S:SK X β)(hc:X.calm=true)(B:eU X scope Nc own fr)(hi:PI X tg iter wi)(hog:kg own g)
 (hg:∀ cl C s3 H3 fp pn',PG (X.blk Nc scope cl C s3 H3 fp pn' fun _ _=>False) tg g) (ht:∀ cl C s3 H3 fp pn',nq (X.blk Nc scope cl C s3 H3 fp pn' fun _ _=>False) ifs tc) (he:∀ cl C s3 H3 fp pn',PE (X.blk Nc scope cl C s3 H3 fp pn' fun _ _=>False) elt te)
 (hs:∀ x,foldedSetIterable iter X.env x=pure x) (I:Inv X pins σ H s) (h:Ap S fr own wi g tc te σ H Q)
 (fin:∀ (D C:Addr) (H3:Hp) (s4:Shared),(∃ m,s4.heap.Ns C m)->ig X pins H3 C->(∀ h',Heap.SameBut C s4.heap h'->Inv X pins σ H3 { s4 with heap:=h' })->Q (.ref D) H3->compPost (model X.prog X.w) X.A X.xe use QQ (.ref D) C (.ok .next) s4) :
 wpAny (model X.prog X.w) X.A (comprehension (.SetComp elt [⟨tg,iter,ifs,0⟩] scope pos) scope X.env oJ (newSet (.type "set")) false (eval iter X.env) use) QQ X.xe s:=by
 obtain⟨cl,iy⟩:=D5 (env:=X.env) (scope:=scope) fun x hx=>I.ok.has x (B.frees x hx)
 apply wpAny_comprehension_free rfl hs iy.clos B.kind B.names
 apply qao (hi pins s σ H _ I h) _ fun _ _ e=>e
 intro xv s1 h1
 apply qao h1 _ fun _ _ e=>e
 intro itv s2 h2
 obtain⟨it,fp,tn,J,H2,rfl,I2,T,st2,f2,q⟩:=h2
 refine NR (wpAny_newFunctionEnv B.gc (by intro y hy;simp at hy) (fun h₁ iz iA=>?_) B.kind)
 have hD:H2 s2.heap.objs.size=none:=I2.hok.fresh (qag _)
 obtain⟨W,⟨m0,w0⟩,turn⟩:=q s2.heap.objs.size hD
 have I3:Inv X pins σ (upd H2 s2.heap.objs.size (S.O s2.heap.objs.size S.e0)) { s2 with heap:=s2.heap.push (nO X) } :=
  I2.laid (t':=s2.toks) (fun b u e=>qab _ e) (qag _) (S.ok (S.nw _ _ (qah _ rfl)))
 have oK:∀ b∈fp,b≠s2.heap.objs.size:=fun b hb=>let ⟨o,e,_⟩:=T.obj _ _ st2 b hb;qal (qaf e)
 have f3:∀ b∈fp,ig X pins (upd H2 s2.heap.objs.size (S.O s2.heap.objs.size S.e0)) b:=fun b hb=>⟨by rw[aW (oK b hb)];exact(f2 b hb).1,(f2 b hb).2⟩
 have keep:∀ b o,(s2.heap.push (nO X)).get? b=some o->h₁.get? b=some o:=fun b o e =>
  (iA.2 b (qal (qaf e))).trans (qab _ e)
 have IY:=I3.block (h₁:=h₁) (t':=s2.toks+([]:List (Str×Value)).length) (E':=fun _ _=>False) B iy (fun b hb=>⟨f3 b hb,let ⟨o,e,_⟩:=T.obj _ _ st2 b hb; ⟨o,qab _ e⟩⟩) iz keep
 have st1:tn 0 h₁:=T.keep _ _ _ st2 fun b hb o e=>keep b o (qab _ e)
 have fY:∀ {H':Hp},(∀ b∈fp,H' b=none)->∀ b∈fp,ig (X.blk Nc scope cl (s2.heap.push (nO X)).objs.size { s2 with heap:=s2.heap.push (nO X) } (upd H2 s2.heap.objs.size (S.O s2.heap.objs.size S.e0)) fp (X.pn++pins) fun _ _=>False) [] H' b:=fun hn b hb =>
  ⟨hn b hb,(IY.ok.pZ b hb).1,IY.ok.i8 b hb,.inl hb,(IY.ok.pZ b hb).2,fun p hp=>(f2 b hb).2.2.2.2.2 p (by simpa using hp)⟩
 have loop:codeAny (model X.prog X.w) X.A (.compLoop (.SetComp elt [⟨tg,iter,ifs,0⟩] scope pos) 0 (.ref it) (.ref s2.heap.objs.size) (compEnvC scope cl (s2.heap.push (nO X)).objs.size X.env))
  (compPost (model X.prog X.w) X.A X.xe use QQ (.ref s2.heap.objs.size) (s2.heap.push (nO X)).objs.size) { s2 with heap:=h₁,toks:=s2.toks+([]:List (Str×Value)).length }:=by
  refine NP (fun n s'=>∃ i ys H',Inv (X.blk Nc scope cl (s2.heap.push (nO X)).objs.size { s2 with heap:=s2.heap.push (nO X) } (upd H2 s2.heap.objs.size (S.O s2.heap.objs.size S.e0)) fp (X.pn++pins) fun _ _=>False) [] (ao fr own σ) H' s'/\tn i s'.heap/\(∀ b∈fp,H' b=none)/\H' s2.heap.objs.size=some (S.O s2.heap.objs.size ys)/\W i n ys H')
   m0 ⟨0,S.e0,_,IY,st1,fun b hb=>(f3 b hb).1,dh,w0⟩ ?_
  rintro n s3 ⟨i,ys,H3,J3,st3,ni,e3,w3⟩
  rcases turn i n ys H3 e3 w3 with ⟨stop,qn⟩ | ⟨go,step⟩
  · refine aI (T.done (X.blk Nc scope cl (s2.heap.push (nO X)).objs.size { s2 with heap:=s2.heap.push (nO X) } (upd H2 s2.heap.objs.size (S.O s2.heap.objs.size S.e0)) fp (X.pn++pins) fun _ _=>False) rfl rfl rfl hc i [] s3 _ H3 _ J3 (fY ni) st3 stop) fun r s4 zq=>?_
    obtain⟨hr,J4⟩:=zq
    subst hr
    obtain⟨m,hn,_⟩:=J4.loc
    exact fin _ _ H3 s4 ⟨m,hn⟩ (I3.gF (qag _) J4.free) (fun h' sb=>I3.iR f3 J4 sb) qn
  · refine aI (T.item (X.blk Nc scope cl (s2.heap.push (nO X)).objs.size { s2 with heap:=s2.heap.push (nO X) } (upd H2 s2.heap.objs.size (S.O s2.heap.objs.size S.e0)) fp (X.pn++pins) fun _ _=>False) rfl rfl rfl hc i [] s3 _ H3 _ J3 (fY ni) st3 go) fun r s4 zq=>?_
    obtain⟨u,hr,h4⟩:=zq
    subst hr
    refine aI h4 fun _ s5 zq=>?_
    obtain⟨x,H5,J5,r5,y5,eF,rV⟩:=zq
    have yH:=J5.pinned (fY rV) (T.obj _ _ eF)
    have lift:∀ {α:Type} {m:Sem α} {Q':α->Shared->Prop} {E':Value->Shared->Prop} {s':Shared},wpAny (model X.prog X.w) X.A m Q' (fun _ _=>False) s'->wpAny (model X.prog X.w) X.A m Q' E' s':=fun h=>qao h (fun _ _ z=>z) fun _ _ z=>z.elim
    refine lift (aI (hg _ _ _ _ _ _ _ s5 _ H5 x u _ yH r5 (hog _ _ _ _ (step x H5 y5))) fun _ s6 zq=>?_)
    obtain⟨j4,H6,J6,q6,oM⟩:=zq
    refine lift (aI (ht _ _ _ _ _ _ _ s6 j4 H6 _ J6 q6) fun b s7 zq=>?_)
    obtain⟨H7,J7,q7⟩:=zq
    have back:∀ {H8:Hp} {s8:Shared} {ys':β} {m':Nat},Inv (X.blk Nc scope cl (s2.heap.push (nO X)).objs.size { s2 with heap:=s2.heap.push (nO X) } (upd H2 s2.heap.objs.size (S.O s2.heap.objs.size S.e0)) fp (X.pn++pins) fun _ _=>False) ([]++qg fp s5.heap) j4 H8 s8->H8 s2.heap.objs.size=some (S.O s2.heap.objs.size ys')->m'<n->W (i+1) m' ys' H8 ->
     ∃ m,m<n/\∃ i ys H',Inv (X.blk Nc scope cl (s2.heap.push (nO X)).objs.size { s2 with heap:=s2.heap.push (nO X) } (upd H2 s2.heap.objs.size (S.O s2.heap.objs.size S.e0)) fp (X.pn++pins) fun _ _=>False) [] (ao fr own σ) H' s8/\tn i s8.heap/\(∀ b∈fp,H' b=none)/\H' s2.heap.objs.size=some (S.O s2.heap.objs.size ys)/\W i m ys H':=fun {H8 s8 ys' m'} J8 e8 hm w8=>by
     refine⟨m',hm,i+1,ys',H8,?_,T.keep _ _ _ eF fun b hb o e=>(J8.pin (b,o) (qar _ (qar _ (qh hb e)))).1,fun b hb=>?_,e8,w8⟩
     · refine(Inv.cb (pins:=[]) J8).weak ?_ fun j v' z=>?_
       · rw[IY.len];exact J8.len.symm
       · by_cases hj:j<own
         · unfold ao at z
           rw[qaH (by simpa using hj),qbi,qay hj] at z
           cases z
         · rw[oM j (Nat.le_of_not_lt hj)];exact z
     · obtain⟨o,e,d⟩:=T.obj _ _ eF b hb
       exact(J8.pin (b,o) (qar _ (qar _ (qh hb e)))).2.1
    cases b with
    |false =>
      obtain⟨e7,m',hm,w7⟩:=(show H7 s2.heap.objs.size=some (S.O s2.heap.objs.size ys)/\∃ m',m'<n/\W (i+1) m' ys H7 from by simpa using q7)
      exact back J7 e7 hm w7
    |true =>
      have yI:te j4 H7 fun y H6=>H6 s2.heap.objs.size=some (S.O s2.heap.objs.size ys)/\S.AD ys y H6 fun ys'=>∃ m',m'<n/\W (i+1) m' ys' (upd H6 s2.heap.objs.size (S.O s2.heap.objs.size ys')):=by simpa using q7
      refine lift (aI (he _ _ _ _ _ _ _ s7 j4 H7 _ J7 yI) fun v s8 zq=>?_)
      obtain⟨y,H8,J8,r8,e8,w8⟩:=zq
      obtain⟨S8,_⟩:=J8.hok _ _ e8
      refine lift (qbv (S.add _ ys y v H8 _ _ _ _ J8.hok r8 S8 w8 fun h' tk ys' sb S' hy=>?_))
      obtain⟨m',hm,w9⟩:=hy
      have J9:=J8.write (t':=tk) (o:=S.O s2.heap.objs.size ys') (by rw[e8];trivial) (.inl rfl) (fun b u hb e=>(sb.2 b hb).trans e) (S.ob _ _ _ S') (S.ok S')
      exact back J9 dh hm w9
 exact NQ loop (T.self _ _ _ _ _ st1 loop)
theorem NU{elt tg iter:Expr}{ifs:List Expr}{scope:Scope}{pos:Pos}{Nc:List Str}{own:Nat}{fr:List Nat}{wi:TI}{g:TG}{tc:TT}{te:TE}{β:Type}(S:SK X β)(hc:X.calm=true)(B:eU X scope Nc own fr)(hi:PI X tg iter wi)(hog:kg own g)
 (hg:∀ cl C s3 H3 fp pn',PG (X.blk Nc scope cl C s3 H3 fp pn' fun _ _=>False) tg g) (ht:∀ cl C s3 H3 fp pn',nq (X.blk Nc scope cl C s3 H3 fp pn' fun _ _=>False) ifs tc) (he:∀ cl C s3 H3 fp pn',PE (X.blk Nc scope cl C s3 H3 fp pn' fun _ _=>False) elt te)
 (hs:∀ x,foldedSetIterable iter X.env x=pure x:=by intro _;rfl):PE X (.SetComp elt [⟨tg,iter,ifs,0⟩] scope pos) (Ap S fr own wi g tc te):=by
 intro pins s σ H Q I h
 show wpAny _ _ (comprehension (.SetComp elt [⟨tg,iter,ifs,0⟩] scope pos) scope X.env _ (newSet (.type "set")) false (eval iter X.env)) _ _ _
 exact NT (QQ:=EP X pins σ Q) S hc B hi hog hg ht he hs I h fun L C H3 s4 hn f sg q=>let ⟨m,hm⟩:=hn; ⟨m,hm,fun h' sb=>⟨.ref L,H3,sg h' sb,rfl,q⟩⟩
def vY(hu:X.A.units+1<cLine):SK X (List Z) where
 F:=fun D zs h=>bP (X.w.params.followText "set-order") h D zs
 e0:=[]
 AD:=fun ys y H P=>ys.length<600/\∃ (p:Addr) (c:Int×Int),y = .ref p/\H p=some (.tup [.int c.1,.int c.2])/\bp c/\(∀ z∈ys,H z.2=some (.tup [.int z.1.1,.int z.1.2]))/\∀ ys',((ys'=ys/\c∈ys.map (·.1))\/(ys'.Perm ((c,p)::ys)/\c ∉ ys.map (·.1)))->P ys'
 nw:=fun D h e=>bP.fresh _ e
 st:=fun D b h1 h2 x y=>x.at y
 ob:=fun D b h z=>let ⟨_,_,_,e,_⟩:=z; ⟨_,e⟩
 add:=fun D b y v H s P Q E ok r S ad q=>by
  obtain⟨hl,p,c,rfl,hp,sm,tz,k⟩:=ad
  cases r
  exact Jn hu S (fun z hz=>vX ok (tz z hz)) (vX ok hp) sm hl fun h' tk ys' sb S' hy=>q h' tk ys' sb S' (k ys' hy)
end
end L2
namespace Ti
open PySem PyProof.Rows
noncomputable def qM:Bool->Keyed->Array Keyed->Nat->Nat->Nat->StateT SortSt Sem (Option Nat):=sortPriv% PySem.Builtin.gallop
noncomputable def FN:Array Keyed->Array Keyed->StateT SortSt Sem (Array Keyed):=sortPriv% PySem.Builtin.mergeLo
noncomputable def FO:Array Keyed->Array Keyed->StateT SortSt Sem (Array Keyed):=sortPriv% PySem.Builtin.mergeHi
section
variable{M:Model}{A:Around}{E:Value->Shared->Prop}{s:Shared}{κ:SortKind}{φ:Keyed->Int}{El:Keyed->Prop}
def jq(M:Model)(A:Around)(E:Value->Shared->Prop)(s:Shared)(κ:SortKind)(φ:Keyed->Int)(El:Keyed->Prop):Prop:=∀ x y st (Q:Option Bool->SortSt->Prop),El x->El y->kindOf st=κ->Q (some (decide (φ x<φ y))) st->wpS M A E s (lt' x y) Q st
theorem d_{arr:Array Keyed}{i:Nat}{x:Keyed}{Q:Keyed->SortSt->Prop}{st:SortSt}(h:arr[i]? = some x)(q:Q x st):wpS M A E s (elem' arr i) Q st:=by
 rw[elem'_eq,h]
 exact qan q
structure Cut(p:Nat->Bool)(n k:Nat):Prop where
 le:k<=n
 lo:∀ i,i<k->p i=true
 hi:∀ i,k<=i->i<n->p i=false
noncomputable def NV(p:Nat->Bool)(n:Nat):Prop:=∀ i j,i<=j->j<n->p j=true->p i=true
theorem qN(C:jq M A E s κ φ El){left:Bool}{key:Keyed}{arr:Array Keyed}{b n hint:Nat}{p:Nat->Bool}{Q:Option Nat->SortSt->Prop}{st:SortSt}(hk:kindOf st=κ)(ek:El key)
 (hp:∀ i,i<n->∃ x,arr[b+i]? = some x/\El x/\p i=if left=true then decide (φ x<φ key) else !decide (φ key<φ x)) (mo:NV p n) (hh:hint<n) (q:∀ k,Cut p n k->Q (some k) st):wpS M A E s (qM left key arr b n hint) Q st:=by
 have vZ:∀ (i:Nat) (R:Option Bool->SortSt->Prop),i<n->R (some (p i)) st->wpS M A E s (do
  let x <- elem' arr (b+i)
  if left=true then lt' x key else do
   let y <- lt' key x
   pure (y.map (!·))) R st:=fun i R hi r=>by
  obtain⟨x,hx,ex,e⟩:=hp i hi
  refine qaj (d_ hx ?_)
  cases left with
  |true =>
    rw[qay rfl] at e ⊢
    refine C x key st _ ex ek hk ?_
    rw[<- e]
    exact r
  |false =>
    rw[qaz (by simp)] at e ⊢
    refine qaj (C key x st _ ek ex hk (qan ?_))
    show R (some (!decide (φ key<φ x))) st
    rw[<- e]
    exact r
 have fin:∀ (lo hi:Nat) (R:Option Nat->SortSt->Prop) (g:Option (Option Nat)×Nat×Nat->StateT SortSt Sem (Option Nat)),(∀ lo hi R,R (some hi) st->wpS M A E s (g (none,lo,hi)) R st)->lo<=hi->hi<=n->(∀ i,i<lo->p i=true)->(∀ i,hi<=i->i<n->p i=false)->(∀ k,Cut p n k->R (some k) st)->wpS M A E s (do
  let t <- forIn [0:n] ((none,lo,hi):Option (Option Nat)×Nat×Nat) fun _ t =>
   if t.2.1 ≥ t.2.2 then pure (.done (none,t.2.1,t.2.2)) else do
    let y <- (do
     let x <- elem' arr (b+(t.2.1+(t.2.2 - t.2.1) / 2))
     if left=true then lt' x key else do
      let y <- lt' key x
      pure (y.map (!·)))
    match y with
    |some more=>if more=true then pure (.yield (none,t.2.1+(t.2.2 - t.2.1) / 2+1,t.2.2)) else pure (.yield (none,t.2.1,t.2.1+(t.2.2 - t.2.1) / 2))
    |x=>pure (.done (some none,t.2.1,t.2.2))
  g t) R st:=by
  intro lo hi R g hg h1 h2 h3 h4 r
  refine qaj (qbe (I:=fun i t st'=>st'=st/\∃ lo hi,t=(none,lo,hi)/\lo<=hi/\hi<=n/\hi - lo<=n - i/\(∀ i,i<lo->p i=true)/\(∀ i,hi<=i->i<n->p i=false)) ?_ ?_ ⟨rfl,lo,hi,rfl,h1,h2,by omega,h3,h4⟩)
  · rintro i t st' _ hi' ⟨rfl,lo,hi,rfl,h1,h2,h5,h3,h4⟩
    dsimp only
    by_cases c:lo ≥ hi
    · rw[qay c]
      exact qan (hg _ _ _ (r hi ⟨h2,fun i z=>h3 i (by omega),h4⟩))
    · rw[qaz c]
      refine qaj (vZ _ _ (by omega) ?_)
      dsimp only
      cases e:p (lo+(hi - lo) / 2) with
      |true =>
        rw[qay rfl]
        exact qan ⟨rfl,_,hi,rfl,by omega,h2,by omega,fun i z=>mo i _ (by omega) (by omega) e,h4⟩
      |false =>
        rw[qaz (by simp)]
        refine qan ⟨rfl,lo,_,rfl,by omega,by omega,by omega,h3,fun i z z'=>?_⟩
        cases e':p i with
        |false=>rfl
        |true=>rw[mo _ i z z' e'] at e;cases e
  · rintro t st' ⟨rfl,lo,hi,rfl,h1,h2,h5,h3,h4⟩
    have:lo=hi:=by omega
    subst this
    exact hg _ _ _ (r lo ⟨h2,h3,h4⟩)
 unfold qM
 refine qaj (vZ hint _ hh ?_)
 dsimp only
 cases e0:p hint with
 |true =>
   rw[qay rfl]
   refine qaj (qbe (I:=fun i t st'=>st'=st/\∃ la of,t=(none,la,of)/\la<of/\i+1<=of/\(la=0\/p (hint+la)=true)/\hint+la<n) ?_ ?_ ⟨rfl,0,1,rfl,by omega,by omega,.inl rfl,by omega⟩)
   · rintro i t st' _ hi' ⟨rfl,la,of,rfl,h1,h2,h3,h4⟩
     dsimp only
     have lo':∀ i,i<hint+la+1->p i=true:=fun i z=>by
      rcases h3 with rfl | h3
      · exact mo i hint (by omega) hh e0
      · exact mo i _ (by omega) h4 h3
     by_cases c:of ≥ n - hint
     · rw[qay c]
       refine qan ?_
       dsimp only
       exact fin (hint+la+1) (hint+min of (n - hint)) Q _ (fun _ _ _ r=>qan r) (by omega) (by omega) lo' (fun i z z'=>by omega) q
     · rw[qaz c]
       refine qaj (vZ _ _ (by omega) ?_)
       dsimp only
       cases e:p (hint+of) with
       |true =>
         rw[qaz (by simp)]
         exact qan ⟨rfl,of,2 * of+1,rfl,by omega,by omega,.inr e,by omega⟩
       |false =>
         rw[qay (by simp)]
         refine qan ?_
         dsimp only
         refine fin (hint+la+1) (hint+min of (n - hint)) Q _ (fun _ _ _ r=>qan r) (by omega) (by omega) lo' (fun i z z'=>?_) q
         cases e':p i with
         |false=>rfl
         |true=>rw[mo (hint+of) i (by omega) z' e'] at e;cases e
   · rintro t st' ⟨rfl,la,of,rfl,h1,h2,h3,h4⟩
     have mx:max 0 n=n:=by omega
     rw[mx] at h2
     dsimp only
     refine fin (hint+la+1) (hint+min of (n - hint)) Q _ (fun _ _ _ r=>qan r) (by omega) (by omega) (fun i z=>?_) (fun i z z'=>by omega) q
     rcases h3 with rfl | h3
     · exact mo i hint (by omega) hh e0
     · exact mo i _ (by omega) h4 h3
 |false =>
   rw[qaz (by simp)]
   have no:∀ j,p j=false->∀ i,j<=i->i<n->p i=false:=fun j ej i z z'=>by
    cases e':p i with
    |false=>rfl
    |true=>rw[mo j i z z' e'] at ej;cases ej
   refine qaj (qbe (I:=fun i t st'=>st'=st/\∃ la of,t=(none,la,of)/\la<of/\i+1<=of/\p (hint - la)=false/\la<=hint) ?_ ?_ ⟨rfl,0,1,rfl,by omega,by omega,e0,by omega⟩)
   · rintro i t st' _ hi' ⟨rfl,la,of,rfl,h1,h2,h3,h4⟩
     dsimp only
     by_cases c:of ≥ hint+1
     · rw[qay c]
       refine qan ?_
       dsimp only
       exact fin (hint+1 - min of (hint+1)) (hint - la) Q _ (fun _ _ _ r=>qan r) (by omega) (by omega) (fun i z=>by omega) (no _ h3) q
     · rw[qaz c]
       refine qaj (vZ _ _ (by omega) ?_)
       dsimp only
       cases e:p (hint - of) with
       |true =>
         rw[qay rfl]
         refine qan ?_
         dsimp only
         exact fin (hint+1 - min of (hint+1)) (hint - la) Q _ (fun _ _ _ r=>qan r) (by omega) (by omega) (fun i z=>mo i (hint - of) (by omega) (by omega) e) (no _ h3) q
       |false =>
         rw[qaz (by simp)]
         exact qan ⟨rfl,of,2 * of+1,rfl,by omega,by omega,e,by omega⟩
   · rintro t st' ⟨rfl,la,of,rfl,h1,h2,h3,h4⟩
     have mx:max 0 n=n:=by omega
     rw[mx] at h2
     dsimp only
     exact fin (hint+1 - min of (hint+1)) (hint - la) Q _ (fun _ _ _ r=>qan r) (by omega) (by omega) (fun i z=>by omega) (no _ h3) q
end
section
variable{α:Type}{R:α->α->Prop}{base out ra rb xs:List α}
structure Mg(R:α->α->Prop)(base out ra rb:List α):Prop where
 pm:(out++ra++rb).Perm base
 so:out.Pairwise R
 sa:ra.Pairwise R
 sb:rb.Pairwise R
 oa:∀ x∈out,∀ y∈ra,R x y
 ob:∀ x∈out,∀ y∈rb,R x y
theorem Mg.a(h:Mg R base out (xs++ra) rb)(hx:∀ x∈xs,∀ y∈rb,R x y):Mg R base (out++xs) ra rb:=by
 obtain⟨s1,s2,s3⟩:=qa8.mp h.sa
 refine⟨by simpa using h.pm,qa8.mpr ⟨h.so,s1,fun x hx y hy=>h.oa x hx y (qbd _ hy)⟩,s2,h.sb,fun x hx' y hy=>?_,fun x hx' y hy=>?_⟩
 · rcases qaO.mp hx' with z | z
   · exact h.oa x z y (qar _ hy)
   · exact s3 x z y hy
 · rcases qaO.mp hx' with z | z
   · exact h.ob x z y hy
   · exact hx x z y hy
theorem Mg.b(h:Mg R base out ra (xs++rb))(hx:∀ x∈xs,∀ y∈ra,R x y):Mg R base (out++xs) ra rb:=by
 obtain⟨s1,s2,s3⟩:=qa8.mp h.sb
 refine⟨?_,qa8.mpr ⟨h.so,s1,fun x hx y hy=>h.ob x hx y (qbd _ hy)⟩,h.sa,s2,fun x hx' y hy=>?_,fun x hx' y hy=>?_⟩
 · refine List.Perm.trans ?_ h.pm
   simp only[List.append_assoc]
   refine  List.Perm.append_left _ ?_
   rw[<- qaM, <- qaM]
   exact  List.Perm.append_right _ List.perm_append_comm
 · rcases qaO.mp hx' with z | z
   · exact h.oa x z y hy
   · exact hx x z y hy
 · rcases qaO.mp hx' with z | z
   · exact h.ob x z y (qar _ hy)
   · exact s3 x z y hy
theorem Mg.pF(h:Mg R base out ra []):(out++ra).Pairwise R/\(out++ra).Perm base:=⟨qa8.mpr ⟨h.so,h.sa,h.oa⟩,by simpa using h.pm⟩
theorem Mg.pG(h:Mg R base out [] rb):(out++rb).Pairwise R/\(out++rb).Perm base:=⟨qa8.mpr ⟨h.so,h.sb,h.ob⟩,by simpa using h.pm⟩
theorem Mg.tj(h:Mg R base out ra rb)(hl:∀ y∈rb,∀ x∈ra,R y x):(out++rb++ra).Pairwise R/\(out++rb++ra).Perm base:=by
 have h':Mg R base out ra (rb++[]):=by simpa using h
 exact(h'.b hl).pF
end
section
variable{a:Array Keyed}{i k:Nat}{x:Keyed}
theorem FP(h:a[i]? = some x):a.toList.drop i=[x]++a.toList.drop (i+1):=by
 have h':a.toList[i]? = some x:=by simpa using h
 obtain⟨hi,e⟩:=qad.mp h'
 rw[qaQ hi,e]
 rfl
theorem Aq(i k:Nat):(a.extract i (i+k)).toList=(a.toList.drop i).take k:=by
 rw[qbK]
 show(a.toList.drop i).take (i+k - i)=_
 rw[qbN]
theorem qO(i:Nat):(a.extract i a.size).toList=a.toList.drop i:=by
 rw[qbK]
 show(a.toList.drop i).take (a.size - i)=_
 rw[qbC (by rw[qa9];simp)]
theorem FQ(i k:Nat):a.toList.drop i=(a.toList.drop i).take k++a.toList.drop (i+k):=by
 rw[<- List.drop_drop,qaJ]
theorem v3(h:x∈(a.toList.drop i).take k):∃ j,j<k/\a[i+j]? = some x:=by
 obtain⟨j,hj,e⟩:=List.getElem_of_mem h
 rw[qbn] at hj
 rw[List.getElem_take,List.getElem_drop] at e
 refine⟨j,by omega,?_⟩
 have:a.toList[i+j]? = some x:=by
  rw[qae (by rw[qa9] at hj;omega),e]
 simpa using this
theorem v5(h:x∈a.toList.drop i):∃ j,i<=j/\a[j]? = some x:=by
 obtain⟨j,hj,e⟩:=List.getElem_of_mem h
 rw[List.getElem_drop] at e
 refine⟨i+j,by omega,?_⟩
 have:a.toList[i+j]? = some x:=by
  rw[qae (by rw[qa9] at hj;omega),e]
 simpa using this
theorem eL(h:a[i]? = some x):x∈a.toList:=qaN (show a.toList[i]? = some x by simpa using h)
theorem at_of(h:i<a.size):∃ x,a[i]? = some x:=⟨a[i],qam h⟩
theorem nM(h:a[i]? = some x):i<a.size:=(qaC.mp h).1
end
structure ae(st st':SortSt):Prop where
 k:kindOf st'=kindOf st
 a:arrOf st'=arrOf st
 p:pendingOf st'=pendingOf st
 f:failedOf st'=failedOf st
section
variable{M:Model}{A:Around}{E:Value->Shared->Prop}{s:Shared}{κ:SortKind}{φ:Keyed->Int}{El:Keyed->Prop}
theorem ae.refl(st:SortSt):ae st st:=⟨rfl,rfl,rfl,rfl⟩
theorem ae.trans{a b c:SortSt}(h:ae a b)(h':ae b c):ae a c:=⟨h'.k.trans h.k,h'.a.trans h.a,h'.p.trans h.p,h'.f.trans h.f⟩
structure mK(φ:Keyed->Int)(El:Keyed->Prop)(a b:Array Keyed):Prop where
 ea:∀ x∈a.toList,El x
 eb:∀ x∈b.toList,El x
 sa:a.toList.Pairwise fun x y=>φ x<φ y
 sb:b.toList.Pairwise fun x y=>φ x<φ y
 ne:∀ x∈a.toList,∀ y∈b.toList,φ x≠φ y
 h0:∃ x y,a[0]? = some x/\b[0]? = some y/\φ y<φ x
 hl:∃ x,a[a.size - 1]? = some x/\∀ y∈b.toList,φ y<φ x
noncomputable def Good(φ:Keyed->Int)(a b m:Array Keyed):Prop:=(m.toList.Pairwise fun x y=>φ x<φ y)/\m.toList.Perm (a.toList++b.toList)
noncomputable abbrev ML(φ:Keyed->Int)(a b out:Array Keyed)(ia ib:Nat):Prop:=Mg (fun x y=>φ x<φ y) (a.toList++b.toList) out.toList (a.toList.drop ia) (b.toList.drop ib)
section
variable{a b out:Array Keyed}{ia ib k:Nat}{x y:Keyed}
theorem ML.fF(h:ML φ a b out ia ib)(e:ib=b.size):Good φ a b (out++a.extract ia a.size++b.extract ib b.size):=by
 have z:b.toList.drop ib=[]:=qaZ (by rw[e];simp)
 unfold Good
 rw[qaI,qaI,qO,qO,z,qaX]
 unfold ML at h
 rw[z] at h
 exact h.pF
theorem ML.fG(h:ML φ a b out ia ib)(e:ia=a.size):Good φ a b (out++a.extract ia a.size++b.extract ib b.size):=by
 have z:a.toList.drop ia=[]:=qaZ (by rw[e];simp)
 unfold Good
 rw[qaI,qaI,qO,qO,z,qaX]
 unfold ML at h
 rw[z] at h
 exact h.pG
theorem ML.last(T:mK φ El a b)(h:ML φ a b out ia ib)(e:ia+1=a.size):Good φ a b (out++b.extract ib b.size++a.extract ia a.size):=by
 unfold Good
 rw[qaI,qaI,qO,qO]
 refine h.tj fun y hy x hx=>?_
 obtain⟨z,hz,hz'⟩:=T.hl
 obtain⟨j,hj,ej⟩:=v5 hx
 have:=nM ej
 rw[show j=a.size - 1 by omega,hz] at ej
 cases ej
 exact hz' y (List.mem_of_mem_drop hy)
theorem ML.pb(h:ML φ a b out ia ib)(e:b[ib]? = some y)(hy:∀ x∈a.toList.drop ia,φ y<φ x):ML φ a b (out.push y) ia (ib+1):=by
 unfold ML at h ⊢
 rw[FP e] at h
 rw[Array.toList_push]
 exact h.b fun z hz=>by rw[qa4.mp hz];exact hy
theorem ML.pa(h:ML φ a b out ia ib)(e:a[ia]? = some x)(hx:∀ y∈b.toList.drop ib,φ x<φ y):ML φ a b (out.push x) (ia+1) ib:=by
 unfold ML at h ⊢
 rw[FP e] at h
 rw[Array.toList_push]
 exact h.a fun z hz=>by rw[qa4.mp hz];exact hx
theorem ML.ka(h:ML φ a b out ia ib)(hx:∀ x∈(a.toList.drop ia).take k,∀ y∈b.toList.drop ib,φ x<φ y):ML φ a b (out++a.extract ia (ia+k)) (ia+k) ib:=by
 unfold ML at h ⊢
 rw[FQ ia k] at h
 rw[qaI,Aq]
 exact h.a hx
theorem ML.kb(h:ML φ a b out ia ib)(hx:∀ x∈(b.toList.drop ib).take k,∀ y∈a.toList.drop ia,φ x<φ y):ML φ a b (out++b.extract ib (ib+k)) ia (ib+k):=by
 unfold ML at h ⊢
 rw[FQ ib k] at h
 rw[qaI,Aq]
 exact h.b hx
theorem qP(sa:a.toList.Pairwise fun x y=>φ x<φ y){i j:Nat}(hi:a[i]? = some x)(hj:a[j]? = some y)(h:i<j):φ x<φ y:=by
 have l:=nM hj
 have l1:i<a.toList.length:=by simp;omega
 have l2:j<a.toList.length:=by simpa using l
 have e1:a.toList[i]=x:=by have:=(qaC.mp hi).2;simpa using this
 have e2:a.toList[j]=y:=by have:=(qaC.mp hj).2;simpa using this
 rw[<- e1, <- e2]
 exact qa5.mp sa i j l1 l2 h
theorem qQ(sa:a.toList.Pairwise fun x y=>φ x<φ y){i:Nat}(hi:a[i]? = some x)(h:y∈a.toList.drop i):φ x<=φ y:=by
 obtain⟨j,hj,e⟩:=v5 h
 by_cases z:j=i
 · rw[z,hi] at e;cases e;exact Int.le_refl _
 · exact Int.le_of_lt (qP sa hi e (by omega))
end
theorem v7{g:Nat}{Q:Unit->SortSt->Prop}{st0 st:SortSt}(h:ae st0 st)(q:∀ st',ae st0 st'->Q () st'):wpS M A E s ((sortPriv% PySem.Builtin.setMinGallop) g) Q st :=
 wpS_modify (q _ (h.trans ⟨rfl,rfl,rfl,rfl⟩))
theorem NW(C:jq M A E s κ φ El){a b:Array Keyed}(T:mK φ El a b){st0 st:SortSt}{ia ib:Nat}{y:Keyed}{Q:Option Nat->SortSt->Prop}(hk:kindOf st=κ)(ey:b[ib]? = some y)(hi:ia<a.size)
 (q:∀ k,ia+k<=a.size->(∀ x∈(a.toList.drop ia).take k,∀ z∈b.toList.drop ib,φ x<φ z)->(∀ x∈a.toList.drop (ia+k),φ y<φ x)->Q (some k) st):wpS M A E s (qM false y a ia (a.size - ia) 0) Q st:=by
 have my:=eL ey
 refine qN C (p:=fun i=>match a[ia+i]? with | some x => !decide (φ y<φ x) | none=>false) hk (T.eb y my) (fun i z=>?_) (fun i j z z' h=>?_) (by omega) fun k c=>q k ?_ ?_ ?_
 · obtain⟨x,hx⟩:=at_of (a:=a) (i:=ia+i) (by omega)
   exact⟨x,hx,T.ea x (eL hx),by rw[hx];rfl⟩
 · obtain⟨x,hx⟩:=at_of (a:=a) (i:=ia+i) (by omega)
   obtain⟨x',hx'⟩:=at_of (a:=a) (i:=ia+j) (by omega)
   dsimp only at h ⊢
   rw[hx'] at h
   rw[hx]
   dsimp only at h ⊢
   rw[Bool.not_eq_true',qbx] at h ⊢
   by_cases e:i=j
   · subst e;rw[hx] at hx';cases hx';exact h
   · have:=qP T.sa hx hx' (by omega);omega
 · have:=c.le;omega
 · intro x hx z hz
   obtain⟨j,hj,e⟩:=v3 hx
   have:=c.lo j hj
   rw[e] at this
   dsimp only at this
   rw[Bool.not_eq_true',qbx] at this
   have n:=T.ne x (eL e) y my
   have:=qQ T.sb ey hz
   omega
 · intro x hx
   obtain⟨j,hj,e⟩:=v5 hx
   have l:=nM e
   have:=c.hi (j - ia) (by omega) (by omega)
   rw[show ia+(j - ia)=j by omega,e] at this
   dsimp only at this
   rw[Bool.not_eq_false'] at this
   exact qaB this
theorem NX(C:jq M A E s κ φ El){a b:Array Keyed}(T:mK φ El a b){st:SortSt}{ia ib:Nat}{x:Keyed}{Q:Option Nat->SortSt->Prop}(hk:kindOf st=κ)(ex:a[ia]? = some x)(hi:ib<b.size)
 (q:∀ k,ib+k<=b.size->(∀ y∈(b.toList.drop ib).take k,∀ z∈a.toList.drop ia,φ y<φ z)->(∀ y∈b.toList.drop (ib+k),φ x<φ y)->Q (some k) st):wpS M A E s (qM true x b ib (b.size - ib) 0) Q st:=by
 have mx:=eL ex
 refine qN C (p:=fun i=>match b[ib+i]? with | some y=>decide (φ y<φ x) | none=>false) hk (T.ea x mx) (fun i z=>?_) (fun i j z z' h=>?_) (by omega) fun k c=>q k ?_ ?_ ?_
 · obtain⟨y,hy⟩:=at_of (a:=b) (i:=ib+i) (by omega)
   exact⟨y,hy,T.eb y (eL hy),by rw[hy];rfl⟩
 · obtain⟨y,hy⟩:=at_of (a:=b) (i:=ib+i) (by omega)
   obtain⟨y',hy'⟩:=at_of (a:=b) (i:=ib+j) (by omega)
   dsimp only at h ⊢
   rw[hy'] at h
   rw[hy]
   dsimp only at h ⊢
   have h:=qaB h
   refine qaG ?_
   by_cases e:i=j
   · subst e;rw[hy] at hy';cases hy';exact h
   · have:=qP T.sb hy hy' (by omega);omega
 · have:=c.le;omega
 · intro y hy z hz
   obtain⟨j,hj,e⟩:=v3 hy
   have:=c.lo j hj
   rw[e] at this
   have:=qaB this
   have:=qQ T.sa ex hz
   omega
 · intro y hy
   obtain⟨j,hj,e⟩:=v5 hy
   have l:=nM e
   have:=c.hi (j - ib) (by omega) (by omega)
   rw[show ib+(j - ib)=j by omega,e] at this
   have:=of_decide_eq_false this
   have n:=T.ne x mx y (eL e)
   omega
end
section
variable{M:Model}{A:Around}{E:Value->Shared->Prop}{s:Shared}{κ:SortKind}{φ:Keyed->Int}{El:Keyed->Prop}
theorem bx{β:Type}{c:Prop}[Decidable c]{m n:StateT SortSt Sem β}{Q:β->SortSt->Prop}{st:SortSt}(h:c->wpS M A E s m Q st)(h' : ¬ c->wpS M A E s n Q st):wpS M A E s (if c then m else n) Q st:=by
 by_cases z:c
 · rw[qay z];exact h z
 · rw[qaz z];exact h' z
theorem FR{β:Type}{c:Nat->Prop}[∀ g,Decidable (c g)]{f m:Nat->StateT SortSt Sem β}{p:Nat->Nat}{Q:β->SortSt->Prop}{st:SortSt}(h:∀ g,wpS M A E s (f g) Q st)(e:∀ g,m g=f (p g))(g:Nat):wpS M A E s (if c g then m g else f g) Q st :=
 bx (fun _=>e g ▸ h (p g)) fun _=>h g
theorem v8{α β γ:Type}{c:α->γ->Prop}[∀ x y,Decidable (c x y)]{f m:α->γ->StateT SortSt Sem β}{x:α}{y:γ}{Q:β->SortSt->Prop}{st:SortSt}(P:α->γ->Prop)(h:∀ x y,P x y->wpS M A E s (f x y) Q st)(hm:(∀ x y,P x y->wpS M A E s (f x y) Q st)->c x y->wpS M A E s (m x y) Q st)(hx : ¬ c x y->P x y)(X:α)(hX:x=X)(Y:γ)(hY:y=Y):wpS M A E s (if c X Y then m X Y else f X Y) Q st:=by
 subst hX hY
 exact bx (hm h) fun n=>h x y (hx n)
abbrev D1(φ:Keyed->Int)(a b:Array Keyed)(st:SortSt)(n:Nat)(t:Option (Array Keyed)×Array Keyed×Nat×Nat×Nat)(st':SortSt):Prop:=∃ out ia ib g,t=(none,out,ia,ib,g)/\ae st st'/\ML φ a b out ia ib/\ia+1<a.size/\ib<b.size/\n+1<=ia+ib
abbrev Dq{α:Type}(φ:Keyed->Int)(a b:Array Keyed)(st:SortSt)(t:Option (Array Keyed)×α)(st':SortSt):Prop:=∃ r x,t=(some r,x)/\ae st st'/\Good φ a b r
abbrev D2(φ:Keyed->Int)(a b:Array Keyed)(st:SortSt)(p:Nat->Prop)(t:Option (Array Keyed)×Array Keyed×Nat×Nat×Nat×Nat)(st'':SortSt):Prop:=∃ out' gi eM ac bc,t=(none,out',gi,eM,ac,bc)/\ae st st''/\ML φ a b out' gi eM/\gi+1<a.size/\eM<b.size/\p (gi+eM)
abbrev D3(φ:Keyed->Int)(a b:Array Keyed)(st:SortSt)(m:Nat)(t:Option (Array Keyed)×Array Keyed×Nat×Nat×Nat×Nat×Nat)(st'':SortSt):Prop:=∃ out' gi eM g ac bc,t=(none,out',gi,eM,g,ac,bc)/\ae st st''/\ML φ a b out' gi eM/\gi+1<a.size/\eM<b.size/\m<gi+eM
theorem NY(C:jq M A E s κ φ El){a b:Array Keyed}(T:mK φ El a b){Q:Array Keyed->SortSt->Prop}{st:SortSt}(hk:kindOf st=κ)(q:∀ m st',ae st st'->Good φ a b m->Q m st'):wpS M A E s (FN a b) Q st:=by
 obtain⟨x0,y0,hx0,jR,Ar⟩:=T.h0
 have l0:=nM hx0
 have l1:=nM jR
 have start:ML φ a b #[y0] 0 1:=by
  have m0:ML φ a b #[] 0 0:=⟨List.Perm.refl _,.nil,by simpa using T.sa,by simpa using T.sb,fun x hx=>by simp at hx,fun x hx=>by simp at hx⟩
  exact m0.pb jR fun x hx=>Int.lt_of_lt_of_le Ar (qQ T.sa hx0 hx)
 unfold FN
 refine qaj (wpS_lift (wpAny_rule ⟨rfl,?_⟩))
 dsimp only
 refine qaj (d_ jR ?_)
 refine bx (fun c=>qan (q _ _ (ae.refl _) (start.fF (qas.mp c)))) fun c1=>?_
 refine bx (fun c=>qan (q _ _ (ae.refl _) (start.last T (qas.mp c)))) fun c2=>?_
 rw[qas] at c1 c2
 refine qaj (wpS_get ?_)
 refine qaj (wpS_mono (qbe (I:=D1 φ a b st)
  (Q:=Dq φ a b st) ?step ?fin ⟨_,0,1,_,rfl,ae.refl _,start,by omega,by omega,by omega⟩) ?post)
 case fin =>
  rintro t st' ⟨out,ia,ib,g,rfl,_,_,h1,h2,h3⟩
  omega
 case post =>
  rintro t st' ⟨r,x,rfl,h,hg⟩
  exact qan (q r st' h hg)
 case step =>
  rintro n t st' _ hn ⟨out,ia,ib,g,rfl,hs,hm,h1,h2,h3⟩
  dsimp only
  refine qaj (wpS_mono (qbe (I:=fun n=>D2 φ a b st fun m=>ia+ib+n<=m)
   (Q:=fun t st''=>Dq φ a b st t st''\/D2 φ a b st (fun m=>ia+ib<m) t st'') ?step ?fin ⟨out,ia,ib,0,0,rfl,hs,hm,h1,h2,qag _⟩) ?post)
  case fin =>
   rintro t st'' ⟨out',gi,eM,ac,bc,rfl,hs',hm',h1',h2',h3'⟩
   exact .inr ⟨out',gi,eM,ac,bc,rfl,hs',hm',h1',h2',by omega⟩
  case step =>
   rintro m t st'' _ hm2 ⟨out',gi,eM,ac,bc,rfl,hs',hm',h1',h2',h3'⟩
   dsimp only
   obtain⟨y,hy⟩:=at_of h2'
   obtain⟨x,hx⟩:=at_of (a:=a) (i:=gi) (by omega)
   refine qaj (d_ hy ?_)
   refine qaj (d_ hx ?_)
   refine qaj (C y x st'' _ (T.eb y (eL hy)) (T.ea x (eL hx)) (hs'.k.trans hk) ?_)
   dsimp only
   refine bx (fun c=>?_) fun c=>?_
   · refine qaj (d_ hy ?_)
     have dH:=hm'.pb hy fun z hz=>Int.lt_of_lt_of_le (qaB c) (qQ T.sa hx hz)
     refine bx (fun d=>qan (.inl ⟨_,_,rfl,hs',dH.fF (qas.mp d)⟩)) fun d=>?_
     rw[qas] at d
     refine bx (fun _=>?_) fun _=>?_
     · exact qan (.inr ⟨_,_,_,_,_,rfl,hs',dH,h1',by omega,by omega⟩)
     · exact qan ⟨_,_,_,_,_,rfl,hs',dH,h1',by omega,by omega⟩
   · have c : ¬ φ y<φ x:=by simpa using c
     refine qaj (d_ hx ?_)
     have nn:=T.ne x (eL hx) y (eL hy)
     have dH:=hm'.pa hx fun z hz=>Int.lt_of_lt_of_le (show φ x<φ y by omega) (qQ T.sb hy hz)
     refine bx (fun d=>qan (.inl ⟨_,_,rfl,hs',dH.last T (qas.mp d)⟩)) fun d=>?_
     rw[qas] at d
     refine bx (fun _=>?_) fun _=>?_
     · exact qan (.inr ⟨_,_,_,_,_,rfl,hs',dH,by omega,h2',by omega⟩)
     · exact qan ⟨_,_,_,_,_,rfl,hs',dH,by omega,h2',by omega⟩
  case post =>
   rintro t st'' (⟨r,x,rfl,hs',hg⟩ | ⟨out',gi,eM,ac,bc,rfl,hs',hm',h1',h2',h3'⟩)
   · exact qan ⟨r,_,rfl,hs',hg⟩
   dsimp only
   refine qaj (wpS_lift (wpAny_rule ⟨rfl,?_⟩))
   refine qaj (wpS_mono (qbe (I:=fun _=>D3 φ a b st (ia+ib))
    (Q:=fun t st''=>Dq φ a b st t st''\/D3 φ a b st (ia+ib) t st'') ?step (fun t st'' h=>.inr h) ⟨out',gi,eM,_,ac,bc,rfl,hs',hm',h1',h2',h3'⟩) ?post)
   case post =>
    rintro t st3 (⟨r,x,rfl,hs',hg⟩ | ⟨out',gi,eM,g,ac,bc,rfl,hs',hm',h1',h2',h3'⟩)
    · exact qan ⟨r,_,rfl,hs',hg⟩
    · exact qaj (v7 hs' fun Au hs4=>qan ⟨out',gi,eM,_,rfl,hs4,hm',h1',h2',by omega⟩)
   case step =>
    rintro m t st3 _ hm2 ⟨out',gi,eM,g,ac,bc,rfl,hs',hm',h1',h2',h3'⟩
    dsimp only
    obtain⟨y,hy⟩:=at_of h2'
    revert g
    refine FR (p:=(· - 1)) (fun g=>?_) fun g=>rfl
    refine qaj (v7 hs' fun Au hs4=>?_)
    refine qaj (d_ hy ?_)
    refine qaj (NW C T (st0:=st) (hs4.k.trans hk) hy (by omega) fun k k1 k2 k3=>?_)
    dsimp only
    generalize hX:out'=X
    generalize hY:gi=Y
    revert X Y
    refine v8 (fun o i=>ML φ a b o i eM/\i+1<a.size/\ia+ib<i+eM/\∀ x∈a.toList.drop i,φ y<φ x) (fun o i ⟨hm1,h11,h31,k3⟩=>?_) (fun J ck=>?_) fun ck=>?_
    · refine qaj (d_ hy ?_)
      have hm2:=hm1.pb hy k3
      refine bx (fun d=>qan (.inl ⟨_,_,rfl,hs4,hm2.fF (qas.mp d)⟩)) fun d3=>?_
      rw[qas] at d3
      obtain⟨x,hx⟩:=at_of (Nat.lt_of_succ_lt h11)
      refine qaj (d_ hx ?_)
      refine qaj (NX C T (hs4.k.trans hk) hx (show eM+1<b.size by omega) fun j j1 j2 j3=>?_)
      dsimp only
      generalize hX:o.push y=X
      generalize hY:eM+1=Y
      revert X Y
      refine v8 (fun o z=>ML φ a b o i z/\z<b.size/\eM<=z/\∀ y∈b.toList.drop z,φ x<φ y) (fun o z ⟨dH,h21,NZ,j3⟩=>?_) (fun J cj=>?_) fun cj=>?_
      · refine qaj (d_ hx ?_)
        have pH:=dH.pa hx j3
        refine bx (fun d=>qan (.inl ⟨_,_,rfl,hs4,pH.last T (qas.mp d)⟩)) fun d5=>?_
        rw[qas] at d5
        refine bx (fun _=>?_) fun _=>?_
        · exact qan (.inr ⟨_,_,_,_,_,_,rfl,hs4,pH,by omega,h21,by omega⟩)
        · exact qan ⟨_,_,_,_,_,_,rfl,hs4,pH,by omega,h21,by omega⟩
      · have dH:=hm2.kb j2
        refine bx (fun d=>qan (.inl ⟨_,_,rfl,hs4,dH.fF (qas.mp d)⟩)) fun d4=>?_
        rw[qas] at d4
        exact J _ _ ⟨dH,by omega,by omega,j3⟩
      · rw[show j=0 by omega,Nat.add_zero] at j3
        exact⟨hm2,by omega,by omega,j3⟩
    · have hm1:=hm'.ka k2
      refine bx (fun d=>qan (.inl ⟨_,_,rfl,hs4,hm1.last T (qas.mp d)⟩)) fun d1=>?_
      refine bx (fun d=>qan (.inl ⟨_,_,rfl,hs4,hm1.fG (qas.mp d)⟩)) fun d2=>?_
      rw[qas] at d1 d2
      exact J _ _ ⟨hm1,by omega,by omega,k3⟩
    · rw[show k=0 by omega,Nat.add_zero] at k3
      exact⟨hm',h1',h3',k3⟩
end
theorem Mg.tq{α:Type}{R:α->α->Prop}{base out ra rb:List α}(h:Mg R base out ra rb)(hl:∀ x∈ra,∀ y∈rb,R x y):(out++ra++rb).Pairwise R/\(out++ra++rb).Perm base:=by
 have h':Mg R base out (ra++[]) rb:=by simpa using h
 exact(h'.a hl).pG
section
variable{a:Array Keyed}{i k:Nat}{x:Keyed}
theorem FT(h:a[i]? = some x):(a.toList.take (i+1)).reverse=[x]++(a.toList.take i).reverse:=by
 have h':a.toList[i]? = some x:=by simpa using h
 rw[List.take_succ,h',qbS]
 rfl
theorem FU(h:i<=k):(a.toList.take k).reverse=((a.extract i k).reverse).toList++(a.toList.take i).reverse:=by
 rw[Array.toList_reverse,qbK, <- qbS]
 show _=(a.toList.take i++(a.toList.drop i).take (k - i)).reverse
 congr 1
 have:=List.take_add (l:=a.toList) (i:=i) (j:=k - i)
 rw[<- this]
 congr 1
 omega
theorem qR(k:Nat):(a.extract 0 k).toList=a.toList.take k:=by
 rw[qbK]
 rfl
theorem v9(h:x∈a.toList.take k):∃ j,j<k/\a[j]? = some x:=by
 have:=v3 (a:=a) (i:=0) (k:=k) (x:=x) (by simpa using h)
 simpa using this
theorem FV(h:x∈((a.extract i k).reverse).toList):∃ j,i<=j/\j<k/\a[j]? = some x:=by
 rw[Array.toList_reverse,qbA,qbK] at h
 have h:x∈(a.toList.drop i).take (k - i):=h
 obtain⟨j,hj,e⟩:=v3 h
 exact⟨i+j,by omega,by omega,e⟩
end
section
variable{M:Model}{A:Around}{E:Value->Shared->Prop}{s:Shared}{κ:SortKind}{φ:Keyed->Int}{El:Keyed->Prop}
noncomputable abbrev MH(φ:Keyed->Int)(a b out:Array Keyed)(na nb:Nat):Prop:=Mg (fun x y=>φ y<φ x) (a.toList++b.toList) out.toList (a.toList.take na).reverse (b.toList.take nb).reverse
theorem Av{a b m:Array Keyed}{l:List Keyed}(e:m.toList=l.reverse)(h:(l.Pairwise fun x y=>φ y<φ x)/\l.Perm (a.toList++b.toList)):Good φ a b m:=by
 unfold Good
 rw[e]
 exact⟨List.pairwise_reverse.mpr h.1,(List.reverse_perm l).trans h.2⟩
section
variable{a b out:Array Keyed}{na nb k:Nat}{x y:Keyed}
theorem MH.fG(h:MH φ a b out na nb)(e:na=0):Good φ a b (a.extract 0 na++b.extract 0 nb++out.reverse):=by
 subst e
 have h':Mg (fun x y=>φ y<φ x) (a.toList++b.toList) out.toList [] (b.toList.take nb).reverse:=h
 refine Av ?_ h'.pG
 rw[qaI,qaI,qR,qR,Array.toList_reverse,qbS,List.reverse_reverse]
 simp
theorem MH.fF(h:MH φ a b out na nb)(e:nb=0):Good φ a b (a.extract 0 na++b.extract 0 nb++out.reverse):=by
 subst e
 have h':Mg (fun x y=>φ y<φ x) (a.toList++b.toList) out.toList (a.toList.take na).reverse []:=h
 refine Av ?_ h'.pF
 rw[qaI,qaI,qR,qR,Array.toList_reverse,qbS,List.reverse_reverse]
 simp
theorem MH.first(T:mK φ El a b)(h:MH φ a b out na nb)(e:nb=1):Good φ a b (b.extract 0 nb++a.extract 0 na++out.reverse):=by
 refine Av ?_ (h.tq fun x hx y hy=>?_)
 · rw[qaI,qaI,qR,qR,Array.toList_reverse,qbS,qbS,List.reverse_reverse,List.reverse_reverse]
   simp
 · obtain⟨x0,y0,hx0,jR,Ar⟩:=T.h0
   obtain⟨j,hj,ej⟩:=v9 (qbA.mp hy)
   rw[show j=0 by omega,jR] at ej
   cases ej
   have:=qQ T.sa hx0 (y:=x) (by simpa using qbL (qbA.mp hx))
   omega
theorem MH.pa(h:MH φ a b out (na+1) nb)(e:a[na]? = some x)(hx:∀ y∈b.toList.take nb,φ y<φ x):MH φ a b (out.push x) na nb:=by
 unfold MH at h ⊢
 rw[FT e] at h
 rw[Array.toList_push]
 exact h.a fun z hz y hy=>by rw[qa4.mp hz];exact hx y (qbA.mp hy)
theorem MH.pb(h:MH φ a b out na (nb+1))(e:b[nb]? = some y)(hy:∀ x∈a.toList.take na,φ x<φ y):MH φ a b (out.push y) na nb:=by
 unfold MH at h ⊢
 rw[FT e] at h
 rw[Array.toList_push]
 exact h.b fun z hz x hx=>by rw[qa4.mp hz];exact hy x (qbA.mp hx)
theorem MH.ka(h:MH φ a b out na nb)(l:k<=na)(hx:∀ x j,k<=j->j<na->a[j]? = some x->∀ y∈b.toList.take nb,φ y<φ x):MH φ a b (out++(a.extract k na).reverse) k nb:=by
 unfold MH at h ⊢
 rw[FU l] at h
 rw[qaI]
 refine h.a fun x z y hy=>?_
 obtain⟨j,j1,j2,e⟩:=FV z
 exact hx x j j1 j2 e y (qbA.mp hy)
theorem MH.kb(h:MH φ a b out na nb)(l:k<=nb)(hx:∀ y j,k<=j->j<nb->b[j]? = some y->∀ x∈a.toList.take na,φ x<φ y):MH φ a b (out++(b.extract k nb).reverse) na k:=by
 unfold MH at h ⊢
 rw[FU l] at h
 rw[qaI]
 refine h.b fun y z x hx'=>?_
 obtain⟨j,j1,j2,e⟩:=FV z
 exact hx y j j1 j2 e x (qbA.mp hx')
theorem v_(sa:a.toList.Pairwise fun x y=>φ x<φ y){i:Nat}(hi:a[i]? = some x)(h:y∈a.toList.take (i+1)):φ y<=φ x:=by
 obtain⟨j,hj,e⟩:=v9 h
 by_cases z:j=i
 · rw[z,hi] at e;cases e;exact Int.le_refl _
 · exact Int.le_of_lt (qP sa e hi (by omega))
end
theorem N0(C:jq M A E s κ φ El){a b:Array Keyed}(T:mK φ El a b){st:SortSt}{na nb:Nat}{y:Keyed}{Q:Option Nat->SortSt->Prop}(hk:kindOf st=κ)(ey:b[nb]? = some y)(hi:na<a.size)
 (q:∀ k,k<=na+1->(∀ x j,k<=j->j<na+1->a[j]? = some x->∀ z∈b.toList.take (nb+1),φ z<φ x)->(∀ x∈a.toList.take k,φ x<φ y)->Q (some k) st):wpS M A E s (qM false y a 0 (na+1) na) Q st:=by
 have my:=eL ey
 refine qN C (p:=fun i=>match a[i]? with | some x => !decide (φ y<φ x) | none=>false) hk (T.eb y my) (fun i z=>?_) (fun i j z z' h=>?_) (by omega) fun k c=>q k c.le ?_ ?_
 · obtain⟨x,hx⟩:=at_of (a:=a) (i:=i) (by omega)
   exact⟨x,by rw[Nat.zero_add];exact hx,T.ea x (eL hx),by rw[hx];rfl⟩
 · obtain⟨x,hx⟩:=at_of (a:=a) (i:=i) (by omega)
   obtain⟨x',hx'⟩:=at_of (a:=a) (i:=j) (by omega)
   dsimp only at h ⊢
   rw[hx'] at h
   rw[hx]
   dsimp only at h ⊢
   rw[Bool.not_eq_true',qbx] at h ⊢
   by_cases e:i=j
   · subst e;rw[hx] at hx';cases hx';exact h
   · have:=qP T.sa hx hx' (by omega);omega
 · intro x j hj hj' e z hz
   have zl:=v_ T.sb ey hz
   have:=c.hi j hj hj'
   rw[e] at this
   rw[Bool.not_eq_false'] at this
   have:=qaB this
   omega
 · intro x hx
   obtain⟨j,hj,e⟩:=v9 hx
   have:=c.lo j hj
   rw[e] at this
   rw[Bool.not_eq_true',qbx] at this
   have n:=T.ne x (eL e) y my
   omega
theorem N1(C:jq M A E s κ φ El){a b:Array Keyed}(T:mK φ El a b){st:SortSt}{na nb:Nat}{x:Keyed}{Q:Option Nat->SortSt->Prop}(hk:kindOf st=κ)(ex:a[na]? = some x)(hi:nb<b.size)
 (q:∀ k,k<=nb+1->(∀ y j,k<=j->j<nb+1->b[j]? = some y->∀ z∈a.toList.take (na+1),φ z<φ y)->(∀ y∈b.toList.take k,φ y<φ x)->Q (some k) st):wpS M A E s (qM true x b 0 (nb+1) nb) Q st:=by
 have mx:=eL ex
 refine qN C (p:=fun i=>match b[i]? with | some y=>decide (φ y<φ x) | none=>false) hk (T.ea x mx) (fun i z=>?_) (fun i j z z' h=>?_) (by omega) fun k c=>q k c.le ?_ ?_
 · obtain⟨y,hy⟩:=at_of (a:=b) (i:=i) (by omega)
   exact⟨y,by rw[Nat.zero_add];exact hy,T.eb y (eL hy),by rw[hy];rfl⟩
 · obtain⟨y,hy⟩:=at_of (a:=b) (i:=i) (by omega)
   obtain⟨y',hy'⟩:=at_of (a:=b) (i:=j) (by omega)
   dsimp only at h ⊢
   rw[hy'] at h
   rw[hy]
   dsimp only at h ⊢
   have h:=qaB h
   refine qaG ?_
   by_cases e:i=j
   · subst e;rw[hy] at hy';cases hy';exact h
   · have:=qP T.sb hy hy' (by omega);omega
 · intro y j hj hj' e z hz
   have zl:=v_ T.sa ex hz
   have:=c.hi j hj hj'
   rw[e] at this
   have:=of_decide_eq_false this
   have n:=T.ne x mx y (eL e)
   omega
 · intro y hy
   obtain⟨j,hj,e⟩:=v9 hy
   have:=c.lo j hj
   rw[e] at this
   exact qaB this
end
section
variable{M:Model}{A:Around}{E:Value->Shared->Prop}{s:Shared}{κ:SortKind}{φ:Keyed->Int}{El:Keyed->Prop}
abbrev F1(φ:Keyed->Int)(a b:Array Keyed)(st:SortSt)(n:Nat)(t:Option (Array Keyed)×Nat×Nat×Array Keyed×Nat)(st':SortSt):Prop:=∃ out na nb g,t=(none,na+1,nb+2,out,g)/\ae st st'/\MH φ a b out (na+1) (nb+2)/\na+1<a.size/\nb+1<b.size/\na+nb+4+n<=a.size+b.size
abbrev F2(φ:Keyed->Int)(a b:Array Keyed)(st:SortSt)(na nb:Nat)(p:Nat->Prop)(t:Option (Array Keyed)×Nat×Nat×Array Keyed×Nat×Nat)(st'':SortSt):Prop:=∃ out' dD cU ac bc,t=(none,dD+1,cU+2,out',ac,bc)/\ae st st''/\MH φ a b out' (dD+1) (cU+2)/\dD<=na/\cU<=nb/\p (dD+cU)
abbrev F3(φ:Keyed->Int)(a b:Array Keyed)(st:SortSt)(na nb:Nat)(t:Option (Array Keyed)×Nat×Nat×Array Keyed×Nat×Nat×Nat)(st'':SortSt):Prop:=∃ out' dD cU g ac bc,t=(none,dD+1,cU+2,out',g,ac,bc)/\ae st st''/\MH φ a b out' (dD+1) (cU+2)/\dD<=na/\cU<=nb/\dD+cU<na+nb
theorem N2(C:jq M A E s κ φ El){a b:Array Keyed}(T:mK φ El a b){Q:Array Keyed->SortSt->Prop}{st:SortSt}(hk:kindOf st=κ)(q:∀ m st',ae st st'->Good φ a b m->Q m st'):wpS M A E s (FO a b) Q st:=by
 obtain⟨x0,y0,hx0,jR,Ar⟩:=T.h0
 obtain⟨xl,pI,gl⟩:=T.hl
 have l0:=nM hx0
 have l1:=nM jR
 have start:MH φ a b #[xl] (a.size - 1) b.size:=by
  have m0:MH φ a b #[] (a.size - 1+1) b.size:=by
   have e1:a.toList.take (a.size - 1+1)=a.toList:=qbC (by simp;omega)
   have e2:b.toList.take b.size=b.toList:=qbC (by simp)
   unfold MH
   rw[e1,e2]
   refine⟨?_,.nil,List.pairwise_reverse.mpr T.sa,List.pairwise_reverse.mpr T.sb,fun x hx=>by simp at hx,fun x hx=>by simp at hx⟩
   exact(List.reverse_perm _).append (List.reverse_perm _)
  exact m0.pa pI fun y hy=>gl y (qbL hy)
 unfold FO
 refine qaj (wpS_lift (wpAny_rule ⟨rfl,?_⟩))
 dsimp only
 refine qaj (d_ pI ?_)
 refine bx (fun c=>qan (q _ _ (ae.refl _) (start.fG (qas.mp c)))) fun c1=>?_
 refine bx (fun c=>qan (q _ _ (ae.refl _) (start.first T (qas.mp c)))) fun c2=>?_
 rw[qas] at c1 c2
 refine qaj (wpS_get ?_)
 refine qaj (wpS_mono (qbe (I:=F1 φ a b st)
  (Q:=Dq φ a b st) ?step ?fin ⟨_,a.size - 2,b.size - 2,_,by rw[show a.size - 2+1=a.size - 1 by omega,show b.size - 2+2=b.size by omega],ae.refl _,by rw[show a.size - 2+1=a.size - 1 by omega,show b.size - 2+2=b.size by omega];exact start,by omega,by omega,by omega⟩) ?post)
 case fin =>
  rintro t st' ⟨out,na,nb,g,rfl,_,_,h1,h2,h3⟩
  omega
 case post =>
  rintro t st' ⟨r,x,rfl,h,hg⟩
  exact qan (q r st' h hg)
 case step =>
  rintro n t st' _ hn ⟨out,na,nb,g,rfl,hs,hm,h1,h2,h3⟩
  dsimp only
  refine qaj (wpS_mono (qbe (I:=fun n=>F2 φ a b st na nb fun m=>m+n<=na+nb)
   (Q:=fun t st''=>Dq φ a b st t st''\/F2 φ a b st na nb (fun m=>m<na+nb) t st'') ?step ?fin ⟨out,na,nb,0,0,rfl,hs,hm,qag _,qag _,qag _⟩) ?post)
  case fin =>
   rintro t st'' ⟨out',dD,cU,ac,bc,rfl,hs',hm',h1',h2',h3'⟩
   exact .inr ⟨out',dD,cU,ac,bc,rfl,hs',hm',h1',h2',by omega⟩
  case step =>
   rintro m t st'' _ hm2 ⟨out',dD,cU,ac,bc,rfl,hs',hm',h1',h2',h3'⟩
   dsimp only
   obtain⟨y,hy⟩:=at_of (a:=b) (i:=cU+1) (by omega)
   obtain⟨x,hx⟩:=at_of (a:=a) (i:=dD) (by omega)
   refine qaj (d_ hy ?_)
   refine qaj (d_ hx ?_)
   refine qaj (C y x st'' _ (T.eb y (eL hy)) (T.ea x (eL hx)) (hs'.k.trans hk) ?_)
   dsimp only
   refine bx (fun c=>?_) fun c=>?_
   · have c:=qaB c
     refine qaj (d_ hx ?_)
     have dH:=hm'.pa hx fun z hz=>Int.lt_of_le_of_lt (v_ T.sb hy hz) c
     refine bx (fun d=>qan (.inl ⟨_,_,rfl,hs',dH.fG (qas.mp d)⟩)) fun d=>?_
     rw[qas] at d
     obtain⟨p,rfl⟩:∃ p,dD=p+1:=⟨dD - 1,by omega⟩
     refine bx (fun _=>?_) fun _=>?_
     · exact qan (.inr ⟨_,p,cU,_,_,rfl,hs',dH,by omega,h2',by omega⟩)
     · exact qan ⟨_,p,cU,_,_,rfl,hs',dH,by omega,h2',by omega⟩
   · have c : ¬ φ y<φ x:=by simpa using c
     have nn:=T.ne x (eL hx) y (eL hy)
     refine qaj (d_ hy ?_)
     have dH:=hm'.pb hy fun z hz=>Int.lt_of_le_of_lt (v_ T.sa hx hz) (show φ x<φ y by omega)
     refine bx (fun d=>qan (.inl ⟨_,_,rfl,hs',dH.first T (qas.mp d)⟩)) fun d=>?_
     rw[qas] at d
     obtain⟨p,rfl⟩:∃ p,cU=p+1:=⟨cU - 1,by omega⟩
     refine bx (fun _=>?_) fun _=>?_
     · exact qan (.inr ⟨_,dD,p,_,_,rfl,hs',dH,h1',by omega,by omega⟩)
     · exact qan ⟨_,dD,p,_,_,rfl,hs',dH,h1',by omega,by omega⟩
  case post =>
   rintro t st'' (⟨r,x,rfl,hs',hg⟩ | ⟨out',dD,cU,ac,bc,rfl,hs',hm',h1',h2',h3'⟩)
   · exact qan ⟨r,_,rfl,hs',hg⟩
   dsimp only
   refine qaj (wpS_lift (wpAny_rule ⟨rfl,?_⟩))
   refine qaj (wpS_mono (qbe (I:=fun _=>F3 φ a b st na nb)
    (Q:=fun t st''=>Dq φ a b st t st''\/F3 φ a b st na nb t st'') ?step (fun t st'' h=>.inr h) ⟨out',dD,cU,_,ac,bc,rfl,hs',hm',h1',h2',h3'⟩) ?post)
   case post =>
    rintro t st3 (⟨r,x,rfl,hs',hg⟩ | ⟨out',dD,cU,g,ac,bc,rfl,hs',hm',h1',h2',h3'⟩)
    · exact qan ⟨r,_,rfl,hs',hg⟩
    · exact qaj (v7 hs' fun Au hs4=>qan ⟨out',dD,cU,_,rfl,hs4,hm',by omega,by omega,by omega⟩)
   case step =>
    rintro m t st3 _ hm2 ⟨out',dD,cU,g,ac,bc,rfl,hs',hm',h1',h2',h3'⟩
    dsimp only
    obtain⟨y,hy⟩:=at_of (a:=b) (i:=cU+1) (by omega)
    revert g
    refine FR (p:=(· - 1)) (fun g=>?_) fun g=>rfl
    refine qaj (v7 hs' fun Au hs4=>?_)
    refine qaj (d_ hy ?_)
    refine qaj (N0 C T (na:=dD) (hs4.k.trans hk) hy (by omega) fun k k1 k2 k3=>?_)
    dsimp only
    generalize hK:dD+1 - k=K
    generalize hX:dD+1=X
    generalize hY:out'=Y
    revert X Y
    refine v8 (fun X o=>∃ p,X=p+1/\MH φ a b o (p+1) (cU+2)/\p<=na/\p+cU<na+nb/\∀ x∈a.toList.take (p+1),φ x<φ y) ?_ (fun J ck=>?_) fun ck=>?_
    · rintro _ o ⟨p,rfl,hm1,h11,h31,k3⟩
      refine qaj (d_ hy ?_)
      have hm2:=hm1.pb hy k3
      refine bx (fun d=>qan (.inl ⟨_,_,rfl,hs4,hm2.first T (qas.mp d)⟩)) fun d3=>?_
      rw[qas] at d3
      obtain⟨x,hx⟩:=at_of (a:=a) (i:=p) (by omega)
      refine qaj (d_ hx ?_)
      refine qaj (N1 C T (nb:=cU) (hs4.k.trans hk) hx (by omega) fun j j1 j2 j3=>?_)
      dsimp only
      generalize hL:cU+2 - 1 - j=L
      generalize hX:cU+2 - 1=X
      generalize hY:o.push y=Y
      revert X Y
      refine v8 (fun X o=>∃ u,X=u+2/\MH φ a b o (p+1) (u+2)/\u<=nb/\p+u<na+nb/\∀ y∈b.toList.take (u+2),φ y<φ x) ?_ (fun J cj=>?_) fun cj=>?_
      · rintro _ o ⟨u,rfl,dH,h21,NZ,j3⟩
        refine qaj (d_ hx ?_)
        have pH:=dH.pa hx j3
        refine bx (fun d=>qan (.inl ⟨_,_,rfl,hs4,pH.fG (qas.mp d)⟩)) fun d5=>?_
        rw[qas] at d5
        obtain⟨v,rfl⟩:∃ v,p=v+1:=⟨p - 1,by omega⟩
        refine bx (fun _=>?_) fun _=>?_
        · exact qan (.inr ⟨_,v,u,_,_,_,rfl,hs4,pH,by omega,h21,by omega⟩)
        · exact qan ⟨_,v,u,_,_,_,rfl,hs4,pH,by omega,h21,by omega⟩
      · have dH:=hm2.kb j1 j2
        refine bx (fun d=>qan (.inl ⟨_,_,rfl,hs4,dH.first T (qas.mp d)⟩)) fun d4=>?_
        refine bx (fun d=>qan (.inl ⟨_,_,rfl,hs4,dH.fF (qas.mp d)⟩)) fun d6=>?_
        rw[qas] at d4 d6
        obtain⟨u,rfl⟩:∃ u,j=u+2:=⟨j - 2,by omega⟩
        exact J _ _ ⟨u,rfl,dH,by omega,by omega,j3⟩
      · obtain⟨u,rfl⟩:∃ u,cU=u+1:=⟨cU - 1,by omega⟩
        rw[show j=u+2 by omega] at j3
        exact⟨u,rfl,hm2,by omega,by omega,j3⟩
    · have hm1:=hm'.ka k1 k2
      refine bx (fun d=>qan (.inl ⟨_,_,rfl,hs4,hm1.fG (qas.mp d)⟩)) fun d1=>?_
      rw[qas] at d1
      obtain⟨p,rfl⟩:∃ p,k=p+1:=⟨k - 1,by omega⟩
      exact J _ _ ⟨p,rfl,hm1,by omega,by omega,k3⟩
    · rw[show k=dD+1 by omega] at k3
      exact⟨dD,rfl,hm',h1',h3',k3⟩
end
theorem wb{α:Type}:∀ (m:List α) (a:Array α) (o j:Nat),o+j+m.length<=a.size->((m.zipIdx j).foldl (fun a x=>a.setIfInBounds (o+x.2) x.1) a).toList=a.toList.take (o+j)++m++a.toList.drop (o+j+m.length)
 | [],a,o,j,h=>by simp
 |x::m,a,o,j,h=>by
   rw[qaD] at h
   rw[List.zipIdx_cons,List.foldl_cons,wb m _ o (j+1) (by rw[Array.size_setIfInBounds];omega)]
   have lt:o+j<a.toList.length:=by simp;omega
   rw[Array.toList_setIfInBounds]
   show(a.toList.set (o+j) x).take (o+(j+1))++m++(a.toList.set (o+j) x).drop (o+(j+1)+m.length)=_
   rw[List.drop_set_of_lt (by omega),show o+(j+1)=o+j+1 by omega,List.take_succ,List.take_set_of_le (qag _),qak lt,qaD]
   simp only[Option.toList_some,List.append_assoc,List.cons_append,List.nil_append]
   rw[show o+j+1+m.length=o+j+(m.length+1) by omega]
section
variable{M:Model}{A:Around}{E:Value->Shared->Prop}{s:Shared}{κ:SortKind}{φ:Keyed->Int}{El:Keyed->Prop}
section
variable{arr:Array Keyed}{pre X Y post:List Keyed}
theorem gX(ha:arr.toList=pre++X++Y++post)(h:X[j]? = some x):arr[pre.length+j]? = some x:=by
 rw[<- qau,ha,qaM,qaM,qaA (by omega),qbN,qaH (qad.mp h).1]
 exact h
theorem gY(ha:arr.toList=pre++X++Y++post)(h:Y[j]? = some y):arr[pre.length+X.length+j]? = some y:=by
 rw[<- qau,ha,qaM,qaA (by rw[qaq];omega),qaq,qbN,qaH (qad.mp h).1]
 exact h
theorem xX(ha:arr.toList=pre++X++Y++post)(h:k<=X.length):(arr.extract (pre.length+k) (pre.length+X.length)).toList=X.drop k:=by
 rw[qbK]
 show(arr.toList.drop (pre.length+k)).take (pre.length+X.length - (pre.length+k))=_
 rw[ha,qaM,qaM,List.drop_append,qaZ (by omega),qbN,List.nil_append,List.drop_append_of_le_length h,List.take_append_of_le_length (by rw[qa9];omega),qbC (by rw[qa9];omega)]
theorem xY(ha:arr.toList=pre++X++Y++post)(h:k<=Y.length):(arr.extract (pre.length+X.length) (pre.length+X.length+k)).toList=Y.take k:=by
 rw[Aq,ha,qaM (pre++X),List.drop_append,qaZ (by simp),qaq,Nat.sub_self,List.drop_zero,List.nil_append,List.take_append_of_le_length h]
end
theorem N3(C:jq M A E s κ φ El){i:Nat}{Q:Bool->SortSt->Prop}{st:SortSt}{pre X Y post:List Keyed}{p1 p2:Nat}(hk:kindOf st=κ)(hf:failedOf st=none)(ha:(arrOf st).toList=pre++X++Y++post)(h1:(pendingOf st)[i]? = some (pre.length,X.length,p1))(h2:(pendingOf st)[i+1]? = some (pre.length+X.length,Y.length,p2))
 (eX:∀ x∈X,El x) (eY:∀ x∈Y,El x) (sX:X.Pairwise fun x y=>φ x<φ y) (sY:Y.Pairwise fun x y=>φ x<φ y) (ne:∀ x∈X,∀ y∈Y,φ x≠φ y) (nX:X≠[]) (nY:Y≠[])
 (q:∀ st' Z,kindOf st'=κ->failedOf st'=none->pendingOf st'=((pendingOf st).setIfInBounds i (pre.length,X.length+Y.length,p1)).eraseIdxIfInBounds (i+1)->(arrOf st').toList=pre++Z++post->(Z.Pairwise fun x y=>φ x<φ y)->Z.Perm (X++Y)->Q true st'):wpS M A E s (mergeAt' i) Q st:=by
 have lX:0<X.length:=List.length_pos_iff.mpr nX
 have lY:0<Y.length:=List.length_pos_iff.mpr nY
 have pw:∀ {l:List Keyed},(l.Pairwise fun x y=>φ x<φ y)->∀ {i j:Nat} {x y:Keyed},l[i]? = some x->l[j]? = some y->i<j->φ x<φ y:=fun {l} hl i j x y hi hj lt=>by
  obtain⟨a1,a2⟩:=qad.mp hi
  obtain⟨b1,b2⟩:=qad.mp hj
  rw[<- a2, <- b2]
  exact qa5.mp hl i j a1 b1 lt
 have pw':∀ {l:List Keyed},(l.Pairwise fun x y=>φ x<φ y)->∀ {i j:Nat} {x y:Keyed},l[i]? = some x->l[j]? = some y->i<=j->φ x<=φ y:=fun {l} hl i j x y hi hj le=>by
  by_cases e:i=j
  · subst e;rw[hi] at hj;cases hj;exact Int.le_refl _
  · exact Int.le_of_lt (pw hl hi hj (by omega))
 obtain⟨y0,jR⟩:∃ y,Y[0]? = some y:=⟨_,qae lY⟩
 obtain⟨xl,pI⟩:∃ x,X[X.length - 1]? = some x:=⟨_,qae (by omega)⟩
 have FW:=qaN jR
 have FX:=qaN pI
 have whole:(∀ x∈X,∀ y∈Y,φ x<φ y)->∀ st',kindOf st'=kindOf st->failedOf st'=failedOf st->pendingOf st'=((pendingOf st).setIfInBounds i (pre.length,X.length+Y.length,p1)).eraseIdxIfInBounds (i+1)->arrOf st'=arrOf st->Q true st':=fun h st' z1 z2 z3 z4 =>
  q st' (X++Y) (z1.trans hk) (z2.trans hf) z3 (by rw[z4,ha];simp) (qa8.mpr ⟨sX,sY,h⟩) (List.Perm.refl _)
 unfold mergeAt'
 refine qaj (wpS_get ?_)
 dsimp only
 rw[h1,h2]
 dsimp only
 refine qaj (wpS_modify (f:=fun _=>_) ?_)
 refine qaj (d_ (gY ha jR) ?_)
 refine qaj (qN C (p:=fun j=>match X[j]? with | some x => !decide (φ y0<φ x) | none=>false) hk (eY y0 FW) (fun j z=>?_) (fun a b z z' h=>?_) lX fun k c=>?_)
 · obtain⟨x,hx⟩:∃ x,X[j]? = some x:=⟨_,qae z⟩
   exact⟨x,gX ha hx,eX x (qaN hx),by rw[hx];rfl⟩
 · obtain⟨x,hx⟩:∃ x,X[a]? = some x:=⟨_,qae (by omega)⟩
   obtain⟨x',hx'⟩:∃ x,X[b]? = some x:=⟨_,qae z'⟩
   dsimp only at h ⊢
   rw[hx'] at h
   rw[hx]
   dsimp only at h ⊢
   rw[Bool.not_eq_true',qbx] at h ⊢
   have:=pw' sX hx hx' z
   omega
 have FY:=c.le
 have lo1:∀ j x,j<k->X[j]? = some x->φ x<φ y0:=fun j x hj hx=>by
  have:=c.lo j hj
  rw[hx] at this
  dsimp only at this
  rw[Bool.not_eq_true',qbx] at this
  have:=ne x (qaN hx) y0 FW
  omega
 have hi1:∀ j x,k<=j->X[j]? = some x->φ y0<φ x:=fun j x hj hx=>by
  have:=c.hi j hj (qad.mp hx).1
  rw[hx] at this
  dsimp only at this
  rw[Bool.not_eq_false'] at this
  exact qaB this
 have tu:∀ y∈Y,φ y0<=φ y:=fun y hy=>by
  obtain⟨j,hj⟩:=qbb.mp hy
  exact pw' sY jR hj (qbp _)
 have pJ:∀ x∈X,φ x<=φ xl:=fun x hx=>by
  obtain⟨j,hj⟩:=qbb.mp hx
  have:=(qad.mp hj).1
  exact pw' sX hj pI (by omega)
 dsimp only
 refine bx (fun d=>qan (whole (fun x hx y hy=>?_) _ rfl rfl rfl rfl)) fun d1=>?_
 · rw[qas] at d
   obtain⟨j,hj⟩:=qbb.mp hx
   have:=(qad.mp hj).1
   exact Int.lt_of_lt_of_le (lo1 j x (by omega) hj) (tu y hy)
 rw[qas] at d1
 have tw:=gX ha pI
 rw[show pre.length+(X.length - 1)=pre.length+k+(X.length - k) - 1 by omega] at tw
 refine qaj (d_ tw ?_)
 refine qaj (qN C (p:=fun j=>match Y[j]? with | some y=>decide (φ y<φ xl) | none=>false) hk (eX xl FX) (fun j z=>?_) (fun a b z z' h=>?_) (by omega) fun k2 c2=>?_)
 · obtain⟨y,hy⟩:∃ y,Y[j]? = some y:=⟨_,qae z⟩
   exact⟨y,gY ha hy,eY y (qaN hy),by rw[hy];rfl⟩
 · obtain⟨y,hy⟩:∃ y,Y[a]? = some y:=⟨_,qae (by omega)⟩
   obtain⟨y',hy'⟩:∃ y,Y[b]? = some y:=⟨_,qae z'⟩
   dsimp only at h ⊢
   rw[hy'] at h
   rw[hy]
   dsimp only at h ⊢
   have h:=qaB h
   have:=pw' sY hy hy' z
   exact qaG (by omega)
 have tD:=c2.le
 have lo2:∀ j y,j<k2->Y[j]? = some y->φ y<φ xl:=fun j y hj hy=>by
  have:=c2.lo j hj
  rw[hy] at this
  exact qaB this
 have hi2:∀ j y,k2<=j->Y[j]? = some y->φ xl<φ y:=fun j y hj hy=>by
  have:=c2.hi j hj (qad.mp hy).1
  rw[hy] at this
  have:=of_decide_eq_false this
  have:=ne xl FX y (qaN hy)
  omega
 dsimp only
 refine bx (fun d=>qan (whole (fun x hx y hy=>?_) _ rfl rfl rfl rfl)) fun d2=>?_
 · rw[qas] at d
   obtain⟨j,hj⟩:=qbb.mp hy
   exact Int.lt_of_le_of_lt (pJ x hx) (hi2 j y (by omega) hj)
 rw[qas] at d2
 have e1:=xX ha FY
 have e2:=xY ha tD
 have m9:((arrOf st).extract (pre.length+k) (pre.length+X.length)).size=X.length - k:=by rw[<- qaW,e1,qa9]
 have T:mK φ El ((arrOf st).extract (pre.length+k) (pre.length+X.length)) ((arrOf st).extract (pre.length+X.length) (pre.length+X.length+k2)):=by
  refine⟨?_,?_,?_,?_,?_,?_,?_⟩
  · rw[e1];exact fun x hx=>eX x (List.mem_of_mem_drop hx)
  · rw[e2];exact fun x hx=>eY x (qbL hx)
  · rw[e1];exact sX.sublist (List.drop_sublist _ _)
  · rw[e2];exact sY.sublist (List.take_sublist _ _)
  · rw[e1,e2];exact fun x hx y hy=>ne x (List.mem_of_mem_drop hx) y (qbL hy)
  · obtain⟨x,hx⟩:∃ x,X[k]? = some x:=⟨_,qae (by omega)⟩
    refine⟨x,y0,?_,?_,hi1 k x (qag _) hx⟩
    · rw[<- qau,e1,List.getElem?_drop];exact hx
    · rw[<- qau,e2,List.getElem?_take,qay (by omega)];exact jR
  · refine⟨xl,?_,?_⟩
    · rw[m9, <- qau,e1,List.getElem?_drop,show k+(X.length - k - 1)=X.length - 1 by omega];exact pI
    · rw[e2]
      intro y hy
      obtain⟨j,hj⟩:=qbb.mp hy
      rw[List.getElem?_take] at hj
      split at hj
      · rename_i z;exact lo2 j y z hj
      · cases hj
 have N4:(arrOf st).size=pre.length+X.length+Y.length+post.length:=by rw[<- qaW,ha];simp;omega
 have fin:∀ (m:Array Keyed) (st2:SortSt),Good φ ((arrOf st).extract (pre.length+k) (pre.length+X.length)) ((arrOf st).extract (pre.length+X.length) (pre.length+X.length+k2)) m->kindOf st2=kindOf st->failedOf st2=failedOf st->pendingOf st2=((pendingOf st).setIfInBounds i (pre.length,X.length+Y.length,p1)).eraseIdxIfInBounds (i+1)->arrOf st2=arrOf st ->
  ∀ st3,kindOf st3=kindOf st2->failedOf st3=failedOf st2->pendingOf st3=pendingOf st2->arrOf st3=m.toList.zipIdx.foldl (fun a x=>a.setIfInBounds (pre.length+k+x.2) x.1) (arrOf st2)->Q (failedOf st3).isNone st3:=by
  intro m st2 gm z1 z2 z3 z4 st3 y1 y2 y3 y4
  obtain⟨g1,g2⟩:=gm
  rw[e1,e2] at g2
  have ml:m.toList.length=X.length - k+k2:=by rw[g2.length_eq,qaq,qa9,qbn];omega
  have e3:(arrOf st3).toList=pre++(X.take k++m.toList++Y.drop k2)++post:=by
   rw[y4,z4,wb m.toList (arrOf st) (pre.length+k) 0 (by rw[ml,N4];omega),Nat.add_zero,ml,ha]
   have t1:(pre++X++Y++post).take (pre.length+k)=pre++X.take k:=by
    rw[qaM,qaM,List.take_append,qbC (by omega),qbN,List.take_append_of_le_length FY]
   have t2:(pre++X++Y++post).drop (pre.length+k+(X.length - k+k2))=Y.drop k2++post:=by
    rw[qaM (pre++X),List.drop_append,qaZ (by rw[qaq];omega),qaq,List.nil_append,show pre.length+k+(X.length - k+k2) - (pre.length+X.length)=k2 by omega,List.drop_append_of_le_length tD]
   rw[t1,t2]
   simp
  have hfn:failedOf st3=none:=by rw[y2,z2,hf]
  rw[hfn]
  have mm:∀ x∈m.toList,x∈X.drop k\/x∈Y.take k2:=fun x hx=>qaO.mp (g2.mem_iff.mp hx)
  refine q st3 _ (y1.trans (z1.trans hk)) hfn (y3.trans z3) e3 ?_ ?_
  · refine qa8.mpr ⟨qa8.mpr ⟨sX.sublist (List.take_sublist _ _),g1,fun x hx y hy=>?_⟩,sY.sublist (List.drop_sublist _ _),fun x hx y hy=>?_⟩
    · obtain⟨j,hj⟩:=qbb.mp hx
      rw[List.getElem?_take] at hj
      split at hj
      · rename_i z
        have l0:=lo1 j x z hj
        rcases mm y hy with w | w
        · obtain⟨j',hj'⟩:=qbb.mp w
          rw[List.getElem?_drop] at hj'
          have:=hi1 _ y (by omega) hj'
          omega
        · have:=tu y (qbL w)
          omega
      · cases hj
    · obtain⟨j,hj⟩:=qbb.mp hy
      rw[List.getElem?_drop] at hj
      have l0:=hi2 _ y (by omega) hj
      have:φ x<=φ xl:=by
       rcases qaO.mp hx with w | w
       · exact pJ x (qbL w)
       · rcases mm x w with w | w
         · exact pJ x (List.mem_of_mem_drop w)
         · obtain⟨j',hj'⟩:=qbb.mp w
           rw[List.getElem?_take] at hj'
           split at hj'
           · rename_i z;exact Int.le_of_lt (lo2 j' x z hj')
           · cases hj'
      omega
  · have p1:(X.take k++m.toList++Y.drop k2).Perm (X.take k++(X.drop k++Y.take k2)++Y.drop k2):=(g2.append_left _).append_right _
    refine p1.trans (List.Perm.of_eq ?_)
    rw[<- qaM,qaJ,qaM,qaJ]
 refine bx (fun _=>?_) fun _=>?_
 · refine qaj (NY C T hk fun m st2 hs2 gm=>?_)
   refine qaj (wpS_modify ?_)
   refine qaj (wpS_get (qan ?_))
   exact fin m st2 gm hs2.k hs2.f hs2.p hs2.a _ rfl rfl rfl rfl
 · refine qaj (N2 C T hk fun m st2 hs2 gm=>?_)
   refine qaj (wpS_modify ?_)
   refine qaj (wpS_get (qan ?_))
   exact fin m st2 gm hs2.k hs2.f hs2.p hs2.a _ rfl rfl rfl rfl
end
section
variable{M:Model}{A:Around}{E:Value->Shared->Prop}{s:Shared}{κ:SortKind}{φ:Keyed->Int}{El:Keyed->Prop}{a0:Array Keyed}
noncomputable def F(φ:Keyed->Int)(a:Array Keyed)(i:Nat):Int:=match a[i]? with
 |some x=>φ x
 |none=>0
def Up(φ:Keyed->Int)(a:Array Keyed)(lo n:Nat):Prop:=∀ i j,lo<=i->i<j->j<lo+n->F φ a i<F φ a j
def Dn(φ:Keyed->Int)(a:Array Keyed)(lo n:Nat):Prop:=∀ i j,lo<=i->i<j->j<lo+n->F φ a j<F φ a i
structure Bs(κ:SortKind)(a0:Array Keyed)(pn:Array (Nat×Nat×Nat))(lo:Nat)(b:Array Keyed)(st:SortSt):Prop where
 k:kindOf st=κ
 f:failedOf st=none
 p:pendingOf st=pn
 pm:(arrOf st).Perm a0
 out:∀ i,i<lo->(arrOf st)[i]? = b[i]?
structure Un(φ:Keyed->Int)(El:Keyed->Prop)(a0:Array Keyed):Prop where
 el:∀ x∈a0.toList,El x
 nd:(a0.toList.map φ).Nodup
theorem qS(h:a[i]? = some x):F φ a i=φ x:=by unfold F;rw[h]
theorem jS(h:a[i]? = b[j]?):F φ a i=F φ b j:=by unfold F;rw[h]
theorem Un.ne(U:Un φ El a0){a:Array Keyed}(pm:a.Perm a0)(h:i<j)(hj:j<a.size):F φ a i≠F φ a j:=by
 have nd:(a.toList.map φ).Nodup:=((qbB.mp pm).map φ).nodup_iff.mpr U.nd
 obtain⟨x,hx⟩:=at_of (a:=a) (i:=i) (by omega)
 obtain⟨y,hy⟩:=at_of hj
 rw[qS hx,qS hy]
 intro e
 have l1:i<(a.toList.map φ).length:=by simp;omega
 have l2:j<(a.toList.map φ).length:=by simp;omega
 have:=(List.getElem_inj (h₀:=l1) (h₁:=l2) nd).mp (by
  obtain⟨_,e1⟩:=qaC.mp hx
  obtain⟨_,e2⟩:=qaC.mp hy
  simp[e1,e2,e])
 omega
theorem qT(C:jq M A E s κ φ El)(U:Un φ El a0){st:SortSt}{Q:Option Bool->SortSt->Prop}(hk:kindOf st=κ)(pm:(arrOf st).Perm a0){i j:Nat}(hi:i<a0.size)(hj:j<a0.size)(q:Q (some (decide (F φ (arrOf st) i<F φ (arrOf st) j))) st):wpS M A E s (ltAt' i j) Q st:=by
 have sz:=pm.size_eq
 obtain⟨x,hx⟩:=at_of (a:=arrOf st) (i:=i) (by omega)
 obtain⟨y,hy⟩:=at_of (a:=arrOf st) (i:=j) (by omega)
 rw[qS hx,qS hy] at q
 rw[ltAt'_eq]
 refine qaj (wpS_get ?_)
 refine qaj (d_ hx ?_)
 refine qaj (d_ hy ?_)
 have m:∀ x∈(arrOf st).toList,El x:=fun x hx=>U.el x ((qbB.mp pm).mem_iff.mp hx)
 exact C x y st _ (m x (eL hx)) (m y (eL hy)) hk q
theorem Up.one{a:Array Keyed}{lo:Nat}:Up φ a lo 1:=fun i j h1 h2 h3=>by omega
theorem Up.next{a:Array Keyed}{lo n:Nat}(h:Up φ a lo n)(hn:1<=n)(e:F φ a (lo+n - 1)<F φ a (lo+n)):Up φ a lo (n+1):=fun i j h1 h2 h3=>by
 by_cases z:j<lo+n
 · exact h i j h1 h2 z
 · have:j=lo+n:=by omega
   subst this
   by_cases y:i=lo+n - 1
   · rw[y];exact e
   · exact Int.lt_trans (h i (lo+n - 1) h1 (by omega) (by omega)) e
theorem Dn.next{a:Array Keyed}{lo n:Nat}(h:Dn φ a lo n)(hn:1<=n)(e:F φ a (lo+n)<F φ a (lo+n - 1)):Dn φ a lo (n+1):=fun i j h1 h2 h3=>by
 by_cases z:j<lo+n
 · exact h i j h1 h2 z
 · have:j=lo+n:=by omega
   subst this
   by_cases y:i=lo+n - 1
   · rw[y];exact e
   · exact Int.lt_trans e (h i (lo+n - 1) h1 (by omega) (by omega))
theorem N5(C:jq M A E s κ φ El)(U:Un φ El a0){pn:Array (Nat×Nat×Nat)}{lo:Nat}{b:Array Keyed}{st:SortSt}{Q:Option Nat->SortSt->Prop}(hl:lo<a0.size)(B:Bs κ a0 pn lo b st)(q:∀ n st',1<=n->lo+n<=a0.size->Bs κ a0 pn lo b st'->Up φ (arrOf st') lo n->Q (some n) st'):wpS M A E s (countRun' lo (a0.size - lo)) Q st:=by
 unfold countRun'
 refine qaj (wpS_mono (qbe (I:=fun i t st'=>st'=st/\t=(none,i)/\Up φ (arrOf st) lo i) (Q:=fun t st'=>st'=st/\∃ n,t=(none,n)/\1<=n/\lo+n<=a0.size/\Up φ (arrOf st) lo n/\(lo+n<a0.size->F φ (arrOf st) (lo+n)<F φ (arrOf st) (lo+n - 1))) ?_ ?_ ⟨rfl,rfl,Up.one⟩) ?_)
 · rintro i t st' h1 h2 ⟨rfl,rfl,up⟩
   dsimp only
   refine qaj (qT C U B.k B.pm (by omega) (by omega) ?_)
   dsimp only
   refine bx (fun c=>qan ⟨rfl,i,rfl,h1,by omega,up,fun _=>qaB c⟩) fun c=>?_
   have c : ¬ F φ (arrOf st') (lo+i)<F φ (arrOf st') (lo+i - 1):=by simpa using c
   have ne:=U.ne B.pm (i:=lo+i - 1) (j:=lo+i) (by omega) (by rw[B.pm.size_eq];omega)
   exact qan ⟨rfl,rfl,up.next h1 (by omega)⟩
 · rintro t st' ⟨rfl,rfl,up⟩
   exact⟨rfl,_,rfl,by omega,by omega,up,by omega⟩
 · rintro t st' ⟨rfl,n,rfl,n1,n2,up,dn⟩
   dsimp only
   refine bx (fun _=>qan (q n _ n1 n2 B up)) fun c=>?_
   rw[qas] at c
   have dn:=dn (by omega)
   refine bx (fun c2=>?_) fun c2=>?_
   · refine qaj (qT C U B.k B.pm (by omega) (by omega) ?_)
     have r:=up lo (lo+n - 1) (qag _) (by omega) (by omega)
     rw[qaG r]
     dsimp only
     refine bx (fun _=>qan (q n _ n1 n2 B up)) fun z=>absurd rfl z
   · have e1:n=1:=by omega
     subst e1
     refine qaj (wpS_lift (wpAny_rule ⟨rfl,?_⟩))
     refine qaj (wpS_mono (qbe (I:=fun i t st''=>st''=st'/\t=(none,i,0)/\Dn φ (arrOf st') lo i) (Q:=fun t st''=>st''=st'/\∃ n,t=(none,n,0)/\2<=n/\lo+n<=a0.size/\Dn φ (arrOf st') lo n) ?_ ?_ ⟨rfl,rfl,?_⟩) ?_)
     · rintro i t st'' h1 h2 ⟨rfl,rfl,up⟩
       dsimp only
       refine qaj (qT C U B.k B.pm (by omega) (by omega) ?_)
       dsimp only
       refine bx (fun c=>?_) fun c=>?_
       · rw[qaz (by omega)]
         exact qan ⟨rfl,rfl,up.next (by omega) (qaB c)⟩
       · refine qaj (qT C U B.k B.pm (by omega) (by omega) ?_)
         have c : ¬ F φ (arrOf st'') (lo+i)<F φ (arrOf st'') (lo+i - 1):=by simpa using c
         have ne:=U.ne B.pm (i:=lo+i - 1) (j:=lo+i) (by omega) (by rw[B.pm.size_eq];omega)
         rw[qaG (show F φ (arrOf st'') (lo+i - 1)<F φ (arrOf st'') (lo+i) by omega)]
         dsimp only
         refine bx (fun _=>qan ⟨rfl,i,rfl,by omega,by omega,up⟩) fun z=>absurd rfl z
     · rintro t st'' ⟨rfl,rfl,up⟩
       exact⟨rfl,_,rfl,by omega,by omega,up⟩
     · exact Dn.next (n:=1) (fun i j h1 h2 h3=>by omega) (qag _) dn
     · rintro t st'' ⟨rfl,n,rfl,m1,m2,N6⟩
       dsimp only
       rw[qaz (by omega)]
       have sz:=B.pm.size_eq
       have gm:=fun k=>getElem?_mirror_all (xs:=arrOf st'') (i:=lo) (j:=lo+n) (by omega) k
       refine qaj (wpS_modify ?_)
       have B2:Bs κ a0 pn lo b (setArr st'' (mirror (arrOf st'') lo (lo+n) ((lo+n - lo) / 2))):=⟨B.k,B.f,B.p,(mirror_perm _ _ _ _).trans B.pm,fun i hi=>by
        show(mirror (arrOf st'') lo (lo+n) ((lo+n - lo) / 2))[i]? = _
        rw[gm,qaz (by omega)]
        exact B.out i hi⟩
       have N7:Up φ (mirror (arrOf st'') lo (lo+n) ((lo+n - lo) / 2)) lo n:=fun i j h1 h2 h3=>by
        have e1:=gm i
        rw[qay ⟨h1,by omega⟩] at e1
        have e2:=gm j
        rw[qay ⟨by omega,h3⟩] at e2
        rw[jS e1,jS e2]
        exact N6 _ _ (by omega) (by omega) (by omega)
       refine qaj (wpS_mono (qbe (I:=fun i t st3=>st3=setArr st'' (mirror (arrOf st'') lo (lo+n) ((lo+n - lo) / 2))/\t=(none,i)/\Up φ (mirror (arrOf st'') lo (lo+n) ((lo+n - lo) / 2)) lo i) (Q:=fun t st3=>st3=setArr st'' (mirror (arrOf st'') lo (lo+n) ((lo+n - lo) / 2))/\∃ n',t=(none,n')/\1<=n'/\lo+n'<=a0.size/\Up φ (mirror (arrOf st'') lo (lo+n) ((lo+n - lo) / 2)) lo n') ?_ ?_ ⟨rfl,rfl,N7⟩) ?_)
       · rintro i t st3 h1 h2 ⟨rfl,rfl,up⟩
         dsimp only
         refine qaj (qT C U B2.k B2.pm (by omega) (by omega) ?_)
         dsimp only
         refine bx (fun c=>qan ⟨rfl,i,rfl,by omega,by omega,up⟩) fun c=>?_
         have c : ¬ F φ (mirror (arrOf st'') lo (lo+n) ((lo+n - lo) / 2)) (lo+i)<F φ (mirror (arrOf st'') lo (lo+n) ((lo+n - lo) / 2)) (lo+i - 1):=by simpa using c
         have ne:=U.ne B2.pm (i:=lo+i - 1) (j:=lo+i) (by omega) (by rw[B2.pm.size_eq];omega)
         have ne:F φ (mirror (arrOf st'') lo (lo+n) ((lo+n - lo) / 2)) (lo+i - 1)≠F φ (mirror (arrOf st'') lo (lo+n) ((lo+n - lo) / 2)) (lo+i):=ne
         exact qan ⟨rfl,rfl,up.next (by omega) (by omega)⟩
       · rintro t st3 ⟨rfl,rfl,up⟩
         exact⟨rfl,_,rfl,by omega,by omega,up⟩
       · rintro t st3 ⟨rfl,n',rfl,k1,k2,up⟩
         exact qan (q n' _ k1 k2 B2 up)
end
section
variable{M:Model}{A:Around}{E:Value->Shared->Prop}{s:Shared}{κ:SortKind}{φ:Keyed->Int}{El:Keyed->Prop}{a0:Array Keyed}
theorem N8(C:jq M A E s κ φ El)(U:Un φ El a0){pn:Array (Nat×Nat×Nat)}{lo n ok:Nat}{b:Array Keyed}{st:SortSt}{Q:Bool->SortSt->Prop}(hn:lo+n<=a0.size)(ho:1<=ok)(ho2:ok<=n)(B:Bs κ a0 pn lo b st)(up:Up φ (arrOf st) lo ok)(q:∀ st',Bs κ a0 pn lo b st'->Up φ (arrOf st') lo n->Q true st'):wpS M A E s (binarySort' lo n ok) Q st:=by
 unfold binarySort'
 refine qaj (wpS_mono (qbe (I:=fun i t st'=>t=(none,())/\Bs κ a0 pn lo b st'/\Up φ (arrOf st') lo i) (Q:=fun t st'=>t=(none,())/\Bs κ a0 pn lo b st'/\Up φ (arrOf st') lo n) ?_ ?_ ⟨rfl,B,by rw[show max ok 1=ok by omega];exact up⟩) ?_)
 · rintro k t st' h1 h2 ⟨rfl,B,up⟩
   dsimp only
   have sz:=B.pm.size_eq
   have k1:1<=k:=by omega
   refine qaj (wpS_mono (qbe (I:=fun i t st''=>st''=st'/\∃ l r,t=(none,l,r)/\l<=r/\r<=k/\r - l<=k - i/\(∀ j,j<l->F φ (arrOf st') (lo+j)<F φ (arrOf st') (lo+k))/\(∀ j,r<=j->j<k->F φ (arrOf st') (lo+k)<F φ (arrOf st') (lo+j)))
    (Q:=fun t st''=>st''=st'/\∃ l r,t=(none,l,r)/\l<=k/\(∀ j,j<l->F φ (arrOf st') (lo+j)<F φ (arrOf st') (lo+k))/\(∀ j,l<=j->j<k->F φ (arrOf st') (lo+k)<F φ (arrOf st') (lo+j))) ?_ ?_ ⟨rfl,0,k,rfl,by omega,by omega,by omega,fun j hj=>by omega,fun j hj hj'=>by omega⟩) ?_)
   · rintro i t st'' _ hi ⟨rfl,l,r,rfl,l1,l2,l3,l4,l5⟩
     dsimp only
     refine bx (fun c=>qan ⟨rfl,l,r,rfl,by omega,l4,fun j hj hj'=>l5 j (by omega) hj'⟩) fun c=>?_
     refine qaj (qT C U B.k B.pm (by omega) (by omega) ?_)
     dsimp only
     refine bx (fun c2=>?_) fun c2=>?_
     · have c2:=qaB c2
       refine qan ⟨rfl,l,_,rfl,by omega,by omega,by omega,l4,fun j hj hj'=>?_⟩
       by_cases e:j=(l+r) / 2
       · rw[e];exact c2
       · exact Int.lt_trans c2 (up _ _ (by omega) (by omega) (by omega))
     · have c2 : ¬ F φ (arrOf st'') (lo+k)<F φ (arrOf st'') (lo+(l+r) / 2):=by simpa using c2
       have ne:=U.ne B.pm (i:=lo+(l+r) / 2) (j:=lo+k) (by omega) (by omega)
       have lt:F φ (arrOf st'') (lo+(l+r) / 2)<F φ (arrOf st'') (lo+k):=by omega
       refine qan ⟨rfl,_,r,rfl,by omega,l2,by omega,fun j hj=>?_,l5⟩
       by_cases e:j=(l+r) / 2
       · rw[e];exact lt
       · exact Int.lt_trans (up _ _ (by omega) (by omega) (by omega)) lt
   · rintro t st'' ⟨rfl,l,r,rfl,l1,l2,l3,l4,l5⟩
     exact⟨rfl,l,r,rfl,by omega,l4,fun j hj hj'=>l5 j (by omega) hj'⟩
   · rintro t st'' ⟨rfl,l,r,rfl,l1,l4,l5⟩
     dsimp only
     refine qaj (wpS_modify (qan ?_))
     have gb:=fun j=>getElem?_bubble (xs:=arrOf st'') (src:=lo+k) (by omega) (lo+k - (lo+l)) (by omega) j
     have dd:lo+k - (lo+k - (lo+l))=lo+l:=by omega
     rw[dd] at gb
     refine⟨rfl,⟨B.k,B.f,B.p,(bubble_perm _ _ _).trans B.pm,fun i hi=>?_⟩,fun i j h3 h4 h5=>?_⟩
     · show(bubble (arrOf st'') (lo+k) (lo+k - (lo+l)))[i]? = _
       rw[gb,qaz (by omega),qaz (by omega)]
       exact B.out i hi
     · show F φ (bubble (arrOf st'') (lo+k) (lo+k - (lo+l))) i<F φ (bubble (arrOf st'') (lo+k) (lo+k - (lo+l))) j
       have ei:=gb i
       have ej:=gb j
       by_cases c1:i=lo+l
       · rw[qay c1] at ei
         rw[qaz (by omega),qay ⟨by omega,by omega⟩] at ej
         rw[jS ei,jS ej]
         have:=l5 (j - 1 - lo) (by omega) (by omega)
         rw[show lo+(j - 1 - lo)=j - 1 by omega] at this
         exact this
       · rw[qaz c1] at ei
         by_cases c2:j=lo+l
         · rw[qaz (by omega)] at ei
           rw[qay c2] at ej
           rw[jS ei,jS ej]
           have:=l4 (i - lo) (by omega)
           rw[show lo+(i - lo)=i by omega] at this
           exact this
         · rw[qaz c2] at ej
           by_cases c3:lo+l<i
           · rw[qay ⟨c3,by omega⟩] at ei
             rw[qay ⟨by omega,by omega⟩] at ej
             rw[jS ei,jS ej]
             exact up _ _ (by omega) (by omega) (by omega)
           · rw[qaz (by omega)] at ei
             by_cases c4:lo+l<j
             · rw[qay ⟨c4,by omega⟩] at ej
               rw[jS ei,jS ej]
               exact up _ _ (by omega) (by omega) (by omega)
             · rw[qaz (by omega)] at ej
               rw[jS ei,jS ej]
               exact up _ _ (by omega) (by omega) (by omega)
 · rintro t st' ⟨rfl,B,up⟩
   rw[show max (max ok 1) n=n by omega] at up
   exact⟨rfl,B,up⟩
 · rintro t st' ⟨rfl,B,up⟩
   exact qan (q st' B up)
end
section
variable{M:Model}{A:Around}{E:Value->Shared->Prop}{s:Shared}{κ:SortKind}{φ:Keyed->Int}{El:Keyed->Prop}{a0:Array Keyed}
abbrev Rs:=List (List Keyed×Nat)
def flat:Rs->List Keyed
 | []=>[]
 |r::t=>r.1++flat t
noncomputable def eZ:Nat->Rs->List (Nat×Nat×Nat)
 | _,[]=>[]
 |o,r::t=>(o,r.1.length,r.2)::eZ (o+r.1.length) t
theorem kC:∀ a b:Rs,flat (a++b)=flat a++flat b
 | [],b=>rfl
 |r::t,b=>by rw[List.cons_append,flat,flat,kC t b,qaM]
theorem qU:∀ (o:Nat) (a b:Rs),eZ o (a++b)=eZ o a++eZ (o+(flat a).length) b
 |o,[],b=>rfl
 |o,r::t,b=>by rw[List.cons_append,eZ,eZ,qU,flat,qaq,List.cons_append,Nat.add_assoc]
theorem tE:∀ (o:Nat) (a:Rs),(eZ o a).length=a.length
 | _,[]=>rfl
 |o,r::t=>by rw[eZ,qaD,qaD,tE]
structure Ri(κ:SortKind)(φ:Keyed->Int)(a0:Array Keyed)(rs:Rs)(rest:List Keyed)(st:SortSt):Prop where
 k:kindOf st=κ
 f:failedOf st=none
 p:pendingOf st=(eZ 0 rs).toArray
 pm:(arrOf st).Perm a0
 ar:(arrOf st).toList=flat rs++rest
 so:∀ r∈rs,r.1≠[]/\r.1.Pairwise fun x y=>φ x<φ y
theorem N9{rs:Rs}(h:i+1<rs.length):∃ A X Y B,rs=A++X::Y::B/\A.length=i:=by
 refine⟨rs.take i,rs[i],rs[i+1],rs.drop (i+2),?_,by rw[qbn];omega⟩
 rw[<- qaQ, <- qaQ,qaJ]
theorem Ri.merge(C:jq M A E s κ φ El)(U:Un φ El a0){rs:Rs}{rest:List Keyed}{st:SortSt}(R:Ri κ φ a0 rs rest st){i:Nat}(hi:i+1<rs.length){Q:Bool->SortSt->Prop}(q:∀ rs' st',Ri κ φ a0 rs' rest st'->rs'.length+1=rs.length->(flat rs').length=(flat rs).length->Q true st'):wpS M A E s (mergeAt' i) Q st:=by
 obtain⟨As,⟨X,p1⟩,⟨Y,p2⟩,Bs,rfl,rfl⟩:=N9 hi
 have ar:=R.ar
 have e0:flat (As++(X,p1)::(Y,p2)::Bs)=flat As++X++Y++flat Bs:=by rw[kC,flat,flat];simp
 rw[e0] at ar
 have e1:eZ 0 (As++(X,p1)::(Y,p2)::Bs)=eZ 0 As++((flat As).length,X.length,p1)::((flat As).length+X.length,Y.length,p2)::eZ ((flat As).length+X.length+Y.length) Bs:=by
  rw[qU,eZ,eZ,Nat.zero_add]
 have pp:=R.p
 rw[e1] at pp
 have lA:(eZ 0 As).length=As.length:=tE 0 As
 have sX:=R.so (X,p1) (by simp)
 have sY:=R.so (Y,p2) (by simp)
 have pl:=qbB.mp R.pm
 have mX:∀ x∈X,x∈(arrOf st).toList:=fun x hx=>by rw[ar];simp[hx]
 have mY:∀ x∈Y,x∈(arrOf st).toList:=fun x hx=>by rw[ar];simp[hx]
 have nd:((arrOf st).toList.map φ).Nodup:=(pl.map φ).nodup_iff.mpr U.nd
 have ne:∀ x∈X,∀ y∈Y,φ x≠φ y:=fun x hx y hy e=>by
  rw[ar] at nd
  simp only[List.map_append,List.append_assoc] at nd
  have nd:=(List.nodup_append.mp nd).2.1
  have dj:=(List.nodup_append.mp nd).2.2
  exact dj (φ x) (List.mem_map_of_mem hx) (φ y) (qbd _ (List.mem_map_of_mem hy)) e
 refine N3 C (pre:=flat As) (X:=X) (Y:=Y) (post:=flat Bs++rest) (p1:=p1) (p2:=p2) R.k R.f (by rw[ar];simp) ?_ ?_ (fun x hx=>U.el x (pl.mem_iff.mp (mX x hx))) (fun x hx=>U.el x (pl.mem_iff.mp (mY x hx))) sX.2 sY.2 ne sX.1 sY.1 fun st' Z z1 z2 z3 z4 z5 z6=>?_
 · rw[pp,List.getElem?_toArray,qaA (by omega),lA,Nat.sub_self];rfl
 · rw[pp,List.getElem?_toArray,qaA (by omega),lA,show As.length+1 - As.length=1 by omega];rfl
 · have lZ:Z.length=X.length+Y.length:=by rw[z6.length_eq,qaq]
   refine q (As++(Z,p1)::Bs) st' ⟨z1,z2,?_,?_,?_,?_⟩ (by simp;omega) ?_
   · rw[z3,pp]
     apply Array.toList_inj.mp
     rw[Array.toList_eraseIdxIfInBounds,Array.toList_setIfInBounds]
     show((eZ 0 As++((flat As).length,X.length,p1)::((flat As).length+X.length,Y.length,p2)::eZ ((flat As).length+X.length+Y.length) Bs).set As.length _).eraseIdx (As.length+1)=eZ 0 (As++(Z,p1)::Bs)
     rw[List.set_append_right _ _ (by omega),lA,Nat.sub_self,List.set_cons_zero,List.eraseIdx_append_of_length_le (by omega),lA,show As.length+1 - As.length=1 by omega,qU,eZ,lZ,Nat.zero_add, <- Nat.add_assoc]
     rfl
   · refine(qbB.mpr ?_).trans R.pm
     rw[z4,ar]
     have:(flat As++Z++(flat Bs++rest)).Perm (flat As++(X++Y)++(flat Bs++rest)):=(z6.append_left _).append_right _
     refine this.trans (List.Perm.of_eq (by simp))
   · rw[z4,kC,flat];simp
   · intro r hr
     rcases qaO.mp hr with h | h
     · exact R.so r (by simp[h])
     · rcases qav.mp h with rfl | h
       · refine⟨fun e=>?_,z5⟩
         have e:Z=[]:=e
         have lx:0<X.length:=List.length_pos_iff.mpr sX.1
         rw[e,List.length_nil] at lZ
         omega
       · exact R.so r (by simp[h])
   · rw[e0,kC,flat]
     simp only[List.length_append]
     omega
theorem N_{rs:Rs}{rest:List Keyed}{st st':SortSt}{n:Nat}(R:Ri κ φ a0 rs rest st)(B:Bs κ a0 (pendingOf st) (flat rs).length (arrOf st) st')(n1:1<=n)(hn:(flat rs).length+n<=a0.size)(up:Up φ (arrOf st') (flat rs).length n) :
 ∃ run rest',run.length=n/\run≠[]/\(run.Pairwise fun x y=>φ x<φ y)/\Ri κ φ a0 rs (run++rest') st':=by
 have sz:=B.pm.size_eq
 have tk:(arrOf st').toList.take (flat rs).length=flat rs:=by
  have e:(arrOf st').toList.take (flat rs).length=(arrOf st).toList.take (flat rs).length:=by
   refine List.ext_getElem? fun i=>?_
   rw[List.getElem?_take,List.getElem?_take]
   split
   · rename_i z
     have:=B.out i z
     rw[<- qau, <- qau] at this
     exact this
   · rfl
  rw[e,R.ar,List.take_left]
 refine⟨((arrOf st').toList.drop (flat rs).length).take n,((arrOf st').toList.drop (flat rs).length).drop n,?_,?_,?_,B.k,B.f,B.p.trans R.p,B.pm,?_,R.so⟩
 · rw[qbn,qa9,qaW];omega
 · intro z
   have:=congrArg List.length z
   rw[qbn,qa9,qaW] at this
   simp at this
   omega
 · rw[qa5]
   intro i j hi hj lt
   rw[qbn] at hi hj
   rw[List.getElem_take,List.getElem_take,List.getElem_drop,List.getElem_drop]
   have:=up ((flat rs).length+i) ((flat rs).length+j) (by omega) (by omega) (by omega)
   rw[qS (qam (by omega)),qS (qam (by omega))] at this
   simpa using this
 · rw[qaJ]
   conv=>rhs;lhs;rw[<- tk]
   rw[qaJ]
end
section
variable{M:Model}{A:Around}{E:Value->Shared->Prop}{s:Shared}{κ:SortKind}{φ:Keyed->Int}{El:Keyed->Prop}{a0:Array Keyed}
theorem FZ:∀ {rs:Rs},(∀ r∈rs,r.1≠[])->rs.length<=(flat rs).length
 | [],_=>qag _
 |r::t,h=>by
   have:=FZ (rs:=t) fun x hx=>h x (qat _ hx)
   have h0:=List.length_pos_iff.mpr (h r (qaw ..))
   rw[flat,qaD,qaq]
   omega
theorem Ri.len{rs:Rs}{rest:List Keyed}{st:SortSt}(R:Ri κ φ a0 rs rest st):(flat rs).length+rest.length=a0.size:=by
 have:=R.pm.size_eq
 rw[<- qaW,R.ar,qaq] at this
 exact this
theorem Oa{c:Prop}[Decidable c](h:a+1<n)(h':b+1<n):(if c then a else b)+1<n:=by
 split
 · exact h
 · exact h'
theorem Ri.push{rs:Rs}{run rest:List Keyed}{st:SortSt}(R:Ri κ φ a0 rs (run++rest) st)(nr:run≠[])(sr:run.Pairwise fun x y=>φ x<φ y){o:Nat}(ho:o=(flat rs).length):Ri κ φ a0 (rs++[(run,0)]) rest (setPending st ((pendingOf st).push (o,run.length,0))):=by
 refine⟨R.k,R.f,?_,R.pm,?_,fun r hr=>?_⟩
 · show(pendingOf st).push (o,run.length,0)=_
   rw[R.p,qU,ho,Nat.zero_add]
   simp[eZ]
 · show(arrOf st).toList=_
   rw[R.ar,kC]
   simp[flat]
 · rcases qaO.mp hr with h | h
   · exact R.so r h
   · rw[qa4.mp h];exact⟨nr,sr⟩
theorem Ri.tF{rs:Rs}{rest:List Keyed}{st:SortSt}(R:Ri κ φ a0 rs rest st)(ne:rs≠[])(pw:Nat):∃ rs',rs'≠[]/\flat rs'=flat rs/\Ri κ φ a0 rs' rest (setPending st ((pendingOf st).modify ((pendingOf st).size - 1) fun x=>(x.1,x.2.1,pw))):=by
 obtain⟨B,r,rfl⟩:∃ B r,rs=B++[r]:=⟨rs.dropLast,rs.getLast ne,(List.dropLast_concat_getLast ne).symm⟩
 have fe:flat (B++[(r.1,pw)])=flat (B++[r]):=by rw[kC,kC];rfl
 refine⟨B++[(r.1,pw)],by simp,fe,R.k,R.f,?_,R.pm,by rw[fe];exact R.ar,fun z hz=>?_⟩
 · show(pendingOf st).modify ((pendingOf st).size - 1) (fun x=>(x.1,x.2.1,pw))=_
   rw[R.p,qU,qU]
   have lB:=tE 0 B
   apply Array.ext_getElem?
   intro i
   rw[Array.getElem?_modify]
   simp only[List.size_toArray,List.length_append,lB,eZ,List.length_singleton,Nat.add_sub_cancel,List.getElem?_toArray]
   by_cases e:B.length=i
   · rw[qay e, <- e,qaA (by omega),qaA (by omega),lB,Nat.sub_self]
     rfl
   · rw[qaz e]
     by_cases e2:i<B.length
     · rw[qaH (by omega),qaH (by omega)]
     · rw[qaA (by omega),qaA (by omega),List.getElem?_eq_none (by simp;omega),List.getElem?_eq_none (by simp;omega)]
 · rcases qaO.mp hz with h | h
   · exact R.so z (qbd _ h)
   · rw[qa4.mp h];exact R.so r (by simp)
theorem mL(C:jq M A E s κ φ El)(U:Un φ El a0){st:SortSt}{Q:Unit->SortSt->Prop}(h2:2<=a0.size)(R0:Ri κ φ a0 [] a0.toList st)(q:∀ st',failedOf st'=none->(arrOf st').Perm a0->((arrOf st').toList.Pairwise fun x y=>φ x<φ y)->Q () st'):wpS M A E s sortRuns' Q st:=by
 rw[sortRuns'_eq]
 refine qaj (wpS_get ?_)
 dsimp only
 rw[R0.pm.size_eq]
 refine qaj (wpS_mono (qbe (I:=fun n t st'=>∃ rs rest,t=(none,(flat rs).length)/\Ri κ φ a0 rs rest st'/\(n<=(flat rs).length\/a0.size<=(flat rs).length)) (Q:=fun t st'=>∃ rs,t=(none,(flat rs).length)/\Ri κ φ a0 rs [] st') ?step ?fin ⟨[],a0.toList,rfl,R0,.inl (qag _)⟩) ?post)
 case fin =>
  rintro t st' ⟨rs,rest,rfl,R,h⟩
  have:=R.len
  have e:rest=[]:=List.length_eq_zero_iff.mp (by omega)
  subst e
  exact⟨rs,rfl,R⟩
 case step =>
  rintro n t st' _ hn ⟨rs,rest,rfl,R,h⟩
  dsimp only
  have ln:=R.len
  refine bx (fun c=>?_) fun c=>?_
  · have e:rest=[]:=List.length_eq_zero_iff.mp (by omega)
    subst e
    exact qan ⟨rs,rfl,R⟩
  have B0:Bs κ a0 (pendingOf st') (flat rs).length (arrOf st') st':=⟨R.k,R.f,rfl,R.pm,fun _ _=>rfl⟩
  refine qaj (N5 C U (by omega) B0 fun m st2 m1 m2 B up=>?_)
  dsimp only
  refine bx (fun c3=>?_) fun c3=>?_
  case' refine_1 =>
   refine qaj (wpS_lift (wpAny_rule ⟨rfl,?_⟩))
   refine qaj (N8 C U (n:=min (a0.size - (flat rs).length) (minRun' a0.size a0.size 0)) (by omega) m1 (by omega) B up fun st3 B3 Aw=>?_)
   refine bx (fun z=>by simp at z) fun _=>?_
   obtain⟨K,hK⟩:∃ K,K=min (a0.size - (flat rs).length) (minRun' a0.size a0.size 0):=⟨_,rfl⟩
   rw[<- hK] at Aw ⊢
   have k1:1<=K:=by omega
   have k2:(flat rs).length+K<=a0.size:=by omega
  case' refine_2 =>
   obtain⟨K,hK⟩:∃ K,K=m:=⟨_,rfl⟩
   subst hK
   have k1:=m1
   have k2:=m2
   have Aw:=up
   have B3:=B
  all_goals
   obtain⟨run,rest',lr,nr,sr,R3⟩:=N_ R B3 k1 k2 Aw
   subst lr
   refine qaj (wpS_get ?_)
   cases hb:(pendingOf _).back? with
   |none=>exact qaj (wpS_modify (qan ⟨rs++[(run,0)],rest',by rw[kC,qaq];simp[flat],R3.push nr sr rfl,by rw[kC,qaq];simp[flat];omega⟩))
   |some v =>
     obtain⟨s1,n1,v⟩:=v
     have Ob:rs≠[]:=fun z=>by
      rw[R3.p,z] at hb
      cases hb
     dsimp only
     refine qaj (wpS_mono (qbe (I:=fun n t st'=>t=(none,())/\∃ rs',Ri κ φ a0 rs' (run++rest') st'/\rs'≠[]/\(flat rs').length=(flat rs).length) (Q:=fun t st'=>t=(none,())/\∃ rs',Ri κ φ a0 rs' (run++rest') st'/\rs'≠[]/\(flat rs').length=(flat rs).length) ?_ (fun _ _ h=>h) ⟨rfl,rs,R3,Ob,rfl⟩) ?_)
     · rintro j t eF _ _ ⟨rfl,kD,R5,ne5,l5⟩
       refine qaj (wpS_get ?_)
       have ps:(pendingOf eF).size=kD.length:=by rw[R5.p];simp[tE]
       by_cases c5:(pendingOf eF).size > 1
       · rw[qay c5]
         obtain⟨⟨a,b,w⟩,hw⟩:∃ w,(pendingOf eF)[(pendingOf eF).size - 2]? = some w:=⟨_,qam (by omega)⟩
         rw[hw]
         dsimp only
         refine bx (fun _=>qan ⟨rfl,kD,R5,ne5,l5⟩) fun _=>?_
         refine qaj (R5.merge C U (by omega) fun tG Oc R6 l6 f6=>?_)
         refine bx (fun z=>by simp at z) fun _=>qan ⟨rfl,tG,R6,fun z=>?_,f6.trans l5⟩
         rw[z,List.length_nil] at l6
         omega
       · rw[qaz c5]
         exact qan ⟨rfl,kD,R5,ne5,l5⟩
     · rintro t eF ⟨rfl,kD,R5,ne5,l5⟩
       dsimp only
       refine qaj (wpS_modify ?_)
       obtain⟨tG,SY,f6,R6⟩:=R5.tF ne5 _
       refine qaj (wpS_modify (qan ⟨tG++[(run,0)],rest',?_,R6.push nr sr (by rw[f6,l5]),?_⟩))
       · rw[kC,qaq,f6,l5];simp[flat]
       · rw[kC,qaq,f6,l5]
         have:=List.length_pos_iff.mpr nr
         simp[flat]
         omega
 case post =>
  rintro t st' ⟨rs,rfl,R⟩
  dsimp only
  have ln:=R.len
  rw[List.length_nil] at ln
  have fg:=FZ fun r hr=>(R.so r hr).1
  refine qaj (wpS_mono (qbe (I:=fun n t st'=>t=(none,())/\∃ rs',Ri κ φ a0 rs' [] st'/\rs'.length+n<=a0.size) (Q:=fun t st'=>t=(none,())/\∃ rs',Ri κ φ a0 rs' [] st'/\rs'.length<=1) ?_ ?_ ⟨rfl,rs,R,by omega⟩) ?_)
  · rintro j t eF _ _ ⟨rfl,kD,R5,l5⟩
    refine qaj (wpS_get ?_)
    have ps:(pendingOf eF).size=kD.length:=by rw[R5.p];simp[tE]
    refine bx (fun c=>qan ⟨rfl,kD,R5,by omega⟩) fun c=>?_
    refine qaj (R5.merge C U (Oa (by omega) (by omega)) fun tG Oc R6 l6 f6=>?_)
    exact bx (fun z=>by simp at z) fun _=>qan ⟨rfl,tG,R6,by omega⟩
  · rintro t eF ⟨rfl,kD,R5,l5⟩
    exact⟨rfl,kD,R5,by omega⟩
  · rintro t eF ⟨rfl,kD,R5,l5⟩
    refine qan (q eF R5.f R5.pm ?_)
    rw[R5.ar,qaX]
    match kD,l5,R5 with
    | [],_,_=>exact .nil
    | [r],_,R5=>rw[flat,flat,qaX];exact(R5.so r (by simp)).2
    | _::_::_,h,_=>simp at h
end
end Ti
namespace So
open PySem PySem.W PyProof.Rows St
theorem Ax{α β:Type}(f:α->β):∀ {zs:List α} {vs:List β},vs.Perm (zs.map f)->∃ zs':List α,vs=zs'.map f/\zs'.Perm zs
 | [],vs,h=>⟨[],by simpa using h,.nil⟩
 |z::r,vs,h=>by
   have hm:f z∈vs:=h.mem_iff.mpr (by simp)
   obtain⟨a,b,rfl⟩:=List.append_of_mem hm
   have h':(a++b).Perm (r.map f):=by
    have:=List.perm_middle.symm.trans h
    exact(List.perm_cons (f z)).mp this
   obtain⟨zs',e,pm⟩:=Ax f h'
   refine⟨zs'.take a.length++z::zs'.drop a.length,?_,?_⟩
   · rw[List.map_append,qaV,List.map_take,List.map_drop, <- e]
     simp
   · refine List.perm_middle.trans ?_
     rw[qaJ]
     exact List.Perm.cons z pm
section
variable{prog:Program}{w:World}{A:Around}{E:Value->Shared->Prop}{s:Shared}{a p q:Addr}
def enc(z:Int×Int):Int:=31 * z.1+z.2
theorem Od(hy:bp y)(hz:bp z):enc y<enc z ↔ y.1<z.1\/y.1=z.1/\y.2<z.2:=by
 obtain⟨⟨a1,a2⟩,a3,a4⟩:=hy
 obtain⟨⟨b1,b2⟩,b3,b4⟩:=hz
 unfold enc
 omega
theorem F0(hy:bp y)(hz:bp z)(e:enc y=enc z):y=z:=by
 obtain⟨⟨a1,a2⟩,a3,a4⟩:=hy
 obtain⟨⟨b1,b2⟩,b3,b4⟩:=hz
 unfold enc at e
 exact Prod.ext (by omega) (by omega)
theorem Oe(hy:bO s.heap y p)(hz:bO s.heap z q)(sy:bp y)(sz:bp z)(h:Q (decide (enc y<enc z)) s):wpAny (model prog w) A (keyLt' (tuples' true) (.ref p) (.ref q)) Q E s:=by
 obtain⟨o1,i1,n1,t1,u1,g1,c1,d1,e1⟩:=hy
 obtain⟨o2,i2,n2,t2,u2,g2,c2,d2,e2⟩:=hz
 refine kat_lt g1 d1 g2 d2 ?_
 rw[e1,e2]
 have el:=Od sy sz
 refine kat_cons (wpAny_eqBool_int ?_)
 refine kat_go (fun c=>?_) fun c=>?_
 · have c:=qaB c
   refine kat_yes (kat_cons (wpAny_eqBool_int ?_))
   refine kat_go (fun c'=>?_) fun c'=>?_
   · have c':=qaB c'
     refine kat_yes (kat_nil ?_)
     have z1:i1.size=2:=by have:=congrArg List.length e1;simpa using this
     have z2:i2.size=2:=by have:=congrArg List.length e2;simpa using this
     rw[z1,z2]
     have : ¬ enc y<enc z:=fun z=>by rcases el.mp z with z | z<;>omega
     rw[qaU this] at h
     exact h
   · have c':=of_decide_eq_false c'
     refine kat_no (kat_one _ _ (PyProof.Rows.lt_int ?_))
     have:decide (y.2<z.2)=decide (enc y<enc z):=decide_eq_decide.mpr ⟨fun z=>el.mpr (.inr ⟨c,z⟩),fun z=>by rcases el.mp z with z | z;exact absurd c (Int.ne_of_lt z);exact z.2⟩
     show Q (decide (y.2<z.2)) s
     rw[this]
     exact h
 · have c:=of_decide_eq_false c
   refine kat_no ?_
   show wpAny _ _ (keyLt' oneType' _ _) _ _ _
   refine kat_lt_int ?_
   have:decide (y.1<z.1)=decide (enc y<enc z):=decide_eq_decide.mpr ⟨fun z=>el.mpr (.inl z),fun z=>by rcases el.mp z with z | z;exact z;exact absurd z.1 c⟩
   rw[this]
   exact h
theorem bO.ref(x:bO h z p):∃ o xs n t,h.get? p=some o/\o.cls = .type "tuple" /\ o.data = .seq xs n/\xs[0]? = some (.int z.1 t):=by
 obtain⟨o,i,n,t,u,g,c,d,e⟩:=x
 exact⟨o,i,n,t,g,c,d,by rw[<- qau,e];rfl⟩
def refs(zs:List Z):List Value:=zs.map fun z=>.ref z.2
theorem F4:∀ (zs:List Z),(∀ z∈zs,bO h z.1 z.2)->∃ fs,KatTups h (refs zs) fs/\fs.length=zs.length/\∀ v∈fs,∃ k t,v = .int k t
 | [],_=>⟨[],trivial,rfl,fun v hv=>(nomatch hv)⟩
 |z::r,h0=>by
   obtain⟨fs,a,b,c⟩:=F4 r fun y hy=>h0 y (.tail _ hy)
   obtain⟨o,xs,n,t,g,cl,d,e⟩:=bO.ref (h0 z (.head _))
   exact⟨.int z.1.1 t::fs,KatTups.cons g cl d e a,by simp[b],fun v hv=>by
    rcases qav.mp hv with q | q
    · exact⟨_,_,q⟩
    · exact c v q⟩
theorem Of(k:Int)(t:Tok):Looks M h (typeOf (.int k t)) (.type "int"):=fun A Q E s _ q=>wpAny_typeOf (typeIs_int s k t) q
def kd(z:Z):Value×Value:=(.ref z.2,.ref z.2)
open Classical in
def kf(zs:List Z)(x:Value×Value):Int:=if h:∃ z∈zs,x=kd z then enc h.choose.1 else 0
theorem bO.inj(hy:bO h y p)(hz:bO h z p):y=z:=by
 obtain⟨o1,i1,n1,t1,u1,g1,c1,d1,e1⟩:=hy
 obtain⟨o2,i2,n2,t2,u2,g2,c2,d2,e2⟩:=hz
 rw[g1] at g2
 cases g2
 rw[d1] at d2
 cases d2
 rw[e1] at e2
 simp only[List.cons.injEq,Value.int.injEq,and_true] at e2
 exact Prod.ext e2.1.1 e2.2.1
theorem kf_at{h:Heap}{zs:List Z}(hz:∀ z∈zs,bO h z.1 z.2):∀ z∈zs,kf zs (kd z)=enc z.1:=fun z hm=>by
 have ex:∃ y∈zs,kd z=kd y:=⟨z,hm,rfl⟩
 unfold kf
 rw[dif_pos ex]
 have c:=ex.choose_spec
 have e:z.2=ex.choose.2:=by have:=congrArg Prod.fst c.2;exact Value.ref.inj this
 have:=hz _ c.1
 rw[<- e] at this
 rw[bO.inj this (hz z hm)]
theorem F5:∀ {l:List (Int×Int)},(∀ x∈l,bp x)->l.Nodup->(l.map enc).Nodup
 | [],_,_=>.nil
 |x::r,sm,nd=>by
   rw[qbg] at nd
   rw[qaV,qbg]
   refine⟨fun h=>?_,F5 (fun y hy=>sm y (.tail _ hy)) nd.2⟩
   obtain⟨y,hy,e⟩:=qa7.mp h
   exact nd.1 (by rw[<- F0 (sm y (.tail _ hy)) (sm x (.head _)) e];exact hy)
theorem Og{n:Nat}{zs:List Z}{P:PySem.Fin->Shared->Prop}(ho:s.heap.get? a=some (seqObj "list" (refs zs).toArray n))(hz:∀ z∈zs,bO s.heap z.1 z.2)(sm:∀ z∈zs,bp z.1)(nd:(zs.map (·.1)).Nodup)(hl:zs.length<512)
 (h:∀ zs',zs'.Perm zs->zs'.Pairwise (fun y z=>enc y.1<=enc z.1)->P (.done (.ret .none)) { s with heap:=sortedHeap s.heap a (refs zs) (refs zs').toArray }):wpAny (model prog w) A (Builtin.«list.sort» ⟨[.ref a],[]⟩) P E s:=by
 have ha:a<s.heap.objs.size:=qaf ho
 have rl:(refs zs).length=zs.length:=by simp[refs]
 have big:(512:Nat)<=sizeLine:=by decide
 rw[list_sort_plain]
 refine qaa (listItems_at ho rfl ?_)
 refine qaa (listUpdate_at ho rfl ?_ (by rw[qaP,rl];omega) (qbp _))
 obtain⟨e1,ho1⟩:∃ e1,(s.heap.update a (Obj.mapSeq fun _=>(#[]:Array Value))).get? a=some (seqObj "list" #[] e1):=⟨_,get?_update_seq ho fun _ => #[]⟩
 refine qaa (seqEpoch_at ho1 rfl ?_)
 refine qaa (wpAny_newTuple ?_ (by show(refs zs).length<=_;rw[rl];omega))
 refine qaa (wpAny_newList ?_ (qbp _))
 refine qaY ?_
 generalize hH:((s.heap.update a (Obj.mapSeq fun _=>(#[]:Array Value))).push (seqObj "tuple" (refs zs).toArray 0)).push (seqObj "list" #[] 0)=H
 show wpAny (model prog w) A _ P E { s with heap:=H }
 have ho6:H.get? a=some (seqObj "list" #[] e1):=by
  rw[<- hH,Heap.get?_push_ne _ _ _ (by rw[size_push',Heap.size_update];exact qal (qbP ha)),Heap.get?_push_ne _ _ _ (by rw[Heap.size_update];exact qal ha)]
  exact ho1
 have wa:∀ z∈zs,bO H z.1 z.2:=fun z F6=>(hz z F6).at fun o e=>by
  have ne:z.2≠a:=fun q=>by
   obtain⟨o',xs,n',t,g,cl,_⟩:=bO.ref (hz z F6)
   rw[q,ho] at g
   have g:=qaL g
   rw[<- g] at cl
   exact absurd cl (show(Value.type "list") ≠ .type "tuple" by decide)
  rw[<- hH]
  exact qab _ (qab _ ((qaF _ _ (qaT ne)).trans e))
 have fin:∀ (zs':List Z) (st:SortSt),zs'.Perm zs->zs'.Pairwise (fun y z=>enc y.1<=enc z.1)->(arrOf st).map (·.2)=(refs zs').toArray->failedOf st=none->wpAny (model prog w) A (do
  let touched:=(<- seqEpoch a) != e1
  Builtin.List.listUpdate (.ref a) fun _=>(arrOf st).map (·.2)
  if let some e:=failedOf st then rule "list.sort.comparison-raised";throw e
  if touched then rule "list.sort.modified";raiseError "ValueError" "list modified during sort"
  ret .none) P E { s with heap:=H }:=fun zs' st pm pw har hf=>by
  refine qaa (seqEpoch_at (s:={ s with heap:=H }) ho6 rfl ?_)
  rw[har]
  refine qaa (listUpdate_at (s:={ s with heap:=H }) ho6 rfl ?_ (qbp _) (by show(refs zs').toArray.size<=_;have:=pm.length_eq;simp[refs];omega))
  rw[hf]
  simp only[bne_self_eq_false,Bool.false_eq_true,if_false]
  refine qac ?_
  have:=h zs' pm pw
  unfold sortedHeap at this
  rw[hH] at this
  exact this
 dsimp only
 have sz:(refs zs).toArray.size=zs.length:=by rw[qaP,rl]
 have snd:((refs zs).toArray.zip (refs zs).toArray).map (·.2)=(refs zs).toArray:=by
  apply Array.toList_inj.mp
  simp[Array.toList_zip,List.map_snd_zip]
 by_cases h2:(refs zs).toArray.size<2
 · rw[qay h2,qay h2]
   refine qaa (qac ?_)
   rw[StateT.run_pure]
   refine qaa (qac ?_)
   dsimp only
   refine fin zs (SortSt.mk' general' ((refs zs).toArray.zip (refs zs).toArray) #[] 7 none) (.refl _) ?_ snd rfl
   rw[sz] at h2
   match zs,h2 with
   | [],_=>exact .nil
   | [z],_=>simp
   | _::_::_,h2=>exact absurd h2 (by simp only[List.length_cons];omega)
 · rw[qaz h2,qaz h2]
   rw[sz] at h2
   have h2':2<=zs.length:=by omega
   obtain⟨fs,kt,fl,fi⟩:=F4 zs wa
   refine qaa (kat_kind (s:={ s with heap:=H }) (T:=.type "int") kt (by omega) (fun v hv=>by obtain⟨k,t,rfl⟩:=fi v hv;exact Of k t) (by decide) ?_)
   have tt:(Value.type "int" != Value.type "tuple")=true:=by decide
   rw[tt]
   have zl:((refs zs).toArray.zip (refs zs).toArray).toList=zs.map kd:=by
    rw[Array.toList_zip]
    unfold refs
    simp only[List.zip_map']
    rfl
   have fE:=kf_at wa
   have fin':∀ x,(∃ z∈zs,x=kd z)->∃ z∈zs,x=kd z:=fun x h=>h
   refine qaa (qao (Ti.mL (M:=model prog w) (A:=A) (E:=E) (s:={ s with heap:=H }) (κ:=tuples' true) (φ:=kf zs) (El:=fun x=>∃ z∈zs,x=kd z) (a0:=(refs zs).toArray.zip (refs zs).toArray) (st:=SortSt.mk' (tuples' true) ((refs zs).toArray.zip (refs zs).toArray) #[] 7 none)
    (Q:=fun _ st'=>∃ zs',(arrOf st').map (·.2)=(refs zs').toArray/\zs'.Perm zs/\zs'.Pairwise (fun y z=>enc y.1<=enc z.1)/\failedOf st'=none) ?_ ⟨?_,?_⟩ ?_ ⟨rfl,rfl,rfl,.refl _,rfl,fun r hr=>by cases hr⟩ ?_) ?_ fun _ _ x=>x)
   · rintro x y st Q ⟨z,hz,rfl⟩ ⟨z',hz',rfl⟩ hk q
     rw[fE z hz,fE z' hz'] at q
     rw[lt'_eq]
     refine qaj (wpS_get ?_)
     rw[hk]
     refine qaj (wpS_lift (qbM (Oe (s:={ s with heap:=H }) (wa z hz) (wa z' hz') (sm z hz) (sm z' hz') ⟨rfl,?_⟩)))
     exact qan q
   · rw[zl]
     intro x hx
     obtain⟨z,hz,rfl⟩:=qa7.mp hx
     exact⟨z,hz,rfl⟩
   · rw[zl,List.map_map,show zs.map (kf zs ∘ kd)=(zs.map (·.1)).map enc by rw[List.map_map];exact List.map_congr_left fun z hz=>fE z hz]
     exact F5 (fun x hx=>by obtain⟨z,hz,rfl⟩:=qa7.mp hx;exact sm z hz) nd
   · rw[Array.size_zip];simp[refs];omega
   · intro st' hf pm so
     have pl:=qbB.mp pm
     rw[zl] at pl
     obtain⟨zs',e,pz⟩:=Ax kd pl
     refine⟨zs',?_,pz,?_,hf⟩
     · apply Array.toList_inj.mp
       rw[Array.toList_map,e,List.map_map]
       rfl
     · rw[e,List.pairwise_map] at so
       refine(List.pairwise_iff_forall_sublist.mpr fun {a b} h=>?_)
       have:=List.pairwise_iff_forall_sublist.mp so h
       have ma:a∈zs:=pz.mem_iff.mp (h.subset (by simp))
       have mb:b∈zs:=pz.mem_iff.mp (h.subset (by simp))
       rw[fE a ma,fE b mb] at this
       exact Int.le_of_lt this
   · rintro⟨⟨⟩,st'⟩ s' ⟨rfl,zs',har,pz,pw,hfl⟩
     exact fin zs' st' pz pw har hfl
end
section
variable{prog:Program}{w:World}{A:Around}{E:Value->Shared->Prop}{s:Shared}{a:Addr}
theorem Oh{zs:List Z}{Q:Value->Shared->Prop}(hh:A.handled=none)(hS:bP (w.params.followText "set-order") s.heap a zs)(hz:∀ z∈zs,bO s.heap z.1 z.2)(h64:zs.length<512)
 (h:∀ (h':Heap) (d:Drawn) (tk:Nat) (p:Addr) (e:Nat) (zs':List Z),s.heap.objs.size<=p->(∀ b o,s.heap.get? b=some o->h'.get? b=some o)->h'.get? p=some { cls:=.type "list",dict:=none,data:=.seq (refs zs').toArray e,slots := #[] }->zs'.Perm zs->zs'.Pairwise (fun y z=>enc y.1<=enc z.1)->Q (.ref p) { s with heap:=h',drawn:=d,toks:=tk }) :
 wpAny (model prog w) A (call (.builtin "sorted") [.ref a]) Q E s:=by
 obtain⟨es,ep,t,ha,T,nf⟩:=hS
 have big:(512:Nat)<=sizeLine:=by decide
 have len:=T.len
 refine Calls.call_function_entry kind_sorted plain_sorted entry_sorted (args_sorted1 _) (show wpAny _ _ (checkCount "sorted" 1 1 1 >>= _) _ _ _ from qaa (qac ?_))
 refine qaa (IE hh ha T.hon T.fits (by omega) fun vs h1 d tk le k1 pv=>?_)
 have em:es.toList.map (·.2)=refs zs:=by
  rw[T.el,List.map_map]
  unfold refs
  exact List.map_congr_left fun z _=>by rw[Function.comp_apply,rD]
 rw[em] at pv
 obtain⟨qV,rfl,eO⟩:=Ax (fun z:Z=>Value.ref z.2) pv
 have l1:=eO.length_eq
 have vl:(qV.map fun z:Z=>Value.ref z.2).length=qV.length:=by simp
 refine qaa (wpAny_newList ?_ (by rw[vl];omega))
 show wpAny _ _ _ _ _ { s with heap:=h1.push (seqObj "list" (refs qV).toArray 0),drawn:=d,toks:=tk }
 have hoL:(h1.push (seqObj "list" (refs qV).toArray 0)).get? h1.objs.size=some (seqObj "list" (refs qV).toArray 0):=qah _ rfl
 refine qaa (qaY (qa0 slot_list_sort ⟨_,hoL,rfl⟩ entry_list_sort (Og (s:={ s with heap:=h1.push (seqObj "list" (refs qV).toArray 0),drawn:=d,toks:=tk }) hoL (fun z hz1=>(hz z (eO.mem_iff.mp hz1)).at fun o e=>qab _ (k1 _ _ e)) (fun z hz1=>T.sm z (eO.mem_iff.mp hz1)) ((eO.map _).nodup_iff.mpr T.nd) (by omega) fun zs' pm pw=>⟨_,rfl,?_⟩) (args_list_sort _)))
 obtain⟨e,ge⟩:=IF hoL (refs zs').toArray
 exact qac ⟨_,rfl,h _ d tk h1.objs.size e zs' le (fun b o z=>IG (qal (qaf (k1 b o z))) (qab _ (k1 b o z))) ge (pm.trans eO) pw⟩
end
end So
namespace L2
open PySem PySem.Spec PyProof.Rows Ex St So
section
variable{X:Cx}
def F7(X:Cx)(xs:List V)(H:Hp)(Q:VK):Prop:=∃ (p:Addr) (zs:List Z),xs=[.ref p]/\H p=some (td X p zs)/\(∀ z∈zs,H z.2=some (.tup [.int z.1.1,.int z.1.2]))/\zs.length<512 /\
 ∀ (q:Addr) (zs':List Z),H q=none->zs'.Perm zs->zs'.Pairwise (fun y z=>enc y.1<=enc z.1)->Q (.ref q) (upd H q (.lst (zs'.map fun z=>V.ref z.2)))
theorem F8:∀ zs:List Z,Vals (zs.map fun z=>V.ref z.2) (refs zs)
 | []=>.nil
 |z::r=>.cons rfl (F8 r)
theorem F9(calm:X.calm=true):aB X (.builtin "sorted") (F7 X):=by
 intro pins s σ H xs us Q I r h
 obtain⟨p,zs,rfl,hp,ht,hn,q⟩:=h
 obtain⟨u,rfl,ru⟩:=r.one
 cases ru
 obtain⟨S,_⟩:=I.hok p _ hp
 refine Oh (I.ok.hd calm) S (fun z hz=>vX I.hok (ht z hz)) hn fun h' d tk p' e zs' le k g pm pw=>?_
 refine⟨.ref p',upd H p' (.lst (zs'.map fun z=>V.ref z.2)),(I.laid (t':=tk) (o:=.lst (zs'.map fun z=>V.ref z.2)) k le ⟨?_,refs zs',e,F8 zs',g⟩).drawn d,rfl,q _ zs' (I.hok.fresh le) pm pw⟩
 rw[qaK,pm.length_eq]
 have z:(512:Nat)<=sizeLine:=by decide
 omega
end
end L2
namespace Dv
open PySem L2 Ex St So
variable[KC]
def pD(c:Int×Int):D:=.tup [.int c.1,.int c.2]
noncomputable def asP:List D->Option (List (Int×Int))
 | []=>some []
 | .tup [.int i,.int j]::r=>if decide (0<=i) && decide (i<=30) && decide (0<=j) && decide (j<=30) then (asP r).map ((i,j) :: ·) else none
 | _=>none
omit [KC] in
theorem tH(h:asP (d::r)=some cs):∃ c cs',d=pD c/\bp c/\asP r=some cs'/\cs=c::cs':=by
 unfold asP at h
 split at h
 · cases ‹d::r=[]›
 · rename_i i j r' e
   cases e
   split at h
   · rename_i c
     simp only[Bool.and_eq_true,decide_eq_true_eq] at c
     cases q:asP r with
     |none=>rw[q] at h;cases h
     |some cs'=>rw[q] at h;cases h;exact⟨(i,j),cs',rfl,⟨⟨c.1.1.1,c.1.1.2⟩,c.1.2,c.2⟩,rfl,rfl⟩
   · cases h
 · cases h
omit [KC] in
theorem Ay:∀ {a b:List D} {cs:List (Int×Int)},asP (a++b)=some cs->∃ c1 c2,asP a=some c1/\asP b=some c2/\cs=c1++c2
 | [],b,cs,h=>⟨[],cs,rfl,h,rfl⟩
 |d::a,b,cs,h=>by
   obtain⟨c,cs',rfl,sm,h',rfl⟩:=tH (r:=a++b) h
   obtain⟨c1,c2,e1,e2,rfl⟩:=Ay h'
   refine⟨c::c1,c2,?_,e2,rfl⟩
   show(if decide (0<=c.1) && decide (c.1<=30) && decide (0<=c.2) && decide (c.2<=30) then (asP a).map (c :: ·) else none)=_
   rw[qay (by simp only[Bool.and_eq_true,decide_eq_true_eq];exact⟨⟨⟨sm.1.1,sm.1.2⟩,sm.2.1⟩,sm.2.2⟩),e1]
   rfl
omit [KC] in
theorem Oi{K:Type}[BEq K][LawfulBEq K](σ:List K)(v x:K):x∈PyProof.Rows.step_dedup σ v ↔ x∈σ\/x=v:=by
 unfold PyProof.Rows.step_dedup
 split
 · rename_i h
   rw[List.any_eq_true] at h
   obtain⟨y,hy,e⟩:=h
   have e:y=v:=by simpa using e
   subst e
   exact⟨.inl,fun z=>z.elim id fun e=>by rw[e];exact hy⟩
 · simp
omit [KC] in
theorem Oj{K:Type}[BEq K][LawfulBEq K]{σ:List K}(h:σ.Nodup)(v:K):(PyProof.Rows.step_dedup σ v).Nodup:=by
 unfold PyProof.Rows.step_dedup
 split
 · exact h
 · rename_i q
   rw[List.nodup_append]
   refine⟨h,by simp,fun a ha b hb e=>?_⟩
   rw[qa4] at hb
   subst hb
   subst e
   exact q (List.any_eq_true.mpr ⟨a,ha,by simp⟩)
omit [KC] in
theorem Az{K:Type}[BEq K][LawfulBEq K]:∀ (ns σ:List K),σ.Nodup->(ns.foldl PyProof.Rows.step_dedup σ).Nodup/\∀ x,x∈ns.foldl PyProof.Rows.step_dedup σ ↔ x∈σ\/x∈ns
 | [],σ,h=>⟨h,fun x=>by simp⟩
 |v::r,σ,h=>by
   obtain⟨a,b⟩:=Az r _ (Oj h v)
   refine⟨a,fun x=>?_⟩
   rw[List.foldl_cons,b x,Oi,qav,or_assoc]
noncomputable def tI(cs:List (Int×Int)):List (Int×Int):=cs.foldl PyProof.Rows.step_dedup []
def aM(cs:List (Int×Int)):List (Int×Int):=(tI cs).mergeSort fun a b=>decide (enc a<=enc b)
omit [KC] in
theorem AA(cs:List (Int×Int)):(aM cs).Perm (tI cs):=List.mergeSort_perm ..
omit [KC] in
theorem bz:c∈aM cs ↔ c∈cs:=by
 rw[(AA cs).mem_iff]
 have:=(Az cs [] List.nodup_nil).2 c
 simpa [tI] using this
omit [KC] in
theorem wc(cs:List (Int×Int)):(aM cs).Nodup:=(AA cs).nodup_iff.mpr (Az cs [] List.nodup_nil).1
omit [KC] in
theorem wd(cs:List (Int×Int)):(aM cs).Pairwise fun a b=>enc a<=enc b:=by
 have h:=List.pairwise_mergeSort (le:=fun a b:Int×Int=>decide (enc a<=enc b)) (fun a b c h1 h2=>qaG (Int.le_trans (qaB h1) (qaB h2))) (fun a b=>by
  rcases Int.le_total (enc a) (enc b) with h | h
  · rw[qaG h];rfl
  · rw[qaG h,Bool.or_true]) (tI cs)
 exact h.imp fun h=>qaB h
omit [KC] in
theorem tJ{cs l:List (Int×Int)}(sm:∀ c∈cs,bp c)(nd:l.Nodup)(pw:l.Pairwise fun a b=>enc a<=enc b)(hm:∀ c,c∈l ↔ c∈cs):l=aM cs:=by
 have pm:l.Perm (aM cs):=(List.perm_ext_iff_of_nodup nd (wc cs)).mpr fun c=>by rw[hm c,bz]
 refine List.Perm.eq_of_pairwise (le:=fun a b=>enc a<=enc b) (fun a b ha hb h1 h2=>?_) pw (wd cs) pm
 exact F0 (sm a ((hm a).mp ha)) (sm b (bz.mp hb)) (Int.le_antisymm h1 h2)
omit [KC] in
theorem AB:∀ {ds:List D} {cs:List (Int×Int)},asP ds=some cs->∀ c∈cs,bp c
 | [],cs,h=>by cases h;intro c hc;cases hc
 |d::r,cs,h=>by
   obtain⟨c,cs',rfl,sm,h',rfl⟩:=tH h
   intro x hx
   rcases qav.mp hx with e | e
   · rw[e];exact sm
   · exact AB h' x e
def we(out:List D->Option RV)(items:M (List D))(fr:List Nat)(own:Nat)(m:D->M Unit)(p:M Bool)(f:M RV):M RV:=M.bind items fun ds=>if ds.length<256 then M.bind (cS fr own m p f ds) fun ys=>M.cx (out ys) else M.st
def qW(ys:List D):Option RV:=(asP ys).map fun cs=>.new (.lst ((aM cs).map pD))
abbrev F_:=we qW
section
variable{X:Cx}{EE:aT}{ios:List Addr}{p:M Bool}{f:M RV}
omit [KC] in
theorem Ga[KC](h:Rp R x (pD c)):∃ a,x = .ref a/\R a=some (.tup [.int c.1,.int c.2]):=by
 unfold pD at h
 cases h with
 |tup e hs =>
   cases hs with
   |cons h1 hs =>
     cases hs with
     |cons h2 hs =>
       cases hs
       cases h1
       cases h2
       exact⟨_,rfl,e⟩
theorem AE:∀ (zs:List Z),(∀ z∈zs,R z.2=some (.tup [.int z.1.1,.int z.1.2]))->aw R (zs.map fun z=>V.ref z.2) ((zs.map (·.1)).map pD)
 | [],_=>.nil
 |z::r,h=>.cons (.tup (h z (.head _)) (.cons (.int _) (.cons (.int _) .nil))) (AE r fun y hy=>h y (.tail _ hy))
theorem Ol:∀ (ds:List D) (Γ:En) (x:Xc) (Γ':En) (_ _ _:Unit),cS fr own m p f ds Γ ≠ .ex x Γ'
 | [],_,_,_,_,_,_=>fun h=>by cases h
 |d::r,Γ,x,Γ',_,_,_=>fun h=>by
   unfold cS at h
   split at h
   · split at h<;>cases h
   · cases h
theorem Om{β:Type}(S:SK X β){rS:List V->Hp->VK->Prop}{out:List D->Option RV}(inv:β->List D->Hp->Prop)(hmono:∀ b ys R R',inv b ys R->ae R R'->inv b ys R')(h0:∀ R,inv S.e0 [] R)
 (hstep:∀ b ys dy zr rv y R H P,inv b ys R->ys.length<256->out (ys++dy::zr)=some rv->Rp R y dy->ae R H->(∀ b',inv b' (ys++[dy]) R->P b')->S.AD b y H P)
 (hfin:∀ b ys R H A (Q:VK) rv,inv b ys R->ae R H->H A=some (S.O A b)->ys.length<256->out ys=some rv->(∀ z H' R',Al R H R' H'->jf R' H H' z rv->Q z H')->rS [.ref A] H Q)
 {wi:TI} {gt:TG} {tc:TT} {te:TE} {items:M (List D)} {m:D->M Unit} {fr:List Nat} {own:Nat} (hn:fr.Nodup) (hi:qD EE ios wi items) (hg:iV ios own gt m) (hk:mB own m) (hc:je EN ios tc p) (he:eV EN ios te f) :
 eV EE ios (fun σ H Q=>Ap S fr own wi gt tc te σ H (fun x H1=>rS [x] H1 Q)) (we out items fr own m p f):=by
 intro σ H R Γ Q er w
 unfold we at w
 rw[Zj] at w
 refine hi σ H R Γ _ er (aG w (fun ds ag w J H1 R1 p1 hJ=>?_) fun _ _ z=>z)
 split at w
 · rename_i hsz
   rw[Zj] at w
   cases hall:cS fr own m p f ds ag with
   |ex _ _=>exact absurd hall (Ol _ _ _ _ () () ())
   |st=>rw[hall] at w;exact False.elim w
   |ok Gb AF =>
   rw[hall] at w
   obtain⟨rv,hout,AG⟩:=ij (nE w)
   clear w
   intro A hA
   have zw:R1 A=none:=p1.er.sub.free hA
   have zx:Al R1 H1 R1 (upd H1 A (S.O A S.e0)):=⟨p1.er.sub.trans (jc hA),ae.refl _,jc hA,fun _ _ _ z=>z⟩
   refine⟨fun i n zs H2=>n=ds.length - i/\i<=ds.length/\∃ R2 aq gL zr,aQ ios R H σ Γ R2 H2 aq/\ae R1 R2/\R2 A=none/\cS fr own m p f (ds.drop i) aq = .ok zr AF/\gL++zr=Gb/\inv zs gL R2/\gL.length<=i,
    ⟨ds.length,rfl,qbp _,R1,ag,[],Gb,p1.al zx,ae.refl _,zw,hall,rfl,h0 _,qag _⟩,?_⟩
   rintro i n zs H2 o_ ⟨rfl,hi',R2,aq,gL,zr,p2,s2,mC,hL,hys,hinv,hyl⟩
   obtain⟨go,stop⟩:=hJ i H2 R2 s2 p2.er.sub
   have sU : ¬ Ow σ Γ A:=fun z=>by
    obtain⟨_,xs,q⟩:=er.ow z
    rw[p1.back er A hA] at q;cases q
   by_cases hlt:i<ds.length
   · have hd:ds[i]? = some ds[i]:=qae hlt
     obtain⟨g1,g2⟩:=go _ hd
     rw[qaQ hlt] at hL
     refine .inr ⟨g1,fun x H3 hx=>?_⟩
     obtain⟨R3,al,rx⟩:=g2 x H3 hx
     unfold cS at hL
     have p3:aQ ios R H σ Γ R3 H3 aq:=p2.al al
     have mD:H3 A=some (S.O A zs):=al.hh _ _ o_
     have ko:R3 A=none:=al.no _ _ o_ mC
     have zy:ER ios R3 H3 (ao fr own σ) (bK fr own aq):=p3.er.blk hn
     have gg : ¬ Ow (ao fr own σ) (bK fr own aq) A:=fun z=>sU (p3.sh A z.blk)
     have run:br (jN m p f ds[i] (bK fr own aq)) (fun y bQ=>∃ kE,cS fr own m p f (ds.drop (i+1)) (Dv.aC fr own aq bQ) = .ok kE AF/\y.toList++kE=zr) oZ:=by
      cases q:jN m p f ds[i] (bK fr own aq) with
      |ok y bQ =>
        rw[q] at hL
        dsimp only at hL
        cases q':cS fr own m p f (ds.drop (i+1)) (Dv.aC fr own aq bQ) with
        |ok kE Γ' =>
          rw[q'] at hL
          cases hL
          exact⟨kE,q',rfl⟩
        |ex _ _=>rw[q'] at hL;cases hL
        |st=>rw[q'] at hL;cases hL
      |ex _ _=>rw[q] at hL;cases hL
      |st=>rw[q] at hL;cases hL
     unfold jN at run
     rw[Zj] at run
     cases hm:m ds[i] (bK fr own aq) with
     |ex _ _=>have:=mw run;rw[hm] at this;exact this.elim
     |st=>have:=mw run;rw[hm] at this;exact this.elim
     |ok u jK =>
       obtain⟨k1,k2⟩:=hk _ _ _ hm
       have wm:=mw run
       rw[hm] at wm
       refine hg (ao fr own σ) H3 R3 (bK fr own aq) x _ _ zy rx ?_
       rw[hm]
       refine lF fun cW H4 R4 p4 keep s4=>?_
       have w1:=nE wm
       rw[Zj] at w1
       have kq:∀ b,Ow cW jK b->Ow (ao fr own σ) (bK fr own aq) b:=by
        rintro b ⟨j,k,d,h1,h2,h3⟩
        by_cases hj:own<=j
        · rw[k1 j hj] at h1
          rw[keep j hj] at h3
          exact⟨j,k,d,h1,h2,h3⟩
        · rcases k2 j (k,d) (by omega) h1 with z | z
          · unfold bK at z;rw[zt (by omega)] at z;cases z
          · cases z;cases h2
       refine hc cW H4 R4 jK _ p4.er (aG w1 (fun b mE w1 H6 R6 p6=>?_) fun _ _ z=>z.elim)
       have p46:bt ios R3 H3 (ao fr own σ) (bK fr own aq) R6 H6 cW mE:=p4.trans p6.dA
       have sV:∀ b,Ow cW mE b->Ow (ao fr own σ) (bK fr own aq) b:=fun b z=>kq b (p6.sh b z)
       have zz:H6 A=some (S.O A zs):=p46.go.hh _ _ mD gg
       have pf:R6 A=none:=p46.go.no _ _ mD gg ko
       cases b with
       |false =>
         simp only[Bool.false_eq_true,if_false] at w1 ⊢
         have pu:aQ ios R3 H3 σ aq R6 H6 (Dv.aC fr own aq mE):=aQ.aC p3.er hn p46 keep sV
         obtain⟨kE,e1,e2⟩:=nE w1
         refine⟨zz,_,Nat.sub_lt_sub_left hlt (qbz i),rfl,hlt,R6,_,gL,kE,p3.trans pu,(s2.trans al.rr).trans p46.go.rr,pf,e1,by rw[<- hys, <- e2];rfl,hmono _ _ _ _ hinv (al.rr.trans p46.go.rr),by omega⟩
       |true =>
         simp only[if_true] at w1 ⊢
         rw[Zj] at w1
         refine he cW H6 R6 mE _ p6.er (aG w1 (fun S0 Na w1 y H7 R7 p7 hy=>?_) fun _ _ z=>z.elim)
         rw[Zj] at w1
         obtain⟨dy,kr,R8,p8,s8,ry,w1⟩:=jd p6.er p7 hy w1
         have mF:bt ios R3 H3 (ao fr own σ) (bK fr own aq) R8 H7 cW kr:=p46.trans p8.dA
         have zA:∀ b,Ow cW kr b->Ow (ao fr own σ) (bK fr own aq) b:=fun b z=>sV b (p8.sh b z)
         have pu:aQ ios R3 H3 σ aq R8 H7 (Dv.aC fr own aq kr):=aQ.aC p3.er hn mF keep zA
         have zB:H7 A=some (S.O A zs):=mF.go.hh _ _ mD gg
         have ku:R8 A=none:=mF.go.no _ _ mD gg ko
         have dX:=p3.trans pu
         have zC : ¬ Ow σ (Dv.aC fr own aq kr) A:=fun z=>sU (dX.sh A z)
         obtain⟨kE,e1,e2⟩:=nE w1
         have e2:dy::kE=zr:=e2
         have hsplit:out (gL++dy::kE)=some rv:=by rw[e2,hys];exact hout
         have rr:=al.rr.trans mF.go.rr
         refine⟨zB,hstep zs gL dy kE rv y R8 H7 _ (hmono _ _ _ _ hinv rr) (by omega) hsplit ry dX.er.sub fun zs' hinv'=>?_⟩
         have pA:aQ ios R H σ Γ R8 (upd H7 A (S.O A zs')) (Dv.aC fr own aq kr):=by
          have up:∀ b,b≠A->upd H7 A (S.O A zs') b=H7 b:=fun b hb=>aW hb
          refine⟨⟨fun b o q=>?_,dX.er.len,fun j t hj=>?_,dX.er.dj⟩,⟨dX.go.rr,fun b o q n=>?_,dX.go.no,dX.go.oo,fun b o q=>?_⟩,dX.sh⟩
          · rw[up b (fun z=>by rw[z,ku] at q;cases q)];exact dX.er.sub b o q
          · obtain⟨v,hv,q⟩:=dX.er.sl j t hj
            refine⟨v,hv,q.mono (ae.refl _) fun ho b zs eb hb rb=>⟨?_,rb⟩⟩
            rw[up b]
            · exact hb
            · rintro rfl;subst eb;exact zC ⟨j,t.1,t.2,hj,ho,hv⟩
          · rw[up b (fun z=>by rw[z,p1.back er A hA] at q;cases q)];exact dX.go.hh b o q n
          · by_cases hb:b=A
            · subst hb;exact⟨_,dh⟩
            · rw[up b hb];exact dX.go.th b o q
         refine⟨_,Nat.sub_lt_sub_left hlt (qbz i),rfl,hlt,R8,_,gL++[dy],kE,pA,(s2.trans al.rr).trans mF.go.rr,ku,e1,by rw[<- hys, <- e2];simp,hinv',by rw[List.length_append];simp;omega⟩
   · have e:ds.drop i=[]:=qaZ (by omega)
     rw[e] at hL
     have hL:Res.ok [] aq=Res.ok zr AF:=hL
     cases hL
     rw[qaX] at hys
     subst hys
     refine .inl ⟨stop (by omega),hfin zs gL R2 H2 A Q rv hinv p2.er.sub o_ (by omega) hout fun z H' R' al ra=>?_⟩
     exact AG z H' R' (p2.al al) (ra.rv (p2.back er))
 · exact False.elim w
def wg(zs:List Z)(ys:List D)(R:Hp):Prop:=(∀ c1,asP ys=some c1->∀ c,c∈zs.map (·.1) ↔ c∈c1)/\(zs.map (·.1)).Nodup/\(∀ z∈zs,R z.2=some (.tup [.int z.1.1,.int z.1.2]))/\zs.length<=ys.length
omit [KC] in
theorem Gd(h:qW ys=some rv):∃ cs,asP ys=some cs/\rv = .new (.lst ((aM cs).map pD)):=by
 unfold qW at h
 obtain⟨cs,h1,h2⟩:=qaS.mp h
 exact⟨cs,h1,h2.symm⟩
theorem Oo(b:List Z)(ys:List D)(dy:D)(zr:List D)(rv:RV)(y:V)(R H:Hp)(P:List Z->Prop)(hinv:wg b ys R)(hl:ys.length<256)(hout:qW (ys++dy::zr)=some rv)(ry:Rp R y dy)(sub:ae R H)(k:∀ b',wg b' (ys++[dy]) R->P b'):(vY (X:=X) hu).AD b y H P:=by
 obtain⟨cs,hcs,_⟩:=Gd hout
 obtain⟨hkeys,hnd,hzs,Oq⟩:=hinv
 obtain⟨c1,c2,q1,q2,_⟩:=Ay hcs
 obtain⟨c,c3,rfl,sm,q3,_⟩:=tH q2
 obtain⟨pa,rfl,hpa⟩:=Ga ry
 have kz:=hkeys c1 q1
 refine⟨by omega,pa,c,rfl,sub _ _ hpa,sm,fun z hz=>sub _ _ (hzs z hz),fun zs' AH=>k zs' ?_⟩
 have ap:∀ c1',asP (ys++[pD c])=some c1'->∀ x,x∈c1' ↔ x∈c1\/x=c:=fun c1' h x=>by
  obtain⟨d1,d2,r1,r2,rfl⟩:=Ay h
  rw[q1] at r1
  cases r1
  obtain⟨c',c4,e,_,e4,rfl⟩:=tH r2
  cases e4
  have:c=c':=by
   unfold pD at e
   injection e with e
   injection e with e5 e6
   injection e5 with e5
   injection e6 with e6
   injection e6 with e6
   exact Prod.ext e5 e6
  subst this
  simp
 rcases AH with ⟨rfl,hin⟩ | ⟨pm,pK⟩
 · exact⟨fun c1' h x=>Iff.trans ⟨fun h=>.inl ((kz x).mp h),fun h=>h.elim (kz x).mpr fun e=>by rw[e];exact hin⟩ (ap c1' h x).symm,hnd,hzs,by rw[qaq];simp;omega⟩
 · have eO:=pm.map (·.1)
   refine⟨fun c1' h x=>Iff.trans ?_ (ap c1' h x).symm,eO.nodup_iff.mpr (qbg.mpr ⟨pK,hnd⟩),fun z hz=>?_,by rw[pm.length_eq,qaD,qaq];simp;omega⟩
   · rw[eO.mem_iff,qaV,qav,kz x]
     exact Or.comm
   · rcases qav.mp (pm.mem_iff.mp hz) with e | e
     · rw[e];exact hpa
     · exact hzs z e
theorem Ot(b:List Z)(ys:List D)(R H:Hp)(A:Addr)(Q:VK)(rv:RV)(hinv:wg b ys R)(sub:ae R H)(hA:H A=some ((vY (X:=X) hu).O A b))(hl:ys.length<256)(hout:qW ys=some rv)(w:∀ z H' R',Al R H R' H'->jf R' H H' z rv->Q z H'):F7 X [.ref A] H Q:=by
 obtain⟨cs,hcs,rfl⟩:=Gd hout
 obtain⟨hkeys,hnd,hzs,Oq⟩:=hinv
 refine⟨A,b,rfl,hA,fun z hz=>sub _ _ (hzs z hz),by omega,fun q zs' hq pm pw=>?_⟩
 have AI:(zs'.map (·.1)).Nodup:=(pm.map _).nodup_iff.mpr hnd
 have ez:zs'.map (·.1)=aM cs:=tJ (AB hcs) AI (List.pairwise_map.mpr pw) fun c=>by rw[(pm.map _).mem_iff];exact hkeys cs hcs c
 obtain⟨al,rv⟩:=lu sub hq (AE zs' fun z hz=>hzs z (pm.mem_iff.mp hz))
 rw[ez] at rv
 exact w _ _ _ al rv
theorem Ou{elt tg iter:Expr}{ifs:List Expr}{pos pos' p0:Pos}{k:Nat}{scope:Scope}{Nc:List Str}{own:Nat}{fr:List Nat}{gt:TG}{items:M (List D)}{m:D->M Unit}(hl:X.mg "sorted" = none)(Ov:Gl X "sorted")(hr0:aj k X.A)(hc:X.calm=true)(B:eU X scope Nc own fr)(hn:fr.Nodup)(hi:VI X EE ios tg iter items)(hog:kg own gt)
 (hg:∀ cl C s3 H3 fp pn',PG (mG X Nc scope cl C s3 H3 fp pn') tg gt) (hr:iV ios own gt m) (hk:mB own m) (ht:∀ cl C s3 H3 fp pn',sW (mG X Nc scope cl C s3 H3 fp pn') EN ios ifs p) (he:∀ cl C s3 H3 fp pn',VE (mG X Nc scope cl C s3 H3 fp pn') EN ios elt f)
 (hs:∀ x,foldedSetIterable iter X.env x=pure x:=by intro _;rfl) (hst:starEach [.SetComp elt [⟨tg,iter,ifs,0⟩] scope pos] X.env=[(false,eval (.SetComp elt [⟨tg,iter,ifs,0⟩] scope pos) X.env)]:=by rfl):VE X EE ios (.Call (.Name "sorted" p0) [.SetComp elt [⟨tg,iter,ifs,0⟩] scope pos] [] pos') (F_ items fr own m p f) :=
 let ⟨_,h1,h2⟩:=hi
 ⟨_,j9 (F9 hc) Ov hl (by decide +kernel) (gG (NU (vY (by have:=hr0.un;omega)) hc B h1 hog hg ht (fun cl C s3 H3 fp pn'=>(he cl C s3 H3 fp pn').pe) hs) lb (hs:=hst)) (he:=hst) (hpl:=rfl),Om (vY _) wg (fun b ys R R' h q=>⟨h.1,h.2.1,fun z hz=>q _ _ (h.2.2.1 z hz),h.2.2.2⟩) (fun R=>⟨fun c1 h c=>by cases h;exact Iff.rfl,List.nodup_nil,(fun z hz=>nomatch hz),qag _⟩) Oo Ot hn h2 hr hk (fun σ H R Γ Q er w=>⟨R,Γ,er,w⟩) (fun σ H R Γ Q er w=>⟨R,Γ,er,w⟩)⟩
end
end Dv
namespace L2
open PySem PySem.Spec PyProof.Rows Ex
section
variable{X:Cx}{EE:aT}{k:Nat}{f C:Addr}{fd:FuncData}{ps:List Str}{sp:Sp}{dvs:List V}{ds:List Value}{x:Str}{p pos:Pos}{e:Expr}{es:List Expr}{t:TA}
theorem Ge{pins:List (Addr×Obj)}{σ:St}{H:Hp}{s:Shared}{Q:VK}{us:List Value}{vs:List V}(M:Mk X.K C f)(F:aD X.prog X.w X.K X.mg X.base (eT X.prog X.w) k f fd ps sp)(hr:aj (k+1) X.A)(hb:Binds X.K fd ps ds)(hd:Vals dvs ds)(hX:XOk X EE)(I:Inv X pins σ H s)(r:Vals vs us)
 (h:∀ x dx,H x=none->H dx=none->dx≠x->sp (.ref x::(vs++dvs)) (upd (upd H dx (.own x)) x (.ins C dx [])) (fun v H2=>v = .av/\Q (.ref x) H2) (EE σ)):wpAny (model X.prog X.w) X.A (call (.ref C) us) (EP X pins σ Q) X.xe s:=by
 have hq:=h (s.heap.objs.size+1) s.heap.objs.size (I.hok.fresh (Nat.le_succ _)) (I.hok.fresh (qag _)) (qal (qbz _))
 have I2:=Inv.made (C:=C) I
 have r2:Vals (V.ref (s.heap.objs.size+1)::(vs++dvs)) (Value.ref (s.heap.objs.size+1)::(us++ds)):=.cons rfl (r.append hd)
 have hl:(Value.ref (s.heap.objs.size+1)::us++ds).length=ps.length:=by
  have e:=r2.length
  rw[F.len _ _ _ _ hq] at e
  exact e.symm
 refine wpAny_call (Kq (f:=f) I.aS M.makes M.init (qas.mp M.fn) (codeAny_mono (F.run _ X.stack _ _ ⟨Value.ref (s.heap.objs.size+1)::us,[]⟩ (Value.ref (s.heap.objs.size+1)::(us++ds)) _ _ (EE σ) (hr.make C us [])
  (I2.env0.make C us []) (hb _ (Value.ref (s.heap.objs.size+1)::us) I2.aS hl) r2 hq) fun r s' hq'=>?_))
 cases r with
 |error e=>exact DW hX I2 hq'
 |ok fl =>
   cases fl with
   |ret u =>
     obtain⟨v,H',I3,rv,ev,q3⟩:=I2.after hq'
     subst ev
     exact⟨rv,⟨V.ref (s.heap.objs.size+1),H',I3,rfl,q3⟩⟩
   |next=>exact False.elim hq'
   |brk=>exact False.elim hq'
   |cont=>exact False.elim hq'
def Made(C:Addr)(sp si:Sp):Prop:=∀ vs H Q E,sp vs H Q E->∀ x dx,H x=none->H dx=none->dx≠x->si (.ref x::vs) (upd (upd H dx (.own x)) x (.ins C dx [])) (fun v H2=>v = .av/\Q (.ref x) H2) E
theorem Ox(M:Mk X.K C f)(F:aD X.prog X.w X.K X.mg X.base (eT X.prog X.w) k f fd ps si)(hr:aj (k+1) X.A)(hg:Gl X x)(hm:X.mg x=some (.ref C))(hb:Binds X.K fd ps ds)(hd:Vals dvs ds)(hX:XOk X EE)(hsp:Made C sp si)
 (ha:PA X (e::es) t) (hdb:(x == ("__debug__" : Str))=false:=by decide) (he:starEach (e::es) X.env=(false,eval e X.env)::starEach es X.env:=by rfl) (hpl:(backTo pos (starEach es X.env)).any (·.1)=false:=by rfl) :
 PE X (.Call (.Name x p) (e::es) [] pos) (qK sp dvs EE t):=by
 intro pins s σ H Q I h
 refine qbI (p_ I hg hm ?_ hdb)
 refine W.callWith_K (h₀:=X.base) I.ok.mod.i7 M.kp (aI (ha pos pins s σ H _ I h) fun us s1 zq=>?_) he hpl
 obtain⟨vs,H1,I1,r,q⟩:=zq
 refine⟨I1.aS,?_⟩
 exact Ge M F hr hb hd hX I1 r (hsp _ _ _ _ q)
theorem Oy(M:Mk X.K C f)(F:aD X.prog X.w X.K X.mg X.base (eT X.prog X.w) k f fd ps si)(hr:aj (k+1) X.A)(hg:Gl X x)(hm:X.mg x=some (.ref C))(hb:Binds X.K fd ps ds)(hd:Vals dvs ds)(hX:XOk X EE)(hsp:Made C sp si)
 (hdb:(x == ("__debug__" : Str))=false:=by decide):PE X (.Call (.Name x p) [] [] pos) (qK sp dvs EE qk):=by
 intro pins s σ H Q I h
 refine qbI (p_ I hg hm ?_ hdb)
 exact W.callWith_K0 I.aS M.kp (Ge (us:=[]) M F hr hb hd hX I .nil (hsp _ _ _ _ h))
end
end L2
namespace Dv
open PySem L2 Ex
variable[KC]
section
variable{X:Cx}{EE:aT}{ios:List Addr}
structure wj(x:Addr)(R H R' H':Hp):Prop where
 sub:ae R' H'
 rr:ae R R'
 hh:∀ b o,b≠x->H b=some o->H' b=some o
 no:∀ b o,b≠x->H b=some o->R b=none->R' b=none
def AJ(j:Nat)(ios:List Addr)(R H:Hp)(σ:St)(Γ:En)(D:Ends):Fl->En->Prop:=fun fl Γ'=>∀ ax H' R',bt ios R H σ Γ R' H' ax Γ'->ax[j]? = σ[j]? -> match fl with
 | .nx=>D.nx ax H'
 | .brk=>D.bk ax H'
 | .cont=>D.ct ax H'
 | .ret rv=>∀ x,dQ R' H H' ax x rv->D.rt x H'
def Gf(j:Nat)(EE:aT)(ios:List Addr)(t:TS)(f:M Fl):Prop:=∀ σ H R Γ D,ER ios R H σ Γ->br (f Γ) (AJ j ios R H σ Γ D) (d9 EE ios R H σ Γ)->t D σ H
def VJ(j:Nat)(X:Cx)(EE:aT)(ios:List Addr)(st:Stmt)(f:M Fl):Prop:=∃ t,PS X st t/\Gf j EE ios t f
def wk(j:Nat)(X:Cx)(EE:aT)(ios:List Addr)(st:List Stmt)(f:M Fl):Prop:=∃ t,PSs X st t/\Gf j EE ios t f
section
variable{X:Cx}{EE:aT}{ios:List Addr}{e c:Expr}{f:M RV}{p:M Bool}{s s':M Fl}{st:Stmt}{sts dB:List Stmt}{pos:Pos}{j:Nat}
theorem Oz:wk j X EE ios [] (M.pure .nx):=⟨_,xR,fun σ H R Γ D er w=>w σ H R (bt.refl er) rfl⟩
theorem OA(h:VJ j X EE ios st s):wk j X EE ios [st] s:=let ⟨_,h1,h2⟩:=h; ⟨_,n_ h1,h2⟩
theorem OB(h:VE X EE ios e f)(hs:swapsWith e none pos.line X.env=pure false:=by rfl):VJ j X EE ios (.Expr e pos) (kn f):=by
 obtain⟨t,h1,h2⟩:=h
 refine⟨_,rR h1 hs,fun σ H R Γ D er w=>?_⟩
 unfold kn at w
 rw[Zj] at w
 exact h2 σ H R Γ _ er (aG w (fun rv ag w x H1 R1 p1 hx=>w σ H1 R1 p1.dA rfl) fun _ _ z=>z.exp)
theorem OC(hc:VT X EE ios c p)(h:wk j X EE ios sts s)(h':wk j X EE ios dB s'):VJ j X EE ios (.If c sts dB pos) (cp p s s'):=by
 obtain⟨_,h0,h0'⟩:=hc
 obtain⟨t,h1,h2⟩:=h
 obtain⟨u,h3,h4⟩:=h'
 refine⟨_,xS h0 h1 h3,fun σ H R Γ D er w=>?_⟩
 unfold cp at w
 rw[Zj] at w
 refine h0' σ H R Γ _ er (aG w (fun b ag w H1 R1 p1=>?_) fun _ _ z=>z.exp)
 have go:∀ fl aq,AJ j ios R H σ Γ D fl aq->AJ j ios R1 H1 σ ag D fl aq:=fun fl aq w cn H2 R2 p2 q2=>by
  have:=w cn H2 R2 (p1.dA.trans p2) q2
  cases fl with
  |nx=>exact this
  |brk=>exact this
  |cont=>exact this
  |ret rv=>exact fun x hx=>this x (qA p1.dA.back hx)
 cases b with
 |true=>exact oB (h2 σ H1 R1 ag D p1.er (aG w go fun _ _ z=>d9.trans p1.dA z))
 |false=>exact oA (h4 σ H1 R1 ag D p1.er (aG w go fun _ _ z=>d9.trans p1.dA z))
theorem OD(hij:i≠j)(hN:X.N.Nodup)(hi:X.N[i]? = some x)(hx:Loc X.env.scope x)(he:VE X EE ios e f)(hs:swapsWith e (some (.Name x pos')) pos.line X.env=pure false:=by rfl)(hf:X.fn x=true\/X.env.scope.names.lookup x=some .local:=by first | exact .inl rfl | exact .inr rfl | assumption) :
 VJ j X EE ios (.Assign [.Name x pos'] e pos) (cL i f):=by
 obtain⟨t,h1,h2⟩:=he
 refine⟨_,CS hN hi hx h1 hs hf,fun σ H R Γ D er w=>?_⟩
 unfold cL at w
 rw[Zj] at w
 refine h2 σ H R Γ _ er (aG w (fun rv ag w x H1 R1 p1 hx=>?_) fun _ _ z=>z.exp)
 show D.nx (σ.set i (some x)) H1
 have k:∀ v,(σ.set i (some v))[j]? = σ[j]? := fun v=>qai hij
 rw[Zj] at w
 cases rv with
 |val d=>exact w _ H1 R1 (bt.set er p1 (s:=(.ai,d)) hx fun z=>by cases z) (k _)
 |new d =>
   obtain⟨h1,a,h2,h3⟩:=hx
   exact w _ H1 R1 (bt.set er p1 (s:=(.own,d)) h1 fun _ b eb=>by rw[h2] at eb;cases eb;exact h3) (k _)
 |var j =>
   rw[Zj] at w
   obtain⟨d,aq,R2,p2,_,r2,w⟩:=jd er p1 hx w
   exact w _ H1 R2 (bt.set er p2 (s:=(.ai,d)) r2 fun z=>by cases z) (k _)
end
section
variable{X:Cx}{EE:aT}{ios:List Addr}{k:Nat}{f:Addr}{fd:FuncData}{ps:List Str}{C:Cn}{fl x:Str}{p pos apos:Pos}{e o:Expr}{es:List Expr}{fs:M (List RV)}{fo:M RV}{G:List D->Option Rx}{Gp:List D->Option Rt}
def kF(C:Cn)(y:Str)(f:M RV):M RV:=M.bind f fun rv=>M.bind (mat rv) fun d=>match d with
 | .obj C' ns vs=>if cd (C'=C) then M.cx (((ns.zip vs).lookup y).map .val) else M.st
 | _=>M.st
theorem OE(hcl:fB X.K (KC.cls C))(hna:a9 X.K (KC.cls C) y)(ha:VE X EE ios e fo)(hb:attributeBase e y X.env (eval e X.env)=eval e X.env):VE X EE ios (.Attribute e y pos) (kF C y fo):=by
 obtain⟨t,h1,h2⟩:=ha
 refine⟨_,Kx h1 hb,fun σ H R Γ Q er w=>?_⟩
 unfold kF at w
 rw[Zj] at w
 refine h2 σ H R Γ _ er (aG w (fun rx ag w1 x H1 R1 p1 hx=>?_) fun _ _ z=>z)
 clear w
 rw[Zj] at w1
 obtain⟨d,aq,R2,p2,s2,r2,w2⟩:=jd er p1 hx w1
 clear w1
 cases d with
 |obj C' ns vs =>
   dsimp only at w2
   split at w2
   · rename_i hc
     have hc:=dR hc
     subst hc
     obtain⟨rv,hg,w'⟩:=ij w2
     obtain⟨d,hd,rfl⟩:=qaS.mp hg
     clear w2
     cases r2 with
     |obj q hv =>
       obtain⟨v,l1,l2⟩:=FL hv hd
       exact⟨_,_,_,_,v,rfl,p2.er.sub _ _ q,hcl,hna,l1,w' v H1 R2 p2 l2⟩
   · exact False.elim w2
 | _=>exact False.elim w2
end
end
end Dv
namespace L2
open PySem PySem.Spec PyProof.Rows Ex
section
variable{X:Cx}{pins:List (Addr×Obj)}{σ:St}{H:Hp}{s:Shared}{A:Around}{E:Value->Shared->Prop}{Q:Value->Shared->Prop}{b:Bool}
theorem OF{its:List Value}(I:Inv X pins σ H s)(rx:RelV x u)(ty:cu X.K H x t)(ht:IsTup s.heap tp its.toArray)(e:W.kitAny X.K t its=some b)(h:∀ tk,Q (.bool b) { s with toks:=tk }) :
 wpAny (model X.prog X.w) A (call (.builtin "isinstance") [u,.ref tp]) Q E s:=by
 obtain⟨ob,g1,g2,n,g3⟩:=ht
 obtain⟨oc,od,oda,osl⟩:=ob
 dsimp only at g2 g3
 subst g2 g3
 cases ty with
 |av=>cases (show u=Value.none from rx);exact W.kia_tup W.kitx_none I.aS True.intro g1 e (fun z=>nomatch z) h
 |bl y=>cases (show u=Value.bool y from rx);exact W.kia_tup W.kitx_bool I.aS True.intro g1 e (fun z=>nomatch z) h
 |int i=>obtain⟨t,q⟩:=(show ∃ t,u=Value.int i t from rx);cases q;exact W.kia_tup W.kitx_int I.aS True.intro g1 e (fun z=>nomatch z) h
 |str y=>obtain⟨t,q⟩:=(show ∃ t,u=Value.str y t from rx);cases q;exact W.kia_tup W.kitx_str I.aS True.intro g1 e (fun z=>nomatch z) h
 |flt y=>obtain⟨t,q⟩:=(show ∃ t,u=Value.float y t from rx);cases q;exact W.kia_tup W.kitx_float I.aS True.intro g1 e (fun z=>nomatch z) h
 | @lst a xs ea =>
   cases (show u=Value.ref a from rx)
   obtain⟨_,_,n,_,h1⟩:=(show az X.prog X.w H s.heap a (.lst xs) from I.hok a _ ea)
   exact W.kia_tup W.kitx_list I.aS ⟨_,h1,rfl⟩ g1 e (fun z=>nomatch z) h
 | @ai a ob xs ea =>
   cases (show u=Value.ref a from rx)
   obtain⟨_,_,_,n,_,h1⟩:=(show az X.prog X.w H s.heap a (.ai ob (.lst xs)) from I.hok a _ ea)
   exact W.kia_tup W.kitx_list I.aS ⟨_,h1,rfl⟩ g1 e (fun z=>nomatch z) h
 | @tup a xs ea =>
   cases (show u=Value.ref a from rx)
   obtain⟨_,_,_,p⟩:=(show az X.prog X.w H s.heap a (.tup xs) from I.hok a _ ea)
   obtain⟨o,h1,h2,_⟩:=p
   exact W.kia_tup W.kitx_tuple I.aS ⟨o,h1,h2⟩ g1 e (fun z=>nomatch z) h
 | @dK a kvs ea =>
   cases (show u=Value.ref a from rx)
   obtain⟨_,_,vs,_,p⟩:=(show az X.prog X.w H s.heap a (.dK kvs) from I.hok a _ ea)
   obtain⟨o,es,ep,h1,h2,_⟩:=p
   exact W.kia_tup W.kitx_dict I.aS ⟨o,h1,h2.1⟩ g1 e (fun z=>nomatch z) h
 | @dT a kvs ea =>
   cases (show u=Value.ref a from rx)
   obtain⟨_,_,xs,_,o,es,ep,h1,h2,_⟩:=(show az X.prog X.w H s.heap a (.dT kvs) from I.hok a _ ea)
   exact W.kia_tup W.kitx_dict I.aS ⟨o,h1,h2.1⟩ g1 e (fun z=>nomatch z) h
 | @ins a C dx fs ea cl ha hn htk hm =>
   cases (show u=Value.ref a from rx)
   obtain⟨mA,O,_⟩:=qj I.hok ea
   obtain⟨od,J,_⟩:=O.look
   exact W.kia_tup (W.kitx_own (cl.get _) cl.hd ha hn htk hm) I.aS J g1 e (fun z=>nomatch z) h
def Gg(K:W.Frag):List V->Hp->VK->Prop:=fun xs H Q=>∃ x p T U t b,xs=[x,.ref p]/\H p=some (.tup [.ty T,.ty U])/\cu K H x t/\W.kitAny K t [.type T,.type U]=some b/\Q (.bl b) H
theorem OG:aB X (.builtin "isinstance") (Gg X.K):=by
 intro pins s σ H xs us Q I r h
 obtain⟨x,p,T,U,t,b,rfl,hp,ty,e,q⟩:=h
 obtain⟨u,u2,rfl,rx,rc⟩:=Vals.two r
 obtain rfl:u2=Value.ref p:=rc
 obtain⟨_,its,rv,ht⟩:=(show az X.prog X.w H s.heap p (.tup [.ty T,.ty U]) from I.hok p _ hp)
 obtain⟨v1,v2,rfl,r1,r2⟩:=Vals.two rv
 obtain rfl:v1=Value.type T:=r1
 obtain rfl:v2=Value.type U:=r2
 exact OF I rx ty ht e fun tk=>⟨.bl b,H,I.tok _,rfl,q⟩
def Gh(K:W.Frag):R2:=fun x y H Q=>∃ p xs d ds,y = .ref p/\aZ K H p xs/\bA H x d/\aV H xs ds/\SeqAt.shaped d=true/\ds.all SeqAt.shaped=true/\Q (.bl (ds.any fun e=>PyData.eqv e d)) H
mutual
theorem bA.one:∀ {x:V} {d e:PyData},bA H x d->bA H x e->d=e
 | _,_,_,.av,h=>by cases h;rfl
 | _,_,_,.bl _,h=>by cases h;rfl
 | _,_,_,.int _,h=>by cases h;rfl
 | _,_,_,.str _,h=>by cases h;rfl
 | _,_,_,.lst h1 a,h=>by
   cases h with
   |lst h2 b=>rw[h1] at h2;cases h2;rw[aV.one a b]
   |tup h2 b=>rw[h1] at h2;cases h2
 | _,_,_,.tup h1 a,h=>by
   cases h with
   |tup h2 b=>rw[h1] at h2;cases h2;rw[aV.one a b]
   |lst h2 b=>rw[h1] at h2;cases h2
theorem aV.one:∀ {xs:List V} {ds es:List PyData},aV H xs ds->aV H xs es->ds=es
 | _,_,_,.nil,h=>by cases h;rfl
 | _,_,_,.cons a b,h=>by cases h with | cons c d=>rw[bA.one a c,aV.one b d]
end
open Classical in
def pL(H:Hp)(d:PyData)(u:Value):Bool:=decide (∃ x e,RelV x u/\bA H x e/\PyData.eqv e d=true)
open Classical in
theorem Gi(r:RelV x u)(h:bA H x e):pL H d u=PyData.eqv e d:=by
 unfold pL
 cases q:PyData.eqv e d with
 |true=>exact qaG ⟨x,e,r,h,q⟩
 |false =>
   refine qaU ?_
   rintro⟨y,e',ry,he,q'⟩
   have:=ry.inj r
   subst this
   rw[he.one h,q] at q'
   cases q'
theorem Gj:∀ {xs:List V} {us:List Value} {ds:List PyData},Vals xs us->aV H xs ds->us.any (pL H d)=ds.any fun e=>PyData.eqv e d
 | _,_,_,.nil,.nil=>rfl
 | _,_,_,.cons r t,.cons a b=>by rw[List.any_cons,List.any_cons,Gi r a,Gj t b]
theorem Gk{s:Shared}{A:Around}(ok:bY P w H s.heap)(hv:Reads s.heap v d as)(sd:SeqAt.shaped d=true)(hu:A.units+64<cLine):∀ {xs:List V} {us:List Value} {ds:List PyData},Vals xs us->aV H xs ds->ds.all SeqAt.shaped=true->∀ u∈us,SeqAt.EqAt A s u v (pL H d u)
 | _,_,_,.nil,.nil,_=>fun u hu=>by cases hu
 | _,_,_,.cons r t,.cons a b,f=>fun u hm=>by
   rw[List.all_cons,qa1] at f
   rcases qav.mp hm with rfl | hm
   · rw[Gi r a]
     obtain⟨bs,rb⟩:=a.reads ok r
     exact SeqAt.eqAt_reads _ _ A s _ _ _ _ rb hv (SeqAt.canLay_of_shaped f.1) (SeqAt.canLay_of_shaped sd) (by have:=SeqAt.depth_of_shaped sd;omega)
   · exact Gk ok hv sd hu t b f.2 u hm
theorem OH(hr:aj k X.A):bw X (compareOp .In) (Gh X.K):=by
 intro pins s σ H x y v u Q I rx ry h
 obtain⟨p,xs,d,ds,rfl,hq,dx,Gm,sd,OI,q⟩:=h
 cases ry
 obtain⟨its,r,pl,hz⟩:=I.list hq
 obtain⟨as,rv⟩:=dx.reads I.hok rx
 have hu:X.A.in1.units+64<cLine:=by have:=hr.un;show X.A.units+1+64<_;omega
 refine SeqAt.in_listAt (pL H d) pl.isList (fun w hw=>Gk I.hok rv sd hu r Gm OI w (by simpa using hw)) ⟨.bl _,H,I,rfl,?_⟩
 rw[show its.toArray.any (pL H d)=its.any (pL H d) by simp,Gj r Gm]
 exact q
end
end L2
namespace Dv
open PySem L2 Ex
variable[KC]
section
variable{X:Cx}{EE:aT}{ios:List Addr}{a o c:Expr}{f fo:M RV}{p:M Bool}{es:List Expr}{fs:M (List RV)}
omit [KC] in
theorem OJ[KC](K:W.Frag)(d:D)(hd:plain d=true):W.kitAny K (.type (sM d)) [.type "list",.type "tuple"]=some (jj .list d || jj .tuple d):=by
 cases d<;>first | kernel_rfl | cases hd
def tK:D->Option RV
 | .bH _=>none
 | .ins _ _ _=>none
 | .obj _ _ _=>none
 |d=>some (.val (.bl (jj .list d || jj .tuple d)))
def tL(f:M RV):M RV:=M.bind (jM f) fun x=>M.bind (peek x) fun d=>M.cx (tK d)
theorem OK(hp:∀ t,PE X a t->PE X e0 (ql (Gg X.K) (k_ t (k_ (Dg (k_ (tC (.ty "list")) (k_ (tC (.ty "tuple")) qk))) qk))))(ha:VE X EE ios a f):VE X EE ios e0 (tL f):=by
 obtain⟨t,h1,h2⟩:=ha
 refine⟨_,hp t h1,fun σ H R Γ Q er w=>?_⟩
 unfold tL at w
 rw[Zj] at w
 refine vm h2 er (aG w (fun rx ag w x H1 R1 p1 hx=>?_) fun _ _ z=>z)
 rw[Zj] at w
 obtain⟨d,pd,w⟩:=iD (H:=H) p1.er hx.rv w
 obtain⟨rv,hg,w⟩:=ij w
 have ns:plain d=true:=by cases d<;>first | rfl | cases hg
 have hg:rv = .val (.bl (jj .list d || jj .tuple d)):=by cases d<;>first | (cases hg;done) | exact(qaL hg).symm
 subst hg
 refine⟨by show 2<=sizeLine;decide +kernel,fun q hq=>?_⟩
 have al:Al R1 H1 R1 (upd H1 q (.tup [.ty "list",.ty "tuple"])):=⟨fun b o z=>by rw[aW (fun e=>by rw[e,p1.er.sub.free hq] at z;cases z)];exact p1.er.sub b o z,ae.refl _,jc hq,fun _ _ _ h=>h⟩
 have hv:=(pd.hv p1.er.sub).sm (H':=upd H1 q (.tup [.ty "list",.ty "tuple"])) (jc hq)
 have ty:=hv.ty (K:=X.K) ns
 exact⟨x,q,_,_,_,_,rfl,dh,ty,OJ X.K d ns,w _ _ R1 (p1.al al) (.bl _)⟩
def Gn(K:W.Frag):R2:=fun x y H Q=>Gh K x y H Q\/yk K false x y H Q
omit [KC] in
theorem OL(hr:aj k X.A):bw X (compareOp .In) (Gn X.K):=(OH hr).or La
def wo(d e:D):Option RV:=match e with
 | .lst xs=>if cX d && xs.all cX then some (.val (.bl (xs.any fun e=>eqB e d))) else none
 | _=>zi false d e
omit [KC] in
theorem Gq[KC]:∀ {xs:List V} {ds:List D},aw R xs ds->ds.all cX=true->aV R xs (ds.map D.py)
 | _,_,.nil,_=>.nil
 | _,_,.cons a b,z=>by
   rw[List.all_cons,qa1] at z
   exact .cons (a.dat (qt z.1)) (Gq b z.2)
theorem OM:cI (Gn K) wo:=by
 intro R H x y d e rv Q s px py hg q
 unfold wo at hg
 split at hg
 · rename_i ds
   split at hg
   · rename_i c
     rw[qa1] at c
     cases hg
     obtain⟨p,xs,rfl,h1,h2⟩:=py.lst s
     refine .inl ⟨p,xs,d.py,ds.map D.py,rfl,aZ.of h1,(px.hv s).dat (qt c.1),Gq (h2.sm s) c.2,c.1,?_,?_⟩
     · rw[List.all_map];exact c.2
     · rw[List.any_map];exact q _ H R (Al.refl s) (.bl _)
   · cases hg
 · exact .inr (ME R H x y _ _ rv Q s px py hg q)
def tM(C:Cn)(m:Str)(G:List D->Option Rt)(f:M RV)(fs:M (List RV)):M RV:=M.bind f fun rv=>M.bind (mat rv) fun d=>match d with
 | .obj C' ns vs=>if cd (C'=C/\m ∉ ns) then M.bind fs fun rvs=>M.bind (bV rvs) fun ds=>M.cx ((G (.obj C' ns vs::ds)).map Rt.rv) else M.st
 | _=>M.st
theorem ON{m:Str}{pl:Sem Bool}{C:Cn}{f:Addr}{fd:FuncData}{ps:List Str}{k:Nat}{e:Expr}{Gp:List D->Option Rt}{pos apos:Pos}(hcl:fB X.K (KC.cls C))(hm:Meth X.K (KC.cls C) m f)(F:aD X.prog X.w X.K X.mg X.base bZ k f fd ps (aX Gp))(hr:aj k X.A)(hb:Binds X.K fd ps [])(ha:VE X EE ios o fo)(hs:VA X EE ios (e::es) fs)
 (hst:starEach (e::es) X.env=(false,eval e X.env)::starEach es X.env:=by rfl) (hpl:(backTo pos (starEach es X.env)).any (·.1)=false:=by rfl)
 (ht:eval (.Call (.Attribute o m apos) (e::es) [] pos) X.env=(do
  let ov <- eval o X.env
  standAt apos.atName
  let (f,first) <- holding [ov] (getMethod ov m pl)
  callWith pos f first (backTo pos (starEach (e::es) X.env)) (backToKw pos (keywordEach [] X.env))):=by rfl):VE X EE ios (.Call (.Attribute o m apos) (e::es) [] pos) (tM C m Gp fo fs):=by
 obtain⟨t,h1,h2⟩:=ha
 obtain⟨u,h3,h4⟩:=hs
 refine⟨_,KL h1 hcl hm F hr hb .nil yr h3 hst hpl ht,fun σ H R Γ Q er w=>?_⟩
 unfold tM at w
 rw[Zj] at w
 refine h2 σ H R Γ _ er (aG w (fun rx ag w1 x H1 R1 p1 hx=>?_) fun _ _ z=>z)
 clear w
 rw[Zj] at w1
 obtain⟨d,aq,R2,p2,s2,r2,w2⟩:=jd er p1 hx w1
 clear w1
 cases d with
 |obj C' ns vs =>
   dsimp only at w2
   split at w2
   · rename_i hc
     obtain⟨hc,hn⟩:=dR hc
     subst hc
     rw[Zj] at w2
     have r3:=r2
     cases r2 with
     |obj q hv =>
       refine⟨_,_,_,rfl,p2.er.sub _ _ q,?_,?_⟩
       · rw[List.lookup_eq_none_iff]
         intro z hz
         rw[bne_iff_ne]
         intro e
         exact hn (qa7.mpr ⟨z,hz,e.symm⟩)
       · refine h4 σ H1 R2 aq _ p2.er (aG w2 (fun rvs ik w3 xs H3 R3 p3 hxs=>?_) fun _ _ z=>dw.trans p2 z)
         rw[Zj] at w3
         obtain⟨ds,jK,R4,p4,s4,r4,w4⟩:=iE p2.er p3 hxs w3
         obtain⟨rv,hg,w5⟩:=ij w4
         obtain⟨r,hG,rfl⟩:=qaS.mp hg
         have p24:=p2.trans p4
         show aX Gp (_::(xs++[])) H3 Q E0
         rw[qaX]
         refine⟨R4,_::ds,p4.er.sub,.cons (r3.sm p4.go.rr) r4,?_⟩
         rw[hG]
         exact fun z H' R' al ra=>w5 z H' R' (p24.al al) (ra.rv (p24.back er))
   · exact False.elim w2
 | _=>exact False.elim w2
def hid(Γ:En):En:=Γ.map fun s=>s.map fun t=>(.ai,t.2)
theorem AK{j:Nat}{Γ:En}{t:Kd×D}(h:(hid Γ)[j]? = some (some t)):∃ k e,t=(.ai,e)/\Γ[j]? = some (some (k,e)):=by
 unfold hid at h
 rw[qaE] at h
 cases q:Γ[j]? with
 |none=>rw[q] at h;cases h
 |some s =>
   rw[q] at h
   cases s with
   |none=>cases h
   |some s=>cases h;exact⟨s.1,s.2,rfl,rfl⟩
theorem Gr{σ:St}{Γ:En}{b:Addr} : ¬ Ow σ (hid Γ) b:=by
 rintro⟨j,k,e,h1,h2,_⟩
 obtain⟨_,_,z,_⟩:=AK h1
 cases z
 cases h2
theorem OO{σ:St}{H R:Hp}{Γ:En}(er:ER ios R H σ Γ):ER ios (lent (Ow σ Γ) R H) H σ (hid Γ):=by
 have ss:ae R (lent (Ow σ Γ) R H):=zG fun b z=>(er.ow z).1
 refine⟨vA er.sub,by rw[er.len];unfold hid;rw[List.length_map],fun j t hj=>?_,fun j j' k l e e' b h1 h2 _ _ _ _=>?_⟩
 · obtain⟨k,e,rfl,he⟩:=AK hj
   obtain⟨v,hv,sl⟩:=er.sl j _ he
   refine⟨v,hv,?_⟩
   have own:OwR R H v e->owned k=true->Rp (lent (Ow σ Γ) R H) v e:=fun q ho=>by
    obtain⟨a,xs,ds,rfl,h1,h2,rfl,h3⟩:=q
    refine .lst ?_ (h3.sm ss)
    unfold lent
    rw[qay ⟨j,k,_,he,ho,hv⟩]
    exact h2
   cases k with
   |ai=>exact Rp.sm ss sl
   |own=>exact own sl rfl
   |io n=>exact own sl.1 rfl
 · obtain⟨_,_,z,_⟩:=AK h1
   cases z
   cases h2
end
def kG(H R':Hp)(x:V)(r:Rt):Prop:=∃ C fl a dx b xs ds,x = .ref a/\r = .val (.obj C [fl] [.lst ds])/\R' a=some (.ins (KC.cls C) dx [(fl,.ref b)])/\R' b=some (.lst xs)/\H a=none/\H b=none/\aw R' xs ds/\gM ds=true
theorem kG.rp(h:kG H R' x r):dQ R' H0 H' σ x r.rv:=by
 obtain⟨C,fl,a,dx,b,xs,ds,rfl,rfl,h1,h2,_,_,h3,_⟩:=h
 exact Rp.obj (fs:=[(fl,.ref b)]) h1 (.cons (.lst h2 h3) .nil)
def tN(G:List D->Option Rx):Sp:=fun vs H Q E=>∃ R ds,ae R H/\aw R vs ds/\match G ds with
 |some (.ok r)=>∀ x H' R',Al R H R' H'->kG H R' x r->Q x H'
 |some (.ex x)=>∀ e H' R',Al R H R' H'->me R' H H' e x->E (.ref (KC.cls x.C)) (some e) H'
 |none=>False
def AL(C:Cn)(fl:Str)(G:List D->Option Rx):Sp:=fun vs H Q E=>∃ x dx vs' R ds,vs = .ref x::vs'/\H x=some (.ins (KC.cls C) dx [])/\R x=none/\ae R H/\aw R vs' ds/\(match G ds with
 |some (.ok r)=>∃ es,r = .val (.obj C [fl] [.lst es])/\gM es=true/\∀ H' R' b xs,wj x R H R' H'->R' x=some (.ins (KC.cls C) dx [(fl,.ref b)])->R' b=some (.lst xs)->H b=none->aw R' xs es->Q .av H'
 |some (.ex xc)=>∀ e H' R',wj x R H R' H'->me R' H H' e xc->E (.ref (KC.cls xc.C)) (some e) H'
 |none=>False)
theorem Gu(hG:∀ ds r,G ds=some (.ok r)->∃ es,r = .val (.obj C [fl] [.lst es])/\gM es=true):Made (KC.cls C) (tN G) (AL C fl G):=by
 intro vs H Q E h x dx hx hdx ne
 obtain⟨R,ds,s,rp,k⟩:=h
 have ex:upd (upd H dx (.own x)) x (.ins (KC.cls C) dx []) x=some (.ins (KC.cls C) dx []):=dh
 have old:∀ b o,H b=some o->upd (upd H dx (.own x)) x (.ins (KC.cls C) dx []) b=some o:=fun b o h=>by
  rw[aW (fun z=>by rw[z,hx] at h;cases h),aW (fun z=>by rw[z,hdx] at h;cases h)]
  exact h
 have back:∀ a,upd (upd H dx (.own x)) x (.ins (KC.cls C) dx []) a=none->H a=none:=fun a ha=>by
  cases q:H a with
  |none=>rfl
  |some o=>rw[old a o q] at ha;cases ha
 have rx:R x=none:=s.free hx
 have tO:∀ {R' H'},wj x R (upd (upd H dx (.own x)) x (.ins (KC.cls C) dx [])) R' H'->Al R H R' H':=fun al=>⟨al.sub,al.rr,fun b o h=>al.hh b o (fun z=>by rw[z,hx] at h;cases h) (old b o h),fun b o h r=>al.no b o (fun z=>by rw[z,hx] at h;cases h) (old b o h) r⟩
 refine⟨x,dx,vs,R,ds,rfl,ex,rx,fun b o h=>old b o (s b o h),rp,?_⟩
 cases q:G ds with
 |none=>rw[q] at k;exact k
 |some r =>
   rw[q] at k
   cases r with
   |ok r =>
     obtain⟨es,rfl,gh⟩:=hG ds r q
     exact⟨es,rfl,gh,fun H' R' b xs al h1 h2 h3 h4=>⟨rfl,k _ H' R' (tO al) ⟨C,fl,x,dx,b,xs,es,rfl,rfl,h1,h2,hx,back b h3,h4,gh⟩⟩⟩
   |ex xc =>
     intro e H' R' al xr
     exact k e H' R' (tO al) (me.back back xr)
def mM(s1 s2:M Fl)(fe:M RV):M (List D):=M.bind s1 fun l1=>match l1 with
 | .nx=>M.bind s2 fun l2=>match l2 with
   | .nx=>M.bind fe fun rv=>match rv with
     | .new (.lst es)=>if gM es=true then M.pure es else M.st
     | _=>M.st
   | _=>M.st
 | _=>M.st
def qX(C:Cn)(fl:Str):Res (List D)->Option Rx
 | .ok es _=>some (.ok (.val (.obj C [fl] [.lst es])))
 | .ex x _=>some (.ex x)
 | .st=>none
theorem OP{P:Program}{w:World}{K:W.Frag}{mg:Str->Option Value}{base:Heap}{name qual:Str}{fa:Addr}{params:Arguments}{body:List Stmt}{scope:Scope}{dV kV doc pm cdv ct oc:Value}{an od:Option Addr}{osl:Array (Option Value)}{N ps:List Str}{k:Nat}{C:Cn}{fl:Str}{G:List D->Option Rx}{s1 s2:M Fl}{fe:M RV}{st1 st2:Stmt}{self:Str}{p0 p1 p2:Pos}{e:Expr}
 (lk:K.lookup fa=some ⟨oc,od,.func (W.fnOf name qual params body scope dV kV doc pm an cdv ct),osl⟩) (hcd:W.codeIn K cdv qual=true) (S:ak N ps scope) (hbody:body=[st1,st2,.Assign [.Attribute (.Name self p0) fl p1] e p2]) (hcl:fB K (KC.cls C)) (hna:a9 K (KC.cls C) fl)
 (hb:∀ (A:Around) (outer:List Env) (s:Shared) (H:Hp) (E:XK),aj k (A.deeper (PyProof.Rows.envOfC qual scope s.heap.objs.size fa cdv))->let X:=fZ (eT P w) P w K mg base N qual scope fa cdv A outer s H E
  VJ 0 X (fun _=>E) [] st1 s1/\VJ 0 X (fun _=>E) [] st2 s2/\VE X (fun _=>E) [] e fe/\PE X (.Name self p0) (n8 0)/\swapsWith e (some (.Attribute (.Name self p0) fl p1)) p2.line X.env=pure false)
 (h:∀ ds r,G ds=some r->ds.length+1=ps.length/\ds.length<N.length/\qX C fl (mM s1 s2 fe (none::(gam N.tail ds)))=some r):aD P w K mg base (eT P w) (k+1) fa (W.fnOf name qual params body scope dV kV doc pm an cdv ct) ps (AL C fl G):=by
 refine yg lk hcd S (fun vs H Q E q=>?_) fun A outer s H vs Q E hr q=>?_
 · obtain⟨x,dx,vs',R,ds,rfl,_,_,_,h2,h3⟩:=q
   cases e:G ds with
   |none=>rw[e] at h3;exact h3.elim
   |some r=>rw[qaD,h2.len];exact(h ds r e).1
 · obtain⟨x,dx,vs',R,ds,rfl,hx,OQ,h1,h2,h3⟩:=q
   cases eG:G ds with
   |none=>rw[eG] at h3;exact h3.elim
   |some r =>
     rw[eG] at h3
     obtain⟨⟨t1,a1,a2⟩,⟨t2,b1,b2⟩,⟨t3,c1,c2⟩,hv,hsw⟩:=hb A outer s H E hr
     obtain⟨hl1,hl2,fin⟩:=h ds r eG
     have hn0:N≠[]:=fun z=>by rw[z] at hl2;simp at hl2
     obtain⟨n0,N',rfl⟩:=List.exists_cons_of_ne_nil hn0
     have OR:ER [] R H (L2.start (n0::N') (.ref x::vs')) (none::gam N' ds):=by
      have er:=zE (N:=N') h1 h2
      have es:L2.start (n0::N') (.ref x::vs')=some (.ref x)::L2.start N' vs':=by
       unfold L2.start
       simp
      rw[es]
      refine⟨er.sub,by simp[er.len],fun i sl q=>?_,fun i j k l d e b q1 q2 q3 q4 q5 q6=>?_⟩
      · cases i with
        |zero=>simp at q
        |succ i=>simpa using er.sl i sl (by simpa using q)
      · cases i with
        |zero=>simp at q1
        |succ i =>
          cases j with
          |zero=>simp at q3
          |succ j=>rw[er.dj i j k l d e b (by simpa using q1) q2 (by simpa using q3) q4 (by simpa using q5) (by simpa using q6)]
     have mN:∀ b, ¬ Ow (L2.start (n0::N') (.ref x::vs')) (none::gam N' ds) b:=fun b=>by
      rintro⟨i,k,d,q1,q2,_⟩
      cases i with
      |zero=>simp at q1
      |succ i =>
        obtain⟨_,_,z⟩:=vy (N:=N') (by simpa using q1)
        cases z
        cases q2
     have mO:∀ {R' H':Hp} {ax:St} {Γ':En},bt [] R H (L2.start (n0::N') (.ref x::vs')) (none::gam N' ds) R' H' ax Γ'->wj x R H R' H'/\H' x=some (.ins (KC.cls C) dx [])/\R' x=none:=fun p =>
      ⟨⟨p.er.sub,p.go.rr,fun b o _ h=>p.go.hh b o h (mN b),fun b o _ h r=>p.go.no b o h (mN b) r⟩,p.go.hh x _ hx (mN x),p.go.no x _ hx (mN x) OQ⟩
     rw[hbody]
     refine⟨_,qa a1 (qa b1 (n_ (Ky hv c1 hsw))),?_⟩
     have s0:(L2.start (n0::N') (.ref x::vs'))[0]? = some (some (.ref x)):=zD rfl
     have fin:qX C fl (mM s1 s2 fe (none::gam N' ds))=some r:=fin
     unfold mM M.bind at fin
     show t1 _ _ _
     refine a2 _ H R _ _ OR ?_
     cases q1:s1 (none::gam N' ds) with
     |st=>rw[q1] at fin;cases fin
     |ex xc Γ' =>
       rw[q1] at fin
       cases fin
       exact fun e ax H' R' p qx=>h3 e H' R' (mO p).1 qx
     |ok f1 ag =>
       rw[q1] at fin
       refine lF fun eS H1 R1 p1 k1=>?_
       cases f1 with
       |brk=>cases fin
       |cont=>cases fin
       |ret rv=>cases fin
       |nx =>
         dsimp only at fin ⊢
         show t2 _ _ _
         refine b2 _ H1 R1 _ _ p1.er ?_
         cases q2:s2 ag with
         |st=>rw[q2] at fin;cases fin
         |ex xc Γ' =>
           rw[q2] at fin
           cases fin
           exact fun e ax H' R' p qx=>h3 e H' R' (mO (p1.trans p)).1 (qx.back p1.back)
         |ok f2 aq =>
           rw[q2] at fin
           refine lF fun cn H2 R2 p2 k2=>?_
           cases f2 with
           |brk=>cases fin
           |cont=>cases fin
           |ret rv=>cases fin
           |nx =>
             dsimp only at fin ⊢
             have jg:=p1.trans p2
             have k12:cn[0]? = some (some (.ref x)):=by rw[k2,k1];exact s0
             refine c2 cn H2 R2 aq _ p2.er ?_
             cases q3:fe aq with
             |st=>rw[q3] at fin;cases fin
             |ex xc Γ' =>
               rw[q3] at fin
               cases fin
               exact fun e H' R' p qx=>h3 e H' R' (mO (jg.trans p.dA)).1 (qx.back jg.back)
             |ok rv ik =>
               rw[q3] at fin
               dsimp only at fin
               refine lF fun y H3 R3 p3 hy=>?_
               cases rv with
               |val d=>cases fin
               |var i=>cases fin
               |new d =>
                 cases d with
                 |lst es =>
                   dsimp only at fin
                   by_cases gh:gM es=true
                   · rw[qay gh] at fin
                     cases fin
                     obtain⟨⟨b,ys,gB,rfl,r1,r2,r3,r4⟩,b',eb,hf⟩:=hy
                     cases eb
                     cases r3
                     obtain⟨wq,OS,OT⟩:=mO (jg.trans p3.dA)
                     have wt:H b=none:=jg.back b hf
                     have hbx:b≠x:=fun z=>by rw[z,hx] at wt;cases wt
                     refine⟨.ref x,k12,x,KC.cls C,dx,[],rfl,OS,hcl,hna,by simp,?_⟩
                     obtain⟨es',ee,_,h3⟩:=h3
                     cases ee
                     have re:ae R3 (ext R3 H3 b):=yW r1
                     have OU:ext R3 H3 b x=none:=by rw[qq (qaT hbx)];exact OT
                     have r':ae (ext R3 H3 b) (upd (ext R3 H3 b) x (.ins (KC.cls C) dx [(fl,.ref b)])):=jc OU
                     refine h3 _ (upd (ext R3 H3 b) x (.ins (KC.cls C) dx [(fl,.ref b)])) b ys ⟨fun c o hc=>?_,(wq.rr.trans re).trans r',fun c o hc ho=>by rw[aW hc];exact wq.hh c o hc ho,fun c o hc ho hr=>?_⟩ dh ?_ wt (r4.sm (re.trans r'))
                     · by_cases z:c=x
                       · subst z
                         rw[dh] at hc ⊢
                         exact hc
                       · rw[aW z] at hc ⊢
                         exact yX wq.sub c o hc
                     · rw[aW hc,qq]
                       · exact wq.no c o hc ho hr
                       · rintro rfl
                         rw[wt] at ho
                         cases ho
                     · rw[aW hbx,vb]
                       exact r2
                   · rw[qaz gh] at fin
                     cases fin
                 | _=>cases fin
def cZ(G:List D->Option Rx)(fs:M (List RV)):M RV:=M.bind fs fun rvs=>M.bind (cY rvs) fun ds=>match G ds with
 |some (.ok r)=>M.pure r.rv
 |some (.ex x)=>M.bind (bV rvs) fun ds'=>match G ds' with
  |some (.ex x)=>M.thr x
  | _=>M.st
 |none=>M.st
section
variable{X:Cx}{EE:aT}{ios:List Addr}{e:Expr}{es:List Expr}{fs:M (List RV)}{G:List D->Option Rx}{t:TA}
theorem Gv(h2:oR EE ios t fs)(er:ER ios R H σ Γ)
 (w:br (cZ G fs Γ) (fun rv Γ'=>∀ x H' R' r,rv=Rt.rv r->aQ ios R H σ Γ R' H' Γ'->kG H R' x r->Q x H') (dw EE ios R H σ Γ)):qK (tN G) [] EE t σ H Q:=by
 unfold cZ at w
 rw[Zj] at w
 refine h2 σ H R Γ _ er (aG w (fun rvs ag w xs H1 R1 p1 hx=>?_) fun _ _ z=>z)
 show tN G (xs++[]) H1 Q (EE σ)
 rw[qaX]
 rw[Zj] at w
 obtain⟨ds,q,w⟩:=zH w
 obtain⟨ds',pk,e⟩:=qw (K:=fun ds' _=>ds'=ds) (E:=fun _ _=>False) p1.er hx (by rw[q];exact rfl)
 subst e
 cases hG:G ds' with
 |none=>rw[hG] at w;exact False.elim w
 |some rx =>
   rw[hG] at w
   cases rx with
   |ex x =>
     have w:br (M.bind (bV rvs) (fun ds'=>match G ds' with
      |some (.ex x)=>M.thr x
      | _=>M.st) ag) _ _:=w
     rw[Zj] at w
     obtain⟨gB,aq,R2,p2,s2,r2,w⟩:=iE er p1 hx w
     refine⟨R2,gB,p2.er.sub,r2,?_⟩
     cases kA:G gB with
     |none=>rw[kA] at w;exact False.elim w
     |some ry =>
       rw[kA] at w
       cases ry with
       |ok r=>exact False.elim w
       |ex y=>exact fun e H' R' al xr=>w e H' R' (p2.al al) (xr.back p2.since)
   |ok r =>
     have w:∀ x H' R' r',r.rv=Rt.rv r'->aQ ios R H σ Γ R' H' ag->kG H R' x r'->Q x H':=w
     refine⟨lent (Ow σ ag) R1 H1,ds',vA p1.er.sub,Pks.lent p1.er hx pk q,?_⟩
     rw[hG]
     intro x H' R' al ra
     have ow:∀ b,Ow σ ag b->R1 b=none/\∃ xs,H1 b=some (.lst xs):=fun b z=>p1.er.ow z
     have un:∀ b, ¬ Ow σ ag b->cT (Ow σ ag) R' b=R' b:=fun b z=>by unfold cT;rw[if_neg z]
     have un':∀ b,Ow σ ag b->cT (Ow σ ag) R' b=none:=fun b z=>by unfold cT;rw[if_pos z]
     have tup:∀ b ys,R' b=some (.tup ys)->cT (Ow σ ag) R' b=some (.tup ys):=fun b ys z=>by
      rw[un b]
      · exact z
      · intro o
        obtain⟨_,zs,hz⟩:=ow b o
        have:=al.sub _ _ z
        rw[al.hh _ _ hz] at this
        cases this
     have rr:ae R1 (cT (Ow σ ag) R'):=fun b o z=>by
      have nb : ¬ Ow σ ag b:=fun q=>by rw[(ow b q).1] at z;cases z
      rw[un b nb]
      apply al.rr
      unfold lent
      rw[qaz nb]
      exact z
     have no:∀ b o,H1 b=some o->R1 b=none->cT (Ow σ ag) R' b=none:=fun b o hb rb=>by
      by_cases nb:Ow σ ag b
      · exact un' b nb
      · rw[un b nb]
        apply al.no b o hb
        unfold lent
        rw[qaz nb]
        exact rb
     have al':Al R1 H1 (cT (Ow σ ag) R') H':=⟨fun b o z=>by
      by_cases nb:Ow σ ag b
      · rw[un' b nb] at z;cases z
      · rw[un b nb] at z;exact al.sub b o z,rr,al.hh,no⟩
     refine w x H' _ r rfl (p1.al al') ?_
     obtain⟨C,fl,a,dx,b,xs',gB,rfl,rfl,h1,h3,h4,h5,h6,h7⟩:=ra
     have nw:∀ c,H1 c=none -> ¬ Ow σ ag c:=fun c hc z=>by obtain⟨_,zs,hz⟩:=ow c z;rw[hc] at hz;cases hz
     exact⟨C,fl,a,dx,b,xs',gB,rfl,rfl,by rw[un a (nw a h4)];exact h1,by rw[un b (nw b h5)];exact h3,p1.back er a h4,p1.back er b h5,h6.less tup h7,h7⟩
def VY(X:Cx)(EE:aT)(ios:List Addr)(e:Expr)(G:List D->Option Rx)(fs:M (List RV)):Prop:=∃ t,PE X e (qK (tN G) [] EE t)/\oR EE ios t fs
theorem VY.ve(h:VY X EE ios e G fs):VE X EE ios e (cZ G fs):=by
 obtain⟨t,h1,h2⟩:=h
 exact⟨_,h1,fun σ H R Γ Q er w=>Gv h2 er (aG w (fun rv Γ' w x H' R' r e p so=>by subst e;exact w x H' R' p so.rp) fun _ _ z=>z)⟩
def KBd(K:W.Frag)(fd:FuncData)(ps:List Str):Prop:=∀ (s:Shared) (a:Value) (us:List Value),K.In s.heap->us.length=ps.length->BindsTo s fd ⟨[a],ps.zip us⟩ ((("self" : Str)::ps).zip (a::us))
def tP(P:Program)(w:World)(mg:Str->Option Value)(base:Heap)(x:Str)(k:Nat)(ps:List Str)(dvs:List V)(C:Cn)(fl:Str)(G:List D->Option Rx):Prop:=mg x=some (.ref (KC.cls C))/\(∀ ds r,G ds=some (.ok r)->∃ es,r = .val (.obj C [fl] [.lst es])/\gM es=true)/\∃ f fd,Mk KC.K (KC.cls C) f/\aD P w KC.K mg base (eT P w) k f fd ("self" :: ps) (AL C fl G)/\Binds KC.K fd ("self" :: ps) []/\(∃ dd,Binds KC.K fd ("self" :: ps) dd/\Vals dvs dd)/\KBd KC.K fd ps
theorem lG{x fl:Str}{k:Nat}{ps:List Str}{p0 pos:Pos}{dvs:List V}{C:Cn}(hX:XOk X EE)(Mc:tP X.prog X.w X.mg X.base x k ps dvs C fl G)(hr:aj (k+1) X.A)(hg:Gl X x)(ha:VA X EE ios (e::es) fs)(hK:X.K=KC.K:=by rfl)(hdb:(x == ("__debug__" : Str))=false:=by decide)
 (he:starEach (e::es) X.env=(false,eval e X.env)::starEach es X.env:=by rfl) (hpl:(backTo pos (starEach es X.env)).any (·.1)=false:=by rfl):VY X EE ios (.Call (.Name x p0) (e::es) [] pos) G fs:=by
 obtain⟨hm,hG,f,fd,Mo,F,hb,_⟩:=Mc
 rw[<- hK] at F hb Mo
 obtain⟨t,h1,h2⟩:=ha
 exact⟨t,Ox Mo F hr hg hm hb .nil hX (Gu hG) h1 hdb he hpl,h2⟩
theorem AM{x fl:Str}{k:Nat}{ps:List Str}{p0 pos:Pos}{C:Cn}(hX:XOk X EE)(Mc:tP X.prog X.w X.mg X.base x k ps [.av] C fl G)(hr:aj (k+1) X.A)(hg:Gl X x)(hK:X.K=KC.K:=by rfl)(hdb:(x == ("__debug__" : Str))=false:=by decide):VE X EE ios (.Call (.Name x p0) [] [] pos) (cZ G (M.pure [.val .av])):=by
 obtain⟨hm,hG,f,fd,Mo,F,_,⟨dd,hb,hd⟩,_⟩:=Mc
 rw[<- hK] at F hb Mo
 refine⟨_,Oy (dvs:=[.av]) Mo F hr hg hm hb hd hX (Gu hG) hdb,fun σ H R Γ Q er w=>?_⟩
 show tN G [.av] H Q (EE σ)
 exact Gv (t:=fun _ H Q=>Q [.av] H) (EE:=EE) (fs:=M.pure [.val .av]) (fun σ H R Γ Q er w=>w [.av] H R (aQ.refl er) (.cons .av .nil)) er (aG w (fun rv Γ' w x H' R' r e p so=>by subst e;exact w x H' R' p so.rp) fun _ _ z=>z)
end
def mP(C:Cn)(m qual:Str)(st:Stmt):Prop:=∃ f fd,ix KC.K m qual st f fd/\Meth KC.K (KC.cls C) m f
def gj(P:Program)(w:World)(mg:Str->Option Value)(base:Heap)(C:Cn)(m:Str)(k:Nat)(ps:List Str)(sp:Sp):Prop:=∃ f fd,Meth KC.K (KC.cls C) m f/\aD P w KC.K mg base bZ k f fd ps sp/\Binds KC.K fd ps []
section
variable{P:Program}{w:World}{mg:Str->Option Value}{base:Heap}{k:Nat}{N ps:List Str}{C:Cn}{m qual fl:Str}{st:Stmt}
theorem wu(A0:mP C m qual st)(S:ak N ps (aa st))
 (bd:∀ (kV doc pm:Value) (an:Option Addr) (cdv ct:Value) (us:List Value),us.length=ps.length->bindArgs (W.fnOf m qual (aP st) (af st) (aa st) .none kV doc pm an cdv ct) ⟨us,[]⟩=pure (ps.zip us))
 (hb:∀ (fa:Addr) (cdv:Value) (A:Around) (outer:List Env) (s:Shared) (H:Hp) (E:XK),aj k (A.deeper (PyProof.Rows.envOfC qual (aa st) s.heap.objs.size fa cdv))->cJ (fZ bZ P w KC.K mg base N qual (aa st) fa cdv A outer s H E).k9 EN [] (af st) bm)
 (h:∀ ds r,G ds=some r->ds.length=ps.length/\b7 (bm (gam N ds))=some r):gj P w mg base C m (k+1) ps (aX G) :=
 let ⟨f,fd,F,hm⟩:=A0
 ⟨f,fd,hm,zF F S (hb f) h,F.binds bd⟩
def Gw(C:Cn)(qual:Str)(st:Stmt)(ps:List Str):Prop:=∃ (fa:Addr) (dV kV doc pm cdv ct oc:Value) (an od:Option Addr) (osl:Array (Option Value)),KC.K.lookup fa=some ⟨oc,od,.func (W.fnOf "__init__" qual (aP st) (af st) (aa st) dV kV doc pm an cdv ct),osl⟩/\W.codeIn KC.K cdv qual=true/\Mk KC.K (KC.cls C) fa /\
 Binds KC.K (W.fnOf "__init__" qual (aP st) (af st) (aa st) dV kV doc pm an cdv ct) ("self" :: ps) []/\Binds KC.K (W.fnOf "__init__" qual (aP st) (af st) (aa st) dV kV doc pm an cdv ct) ("self" :: ps) [.none]/\KBd KC.K (W.fnOf "__init__" qual (aP st) (af st) (aa st) dV kV doc pm an cdv ct) ps
def runN(C:Cn)(fl:Str)(n:Nat)(N:List Str)(s1 s2:M Fl)(fe:M RV):List D->Option Rx:=fun ds=>if ds.length=n then qX C fl (mM s1 s2 fe (none::gam N ds)) else none
theorem Gx(h:runN C fl n N s1 s2 fe ds=some r):ds.length=n/\qX C fl (mM s1 s2 fe (none::gam N ds))=some r:=by
 unfold runN at h
 split at h
 · rename_i c;exact⟨c,h⟩
 · cases h
omit [KC] in
theorem AN{α β:Type}{f:M α}{g:α->M β}{b:β}(h:M.bind f g Γ = .ok b Γ'):∃ a ag,f Γ = .ok a ag/\g a ag = .ok b Γ':=by
 unfold M.bind at h
 cases q:f Γ with
 |ok a ag=>rw[q] at h;exact⟨a,ag,rfl,h⟩
 |ex x ag=>rw[q] at h;cases h
 |st=>rw[q] at h;cases h
theorem OV(ds:List D)(r:Rt)(h:runN C fl n N s1 s2 fe ds=some (.ok r)):∃ es,r = .val (.obj C [fl] [.lst es])/\gM es=true:=by
 have h:=(Gx h).2
 cases q:mM s1 s2 fe (none::gam N ds) with
 |st=>rw[q] at h;cases h
 |ex x Γ=>rw[q] at h;cases h
 |ok es Γ =>
   rw[q] at h
   cases h
   refine⟨es,rfl,?_⟩
   unfold mM at q
   obtain⟨l1,ag,_,q⟩:=AN q
   cases l1 with
   |nx =>
     obtain⟨l2,aq,_,q⟩:=AN q
     cases l2 with
     |nx =>
       obtain⟨rv,ik,_,q⟩:=AN q
       cases rv with
       |new d =>
         cases d with
         |lst zs =>
           dsimp only at q
           split at q
           · rename_i hm
             cases q
             exact hm
           · cases q
         | _=>cases q
       | _=>cases q
     | _=>cases q
   | _=>cases q
theorem OW(A0:Gw C qual st ps)(hm:mg x=some (.ref (KC.cls C)))(S:ak ("self" :: N) ("self" :: ps) (aa st))(hbd:af st=[st1,st2,.Assign [.Attribute (.Name self p0) fl p1] e p2])(hcl:fB KC.K (KC.cls C))(hna:a9 KC.K (KC.cls C) fl)(hn:ps.length=n)(hN:n<N.length+1)
 (hb:∀ (fa:Addr) (cdv:Value) (A:Around) (outer:List Env) (s:Shared) (H:Hp) (E:XK),aj k (A.deeper (PyProof.Rows.envOfC qual (aa st) s.heap.objs.size fa cdv))->let X:=fZ (eT P w) P w KC.K mg base ("self" :: N) qual (aa st) fa cdv A outer s H E
  VJ 0 X (fun _=>E) [] st1 s1/\VJ 0 X (fun _=>E) [] st2 s2/\VE X (fun _=>E) [] e fe/\PE X (.Name self p0) (n8 0)/\swapsWith e (some (.Attribute (.Name self p0) fl p1)) p2.line X.env=pure false):tP P w mg base x (k+1) ps [.av] C fl (runN C fl n N s1 s2 fe):=by
 obtain⟨fa,dV,kV,doc,pm,cdv,ct,oc,an,od,osl,lk,hcd,Mo,b0,b1,b2⟩:=A0
 refine⟨hm,OV,fa,_,Mo,OP lk hcd S hbd hcl hna (hb fa cdv) (fun ds r q=>?_),b0,⟨[.none],b1,.cons rfl .nil⟩,b2⟩
 obtain⟨h1,h2⟩:=Gx q
 exact⟨by rw[qaD,hn,h1],by rw[h1];exact hN,h2⟩
end
section
variable{X:Cx}{EE:aT}{ios:List Addr}{k:Nat}{ps:List Str}{C:Cn}{m:Str}{pos apos:Pos}{e o:Expr}{es:List Expr}{fs:M (List RV)}{fo:M RV}{Gp:List D->Option Rt}
theorem OX{pl:Sem Bool}(hcl:fB KC.K (KC.cls C))(Mc:gj X.prog X.w X.mg X.base C m k ps (aX Gp))(hr:aj k X.A)(ha:VE X EE ios o fo)(hs:VA X EE ios (e::es) fs)(hK:X.K=KC.K:=by rfl)
 (hst:starEach (e::es) X.env=(false,eval e X.env)::starEach es X.env:=by rfl) (hpl:(backTo pos (starEach es X.env)).any (·.1)=false:=by rfl)
 (ht:eval (.Call (.Attribute o m apos) (e::es) [] pos) X.env=(do
  let ov <- eval o X.env
  standAt apos.atName
  let (f,first) <- holding [ov] (getMethod ov m pl)
  callWith pos f first (backTo pos (starEach (e::es) X.env)) (backToKw pos (keywordEach [] X.env))):=by rfl):VE X EE ios (.Call (.Attribute o m apos) (e::es) [] pos) (tM C m Gp fo fs):=by
 obtain⟨f,fd,hm,F,hb⟩:=Mc
 rw[<- hK] at hcl hm F hb
 exact ON hcl hm F hr hb ha hs hst hpl ht
theorem pM(hcl:fB KC.K (KC.cls C))(hna:a9 KC.K (KC.cls C) y)(ha:VE X EE ios e fo)(hb:attributeBase e y X.env (eval e X.env)=eval e X.env:=by rfl)(hK:X.K=KC.K:=by rfl):VE X EE ios (.Attribute e y pos) (kF C y fo):=by
 rw[<- hK] at hcl hna
 exact OE hcl hna ha hb
end
end Dv
namespace Dv
open PySem L2 Ex
section
variable{Γ:En}{f fo:M RV}{fs:M (List RV)}{G:List D->Option Rt}{GX:List D->Option Rx}{C:Cn}{m y:Str}
@[simp] theorem AO:tM C m G f fs Γ=M.bind f (fun rv=>M.bind (mat rv) fun d=>match d with
 | .obj C' ns vs=>if cd (C'=C/\m ∉ ns) then M.bind fs fun rvs=>M.bind (bV rvs) fun ds=>M.cx ((G (.obj C' ns vs::ds)).map Rt.rv) else M.st
 | _=>M.st) Γ:=(rfl)
@[simp] theorem AQ:kF C y f Γ=M.bind f (fun rv=>M.bind (mat rv) fun d=>match d with
 | .obj C' ns vs=>if cd (C'=C) then M.cx (((ns.zip vs).lookup y).map .val) else M.st
 | _=>M.st) Γ:=(rfl)
@[simp] theorem wx:cZ GX fs Γ=M.bind fs (fun rvs=>M.bind (cY rvs) fun ds=>match GX ds with
 |some (.ok r)=>M.pure r.rv
 |some (.ex x)=>M.bind (bV rvs) fun ds'=>match GX ds' with
  |some (.ex x)=>M.thr x
  | _=>M.st
 |none=>M.st) Γ:=(rfl)
@[simp] theorem wy:tL f Γ=M.bind (jM f) (fun x=>M.bind (peek x) fun d=>M.cx (tK d)) Γ:=(rfl)
@[simp] theorem wz:tK (.lst xs)=some (.val (.bl true)):=(rfl)
@[simp] theorem Gy:we out items fr own t p f Γ=M.bind items (fun ds=>if ds.length<256 then M.bind (cS fr own t p f ds) fun ys=>M.cx (out ys) else M.st) Γ:=(rfl)
@[simp] theorem AR:qW ys=(asP ys).map fun cs=>.new (.lst ((aM cs).map pD)):=(rfl)
@[simp] theorem Gz:cd (¬ ("has" : Str) = "held")=true:=dz (by decide +kernel)
@[simp] theorem GA:cd True=true:=dz trivial
end
noncomputable def GB(sc:Scope)(y:Str):Bool:=match sc.names.lookup y with
 |some .local=>true
 |some .cell=>true
 | _=>false
theorem fH(h:GB sc y=true):Loc sc y:=by
 unfold GB at h
 split at h
 · rename_i e;exact .inl e
 · rename_i e;exact .inr e
 · cases h
end Dv
namespace L2
open PySem PySem.Spec PyProof.Rows Ex
mutual
inductive cM(H:Hp):V->PyData->Prop
 |av:cM H .av .none
 |bl (b:Bool):cM H (.bl b) (.bool b)
 |int (i:Int):cM H (.int i) (.int i)
 |str (x:Str):cM H (.str x) (.str x)
 |lst {a:Addr} {xs:List V} {ds:List PyData}:H a=some (.lst xs)->cc H xs ds->cM H (.ref a) (.list ds)
 |tup {a:Addr} {xs:List V} {ds:List PyData}:H a=some (.tup xs)->cc H xs ds->cM H (.ref a) (.tuple ds)
 |md {a:Addr}:H a=some (.dK [])->cM H (.ref a) (.dict [])
inductive cc(H:Hp):List V->List PyData->Prop
 |nil:cc H [] []
 |cons {x:V} {d:PyData} {xs:List V} {ds:List PyData}:cM H x d->cc H xs ds->cc H (x::xs) (d::ds)
end
def tQ(K:W.Frag):Prop:=∃ o,K.lookup sysModules=some o/\o.cls = .type "dict"
mutual
theorem cM.reads(ok:bY P w H h)(hs:∀ o,h.get? sysModules=some o->o.cls = .type "dict"):∀ {x:V} {d:PyData} {u:Value},cM H x d->RelV x u->∃ as,Reads h u d as/\sysModules ∉ as
 | _,_,_,.av,r=>by cases r;exact⟨_,.none,by simp⟩
 | _,_,_,.bl b,r=>by cases r;exact⟨_,.bool b,by simp⟩
 | _,_,_,.int i,r=>by obtain⟨t,rfl⟩:=r;exact⟨_,.int i t,by simp⟩
 | _,_,_,.str x,r=>by obtain⟨t,rfl⟩:=r;exact⟨_,.str x t,by simp⟩
 | _,_,_,.lst e D,r=>by
   cases r
   obtain⟨_,its,n,rv,q⟩:=ok _ _ e
   obtain⟨as,R,ns⟩:=cc.reads ok hs D rv
   refine⟨_,.list q rfl rfl R,fun z=>?_⟩
   rcases qav.mp z with z | z
   · exact absurd (show Value.type "list" = Value.type "dict" from hs _ (z ▸ q)) (by decide)
   · exact ns z
 | _,_,_,.tup e D,r=>by
   cases r
   obtain⟨_,its,rv,o,q,c,n,d⟩:=ok _ _ e
   obtain⟨as,R,ns⟩:=cc.reads ok hs D rv
   exact⟨_,.tuple q c d R,ns⟩
 | _,_,_,.md e,r=>by
   cases r
   obtain⟨R,nb⟩:=NC ok e
   exact⟨_,R,fun z=>nb (qa4.mp z).symm⟩
theorem cc.reads(ok:bY P w H h)(hs:∀ o,h.get? sysModules=some o->o.cls = .type "dict"):∀ {xs:List V} {ds:List PyData} {us:List Value},cc H xs ds->Vals xs us->∃ as,ReadsAll h us ds as/\sysModules ∉ as
 | _,_,_,.nil,r=>by cases r;exact⟨_,.nil,by simp⟩
 | _,_,_,.cons a b,r=>by
   cases r with
   |cons r1 r2 =>
     obtain⟨_,R1,n1⟩:=cM.reads ok hs a r1
     obtain⟨_,R2,n2⟩:=cc.reads ok hs b r2
     exact⟨_,.cons R1 R2,fun z=>(qaO.1 z).elim n1 n2⟩
end
section
variable{X:Cx}
theorem OY(hr:aj k X.A)(sm:tQ X.K):aB X (.builtin "repr") (fun xs H Q=>∃ (a:Addr) (d:PyData),xs=[.ref a]/\cM H (.ref a) d/\d.showable=true/\d.depth<=50/\d.shown.length<=sizeLine/\Q (.str d.shown) H):=by
 intro pins s σ H xs us Q I r h
 obtain⟨a,d,rfl,D,sh,dp,sz,q⟩:=h
 obtain⟨u,rfl,ru⟩:=r.one
 cases ru
 obtain⟨o,so,sc⟩:=sm
 obtain⟨as,R,ns⟩:=D.reads I.hok (fun o' e=>by rw[I.aS _ _ so] at e;cases e;exact sc) (u:=.ref a) rfl
 have un:=hr.units
 exact repr_of_reads' R sh (fun _=>ns) hr.gd (by omega) (fun _ _ z=>z) (fun h' u tk kp=>⟨.str d.shown,H,I.kept kp,⟨u,rfl⟩,q⟩) sz
theorem OZ:aB X (.builtin "repr") (fun xs H Q=>xs=[.av]/\Q (.str "None") H):=by
 intro pins s σ H xs us Q I r h
 obtain⟨rfl,q⟩:=h
 obtain⟨u,rfl,ru⟩:=r.one
 cases ru
 exact PySem.P.repr_of_none ⟨.str _,H,I.kept (fun _ _ e=>e),⟨_,rfl⟩,q⟩
end
end L2
namespace Dv
open PySem L2 Ex
variable[KC]
mutual
noncomputable def iW:D->Bool
 | .av=>true
 | .bl _=>true
 | .int _=>true
 | .str _=>true
 | .lst xs=>mQ xs
 | .tup xs=>mQ xs
 | .md [] []=>true
 | _=>false
noncomputable def mQ:List D->Bool
 | []=>true
 |x::r=>iW x && mQ r
end
mutual
theorem Rp.iI:∀ {x:V} {d:D},Rp H x d->iW d=true->cM H x d.py
 | _,_,.av,_=>.av
 | _,_,.bl b,_=>.bl b
 | _,_,.int i,_=>.int i
 | _,_,.str x,_=>.str x
 | _,_,.lst e h,p=>.lst e (aw.iI h (by simpa [iW] using p))
 | _,_,.tup e h,p=>.tup e (aw.iI h (by simpa [iW] using p))
 | _,_,.iB e,p=>.md e
 | _,_,.bH e,p=>by simp[iW] at p
 | _,_,.iC e,p=>by simp[iW] at p
 | _,_,.exc e e' h,p=>by simp[iW] at p
 | _,_,.obj e h,p=>by simp[iW] at p
theorem aw.iI:∀ {xs:List V} {ds:List D},aw H xs ds->mQ ds=true->cc H xs (D.cy ds)
 | _,_,.nil,_=>.nil
 | _,_,.cons a b,p=>by
   have p:=qbl.mp (show(iW _ && mQ _)=true from by simpa only [mQ] using p)
   exact .cons (Rp.iI a p.1) (aw.iI b p.2)
end
noncomputable def GC:D->Bool
 | .lst _=>true
 | .tup _=>true
 | .md _ _=>true
 | _=>false
def pN(d:D):Bool:=iW d && d.py.showable && decide (d.py.depth<=50) && decide (d.py.shown.length<=sizeLine)
def tR:List D->Option RV
 | [.str x]=>if cd ((reprText x).length<=sizeLine) then some (.val (.str (reprText x))) else none
 | [.int i]=>if cd (i.natAbs.log2<1920) then some (.val (.str (toString i))) else none
 | [.bl b]=>some (.val (.str (if b then "True" else "False")))
 | [.av]=>some (.val (.str "None"))
 | [d]=>if GC d && pN d then some (.val (.str d.py.shown)) else none
 | _=>none
def GD(xs:List V)(H:Hp)(Q:VK):Prop:=(∃ (a:Addr) (d:PyData),xs=[.ref a]/\cM H (.ref a) d/\d.showable=true/\d.depth<=50/\d.shown.length<=sizeLine/\Q (.str d.shown) H) \/
 (∃ i:Int,xs=[.int i]/\i.natAbs.log2<1920/\Q (.str (toString i)) H) \/
 (∃ x:Str,xs=[.str x]/\(reprText x).length<=sizeLine/\Q (.str (reprText x)) H) \/
 (∃ b:Bool,xs=[.bl b]/\Q (.str (if b then "True" else "False")) H)\/(xs=[.av]/\Q (.str "None") H)
omit [KC] in
theorem O0{X:Cx}(hr:aj k X.A)(sm:tQ X.K):aB X (.builtin "repr") GD:=(OY hr sm).or (gP.or (gQ.or (gR.or OZ)))
theorem O3:ki GD tR:=by
 intro R H xs ds rv Q s px hg q
 unfold tR at hg
 split at hg
 · rename_i x
   split at hg
   · rename_i c
     cases hg
     obtain⟨x,rfl,p⟩:=px.one
     have e:=p.str
     subst e
     exact .inr (.inr (.inl ⟨_,rfl,dR c,q _ H R (Al.refl s) (.str _)⟩))
   · cases hg
 · rename_i i
   split at hg
   · rename_i c
     cases hg
     obtain⟨x,rfl,p⟩:=px.one
     have e:=p.int
     subst e
     exact .inr (.inl ⟨_,rfl,dR c,q _ H R (Al.refl s) (.str _)⟩)
   · cases hg
 · rename_i b
   cases hg
   obtain⟨x,rfl,p⟩:=px.one
   have e:=p.bl
   subst e
   exact .inr (.inr (.inr (.inl ⟨_,rfl,q _ H R (Al.refl s) (.str _)⟩)))
 · cases hg
   obtain⟨x,rfl,p⟩:=px.one
   have hv:=p.hv s
   cases hv
   exact .inr (.inr (.inr (.inr ⟨rfl,q _ H R (Al.refl s) (.str _)⟩)))
 · rename_i d _ _ _ _
   obtain⟨x,rfl,p⟩:=px.one
   split at hg
   · rename_i c
     cases hg
     rw[qa1] at c
     obtain⟨c1,c0⟩:=c
     unfold pN at c0
     simp only[Bool.and_eq_true,decide_eq_true_eq] at c0
     obtain⟨⟨⟨c2,c3⟩,c5⟩,c6⟩:=c0
     have hv:=p.hv s
     have D:=hv.iI c2
     have:∃ a,x = .ref a:=by cases hv<;>first | exact⟨_,rfl⟩ | cases c1
     obtain⟨a,rfl⟩:=this
     exact .inl ⟨a,d.py,rfl,D,c3,c5,c6,q _ H R (Al.refl s) (.str _)⟩
   · cases hg
 · cases hg
end Dv
namespace St
open PySem PyProof.Rows PySem.Spec
section
variable{prog:Program}{w:World}{A:Around}{E:Value->Shared->Prop}{s:Shared}
def wA(cs:List Z)(i:Nat)(zs:List Z):Prop:=(∀ c,c∈zs.map (·.1) ↔ c∈(cs.take i).map (·.1))/\(∀ z∈zs,z∈cs)/\zs.length<=i/\(zs.map (·.1)).Nodup
theorem O4(W:Walks prog w A.in1 I fp wr n P Wt)(hSf:S ∉ fp)(hu:A.units+1<cLine)(cs:List Z)(hl:cs.length=n)
 (hv:∀ i v,P i v->∃ z,cs[i]? = some z/\v = .ref z.2) (hn:n<600) (sm:∀ z∈cs,bp z.1) (GF:∀ z∈cs,z.2 ∉ S::wr):∀ (k i:Nat) (s:Shared) (zs:List Z),n - i=k->i<=n->Wt i s.heap->(∀ z∈cs,bO s.heap z.1 z.2)->bP B s.heap S zs->wA cs i zs ->
  (∀ h' tk zs',(∀ b o,b ∉ S::wr->s.heap.get? b=some o->h'.get? b=some o)->bP B h' S zs'->wA cs n zs'->R (.ok (.ret .none)) { s with heap:=h',toks:=tk }) ->
  codeAny (model prog w) A (.builtin "set.update.loop" ⟨[.ref S,.ref I],[]⟩) R s:=by
 have hSw:S ∉ wr:=fun z=>hSf (W.sub _ z)
 intro k
 induction k with
 |zero =>
   intro i s zs hk hi st hP hS hT hR
   obtain rfl:i=n:=by omega
   refine qbG PyProof.Rows.F.entry_set_update_loop ?_
   rw[qbj qbm _]
   show wpAny _ _ (pyNext (.ref I) >>= _) _ _ _
   refine qaa (W.done s _ _ st fun h' tk hk=>?_)
   show  wpAny _ _ (ret Value.none) _ _ _
   exact qac (hR h' tk zs (fun b o hb e=>hk b o (fun z=>hb (.tail _ z)) e) (hS.at fun o e=>hk _ _ hSw e) hT)
 |succ k ih =>
   intro i s zs hk hi st hP hS hT hR
   have lt:i<n:=by omega
   refine qbG PyProof.Rows.F.entry_set_update_loop ?_
   rw[qbj qbm _]
   show wpAny _ _ (pyNext (.ref I) >>= _) _ _ _
   refine qaa (W.item i s _ _ lt st fun v h1 O5 hv1 st1 hk1=>?_)
   obtain⟨z,hz,rfl⟩:=hv i v hv1
   have AS:z∈cs:=qaN hz
   have hS1:bP B h1 S zs:=hS.at fun o e=>hk1 _ _ hSw e
   have wB:∀ z∈cs,bO h1 z.1 z.2:=fun y hy=>(hP y hy).at fun o e=>hk1 _ _ (fun q=>GF y hy (.tail _ q)) e
   have e1:cs.take (i+1)=cs.take i++[z]:=by
    obtain⟨h1,h2⟩:=qad.mp hz
    rw[List.take_succ_eq_append_getElem h1,h2]
   show wpAny _ _ (holding [Value.ref z.2] (setAdd S (.ref z.2)) >>= _) _ _ _
   refine qaa (qaY ?_)
   refine Cy (s:={ s with heap:=h1,toks:=O5 }) hu hS1 (fun y hy=>wB y (hT.2.1 y hy)) (wB z AS) (sm z AS) (by have:=hT.2.2.1;omega) (fun hin tk=>?_) fun pK h2 tk zs' sb S2 pm=>?_
   · refine qac ⟨plainId_quiet qbm _,ih (i+1) _ zs (by omega) lt st1 wB hS1 ⟨fun c=>?_,hT.2.1,by have:=hT.2.2.1;omega,hT.2.2.2⟩ fun h3 tk3 AU hk3 S3 T3=>?_⟩
     · rw[e1,List.map_append,qaO,hT.1 c]
       constructor
       · exact .inl
       · rintro(q | q)
         · exact q
         · simp at q;rw[q];exact(hT.1 _).mp hin
     · exact hR h3 tk3 AU (fun b o hb e=>hk3 b o hb (hk1 b o (fun z=>hb (.tail _ z)) e)) S3 T3
   · have eO:=pm.map (·.1)
     refine qac ⟨plainId_quiet qbm _,ih (i+1) _ zs' (by omega) lt (W.frame _ _ _ st1 fun b hb o e=>?_) (fun y hy=>(wB y hy).at fun o e=>?_) S2 ⟨fun c=>?_,fun y hy=>?_,?_,?_⟩ fun h3 tk3 AU hk3 S3 T3=>?_⟩
     · rw[sb.2 b fun z=>hSf (by rw[<- z];exact hb)];exact e
     · rw[sb.2 y.2 fun q=>GF y hy (by rw[q];exact qaw)];exact e
     · rw[eO.mem_iff,e1,List.map_append,qaO,qaV,qav,hT.1 c]
       simp[or_comm]
     · rcases qav.mp (pm.mem_iff.mp hy) with e | e
       · rw[e];exact AS
       · exact hT.2.1 y e
     · rw[pm.length_eq,qaD];have:=hT.2.2.1;omega
     · exact eO.nodup_iff.mpr (qbg.mpr ⟨pK,hT.2.2.2⟩)
     · refine hR h3 tk3 AU (fun b o hb e=>hk3 b o hb ?_) S3 T3
       rw[sb.2 b fun z=>hb (by rw[z];exact qaw)]
       exact hk1 b o (fun z=>hb (.tail _ z)) e
theorem jr{cs:List Z}(hh:A.handled=none)(hu:A.units+10<cLine)(hl:s.heap.IsList l items)(hi:items.toList=cs.map fun z=>Value.ref z.2)(hP:∀ z∈cs,bO s.heap z.1 z.2)(sm:∀ z∈cs,bp z.1)(hn:cs.length<600)
 (h:∀ (h':Heap) (tk:Nat) (zs:List Z),bP (w.params.followText "set-order") h' s.heap.objs.size zs->wA cs cs.length zs->(∀ b o,s.heap.get? b=some o->h'.get? b=some o)->Q (.ref s.heap.objs.size) { s with heap:=h',toks:=tk }) :
 wpAny (model prog w) A (call (.type "set") [.ref l]) Q E s:=by
 have len:cs.length=items.size:=by have:=congrArg List.length hi;simpa using this.symm
 refine Ij rfl ?_
 generalize w.params.followText "set-order" = B at h ⊢
 obtain⟨⟨cl,di,da,sl⟩,g,rfl,n,rfl⟩:=hl
 have new:(s.heap.push (bh #[] 0 (.fresh 0 0 (!B)))).get? s.heap.objs.size=some (bh #[] 0 (.fresh 0 0 (!B))):=qah _ rfl
 generalize hH:s.heap.push (bh #[] 0 (.fresh 0 0 (!B)))=H at new ⊢
 have up:∀ b o,s.heap.get? b=some o->H.get? b=some o:=fun b o e=>by rw[<- hH];exact qab _ e
 have sz:H.objs.size=s.heap.objs.size+1:=by rw[<- hH];exact qbF ..
 have gl:=up _ _ g
 have lt:l<s.heap.objs.size:=qaf g
 have il:H.IsList l items:=⟨_,gl,rfl,n,rfl⟩
 have no:=F.sub_list_set
 have S4:=F.sub_list_frozenset
 have S5:(Value.type "list" == Value.type "dict")=false:=by decide
 have new':=new
 unfold bh at new
 unfold Builtin.«set.__init__» noKeywords
 unfold Builtin.Frozenset.updateFrom
 generalize O6:pyIter=PI
 wp_walk
 rw[<- O6]
 refine PySem.wpAny_pyIter_list (s:={ s with heap:=H }) il ?_
 refine qaa ?_
 have O7:∀ z∈cs,z.2<s.heap.objs.size:=fun z hz=>by obtain⟨o,_,_,_,_,e,_⟩:=hP z hz;exact qaf e
 refine wpAny_runValue (O4 (Walks.list (by simp[hh]) H.objs.size l (qal (by rw[sz];exact qbP lt)) items) (S:=s.heap.objs.size) (B:=B) (fun z=>?_) (by simp[Around.in1];omega) cs len (fun i v hv=>?_) (by omega) sm (fun z hz q=>?_) (items.size - 0) 0 _ [] rfl (qbp _)
  ⟨⟨_,qah _ rfl,rfl,rfl⟩,il.push _⟩ (fun z hz=>(hP z hz).at fun o e=>qab _ (up _ _ e)) (bP.fresh B (qab _ new')) ⟨fun c=>by simp,(fun z hz=>nomatch hz),qag _,List.nodup_nil⟩ fun h' tk zs hk S' T'=>?_)
 · rcases qav.mp z with z | z
   · rw[sz] at z
     exact absurd z (qal (qbz _))
   · exact absurd (qa4.mp z) (Nat.ne_of_gt lt)
 · have hv:items.toList[i]? = some v:=by rw[qau];exact hv
   rw[hi,qaE] at hv
   cases q:cs[i]? with
   |none=>rw[q] at hv;cases hv
   |some z=>rw[q] at hv;cases hv;exact⟨z,rfl,rfl⟩
 · have:=O7 z hz
   rcases qav.mp q with q | q
   · exact absurd q (qal this)
   · rw[qa4,sz] at q
     exact absurd q (qal (qbP this))
 · show wpAny _ _ _ _ _ _
   refine qac (show wpAny _ _ (ret Value.none) _ _ _ from qac ⟨rfl,h h' tk zs S' (by rw[len];exact T') fun b o e=>hk b o (fun z=>?_) (qab _ (up b o e))⟩)
   have bl:=qaf e
   rcases qav.mp z with z | z
   · exact absurd z (qal bl)
   · rw[qa4,sz] at z
     exact absurd z (qal (qbP bl))
end
end St
namespace L2
open PySem PySem.Spec PyProof.Rows Ex St So
section
variable{X:Cx}
theorem O8(hr:aj k X.A)(calm:X.calm=true):aB X (.type "set") (fun xs H Q=>∃ (p:Addr) (cs:List Z),xs=[.ref p]/\aZ X.K H p (cs.map fun z=>V.ref z.2)/\(∀ z∈cs,H z.2=some (.tup [.int z.1.1,.int z.1.2]))/\(∀ z∈cs,bp z.1)/\cs.length<600 /\
 ∀ l zs,H l=none->wA cs cs.length zs->Q (.ref l) (upd H l (td X l zs))):=by
 intro pins s σ H xs us Q I r h
 obtain⟨p,cs,rfl,hS,ht,sm,hn,q⟩:=h
 obtain⟨u,rfl,ru⟩:=r.one
 cases ru
 obtain⟨its,rv,pl,hz⟩:=I.list hS
 have e:its=cs.map fun z=>Value.ref z.2:=by
  clear hS hz pl q hn
  induction cs generalizing its with
  |nil=>cases rv;rfl
  |cons z r ih =>
    cases rv with
    |cons a b =>
      cases a
      rw[qaV,ih (fun y hy=>ht y (.tail _ hy)) (fun y hy=>sm y (.tail _ hy)) _ b]
 have hu:=hr.un
 refine St.jr (I.ok.hd calm) (by omega) pl.isList (by simpa using e) (fun z hz=>vX I.hok (ht z hz)) sm hn fun h' tk zs S T k=>?_
 exact⟨.ref s.heap.objs.size,_,I.laid (t':=tk) (o:=td X s.heap.objs.size zs) k (qag _) (NS S),rfl,q _ zs (I.hok.fresh (qag _)) T⟩
end
end L2
namespace Dv
open PySem L2 Ex St So
variable[KC]
def wC:List D->Option RV
 | [.lst ds]=>(asP ds).bind fun cs=>if cs.length<512 then some (.new (.lst ((aM cs).map pD))) else none
 | _=>none
theorem GG:∀ {ys:List V} {ds:List D} {cs:List (Int×Int)},aw R ys ds->asP ds=some cs->∃ zs:List Z,ys=(zs.map fun z=>V.ref z.2)/\zs.map (·.1)=cs/\(∀ z∈zs,R z.2=some (.tup [.int z.1.1,.int z.1.2]))/\∀ z∈zs,bp z.1
 | _,_,cs,.nil,h=>by cases h;exact⟨[],rfl,rfl,(fun z hz=>nomatch hz),fun z hz=>nomatch hz⟩
 | _,_,cs,.cons a b,h=>by
   obtain⟨c,cs',rfl,sm,h',rfl⟩:=tH h
   obtain⟨zs,e1,e2,e3,e4⟩:=GG b h'
   obtain⟨p,rfl,hp⟩:=Ga a
   refine⟨(c,p)::zs,by rw[qaV,e1],by rw[qaV,e2],fun z hz=>?_,fun z hz=>?_⟩
   · rcases qav.mp hz with rfl | hz
     · exact hp
     · exact e3 z hz
   · rcases qav.mp hz with rfl | hz
     · exact sm
     · exact e4 z hz
section
variable{X:Cx}{EE:aT}{ios:List Addr}{e:Expr}{fs:M (List RV)}{pos p0 p1 p2:Pos}
theorem O9(hr0:aj k X.A)(hl:X.mg "sorted" = none)(hg:Gl X "sorted")(hr:X.mg "set" = none)(hg':Gl X "set")(hc:X.calm=true)(ha:VA X EE ios [e] fs)(hs:starEach [.Call (.Name "set" p1) [e] [] p2] X.env=[(false,eval (.Call (.Name "set" p1) [e] [] p2) X.env)]:=by rfl)
 (he:starEach [e] X.env=[(false,eval e X.env)]:=by rfl):VE X EE ios (.Call (.Name "sorted" p0) [.Call (.Name "set" p1) [e] [] p2] [] pos) (bB wC fs):=by
 obtain⟨t,h1,h2⟩:=ha
 refine⟨_,j9 (F9 hc) hg hl (by decide +kernel) (gG (qm (O8 hr0 hc) hg' hr (by decide +kernel) h1 (he:=he) (hpl:=rfl)) lb (hs:=hs)) (he:=hs) (hpl:=rfl),fun σ H R Γ Q er w=>?_⟩
 unfold bB at w
 rw[Zj] at w
 refine h2 σ H R Γ _ er (aG w (fun rvs ag w xs H1 R1 p1 hx=>?_) fun _ _ z=>z)
 rw[Zj] at w
 obtain⟨ds,pd,w⟩:=qw p1.er hx w
 obtain⟨rv,hg,w⟩:=ij w
 unfold wC at hg
 split at hg
 · rename_i l
   cases h:asP l with
   |none=>rw[h] at hg;cases hg
   |some cs =>
     rw[h] at hg
     have hg:(if cs.length<512 then some (RV.new (.lst ((aM cs).map pD))) else none)=some rv:=hg
     split at hg
     · rename_i c
       cases hg
       obtain⟨x,rfl,p⟩:=pd.one
       obtain⟨a,ys,rfl,g1,g2⟩:=p.lst p1.er.sub
       obtain⟨zs,rfl,e2,e3,e4⟩:=GG g2 h
       have zl:zs.length=cs.length:=by rw[<- e2,qaK]
       refine⟨a,zs,rfl,aZ.of g1,fun z hz=>p1.er.sub _ _ (e3 z hz),e4,by omega,fun l ws hl T=>?_⟩
       have mO:Al R1 H1 R1 (upd H1 l (td X l ws)):=NK p1.er.sub hl
       refine⟨l,ws,rfl,dh,fun z hz=>mO.sub _ _ (e3 z (T.2.1 z hz)),by have:=T.2.2.1;omega,fun q ws' hq pm pw=>?_⟩
       have AI:(ws'.map (·.1)).Nodup:=(pm.map _).nodup_iff.mpr T.2.2.2
       have ez:ws'.map (·.1)=aM cs:=tJ (AB h) AI (List.pairwise_map.mpr pw) fun c=>by rw[(pm.map _).mem_iff,T.1 c,List.take_length,e2]
       obtain⟨al,rv⟩:=lu mO.sub hq (AE ws' fun z hz=>e3 z (T.2.1 z (pm.mem_iff.mp hz)))
       rw[ez] at rv
       exact w _ _ _ ((p1.al mO).al al) (rv.rv ((p1.al mO).back er))
     · cases hg
 · cases hg
end
end Dv
namespace L2
open PySem PySem.Spec PyProof.Rows PySem.Calls Builtin.SmallTypes
section
variable{prog:Program}{w:World}{A:Around}{E:Value->Shared->Prop}{s:Shared}
theorem GH(hh:A.handled=none)(st1:s.heap.IsTupleIter it t k)(st2:s.heap.IsTuple t xs)(hx:xs[k]? = none)
 (q:∀ h' e,Heap.ExtBut it s.heap h'->(∃ o,h'.get? e=some o/\o.cls = .type "StopIteration")->E (.ref e) { s with heap:=h' }):wpAny (model prog w) A (nextOf (.ref it)) Q E s:=by
 obtain⟨o,ho,hc,hd⟩:=id st1
 obtain⟨ol,hol,_,nl,hdl⟩:=id st2
 delta nextOf
 apply qaa
 apply qa3 (name:=Str.ofString "__next__") st1.typeIs F.slot_tuple_iterator_next
 apply qa0 F.slot_tuple_iterator_next st1.typeIs F.entry_tuple_iterator_next _ (F.args_tuple_iterator_next_1 _)
 change wpAny _ _ (field (.ref it) 0 >>= _) _ _ _
 apply qaa;apply qbk ho hd (x:=.ref t) rfl
 change wpAny _ _ (if (Value.ref t == Value.none)=true then _ else _) _ _ _
 rw[qaz (by intro z;cases qas.mp z)]
 change wpAny _ _ (field (.ref it) 1 >>= _) _ _ _
 apply qaa;apply qbk ho hd (x:=.int k 0) rfl
 change wpAny _ _ (seqItems? (.ref t) >>= _) _ _ _
 apply qaa;apply qbt hol hdl
 rw[Int.toNat_natCast]
 dsimp only
 rw[hx]
 dsimp only
 apply qaa;apply wpAny_rule;apply qaa;apply wpAny_setField ho hd (by simp)
 change wpAny _ _ (newExc (.type "StopIteration") [] >>= _) _ _ _
 apply qaa
 simp only[newExc,newTuple]
 apply qaa;apply qbr _ (by size_fits)
 refine qaa (m:=firstArgMember _ _) (wpAny_of_eq (a:=Value.none) rfl ?_)
 apply qbr _ (by size_fits)
 simp only[raiseNew]
 apply qaa;apply wpAny_handled
 rw[show A.in1.handled=none from hh]
 apply wpAny_throw
 exact q _ _ (((Heap.SameBut.update ..).extBut.push _).push _) ⟨_,qah _ rfl,rfl⟩
theorem O_{xs:Array Value}(hh:A.handled=none)(ne:t≠it):Draws prog w A it [it,t] xs.size (fun i x=>xs[i]? = some x) (fun k h=>h.IsTupleIter it t k/\h.IsTuple t xs) where
 live:=fun i h st=>let ⟨o,e,_⟩:=st.1; ⟨o,e⟩
 frame:=fun i h h' st kp=>(Ex.fD (prog:=prog) (w:=w) ne).keep i h h' st fun b hb=>kp b hb
 item:=fun i s Q E hi st q=>by
  obtain⟨x,hx⟩:∃ x,xs[i]? = some x:=⟨xs[i],qam hi⟩
  exact(Ex.fD ne).item A E s i x Q st hx fun h' a sb=>q x h' s.toks hx a sb
 done:=fun s Q E st q=>GH hh st.1 st.2 (by simp) q
theorem Pa(l:Addr)(items:Array Value)(n:Nat)(dct:Option Addr)(sl:Array (Option Value)) :
 Meets (Builtin.«enumerate.__new__» ⟨[.type "enumerate",.ref l],[]⟩) (fun _ R s=>s.heap.get? l=some { cls:=.type "tuple",dict:=dct,data:=.seq items n,slots:=sl } /\
  R (.ok (.ret (.ref (s.heap.push { cls:=.type "tuple_iterator",data:=.fields #[.ref l,.int 0 0] }).objs.size)))
   { s with heap:=(s.heap.push { cls:=.type "tuple_iterator",data:=.fields #[.ref l,.int 0 0] }).push { cls:=.type "enumerate",data:=.fields #[.none,.bool false,.ref s.heap.objs.size,rawInt 0,.none,.none] } }) :=
 .of_wp fun prog w A R s h=>by
  obtain⟨hp,g,d,tk,os⟩:=s
  obtain⟨hl,h⟩:=h
  have hsub:=sub_enumerate
  have hL:Heap.IsTuple (Shared.heap ⟨hp,g,d,tk,os⟩) l items:=⟨_,hl,rfl,n,rfl⟩
  wp_walk using AutoSeq1.wpAny_loadPart' hl
  refine wpAny_stack_any fun st=>qac ?_
  split
  · rename_i c _ _ _ _ _
    cases (c == Value.type "enumerate")<;>(wp_walk using AutoSeq1.wpAny_loadPart' hl,wpAny_pyIter_tuple hL;exact⟨_,rfl,h⟩)
  · wp_walk using AutoSeq1.wpAny_loadPart' hl,wpAny_pyIter_tuple hL
    exact⟨_,rfl,h⟩
theorem Pb(hL:s.heap.IsTuple l items)
 (q:∀ h',IsEnum h' (s.heap.objs.size+1) s.heap.objs.size 0 .none->h'.IsTupleIter s.heap.objs.size l 0->h'.objs.size=s.heap.objs.size+2->(∀ b o,s.heap.get? b=some o->h'.get? b=some o)->Q (.ref (s.heap.objs.size+1)) { s with heap:=h' }) :
 wpAny (model prog w) A (call (.type "enumerate") [.ref l]) Q E s:=by
 obtain⟨⟨c,dct,dt,sl⟩,hl,hc,n,hd⟩:=hL
 have hc:c = .type "tuple" := hc
 have hd:dt = .seq items n:=hd
 subst hc hd
 apply callType_new F.called_enumerate (by decide) (F.typeCall_enumerate_1 _) (F.newCall_enumerate_1 _) (fun obj=>F.args_object_init_2 obj _) F.entry_enumerate_new (Pa l items n dct sl)
 refine⟨hl,?_⟩
 have hz:(s.heap.push { cls:=.type "tuple_iterator",data:=.fields #[.ref l,.int 0 0] }).objs.size=s.heap.objs.size+1:=qbF ..
 have he:=qah (s.heap.push { cls:=.type "tuple_iterator",data:=.fields #[.ref l,.int 0 0] }) (o:={ cls:=.type "enumerate",data:=.fields #[.none,.bool false,.ref s.heap.objs.size,rawInt 0,.none,.none] }) rfl
 rw[hz] at he
 change _/\_
 rw[hz]
 exact⟨⟨_,he,rfl⟩,q _ he ⟨_,qab _ (qah _ rfl),rfl,rfl⟩ (by rw[qbF,hz]) fun b o x=>qab _ (qab _ x)⟩
end
def AV(l:Addr):It where
 go:=fun i H=>∃ xs x,H l=some (.tup xs)/\xs[i]? = some x
 lT:=fun i H v H'=>∃ p xs x,v = .ref p/\H p=none/\H'=upd H p (.tup [.int i,x])/\H l=some (.tup xs)/\xs[i]? = some x
 stop:=fun i H=>∃ xs,H l=some (.tup xs)/\xs.length<=i
noncomputable def Pc(n l:Addr)(i:Nat)(h:Heap):Prop:=∃ old,IsEnum h (n+1) n i old/\h.IsTupleIter n l i
theorem Pd{A:Around}{s:Shared}(hh:A.handled=none)(he:IsEnum s.heap e it i old)(st1:s.heap.IsTupleIter it t k)(st2:s.heap.IsTuple t xs)(hx:xs[k]? = none)(q:∀ h',Heap.ExtBut it s.heap h'->Q none { s with heap:=h' }):wpAny (model prog w) A (pyNext (.ref e)) Q E s:=by
 have ty:s.TypeIs (.ref e) "enumerate" := ⟨_,he,rfl⟩
 unfold pyNext
 apply qaa;apply qbM
 apply qa3 (name:=Str.ofString "__next__") ty F.slot_enumerate_next
 apply qa0 F.slot_enumerate_next ty F.entry_enumerate_next _ (F.args_enumerate_next_1 _)
 change wpAny _ _ (field (.ref e) 2 >>= _) _ _ _
 apply qaa;apply qbk he rfl (x:=.ref it) rfl
 apply qaa
 refine GH (A:=A.in1) hh st1 st2 hx fun h' x he' hx'=>?_
 obtain⟨o,ho,hc⟩:=hx'
 refine qaa (wpAny_isInstance (T := "StopIteration") (b:=true) ⟨o,ho,hc⟩ isSubtype_stop ?_)
 exact qac (q _ he')
theorem Pe{P:Program}{w:World}{K:PySem.W.Frag}{es:List Expr}{x1}{pos:Pos}(l n:Addr)(ln:l≠n)(Pf:l≠n+1):Turn P w K (.Tuple es x1 pos) (AV l) (jH n) (n+1) (Pc n l) where
 mem:=by simp[jH]
 obj:=fun i h st b hb=>by
  obtain⟨old,he,⟨o,e,c,d⟩⟩:=st
  rcases aK.mp hb with z | z<;>subst z
  · exact⟨_,he,fun v z=>nomatch z⟩
  · exact⟨_,e,fun v z=>by rw[d] at z;cases z⟩
 keep:=fun i h h' st k=>by
  obtain⟨old,he,⟨o,e,r⟩⟩:=st
  exact⟨old,k _ (aK.mpr (.inl rfl)) _ he,⟨o,k _ (aK.mpr (.inr rfl)) _ e,r⟩⟩
 item:=by
  intro X hP hw hK hc i pins s σ H E I hf st hg
  subst hP hw hK
  obtain⟨xs,x,q1,hx⟩:=hg
  obtain⟨old,he,st1⟩:=st
  have ne:n+1≠n:=Nat.succ_ne_self n
  obtain⟨us,r1,p1,z1⟩:=I.tuple (b9.of q1)
  obtain⟨u,hu,ru⟩:=r1.get hx
  have new:∀ b∈jH n,b<s.heap.objs.size:=fun b hb=>by
   rcases aK.mp hb with e | e<;>subst e
   · exact qaf he
   · obtain⟨_,e,_⟩:=st1;exact qaf e
  have hi:i<us.toArray.size:=by simpa using (qad.mp hu).1
  apply wpAny_pyNext_enum_itemD (O_ (A:=X.A.in1) (prog:=X.prog) (w:=X.w) (xs:=us.toArray) (I.ok.hd hc) ln) he ⟨st1,p1⟩ hi ne (by simp[Ne.symm Pf])
  intro y h1 tk hy ho1 s1 np sz kept
  have ey:y=u:=by
   have hu':us.toArray[i]? = some u:=by simpa using hu
   rw[hu'] at hy
   exact(qaL hy).symm
  subst ey
  refine⟨_,rfl,wpAny_letOwnedTupleGo_enum ho1 fun h2 he2 sb=>?_⟩
  have k2:∀ b o,b ∉ jH n->s.heap.get? b=some o->h2.get? b=some o:=fun b o hb e=>by
   rw[aK] at hb
   exact sb.extBut _ _ (fun z=>hb (.inl z)) (kept b o (fun z=>hb (.inl z)) (fun z=>hb (.inr z)) e)
  have fr:H s.heap.objs.size=none:=I.hok.fresh (qag _)
  have nz:s.heap.objs.size≠n+1:=fun e=>absurd (new (n+1) (aK.mpr (.inl rfl))) (by rw[e];exact qbf _)
  refine⟨.ref s.heap.objs.size,upd H s.heap.objs.size (.tup [.int i,x]),I.dv (t':=tk+1) k2 hf (qag _) ?_,rfl,⟨_,xs,x,rfl,fr,rfl,q1,hx⟩,⟨y,?_,?_⟩,fun b hb=>?_⟩
  · exact⟨by show(2:Nat)<=sizeLine;decide,[.int i tk,y],.cons ⟨_,rfl⟩ (.cons ru .nil),⟨_,sb.extBut _ _ nz np,rfl,_,rfl⟩⟩
  · exact he2
  · obtain⟨⟨o,e,r⟩,_⟩:=s1
    exact⟨o,sb.extBut _ _ (qaT ne) e,r⟩
  · rw[aW (qal (new b hb))];exact(hf b hb).1
 done:=by
  intro X hP hw hK hc i pins s σ H E I hf st hg
  subst hP hw hK
  obtain⟨xs,q1,hx⟩:=hg
  obtain⟨old,he,st1⟩:=st
  obtain⟨us,r1,p1,z1⟩:=I.tuple (b9.of q1)
  have hl:=r1.length
  apply Pd (I.ok.hd hc) he st1 p1 (by simp;omega)
  intro h1 kept
  exact⟨rfl,I.dr (t':=s.toks) (fun b o hb e=>kept b o (fun z=>hb (aK.mpr (.inr z))) e) hf⟩
 self:=fun A i s Q E st h=>by
  obtain⟨old,he,_⟩:=st
  exact wpAny_pyIter_enum he h
def wD(ta:TA):TI:=fun σ H R=>ta σ H fun vs H1=>∃ l xs,vs=[.ref l]/\H1 l=some (.tup xs)/\R (AV l) H1
section
variable{X:Cx}
theorem Pg{a:Expr}{es:List Expr}{x1}{tp:Pos}{ta:TA}{p pos:Pos}(hg:Gl X "enumerate")(hm:X.mg "enumerate" = none)(ha:PA X [a] ta)(hs:starEach [a] X.env=[(false,eval a X.env)]:=by rfl):PI X (.Tuple es x1 tp) (.Call (.Name "enumerate" p) [a] [] pos) (wD ta):=by
 intro pins s σ H R I h
 refine Call_ (n9 I hg hm Ej (qbw (aI (ha pos pins s σ H _ I h) fun us s1 zq=>?_) hs rfl))
 obtain⟨vs,H1,I1,r1,q1⟩:=zq
 obtain⟨l,xs,e,q1,q⟩:=q1
 subst e
 obtain⟨u,rfl,e1⟩:=vals1 r1
 cases e1
 obtain⟨us,r1,p1,z1⟩:=I1.tuple (b9.of q1)
 apply Pb p1
 intro h' he st sz kept
 have ll:l<s1.heap.objs.size:=by obtain⟨o,e,_⟩:=p1;exact qaf e
 have T:=Pe (P:=X.prog) (w:=X.w) (K:=X.K) (es:=es) (x1:=x1) (pos:=tp) l s1.heap.objs.size (qal ll) (qal (qbP ll))
 apply T.self X.A 0 _ _ _ ⟨.none,he,st⟩
 refine⟨_,jH s1.heap.objs.size,_,_,H1,rfl,I1.kept (t':=s1.toks) kept,T,⟨.none,he,st⟩,fun b hb=>?_,q⟩
 have le:s1.heap.objs.size<=b:=by
  rw[aK] at hb
  rcases hb with e | e<;>rw[e]<;>first | exact qag _ | exact Nat.le_add_right _ _
 exact I1.gF le (I1.hok.fresh le)
end
end L2
namespace Dv
open PySem L2 Ex
variable[KC]
section
variable{X:Cx}{EE:aT}{ios:List Addr}{e a tg:Expr}{es:List Expr}{f:M RV}{fs:M (List RV)}{G:List D->Option Rx}
def wF(f:M RV):M (List D):=fun Γ=>match M.bind f mat Γ with
 | .ok (.tup _) _=>tupI f Γ
 | _=>jk f Γ
theorem Ph(h:VE X EE ios e f)(hK:X.K=KC.K:=by rfl):VI X EE ios tg e (wF f):=by
 obtain⟨w1,p1,r1⟩:=o5 (tg:=tg) h hK
 obtain⟨w2,p2,r2⟩:=M3 (tg:=tg) h
 refine⟨fun σ H R=>w1 σ H R\/w2 σ H R,fun pins s σ H R I q=>q.elim (p1 pins s σ H R I) (p2 pins s σ H R I),fun σ H R Γ Rk er w=>?_⟩
 unfold wF at w
 split at w
 · exact .inr (r2 σ H R Γ Rk er w)
 · exact .inl (r1 σ H R Γ Rk er w)
def tS(fs:M (List RV)):M (List D):=M.bind fs fun rvs=>M.bind (bV rvs) fun ds=>match ds with
 | [.tup ds]=>M.pure (mz ds)
 | _=>M.st
theorem Pj(h:R0 l=some (.tup xs))(r:aw R0 xs ds):o4 (AV l) R0 (mz ds):=by
 intro i H R s1 s2
 have hl:H l=some (.tup xs):=s2 _ _ (s1 _ _ h)
 refine⟨fun d hd=>?_,fun hl'=>⟨xs,hl,by rw[r.len];simpa [mz] using hl'⟩⟩
 have hd:((ds.zipIdx)[i]?).map (fun p=>D.tup [.int p.2,p.1])=some d:=by rw[<- qaE];exact hd
 rw[List.getElem?_zipIdx] at hd
 cases q:ds[i]? with
 |none=>rw[q] at hd;cases hd
 |some d0 =>
   rw[q] at hd
   cases hd
   obtain⟨x,hx,rx⟩:=r.ta q
   refine⟨⟨xs,x,hl,hx⟩,fun v H' hv=>?_⟩
   obtain⟨p,ys,y,rfl,hp,rfl,hy,sQ⟩:=hv
   rw[hl] at hy
   cases hy
   rw[hx] at sQ
   cases sQ
   obtain⟨al,rv⟩:=sF (xs:=[.int i,x]) (ds:=[.int i,d0]) s2 hp (.cons (.int _) (.cons (rx.sm s1) .nil))
   refine⟨_,al,?_⟩
   have rv:Rp _ _ _:=rv
   simpa using rv
theorem Pl(h2:oR EE ios t fs):qD EE ios (wD t) (tS fs):=by
 intro σ H R Γ Rk er w
 unfold tS at w
 rw[Zj] at w
 refine h2 σ H R Γ _ er (aG w (fun rvs ag w xs H1 R1 p1 hx=>?_) fun _ _ z=>z)
 rw[Zj] at w
 obtain⟨ds,aq,R2,p2,_,r2,w⟩:=iE er p1 hx w
 split at w
 · cases r2 with
   |cons a b =>
     cases b
     cases a with
     |tup e q=>exact⟨_,_,rfl,p2.er.sub _ _ e,w _ H1 R2 p2 (Pj e q)⟩
 · exact False.elim w
def tT(fs:M (List RV)):M (List D):=fun Γ=>match M.bind fs bV Γ with
 | .ok [.tup _] _=>tS fs Γ
 | _=>sR fs Γ
theorem Pm(hp:∀ t,PA X es t->PI X tg e0 (yT t))(hp':∀ t,PA X es t->PI X tg e0 (wD t))(ha:VA X EE ios es fs):VI X EE ios tg e0 (tT fs):=by
 obtain⟨w1,p1,r1⟩:=M5 (X:=X) (EE:=EE) hp ha
 obtain⟨t,h1,h2⟩:=ha
 refine⟨fun σ H R=>w1 σ H R\/wD t σ H R,fun pins s σ H R I q=>q.elim (p1 pins s σ H R I) (hp' t h1 pins s σ H R I),fun σ H R Γ Rk er w=>?_⟩
 unfold tT at w
 split at w
 · exact .inr (Pl h2 σ H R Γ Rk er w)
 · exact .inl (r1 σ H R Γ Rk er w)
end
end Dv
namespace Dv
open PySem L2 Ex
section
variable{Γ:En}{f:M RV}{fs:M (List RV)}
@[simp] theorem AW:wF f Γ=match M.bind f mat Γ with
 | .ok (.tup _) _=>tupI f Γ
 | _=>jk f Γ:=(rfl)
@[simp] theorem AX:tS fs Γ=M.bind fs (fun rvs=>M.bind (bV rvs) fun ds=>match ds with
 | [.tup ds]=>M.pure (mz ds)
 | _=>M.st) Γ:=(rfl)
@[simp] theorem AY:tT fs Γ=match M.bind fs bV Γ with
 | .ok [.tup _] _=>tS fs Γ
 | _=>sR fs Γ:=(rfl)
end
end Dv
namespace L2
open PySem PySem.W PyProof.Rows Ex
section
variable{X:Cx}{EE:aT}{k:Nat}{f C:Addr}{fd:FuncData}{ps:List Str}{sp:Sp}{m nm:Str}{pos apos kp:Pos}{e o:Expr}{es:List Expr}{ta te:TE}{t:TA}
def GJ(C:Addr)(m:Str)(sp:Sp)(EE:aT)(ta:TE)(t:TA):TE:=fun σ H Q=>ta σ H fun x H1=>∃ a dx fs,x = .ref a/\H1 a=some (.ins C dx fs)/\fs.lookup m=none/\t σ H1 fun vs H2=>sp (x::(vs++[])) H2 Q (EE σ)
theorem Pn{pl:Sem Bool}(he:PE X o ta)(c:fB X.K C)(hm:Meth X.K C m f)(F:aD X.prog X.w X.K X.mg X.base (eT X.prog X.w) k f fd ps sp)(hr:aj k X.A)(hb:Binds X.K fd ps [])(hX:XOk X EE)(ha:PA X (e::es) t)
 (hst:starEach (e::es) X.env=(false,eval e X.env)::starEach es X.env:=by rfl) (hpl:(backTo pos (starEach es X.env)).any (·.1)=false:=by rfl)
 (ht:eval (.Call (.Attribute o m apos) (e::es) [] pos) X.env=(do
  let ov <- eval o X.env
  standAt apos.atName
  let (f,first) <- holding [ov] (getMethod ov m pl)
  callWith pos f first (backTo pos (starEach (e::es) X.env)) (backToKw pos (keywordEach [] X.env))):=by rfl):PE X (.Call (.Attribute o m apos) (e::es) [] pos) (GJ C m sp EE ta t):=by
 intro pins s σ H Q I h
 refine PySem.W.methodCall_KW (pl:=pl) (aI (he pins s σ H _ I h) fun u s1 zq=>?_) ht
 obtain⟨x,H1,I1,rx,a,dx,fs,ex,ea,l,q⟩:=zq
 subst ex
 obtain rfl:u=Value.ref a:=rx
 refine Df I1 ea c hm l ?_
 refine PySem.W.callWith_K (first:=[.ref a]) (h₀:=X.base) I.ok.mod.i7 hm.kp (aI (ha pos pins s1 σ H1 _ I1 q) fun us s2 zq=>?_) hst hpl
 obtain⟨vs,H2,I2,r,q2⟩:=zq
 refine⟨I2.aS,?_⟩
 exact FI (us:=.ref a::us) (vs:=.ref a::vs) F hr hb .nil hX I2 (.cons rfl r) q2
end
end L2
namespace Dv
open PySem L2 Ex
variable[KC]
def qY(P:Program)(w:World)(mg:Str->Option Value)(base:Heap)(C:Cn)(m:Str)(k:Nat)(nm:Str)(sp:Sp):Prop:=∃ f fd,Meth KC.K (KC.cls C) m f/\aD P w KC.K mg base (eT P w) k f fd ["self",nm] sp/\Binds KC.K fd ["self",nm] []/\∀ (s:Shared) (a u:Value),BindsTo s fd ⟨[a],[(nm,u)]⟩ [("self",a),(nm,u)]
section
variable{P:Program}{w:World}{mg:Str->Option Value}{base:Heap}{k:Nat}{N:List Str}{C:Cn}{m qual nm:Str}{st:Stmt}
theorem GK(A0:mP C m qual st)(S:ak N ["self",nm] (aa st))
 (bd:∀ (kV doc pm:Value) (an:Option Addr) (cdv ct:Value) (a u:Value),bindArgs (W.fnOf m qual (aP st) (af st) (aa st) .none kV doc pm an cdv ct) ⟨[a,u],[]⟩=pure [(("self" : Str),a),(nm,u)])
 (bk:∀ (kV doc pm:Value) (an:Option Addr) (cdv ct:Value) (a u:Value),bindArgs (W.fnOf m qual (aP st) (af st) (aa st) .none kV doc pm an cdv ct) ⟨[a],[(nm,u)]⟩=pure [(("self" : Str),a),(nm,u)])
 (hb:∀ (fa:Addr) (cdv:Value) (A:Around) (outer:List Env) (s:Shared) (H:Hp) (E:XK),aj k (A.deeper (PyProof.Rows.envOfC qual (aa st) s.heap.objs.size fa cdv))->cJ (fZ (eT P w) P w KC.K mg base N qual (aa st) fa cdv A outer s H E) (fun _=>E) [] (af st) bm)
 (h:∀ ds r,G ds=some r->ds.length=2/\nH (bm (gam N ds))=some r):qY P w mg base C m (k+1) nm (iH G):=by
 obtain⟨f,fd,F,hm⟩:=A0
 refine⟨f,fd,hm,FJ F S (hb f) h,F.binds fun kV doc pm an cdv ct us hl=>?_,?_⟩
 · rcases us with _ | ⟨a,_ | ⟨u,_ | _⟩⟩<;>simp at hl
   exact bd kV doc pm an cdv ct a u
 · obtain⟨oc,od,kV,doc,pm,an,cdv,ct,osl,rfl,lk,hcd⟩:=F.ex
   exact fun s a u=>.of_eq (bk kV doc pm an cdv ct a u)
end
def nP(C:Cn)(m:Str)(G:List D->Option Rx)(f:M RV)(fs:M (List RV)):M RV:=M.bind f fun rv=>M.bind (mat rv) fun d=>match d with
 | .obj C' ns vs=>if cd (C'=C/\m ∉ ns) then M.bind fs fun rvs=>M.bind (bV rvs) fun ds=>match G (.obj C' ns vs::ds) with
   |some (.ok r)=>M.pure r.rv
   |some (.ex x)=>M.thr x
   |none=>M.st
   else M.st
 | _=>M.st
section
variable{X:Cx}{EE:aT}{ios:List Addr}{e o:Expr}{es:List Expr}{f fo:M RV}{fs:M (List RV)}{G:List D->Option Rx}{C:Cn}{m nm:Str}{k:Nat}{pos apos kp:Pos}
theorem Po(h2:eV EE ios t fo)(h4:oR EE ios u fs):eV EE ios (GJ (KC.cls C) m (iH G) EE t u) (nP C m G fo fs):=by
 intro σ H R Γ Q er w
 unfold nP at w
 rw[Zj] at w
 refine h2 σ H R Γ _ er (aG w (fun rx ag w1 x H1 R1 p1 hx=>?_) fun _ _ z=>z)
 clear w
 rw[Zj] at w1
 obtain⟨d,aq,R2,p2,s2,r2,w2⟩:=jd er p1 hx w1
 clear w1
 cases d with
 |obj C' ns vs =>
   dsimp only at w2
   split at w2
   · rename_i hc
     obtain⟨hc,hn⟩:=dR hc
     subst hc
     rw[Zj] at w2
     have r3:=r2
     obtain⟨d0,hd0⟩:∃ d0,d0=D.obj C' ns vs:=⟨_,rfl⟩
     simp only[<- hd0] at w2
     cases r2 with
     |obj q hv =>
       refine⟨_,_,_,rfl,p2.er.sub _ _ q,?_,?_⟩
       · rw[List.lookup_eq_none_iff]
         intro z hz
         rw[bne_iff_ne]
         intro e
         exact hn (qa7.mpr ⟨z,hz,e.symm⟩)
       · refine h4 σ H1 R2 aq _ p2.er (aG w2 (fun rvs ik w3 xs H3 R3 p3 hxs=>?_) fun _ _ z=>dw.trans p2 z)
         rw[Zj] at w3
         obtain⟨ds,jK,R4,p4,s4,r4,w4⟩:=iE p2.er p3 hxs w3
         have p24:=p2.trans p4
         show iH G (_::(xs++[])) H3 Q (EE σ)
         rw[qaX]
         refine⟨R4,_::ds,p4.er.sub,.cons (r3.sm p4.go.rr) r4,?_⟩
         rw[<- hd0]
         cases hG:G (d0::ds) with
         |none=>rw[hG] at w4;exact False.elim w4
         |some rx =>
           rw[hG] at w4
           cases rx with
           |ok r=>exact fun z H' R' al ra=>w4 z H' R' (p24.al al) (ra.rv (p24.back er))
           |ex y=>exact fun e H' R' al xr=>w4 e H' R' (p24.al al) (xr.back p24.since)
   · exact False.elim w2
 | _=>exact False.elim w2
theorem GL{pl:Sem Bool}(hX:XOk X EE)(hcl:fB KC.K (KC.cls C))(Mc:qY X.prog X.w X.mg X.base C m k nm (iH G))(hr:aj k X.A)(ha:VE X EE ios o fo)(hs:VA X EE ios (e::es) fs)(hK:X.K=KC.K:=by rfl)
 (hst:starEach (e::es) X.env=(false,eval e X.env)::starEach es X.env:=by rfl) (hpl:(backTo pos (starEach es X.env)).any (·.1)=false:=by rfl)
 (ht:eval (.Call (.Attribute o m apos) (e::es) [] pos) X.env=(do
  let ov <- eval o X.env
  standAt apos.atName
  let (f,first) <- holding [ov] (getMethod ov m pl)
  callWith pos f first (backTo pos (starEach (e::es) X.env)) (backToKw pos (keywordEach [] X.env))):=by rfl):VE X EE ios (.Call (.Attribute o m apos) (e::es) [] pos) (nP C m G fo fs):=by
 obtain⟨f,fd,hm,F,hb,_⟩:=Mc
 rw[<- hK] at hcl hm F hb
 obtain⟨t,h1,h2⟩:=ha
 obtain⟨u,h3,h4⟩:=hs
 exact⟨_,Pn h1 hcl hm F hr hb hX h3 hst hpl ht,Po h2 h4⟩
end
end Dv
namespace Dv
open PySem L2 Ex
section
variable{Γ:En}{f:M RV}{fs:M (List RV)}{C:Cn}{m:Str}{G:List D->Option Rx}
@[simp] theorem AZ:nP C m G f fs Γ=M.bind f (fun rv=>M.bind (mat rv) fun d=>match d with
 | .obj C' ns vs=>if cd (C'=C/\m ∉ ns) then M.bind fs fun rvs=>M.bind (bV rvs) fun ds=>match G (.obj C' ns vs::ds) with
   |some (.ok r)=>M.pure r.rv
   |some (.ex x)=>M.thr x
   |none=>M.st
   else M.st
 | _=>M.st) Γ:=(rfl)
end
end Dv
namespace Dv
open PySem L2 Ex
variable[KC]
section
variable{X:Cx}{EE:aT}{ios:List Addr}{e a:Expr}{es:List Expr}{f:M RV}{fs:M (List RV)}{x:Str}{p p' pos pos':Pos}
theorem vn(i:Nat)(hN:X.N[i]? = some x:=by rfl)(hv:rM X.env.scope x:=by first | exact Or.inl rfl | exact Or.inr (Or.inl rfl) | exact Or.inr (Or.inr rfl))(hd:(x == ("__debug__" : Str))=false:=by decide)(hcd:(x == ("__classdict__" : Str))=false:=by decide):VE X EE ios (.Name x pos) (ZS i):=Mm (CG hN hv hd hcd)
theorem vS(i:Nat)(hN:X.N.Nodup)(he:VE X EE ios e f)(hi:X.N[i]? = some x:=by rfl)(hx:Loc X.env.scope x:=by exact fH rfl)(hs:swapsWith e (some (.Name x pos')) pos.line X.env=pure false:=by rfl)(hf:X.fn x=true\/X.env.scope.names.lookup x=some .local:=by first | exact .inl rfl | exact .inr rfl | assumption):VS X EE ios (.Assign [.Name x pos'] e pos) (cL i f):=MX hN hi hx he hs hf
theorem vB{id:String}{r:List V->Hp->VK->Prop}{g:List D->Option RV}(hc:aB X (.builtin id) r)(hv:ki r g)(hm:X.mg x=none)(ha:VA X EE ios (e::es) fs)(hg:Gl X x:=by rfl)(hb:bootBuiltins x=some (.builtin id):=by first | exact PySem.boot_len | decide +kernel)(hn:x ≠ "__name__" := by decide)(hdb:(x == ("__debug__" : Str))=false:=by decide)
 (he:starEach (e::es) X.env=(false,eval e X.env)::starEach es X.env:=by rfl) (hpl:(backTo pos (starEach es X.env)).any (·.1)=false:=by rfl):VE X EE ios (.Call (.Name x p) (e::es) [] pos) (bB g fs):=kj (fun _ h=>j9 hc hg hm hb h hn hdb he hpl) hv ha
theorem vT(T:Ty)(hm:X.mg "isinstance" = none)(hy:X.mg y=none)(ha:VE X EE ios a f)(hT:bootBuiltins y=some (.type T.nm):=by decide +kernel)(hg:Gl X "isinstance" := by rfl)(hg':Gl X y:=by rfl)(hn:y ≠ "__name__" := by decide)(hd:(y == ("__debug__" : Str))=false:=by decide)
 (h1:starEach [a,.Name y p'] X.env=(false,eval a X.env)::starEach [.Name y p'] X.env:=by rfl) (h2:starEach [.Name y p'] X.env=(false,eval (.Name y p') X.env)::starEach [] X.env:=by rfl) (hpl:(backTo pos (starEach [.Name y p'] X.env)).any (·.1)=false:=by rfl):VE X EE ios (.Call (.Name "isinstance" p) [a,.Name y p'] [] pos) (oW T f) :=
 MT (fun _ h=>j9 DZ hg hm (by decide +kernel) (gG h (gG (rQ (v:=.ty T.nm) hg' hy hT rfl hn hd) lb h2) h1) (by decide) (by decide) h1 hpl) ha
theorem wG(h:1<own:=by decide):kg own (qd K 2 (nh (ja 0) (nh (ja 1) qb))):=LX (D7 (by omega) (D7 h LW))
theorem tU{own:Nat}{K:W.Frag}(i j:Nat)(h:i<own:=by decide)(h':j<own:=by decide):iV ios own (qd K 2 (nh (ja i) (nh (ja j) qb))) (gT 2 (bJ (gN i) (bJ (gN j) eK))):=MZ (EJ (o3 h) (EJ (o3 h') MY))
theorem wH(h:1<own:=by decide):mB own (gT 2 (bJ (gN 0) (bJ (gN 1) eK))):=M_ (EU (qH (by omega)) (EU (qH h) M9))
end
theorem mR{p:List Value->Prop}(h:∀ a,p [a])(us:List Value)(e:us.length=1):p us:=by
 rcases us with _ | ⟨a,_ | _⟩<;>simp at e
 exact h a
theorem mS{p:List Value->Prop}(h:∀ a b,p [a,b])(us:List Value)(e:us.length=2):p us:=by
 rcases us with _ | ⟨a,us⟩<;>simp at e
 exact mR (p:=fun us=>p (a::us)) (h a) us e
theorem Pp{p:List Value->Prop}(h:∀ a b c,p [a,b,c])(us:List Value)(e:us.length=3):p us:=by
 rcases us with _ | ⟨a,us⟩<;>simp at e
 exact mS (p:=fun us=>p (a::us)) (h a) us e
theorem gU{N ps:List Str}{sc:Scope}(a:sc.kind = .function:=by rfl)(b:sc.isCoroutine=false:=by rfl)(c:sc.isGenerator=false:=by rfl)(d:N.Nodup:=by decide +kernel)(e:N.take ps.length=ps:=by rfl)(f:∀ x∈ps,sc.names.lookup x=some .local\/sc.names.lookup x=some .cell:=by decide +kernel)(g:∀ y∈sc.names,y.2 ≠ .free:=by decide +kernel):ak N ps sc:=⟨a,b,c,d,e,f,g⟩
end Dv
namespace L2
open PySem PySem.W PyProof.Rows Ex
section
variable{X:Cx}{k:Nat}{f C:Addr}{fd:FuncData}{ps:List Str}{sp:Sp}{pins:List (Addr×Obj)}{σ:St}{H:Hp}{s:Shared}
theorem nQ{A:Around}{us:List Value}{vs:List V}{Q:VK}{E:Value->Shared->Prop}(F:aD X.prog X.w X.K X.mg X.base bZ k f fd ps sp)(hr:aj k A)(e0:dP X.prog X.w X.K X.mg X.base A X.stack s H)(hb:Binds X.K fd ps [])
 (I:Inv X pins σ H s) (r:Vals vs us) (h:sp vs H Q E0):wpAny (model X.prog X.w) A (call (.ref f) us) (EP X pins σ Q) E s:=by
 have hl:(us++[]).length=ps.length:=by rw[qaX, <- r.length];exact F.len _ _ _ _ h
 have hb':=hb s us I.aS hl
 rw[qaX] at hb'
 refine wpAny_call (codeAny_mono (F.run A X.stack s H ⟨us,[]⟩ us vs Q E0 hr e0 hb' r h) fun r s' hq=>?_)
 cases r with
 |error e=>exact False.elim hq
 |ok fl =>
   cases fl with
   |ret u=>exact I.after hq
   |next=>exact False.elim hq
   |brk=>exact False.elim hq
   |cont=>exact False.elim hq
structure Own(K:PySem.W.Frag)(C:Addr)(m:Str)(f:Addr):Prop where
 at_:PySem.W.findIn K (.ref C) m=some (some (.ref f))
 fn:PySem.W.isFn K (.ref f)=true
theorem lH{a dx:Addr}{fs:List (Str×V)}(I:Inv X pins σ H s)(e:H a=some (.ins C dx fs)):∃ ox od,PySem.W.InstAt s.heap a ox C od:=by
 obtain⟨mA,O,r,_,_,_⟩:=qj I.hok e
 obtain⟨od,J,hl⟩:=O.look
 exact⟨_,_,J⟩
def A3(C:Addr)(sp:Sp):List V->Hp->VK->Prop:=fun vs H Q=>∃ a dx fs,vs=[.ref a]/\H a=some (.ins C dx fs)/\sp vs H (fun v H'=>∃ n:Int,v = .int n/\0<=n/\n<2 ^ 63/\Q v H') E0
theorem Pq(c:Own X.K C "__len__" f)(F:aD X.prog X.w X.K X.mg X.base bZ k f fd ps sp)(hr:aj (k+1) X.A)(hb:Binds X.K fd ps []):aB X (.builtin "len") (A3 C sp):=by
 intro pins s σ H xs us Q I r h
 obtain⟨a,dx,fs,rfl,e,h⟩:=h
 obtain⟨u,rfl,ru⟩:=r.one
 obtain rfl:u=Value.ref a:=ru
 obtain⟨ox,od,J⟩:=lH I e
 obtain⟨m,Fr⟩:=I.fr
 refine PySem.W.len_K Fr I.ok.mod.i7 J c.at_ c.fn (qao (nQ F hr.in1 I.env0.in1 hb I r h) (fun v s' z=>?_) fun _ _ z=>z)
 obtain⟨v',H',I',rv,n,rfl,h0,h1,q⟩:=z
 obtain⟨t,rfl⟩:∃ t,v=Value.int n t:=rv
 exact⟨⟨h0,h1⟩,.int n,H',I'.tok _,⟨_,rfl⟩,q⟩
def tV(C:Addr)(sp:Sp):List V->Hp->VK->Prop:=fun vs H Q=>∃ a dx fs,vs=[.ref a]/\H a=some (.ins C dx fs)/\sp vs H (fun v H'=>∃ m:Str,v = .str m/\Q v H') E0
theorem GN{Q:VK}{v:Value}{s':Shared}(z:EP X pins σ (fun v H'=>∃ m:Str,v = .str m/\Q v H') v s'):PySem.W.StrBack (EP X pins σ Q) v s':=by
 obtain⟨v',H',I',rv,m,rfl,q⟩:=z
 obtain⟨t,rfl⟩:∃ t,v=Value.str m t:=rv
 exact⟨.str m,H',I',⟨_,rfl⟩,q⟩
theorem Pr(c:Own X.K C "__repr__" f)(F:aD X.prog X.w X.K X.mg X.base bZ k f fd ps sp)(hr:aj (k+1) X.A)(hb:Binds X.K fd ps []):aB X (.builtin "repr") (tV C sp):=by
 intro pins s σ H xs us Q I r h
 obtain⟨a,dx,fs,rfl,e,h⟩:=h
 obtain⟨u,rfl,ru⟩:=r.one
 obtain rfl:u=Value.ref a:=ru
 obtain⟨ox,od,J⟩:=lH I e
 obtain⟨m,Fr⟩:=I.fr
 exact PySem.W.repr_K hr.in1.bq Fr I.ok.mod.i7 J c.at_ c.fn (qao (nQ F hr.in1 I.env0.in1 hb I r h) (fun v s' z=>GN z) fun _ _ z=>z)
theorem Pt(c:Own X.K C "__repr__" f)(hs:PySem.W.findIn X.K (.ref C) "__str__" = some (some (.builtin "object.__str__")))(hm:PySem.W.mroIn X.K C (.type "object")=some true)(F:aD X.prog X.w X.K X.mg X.base bZ k f fd ps sp)(hr:aj (k+3) X.A)(hb:Binds X.K fd ps []):aB X (.type "str") (tV C sp):=by
 intro pins s σ H xs us Q I r h
 obtain⟨a,dx,fs,rfl,e,h⟩:=h
 obtain⟨u,rfl,ru⟩:=r.one
 obtain rfl:u=Value.ref a:=ru
 obtain⟨ox,od,J⟩:=lH I e
 exact PySem.W.kfo_call hr.in1.in1.bq hr.in1.in1.in1.bq I.aS J hs hm c.at_ c.fn (qao (nQ F hr.in1.in1.in1 I.env0.in1.in1.in1 hb I r h) (fun v s' z=>GN z) fun _ _ z=>z)
def A4(C:Addr)(sp:Sp):R2:=fun x y H Q=>∃ a b dx dy fs gs,x = .ref a/\y = .ref b/\H a=some (.ins C dx fs)/\H b=some (.ins C dy gs)/\sp [x,y] H (fun v H'=>∃ z,v = .bl z/\Q v H') E0
theorem Pu(c:Own X.K C "__eq__" f)(F:aD X.prog X.w X.K X.mg X.base bZ k f fd ps sp)(hr:aj k X.A)(hb:Binds X.K fd ps []):bw X (compareOp .Eq) (A4 C sp):=by
 intro pins s σ H x y v u Q I rx ry h
 obtain⟨a,b,dx,dy,fs,gs,rfl,rfl,ea,eb,h⟩:=h
 obtain rfl:v=Value.ref a:=rx
 obtain rfl:u=Value.ref b:=ry
 obtain⟨ox,od,J⟩:=lH I ea
 obtain⟨ox',od',J'⟩:=lH I eb
 obtain⟨m,Fr⟩:=I.fr
 refine PySem.W.cmp_ofEq (PySem.W.cmp_K hr.bq Fr I.ok.mod.i7 J J'.type (by unfold PySem.W.notFirst;simp) c.at_ c.fn (qao (nQ F hr I.env0 hb I (vs:=[.ref a,.ref b]) (.cons rfl (.cons rfl .nil)) h) (fun v s' z=>?_) fun _ _ z=>z))
 obtain⟨v',H',I',rv,z,rfl,q⟩:=z
 obtain rfl:v=Value.bool z:=rv
 exact⟨.bl z,H',I',rfl,q⟩
theorem Pw{M:Model}{A:Around}{E:Value->Shared->Prop}{K:PySem.W.Frag}{x:Addr}{ox:Obj}{od:Option Obj}{name:Str}{id:String}{args:List Value}{Q:Option Value->Shared->Prop}(G:K.In s.heap)(J:PySem.W.InstAt s.heap x ox C od)(hs:PySem.W.findIn K (.ref C) name=some (some (.builtin id)))
 (hb:∀ self,bindSpecial (.builtin id) self=pure (.builtin id,[self])) (h:wpAny M A (call (.builtin id) (.ref x::args)) (fun v=>Q (some v)) E s):wpAny M A (callSpecialIfBound? (.ref x) name args) Q E s:=by
 unfold callSpecialIfBound? bindSpecialIfBound?
 have fin:wpAny M A (call (.builtin id) ([.ref x]++args) >>= fun v=>pure (some v)) Q E s:=qaa (qao h (fun _ _ z=>qac z) fun _ _ z=>z)
 have two:∀ {Q':Value×List Value->Shared->Prop} {E':Value->Shared->Prop},Q' (.builtin id,[.ref x]) s->wpAny M A (bindSpecial (.builtin id) (.ref x)) Q' E' s:=fun q=>(PySem.W.Looks.of_pure (hb _)).here q
 refine qaY (qaa (qaa (qaa (J.type.here ((PySem.W.looks_findIn G hs).here (qaa (qby (wpAny_ite ?_))))))))
 split
 · exact qaa (two (qac fin))
 · exact wpAny_tryCatch (qaa (two (qac fin)))
def A5(C:Addr)(sp:Sp):R2:=fun x y H Q=>∃ a b dx dy fs gs,x = .ref a/\y = .ref b/\H a=some (.ins C dx fs)/\H b=some (.ins C dy gs)/\sp [x,y] H (fun v H'=>∃ z,v = .bl z/\Q (.bl (!z)) H') E0
theorem Px(c:Own X.K C "__eq__" f)(hn:PySem.W.findIn X.K (.ref C) "__ne__" = some (some (.builtin "object.__ne__")))(hm:PySem.W.mroIn X.K C (.type "object")=some true)(F:aD X.prog X.w X.K X.mg X.base bZ k f fd ps sp)(hr:aj (k+1) X.A)(hb:Binds X.K fd ps []):bw X (compareOp .NotEq) (A5 C sp):=by
 intro pins s σ H x y v u Q I rx ry h
 obtain⟨a,b,dx,dy,fs,gs,rfl,rfl,ea,eb,h⟩:=h
 obtain rfl:v=Value.ref a:=rx
 obtain rfl:u=Value.ref b:=ry
 obtain⟨ox,od,J⟩:=lH I ea
 obtain⟨ox',od',J'⟩:=lH I eb
 have ne:wpAny (model X.prog X.w) X.A (call (.builtin "object.__ne__") [.ref a,.ref b]) (fun v s'=>∃ z,v = .bool z/\EP X pins σ Q v s') X.xe s:=by
  refine wpAny_call (qbJ PySem.F.slot_object_ne.plain PySem.F.entry_object_ne (PySem.W.check_slot (i := "object.__ne__") (owner := "object") (n := "__ne__") (by decide +kernel) (by decide +kernel) (J.type.andThen (PySem.W.looks_mroIn I.aS hm)) (PySem.F.args_object_ne_2 _ _) ?_))
  unfold  Builtin.«object.__ne__»
  refine qaa (m:=slotArgs "__ne__" 1 _) (qac ?_)
  refine qaa (m:=cRoomFor _ _) (wpAny_cRoomFor hr.in1.bq ?_)
  refine qaa (m:=callSpecialIfBound? (.ref a) (Str.ofString "__eq__") _) (PySem.W.ifBound_K I.aS J c.at_ c.fn (qao (nQ F hr.in1 I.env0.in1 hb I (vs:=[.ref a,.ref b]) (.cons rfl (.cons rfl .nil)) h) (fun v s' z=>?_) fun _ _ z=>z))
  obtain⟨v',H',I',rv,z,rfl,q⟩:=z
  obtain rfl:v=Value.bool z:=rv
  exact qaa (m:=truthy (.bool z)) (qac (qac ⟨!z,rfl,.bl (!z),H',I',rfl,q⟩))
 refine PySem.W.cmp_ofNotEq ?_
 unfold richCompare
 simp only[oneThing_ref]
 refine qaY (qaa (wpAny_cRoomFor hr.bq ?_))
 refine qaa (J.type.here (qaa (J'.type.here ?_)))
 rw[qaz (by simp)]
 refine qaa (qac ?_)
 simp only[Bool.false_eq_true,if_false]
 unfold tryCompare
 refine qaa (qaa (Pw I.aS J hn PySem.F.slot_object_ne.bind (qao ne (fun v s' z=>?_) fun _ _ z=>z)))
 obtain⟨z,rfl,q⟩:=z
 exact qac (qac q)
structure pP(K:PySem.W.Frag)(C f:Addr):Prop extends Own K C "__len__" f where
 nb:PySem.W.findIn K (.ref C) "__bool__" = some none
def A6(sp:Sp)(vs:List V)(H:Hp)(Q:Bool->Hp->Prop):Prop:=sp vs H (fun v H'=>∃ n:Int,v = .int n/\0<=n/\n<2 ^ 63/\Q (n != 0) H') E0
theorem GO{A:Around}{a dx:Addr}{fs:List (Str×V)}{Q:Bool->Hp->Prop}{E:Value->Shared->Prop}(c:pP X.K C f)(F:aD X.prog X.w X.K X.mg X.base bZ k f fd ps sp)(hr:aj (k+1) A)(hb:Binds X.K fd ps [])(I:Inv X pins σ H s)(e0:dP X.prog X.w X.K X.mg X.base A X.stack s H)(e:H a=some (.ins C dx fs))(h:A6 sp [.ref a] H Q) :
 wpAny (model X.prog X.w) A (truthy (.ref a)) (TP X pins σ Q) E s:=by
 obtain⟨ox,od,J⟩:=lH I e
 have key:wpAny (model X.prog X.w) A (runValue (.builtin "len" ⟨[.ref a],[]⟩)) (fun r s'=>∃ n t,r = .int n t/\TP X pins σ Q (n != 0) s') E s:=by
  refine wpAny_runValue (qbG entry_len ?_)
  rw[qbj plain_len _]
  unfold Builtin.«len»
  refine qaa (m:=oneArg "len" _) (qac ?_)
  refine qaa (m:=callSpecial? (.ref a) (Str.ofString "__len__")) (PySem.W.special_fn I.aS J c.at_ (qas.mp c.fn) (qao (nQ F hr.in1 e0.in1 hb I (vs:=[.ref a]) (.cons rfl .nil) h) (fun v s' z=>?_) fun _ _ z=>z))
  obtain⟨v',H',I',rv,n,rfl,h0,h1,q⟩:=z
  obtain⟨t,rfl⟩:∃ t,v=Value.int n t:=rv
  refine qaa (qaY (qac ?_))
  refine qaa (wpAny_letGo ?_)
  show wpAny _ _ (if n<0 then _ else _) _ _ _
  rw[qaz (by omega)]
  show  wpAny _ _ (if n ≥ 2 ^ 63 then _ else _) _ _ _
  rw[qaz (by omega)]
  exact qaa (wpAny_mkInt (qac ⟨n,_,rfl,H',I'.tok _,q⟩))
 unfold truthy
 refine qaa (m:=callSpecial? (.ref a) (Str.ofString "__bool__")) (qaa (qaa (J.type.here ((PySem.W.looks_findIn I.aS c.nb).here (qac ?_)))))
 refine qaa (qaa (J.type.here ((PySem.W.looks_findIn I.aS c.at_).here ?_)))
 show wpAny _ _ (if (some (Value.ref f)).isNone=true then _ else _) _ _ _
 rw[qaz (by simp)]
 refine qaa (qao key (fun r s' z=>?_) fun _ _ z=>z)
 obtain⟨n,t,rfl,q⟩:=z
 exact qac q
theorem tW{A:Around}{K:PySem.W.Frag}{a:Addr}{ox:Obj}{od:Option Obj}{prog:Program}{w:World}{E:Value->Shared->Prop}{y:Value}{T id:String}{Q:Value->Shared->Prop}(hu:A.units<cLine)(G:K.In s.heap)(J:PySem.W.InstAt s.heap a ox C od)(c:Own K C "__eq__" f)
 (h1:oneThing? .Eq y (.ref a)=none) (hy:s.TypeIs y T) (sl:Slot T (cmpInfo .Eq).2.1 id) (hs:PySem.W.subIn K (.ref C) (.type T)=some false) (dc:∀ Q':Value->Shared->Prop,Q' .notImplemented s->wpAny (model prog w) A (call (.builtin id) [y,.ref a]) Q' E s)
 (h:wpAny (model prog w) A (call (.ref f) [.ref a,y]) (PySem.W.CmpBack Q) E s):wpAny (model prog w) A (richCompare .Eq y (.ref a)) Q E s:=by
 unfold richCompare
 simp only[h1]
 refine qaY (qaa (wpAny_cRoomFor hu ?_))
 refine qaa (wpAny_typeOf hy (qaa (J.type.here ?_)))
 rw[qay (by rfl)]
 refine qaa ((PySem.W.looks_subIn G hs).here ?_)
 simp only[Bool.false_eq_true,if_false]
 refine qaa (wpAny_tryCompare_declines hy sl (dc _ ⟨rfl,?_⟩))
 simp only[Bool.not_false,if_true]
 unfold tryCompare
 refine qaa (qaa (PySem.W.ifBound_K G J c.at_ c.fn (qao h (fun v s' z=>?_) fun _ _ z=>z)))
 cases v<;>first | exact z.elim | exact qac (qac z)
theorem GP{M:Model}{A:Around}{K:PySem.W.Frag}{a:Addr}{ox:Obj}{od:Option Obj}{E:Value->Shared->Prop}{T:String}{Q:Bool->Shared->Prop}(G:K.In s.heap)(J:PySem.W.InstAt s.heap a ox C od)(hs:PySem.W.subIn K (.ref C) (.type T)=some false)(q:Q false s):wpAny M A (isInstance (.ref a) (.type T)) Q E s:=by
 unfold isInstance
 exact qaa (J.type.here ((PySem.W.looks_subIn G hs).here q))
def Decl(K:PySem.W.Frag)(C a:Addr)(T:String)(R:Result->Shared->Prop)(s:Shared):Prop:=∃ ox od,K.In s.heap/\PySem.W.InstAt s.heap a ox C od/\PySem.W.subIn K (.ref C) (.type T)=some false/\R (.ok (.ret .notImplemented)) s
theorem Py(K:PySem.W.Frag)(l a:Addr):Meets (Builtin.«list.__eq__» ⟨[.ref l,.ref a],[]⟩) (fun _ R s=>Decl K C a "list" R s) :=
 .of_wp fun prog w A R s h=>by
  obtain⟨ox,od,G,J,hs,h⟩:=h
  obtain⟨hp,g,d,tk,os⟩:=s
  wp_walk using GP G J hs
  exact⟨_,rfl,h⟩
theorem Pz(K:PySem.W.Frag)(l a:Addr):Meets (Builtin.«tuple.__eq__» ⟨[.ref l,.ref a],[]⟩) (fun _ R s=>Decl K C a "tuple" R s) :=
 .of_wp fun prog w A R s h=>by
  obtain⟨ox,od,G,J,hs,h⟩:=h
  obtain⟨hp,g,d,tk,os⟩:=s
  wp_walk using GP G J hs
  exact⟨_,rfl,h⟩
theorem PB(K:PySem.W.Frag)(i:Int)(t:Tok)(a:Addr):Meets (Builtin.«int.__eq__» ⟨[.int i t,.ref a],[]⟩) (fun _ R s=>(∃ dx,s.heap.get? a=some (PySem.W.instObj C dx))/\R (.ok (.ret .notImplemented)) s) :=
 .of_wp fun prog w A R s h=>by
  obtain⟨⟨dx,hl⟩,h⟩:=h
  obtain⟨hp,g,d,tk,os⟩:=s
  wp_walk using wpAny_loadPart' hl,wpAny_load hl
  exact⟨_,rfl,h⟩
theorem PC(K:PySem.W.Frag)(i:Str)(t:Tok)(a:Addr):Meets (Builtin.«str.__eq__» ⟨[.str i t,.ref a],[]⟩) (fun _ R s=>(∃ dx,s.heap.get? a=some (PySem.W.instObj C dx))/\R (.ok (.ret .notImplemented)) s) :=
 .of_wp fun prog w A R s h=>by
  obtain⟨⟨dx,hl⟩,h⟩:=h
  obtain⟨hp,g,d,tk,os⟩:=s
  wp_walk using wpAny_loadPart' hl,wpAny_load hl
  exact⟨_,rfl,h⟩
def kH(K:PySem.W.Frag)(E1:V->Hp->(Bool->Hp->Prop)->Prop)(l:Addr)(all:List V)(Q:Bool->Hp->Prop):List V->Hp->Prop
 | [],H=>aZ K H l all/\Q false H
 |y::ys,H=>aZ K H l all/\E1 y H fun z H'=>if z=true then Q true H' else kH K E1 l all Q ys H'
theorem GQ{E1:V->Hp->(Bool->Hp->Prop)->Prop}{l:Addr}{all:List V}{Q:Bool->Hp->Prop}{vx:Value}(hE:∀ (y:V) (v:Value) (H:Hp) (s:Shared) (K:Bool->Hp->Prop),Inv X pins σ H s->RelV y v->E1 y H K->wpAny (model X.prog X.w) X.A.in1 (eqBool v vx) (TP X pins σ K) X.xe s) :
 ∀ (ys:List V) (i:Nat),all.drop i=ys->MeetsIn X.prog X.w (Builtin.«list.__contains__.loop» ⟨[.ref l,vx,rawInt i],[]⟩) (fun A R s=>A=X.A/\∃ H,Inv X pins σ H s/\kH X.K E1 l all Q ys H/\(∀ z s',TP X pins σ Q z s'->R (.ok (.ret (.bool z))) s')/\∀ e s',X.xe e s'->R (.error e) s')
 | [],i,hi=>by
   intro A R s h
   obtain⟨rfl,H,I,h,hQ,hX⟩:=h
   obtain⟨hl,q⟩:=h
   obtain⟨its,r,pl,hz⟩:=I.list hl
   obtain⟨o,n,ho,hc,hdi,hd⟩:=pl
   have hn:its.toArray[((i:Nat):Int).toNat]? = none:=by
    have:=congrArg List.length hi
    rw[qa9,r.length] at this
    simp only[List.length_nil] at this
    simp;omega
   obtain⟨hp,g,d,tk,os⟩:=s
   obtain⟨cls,dd,data,sl⟩:=o
   dsimp only at hc hd hdi
   subst hc hd hdi
   wp_walk using wpAny_loadPart' ho
   rw[hn]
   wp_walk
   exact hQ _ _ ⟨H,I,q⟩
 |y::ys,i,hi=>by
   intro A R s h
   obtain⟨rfl,H,I,h,hQ,hX⟩:=h
   obtain⟨hl,q⟩:=h
   obtain⟨its,r,pl,hz⟩:=I.list hl
   obtain⟨o,n,ho,hc,hdi,hd⟩:=pl
   have hlt:i<all.length:=by
    have:=congrArg List.length hi
    rw[qa9,qaD] at this
    omega
   have hy:all[i]? = some y:=by
    rw[qaQ hlt] at hi
    rw[qae hlt,(List.cons.inj hi).1]
   obtain⟨v,hv,rv⟩:=r.get hy
   have hn:its.toArray[((i:Nat):Int).toNat]? = some v:=by simpa using hv
   have hdr:all.drop (i+1)=ys:=by
    rw[qaQ hlt] at hi
    exact(List.cons.inj hi).2
   have ih:=GQ (l:=l) (Q:=Q) hE ys (i+1) hdr
   have go:=hE y v H s _ I rv q
   obtain⟨hp,g,d,tk,os⟩:=s
   obtain⟨cls,dd,data,sl⟩:=o
   dsimp only at hc hd hdi
   subst hc hd hdi
   wp_walk using wpAny_loadPart' ho
   rw[hn]
   refine qaa (qao go (fun z s' hz=>?_) fun e s' hx=>hX e s' hx)
   obtain⟨H',I',q'⟩:=hz
   cases z with
   |true =>
     rw[qay rfl] at q'
     wp_walk
     exact hQ _ _ ⟨H',I',q'⟩
   |false =>
     rw[qaz (by simp)] at q'
     have hc:((i:Int)+1)=((i+1:Nat):Int):=by push_cast;rfl
     wp_walk
     rw[hc]
     exact⟨plainId_quiet qbs _,qbG PySem.MeetsSeq.entry_contains_loop (by
      rw[qbj qbs _]
      exact ih X.A R _ ⟨rfl,H',I',q',hQ,hX⟩)⟩
def lI(K:PySem.W.Frag)(C:Addr)(sp:Sp)(a:Addr):V->Hp->(Bool->Hp->Prop)->Prop:=fun y H P=>(∃ dx fs,H a=some (.ins C dx fs))/\((y = .ref a/\P true H)\/(y ≠ .ref a /\
 ((∃ b dy gs,y = .ref b/\H b=some (.ins C dy gs)/\sp [y,.ref a] H (fun v H'=>∃ z,v = .bl z/\P z H') E0) \/
  ((y = .av\/(∃ i,y = .int i)\/(∃ t,y = .str t)\/(∃ b xs,y = .ref b/\aZ K H b xs)\/∃ b xs,y = .ref b/\b9 K H b xs)/\sp [.ref a,y] H (fun v H'=>∃ z,v = .bl z/\P z H') E0))))
structure kJ(K:PySem.W.Frag)(C f:Addr):Prop extends Own K C "__eq__" f where
 nN:PySem.W.subIn K (.ref C) (.type "NoneType")=some false
 nI:PySem.W.subIn K (.ref C) (.type "int")=some false
 nS:PySem.W.subIn K (.ref C) (.type "str")=some false
 nL:PySem.W.subIn K (.ref C) (.type "list")=some false
 nT:PySem.W.subIn K (.ref C) (.type "tuple")=some false
theorem GR{a dx:Addr}{fs:List (Str×V)}(I:Inv X pins σ H s)(e:H a=some (.ins C dx fs)):∃ dx,s.heap.get? a=some (PySem.W.instObj C dx):=by
 obtain⟨_,_,_,ob,_⟩:=(show az X.prog X.w H s.heap a (.ins C dx fs) from I.hok a _ e)
 exact⟨dx,ob⟩
theorem PD{a:Addr}{y:V}{v:Value}{P:Bool->Hp->Prop}(c:kJ X.K C f)(F:aD X.prog X.w X.K X.mg X.base bZ k f fd ps sp)(hr:aj (k+1) X.A)(hb:Binds X.K fd ps [])(I:Inv X pins σ H s)(ry:RelV y v)(h:lI X.K C sp a y H P):wpAny (model X.prog X.w) X.A.in1 (eqBool v (.ref a)) (TP X pins σ P) X.xe s:=by
 obtain⟨⟨dx,fs,ea⟩,h⟩:=h
 unfold eqBool
 refine qaY ?_
 rcases h with ⟨rfl,q⟩ | ⟨ne,h⟩
 · obtain rfl:v=Value.ref a:=ry
   rw[qay (by simp)]
   exact qaa (wpAny_rule (qac ⟨H,I,q⟩))
 have nv:(v == Value.ref a)=false:=by
  rw[beq_eq_false_iff_ne]
  rintro rfl
  cases y<;>first | exact absurd (congrArg V.ref (Value.ref.inj ry).symm) ne | (obtain⟨_,z⟩:=ry;cases z) | cases ry
 rw[qaz (by rw[nv];simp)]
 have back:∀ {u:Value} {s':Shared},EP X pins σ (fun v H'=>∃ z,v = .bl z/\P z H') u s'->PySem.W.CmpBack (fun r s'=>∃ z,r = .bool z/\TP X pins σ P z s') u s':=by
  rintro u s' ⟨v',H',I',rv,z,rfl,q⟩
  obtain rfl:u=Value.bool z:=rv
  exact⟨z,rfl,H',I',q⟩
 have key:wpAny (model X.prog X.w) X.A.in1 (richCompare .Eq v (.ref a)) (fun r s'=>∃ z,r = .bool z/\TP X pins σ P z s') X.xe s:=by
  obtain⟨ox,od,J⟩:=lH I ea
  obtain⟨m,Fr⟩:=I.fr
  rcases h with ⟨b,dy,gs,rfl,eb,h⟩ | ⟨kd,h⟩
  · obtain rfl:v=Value.ref b:=ry
    obtain⟨ox',od',J'⟩:=lH I eb
    exact PySem.W.cmp_K hr.in1.bq Fr I.ok.mod.i7 J' J.type (by unfold PySem.W.notFirst;simp) c.at_ c.fn (qao (nQ F hr.in1 I.env0.in1 hb I (vs:=[.ref b,.ref a]) (.cons rfl (.cons rfl .nil)) h) (fun v s' z=>back z) fun _ _ z=>z)
  · have call:=qao (nQ (E:=X.xe) F hr.in1 I.env0.in1 hb I (vs:=[.ref a,y]) (us:=[.ref a,v]) (.cons rfl (.cons ry .nil)) h) (fun v s' z=>back z) fun _ _ z=>z
    rcases kd with rfl | ⟨i,rfl⟩ | ⟨t,rfl⟩ | ⟨b,xs,rfl,hl⟩ | ⟨b,xs,rfl,hl⟩
    · obtain rfl:v=Value.none:=ry
      exact tW hr.in1.bq I.aS J c.toOwn rfl rfl PySem.F.slot_NoneType_eq c.nN (fun Q' q=>call_meets PySem.F.slot_NoneType_eq rfl PySem.F.entry_NoneType_eq (PySem.F.args_NoneType_eq_2 _ _) (PySem.SeqAt.NoneType___eq___none_ref_0 a).meets q) call
    · obtain⟨tk,rfl⟩:∃ tk,v=Value.int i tk:=ry
      exact tW hr.in1.bq I.aS J c.toOwn rfl rfl PySem.F.slot_int_eq c.nI (fun Q' q=>call_meets PySem.F.slot_int_eq rfl PySem.F.entry_int_eq (PySem.F.args_int_eq_2 _ _) (PB (C:=C) X.K i tk a) ⟨GR I ea,q⟩) call
    · obtain⟨tk,rfl⟩:∃ tk,v=Value.str t tk:=ry
      exact tW hr.in1.bq I.aS J c.toOwn rfl rfl PySem.F.slot_str_eq c.nS (fun Q' q=>call_meets PySem.F.slot_str_eq rfl PySem.F.entry_str_eq (PySem.F.args_str_eq_2 _ _) (PC (C:=C) X.K t tk a) ⟨GR I ea,q⟩) call
    · obtain rfl:v=Value.ref b:=ry
      obtain⟨its,r,⟨o,n,ho,hc,_⟩,hz⟩:=I.list hl
      exact tW hr.in1.bq I.aS J c.toOwn rfl ⟨o,ho,hc⟩ PySem.F.slot_list_eq c.nL (fun Q' q=>call_meets PySem.F.slot_list_eq ⟨o,ho,hc⟩ PySem.F.entry_list_eq (PySem.F.args_list_eq_2 _ _) (Py X.K b a) ⟨ox,od,I.aS,J,c.nL,q⟩) call
    · obtain rfl:v=Value.ref b:=ry
      obtain⟨its,r,⟨o,ho,hc,_⟩,hz⟩:=I.tuple hl
      exact tW hr.in1.bq I.aS J c.toOwn rfl ⟨o,ho,hc⟩ PySem.F.slot_tuple_eq c.nT (fun Q' q=>call_meets PySem.F.slot_tuple_eq ⟨o,ho,hc⟩ PySem.F.entry_tuple_eq (PySem.F.args_tuple_eq_2 _ _) (Pz X.K b a) ⟨ox,od,I.aS,J,c.nT,q⟩) call
 have fin:wpAny (model X.prog X.w) X.A.in1 (do truthOfDropped (<- richCompare .Eq v (.ref a))) (TP X pins σ P) X.xe s:=by
  refine qaa (qao key (fun r s' z=>?_) fun _ _ z=>z)
  obtain⟨z,rfl,q⟩:=z
  exact qbD q
 cases v<;>exact fin
def A7(K:PySem.W.Frag)(C:Addr)(sp:Sp):R2:=fun x y H Q=>∃ a l xs,x = .ref a/\y = .ref l/\kH K (lI K C sp a) l xs (fun z H'=>Q (.bl z) H') xs H
def A8(K:PySem.W.Frag)(C:Addr)(sp:Sp):R2:=fun x y H Q=>∃ a l xs,x = .ref a/\y = .ref l/\kH K (lI K C sp a) l xs (fun z H'=>Q (.bl (!z)) H') xs H
theorem GS{a l:Addr}{xs:List V}{Q:Bool->Hp->Prop}(c:kJ X.K C f)(F:aD X.prog X.w X.K X.mg X.base bZ k f fd ps sp)(hr:aj (k+1) X.A)(hb:Binds X.K fd ps []) :
 MeetsIn X.prog X.w (Builtin.«list.__contains__» ⟨[.ref l,.ref a],[]⟩) (fun A R s=>A=X.A/\∃ H,Inv X pins σ H s/\kH X.K (lI X.K C sp a) l xs Q xs H/\(∀ z s',TP X pins σ Q z s'->R (.ok (.ret (.bool z))) s')/\∀ e s',X.xe e s'->R (.error e) s'):=by
 intro A R s h
 have h':=h
 obtain⟨rfl,_⟩:=h'
 have ih:=GQ (X:=X) (pins:=pins) (σ:=σ) (E1:=lI X.K C sp a) (l:=l) (all:=xs) (Q:=Q) (vx:=.ref a) (fun y v H s K I ry h=>PD c F hr hb I ry h) xs 0 rfl
 obtain⟨hp,g,d,tk,os⟩:=s
 wp_walk
 exact⟨plainId_quiet qbs _,qbG PySem.MeetsSeq.entry_contains_loop (by
  rw[qbj qbs _]
  exact ih X.A R _ h)⟩
theorem GU{E1:V->Hp->(Bool->Hp->Prop)->Prop}{l:Addr}{all ys:List V}{Q:Bool->Hp->Prop}(h:kH X.K E1 l all Q ys H):aZ X.K H l all:=by cases ys<;>exact h.1
theorem PF(c:kJ X.K C f)(F:aD X.prog X.w X.K X.mg X.base bZ k f fd ps sp)(hr:aj (k+1) X.A)(hb:Binds X.K fd ps []):bw X (compareOp .In) (A7 X.K C sp):=by
 intro pins s σ H x y v u Q I rx ry h
 obtain⟨a,l,xs,rfl,rfl,h⟩:=h
 obtain rfl:v=Value.ref a:=rx
 obtain rfl:u=Value.ref l:=ry
 obtain⟨its,r,⟨o,n,ho,hc,_⟩,hz⟩:=I.list (GU h)
 show wpAny _ X.A (do return Value.bool (<- contains (.ref l) (.ref a))) _ _ s
 refine qaa (wpAny_contains_slot ⟨o,ho,hc⟩ PySem.F.slot_list_contains (qao (call_meetsIn (Q:=fun v s'=>∃ z,v = .bool z/\TP X pins σ (fun z H'=>Q (.bl z) H') z s') PySem.F.slot_list_contains ⟨o,ho,hc⟩ PySem.F.entry_list_contains (PySem.F.args_list_contains_2 _ _) (GS c F hr hb) ⟨rfl,H,I,h,fun z s' q=>⟨z,rfl,q⟩,fun e s' q=>q⟩) (fun v s' hv=>?_) fun _ _ e=>e))
 obtain⟨z,rfl,H',I',q⟩:=hv
 exact qbD (qac ⟨.bl z,H',I',rfl,q⟩)
theorem PH(c:kJ X.K C f)(F:aD X.prog X.w X.K X.mg X.base bZ k f fd ps sp)(hr:aj (k+1) X.A)(hb:Binds X.K fd ps []):bw X (compareOp .NotIn) (A8 X.K C sp):=by
 intro pins s σ H x y v u Q I rx ry h
 obtain⟨a,l,xs,rfl,rfl,h⟩:=h
 obtain rfl:v=Value.ref a:=rx
 obtain rfl:u=Value.ref l:=ry
 obtain⟨its,r,⟨o,n,ho,hc,_⟩,hz⟩:=I.list (GU h)
 show wpAny _ X.A (do return Value.bool (!(<- contains (.ref l) (.ref a)))) _ _ s
 refine qaa (wpAny_contains_slot ⟨o,ho,hc⟩ PySem.F.slot_list_contains (qao (call_meetsIn (Q:=fun v s'=>∃ z,v = .bool z/\TP X pins σ (fun z H'=>Q (.bl (!z)) H') z s') PySem.F.slot_list_contains ⟨o,ho,hc⟩ PySem.F.entry_list_contains (PySem.F.args_list_contains_2 _ _) (GS c F hr hb) ⟨rfl,H,I,h,fun z s' q=>⟨z,rfl,q⟩,fun e s' q=>q⟩) (fun v s' hv=>?_) fun _ _ e=>e))
 obtain⟨z,rfl,H',I',q⟩:=hv
 exact qbD (qac ⟨.bl (!z),H',I',rfl,q⟩)
def A9(C:Addr)(sp:Sp):List V->Hp->VK->Prop:=fun vs H Q=>∃ a dx fs,vs=[.ref a]/\H a=some (.ins C dx fs)/\A6 sp vs H fun z H'=>Q (.bl z) H'
theorem PJ(c:pP X.K C f)(F:aD X.prog X.w X.K X.mg X.base bZ k f fd ps sp)(hr:aj (k+3) X.A)(hb:Binds X.K fd ps []):aB X (.type "bool") (A9 C sp):=by
 intro pins s σ H xs us Q I r h
 obtain⟨a,dx,fs,rfl,e,h⟩:=h
 obtain⟨u,rfl,ru⟩:=r.one
 obtain rfl:u=Value.ref a:=ru
 refine PySem.callType_codes (T := "bool") (Bi:=Builtin.«object.__init__») (Q₁:=fun r ay=>∃ z,r = .bool z/\EP X pins σ Q r ay) PySem.F.called_bool (PySem.F.typeCall_bool_1 _) PySem.F.entry_object_init ?_ ?_
 · refine codeAny_of_tree ?_
   show wpAny _ X.A.in1.in1 (do checkBuiltinCall "bool.__new__" ⟨[.type "bool",.ref a],[]⟩;again (.builtin "bool.__new__" ⟨[.type "bool",.ref a],[]⟩)) _ _ s
   refine qaa (wpAny_of_eq (PySem.F.newCall_bool_1 _) (qac ⟨plainId_quiet (by decide +kernel) _,qbG PySem.F.entry_bool_new ?_⟩))
   rw[qbj (by decide +kernel) _]
   have key:∀ {Q':Bool->Shared->Prop} {E':Value->Shared->Prop},(∀ z s',TP X pins σ (fun z H'=>Q (.bl z) H') z s'->Q' z s')->wpAny (model X.prog X.w) X.A.in1.in1 (truthy (.ref a)) Q' E' s:=fun q=>qao (GO c F hr.in1.in1 hb I I.env0.in1.in1 e h) q fun _ _ z=>z
   have f1:=PySem.F.conv_sub_bool
   unfold Builtin.«bool.__new__»
   obtain⟨hp,g,d,tk,os⟩:=s
   wp_walk using key
   intro z s' q
   obtain⟨H',I',q⟩:=q
   wp_walk
   exact⟨z,rfl,.bl z,H',I',rfl,q⟩
 · rintro obj ay ⟨z,rfl,hq⟩
   exact⟨rfl,PySem.F.args_object_init_2 _ _,PySem.object_init_meets PySem.F.called_bool.init.lookup PySem.F.called_bool.made (by decide) X.prog X.w X.A.in1 _ ay ⟨rfl,rfl,hq⟩⟩
end
end L2
namespace Dv
open PySem L2 Ex
variable[KC]
section
variable{X:Cx}{EE:aT}{ios:List Addr}{k:Nat}{ps:List Str}{C:Cn}{m:Str}{G:List D->Option Rt}
noncomputable def lJ:Option Rt->Option Bool
 |some (.val (.bl z))=>some z
 | _=>none
noncomputable def tX:Option Rt->Option Int
 |some (.val (.int n))=>some n
 | _=>none
noncomputable def A_:Option Rt->Option Str
 |some (.val (.str x))=>some x
 | _=>none
theorem Ba{r:Option Rt}{z:Bool}(h:lJ r=some z):r=some (.val (.bl z)):=by
 unfold lJ at h;split at h<;>cases h;rfl
theorem Bb{r:Option Rt}{z:Int}(h:tX r=some z):r=some (.val (.int z)):=by
 unfold tX at h;split at h<;>cases h;rfl
theorem PK{r:Option Rt}{z:Str}(h:A_ r=some z):r=some (.val (.str z)):=by
 unfold A_ at h;split at h<;>cases h;rfl
theorem Pk.obj{R H:Hp}{x:V}{ns:List Str}{vs:List D}(h:Pk R H x (.obj C ns vs)):Rp R x (.obj C ns vs):=by
 rcases h with h | ⟨_,_,_,_,_,z,_⟩
 · exact h
 · cases z
theorem Rp.ins{R:Hp}{x:V}{ns:List Str}{vs:List D}(h:Rp R x (.obj C ns vs)):∃ a dx fs,x = .ref a/\R a=some (.ins (KC.cls C) dx fs):=by
 cases h with | obj e _=>exact⟨_,_,_,rfl,e⟩
def qZ(C:Cn)(G:List D->Option Rt):List D->Option RV
 | [.obj C' ns vs]=>if cd (C'=C) then (tX (G [.obj C' ns vs])).bind fun n=>if cd (0<=n/\n<2 ^ 63) then some (.val (.int n)) else none else none
 | _=>none
def q8(C:Cn)(G:List D->Option Rt):List D->Option RV
 | [.obj C' ns vs]=>if cd (C'=C) then (tX (G [.obj C' ns vs])).bind fun n=>if cd (0<=n/\n<2 ^ 63) then some (.val (.bl (n != 0))) else none else none
 | _=>none
def iY(C:Cn)(G:List D->Option Rt):List D->Option RV
 | [.obj C' ns vs]=>if cd (C'=C) then (A_ (G [.obj C' ns vs])).map fun t=>.val (.str t) else none
 | _=>none
theorem PL:ki (A3 (KC.cls C) (aX G)) (qZ C G):=by
 intro R H xs ds rv Q s px hg q
 unfold qZ at hg
 split at hg
 · obtain⟨x,rfl,p⟩:=px.one
   split at hg
   · rename_i c
     have c:=dR c
     subst c
     obtain⟨n,hn,hg⟩:=qbO.mp hg
     split at hg
     · rename_i b
       have b:=dR b
       cases hg
       obtain⟨a,dx,fs,rfl,e⟩:=p.obj.ins
       refine⟨a,dx,fs,rfl,s _ _ e,R,_,s,.cons p.obj .nil,?_⟩
       rw[Bb hn]
       exact fun z H' R' al ra=>⟨n,by cases ra;rfl,b.1,b.2,q z H' R' al ra⟩
     · cases hg
   · cases hg
 · cases hg
theorem zhE:ki (A9 (KC.cls C) (aX G)) (q8 C G):=by
 intro R H xs ds rv Q s px hg q
 unfold q8 at hg
 split at hg
 · obtain⟨x,rfl,p⟩:=px.one
   split at hg
   · rename_i c
     have c:=dR c
     subst c
     obtain⟨n,hn,hg⟩:=qbO.mp hg
     split at hg
     · rename_i b
       have b:=dR b
       cases hg
       obtain⟨a,dx,fs,rfl,e⟩:=p.obj.ins
       refine⟨a,dx,fs,rfl,s _ _ e,R,_,s,.cons p.obj .nil,?_⟩
       rw[Bb hn]
       exact fun z H' R' al ra=>⟨n,by cases ra;rfl,b.1,b.2,q (.bl (n != 0)) H' R' al (.bl _)⟩
     · cases hg
   · cases hg
 · cases hg
theorem tY:ki (tV (KC.cls C) (aX G)) (iY C G):=by
 intro R H xs ds rv Q s px hg q
 unfold iY at hg
 split at hg
 · obtain⟨x,rfl,p⟩:=px.one
   split at hg
   · rename_i c
     have c:=dR c
     subst c
     obtain⟨t,hn,rfl⟩:=qaS.mp hg
     obtain⟨a,dx,fs,rfl,e⟩:=p.obj.ins
     refine⟨a,dx,fs,rfl,s _ _ e,R,_,s,.cons p.obj .nil,?_⟩
     rw[PK hn]
     exact fun z H' R' al ra=>⟨t,by cases ra;rfl,q z H' R' al ra⟩
   · cases hg
 · cases hg
def iZ(C:Cn)(G:List D->Option Rt):D->D->Option RV
 | .obj C1 n1 v1,.obj C2 n2 v2=>if cd (C1=C/\C2=C) then (lJ (G [.obj C1 n1 v1,.obj C2 n2 v2])).map fun z=>.val (.bl z) else none
 | _,_=>none
def lK(C:Cn)(G:List D->Option Rt):D->D->Option RV
 | .obj C1 n1 v1,.obj C2 n2 v2=>if cd (C1=C/\C2=C) then (lJ (G [.obj C1 n1 v1,.obj C2 n2 v2])).map fun z=>.val (.bl (!z)) else none
 | _,_=>none
theorem wI:cI (A4 (KC.cls C) (aX G)) (iZ C G):=by
 intro R H x y d e rv Q s px py hg q
 unfold iZ at hg
 split at hg
 · split at hg
   · rename_i c
     obtain⟨c1,c2⟩:=dR c
     subst c1 c2
     obtain⟨z,hz,rfl⟩:=qaS.mp hg
     obtain⟨a,dx,fs,rfl,e1⟩:=px.obj.ins
     obtain⟨b,dy,gs,rfl,e2⟩:=py.obj.ins
     refine⟨a,b,dx,dy,fs,gs,rfl,rfl,s _ _ e1,s _ _ e2,R,_,s,.cons px.obj (.cons py.obj .nil),?_⟩
     rw[Ba hz]
     exact fun v H' R' al ra=>⟨z,by cases ra;rfl,q v H' R' al ra⟩
   · cases hg
 · cases hg
theorem GV:cI (A5 (KC.cls C) (aX G)) (lK C G):=by
 intro R H x y d e rv Q s px py hg q
 unfold lK at hg
 split at hg
 · split at hg
   · rename_i c
     obtain⟨c1,c2⟩:=dR c
     subst c1 c2
     obtain⟨z,hz,rfl⟩:=qaS.mp hg
     obtain⟨a,dx,fs,rfl,e1⟩:=px.obj.ins
     obtain⟨b,dy,gs,rfl,e2⟩:=py.obj.ins
     refine⟨a,b,dx,dy,fs,gs,rfl,rfl,s _ _ e1,s _ _ e2,R,_,s,.cons px.obj (.cons py.obj .nil),?_⟩
     rw[Ba hz]
     exact fun v H' R' al ra=>⟨z,by cases ra;rfl,q (.bl (!z)) H' R' al (.bl _)⟩
   · cases hg
 · cases hg
mutual
noncomputable def gV:D->Bool
 | .av=>true | .bl _=>true | .int _=>true | .str _=>true
 | .lst ds=>iq ds
 | .tup ds=>iq ds
 | _=>false
noncomputable def iq:List D->Bool
 | []=>true
 |d::ds=>gV d && iq ds
end
mutual
theorem Rp.fn{R:Hp}:∀ {x:V} {d e:D},Rp R x d->gV d=true->gV e=true->Rp R x e->d=e
 | _,_,_,.av,_,_,h=>by cases h;rfl
 | _,_,_,.bl b,_,_,h=>by cases h;rfl
 | _,_,_,.int i,_,_,h=>by cases h;rfl
 | _,_,_,.str x,_,_,h=>by cases h;rfl
 | _,_,_,.lst e r,p,p',h=>by
   cases h with
   |lst e' r'=>rw[e] at e';cases e';rw[aw.fn r (by simpa [gV] using p) (by simpa [gV] using p') r']
   |tup e' r'=>rw[e] at e';cases e'
   | _=>simp[gV] at p'
 | _,_,_,.tup e r,p,p',h=>by
   cases h with
   |tup e' r'=>rw[e] at e';cases e';rw[aw.fn r (by simpa [gV] using p) (by simpa [gV] using p') r']
   |lst e' r'=>rw[e] at e';cases e'
   | _=>simp[gV] at p'
 | _,_,_,.iB e,p,_,_=>by simp[gV] at p
 | _,_,_,.bH e,p,_,_=>by simp[gV] at p
 | _,_,_,.iC e,p,_,_=>by simp[gV] at p
 | _,_,_,.exc e _ _,p,_,_=>by simp[gV] at p
 | _,_,_,.obj e r,p,p',h=>by simp[gV] at p
theorem aw.fn{R:Hp}:∀ {xs:List V} {ds es:List D},aw R xs ds->iq ds=true->iq es=true->aw R xs es->ds=es
 | _,_,_,.nil,_,_,h=>by cases h;rfl
 | _,_,_,.cons a b,p,p',h=>by
   cases h with
   |cons a' b' =>
     have p:=qbl.mp (show(gV _ && iq _)=true from by simpa only [iq] using p)
     have p':=qbl.mp (show(gV _ && iq _)=true from by simpa only [iq] using p')
     rw[Rp.fn a p.1 p'.1 a',aw.fn b p.2 p'.2 b']
end
noncomputable def mT:D->Bool
 | .av=>true | .int _=>true | .str _=>true | .lst _=>true | .tup _=>true
 | _=>false
def dE(C:Cn)(G:List D->Option Rt)(ns:List Str)(vs:List D):List D->Option Bool
 | []=>some false
 | .obj C' n v::es=>if cd (C'=C) then (lJ (G [.obj C' n v,.obj C ns vs])).bind fun z=>if z=true then some true else if (iq v && iq vs)=true/\cd (¬ (n=ns/\v=vs))=true then dE C G ns vs es else none else none
 |e::es=>if mT e=true then (lJ (G [.obj C ns vs,e])).bind fun z=>if z=true then some true else dE C G ns vs es else none
theorem Bc{a l:Addr}{all:List V}{ns:List Str}{vs:List D}{z:Bool}{Q:Bool->Hp->Prop}:∀ {ys:List V} {es:List D} {R H:Hp},aw R ys es->dE C G ns vs es=some z->ae R H->Rp R (.ref a) (.obj C ns vs)->H l=some (.lst all)->(∀ H' R',Al R H R' H'->Q z H')->kH KC.K (lI KC.K (KC.cls C) (aX G) a) l all Q ys H
 | _,_,R,H,.nil,hg,s,ra,hl,q=>by
   unfold dE at hg
   cases hg
   exact⟨aZ.of hl,q H R (Al.refl s)⟩
 | _,_,R,H,.cons (x:=y) (d:=e) (xs:=ys) (ds:=es) re rs,hg,s,ra,hl,q=>by
   refine⟨aZ.of hl,?_⟩
   obtain⟨a',dx,fs,yy,ea⟩:=ra.ins
   cases yy
   refine⟨⟨dx,fs,s _ _ ea⟩,?_⟩
   have step:∀ {z1:Bool} {ds:List D} {r:List V} (hz:lJ (G ds)=some z1) (hr:aw R r ds) (hn:(if z1=true then some true else dE C G ns vs es)=some z),aX G r H (fun v H'=>∃ z',v = .bl z'/\(if z'=true then Q true H' else kH KC.K (lI KC.K (KC.cls C) (aX G) a) l all Q ys H')) E0:=by
    intro z1 ds r hz hr hn
    refine⟨R,ds,s,hr,?_⟩
    rw[Ba hz]
    intro v H' R' al rv
    refine⟨z1,by cases rv;rfl,?_⟩
    cases z1 with
    |true=>rw[qay rfl] at hn ⊢;cases hn;exact q H' R' al
    |false =>
      rw[qaz (by simp)] at hn ⊢
      exact Bc (rs.sm al.rr) hn al.sub (ra.sm al.rr) (al.hh _ _ hl) fun H2 R2 PM=>q H2 R2 (al.trans PM)
   have other:mT e=true->(mT e=true->dE C G ns vs (e::es)=(lJ (G [.obj C ns vs,e])).bind fun z=>if z=true then some true else dE C G ns vs es)->(y = .ref a/\(if true=true then Q true H else kH KC.K (lI KC.K (KC.cls C) (aX G) a) l all Q ys H))\/(y ≠ .ref a /\
    ((∃ b dy gs,y = .ref b/\H b=some (.ins (KC.cls C) dy gs)/\aX G [y,.ref a] H (fun v H'=>∃ z,v = .bl z/\(if z=true then Q true H' else kH KC.K (lI KC.K (KC.cls C) (aX G) a) l all Q ys H')) E0) \/
    ((y = .av\/(∃ i,y = .int i)\/(∃ t,y = .str t)\/(∃ b xs,y = .ref b/\aZ KC.K H b xs)\/∃ b xs,y = .ref b/\b9 KC.K H b xs)/\aX G [.ref a,y] H (fun v H'=>∃ z,v = .bl z/\(if z=true then Q true H' else kH KC.K (lI KC.K (KC.cls C) (aX G) a) l all Q ys H')) E0))):=by
    intro hf he
    rw[he hf] at hg
    obtain⟨z1,hz,hn⟩:=qbO.mp hg
    have sp:=step hz (.cons ra (.cons re .nil)) hn
    cases re with
    |av=>exact .inr ⟨nofun,.inr ⟨.inl rfl,sp⟩⟩
    |int i=>exact .inr ⟨nofun,.inr ⟨.inr (.inl ⟨i,rfl⟩),sp⟩⟩
    |str t=>exact .inr ⟨nofun,.inr ⟨.inr (.inr (.inl ⟨t,rfl⟩)),sp⟩⟩
    |lst e' r'=>exact .inr ⟨fun z=>(by cases z;rw[ea] at e';cases e'),.inr ⟨.inr (.inr (.inr (.inl ⟨_,_,rfl,aZ.of (s _ _ e')⟩))),sp⟩⟩
    |tup e' r'=>exact .inr ⟨fun z=>(by cases z;rw[ea] at e';cases e'),.inr ⟨.inr (.inr (.inr (.inr ⟨_,_,rfl,b9.of (s _ _ e')⟩))),sp⟩⟩
    | _=>cases hf
   cases e with
   |obj C' n v =>
     unfold dE at hg
     split at hg
     · rename_i c
       have c:=dR c
       subst c
       obtain⟨z1,hz,hn⟩:=qbO.mp hg
       obtain⟨b,dy,gs,rfl,eb⟩:=re.ins
       by_cases hba:b=a
       · subst hba
         refine .inl ⟨rfl,?_⟩
         show(if true=true then Q true H else _)
         rw[qay rfl]
         cases z1 with
         |true=>rw[qay rfl] at hn;cases hn;exact q H R (Al.refl s)
         |false =>
           rw[qaz (by simp)] at hn
           split at hn
           · rename_i c
             obtain⟨c1,c2⟩:=c
             have c2:=dR c2
             have c1:=qbl.mp c1
             exfalso
             apply c2
             cases re with
             |obj e1 r1 =>
               cases ra with
               |obj e2 r2 =>
                 rw[e1] at e2
                 cases e2
                 exact⟨rfl,aw.fn r1 c1.1 c1.2 r2⟩
           · cases hn
       · refine .inr ⟨fun z=>hba (by cases z;rfl),.inl ⟨b,dy,gs,rfl,s _ _ eb,?_⟩⟩
         refine step hz (.cons re (.cons ra .nil)) ?_
         cases z1 with
         |true=>exact hn
         |false =>
           rw[qaz (by simp)] at hn ⊢
           split at hn
           · exact hn
           · cases hn
     · cases hg
   |av=>exact other rfl fun h=>by rw[dE,qay h];nofun
   |int i=>exact other rfl fun h=>by rw[dE,qay h];nofun
   |str t=>exact other rfl fun h=>by rw[dE,qay h];nofun
   |lst t=>exact other rfl fun h=>by rw[dE,qay h];nofun
   |tup t=>exact other rfl fun h=>by rw[dE,qay h];nofun
   | _=>unfold dE at hg;cases hg
def lL(C:Cn)(G:List D->Option Rt):D->D->Option RV
 | .obj C' ns vs,.lst es=>if cd (C'=C) then (dE C G ns vs es).map fun z=>.val (.bl z) else none
 | _,_=>none
def q9(C:Cn)(G:List D->Option Rt):D->D->Option RV
 | .obj C' ns vs,.lst es=>if cd (C'=C) then (dE C G ns vs es).map fun z=>.val (.bl (!z)) else none
 | _,_=>none
theorem Bd:cI (A7 KC.K (KC.cls C) (aX G)) (lL C G):=by
 intro R H x y d e rv Q s px py hg q
 unfold lL at hg
 split at hg
 · split at hg
   · rename_i c
     have c:=dR c
     subst c
     obtain⟨z,hz,rfl⟩:=qaS.mp hg
     obtain⟨a,dx,fs,rfl,e1⟩:=px.obj.ins
     obtain⟨l,xs,rfl,hl,rs⟩:=py.lst s
     exact⟨a,l,xs,rfl,rfl,Bc rs hz s px.obj hl fun H' R' al=>q (.bl z) H' R' al (.bl _)⟩
   · cases hg
 · cases hg
theorem PN:cI (A8 KC.K (KC.cls C) (aX G)) (q9 C G):=by
 intro R H x y d e rv Q s px py hg q
 unfold q9 at hg
 split at hg
 · split at hg
   · rename_i c
     have c:=dR c
     subst c
     obtain⟨z,hz,rfl⟩:=qaS.mp hg
     obtain⟨a,dx,fs,rfl,e1⟩:=px.obj.ins
     obtain⟨l,xs,rfl,hl,rs⟩:=py.lst s
     exact⟨a,l,xs,rfl,rfl,Bc (Q:=fun z H'=>Q (.bl (!z)) H') rs hz s px.obj hl fun H' R' al=>q (.bl (!z)) H' R' al (.bl _)⟩
   · cases hg
 · cases hg
end
section
variable{X:Cx}{EE:aT}{ios:List Addr}{k:Nat}{ps:List Str}{C:Cn}{m:Str}{G:List D->Option Rt}
structure gW(C:Cn):Prop where
 ne:W.findIn KC.K (.ref (KC.cls C)) "__ne__" = some (some (.builtin "object.__ne__"))
 st:W.findIn KC.K (.ref (KC.cls C)) "__str__" = some (some (.builtin "object.__str__"))
 nb:W.findIn KC.K (.ref (KC.cls C)) "__bool__" = some none
 ob:W.mroIn KC.K (KC.cls C) (.type "object")=some true
 nN:W.subIn KC.K (.ref (KC.cls C)) (.type "NoneType")=some false
 nI:W.subIn KC.K (.ref (KC.cls C)) (.type "int")=some false
 nS:W.subIn KC.K (.ref (KC.cls C)) (.type "str")=some false
 nL:W.subIn KC.K (.ref (KC.cls C)) (.type "list")=some false
 nT:W.subIn KC.K (.ref (KC.cls C)) (.type "tuple")=some false
theorem wJ(Mc:gj X.prog X.w X.mg X.base C "__eq__" k ps (aX G))(hr:aj k X.A)(hK:X.K=KC.K:=by rfl):bw X (compareOp .Eq) (A4 (KC.cls C) (aX G)):=by
 obtain⟨f,fd,hm,F,hb⟩:=Mc
 rw[<- hK] at hm F hb
 exact Pu ⟨hm.at_,hm.fn⟩ F hr hb
theorem GW(O:gW C)(Mc:gj X.prog X.w X.mg X.base C "__eq__" k ps (aX G))(hr:aj (k+1) X.A)(hK:X.K=KC.K:=by rfl):bw X (compareOp .NotEq) (A5 (KC.cls C) (aX G)):=by
 obtain⟨f,fd,hm,F,hb⟩:=Mc
 have h1:=O.ne
 have h2:=O.ob
 rw[<- hK] at hm F hb h1 h2
 exact Px ⟨hm.at_,hm.fn⟩ h1 h2 F hr hb
theorem GY{f:Addr}(O:gW C)(hm:Meth KC.K (KC.cls C) "__eq__" f):kJ KC.K (KC.cls C) f:=⟨⟨hm.at_,hm.fn⟩,O.nN,O.nI,O.nS,O.nL,O.nT⟩
theorem Be(O:gW C)(Mc:gj X.prog X.w X.mg X.base C "__eq__" k ps (aX G))(hr:aj (k+1) X.A)(hK:X.K=KC.K:=by rfl):bw X (compareOp .In) (A7 KC.K (KC.cls C) (aX G)):=by
 obtain⟨f,fd,hm,F,hb⟩:=Mc
 have h1:=GY O hm
 rw[<- hK] at F hb h1 ⊢
 exact PF h1 F hr hb
theorem PQ(O:gW C)(Mc:gj X.prog X.w X.mg X.base C "__eq__" k ps (aX G))(hr:aj (k+1) X.A)(hK:X.K=KC.K:=by rfl):bw X (compareOp .NotIn) (A8 KC.K (KC.cls C) (aX G)):=by
 obtain⟨f,fd,hm,F,hb⟩:=Mc
 have h1:=GY O hm
 rw[<- hK] at F hb h1 ⊢
 exact PH h1 F hr hb
theorem PR(Mc:gj X.prog X.w X.mg X.base C "__len__" k ps (aX G))(hr:aj (k+1) X.A)(hK:X.K=KC.K:=by rfl):aB X (.builtin "len") (A3 (KC.cls C) (aX G)):=by
 obtain⟨f,fd,hm,F,hb⟩:=Mc
 rw[<- hK] at hm F hb
 exact Pq ⟨hm.at_,hm.fn⟩ F hr hb
theorem PU(O:gW C)(Mc:gj X.prog X.w X.mg X.base C "__len__" k ps (aX G))(hr:aj (k+3) X.A)(hK:X.K=KC.K:=by rfl):aB X (.type "bool") (A9 (KC.cls C) (aX G)):=by
 obtain⟨f,fd,hm,F,hb⟩:=Mc
 have h1:=O.nb
 rw[<- hK] at hm F hb h1
 exact PJ ⟨⟨hm.at_,hm.fn⟩,h1⟩ F hr hb
theorem wK(Mc:gj X.prog X.w X.mg X.base C "__repr__" k ps (aX G))(hr:aj (k+1) X.A)(hK:X.K=KC.K:=by rfl):aB X (.builtin "repr") (tV (KC.cls C) (aX G)):=by
 obtain⟨f,fd,hm,F,hb⟩:=Mc
 rw[<- hK] at hm F hb
 exact Pr ⟨hm.at_,hm.fn⟩ F hr hb
theorem PV(O:gW C)(Mc:gj X.prog X.w X.mg X.base C "__repr__" k ps (aX G))(hr:aj (k+3) X.A)(hK:X.K=KC.K:=by rfl):aB X (.type "str") (tV (KC.cls C) (aX G)):=by
 obtain⟨f,fd,hm,F,hb⟩:=Mc
 have h1:=O.st
 have h2:=O.ob
 rw[<- hK] at hm F hb h1 h2
 exact Pt ⟨hm.at_,hm.fn⟩ h1 h2 F hr hb
def tZ(T:Cn):D->Option RV
 | .bH _=>none
 | .ins _ _ _=>none
 | .obj C _ _=>if C=T then some (.val (.bl true)) else none
 | _=>some (.val (.bl false))
def t5(T:Cn)(f:M RV):M RV:=M.bind (jM f) fun x=>M.bind (peek x) fun d=>M.cx (tZ T d)
structure mU(T:Cn):Prop where
 own:W.kitOne KC.K (.ref (KC.cls T)) (.ref (KC.cls T))=some true
 no:∀ t∈mJ,W.kitOne KC.K (.type t) (.ref (KC.cls T))=some false
 cl:fB KC.K (KC.cls T)
 ha:W.findIn KC.K (.ref (KC.cls T)) "__class__" = some (some (.builtin "object.__class__"))
 hn:W.specialIn KC.K (.builtin "object.__class__") "__get__" = some (some (.builtin "getset_descriptor.__get__"))
 tk:W.takesIn KC.K (.builtin "object.__class__")=some true
 ob:W.mroIn KC.K (KC.cls T) (.type "object")=some true
theorem PX{a:Expr}{f:M RV}{T:Cn}{e0:Expr}(kit:mU T)(hp:∀ t,PE X a t->PE X e0 (ql (fun xs H Q=>∃ x c t cv b,xs=[x,c]/\uY c=some cv/\yA X.K H x t/\W.kitOne X.K t cv=some b/\Q (.bl b) H) (k_ t (k_ (tC (.ref (KC.cls T))) qk))))(ha:VE X EE ios a f)(hK:X.K=KC.K:=by rfl):VE X EE ios e0 (t5 T f):=by
 obtain⟨t,h1,h2⟩:=ha
 refine⟨_,hp t h1,fun σ H R Γ Q er w=>?_⟩
 unfold t5 at w
 rw[Zj] at w
 refine vm h2 er (aG w (fun rx ag w x H1 R1 p1 hx=>?_) fun _ _ z=>z)
 rw[Zj] at w
 obtain⟨d,pd,w⟩:=iD (H:=H) p1.er hx.rv w
 have hv:=pd.hv p1.er.sub
 obtain⟨rv,hg,w⟩:=ij w
 by_cases pl:plain d=true
 · have hg:rv = .val (.bl false):=by cases d<;>first | (cases pl;done) | exact(qaL hg).symm
   subst hg
   exact⟨x,.ref (KC.cls T),_,_,_,rfl,rfl,.inl (hv.ty pl),by rw[hK];exact kit.no _ (NL pl),w _ H1 R1 p1 (.bl _)⟩
 · cases d with
   |obj C ns vs =>
     unfold tZ at hg
     dsimp only at hg
     split at hg
     · rename_i hc
       subst hc
       cases hg
       obtain⟨a',dx,fs,rfl,ea⟩:=hv.ins
       exact⟨.ref a',.ref (KC.cls C),.ref (KC.cls C),_,_,rfl,rfl,.inl (by rw[hK];exact .ins ea kit.cl kit.ha kit.hn kit.tk kit.ob),by rw[hK];exact kit.own,w _ H1 R1 p1 (.bl _)⟩
     · cases hg
   |bH _=>cases hg
   |ins _ _ _=>cases hg
   | _=>exact absurd rfl pl
theorem vK{a:Expr}{f:M RV}{T:Cn}{y:Str}{p p' pos:Pos}(kit:mU T)(hm:X.mg "isinstance" = none)(hy:X.mg y=some (.ref (KC.cls T)))(ha:VE X EE ios a f)(hg:Gl X "isinstance" := by rfl)(hg':Gl X y:=by rfl)(hd:(y == ("__debug__" : Str))=false:=by decide)(hK:X.K=KC.K:=by rfl)
 (h1:starEach [a,.Name y p'] X.env=(false,eval a X.env)::starEach [.Name y p'] X.env:=by rfl) (h2:starEach [.Name y p'] X.env=(false,eval (.Name y p') X.env)::starEach [] X.env:=by rfl) (hpl:(backTo pos (starEach [.Name y p'] X.env)).any (·.1)=false:=by rfl):VE X EE ios (.Call (.Name "isinstance" p) [a,.Name y p'] [] pos) (t5 T f) :=
 PX kit (fun _ h=>j9 DZ hg hm (by decide +kernel) (gG h (gG (xQ (v:=.ref (KC.cls T)) hg' hy rfl hd) lb h2) h1) (by decide) (by decide) h1 hpl) ha hK
end
end Dv
namespace Ex
open PySem PySem.Spec PyProof.Rows PySem.Calls Builtin.SmallTypes
noncomputable def t6(l2:Addr):Obj:={ cls:=.type "list_iterator",data:=.fields #[.ref l2,.int 0 0] }
def jt(h:Heap)(l1 l2:Addr):Heap:=((((h.push (nu l1)).push (t6 l2)).push (u9 h.objs.size (h.push (nu l1)).objs.size)).push yP).push (Eh ((h.push (nu l1)).push (t6 l2)).objs.size (((h.push (nu l1)).push (t6 l2)).push (u9 h.objs.size (h.push (nu l1)).objs.size)).objs.size)
theorem PY(l1 l2:Addr)(xs ys:Array Value):Meets (Builtin.«zip.__new__» ⟨[.type "zip",.ref l1,.ref l2],[]⟩) (fun _ R s=>s.heap.IsList l1 xs/\s.heap.IsList l2 ys /\
 R (.ok (.ret (.ref ((((s.heap.push (nu l1)).push (t6 l2)).push (u9 s.heap.objs.size (s.heap.push (nu l1)).objs.size)).push yP).objs.size))) { s with heap:=jt s.heap l1 l2 }):=by
 refine .of_wp fun prog w A R st h=>?_
 obtain⟨hp,g,d,tk,os⟩:=st
 obtain⟨a1,a2,h⟩:=h
 have hsub:=sub_zip
 have b1:Heap.IsList (Shared.heap ⟨hp,g,d,tk,os⟩) l1 xs:=a1
 have b2:Heap.IsList (Shared.heap ⟨hp.push { cls:=.type "list_iterator",data:=.fields #[.ref l1,.int 0 0] },g,d,tk,os⟩) l2 ys:=by
  obtain⟨o,e,r⟩:=a2
  exact⟨o,qab _ e,r⟩
 wp_walk using wpAny_pyIter_list b1,wpAny_pyIter_list b2
 exact⟨_,rfl,h⟩
end Ex
namespace L2
open PySem PySem.Spec PyProof.Rows Ex
def Bf(l1 l2:Addr):It where
 go:=fun i H=>∃ xs ys x y,H l1=some (.lst xs)/\H l2=some (.lst ys)/\xs[i]? = some x/\ys[i]? = some y
 lT:=fun i H v H'=>∃ p xs ys x y,v = .ref p/\H p=none/\H'=upd H p (.tup [x,y])/\H l1=some (.lst xs)/\H l2=some (.lst ys)/\xs[i]? = some x/\ys[i]? = some y
 stop:=fun i H=>∃ xs,H l1=some (.lst xs)/\xs.length<=i
noncomputable def GZ(n l1 l2:Addr)(i:Nat)(h:Heap):Prop:=∃ a b,IsZip h (n+4) (n+2) (n+3) .none/\IsPair h (n+2) (.ref n) (.ref (n+1))/\IsPair h (n+3) a b/\h.IsListIter n l1 i/\h.IsListIter (n+1) l2 i
theorem PZ{P:Program}{w:World}{K:W.Frag}{es:List Expr}{x1}{pos:Pos}(l1 l2 n:Addr):Turn P w K (.Tuple es x1 pos) (Bf l1 l2) (jG n) (n+4) (GZ n l1 l2) where
 mem:=by simp[jG]
 obj:=fun i h st b hb=>by
  obtain⟨a,c,hz,hi,ho,⟨o1,e1,c1,d1⟩,⟨o2,e2,c2,d2⟩⟩:=st
  rcases aJ.mp hb with e | e | e | e | e<;>subst e
  · exact⟨_,hz,fun v z=>nomatch z⟩
  · exact⟨_,hi,fun v z=>nomatch z⟩
  · exact⟨_,ho,fun v z=>nomatch z⟩
  · exact⟨_,e1,fun v z=>by rw[d1] at z;cases z⟩
  · exact⟨_,e2,fun v z=>by rw[d2] at z;cases z⟩
 keep:=fun i h h' st k=>by
  obtain⟨a,c,hz,hi,ho,⟨o1,e1,r1⟩,⟨o2,e2,r2⟩⟩:=st
  exact⟨a,c,k _ (aJ.mpr (.inl rfl)) _ hz,k _ (aJ.mpr (.inr (.inl rfl))) _ hi,k _ (aJ.mpr (.inr (.inr (.inl rfl)))) _ ho,⟨o1,k _ (aJ.mpr (.inr (.inr (.inr (.inl rfl))))) _ e1,r1⟩,⟨o2,k _ (aJ.mpr (.inr (.inr (.inr (.inr rfl))))) _ e2,r2⟩⟩
 item:=by
  intro X hP hw hK hc i pins s σ H E I hf st hg
  subst hP hw hK
  obtain⟨xs,ys,x,y,q1,q2,hx,hy⟩:=hg
  obtain⟨a,c,hz,hi,ho,st1,st2⟩:=st
  have m1:l1 ∉ jG n:=fun z=>by have e:=(hf l1 z).1;rw[q1] at e;cases e
  have m2:l2 ∉ jG n:=fun z=>by have e:=(hf l2 z).1;rw[q2] at e;cases e
  have Z:=Ei m1 m2
  obtain⟨us,r1,p1,z1⟩:=I.list (aZ.of q1)
  obtain⟨ws,r2,p2,z2⟩:=I.list (aZ.of q2)
  obtain⟨u,hu,ru⟩:=r1.get hx
  obtain⟨v,hv,rv⟩:=r2.get hy
  have n1:l1≠n:=fun e=>m1 (aJ.mpr (.inr (.inr (.inr (.inl e)))))
  have n2:l2≠n+1:=fun e=>m2 (aJ.mpr (.inr (.inr (.inr (.inr e)))))
  have new:∀ b∈jG n,b<s.heap.objs.size:=fun b hb=>by
   rcases aJ.mp hb with e | e | e | e | e<;>subst e
   · exact qaf hz
   · exact qaf hi
   · exact qaf ho
   · obtain⟨_,e,_⟩:=st1;exact qaf e
   · obtain⟨_,e,_⟩:=st2;exact qaf e
  refine L5 Z (Ea n1) (Ea n2) hz hi ho ⟨st1,p1.isList⟩ ⟨st2,p2.isList⟩ (x:=u) (y:=v) (by simpa using hu) (by simpa using hv) fun h1 hz1 ho1 s1 s2 np kept=>?_
  refine⟨_,rfl,wpAny_letOwnedTupleGo_zip hz1 fun h2 hz2 sb=>?_⟩
  have k2:∀ b o,b ∉ jG n->s.heap.get? b=some o->h2.get? b=some o:=fun b o hb e=>by
   rw[aJ] at hb
   exact sb.extBut _ _ (fun z=>hb (.inl z)) (kept b o (fun z=>hb (.inl z)) (fun z=>hb (.inr (.inr (.inl z)))) (fun z=>hb (.inr (.inr (.inr (.inl z))))) (fun z=>hb (.inr (.inr (.inr (.inr z))))) e)
  have fr:H s.heap.objs.size=none:=I.hok.fresh (qag _)
  have nz:s.heap.objs.size≠n+4:=fun e=>absurd (new (n+4) (aJ.mpr (.inl rfl))) (by rw[e];exact qbf _)
  refine⟨.ref s.heap.objs.size,upd H s.heap.objs.size (.tup [x,y]),I.dv (t':=s.toks) k2 hf (qag _) ?_,rfl,⟨_,xs,ys,x,y,rfl,fr,rfl,q1,q2,hx,hy⟩,⟨u,v,hz2,?_,?_,?_,?_⟩,fun b hb=>?_⟩
  · exact⟨by show(2:Nat)<=sizeLine;decide,[u,v],.cons ru (.cons rv .nil),⟨_,sb.extBut _ _ nz np,rfl,_,rfl⟩⟩
  · exact sb.extBut _ _ (qaT Z.Eb) (kept _ _ (qaT Z.Eb) Z.TITO Z.L3 Z.L4 hi)
  · exact sb.extBut _ _ (qaT Z.sj) ho1
  · obtain⟨⟨o,e,r⟩,_⟩:=s1
    exact⟨o,sb.extBut _ _ (fun z=>Z.z1 (by rw[<- z];simp)) e,r⟩
  · obtain⟨⟨o,e,r⟩,_⟩:=s2
    exact⟨o,sb.extBut _ _ (fun z=>Z.z2 (by rw[<- z];simp)) e,r⟩
  · rw[aW (qal (new b hb))];exact(hf b hb).1
 done:=by
  intro X hP hw hK hc i pins s σ H E I hf st hg
  subst hP hw hK
  obtain⟨xs,q1,hx⟩:=hg
  obtain⟨a,c,hz,hi,ho,st1,st2⟩:=st
  have m1:l1 ∉ jG n:=fun z=>by have e:=(hf l1 z).1;rw[q1] at e;cases e
  have Z:u5 (n+4) (n+2) (n+3) n (n+1) [l1] [n+5]:=Ei m1 (by rw[aJ];simp only[Addr] at *;omega)
  obtain⟨us,r1,p1,z1⟩:=I.list (aZ.of q1)
  have hl:=r1.length
  refine L_ (a:=a) (b:=c) (I.ok.hd hc) Z hz hi st1 p1.isList (by simp;omega) fun h1 kept=>⟨rfl,?_⟩
  refine I.dr (t':=s.toks) (fun b o hb e=>kept b o (fun z=>?_) (fun z=>?_) e) hf
  · exact hb (aJ.mpr (.inl z))
  · exact hb (aJ.mpr (.inr (.inr (.inr (.inl z)))))
 self:=fun _ _ _ _ _ st h=>by
  obtain⟨a,c,hz,_⟩:=st
  exact wpAny_pyIter_zip hz h
def G0(ta:TA):TI:=fun σ H R=>ta σ H fun vs H1=>∃ l1 l2 xs ys,vs=[.ref l1,.ref l2]/\H1 l1=some (.lst xs)/\H1 l2=some (.lst ys)/\R (Bf l1 l2) H1
theorem P0{prog:Program}{w:World}{A:Around}{E:Value->Shared->Prop}{s:Shared}{l1 l2:Addr}{xs ys:Array Value}{Q:Value->Shared->Prop}(h1:s.heap.IsList l1 xs)(h2:s.heap.IsList l2 ys)
 (q:∀ h',GZ s.heap.objs.size l1 l2 0 h'->(∀ b o,s.heap.get? b=some o->h'.get? b=some o)->Q (.ref (s.heap.objs.size+4)) { s with heap:=h' }):wpAny (model prog w) A (call (.type "zip") [.ref l1,.ref l2]) Q E s:=by
 apply callType_new F.called_zip (by decide) (F.typeCall_zip_2 _ _) (F.newCall_zip_2 _ _) (fun o=>F.args_object_init_3 o _ _) F.entry_zip_new (PY l1 l2 xs ys)
 refine⟨h1,h2,?_⟩
 show(_/\_)
 simp only[Heap.size_push]
 have up:∀ b o,s.heap.get? b=some o->(jt s.heap l1 l2).get? b=some o:=fun b o e=>by
  unfold jt
  iterate 5 apply qab
  exact e
 have g5:(jt s.heap l1 l2).get? (s.heap.objs.size+4)=some (Eh (s.heap.objs.size+2) (s.heap.objs.size+3)):=by
  unfold jt
  simp only[Heap.size_push]
  exact u_ (by simp only[Heap.size_push]) rfl
 have g4:(jt s.heap l1 l2).get? (s.heap.objs.size+3)=some yP:=by
  unfold jt
  apply qab
  exact u_ (by simp only[Heap.size_push]) rfl
 have g3:(jt s.heap l1 l2).get? (s.heap.objs.size+2)=some (u9 s.heap.objs.size (s.heap.objs.size+1)):=by
  unfold jt
  simp only[Heap.size_push]
  iterate 2 apply qab
  exact u_ (by simp only[Heap.size_push]) rfl
 have g2:(jt s.heap l1 l2).get? (s.heap.objs.size+1)=some (t6 l2):=by
  unfold jt
  iterate 3 apply qab
  exact u_ (by simp only[Heap.size_push]) rfl
 have g1:(jt s.heap l1 l2).get? s.heap.objs.size=some (nu l1):=by
  unfold jt
  iterate 4 apply qab
  exact qah _ rfl
 exact⟨⟨_,g5,rfl⟩,q _ ⟨.none,.none,g5,g3,g4,⟨_,g1,rfl,rfl⟩,⟨_,g2,rfl,rfl⟩⟩ up⟩
section
variable{X:Cx}
theorem P1{a b:Expr}{es:List Expr}{x1}{tp:Pos}{ta:TA}{p pos:Pos}(hg:Gl X "zip")(hm:X.mg "zip" = none)(ha:PA X [a,b] ta)(hs:starEach [a,b] X.env=[(false,eval a X.env),(false,eval b X.env)]:=by rfl)(hs2:starEach [b] X.env=[(false,eval b X.env)]:=by rfl) :
 PI X (.Tuple es x1 tp) (.Call (.Name "zip" p) [a,b] [] pos) (G0 ta):=by
 intro pins s σ H R I h
 refine Call_ (n9 I hg hm Ma (qbw (aI (ha pos pins s σ H _ I h) fun us s1 zq=>?_) (by rw[hs,hs2]) (by rw[hs2];rfl)))
 obtain⟨vs,H1,I1,r1,q1⟩:=zq
 obtain⟨l1,l2,xs,ys,e,q1,q2,q⟩:=q1
 subst e
 obtain⟨u,v,rfl,e1,e2⟩:=vals2 r1
 cases e1
 cases e2
 obtain⟨us,r1,p1,z1⟩:=I1.list (aZ.of q1)
 obtain⟨ws,r2,p2,z2⟩:=I1.list (aZ.of q2)
 refine P0 p1.isList p2.isList fun h' st kept=>?_
 obtain⟨_,_,hz,_⟩:=id st
 refine wpAny_pyIter_zip hz ⟨_,jG s1.heap.objs.size,_,_,H1,rfl,I1.kept (t':=s1.toks) kept,PZ l1 l2 _,st,fun b hb=>?_,q⟩
 have le:s1.heap.objs.size<=b:=by
  rw[aJ] at hb
  rcases hb with e | e | e | e | e<;>rw[e]<;>first | exact qag _ | exact Nat.le_add_right _ _
 exact I1.gF le (I1.hok.fresh le)
end
end L2
namespace Dv
open PySem L2 Ex
variable[KC]
section
variable{X:Cx}{EE:aT}{ios:List Addr}{tg:Expr}{es:List Expr}{fs:M (List RV)}
noncomputable def wL(ds es:List D):List D:=(ds.zip es).map fun p=>D.tup [p.1,p.2]
theorem P2{R0:Hp}{l m:Addr}{xs ys:List V}{ds es:List D}(h:R0 l=some (.lst xs))(r:aw R0 xs ds)(h':R0 m=some (.lst ys))(r':aw R0 ys es)(hl:ds.length=es.length):o4 (Bf l m) R0 (wL ds es):=by
 intro i H R s1 s2
 have q1:H l=some (.lst xs):=s2 _ _ (s1 _ _ h)
 have q2:H m=some (.lst ys):=s2 _ _ (s1 _ _ h')
 refine⟨fun d hd=>?_,fun z=>⟨xs,q1,by rw[r.len];simpa [wL,hl] using z⟩⟩
 have hd:((ds.zip es)[i]?).map (fun p=>D.tup [p.1,p.2])=some d:=by rw[<- qaE];exact hd
 obtain⟨⟨d1,d2⟩,hp,rfl⟩:=qaS.mp hd
 obtain⟨z1,z2⟩:=List.getElem?_zip_eq_some.mp hp
 obtain⟨x,hx,rx⟩:=r.ta z1
 obtain⟨y,hy,ry⟩:=r'.ta z2
 refine⟨⟨xs,ys,x,y,q1,q2,hx,hy⟩,fun v H' hv=>?_⟩
 obtain⟨p,xs',ys',x',y',rfl,hp,rfl,e1,e2,f1,f2⟩:=hv
 rw[q1] at e1
 cases e1
 rw[q2] at e2
 cases e2
 rw[hx] at f1
 cases f1
 rw[hy] at f2
 cases f2
 exact⟨_,sF (xs:=[x,y]) (ds:=[d1,d2]) s2 hp (.cons (rx.sm s1) (.cons (ry.sm s1) .nil))⟩
def nR(fs:M (List RV)):M (List D):=M.bind fs fun rvs=>M.bind (bV rvs) fun ds=>match ds with
 | [.lst ds,.lst es]=>if ds.length=es.length then M.pure (wL ds es) else M.st
 | _=>M.st
theorem P4{e0:Expr}(hp:∀ t,PA X es t->PI X tg e0 (G0 t))(ha:VA X EE ios es fs):VI X EE ios tg e0 (nR fs):=by
 obtain⟨t,h1,h2⟩:=ha
 refine⟨_,hp t h1,fun σ H R Γ Rk er w=>?_⟩
 unfold nR at w
 rw[Zj] at w
 refine h2 σ H R Γ _ er (aG w (fun rvs ag w xs H1 R1 p1 hx=>?_) fun _ _ z=>z)
 rw[Zj] at w
 obtain⟨ds,aq,R2,p2,_,r2,w⟩:=iE er p1 hx w
 split at w
 · split at w
   · rename_i hl
     cases r2 with
     |cons a b =>
       cases b with
       |cons b c =>
         cases c
         cases a with
         |lst e q =>
           cases b with
           |lst e' q'=>exact⟨_,_,_,_,rfl,p2.er.sub _ _ e,p2.er.sub _ _ e',w _ H1 R2 p2 (P2 e q e' q' hl)⟩
   · exact False.elim w
 · exact False.elim w
end
end Dv
namespace L2
open PySem PySem.W PyProof.Rows Ex
section
variable{X:Cx}{k:Nat}
def P5(a b:Str)(te:TE):TE:=fun σ H Q=>te σ H fun x H1=>∃ (l:Addr) (d:PyData),x = .ref l/\cM H1 (.ref l) d/\d.showable=true/\d.depth<=50/\d.shown.length<=sizeLine/\(a++d.shown++b).length<=sizeLine/\Q (.str (a++d.shown++b)) H1
theorem P6{a b:Str}{e1 e e3:Expr}{te:TE}{p pos:Pos}(hr:aj k X.A)(sm:tQ X.K)(h1:PE X e1 (tC (.str a)))(he:PE X e te)(h3:PE X e3 (tC (.str b)))(ha:a.length<=sizeLine):PE X (.JoinedStr [e1,.FormattedValue e (-1) none p,e3] pos) (P5 a b te):=by
 intro pins s σ H Q I h
 have un:=hr.units
 have ea:Str.empty++a=a:=Str.empty_append a
 refine JoinedStr_many (joinParts_cons (qao (h1 pins s σ H (fun v H'=>v = .str a/\H'=H) I ⟨rfl,rfl⟩) (fun u s1 z=>?_) fun _ _ z=>z))
 obtain⟨v,H1,I1,r1,rfl,rfl⟩:=z
 obtain⟨t,rfl⟩:∃ t,u=Value.str a t:=r1
 refine⟨by rw[ea];exact ha,?_⟩
 rw[ea]
 refine joinParts_cons (FormattedValue_plain (qao (he pins s1 σ H1 _ I1 h) (fun u s2 z=>?_) fun _ _ z=>z))
 obtain⟨x,H2,I2,rx,l,d,rfl,D,sh,dp,sz,rH,q⟩:=z
 obtain rfl:u=Value.ref l:=rx
 obtain⟨o,so,sc⟩:=sm
 obtain⟨as,R,ns⟩:=D.reads I2.hok (fun o' e=>by rw[I2.aS _ _ so] at e;cases e;exact sc) (u:=.ref l) rfl
 refine formatField_of_reads R sh (fun _=>ns) hr.gd (by omega) (fun _ _ z=>z) (fun h' u tk kp=>?_) sz
 have I3:=I2.kept (t':=tk) kp
 have le:(a++d.shown).length<=sizeLine:=by
  have:=strLen_append (a++d.shown) b
  omega
 refine⟨le,?_⟩
 refine joinParts_cons (qao (h3 pins _ σ H2 (fun v H'=>v = .str b/\H'=H2) I3 ⟨rfl,rfl⟩) (fun u s4 z=>?_) fun _ _ z=>z)
 obtain⟨v,H4,I4,r4,rfl,rfl⟩:=z
 obtain⟨t,rfl⟩:∃ t,u=Value.str b t:=r4
 exact⟨rH,joinParts_nil ⟨.str (a++d.shown++b),_,I4.tok _,⟨_,rfl⟩,q⟩ rH⟩
end
end L2
namespace Dv
open PySem L2 Ex
variable[KC]
section
variable{X:Cx}{EE:aT}{ios:List Addr}{k:Nat}
def q_(a b:Str)(d:D):Option RV:=if GC d=true/\pN d=true/\cd ((a++d.py.shown++b).length<=sizeLine)=true then some (.val (.str (a++d.py.shown++b))) else none
def wM(a b:Str)(f:M RV):M RV:=M.bind f fun rv=>M.bind (peek rv) fun d=>M.cx (q_ a b d)
theorem P7{a b:Str}{e1 e e3:Expr}{f:M RV}{p pos:Pos}(hr:aj k X.A)(sm:tQ X.K)(h1:PE X e1 (tC (.str a)))(he:VE X EE ios e f)(h3:PE X e3 (tC (.str b)))(ha:a.length<=sizeLine):VE X EE ios (.JoinedStr [e1,.FormattedValue e (-1) none p,e3] pos) (wM a b f):=by
 obtain⟨t,t1,t2⟩:=he
 refine⟨_,P6 hr sm h1 t1 h3 ha,fun σ H R Γ Q er w=>?_⟩
 unfold wM at w
 rw[Zj] at w
 refine t2 σ H R Γ _ er (aG w (fun rx ag w x H1 R1 p1 hx=>?_) fun _ _ z=>z)
 rw[Zj] at w
 obtain⟨d,pd,w⟩:=iD (H:=H) p1.er hx w
 have hv:=pd.hv p1.er.sub
 obtain⟨rv,hg,w⟩:=ij w
 unfold q_ at hg
 split at hg
 · rename_i c
   obtain⟨c1,c2,c3⟩:=c
   cases hg
   have c3:=dR c3
   unfold pN at c2
   simp only[Bool.and_eq_true,decide_eq_true_eq] at c2
   obtain⟨⟨⟨c4,c5⟩,c6⟩,c7⟩:=c2
   have D:=hv.iI c4
   have:∃ l,x = .ref l:=by cases hv<;>first | exact⟨_,rfl⟩ | cases c1
   obtain⟨l,rfl⟩:=this
   exact⟨l,d.py,rfl,D,c5,c6,c7,c3,w _ H1 R1 p1 (.str _)⟩
 · cases hg
end
end Dv
namespace L2
open PySem PySem.W PyProof.Rows Ex
section
variable{X:Cx}{k:Nat}{f C:Addr}{fd:FuncData}{ps:List Str}{sp:Sp}
def P8(C:Addr)(sp:Sp)(ta:TE):TE:=fun σ H Q=>ta σ H fun x H1=>∃ a dx fs,x = .ref a/\H1 a=some (.ins C dx fs)/\A6 sp [x] H1 fun z H'=>Q (.bl (!z)) H'
theorem P9{a:Expr}{ta:TE}{pos:Pos}(c:pP X.K C f)(F:aD X.prog X.w X.K X.mg X.base bZ k f fd ps sp)(hr:aj (k+1) X.A)(hb:Binds X.K fd ps [])(ha:PE X a ta):PE X (.UnaryOp .Not a pos) (P8 C sp ta):=by
 intro pins s σ H Q I h
 refine UnaryOp_ (aI (ha pins s σ H _ I h) fun v s1 zq=>?_)
 obtain⟨x,H1,I1,r1,p,dx,fs,rfl,e,q⟩:=zq
 obtain rfl:v=Value.ref p:=r1
 refine not_of (qao (GO c F hr hb I1 I1.env0 e q) (fun z s2 zq=>?_) fun _ _ z=>z)
 obtain⟨H2,I2,q⟩:=zq
 exact⟨.bl (!z),H2,I2,rfl,q⟩
end
end L2
namespace Dv
open PySem L2 Ex
variable[KC]
section
variable{X:Cx}{EE:aT}{ios:List Addr}{k:Nat}{ps:List Str}{C:Cn}{G:List D->Option Rt}
def t7(C:Cn)(G:List D->Option Rt):D->Option RV
 | .obj C' ns vs=>if cd (C'=C) then (tX (G [.obj C' ns vs])).bind fun n=>if cd (0<=n/\n<2 ^ 63) then some (.val (.bl (!(n != 0)))) else none else none
 | _=>none
def notI(C:Cn)(G:List D->Option Rt)(f:M RV):M RV:=M.bind f fun rv=>M.bind (peek rv) fun d=>M.cx (t7 C G d)
theorem P_{a:Expr}{g:M RV}{pos:Pos}(O:gW C)(Mc:gj X.prog X.w X.mg X.base C "__len__" k ps (aX G))(hr:aj (k+1) X.A)(ha:VE X EE ios a g)(hK:X.K=KC.K:=by rfl):VE X EE ios (.UnaryOp .Not a pos) (notI C G g):=by
 obtain⟨f,fd,hm,F,hb⟩:=Mc
 have h0:=O.nb
 rw[<- hK] at hm F hb h0
 obtain⟨t,h1,h2⟩:=ha
 refine⟨_,P9 (C:=KC.cls C) ⟨⟨hm.at_,hm.fn⟩,h0⟩ F hr hb h1,fun σ H R Γ Q er w=>?_⟩
 unfold notI at w
 rw[Zj] at w
 refine h2 σ H R Γ _ er (aG w (fun rx ag w x H1 R1 p1 hx=>?_) fun _ _ z=>z)
 rw[Zj] at w
 obtain⟨d,pd,w⟩:=iD (H:=H) p1.er hx w
 obtain⟨rv,hg,w⟩:=ij w
 unfold t7 at hg
 split at hg
 · split at hg
   · rename_i c
     have c:=dR c
     subst c
     obtain⟨n,hn,hg⟩:=qbO.mp hg
     split at hg
     · rename_i b
       have b:=dR b
       cases hg
       obtain⟨p,dx,fs,rfl,e⟩:=pd.obj.ins
       refine⟨p,dx,fs,rfl,p1.er.sub _ _ e,R1,_,p1.er.sub,.cons pd.obj .nil,?_⟩
       rw[Bb hn]
       exact fun z H' R' al ra=>⟨n,by cases ra;rfl,b.1,b.2,w _ H' R' (p1.al al) (.bl _)⟩
     · cases hg
   · cases hg
 · cases hg
end
section
variable{X:Cx}{EE:aT}{ios:List Addr}{J:Nat->Prop}{e c iter tg:Expr}{f:M RV}{p:M Bool}{s s':M Fl}{st:Stmt}{sts dB:List Stmt}{pos:Pos}
def mV(J:Nat->Prop)(ios:List Addr)(R H:Hp)(σ:St)(Γ:En)(D:Ends):Fl->En->Prop:=fun fl Γ'=>∀ ax H' R',bt ios R H σ Γ R' H' ax Γ'->(∀ k,J k->ax[k]? = σ[k]?)->match fl with
 | .nx=>D.nx ax H'
 | .brk=>D.bk ax H'
 | .cont=>D.ct ax H'
 | .ret rv=>∀ x,dQ R' H H' ax x rv->D.rt x H'
def wN(J:Nat->Prop)(EE:aT)(ios:List Addr)(t:TS)(f:M Fl):Prop:=∀ σ H R Γ D,ER ios R H σ Γ->br (f Γ) (mV J ios R H σ Γ D) (d9 EE ios R H σ Γ)->t D σ H
def t8(J:Nat->Prop)(X:Cx)(EE:aT)(ios:List Addr)(st:Stmt)(f:M Fl):Prop:=∃ t,PS X st t/\wN J EE ios t f
def t9(J:Nat->Prop)(X:Cx)(EE:aT)(ios:List Addr)(st:List Stmt)(f:M Fl):Prop:=∃ t,PSs X st t/\wN J EE ios t f
theorem mV.trans{D:Ends}{R H R1 H1:Hp}{σ eS:St}{Γ ag:En}(p1:bt ios R H σ Γ R1 H1 eS ag)(k1:∀ k,J k->eS[k]? = σ[k]?){fl:Fl}{aq:En}(w:mV J ios R H σ Γ D fl aq):mV J ios R1 H1 eS ag D fl aq:=fun cn H2 R2 p2 k2=>by
 have:=w cn H2 R2 (p1.trans p2) fun k hk=>(k2 k hk).trans (k1 k hk)
 cases fl with
 |nx=>exact this
 |brk=>exact this
 |cont=>exact this
 |ret rv=>exact fun x hx=>this x (qA p1.back hx)
theorem Qa:t9 J X EE ios [] (M.pure .nx):=⟨_,xR,fun σ H R Γ D er w=>w σ H R (bt.refl er) fun _ _=>rfl⟩
theorem G1(h:t8 J X EE ios st s):t9 J X EE ios [st] s:=let ⟨_,h1,h2⟩:=h; ⟨_,n_ h1,h2⟩
theorem Qb(h:VE X EE ios e f):t8 J X EE ios (.Return (some e) pos) (bN f):=by
 obtain⟨t,h1,h2⟩:=h
 refine⟨_,CL h1,fun σ H R Γ D er w=>?_⟩
 unfold bN at w
 rw[Zj] at w
 exact h2 σ H R Γ _ er (aG w (fun rv ag w x H1 R1 p1 hx=>w σ H1 R1 p1.dA (fun _ _=>rfl) x hx) fun _ _ z=>z.exp)
theorem Qc(hc:VT X EE ios c p)(h:t9 J X EE ios sts s)(h':t9 J X EE ios dB s'):t8 J X EE ios (.If c sts dB pos) (cp p s s'):=by
 obtain⟨_,h0,h0'⟩:=hc
 obtain⟨t,h1,h2⟩:=h
 obtain⟨u,h3,h4⟩:=h'
 refine⟨_,xS h0 h1 h3,fun σ H R Γ D er w=>?_⟩
 unfold cp at w
 rw[Zj] at w
 refine h0' σ H R Γ _ er (aG w (fun b ag w H1 R1 p1=>?_) fun _ _ z=>z.exp)
 have go:∀ fl aq,mV J ios R H σ Γ D fl aq->mV J ios R1 H1 σ ag D fl aq:=fun fl aq w=>w.trans p1.dA fun _ _=>rfl
 cases b with
 |true=>exact oB (h2 σ H1 R1 ag D p1.er (aG w go fun _ _ z=>d9.trans p1.dA z))
 |false=>exact oA (h4 σ H1 R1 ag D p1.er (aG w go fun _ _ z=>d9.trans p1.dA z))
def t_(J:Nat->Prop)(ios:List Addr)(g:TG)(m:D->M Unit):Prop:=∀ σ H R Γ v d (Q:St->Hp->Prop),ER ios R H σ Γ->Rp R v d ->
 br (m d Γ) (fun _ Γ'=>∀ ax H' R',bt ios R H σ Γ R' H' ax Γ'->(∀ k,J k->ax[k]? = σ[k]?)->ae R R'->Q ax H') oZ->g v σ H Q
def wO(J:Nat->Prop)(ios:List Addr)(g:i_)(m:List D->M Unit):Prop:=∀ σ H R Γ vs ds (Q:St->Hp->Prop),ER ios R H σ Γ->aw R vs ds ->
 br (m ds Γ) (fun _ Γ'=>∀ ax H' R',bt ios R H σ Γ R' H' ax Γ'->(∀ k,J k->ax[k]? = σ[k]?)->ae R R'->Q ax H') oZ->g vs σ H Q
theorem G2{i:Nat}(h:∀ k,J k->k≠i):t_ J ios (ja i) (gN i):=fun σ H R Γ v d Q er hv w =>
 w _ H R (bt.set er (aQ.refl er) (s:=(.ai,d)) hv fun z=>by cases z) (fun k hk=>qai (qaT (h k hk))) (ae.refl _)
theorem Qd:wO J ios qb eK:=fun σ H R Γ vs ds Q er hv w=>by
 cases hv with
 |nil=>exact⟨rfl,w σ H R (bt.refl er) (fun _ _=>rfl) (ae.refl _)⟩
 |cons _ _=>exact False.elim w
theorem G3{g:TG}{gs:i_}{m:D->M Unit}{ms:List D->M Unit}(h:t_ J ios g m)(h':wO J ios gs ms):wO J ios (nh g gs) (bJ m ms):=fun σ H R Γ vs ds Q er hv w=>by
 cases hv with
 |nil=>exact False.elim w
 |cons h1 h2 =>
   refine⟨_,_,rfl,?_⟩
   unfold bJ at w
   rw[Zj] at w
   refine h σ H R Γ _ _ _ er h1 (aG w (fun _ ag w eS H1 R1 p1 k1 s1=>?_) fun _ _ z=>z)
   exact h' eS H1 R1 ag _ _ _ p1.er (h2.sm s1) (aG w (fun _ aq w cn H2 R2 p2 k2 s2=>w cn H2 R2 (p1.trans p2) (fun k hk=>(k2 k hk).trans (k1 k hk)) (s1.trans s2)) fun _ _ z=>z)
theorem Qe{n:Nat}{K:W.Frag}{gs:i_}{ms:List D->M Unit}(h:wO J ios gs ms):t_ J ios (qd K n gs) (gT n ms):=fun σ H R Γ v d Q er hv w=>by
 unfold gT at w
 split at w
 · split at w
   · rename_i hn
     cases hv with
     |tup e q=>exact⟨_,_,rfl,b9.of (er.sub _ _ e),by rw[q.len];exact hn,h σ H R Γ _ _ Q er q w⟩
   · exact False.elim w
 · exact False.elim w
theorem Qf{wi:TI}{gt:TG}{tb:TS}{items:M (List D)}{m:D->M Unit}(hi:qD EE ios wi items)(hg:t_ J ios gt m)(hb:wN J EE ios tb s):wN J EE ios (rT wi gt tb) (forM items m s):=by
 intro σ H R Γ D er w
 unfold forM at w
 rw[Zj] at w
 refine hi σ H R Γ _ er (aG w (fun ds ag w Jt H1 R1 p1 hJ=>?_) fun _ _ z=>z.exp)
 refine⟨fun i m' cn H2=>m'=ds.length - i/\i<=ds.length/\∃ R2 aq,bt ios R H σ Γ R2 H2 cn aq/\ae R1 R2/\(∀ k,J k->cn[k]? = σ[k]?)/\br (gK m s (ds.drop i) aq) (mV J ios R H σ Γ D) (d9 EE ios R H σ Γ),⟨ds.length,rfl,qbp _,R1,ag,p1.dA,ae.refl _,fun _ _=>rfl,w⟩,?_⟩
 rintro i m' cn H2 ⟨rfl,hi',R2,aq,p2,s2,k2,w⟩
 obtain⟨go,stop⟩:=hJ i H2 R2 s2 p2.er.sub
 by_cases hlt:i<ds.length
 · have hd:ds[i]? = some ds[i]:=qae hlt
   obtain⟨g1,g2⟩:=go _ hd
   rw[qaQ hlt] at w
   have w:br (o7 m s (gK m s (ds.drop (i+1))) ds[i] aq) (mV J ios R H σ Γ D) (d9 EE ios R H σ Γ):=w
   unfold o7 at w
   rw[Zj] at w
   refine .inr ⟨g1,fun iP H3=>∃ R3 ik,bt ios R H σ Γ R3 H3 iP ik/\ae R1 R3/\(∀ k,J k->iP[k]? = σ[k]?)/\br (gK m s (ds.drop (i+1)) ik) (mV J ios R H σ Γ D) (d9 EE ios R H σ Γ),?_,fun x H3 hx=>?_⟩
   · rintro iP H3 ⟨R3,ik,q1,q2,q4,q3⟩
     exact⟨_,by omega,rfl,hlt,R3,ik,q1,q2,q4,q3⟩
   · obtain⟨R3,al,rx⟩:=g2 x H3 hx
     have o8:ER ios R3 H3 cn aq:=p2.er.al al
     have p3:bt ios R H σ Γ R3 H3 cn aq:=⟨o8,p2.go.trans al.go⟩
     refine hg cn H3 R3 aq x _ _ o8 rx (aG (mw w) (fun _ jK w cW H4 R4 p4 k4 s4=>?_) fun _ _ z=>z)
     rw[Zj] at w
     have o9:=p3.trans p4
     have Qg:∀ k,J k->cW[k]? = σ[k]? := fun k hk=>(k4 k hk).trans (k2 k hk)
     refine hb cW H4 R4 jK _ p4.er (aG w (fun fl sS w qE H5 R5 p5 k5=>?_) fun _ _ z=>d9.trans o9 z)
     have p35:=o9.trans p5
     have wQ:∀ k,J k->qE[k]? = σ[k]? := fun k hk=>(k5 k hk).trans (Qg k hk)
     have s5:ae R1 R5:=((s2.trans al.rr).trans s4).trans p5.go.rr
     cases fl with
     |nx=>exact⟨R5,sS,p35,s5,wQ,w⟩
     |cont=>exact⟨R5,sS,p35,s5,wQ,w⟩
     |brk=>exact w qE H5 R5 p35 wQ
     |ret rv=>exact fun y hy=>w qE H5 R5 p35 wQ y (qA o9.back hy)
 · have e:ds.drop i=[]:=qaZ (by omega)
   rw[e] at w
   exact .inl ⟨stop (by omega),w cn H2 R2 p2 k2⟩
theorem Qh{gt:TG}{items:M (List D)}{m:D->M Unit}(hi:VI X EE ios tg iter items)(hr:t_ J ios gt m)(hb:t9 J X EE ios sts s)
 (hps:∀ wi tb,PI X tg iter wi->PSs X sts tb->PS X (.For tg iter sts [] pos) (rT wi gt tb)):t8 J X EE ios (.For tg iter sts [] pos) (forM items m s) :=
 let ⟨_,h1,h2⟩:=hi;let ⟨_,h3,h4⟩:=hb; ⟨_,hps _ _ h1 h3,Qf h2 hr h4⟩
def wipe(js:List Nat)(Γ:En):En:=Γ.zipIdx.map fun p=>if p.2∈js then none else p.1
theorem Qi{js:List Nat}{Γ:En}:(wipe js Γ).length=Γ.length:=by unfold wipe;simp
theorem wR{js:List Nat}{Γ:En}{j:Nat}{t:Kd×D}(h:(wipe js Γ)[j]? = some (some t)):j ∉ js/\Γ[j]? = some (some t):=by
 unfold wipe at h
 rw[qaE,List.getElem?_zipIdx] at h
 cases q:Γ[j]? with
 |none=>rw[q] at h;cases h
 |some u =>
   rw[q] at h
   simp only[Option.map_some,Nat.zero_add,Option.some.injEq] at h
   split at h
   · cases h
   · rename_i hn
     exact⟨hn,by rw[h]⟩
theorem G4{js:List Nat}{σ ax:St}{H R H' R':Hp}{Γ Γ':En}(er:ER ios R H σ Γ)(p:bt ios (lent (Ow σ Γ) R H) H σ (hid Γ) R' H' ax Γ')(hk:∀ k,k ∉ js->ax[k]? = σ[k]?)(hl:Γ'.length=Γ.length):bt ios R H σ Γ (cT (Ow σ Γ) R') H' ax (wipe js Γ):=by
 have un:∀ b, ¬ Ow σ Γ b->cT (Ow σ Γ) R' b=R' b:=fun b z=>by unfold cT;rw[if_neg z]
 have un':∀ b,Ow σ Γ b->cT (Ow σ Γ) R' b=none:=fun b z=>by unfold cT;rw[if_pos z]
 have s1:ae R (lent (Ow σ Γ) R H):=zG fun b z=>(er.ow z).1
 have no:∀ b,R b=none -> ¬ Ow σ Γ b->lent (Ow σ Γ) R H b=none:=fun b hb nb=>by unfold lent;rw[if_neg nb];exact hb
 have hh:∀ b o,H b=some o->H' b=some o:=fun b o h=>p.go.hh b o h Gr
 have rr:ae R (cT (Ow σ Γ) R'):=fun b o z=>by
  rw[un b fun q=>by rw[(er.ow q).1] at z;cases z]
  exact p.go.rr b o (s1 b o z)
 refine⟨⟨fun b o z=>?_,by rw[Qi, <- hl];exact p.er.len,fun j t hj=>?_,fun j j' l l' d d' b q1 q2 q3 q4 q5 q6=>?_⟩,⟨rr,fun b o h _=>hh b o h,fun b o h nb rb=>?_,fun b z=>.inl ?_,fun b o h=>⟨o,hh b o h⟩⟩⟩
 · by_cases nb:Ow σ Γ b
   · rw[un' b nb] at z;cases z
   · rw[un b nb] at z;exact p.er.sub b o z
 · obtain⟨hj1,hj2⟩:=wR hj
   obtain⟨v,hv,q⟩:=er.sl j t hj2
   refine⟨v,by rw[hk j hj1];exact hv,q.mono rr fun ho a xs e h1 h2=>⟨hh a _ h1,un' a ?_⟩⟩
   subst e
   exact⟨j,t.1,t.2,hj2,ho,hv⟩
 · obtain⟨a1,a2⟩:=wR q1
   obtain⟨b1,b2⟩:=wR q3
   rw[hk j a1] at q5
   rw[hk j' b1] at q6
   exact er.dj j j' l l' d d' b a2 q2 b2 q4 q5 q6
 · rw[un b nb]
   exact p.go.no b o h Gr (no b rb nb)
 · obtain⟨j,l,d,z1,z2,z3⟩:=z
   obtain⟨a1,a2⟩:=wR z1
   rw[hk j a1] at z3
   exact⟨j,l,d,a2,z2,z3⟩
def rd(js:List Nat)(s:M Fl):M Fl:=fun Γ=>match s (hid Γ) with
 | .ok .nx Γ'=>if Γ'.length=Γ.length then .ok .nx (wipe js Γ) else .st
 | .ok (.ret (.val (.bl b))) Γ'=>if Γ'.length=Γ.length then .ok (.ret (.val (.bl b))) (wipe js Γ) else .st
 | _=>.st
theorem Qj{js:List Nat}(h:t8 (fun k=>k ∉ js) X EE ios st s):VS X EE ios st (rd js s):=by
 obtain⟨t,h1,h2⟩:=h
 refine⟨t,h1,fun σ H R Γ D er w=>?_⟩
 unfold rd at w
 refine h2 σ H _ _ D (OO er) ?_
 split at w
 · rename_i Γ' q
   rw[q]
   split at w
   · rename_i hl
     exact lF fun ax H' R' p k=>nE w ax H' _ (G4 er p k hl)
   · exact False.elim w
 · rename_i b Γ' q
   rw[q]
   split at w
   · rename_i hl
     refine lF fun ax H' R' p k x hx=>nE w ax H' _ (G4 er p k hl) x ?_
     have hx:Rp R' x (.bl b):=hx
     cases hx
     exact .bl b
   · exact False.elim w
 · exact False.elim w
end
end Dv
namespace cq
open PySem L2 Ex Dv
abbrev kI(i:Int):M RV:=M.pure (.val (.int i))
abbrev kS(x:Str):M RV:=M.pure (.val (.str x))
abbrev kB(b:Bool):M RV:=M.pure (.val (.bl b))
abbrev kN:M RV:=M.pure (.val .av)
abbrev m0:M (List RV):=M.pure []
abbrev mX:M Fl:=M.pure .nx
def Bg:Nat:=100000
def G5:List Cn:=[.NoPoints,.NoPoint,.TooMany]
def Bh  : M Fl :=
 (bN (iG (jk (F_ (wF (ZS 0)) [] 2 (gT 2 (bJ (gN 0) (bJ (gN 1) eK))) (M.pure true) (kh (ah (ZS 1) (ah (ZS 0) m0))))) [] 2 (gT 2 (bJ (gN 0) (bJ (gN 1) eK))) (M.pure true) (kh (ah (ZS 1) (ah (ZS 0) m0)))))
def Bj  : M Fl :=
 (bN (iS (oW .int (ZS 0)) (iS (vd (jL (M.bind (oW .bool (ZS 0)) aY))) (sx ze ze (kI 0) (ZS 0) (kI 30)))))
def Bk(lM:List D->Option Rt):M Fl :=
 (bN (iS (oW .tuple (ZS 0)) (iS (op2 gz (bB gf (ah (ZS 0) m0)) (kI 2)) (iS (ip lM (ah (op2 gA (ZS 0) (kI 0)) m0)) (ip lM (ah (op2 gA (ZS 0) (kI 1)) m0))))))
def Bl(fJ:List D->Option Rt):M Fl :=
 (aU (cp (orM (jL (M.bind (tL (ZS 0)) aY)) (M.bind (op2 sE (bB gf (ah (ZS 0) m0)) (kI 200)) aY))
 (nK .NoPoints ["number"] (ah kN m0))
 mX)
 (forM (tT (ah (ZS 0) m0)) (gT 2 (bJ (gN 1) (bJ (gN 2) eK)))
 (cp (jL (M.bind (ip fJ (ah (ZS 2) m0)) aY))
 (nK .NoPoints ["number"] (ah (ZS 1) m0))
 mX)))
def wU(e_:List D->Option Rt)(eP:List D->Option Rx):M Fl :=
 (cp (M.bind (op2 vi (ZS 1) kN) aY) (cL 1 (aO m0)) mX)
def wV(e_:List D->Option Rt)(eP:List D->Option Rx):M Fl :=
 (kn (qL eP (ah (ZS 1) m0)))
def wW(e_:List D->Option Rt)(eP:List D->Option Rx):M RV :=
 (ip e_ (ah (ZS 1) m0))
def wX  : M Fl :=
 (bN (iS (t5 .Points (ZS 1)) (op2 gz (kF .Points "held" (ZS 0)) (kF .Points "held" (ZS 1)))))
def Bm  : M Fl :=
 (bN (bB gf (ah (kF .Points "held" (ZS 0)) m0)))
def Bn  : M Fl :=
 (bN (wM "Points(" ")" (kF .Points "held" (ZS 0))))
def Bo(fJ:List D->Option Rt):M Fl :=
 (bN (iS (ip fJ (ah (ZS 1) m0)) (op2 wo (ZS 1) (kF .Points "held" (ZS 0)))))
def Bp(bG:List D->Option Rx)(mW:List D->Option Rt):M Fl :=
 (aU (cp (jL (M.bind (tM .Points "has" mW (ZS 0) (ah (ZS 1) m0)) aY))
 (nK .NoPoint ["point"] (ah (ZS 1) m0))
 mX)
 (bN (cZ bG (ah (iG (jk (kF .Points "held" (ZS 0))) [1] 1 (gN 0) (M.bind (op2 bI (ZS 0) (ZS 1)) aY) (ZS 0)) m0))))
def Bq(bG:List D->Option Rx)(e_:List D->Option Rt)(eP:List D->Option Rx):M Fl :=
 (aU (kn (qL eP (ah (ZS 1) m0)))
 (aU (cL 2 (ip e_ (ah (op2 eJ (kF .Points "held" (ZS 0)) (bB vo (ah (ZS 1) m0))) m0)))
 (aU (cp (M.bind (op2 sE (bB gf (ah (ZS 2) m0)) (kI 200)) aY)
 (nK .TooMany ["many"] (ah (bB gf (ah (ZS 2) m0)) m0))
 mX)
 (bN (cZ bG (ah (ZS 2) m0))))))
def wY  : M Fl :=
 (aU (cp (M.bind (op2 sE (op2 gA (ZS 0) (kI 0)) (kI 0)) aY)
 (aU (cL 2 (op2 mh (op2 gA (ZS 0) (kI 0)) (ZS 1)))
 (aU (qC (gS 0 (kI 0)) (op2 vh (op2 gA (ZS 0) (kI 0)) (ZS 1)))
 (bN (ZS 2))))
 mX)
 (aU (qC (gS 0 (kI 1)) (op2 mh (op2 eJ (op2 ly (op2 gA (ZS 0) (kI 1)) (kI 48271)) (kI 11)) (kI 2147483647)))
 (bN (op2 mh (op2 vh (op2 mh (op2 ly (op2 gA (ZS 0) (kI 1)) (op2 gA (ZS 0) (kI 1))) (kI 2147483629)) (kI 64)) (ZS 1)))))
def Br(fK:GI):M Fl :=
 (bN (kh (ah (jn fK (ah (ZS 0) (ah (ZS 1) m0))) (ah (jn fK (ah (ZS 0) (ah (ZS 2) m0))) m0))))
def wZ  : M Fl :=
 (aU (cp (M.bind (op2 zc (ZS 1) (bB gf (ah (ZS 0) m0))) aY)
 (bN (op2 gA (ZS 0) (ZS 1)))
 mX)
 (bN (kI 0)))
def w6(lN:List D->Option Rt):M Fl :=
 (aU (cL 2 (ip lN (ah (ZS 0) (ah (ZS 1) m0))))
 (aU (cL 3 (op2 mh (op2 ly (op2 eJ (op2 eJ (op2 eJ (op2 mh (ZS 2) (kI 2147483629)) (op2 ly (op2 ly (kI 7919) (ZS 1)) (ZS 1))) (op2 ly (kI 104729) (ZS 1))) (kI 1)) (kI 48271)) (kI 2147483647)))
 (aU (cp (M.bind (op2 zc (ZS 2) (op2 zf (kI 10) (kI 18))) aY)
 (cL 2 (kI 0))
 mX)
 (bN (aO (ah (ZS 2) (ah (op2 mh (op2 ly (ZS 3) (ZS 3)) (kI 2147483629)) m0)))))))
def Bt  : M Fl :=
 (bN (iG (jk (bB wC (ah (iG (jk (ZS 0)) [] 2 (gT 2 (bJ (gN 0) (bJ (gN 1) eK))) (M.pure true) (kh (ah (ZS 1) (ah (ZS 0) m0)))) m0))) [] 2 (gT 2 (bJ (gN 0) (bJ (gN 1) eK))) (M.pure true) (kh (ah (ZS 1) (ah (ZS 0) m0)))))
def Bu(bG:List D->Option Rx)(ZY:List D->Option Rt)(gC:List D->Option Rt)(fL:List D->Option Rt)(kK:List D->Option Rx)(kM:List D->Option Rx)(jT:GI)(jU:List D->Option Rt)(kQ:List D->Option Rt)(fK:GI):M Fl :=
 (aU (cL 1 (aO m0))
 (aU (cL 2 (aO m0))
 (aU (forM (o6 (ah (bB sH (ah (kI 1) (ah (bB sI (ah (kI 8) (ah (bB gf (ah (ZS 0) m0)) m0))) m0))) m0)) (gN 3)
 (aU (cL 4 (ip jU (ah (ZS 0) (ah (ZS 3) m0))))
 (aU (cL 5 (op2 eJ (kI 2) (jn fK (ah (ZS 4) (ah (kI 4) m0)))))
 (aU (cL 6 (iG (o6 (ah (jn fK (ah (ZS 4) (ah (kI 13) m0))) m0)) [4,5] 1 (gN 0) (M.pure true) (jn jT (ah (ZS 1) (ah (ZS 2) (ah (ZS 2) m0))))))
 (aU (cL 7 (ip kQ (ah (ZS 6) m0)))
 (aU (cL 8 (cZ bG (ah (ZS 6) m0)))
 (aU (cL 9 (aO (ah (cZ bG (ah (mv (qz (-1)) (ZS 6) (M.pure none) (M.pure none)) m0)) (ah (cZ bG (ah (bB nA (ah (op2 eJ (ZS 6) (ZS 6)) m0)) m0)) (ah (cZ bG (ah (ZS 7) m0)) (ah (nP .Points "more" kM (cZ bG (ah (ZS 7) m0)) (ah (aO m0) m0)) m0))))))
 (aU (cp (orM (M.bind (op2 bI (iG (jk (ZS 9)) [8] 1 (gN 0) (M.pure true) (op2 (iZ .Points ZY) (ZS 0) (ZS 1))) (op2 pC (aO (ah (kB true) m0)) (kI 4))) aY) (M.bind (op2 bI (iG (jk (ZS 9)) [8] 1 (gN 0) (M.pure true) (op2 (lK .Points ZY) (ZS 0) (ZS 1))) (op2 pC (aO (ah (kB false) m0)) (kI 4))) aY))
 (bN (kB false))
 mX)
 (aU (kn (oX 1 nD (ah (ZS 8) m0)))
 (aU (kn (oX 2 nD (ah (ZS 7) m0)))
 (aU (rd [10,11] (forM (nR (ah (ZS 1) (ah (ZS 2) m0))) (gT 2 (bJ (gN 10) (bJ (gN 11) eK)))
 (cp (orM (M.bind (op2 bI (op2 (iZ .Points ZY) (ZS 8) (ZS 10)) (op2 gz (ZS 7) (ZS 11))) aY) (M.bind (op2 bI (op2 (lK .Points ZY) (ZS 8) (ZS 10)) (op2 bI (ZS 7) (ZS 11))) aY))
 (bN (kB false))
 mX)))
 (aU (cp (andM (M.bind (op2 bI (ZS 7) (aO m0)) aY) (M.bind (op2 (iZ .Points ZY) (ZS 8) (nP .Points "less" kK (ZS 8) (ah (op2 gA (ZS 7) (kI 0)) m0))) aY))
 (bN (kB false))
 mX)
 (aU (cp (andM (M.bind (op2 bI (ZS 7) (aO m0)) aY) (M.bind (op2 (lL .Points ZY) (ZS 8) (aO (ah (cZ bG (ah (mv sJ (ZS 7) (M.bind (kI 1) sL) (M.pure none)) m0)) (ah kN (ah (ZS 7) m0))))) aY))
 (bN (kB false))
 mX)
 (aU (cp (orM (M.bind (op2 (q9 .Points ZY) (ZS 8) (aO (ah kN (ah (cZ bG (ah (ZS 7) m0)) m0)))) aY) (M.bind (op2 (lL .Points ZY) (ZS 8) (aO (ah (ZS 7) (ah (bB nA (ah (ZS 7) m0)) (ah kN (ah (bB (iY .Points fL) (ah (ZS 8) m0)) m0)))))) aY))
 (bN (kB false))
 mX)
 (aU (cp (orM (M.bind (op2 (lL .Points ZY) (ZS 8) (aO (ah (bB gf (ah (ZS 7) m0)) (ah (aO (ah (ZS 8) m0)) m0)))) aY) (M.bind (op2 bI (bB (qZ .Points gC) (ah (ZS 8) m0)) (bB gf (ah (ZS 7) m0))) aY))
 (bN (kB false))
 mX)
 (aU (cp (M.bind (op2 bI (bB (q8 .Points gC) (ah (ZS 8) m0)) (op2 bI (ZS 7) (aO m0))) aY)
 (bN (kB false))
 mX)
 (cp (orM (M.bind (op2 bI (bB (iY .Points fL) (ah (ZS 8) m0)) (op2 eJ (op2 eJ (kS "Points(") (bB tR (ah (ZS 7) m0))) (kS ")"))) aY) (M.bind (op2 bI (bB (iY .Points fL) (ah (ZS 8) m0)) (bB (iY .Points fL) (ah (ZS 8) m0))) aY))
 (bN (kB false))
 mX)))))))))))))))))
 (bN (iS (op2 gz (bB (iY .Points fL) (ah (cZ bG (M.pure [.val .av])) m0)) (kS "Points([])")) (iS (op2 (iZ .Points ZY) (cZ bG (M.pure [.val .av])) (cZ bG (ah (aO m0) m0))) (notI .Points gC (cZ bG (M.pure [.val .av])))))))))
def e_:List D->Option Rt:=dC 1 ["points"] (Bh )
def lM:List D->Option Rt:=dC 1 ["thing"] (Bj )
def fJ:List D->Option Rt:=dC 1 ["thing"] (Bk lM)
def eP:List D->Option Rx:=nJ 1 ["thing","number","point"] (Bl fJ)
def bG:List D->Option Rx:=runN .Points "held" 1 ["points"] (wU e_ eP) (wV e_ eP) (wW e_ eP)
def ZY:List D->Option Rt:=dC 2 ["self","other"] (wX )
def gC:List D->Option Rt:=dC 1 ["self"] (Bm )
def fL:List D->Option Rt:=dC 1 ["self"] (Bn )
def mW:List D->Option Rt:=dC 2 ["self","point"] (Bo fJ)
def kK:List D->Option Rx:=nJ 2 ["self","point"] (Bp bG mW)
def kM:List D->Option Rx:=nJ 2 ["self","points","together"] (Bq bG e_ eP)
def fK:GI:=pq 2 ["_law_pool_here","_law_many","_law_found"] (wY )
def jT:GI:=pq 3 ["_law_pool_here","_law_keys","_law_moments"] (Br fK)
def lN:List D->Option Rt:=dC 2 ["_law_script","_law_k"] (wZ )
def jU:List D->Option Rt:=dC 2 ["_law_script","_law_k","_law_cell","_law_seed"] (w6 lN)
def kQ:List D->Option Rt:=dC 1 ["_law_spots"] (Bt )
def ua:List D->Option Rt:=dC 1 ["_law_script","_law_kept","_law_rows","_law_k","_law_pool_here","_law_wide","_law_points","_law_spots","_law_made","_law_same","_law_other","_law_row"] (Bu bG ZY gC fL kK kM jT jU kQ fK)
end cq
namespace Tr
open PySem L2 Ex Dv
theorem line:20000<=sizeLine:=by decide
theorem Bv{α:Type}(f:α->D):∀ xs:List α,D.cy (xs.map f)=xs.map fun x=>(f x).py
 | []=>rfl
 |x::r=>by simp[D.cy,Bv f r]
theorem Qk{ds:List PyData}(h:∀ d∈ds,d.canLay0=true):PyData.canLayAll0 ds=true:=by
 induction ds with
 |nil=>rfl
 |cons d r ih=>simp[PyData.canLayAll0,h d (by simp),ih fun x hx=>h x (by simp[hx])]
theorem Ql{ds:List PyData}{n:Nat}(h:∀ d∈ds,d.depth<=n):PyData.depthAll ds<=n:=by
 induction ds with
 |nil=>simp[PyData.depthAll]
 |cons d r ih=>have:=h d (by simp);have:=ih fun x hx=>h x (by simp[hx]);simp[PyData.depthAll];omega
theorem Qm{d:D}(h:cX d=true):eqB d d=true:=SeqAt.eqv_refl _ (SeqAt.canLay_of_shaped h)
theorem Qn{d e:D}(h:∀ x,d ≠ .str x):gz d e=qu d e:=by
 unfold gz
 split
 · exact absurd rfl (h _)
 · rfl
theorem Qo{d e:D}(h:∀ x,d ≠ .str x):bI d e=sC d e:=by
 unfold bI
 split
 · exact absurd rfl (h _)
 · rfl
theorem Qp{d:D}(h:cX d=true):gz d d=some (.val (.bl true)):=by
 unfold gz
 split
 · simp
 · unfold qu;rw[h,Qm h];rfl
theorem Qq(ns:List Int):gM (ns.map D.int)=true:=by
 induction ns with
 |nil=>rfl
 |cons t r ih=>simp[gM,jO,ih]
@[simp] theorem w_{ns:List Int}:gO (.new (.lst (ns.map D.int)))=true:=Qq ns
@[simp] theorem ub{n:Int}:gO (.val (.int n))=true:=rfl
@[simp] theorem xa{n:Bool}:gO (.val (.bl n))=true:=rfl
@[simp] theorem uc:gO (.val .av)=true:=rfl
end Tr
namespace cq
open PySem L2 Ex Dv Tr St So
theorem G6(i:Int):lM [.int i]=some (.val (.bl (decide (0<=i) && decide (i<=30)))):=by
 by_cases h:0<=i<;>by_cases h':i<=30<;>simp[lM,Bj,dC,b7,gam,jj,h,h']
theorem Qr(i j:Int):gz (.int i) (.int j)=some (.val (.bl (decide (i=j)))):=by
 have:eqB (.int i) (.int j)=decide (i=j):=by show(i == j)=_;by_cases h:i=j<;>simp[h]
 rw[Qn (by intro x z;cases z)]
 unfold qu;rw[this];rfl
theorem Qs{α:Type}(xs:List α)(n:Nat):km xs (some (n:Int)) none=xs.drop n:=by
 unfold km
 rw[HT.lU]
 simp[HT.fC]
 by_cases h:n<=xs.length
 · rw[Nat.min_eq_left h,qbC (by rw[qa9];omega)]
 · rw[Nat.min_eq_right (by omega),qaZ (by omega:xs.length<=n)];simp
abbrev pl(c s:Int):List D:=[.int c,.int s]
def Sd(s:Int):Prop:=0<=s/\s<2147483648
theorem Bw(a b:D):L2.cw [a,b] 0=some a:=rfl
theorem Bx(a b:D):L2.cw [a,b] 1=some b:=rfl
theorem G7:L2.iw 2 0=some 0:=rfl
theorem G8:L2.iw 2 1=some 1:=rfl
theorem xb{c s m:Int}(h:Sd s)(hm:0<m)(hm2:m<1073741824):∃ x c' s',fK (pl c s) [.int m]=some (.val (.int x),pl c' s')/\(0<=x/\x<m)/\Sd s':=by
 obtain⟨h1,h2⟩:=h
 have m1:=pB (i:=s) (j:=48271) (by omega)
 by_cases hc:0<c
 · refine⟨c % m,c / m,s,?_,⟨qbQ _ (by omega),qbu _ hm⟩,h1,h2⟩
   simp[fK,wY,pq,nF,b7,jP,Bw,Bx,G7,G8,hc,hm,hm2]
 · have q1:0<=(s * 48271+11) % 2147483647:=qbQ _ (by decide)
   have q2:(s * 48271+11) % 2147483647<2147483647:=qbu _ (by decide)
   have m2:=pB (i:=(s * 48271+11) % 2147483647) (j:=(s * 48271+11) % 2147483647) (by omega)
   refine⟨(s * 48271+11) % 2147483647 * ((s * 48271+11) % 2147483647) % 2147483629 / 64 % m,c,(s * 48271+11) % 2147483647,?_,⟨qbQ _ (by omega),qbu _ hm⟩,q1,by omega⟩
   simp[fK,wY,pq,nF,b7,jP,Bw,Bx,G7,G8,hc,hm,hm2,m1,m2]
theorem Qt(ns:List Int)(k:Nat)(hk:k<100):∃ c,lN [.bH ns,.int k]=some (.val (.int c)):=by
 by_cases h:k<ns.length
 · refine⟨ns[k],?_⟩
   have a:L2.cw ns (k:Int)=some ns[k]:=KY (qae h)
   simp[lN,wZ,dC,b7,gam,a,h]
 · refine⟨0,?_⟩
   simp[lN,wZ,dC,b7,gam,h]
theorem Qu(ns:List Int)(k:Nat)(hk:k<100):∃ c s,jU [.bH ns,.int k]=some (.new (.lst (pl c s)))/\Sd s:=by
 obtain⟨c,hc⟩:=Qt ns k hk
 have q1:0<=c % 2147483629:=qbQ _ (by decide)
 have q2:c % 2147483629<2147483629:=qbu _ (by decide)
 have k1:=pB (i:=7919) (j:=k) (by omega)
 have k2:oU (7919 * (k:Int)) k=true:=pB (by omega)
 have k3:=pB (i:=104729) (j:=k) (by omega)
 have hkk:(k:Int) * k<=10000:=by
  have:k * k<=100 * 100:=Nat.mul_le_mul (by omega) (by omega)
  exact_mod_cast this
 have hk0:0<=(k:Int) * k:=by exact_mod_cast qbp (k * k)
 have e1:7919 * (k:Int) * k=7919 * ((k:Int) * k):=by rw[Int.mul_assoc]
 have k4:oU (c % 2147483629+7919 * (k:Int) * k+104729 * k+1) 48271=true:=pB (by omega)
 generalize hs:(c % 2147483629+7919 * (k:Int) * k+104729 * k+1) * 48271 % 2147483647=s
 have s1:0<=s:=by rw[<- hs];exact qbQ _ (by decide)
 have s2:s<2147483647:=by rw[<- hs];exact qbu _ (by decide)
 have k5:oU s s=true:=pB (by omega)
 have ln:=line
 have l2:2<=sizeLine:=by omega
 by_cases hd:c<vP
 · refine⟨0,s * s % 2147483629,?_,qbQ _ (by decide),Int.lt_trans (qbu _ (by decide)) (by decide)⟩
   simp[jU,w6,dC,b7,gam,hc,Fv,k1,k2,k3,k4,hs,k5,hd,l2]
 · refine⟨c,s * s % 2147483629,?_,qbQ _ (by decide),Int.lt_trans (qbu _ (by decide)) (by decide)⟩
   simp[jU,w6,dC,b7,gam,hc,Fv,k1,k2,k3,k4,hs,k5,hd,l2]
theorem G9(lo:Int)(n:Nat):(iF lo n).length=n:=by simp[iF]
theorem Qv{lo:Int}{n i:Nat}{d:D}(h:(iF lo n)[i]? = some d):d = .int (lo+i)/\i<n:=by
 unfold iF at h
 rw[qaE] at h
 cases q:(List.range n)[i]? with
 |none=>rw[q] at h;cases h
 |some j =>
   rw[q] at h
   cases h
   obtain⟨h1,h2⟩:=qad.mp q
   rw[List.getElem_range] at h2
   subst h2
   exact⟨rfl,by simpa using h1⟩
theorem i4{s s':M Fl}{Γ ag:En}{r:Res Fl}(h:s Γ = .ok .nx ag)(h':s' ag=r):aU s s' Γ=r:=by rw[zX,h];exact h'
noncomputable def rg(i:Nat)(ds:List D):List D:=(ds.zipIdx i).map fun p=>D.tup [.int p.2,p.1]
theorem Qw(i:Nat)(d:D)(r:List D):rg i (d::r) = .tup [.int i,d]::rg (i+1) r:=rfl
theorem Qx(ds:List D):mz ds=rg 0 ds:=rfl
def ud:D->D
 | .tup [a,b]=>.tup [b,a]
 |d=>d
theorem G_{ds:List D}{Γ:En}(h:∀ d∈ds,∃ a b,d = .tup [a,b]):cS [] 2 (gT 2 (bJ (gN 0) (bJ (gN 1) eK))) (M.pure true) (kh (ah (ZS 1) (ah (ZS 0) (M.pure [])))) ds Γ = .ok (ds.map ud) Γ:=by
 have ln:=line
 have l2:2<=sizeLine:=by omega
 refine ND ud fun d hd=>?_
 obtain⟨a,b,rfl⟩:=h d hd
 refine⟨[some (.ai,a),some (.ai,b)],?_,rfl⟩
 simp[bK,ud,l2]
theorem By:∀ {cs:List (Int×Int)},(∀ c∈cs,bp c)->asP (cs.map pD)=some cs
 | [],_=>rfl
 |c::r,h=>by
   obtain⟨⟨h1,h2⟩,h3,h4⟩:=h c (qaw ..)
   rw[qaV]
   show(if decide (0<=c.1) && decide (c.1<=30) && decide (0<=c.2) && decide (c.2<=30) then (asP (r.map pD)).map (c :: ·) else none)=_
   rw[qay (by simp only[Bool.and_eq_true,decide_eq_true_eq];exact⟨⟨⟨h1,h2⟩,h3⟩,h4⟩),By fun x hx=>h x (qat _ hx)]
   rfl
abbrev sw(cs:List (Int×Int)):List D:=(cs.map pD).map ud
theorem gZ(cs:List (Int×Int)):(sw cs).length=cs.length:=by simp
theorem kR(c:Int×Int)(r:List (Int×Int)):sw (c::r) = .tup [.int c.2,.int c.1]::sw r:=rfl
theorem Ha:∀ cs:List (Int×Int),(sw cs).map ud=cs.map pD
 | []=>rfl
 |c::r=>by rw[kR,qaV,qaV,Ha r];rfl
theorem Qy(cs:List (Int×Int)):∀ d∈cs.map pD,∃ a b,d=D.tup [a,b]:=fun d hd=>by
 obtain⟨c,_,rfl⟩:=qa7.mp hd
 exact⟨_,_,rfl⟩
theorem rh{cs:List (Int×Int)}{d:D}(h:d∈sw cs):∃ c∈cs,d = .tup [.int c.2,.int c.1]:=by
 obtain⟨e,he,rfl⟩:=qa7.mp h
 obtain⟨c,hc,rfl⟩:=qa7.mp he
 exact⟨c,hc,rfl⟩
theorem Qz(cs:List (Int×Int)):∀ d∈sw cs,∃ a b,d=D.tup [a,b]:=fun d hd=>by
 obtain⟨c,_,rfl⟩:=rh hd
 exact⟨_,_,rfl⟩
theorem pQ(cs:List (Int×Int)):(aM cs).length<=cs.length:=by
 rw[(AA cs).length_eq]
 have go:∀ (l σ:List (Int×Int)),(l.foldl PyProof.Rows.step_dedup σ).length<=σ.length+l.length:=by
  intro l
  induction l with
  |nil=>intro σ;simp
  |cons c r ih =>
    intro σ
    rw[List.foldl_cons]
    refine qa2 (ih _) ?_
    unfold PyProof.Rows.step_dedup
    split<;>simp<;>omega
 have:=go cs []
 simpa [tI] using this
theorem rj{cs:List (Int×Int)}(sm:∀ c∈cs,bp c):aM (aM cs)=aM cs :=
 (tJ (cs:=aM cs) (l:=aM cs) (fun c hc=>sm c (bz.mp hc)) (wc cs) (wd cs) fun c=>Iff.rfl).symm
theorem Hb{cs:List (Int×Int)}{Γ:En}:cS [] 2 (gT 2 (bJ (gN 0) (bJ (gN 1) eK))) (M.pure true) (kh (ah (ZS 1) (ah (ZS 0) (M.pure [])))) (sw cs) Γ = .ok (cs.map pD) Γ:=by
 have z:=G_ (Γ:=Γ) (Qz cs)
 rw[Ha] at z
 exact z
theorem Hc{cs:List (Int×Int)}{Γ:En}:cS [] 2 (gT 2 (bJ (gN 0) (bJ (gN 1) eK))) (M.pure true) (kh (ah (ZS 1) (ah (ZS 0) (M.pure [])))) (cs.map pD) Γ = .ok (sw cs) Γ:=G_ (Qy cs)
def Sq(x:D)(ds:List D):Prop:=x = .lst ds\/x = .tup ds
theorem order_eq{x:D}{cs:List (Int×Int)}(hx:Sq x (sw cs))(sm:∀ c∈cs,bp c)(hl:cs.length<=250):e_ [x]=some (.new (.lst (sw (aM cs)))):=by
 have ln:=line
 have l1:(sw cs).length<256:=by rw[gZ];omega
 have l2:((aM cs).map pD).length<sizeLine:=by rw[qaK];have:=pQ cs;omega
 have e1:=fun Γ=>Hb (cs:=cs) (Γ:=Γ)
 have e2:=fun Γ=>Hc (cs:=aM cs) (Γ:=Γ)
 have e3:=By sm
 generalize hS:sw cs=S at *
 generalize hT:sw (aM cs)=T at *
 generalize hP:cs.map pD=P at *
 generalize hQ:(aM cs).map pD=Q at *
 rcases hx with rfl | rfl<;>simp[e_,Bh,dC,b7,gam,l1,e1,e3,hQ,l2,e2]
theorem QA{cs:List (Int×Int)}(sm:∀ c∈cs,bp c)(hl:cs.length<=500):kQ [.lst (sw cs)]=some (.new (.lst (sw (aM cs)))):=by
 have ln:=line
 have l1:(sw cs).length<sizeLine:=by rw[gZ];omega
 have l2:((aM cs).map pD).length<sizeLine:=by rw[qaK];have:=pQ cs;omega
 have e1:=fun Γ=>Hb (cs:=cs) (Γ:=Γ)
 have e2:=fun Γ=>Hc (cs:=aM cs) (Γ:=Γ)
 have e3:wC [.lst (cs.map pD)]=some (.new (.lst ((aM cs).map pD))):=by
  show(asP (cs.map pD)).bind _=_
  rw[By sm]
  show(if cs.length<512 then _ else _)=_
  rw[qay (by omega)]
 generalize hS:sw cs=S at *
 generalize hT:sw (aM cs)=T at *
 generalize hP:cs.map pD=P at *
 generalize hQ:(aM cs).map pD=Q at *
 simp[kQ,Bt,dC,b7,gam,l1,e1,e3,l2,e2]
theorem QB(k i:Int):fJ [.tup [.int k,.int i]]=some (.val (.bl ((decide (0<=k) && decide (k<=30)) && (decide (0<=i) && decide (i<=30))))):=by
 have q:gz (.int 2) (.int 2)=some (.val (.bl true)):=Qp (by decide)
 have k1:=G6 k
 have k2:=G6 i
 generalize (decide (0<=k) && decide (k<=30))=b1 at *
 generalize (decide (0<=i) && decide (i<=30))=b2 at *
 cases b1<;>cases b2<;>simp[fJ,Bk,dC,b7,gam,jj,q,Bw,Bx,k1,k2]
theorem He{c:Int×Int}(h:bp c):fJ [.tup [.int c.2,.int c.1]]=some (.val (.bl true)):=by
 obtain⟨⟨h1,h2⟩,h3,h4⟩:=h
 rw[QB]
 simp[h1,h2,h3,h4]
def xf:M Fl:=(cp (jL (M.bind (ip fJ (ah (ZS 2) (M.pure []))) aY))
 (nK .NoPoints ["number"] (ah (ZS 1) (M.pure [])))
 (M.pure .nx))
theorem QC:Bl fJ=aU (cp (orM (jL (M.bind (tL (ZS 0)) aY)) (M.bind (op2 sE (bB gf (ah (ZS 0) (M.pure []))) (M.pure (.val (.int 200)))) aY))
 (nK .NoPoints ["number"] (ah (M.pure (.val .av)) (M.pure []))) (M.pure .nx)) (forM (tT (ah (ZS 0) (M.pure []))) (gT 2 (bJ (gN 1) (bJ (gN 2) eK))) xf):=rfl
theorem Hf{x0:Sl}:∀ (ds:List D) (i:Nat) (x1 x2:Sl) (r:List D),(∀ d∈ds,fJ [d]=some (.val (.bl true))) ->
 ∃ y1 y2,gK (gT 2 (bJ (gN 1) (bJ (gN 2) eK))) xf (rg i (ds++r)) [x0,x1,x2]=gK (gT 2 (bJ (gN 1) (bJ (gN 2) eK))) xf (rg (i+ds.length) r) [x0,y1,y2]
 | [],i,x1,x2,r,_=>⟨x1,x2,rfl⟩
 |d::ds,i,x1,x2,r,h=>by
   obtain⟨y1,y2,ih⟩:=Hf (x0:=x0) ds (i+1) (some (.ai,.int i)) (some (.ai,d)) r fun b hb=>h b (qat _ hb)
   refine⟨y1,y2,?_⟩
   rw[List.cons_append,Qw,Fp]
   rw[show i+(d::ds).length=i+1+ds.length by simp;omega, <- ih]
   simp[xf,h d (List.mem_cons_self ..)]
theorem QD(ds:List D):tK (.tup ds)=some (.val (.bl true)):=rfl
theorem QE(ds:List D):tK (.lst ds)=some (.val (.bl true)):=rfl
theorem Bz{x:D}{ds:List D}(hx:Sq x ds)(hl:ds.length<=200)(h:∀ d∈ds,fJ [d]=some (.val (.bl true))):eP [x]=some (.ok (.val .av)):=by
 obtain⟨y1,y2,hy⟩:=Hf (x0:=some (.ai,x)) ds 0 none none [] h
 rw[qaX] at hy
 rw[show rg (0+ds.length) []=[] from rfl,Nz] at hy
 have h1 : ¬ (200<(ds.length:Int)):=by omega
 unfold eP
 rw[QC]
 rcases hx with rfl | rfl<;>simp[nJ,b7,gam,h1,Qx,hy,QD,QE]
abbrev pO(ds:List D):D:=.obj .Points ["held"] [.lst ds]
theorem xg:∀ cs:List (Int×Int),gM (sw cs)=true
 | []=>rfl
 |c::r=>xg r
theorem Hg{cs:List (Int×Int)}(sm:∀ c∈cs,bp c):∀ d∈sw cs,fJ [d]=some (.val (.bl true)):=fun d hd=>by
 obtain⟨c,hc,rfl⟩:=rh hd
 exact He (sm c hc)
theorem mZ{x:D}{cs:List (Int×Int)}(hx:Sq x (sw cs))(sm:∀ c∈cs,bp c)(hl:cs.length<=200):bG [x]=some (.ok (.val (pO (sw (aM cs))))):=by
 have e1:=order_eq hx sm (by omega)
 have e2:=Bz hx (by rw[gZ];omega) (Hg sm)
 have e3:=xg (aM cs)
 generalize sw cs=S at *
 generalize sw (aM cs)=T at *
 rcases hx with rfl | rfl<;>simp[bG,Dv.runN,mM,wU,wV,wW,gam,e1,e2,e3,qX,isNone]
theorem QF:bG [.av]=some (.ok (.val (pO []))):=by
 have l0:0<=sizeLine:=qbp _
 have z:aM []=[]:=List.eq_nil_of_length_eq_zero (Nat.le_zero.mp (pQ []))
 have e1:=order_eq (x:=.lst []) (cs:=[]) (.inl rfl) (fun c hc=>by cases hc) (by decide)
 rw[z,show sw []=[] from rfl] at e1
 have im:gO (.new (.lst []))=true:=rfl
 have e2:eP [.lst []]=some (.ok (.val .av)):=Bz (.inl rfl) (by decide) (fun c hc=>by cases hc)
 have e3:gM []=true:=rfl
 simp[bG,Dv.runN,mM,wU,wV,wW,gam,e1,e2,e3,qX,isNone,l0,im]
theorem BA:cd True=true:=dz trivial
theorem xh(k i:Int):cX (.tup [.int k,.int i])=true:=by
 unfold cX SeqAt.shaped
 simp[D.py,D.cy,PyData.canLay0,PyData.canLayAll0,PyData.depth,PyData.depthAll]
theorem BB(k i k' i':Int):eqB (.tup [.int k,.int i]) (.tup [.int k',.int i'])=(decide (k=k') && decide (i=i')):=by
 show PyData.eqv _ _=_
 simp[D.py,D.cy,PyData.eqv,PyData.eqvAll]
 rw[qbR]
 simp
theorem QG(cs:List (Int×Int))(k i:Int):(sw cs).any (fun e=>eqB e (.tup [.int k,.int i]))=decide ((i,k)∈cs):=by
 induction cs with
 |nil=>simp
 |cons c r ih =>
   rw[kR,List.any_cons,ih,BB]
   rw[qbR]
   simp[Prod.ext_iff]
   constructor
   · rintro(⟨a,b⟩ | h)
     · exact .inl ⟨b.symm,a.symm⟩
     · exact .inr h
   · rintro(⟨a,b⟩ | h)
     · exact .inl ⟨b.symm,a.symm⟩
     · exact .inr h
theorem QH(cs:List (Int×Int)):(sw cs).all cX=true:=by
 rw[List.all_eq_true]
 intro d hd
 obtain⟨c,_,rfl⟩:=rh hd
 exact xh _ _
theorem QI(cs:List (Int×Int))(k i:Int):wo (.tup [.int k,.int i]) (.lst (sw cs))=some (.val (.bl (decide ((i,k)∈cs)))):=by
 show(if cX (.tup [.int k,.int i]) && (sw cs).all cX then some (RV.val (.bl ((sw cs).any fun e=>eqB e (.tup [.int k,.int i])))) else none)=_
 rw[xh,QH,QG]
 rfl
theorem has_eq{cs:List (Int×Int)}{k i:Int}(h:bp (i,k)):mW [pO (sw cs),.tup [.int k,.int i]]=some (.val (.bl (decide ((i,k)∈cs)))):=by
 have e1:=He h
 have e2:=QI cs k i
 simp only at e1
 generalize sw cs=S at *
 simp[mW,Bo,dC,b7,gam,e1,e2,BA]
noncomputable def fN(p:Int×Int):D->Option D
 | .tup [.int k,.int i]=>if (i,k)=p then none else some (.tup [.int k,.int i])
 | _=>none
theorem BC(p:Int×Int):∀ cs:List (Int×Int),(sw cs).filterMap (fN p)=sw (cs.filter fun c=>decide (c≠p))
 | []=>rfl
 |c::r=>by
   rw[kR,qa6,List.filter_cons]
   rw[show fN p (.tup [.int c.2,.int c.1])=if c=p then none else some (.tup [.int c.2,.int c.1]) from rfl]
   by_cases h:c=p
   · rw[qay h,qaz (by simp[h])];exact BC p r
   · rw[qaz h,qay (by simp[h]),kR];exact congrArg _ (BC p r)
theorem QJ(c p:Int×Int):bI (.tup [.int c.2,.int c.1]) (.tup [.int p.2,.int p.1])=some (.val (.bl (!decide (c=p)))):=by
 rw[Qo (fun _=>by simp)]
 unfold sC
 rw[xh,xh,BB]
 have:(decide (c.2=p.2) && decide (c.1=p.1))=decide (c=p):=by
  rw[qbR]
  simp[Prod.ext_iff,and_comm]
 rw[this]
 rfl
theorem QK{cs:List (Int×Int)}{p:Int×Int}{x0:Sl}:cS [1] 1 (gN 0) (M.bind (op2 bI (ZS 0) (ZS 1)) aY) (ZS 0) (sw cs) [x0,some (.ai,.tup [.int p.2,.int p.1])] = .ok (sw (cs.filter fun c=>decide (c≠p))) [x0,some (.ai,.tup [.int p.2,.int p.1])]:=by
 rw[<- BC]
 refine An (fN p) (sw cs) fun d hd=>?_
 obtain⟨c,hc,rfl⟩:=rh hd
 have e:=QJ c p
 refine⟨[some (.ai,.tup [.int c.2,.int c.1]),some (.ai,.tup [.int p.2,.int p.1])],?_,rfl⟩
 rw[show fN p (.tup [.int c.2,.int c.1])=if c=p then none else some (.tup [.int c.2,.int c.1]) from rfl]
 by_cases q:c=p
 · rw[qaG q] at e;rw[qay q];simp[bK,e]
 · rw[qaU q] at e;rw[qaz q];simp[bK,e]
theorem QL{cs:List (Int×Int)}(sm:∀ c∈cs,bp c)(hs:aM cs=cs)(p:Int×Int):aM (cs.filter fun c=>decide (c≠p))=cs.filter fun c=>decide (c≠p):=by
 have nd:cs.Nodup:=by rw[<- hs];exact wc cs
 have pw:=wd cs
 rw[hs] at pw
 exact(tJ (cs:=cs.filter fun c=>decide (c≠p)) (fun c hc=>sm c (List.mem_filter.mp hc).1) (nd.filter _) (pw.filter _) fun c=>Iff.rfl).symm
structure Gc(cs:List (Int×Int)):Prop where
 len:cs.length<=200
 sm:∀ c∈cs,bp c
 BD:aM cs=cs
theorem Gc.filter{cs:List (Int×Int)}(G:Gc cs)(p:Int×Int):Gc (cs.filter fun c=>decide (c≠p)) :=
 ⟨qa2 (List.length_filter_le ..) G.len,fun c hc=>G.sm c (List.mem_filter.mp hc).1,QL G.sm G.BD p⟩
theorem QM:cd (¬ ("has" : Str) = "held")=true:=dz (by decide +kernel)
theorem QN{cs:List (Int×Int)}(G:Gc cs){p:Int×Int}(hp:p∈cs):kK [pO (sw cs),.tup [.int p.2,.int p.1]]=some (.ok (.val (pO (sw (cs.filter fun c=>decide (c≠p)))))):=by
 have ln:=line
 have e1:=has_eq (cs:=cs) (k:=p.2) (i:=p.1) (G.sm p hp)
 rw[qaG (show(p.1,p.2)∈cs from hp)] at e1
 have e2:=fun x0=>QK (cs:=cs) (p:=p) (x0:=x0)
 have F:=G.filter p
 have e3:=mZ (x:=.lst (sw (cs.filter fun c=>decide (c≠p)))) (.inl rfl) F.sm F.len
 rw[F.BD] at e3
 have e4:(sw cs).length<sizeLine:=by rw[gZ];have:=G.len;omega
 generalize sw (cs.filter fun c=>decide (c≠p))=S at *
 generalize sw cs=T at *
 simp[kK,Bp,nJ,nH,b7,gam,e1,e2,e3,e4,QM,BA]
theorem QO(a b:List (Int×Int)):sw a++sw b=sw (a++b):=by simp
theorem QP{x:D}{ds:List D}(h:Sq x ds):vo [x]=some (.new (.lst ds)):=by rcases h with rfl | rfl<;>rfl
theorem QR{x:D}{cs ps:List (Int×Int)}(G:Gc cs)(hx:Sq x (sw ps))(sm:∀ c∈ps,bp c)(hl:ps.length<=20):(∀ c∈cs++ps,bp c)/\eP [x]=some (.ok (.val .av))/\eJ (.lst (sw cs)) (.lst (sw ps))=some (.new (.lst (sw (cs++ps))))/\e_ [.lst (sw (cs++ps))]=some (.new (.lst (sw (aM (cs++ps))))):=by
 have ln:=line
 have gl:=G.len
 have pR:∀ c∈cs++ps,bp c:=fun c hc=>(qaO.mp hc).elim (G.sm c) (sm c)
 refine⟨pR,Bz hx (by rw[gZ];omega) (Hg sm),?_,order_eq (.inl rfl) pR (by rw[qaq];omega)⟩
 rw[<- QO]
 exact NA (by rw[gZ,gZ];omega)
theorem QS{x:D}{cs ps:List (Int×Int)}(G:Gc cs)(hx:Sq x (sw ps))(sm:∀ c∈ps,bp c)(hl:ps.length<=20)(hm:(aM (cs++ps)).length<=200):kM [pO (sw cs),x]=some (.ok (.val (pO (sw (aM (cs++ps)))))):=by
 obtain⟨pR,e1,e2,e3⟩:=QR G hx sm hl
 have e4:=QP hx
 have h1 : ¬ (200<((sw (aM (cs++ps))).length:Int)):=by rw[gZ];omega
 have e5:=mZ (x:=.lst (sw (aM (cs++ps)))) (.inl rfl) (fun c hc=>pR c (bz.mp hc)) hm
 rw[rj pR] at e5
 have im:gO (.new (.lst (sw (aM (cs++ps)))))=true:=xg _
 generalize sw (aM (cs++ps))=S at *
 generalize sw (cs++ps)=U at *
 generalize sw ps=V at *
 generalize sw cs=T at *
 simp[kM,Bq,nJ,nH,b7,gam,e1,e2,e3,e4,e5,h1,BA,im]
noncomputable abbrev C:=Int×Int
abbrev pt(p:C):D:=.tup [.int p.2,.int p.1]
section
variable{Γ:En}{f:M RV}{a b:Str}{T:Cn}{G:List D->Option Rt}
@[simp] theorem BE:t5 T f Γ=M.bind (jM f) (fun x=>M.bind (peek x) fun d=>M.cx (tZ T d)) Γ:=(rfl)
@[simp] theorem Hh:wM a b f Γ=M.bind f (fun rv=>M.bind (peek rv) fun d=>M.cx (q_ a b d)) Γ:=(rfl)
@[simp] theorem BF:notI T G f Γ=M.bind f (fun rv=>M.bind (peek rv) fun d=>M.cx (t7 T G d)) Γ:=(rfl)
end
theorem Bv:∀ ds:List D,D.cy ds=ds.map fun d=>d.py
 | []=>rfl
 |d::ds=>by rw[D.cy,Bv ds];rfl
theorem Hi:∀ cs ds:List C,PyData.eqvAll (D.cy (sw cs)) (D.cy (sw ds))=decide (cs=ds)
 | [],[]=>by decide +kernel
 | [],d::ds=>by rw[kR];simp[D.cy,PyData.eqvAll]
 |c::cs,[]=>by rw[kR];simp[D.cy,PyData.eqvAll]
 |c::cs,d::ds=>by
   rw[kR,kR,D.cy,D.cy,PyData.eqvAll,Hi cs ds]
   have:=BB c.2 c.1 d.2 d.1
   unfold eqB at this
   rw[this,qbR]
   obtain⟨c1,c2⟩:=c
   obtain⟨d1,d2⟩:=d
   simp
   exact fun _=>And.comm
theorem xi(cs ds:List C):eqB (.lst (sw cs)) (.lst (sw ds))=decide (cs=ds):=by
 show PyData.eqv _ _=_
 simp only[D.py,PyData.eqv]
 exact Hi cs ds
theorem QT{ds:List D}{n:Nat}(hn:n<=50)(h:∀ d∈ds,d.py.canLay0=true/\d.py.depth<=n):cX (.lst ds)=true/\(D.lst ds).py.canLay0=true/\(D.lst ds).py.depth<=n+1:=by
 have e0:(D.lst ds).py = .list (ds.map fun d=>d.py):=by show PyData.list (D.cy ds)=_;congr 1;induction ds with | nil=>rfl | cons a r ih=>simp[D.cy,ih fun d hd=>h d (List.mem_cons_of_mem _ hd)]
 have h1:PyData.canLayAll0 (ds.map fun d=>d.py)=true:=Qk fun x hx=>by obtain⟨d,hd,rfl⟩:=qa7.mp hx;exact(h d hd).1
 have h2:PyData.depthAll (ds.map fun d=>d.py)<=n:=Ql fun x hx=>by obtain⟨d,hd,rfl⟩:=qa7.mp hx;exact(h d hd).2
 refine⟨?_,?_,?_⟩
 · unfold cX SeqAt.shaped;rw[e0];simp[PyData.canLay0,PyData.depth,h1];omega
 · rw[e0];simp[PyData.canLay0,h1]
 · rw[e0];simp[PyData.depth];omega
theorem xj(cs:List C):cX (.lst (sw cs))=true:=(QT (n:=1) (by decide) fun x hx=>by
 obtain⟨c,_,rfl⟩:=rh hx
 refine⟨?_,?_⟩<;>simp[D.py,D.cy,PyData.canLay0,PyData.canLayAll0,PyData.depth,PyData.depthAll]).1
theorem Hj(cs ds:List C):gz (.lst (sw cs)) (.lst (sw ds))=some (.val (.bl (decide (cs=ds)))):=by
 show(if cX (.lst (sw cs)) && cX (.lst (sw ds)) then some (RV.val (.bl (eqB (.lst (sw cs)) (.lst (sw ds))))) else none)=_
 rw[xj,xj,xi]
 rfl
theorem xk(cs ds:List C):bI (.lst (sw cs)) (.lst (sw ds))=some (.val (.bl (!decide (cs=ds)))):=by
 show(if cX (.lst (sw cs)) && cX (.lst (sw ds)) then some (RV.val (.bl (!eqB (.lst (sw cs)) (.lst (sw ds))))) else none)=_
 rw[xj,xj,xi]
 rfl
theorem QU{A B:List D}{z:Bool}(e:gz (.lst A) (.lst B)=some (.val (.bl z))):ZY [pO A,pO B]=some (.val (.bl z)):=by
 simp[ZY,wX,dC,b7,gam,tZ,e]
theorem xm(cs ds:List C):ZY [pO (sw cs),pO (sw ds)]=some (.val (.bl (decide (cs=ds)))):=QU (Hj cs ds)
theorem QV{ds:List D}{e:D}(h:mT e=true):ZY [pO ds,e]=some (.val (.bl false)):=by
 cases e<;>first | (cases h;done) | simp[ZY,wX,dC,b7,gam,tZ]
theorem BG(ds:List D):gC [pO ds]=some (.val (.int ds.length)):=by
 simp[gC,Bm,dC,b7,gam]
theorem xn(cs ds:List C):iZ .Points ZY (pO (sw cs)) (pO (sw ds))=some (.val (.bl (decide (cs=ds)))):=by
 unfold iZ
 dsimp only
 rw[dz ⟨rfl,rfl⟩,qay rfl,xm]
 rfl
theorem Hk(cs ds:List C):lK .Points ZY (pO (sw cs)) (pO (sw ds))=some (.val (.bl (!decide (cs=ds)))):=by
 unfold lK
 dsimp only
 rw[dz ⟨rfl,rfl⟩,qay rfl,xm]
 rfl
theorem QW{ds:List D}(h:ds.length<1000):qZ .Points gC [pO ds]=some (.val (.int ds.length)):=by
 unfold qZ
 dsimp only
 rw[dz rfl,qay rfl,BG]
 show(if cd (0<=(ds.length:Int)/\(ds.length:Int)<2 ^ 63)=true then _ else _)=_
 rw[dz ⟨by omega,by omega⟩,qay rfl]
theorem QX{ds:List D}(h:ds.length<1000):q8 .Points gC [pO ds]=some (.val (.bl ((ds.length:Int) != 0))):=by
 unfold q8
 dsimp only
 rw[dz rfl,qay rfl,BG]
 show(if cd (0<=(ds.length:Int)/\(ds.length:Int)<2 ^ 63)=true then _ else _)=_
 rw[dz ⟨by omega,by omega⟩,qay rfl]
theorem QY{ds:List D}(h:ds.length<1000):t7 .Points gC (pO ds)=some (.val (.bl (!((ds.length:Int) != 0)))):=by
 unfold t7
 dsimp only
 rw[dz rfl,qay rfl,BG]
 show(if cd (0<=(ds.length:Int)/\(ds.length:Int)<2 ^ 63)=true then _ else _)=_
 rw[dz ⟨by omega,by omega⟩,qay rfl]
theorem Hl:∀ cs:List C,iq (sw cs)=true
 | []=>rfl
 |c::cs=>by rw[kR,iq,Hl cs];simp[gV,iq]
theorem Hm(cs:List C):iq [.lst (sw cs)]=true:=by
 show(iq (sw cs) && true)=true
 rw[Hl];rfl
theorem Hn{cs:List C}{e:D}{es:List D}(hf:mT e=true):dE .Points ZY ["held"] [.lst (sw cs)] (e::es)=dE .Points ZY ["held"] [.lst (sw cs)] es:=by
 have:dE .Points ZY ["held"] [.lst (sw cs)] (e::es)=(lJ (ZY [pO (sw cs),e])).bind fun z=>if z=true then some true else dE .Points ZY ["held"] [.lst (sw cs)] es:=by
  cases e<;>first | (cases hf;done) | (rw[dE,if_pos hf];nofun)
 rw[this,QV hf]
 rfl
theorem Ho{cs:List C}:∀ {es:List D},(∀ e∈es,mT e=true\/∃ ds:List C,e=pO (sw ds)/\ds≠cs)->dE .Points ZY ["held"] [.lst (sw cs)] es=some false
 | [],_=>by unfold dE;rfl
 |e::es,h=>by
   have ih:=Ho (es:=es) fun x hx=>h x (qat _ hx)
   rcases h e (qaw ..) with hf | ⟨ds,rfl,hn⟩
   · rw[Hn hf];exact ih
   · unfold dE
     rw[dz rfl,qay rfl,xm,qaU hn]
     rw[show lJ (some (Rt.val (D.bl false)))=some false from rfl,Option.bind_some]
     have ne : ¬ (([("held" : Str)]:List Str)=[("held" : Str)]/\[D.lst (sw ds)]=[.lst (sw cs)]):=fun z=>hn (by
      have z:=z.2
      simp only[List.cons.injEq,D.lst.injEq,and_true] at z
      have:=xi ds cs
      rw[z] at this
      have t:=xi cs cs
      rw[qaG rfl] at t
      rw[t] at this
      exact qaB this.symm)
     rw[qaz (by simp),qay ⟨by rw[Hm,Hm];rfl,dz ne⟩]
     exact ih
theorem QZ{cs:List C}{es:List D}(h:∃ e r,es=[e,pO (sw cs)]++r/\mT e=true):dE .Points ZY ["held"] [.lst (sw cs)] es=some true:=by
 obtain⟨e,r,rfl,hf⟩:=h
 show dE .Points ZY ["held"] [.lst (sw cs)] (e::pO (sw cs)::r)=_
 rw[Hn hf]
 unfold dE
 rw[dz rfl,qay rfl,xm,qaG rfl]
 rfl
theorem BH{cs:List C}{es:List D}(h:∀ e∈es,mT e=true\/∃ ds:List C,e=pO (sw ds)/\ds≠cs):lL .Points ZY (pO (sw cs)) (.lst es)=some (.val (.bl false)):=by
 unfold lL
 dsimp only
 rw[dz rfl,qay rfl,Ho h]
 rfl
theorem Q0{cs:List C}{e:D}(hf:mT e=true):q9 .Points ZY (pO (sw cs)) (.lst [e,pO (sw cs)])=some (.val (.bl false)):=by
 unfold q9
 dsimp only
 rw[dz rfl,qay rfl,QZ (es:=[e,pO (sw cs)]) ⟨e,[],rfl,hf⟩]
 rfl
structure Gs(k n:Nat)(d:D):Prop where
 sh:d.py.showable=true
 ls:d.py.leavesShort 40=true
 dp:d.py.depth<=k
 bk:d.py.bulk<=n
theorem Gs.mono{k k' n n':Nat}{d:D}(h:Gs k n d)(hk:k<=k')(hn:n<=n'):Gs k' n' d:=⟨h.sh,h.ls,qa2 h.dp hk,qa2 h.bk hn⟩
theorem Q1:∀ r:Nat,r<200->((PyData.int ((r:Int) - 100)).showable && (PyData.int ((r:Int) - 100)).leavesShort 40)=true:=by decide +kernel
theorem Gs.int{i:Int}(h : -100<=i)(h':i<100):Gs 0 1 (.int i):=by
 have:=Q1 (i+100).toNat (by omega)
 rw[show(((i+100).toNat:Int) - 100)=i by omega,qa1] at this
 exact⟨this.1,this.2,by simp[D.py,PyData.depth],by simp[D.py,PyData.bulk]⟩
theorem BI{k n:Nat}:∀ {ds:List D},(∀ d∈ds,Gs k n d)->PyData.showableAll (D.cy ds)=true/\PyData.leavesShortAll 40 (D.cy ds)=true/\PyData.depthAll (D.cy ds)<=k/\PyData.bulkAll (D.cy ds)<=ds.length * (n+1)
 | [],_=>⟨rfl,by decide +kernel,by simp[D.cy,PyData.depthAll],by simp[D.cy,PyData.bulkAll]⟩
 |d::r,h=>by
   obtain⟨a2,a3,a4,a5⟩:=BI (ds:=r) fun x hx=>h x (qat _ hx)
   obtain⟨b2,b3,b4,b5⟩:=h d (qaw ..)
   refine⟨by simp[D.cy,PyData.showableAll,a2,b2],by simp[D.cy,PyData.leavesShortAll,a3,b3],by simp[D.cy,PyData.depthAll];omega,?_⟩
   simp only[D.cy,PyData.bulkAll,List.length_cons]
   rw[Nat.add_mul,Nat.one_mul]
   omega
theorem Gs.tup{k n:Nat}{ds:List D}(h:∀ d∈ds,Gs k n d):Gs (k+1) (ds.length * (n+1)) (.tup ds):=by
 obtain⟨a2,a3,a4,a5⟩:=BI h
 exact⟨by simpa [D.py,PyData.showable] using a2,by simpa [D.py,PyData.leavesShort] using a3,by simp[D.py,PyData.depth];omega,by simpa [D.py,PyData.bulk] using a5⟩
theorem Gs.lst{k n:Nat}{ds:List D}(h:∀ d∈ds,Gs k n d):Gs (k+1) (ds.length * (n+1)) (.lst ds):=by
 obtain⟨a2,a3,a4,a5⟩:=BI h
 exact⟨by simpa [D.py,PyData.showable] using a2,by simpa [D.py,PyData.leavesShort] using a3,by simp[D.py,PyData.depth];omega,by simpa [D.py,PyData.bulk] using a5⟩
theorem BJ:1000000<=sizeLine:=by decide
theorem Hq{cs:List (Int×Int)}(sm:∀ c∈cs,bp c):∀ d∈sw cs,iW d=true/\Gs 2 10 d:=fun d hd=>by
 obtain⟨c,hc,rfl⟩:=rh hd
 obtain⟨⟨h1,h2⟩,h3,h4⟩:=sm c hc
 refine⟨rfl,(Gs.tup (k:=0) (n:=1) fun d hd=>?_).mono (by decide) (by simp)⟩
 simp only[List.mem_cons,List.not_mem_nil,or_false] at hd
 rcases hd with rfl | rfl
 · exact Gs.int (by omega) (by omega)
 · exact Gs.int (by omega) (by omega)
theorem Hr:∀ {ds:List D},(∀ d∈ds,iW d=true)->mQ ds=true
 | [],_=>rfl
 |d::r,h=>by
   show(iW d && mQ r)=true
   rw[h d (qaw ..),Hr fun x hx=>h x (qat _ hx)]
   rfl
abbrev tx(cs:List C):Str:=(D.lst (sw cs)).py.shown
theorem BK{cs:List C}(sm:∀ c∈cs,bp c)(hl:cs.length<=100):pN (.lst (sw cs))=true/\(tx cs).length<=900000:=by
 have g:Gs 3 ((sw cs).length * 11) (.lst (sw cs)):=Gs.lst (k:=2) (n:=10) fun d hd=>(Hq sm d hd).2
 have hp:mQ (sw cs)=true:=Hr fun d hd=>(Hq sm d hd).1
 have ln:=BJ
 have sh:=PyData.shown_le_bulk 40 (by decide) (D.lst (sw cs)).py g.ls
 have b:=g.bk
 rw[gZ] at b
 have dp:=g.dp
 refine⟨?_,by show(D.lst (sw cs)).py.shown.length<=_;omega⟩
 unfold pN
 rw[show iW (.lst (sw cs))=true from hp,g.sh,qaG (by omega:(D.lst (sw cs)).py.depth<=50),qaG (by omega)]
 rfl
theorem Q2{cs:List C}(sm:∀ c∈cs,bp c)(hl:cs.length<=100):tR [.lst (sw cs)]=some (.val (.str (tx cs))):=by
 show(if (true && pN (.lst (sw cs)))=true then some (RV.val (.str (D.lst (sw cs)).py.shown)) else none)=_
 rw[(BK sm hl).1]
 rfl
abbrev ptx(cs:List C):Str:=("Points(" : Str)++tx cs++(")" : Str)
theorem Q3{cs:List C}(sm:∀ c∈cs,bp c)(hl:cs.length<=100):q_ "Points(" ")" (.lst (sw cs))=some (.val (.str (ptx cs))):=by
 have ln:=BJ
 have h:=BK sm hl
 have h2:(ptx cs).length<=sizeLine:=by
  unfold ptx
  rw[strLen_append,strLen_append]
  have e1:("Points(" : Str).length=7:=by decide +kernel
  have e2:(")" : Str).length=1:=by decide +kernel
  rw[e1,e2]
  have:=h.2
  omega
 unfold q_
 rw[qay ⟨rfl,h.1,dz h2⟩]
theorem Q4{A:List D}{z:Str}(e:q_ "Points(" ")" (.lst A)=some (.val (.str z))):fL [pO A]=some (.val (.str z)):=by
 simp[fL,Bn,dC,b7,gam,e]
theorem BL{cs:List C}(sm:∀ c∈cs,bp c)(hl:cs.length<=100):iY .Points fL [pO (sw cs)]=some (.val (.str (ptx cs))):=by
 unfold iY
 dsimp only
 rw[dz rfl,qay rfl,Q4 (Q3 sm hl)]
 rfl
def s1:M Fl:=(cL 4 (ip jU (ah (ZS 0) (ah (ZS 3) m0))))
def s2:M Fl:=(cL 5 (op2 eJ (kI 2) (jn fK (ah (ZS 4) (ah (kI 4) m0)))))
def s3:M Fl:=(cL 6 (iG (o6 (ah (jn fK (ah (ZS 4) (ah (kI 13) m0))) m0)) [4,5] 1 (gN 0) (M.pure true) (jn jT (ah (ZS 1) (ah (ZS 2) (ah (ZS 2) m0))))))
def s4:M Fl:=(cL 7 (ip kQ (ah (ZS 6) m0)))
def s5:M Fl:=(cL 8 (cZ bG (ah (ZS 6) m0)))
def s6:M Fl:=(cL 9 (aO (ah (cZ bG (ah (mv (qz (-1)) (ZS 6) (M.pure none) (M.pure none)) m0)) (ah (cZ bG (ah (bB nA (ah (op2 eJ (ZS 6) (ZS 6)) m0)) m0)) (ah (cZ bG (ah (ZS 7) m0)) (ah (nP .Points "more" kM (cZ bG (ah (ZS 7) m0)) (ah (aO m0) m0)) m0))))))
def s7:M Fl:=(cp (orM (M.bind (op2 bI (iG (jk (ZS 9)) [8] 1 (gN 0) (M.pure true) (op2 (iZ .Points ZY) (ZS 0) (ZS 1))) (op2 pC (aO (ah (kB true) m0)) (kI 4))) aY) (M.bind (op2 bI (iG (jk (ZS 9)) [8] 1 (gN 0) (M.pure true) (op2 (lK .Points ZY) (ZS 0) (ZS 1))) (op2 pC (aO (ah (kB false) m0)) (kI 4))) aY)) (bN (kB false)) mX)
def s8:M Fl:=(kn (oX 1 nD (ah (ZS 8) m0)))
def s9:M Fl:=(kn (oX 2 nD (ah (ZS 7) m0)))
def BM:M Fl:=(rd [10,11] (forM (nR (ah (ZS 1) (ah (ZS 2) m0))) (gT 2 (bJ (gN 10) (bJ (gN 11) eK))) (cp (orM (M.bind (op2 bI (op2 (iZ .Points ZY) (ZS 8) (ZS 10)) (op2 gz (ZS 7) (ZS 11))) aY) (M.bind (op2 bI (op2 (lK .Points ZY) (ZS 8) (ZS 10)) (op2 bI (ZS 7) (ZS 11))) aY)) (bN (kB false)) mX)))
def xo:M Fl:=(cp (andM (M.bind (op2 bI (ZS 7) (aO m0)) aY) (M.bind (op2 (iZ .Points ZY) (ZS 8) (nP .Points "less" kK (ZS 8) (ah (op2 gA (ZS 7) (kI 0)) m0))) aY)) (bN (kB false)) mX)
def s12:M Fl:=(cp (andM (M.bind (op2 bI (ZS 7) (aO m0)) aY) (M.bind (op2 (lL .Points ZY) (ZS 8) (aO (ah (cZ bG (ah (mv sJ (ZS 7) (M.bind (kI 1) sL) (M.pure none)) m0)) (ah kN (ah (ZS 7) m0))))) aY)) (bN (kB false)) mX)
def nW:M Fl:=(cp (orM (M.bind (op2 (q9 .Points ZY) (ZS 8) (aO (ah kN (ah (cZ bG (ah (ZS 7) m0)) m0)))) aY) (M.bind (op2 (lL .Points ZY) (ZS 8) (aO (ah (ZS 7) (ah (bB nA (ah (ZS 7) m0)) (ah kN (ah (bB (iY .Points fL) (ah (ZS 8) m0)) m0)))))) aY)) (bN (kB false)) mX)
def BN:M Fl:=(cp (orM (M.bind (op2 (lL .Points ZY) (ZS 8) (aO (ah (bB gf (ah (ZS 7) m0)) (ah (aO (ah (ZS 8) m0)) m0)))) aY) (M.bind (op2 bI (bB (qZ .Points gC) (ah (ZS 8) m0)) (bB gf (ah (ZS 7) m0))) aY)) (bN (kB false)) mX)
def s15:M Fl:=(cp (M.bind (op2 bI (bB (q8 .Points gC) (ah (ZS 8) m0)) (op2 bI (ZS 7) (aO m0))) aY) (bN (kB false)) mX)
def BO:M Fl:=(cp (orM (M.bind (op2 bI (bB (iY .Points fL) (ah (ZS 8) m0)) (op2 eJ (op2 eJ (kS "Points(") (bB tR (ah (ZS 7) m0))) (kS ")"))) aY) (M.bind (op2 bI (bB (iY .Points fL) (ah (ZS 8) m0)) (bB (iY .Points fL) (ah (ZS 8) m0))) aY)) (bN (kB false)) mX)
def BP:M Fl:=(aU s1 (aU s2 (aU s3 (aU s4 (aU s5 (aU s6 (aU s7 (aU s8 (aU s9 (aU BM (aU xo (aU s12 (aU nW (aU BN (aU s15 BO)))))))))))))))
theorem Q5:Bu bG ZY gC fL kK kM jT jU kQ fK=(aU (cL 1 (aO m0)) (aU (cL 2 (aO m0)) (aU (forM (o6 (ah (bB sH (ah (kI 1) (ah (bB sI (ah (kI 8) (ah (bB gf (ah (ZS 0) m0)) m0))) m0))) m0)) (gN 3) BP) (bN (iS (op2 gz (bB (iY .Points fL) (ah (cZ bG (M.pure [.val .av])) m0)) (kS "Points([])")) (iS (op2 (iZ .Points ZY) (cZ bG (M.pure [.val .av])) (cZ bG (ah (aO m0) m0))) (notI .Points gC (cZ bG (M.pure [.val .av]))))))))):=rfl
theorem Q6{c s w:Int}(h:Sd s)(hw:1<=w/\w<=31):∃ (p:C) (c' s':Int),jT (pl c s) [.int w,.int w]=some (.val (pt p),pl c' s')/\bp p/\Sd s':=by
 have ln:=line
 have l2:2<=sizeLine:=by omega
 obtain⟨k,c1,s1,h1,b1,d1⟩:=xb (c:=c) (m:=w) h (by omega) (by omega)
 obtain⟨m,c2,s2,h2,b2,d2⟩:=xb (c:=c1) (m:=w) d1 (by omega) (by omega)
 refine⟨(m,k),c2,s2,?_,⟨⟨by show 0<=m;omega,by show m<=30;omega⟩,by show 0<=k;omega,by show k<=30;omega⟩,d2⟩
 simp[jT,Br,pq,nF,b7,jP,h1,h2,l2]
abbrev BQ:M RV:=jn jT (ah (ZS 1) (ah (ZS 2) (ah (ZS 2) (M.pure []))))
theorem Hs{x0 x1 x2 x3:Sl}{w:Int}{xs:En}(hw:1<=w/\w<=31):∀ (ds:List D) (c s:Int),Sd s->∃ (cs:List C) (c' s':Int),
 cS [4,5] 1 (gN 0) (M.pure true) BQ ds (x0::x1::x2::x3::some (.own,.lst (pl c s))::some (.ai,.int w)::xs) = .ok (sw cs) (x0::x1::x2::x3::some (.own,.lst (pl c' s'))::some (.ai,.int w)::xs)/\Sd s'/\cs.length=ds.length/\∀ a∈cs,bp a
 | [],c,s,h=>⟨[],c,s,rfl,h,rfl,fun a ha=>by cases ha⟩
 |d::r,c,s,h=>by
   obtain⟨p,c1,s1,hx,hx1,hs1⟩:=Q6 (c:=c) h hw
   obtain⟨cs,c2,s2,hl,hs2,hn',hk⟩:=Hs hw r c1 s1 hs1
   refine⟨p::cs,c2,s2,?_,hs2,by simp[hn'],fun a ha=>?_⟩
   · have e:jN (gN 0) (M.pure true) BQ d (bK [4,5] 1 (x0::x1::x2::x3::some (.own,.lst (pl c s))::some (.ai,.int w)::xs)) = .ok (some (pt p)) [some (.ai,d),some (.own,.lst (pl c1 s1)),some (.ai,.int w)]:=by
      simp[bK,hx]
     unfold cS
     rw[e]
     show(match cS [4,5] 1 (gN 0) (M.pure true) BQ r (x0::x1::x2::x3::some (.own,.lst (pl c1 s1))::some (.ai,.int w)::xs) with
      | .ok ys Γ'=>Res.ok ([pt p]++ys) Γ'
      | _=>.st)=_
     rw[hl]
     rfl
   · rcases qav.mp ha with rfl | ha
     · exact hx1
     · exact hk a ha
abbrev lE(ns:List Int)(H R:List D)(k:Int)(xs:En):En:=some (.ai,.bH ns)::some (.own,.lst H)::some (.own,.lst R)::some (.ai,.int k)::xs
theorem Q7{ns:List Int}{H R:List D}{k:Nat}(hk:k<100){x4 x5 x6 x7 x8 x9 x10 x11:Sl}:∃ (ps:List C) (y4 y5:Sl),
 aU s1 (aU s2 s3) (lE ns H R k [x4,x5,x6,x7,x8,x9,x10,x11]) = .ok .nx (lE ns H R k [y4,y5,some (.own,.lst (sw ps)),x7,x8,x9,x10,x11])/\ps.length<=12/\∀ c∈ps,bp c:=by
 have ln:=line
 have l1:1<=sizeLine:=by omega
 obtain⟨c,s,hp,hs⟩:=Qu ns k hk
 obtain⟨x,c1,s1',hx,hx1,hs1⟩:=xb (c:=c) (m:=4) hs (by omega) (by omega)
 obtain⟨n,c2,s2',hn,hn1,hs2⟩:=xb (c:=c1) (m:=13) hs1 (by omega) (by omega)
 obtain⟨ps,c3,Ht,hl,hs3,ml,mb⟩:=Hs (x0:=some (.ai,.bH ns)) (x1:=some (.own,.lst H)) (x2:=some (.own,.lst R)) (x3:=some (.ai,.int k)) (w:=2+x) (xs:=[x6,x7,x8,x9,x10,x11]) ⟨by omega,by omega⟩ (iF 0 n.toNat) c2 s2' hs2
 rw[G9] at ml
 have sm:small n=true:=Ak (by omega)
 have pR:small (2+x)=true:=Ak (by omega)
 have e0:(iF 0 n.toNat).length<sizeLine:=by rw[G9];omega
 refine⟨ps,some (.own,.lst (pl c3 Ht)),some (.ai,.int (2+x)),?_,by omega,mb⟩
 have q1:s1 (lE ns H R k [x4,x5,x6,x7,x8,x9,x10,x11]) = .ok .nx (lE ns H R k [some (.own,.lst (pl c s)),x5,x6,x7,x8,x9,x10,x11]):=by
  simp[s1,hp]
 have q2:s2 (lE ns H R k [some (.own,.lst (pl c s)),x5,x6,x7,x8,x9,x10,x11]) = .ok .nx (lE ns H R k [some (.own,.lst (pl c1 s1')),some (.ai,.int (2+x)),x6,x7,x8,x9,x10,x11]):=by
  simp[s2,hx,eJ,pR]
 have q3:s3 (lE ns H R k [some (.own,.lst (pl c1 s1')),some (.ai,.int (2+x)),x6,x7,x8,x9,x10,x11]) = .ok .nx (lE ns H R k [some (.own,.lst (pl c3 Ht)),some (.ai,.int (2+x)),some (.own,.lst (sw ps)),x7,x8,x9,x10,x11]):=by
  simp[s3,hn,sm,hl,e0]
 exact i4 q1 (i4 q2 q3)
theorem Hu{a b:List C}(sm:∀ c∈b,bp c)(h:∀ c,c∈a ↔ c∈b):aM a=aM b :=
 tJ sm (wc a) (wd a) fun c=>bz.trans (h c)
section
variable{ns:List Int}{H R:List D}{k:Nat}{ps:List C}{x4 x5 x7 x8 x9 x10 x11:Sl}
theorem Q8(hl:ps.length<=12)(sm:∀ c∈ps,bp c):aU s4 s5 (lE ns H R k [x4,x5,some (.own,.lst (sw ps)),x7,x8,x9,x10,x11]) = .ok .nx (lE ns H R k [x4,x5,some (.own,.lst (sw ps)),some (.own,.lst (sw (aM ps))),some (.ai,pO (sw (aM ps))),x9,x10,x11]):=by
 have e1:=QA sm (by omega)
 have e2:=mZ (x:=.lst (sw ps)) (.inl rfl) sm (by omega)
 have im:gO (Rt.new (D.lst (sw (aM ps))))=true:=xg _
 generalize sw ps=A at *
 generalize sw (aM ps)=B at *
 have q1:s4 (lE ns H R k [x4,x5,some (.own,.lst A),x7,x8,x9,x10,x11]) = .ok .nx (lE ns H R k [x4,x5,some (.own,.lst A),some (.own,.lst B),x8,x9,x10,x11]):=by
  simp[s4,e1,im]
 refine i4 q1 ?_
 simp[s5,e2]
theorem Hv{α:Type}:∀ (xs pre:List α),(List.range' pre.length xs.length).filterMap ((pre++xs)[·]?)=xs
 | [],pre=>rfl
 |x::r,pre=>by
   rw[qaD,List.range'_succ]
   have ih:=Hv r (pre++[x])
   rw[qaq,qaM] at ih
   rw[qa6]
   have e:(pre++x::r)[pre.length]? = some x:=by simp
   rw[e]
   exact congrArg (x :: ·) ih
theorem Q9:∀ n:Nat,n<=12->sliceRange (sliceBounds none none (some (-1)) n).1 (sliceBounds none none (some (-1)) n).2.1 (sliceBounds none none (some (-1)) n).2.2=(List.range' 0 n).reverse:=by decide +kernel
theorem Q_{α:Type}{xs:List α}(h:xs.length<=12):qy xs none none (-1)=xs.reverse:=by
 unfold qy
 rw[Q9 xs.length h,List.filterMap_reverse]
 have:=Hv xs []
 simp only[List.length_nil,List.nil_append] at this
 rw[this]
theorem Ra(hl:ps.length<=12)(sm:∀ c∈ps,bp c):s6 (lE ns H R k [x4,x5,some (.own,.lst (sw ps)),some (.own,.lst (sw (aM ps))),some (.ai,pO (sw (aM ps))),x9,x10,x11]) = .ok .nx (lE ns H R k [x4,x5,some (.own,.lst (sw ps)),some (.own,.lst (sw (aM ps))),some (.ai,pO (sw (aM ps))),some (.own,.lst [pO (sw (aM ps)),pO (sw (aM ps)),pO (sw (aM ps)),pO (sw (aM ps))]),x10,x11]):=by
 have ln:=line
 have xp:∀ c∈aM ps,bp c:=fun c hc=>sm c (bz.mp hc)
 have lS:=pQ ps
 have p1:=mZ (x:=.lst (sw ps.reverse)) (.inl rfl) (fun c hc=>sm c (qbA.mp hc)) (by rw[List.length_reverse];omega)
 rw[Hu sm fun c=>qbA] at p1
 have p2:=mZ (x:=.tup (sw (ps++ps))) (.inr rfl) (fun c hc=>sm c ((qaO.mp hc).elim id id)) (by rw[qaq];omega)
 rw[Hu sm fun c=>⟨fun z=>(qaO.mp z).elim id id,fun z=>qbd _ z⟩] at p2
 have p3:=mZ (x:=.lst (sw (aM ps))) (.inl rfl) xp (by omega)
 rw[rj sm] at p3
 have G:Gc (aM ps):=⟨by omega,xp,rj sm⟩
 have p4:=QS G (x:=.lst (sw [])) (ps:=[]) (.inl rfl) (fun c hc=>by cases hc) (by decide) (by rw[List.append_nil,rj sm];omega)
 rw[qaX,rj sm] at p4
 have r1:qz (-1) (.lst (sw ps)) none none=some (.new (.lst (sw ps.reverse))):=by
  unfold qz
  dsimp only
  rw[Q_ (by rw[gZ];omega),qay ⟨by decide,by rw[List.length_reverse,gZ];omega⟩]
  simp
 have r2:eJ (.lst (sw ps)) (.lst (sw ps))=some (.new (.lst (sw (ps++ps)))):=by
  show(if (sw ps).length+(sw ps).length<=sizeLine then some (RV.new (.lst (sw ps++sw ps))) else none)=_
  rw[gZ,qay (by omega)]
  simp
 have e0:sw []=[]:=rfl
 rw[e0] at p4
 have l4:4<=sizeLine:=by omega
 have t1:(sw (ps++ps)).length<=sizeLine:=by rw[gZ,qaq];omega
 generalize sw ps.reverse=A1 at *
 generalize sw (ps++ps)=A2 at *
 generalize sw ps=A at *
 generalize sw (aM ps)=B at *
 have c1:cd (¬ Str.ofString "more" = Str.ofString "held")=true:=dz (by decide +kernel)
 simp[s6,r1,p1,r2,p2,p3,p4,l4,nA,t1,c1]
end
section
variable{ns:List Int}{H R:List D}{k:Nat}{q:List C}{x4 x5 x6 x7 x8 x9 x10 x11:Sl}
theorem BR(b c:Bool):bI (.bl b) (.bl c)=some (.val (.bl (b != c))):=by cases b<;>cases c<;>rfl
theorem BS{f:M RV}{d e:D}{b:Bool}{x0 x1 x2 x3 x4 x5 x6 x7 x9 x10 x11:Sl}(h:f [some (.ai,d),some (.ai,e)] = .ok (.val (.bl b)) [some (.ai,d),some (.ai,e)]):∀ n,cS [8] 1 (gN 0) (M.pure true) f (List.replicate n d) [x0,x1,x2,x3,x4,x5,x6,x7,some (.ai,e),x9,x10,x11] = .ok (List.replicate n (.bl b)) [x0,x1,x2,x3,x4,x5,x6,x7,some (.ai,e),x9,x10,x11]
 | 0=>rfl
 |n+1=>by
   have e:jN (gN 0) (M.pure true) f d (bK [8] 1 [x0,x1,x2,x3,x4,x5,x6,x7,some (.ai,e),x9,x10,x11]) = .ok (some (.bl b)) [some (.ai,d),some (.ai,e)]:=by
    simp[bK,h]
   unfold cS
   rw[qbq]
   dsimp only
   rw[e]
   show(match cS [8] 1 (gN 0) (M.pure true) f (List.replicate n d) [x0,x1,x2,x3,x4,x5,x6,x7,some (.ai,_),x9,x10,x11] with
    | .ok ys Γ'=>Res.ok ([D.bl b]++ys) Γ'
    | _=>.st)=_
   rw[BS h n]
   rfl
theorem Rb:s7 (lE ns H R k [x4,x5,x6,x7,some (.ai,pO (sw q)),some (.own,.lst [pO (sw q),pO (sw q),pO (sw q),pO (sw q)]),x10,x11]) = .ok .nx (lE ns H R k [x4,x5,x6,x7,some (.ai,pO (sw q)),some (.ai,.lst [pO (sw q),pO (sw q),pO (sw q),pO (sw q)]),x10,x11]):=by
 have ln:=line
 have l4:4<=sizeLine:=by omega
 have l1:1<=sizeLine:=by omega
 have e1:=xn q q
 have e2:=Hk q q
 rw[qaG rfl] at e1 e2
 have r1:∀ b:Bool,pC (.lst [.bl b]) (.int 4)=some (.new (.lst [.bl b,.bl b,.bl b,.bl b])):=fun b=>by
  have c:cd (-(2 ^ 63)<=(4:Int)/\(4:Int)<2 ^ 63/\[D.bl b].length * (4:Int).toNat<=sizeLine)=true:=dz ⟨by omega,by omega,by simp;omega⟩
  show(if cd (-(2 ^ 63)<=(4:Int)/\(4:Int)<2 ^ 63/\[D.bl b].length * (4:Int).toNat<=sizeLine)=true then some (RV.new (.lst (List.replicate (4:Int).toNat [D.bl b]).flatten)) else none)=_
  rw[qay c]
  rfl
 have n1:∀ b:Bool,bI (.lst [.bl b,.bl b,.bl b,.bl b]) (.lst [.bl b,.bl b,.bl b,.bl b])=some (.val (.bl false)):=fun b=>by
  show(if cX (.lst [.bl b,.bl b,.bl b,.bl b]) && cX (.lst [.bl b,.bl b,.bl b,.bl b]) then some (RV.val (.bl (!eqB (.lst [.bl b,.bl b,.bl b,.bl b]) (.lst [.bl b,.bl b,.bl b,.bl b])))) else none)=_
  rw[show cX (.lst [.bl b,.bl b,.bl b,.bl b])=true by cases b<;>decide +kernel,show eqB (.lst [.bl b,.bl b,.bl b,.bl b]) (.lst [.bl b,.bl b,.bl b,.bl b])=true by cases b<;>decide +kernel]
  rfl
 have l5:4<sizeLine:=by omega
 generalize sw q=B at *
 have c1:=fun x9=>BS (f:=op2 (iZ .Points ZY) (ZS 0) (ZS 1)) (d:=pO B) (e:=pO B) (b:=true) (x0:=some (.ai,.bH ns)) (x1:=some (.own,.lst H)) (x2:=some (.own,.lst R)) (x3:=some (.ai,.int k)) (x4:=x4) (x5:=x5) (x6:=x6) (x7:=x7) (x9:=x9) (x10:=x10) (x11:=x11) (by simp[e1]) 4
 have c2:=fun x9=>BS (f:=op2 (lK .Points ZY) (ZS 0) (ZS 1)) (d:=pO B) (e:=pO B) (b:=false) (x0:=some (.ai,.bH ns)) (x1:=some (.own,.lst H)) (x2:=some (.own,.lst R)) (x3:=some (.ai,.int k)) (x4:=x4) (x5:=x5) (x6:=x6) (x7:=x7) (x9:=x9) (x10:=x10) (x11:=x11) (by simp[e2]) 4
 simp only[List.replicate] at c1 c2
 simp[s7,c1,c2,r1,n1,l1,l4,l5]
theorem Rc(hH:H.length<=100):s8 (lE ns H R k [x4,x5,x6,x7,some (.ai,pO (sw q)),x9,x10,x11]) = .ok .nx (lE ns (H++[pO (sw q)]) R k [x4,x5,x6,x7,some (.ai,pO (sw q)),x9,x10,x11]):=by
 have ln:=line
 have l:H.length<sizeLine:=by omega
 generalize sw q=B at *
 simp[s8,nD,l]
theorem Rf(hR:R.length<=100):s9 (lE ns H R k [x4,x5,x6,some (.own,.lst (sw q)),x8,x9,x10,x11]) = .ok .nx (lE ns H (R++[.lst (sw q)]) k [x4,x5,x6,some (.ai,.lst (sw q)),x8,x9,x10,x11]):=by
 have ln:=line
 have l:R.length<sizeLine:=by omega
 generalize sw q=B at *
 simp[s9,nD,l]
theorem Rg(G:Gc q):xo (lE ns H R k [x4,x5,x6,some (.ai,.lst (sw q)),some (.ai,pO (sw q)),x9,x10,x11]) = .ok .nx (lE ns H R k [x4,x5,x6,some (.ai,.lst (sw q)),some (.ai,pO (sw q)),x9,x10,x11]):=by
 have ln:=line
 have n0:=xk q []
 cases q with
 |nil =>
   rw[show sw []=[] from rfl,qaG rfl] at *
   simp[xo,n0]
 |cons p r =>
   rw[show sw []=[] from rfl,qaU (by simp)] at n0
   have f1:=QN G (p:=p) (qaw ..)
   have f2:=xn (p::r) ((p::r).filter fun c=>decide (c≠p))
   rw[qaU (fun z=>by
    have:p∈(p::r).filter fun c=>decide (c≠p):=z ▸ qaw ..
    simp at this)] at f2
   have i1:gA (.lst (sw (p::r))) (.int 0)=some (.val (.tup [.int p.2,.int p.1])):=by
    rw[kR]
    show(cw (D.tup [.int p.2,.int p.1]::sw r) 0).map RV.val=_
    unfold cw
    rw[show iw (D.tup [.int p.2,.int p.1]::sw r).length 0=some 0 by unfold iw;rw[if_pos (Int.le_refl 0),if_pos (by simp)];rfl]
    rfl
   have c1:cd (¬ Str.ofString "less" = Str.ofString "held")=true:=dz (by decide +kernel)
   generalize sw ((p::r).filter fun c=>decide (c≠p))=F at *
   generalize sw (p::r)=B at *
   simp[xo,n0,i1,f1,f2,c1]
theorem Rh(G:Gc q)(hl:q.length<=100):s12 (lE ns H R k [x4,x5,x6,some (.ai,.lst (sw q)),some (.ai,pO (sw q)),x9,x10,x11]) = .ok .nx (lE ns H R k [x4,x5,x6,some (.ai,.lst (sw q)),some (.ai,pO (sw q)),x9,x10,x11]):=by
 have ln:=line
 have n0:=xk q []
 cases q with
 |nil =>
   rw[show sw []=[] from rfl,qaG rfl] at *
   simp[s12,n0]
 |cons p r =>
   rw[show sw []=[] from rfl,qaU (by simp)] at n0
   have Rj:∀ c∈r,bp c:=fun c hc=>G.sm c (qat _ hc)
   have p1:=mZ (x:=.lst (sw r)) (.inl rfl) Rj (by simp at hl;omega)
   have ne:aM r≠p::r:=fun z=>by
    have:=pQ r
    rw[z] at this
    simp only[List.length_cons] at this
    omega
   have c1:sJ (.lst (sw (p::r))) (some 1) none=some (.new (.lst (sw r))):=by
    show some (RV.new (.lst (km (sw (p::r)) (some ((1:Nat):Int)) none)))=_
    rw[Qs,kR]
    rfl
   have e1:=BH (cs:=p::r) (es:=[pO (sw (aM r)),.av,.lst (sw (p::r))]) (fun e he=>by
    simp only[List.mem_cons,List.not_mem_nil,or_false] at he
    rcases he with rfl | rfl | rfl
    · exact .inr ⟨_,rfl,ne⟩
    · exact .inl rfl
    · exact .inl rfl)
   have l3:3<=sizeLine:=by omega
   generalize sw (aM r)=F at *
   generalize sw (p::r)=B at *
   generalize sw r=A at *
   simp[s12,n0,c1,p1,e1,l3]
theorem Rl(G:Gc q)(hl:q.length<=100):nW (lE ns H R k [x4,x5,x6,some (.ai,.lst (sw q)),some (.ai,pO (sw q)),x9,x10,x11]) = .ok .nx (lE ns H R k [x4,x5,x6,some (.ai,.lst (sw q)),some (.ai,pO (sw q)),x9,x10,x11]):=by
 have ln:=line
 have p1:=mZ (x:=.lst (sw q)) (.inl rfl) G.sm G.len
 rw[G.BD] at p1
 have e1:=Q0 (cs:=q) (e:=.av) rfl
 have r1:=BL G.sm hl
 have e2:=BH (cs:=q) (es:=[.lst (sw q),.tup (sw q),.av,.str (ptx q)]) (fun e he=>by
  simp only[List.mem_cons,List.not_mem_nil,or_false] at he
  rcases he with rfl | rfl | rfl | rfl<;>exact .inl rfl)
 have l2:2<=sizeLine:=by omega
 have l4:4<=sizeLine:=by omega
 have t1:(sw q).length<=sizeLine:=by rw[gZ];omega
 generalize ptx q=z at *
 generalize sw q=B at *
 simp[nW,p1,e1,r1,e2,l2,l4,nA,t1]
theorem Rm(hl:q.length<=100):BN (lE ns H R k [x4,x5,x6,some (.ai,.lst (sw q)),some (.ai,pO (sw q)),x9,x10,x11]) = .ok .nx (lE ns H R k [x4,x5,x6,some (.ai,.lst (sw q)),some (.ai,pO (sw q)),x9,x10,x11]):=by
 have ln:=line
 have e2:=BH (cs:=q) (es:=[.int (sw q).length,.lst [pO (sw q)]]) (fun e he=>by
  simp only[List.mem_cons,List.not_mem_nil,or_false] at he
  rcases he with rfl | rfl<;>exact .inl rfl)
 have e1:=QW (ds:=sw q) (by rw[gZ];omega)
 have l2:2<=sizeLine:=by omega
 have l1:1<=sizeLine:=by omega
 have n1:bI (.int (sw q).length) (.int (sw q).length)=some (.val (.bl false)):=by
  have e:=Qr ((sw q).length:Int) (sw q).length
  rw[qaG rfl] at e
  have h:(if cX (.int (sw q).length) && cX (.int (sw q).length) then some (RV.val (.bl (eqB (.int (sw q).length) (.int (sw q).length)))) else none)=some (RV.val (.bl true)):=e
  show(if cX (.int (sw q).length) && cX (.int (sw q).length) then some (RV.val (.bl (!eqB (.int (sw q).length) (.int (sw q).length)))) else none)=_
  split at h
  · rename_i c
    rw[qay c]
    simp only[Option.some.injEq,RV.val.injEq,D.bl.injEq] at h
    rw[h]
    rfl
  · cases h
 generalize sw q=B at *
 simp[BN,e1,e2,l1,l2,gf,n1]
theorem Rn(hl:q.length<=100):s15 (lE ns H R k [x4,x5,x6,some (.ai,.lst (sw q)),some (.ai,pO (sw q)),x9,x10,x11]) = .ok .nx (lE ns H R k [x4,x5,x6,some (.ai,.lst (sw q)),some (.ai,pO (sw q)),x9,x10,x11]):=by
 have ln:=line
 have e1:=QX (ds:=sw q) (by rw[gZ];omega)
 have n0:=xk q []
 rw[show sw []=[] from rfl] at n0
 have n1:bI (.bl (((sw q).length:Int) != 0)) (.bl (!decide (q=[])))=some (.val (.bl false)):=by
  rw[BR,gZ]
  cases q<;>simp;try omega
 generalize (!decide (q=[]))=b at *
 generalize sw q=B at *
 simp[s15,e1,n0,n1]
theorem Ro(G:Gc q)(hl:q.length<=100):BO (lE ns H R k [x4,x5,x6,some (.ai,.lst (sw q)),some (.ai,pO (sw q)),x9,x10,x11]) = .ok .nx (lE ns H R k [x4,x5,x6,some (.ai,.lst (sw q)),some (.ai,pO (sw q)),x9,x10,x11]):=by
 have ln:=line
 have r1:=BL G.sm hl
 have r2:=Q2 G.sm hl
 have ln2:=BJ
 have tl:=(BK G.sm hl).2
 have s1:("Points(" : Str).length=7:=by decide +kernel
 have s2:(")" : Str).length=1:=by decide +kernel
 have a1:eJ (.str "Points(") (.str (tx q))=some (.val (.str ("Points(" ++ tx q))):=by
  show(if ("Points(" : Str).length+(tx q).length<=sizeLine then _ else _)=_
  rw[qay (by rw[s1];omega)]
 have a2:eJ (.str ("Points(" ++ tx q)) (.str ")")=some (.val (.str (ptx q))):=by
  show(if (("Points(" : Str)++tx q).length+(")" : Str).length<=sizeLine then _ else _)=_
  rw[qay (by rw[strLen_append,s1,s2];omega)]
 have n1:bI (.str (ptx q)) (.str (ptx q))=some (.val (.bl false)):=by
  show some (RV.val (.bl (!decide (ptx q=ptx q))))=_
  rw[qaG rfl]
  rfl
 generalize ptx q=z at *
 generalize tx q=y at *
 generalize sw q=B at *
 simp[BO,r1,r2,a1,a2,n1]
end
abbrev kL(Q:List (List C)):List D:=Q.map fun c=>pO (sw c)
abbrev rL(Q:List (List C)):List D:=Q.map fun c=>.lst (sw c)
section
variable{ns:List Int}{H R:List D}{k:Nat}{q:List C}{x4 x5 x6 x7 x8 x9 x10 x11:Sl}
def ue:M Fl:=(cp (orM (M.bind (op2 bI (op2 (iZ .Points ZY) (ZS 8) (ZS 10)) (op2 gz (ZS 7) (ZS 11))) aY) (M.bind (op2 bI (op2 (lK .Points ZY) (ZS 8) (ZS 10)) (op2 bI (ZS 7) (ZS 11))) aY)) (bN (kB false)) mX)
theorem Rq{c:List C}{y0 y1 y2 y3:Sl}:ue [y0,y1,y2,y3,x4,x5,x6,some (.ai,.lst (sw q)),some (.ai,pO (sw q)),x9,some (.ai,pO (sw c)),some (.ai,.lst (sw c))] = .ok .nx [y0,y1,y2,y3,x4,x5,x6,some (.ai,.lst (sw q)),some (.ai,pO (sw q)),x9,some (.ai,pO (sw c)),some (.ai,.lst (sw c))]:=by
 have e1:=xn q c
 have e2:=Hk q c
 have e3:=Hj q c
 have e4:=xk q c
 generalize decide (q=c)=b at *
 have n1:bI (.bl b) (.bl b)=some (.val (.bl false)):=by rw[BR];simp
 have n2:bI (.bl !b) (.bl !b)=some (.val (.bl false)):=by rw[BR];simp
 generalize sw q=B at *
 generalize sw c=F at *
 simp[ue,e1,e2,e3,e4,n1,n2]
theorem Hw:∀ Q:List (List C),wL (kL Q) (rL Q)=Q.map fun c=>D.tup [pO (sw c),.lst (sw c)]
 | []=>rfl
 |c::Q=>congrArg (_ :: ·) (Hw Q)
theorem Rr(Q:List (List C)):BM (lE ns (kL Q) (rL Q) k [x4,x5,x6,some (.ai,.lst (sw q)),some (.ai,pO (sw q)),x9,x10,x11]) = .ok .nx (lE ns (kL Q) (rL Q) k [x4,x5,x6,some (.ai,.lst (sw q)),some (.ai,pO (sw q)),x9,none,none]):=by
 obtain⟨Γ',hl,y4,y5,y6,y9,y10,y11,rfl⟩:=FE (m:=gT 2 (bJ (gN 10) (bJ (gN 11) eK))) (s:=ue)
  (fun _ Γ=>∃ (y4 y5 y6 y9 y10 y11:Sl),Γ=[some (.ai,.bH ns),some (.ai,.lst (kL Q)),some (.ai,.lst (rL Q)),some (.ai,.int k),y4,y5,y6,some (.ai,.lst (sw q)),some (.ai,pO (sw q)),y9,y10,y11])
  (ds:=Q.map fun c=>D.tup [pO (sw c),.lst (sw c)]) (Γ:=hid (lE ns (kL Q) (rL Q) k [x4,x5,x6,some (.ai,.lst (sw q)),some (.ai,pO (sw q)),x9,x10,x11]))
  ⟨_,_,_,_,_,_,rfl⟩ (by
   rintro i d Γ hd ⟨y4,y5,y6,y9,y10,y11,rfl⟩
   obtain⟨c,hc,rfl⟩:=qa7.mp (qaN hd)
   refine⟨[some (.ai,.bH ns),some (.ai,.lst (kL Q)),some (.ai,.lst (rL Q)),some (.ai,.int k),y4,y5,y6,some (.ai,.lst (sw q)),some (.ai,pO (sw q)),y9,some (.ai,pO (sw c)),some (.ai,.lst (sw c))],_,?_,.inl Rq,y4,y5,y6,y9,_,_,rfl⟩
   generalize sw q=B at *
   generalize sw c=F at *
   generalize kL Q=K1 at *
   generalize rL Q=K2 at *
   simp)
 have ez:=Hw Q
 have el:(kL Q).length=(rL Q).length:=by simp
 have hz:forM (nR (ah (ZS 1) (ah (ZS 2) m0))) (gT 2 (bJ (gN 10) (bJ (gN 11) eK))) ue (hid (lE ns (kL Q) (rL Q) k [x4,x5,x6,some (.ai,.lst (sw q)),some (.ai,pO (sw q)),x9,x10,x11])) = .ok .nx [some (.ai,.bH ns),some (.ai,.lst (kL Q)),some (.ai,.lst (rL Q)),some (.ai,.int k),y4,y5,y6,some (.ai,.lst (sw q)),some (.ai,pO (sw q)),y9,y10,y11]:=by
  have e:nR (ah (ZS 1) (ah (ZS 2) m0)) (hid (lE ns (kL Q) (rL Q) k [x4,x5,x6,some (.ai,.lst (sw q)),some (.ai,pO (sw q)),x9,x10,x11])) = .ok (Q.map fun c=>D.tup [pO (sw c),.lst (sw c)]) (hid (lE ns (kL Q) (rL Q) k [x4,x5,x6,some (.ai,.lst (sw q)),some (.ai,pO (sw q)),x9,x10,x11])):=by
   generalize sw q=B at *
   generalize kL Q=K1 at *
   generalize rL Q=K2 at *
   rw[<- ez]
   simp[nR,hid,el]
  rw[Ny]
  simp only[Nn,e]
  exact hl
 have:BM=rd [10,11] (forM (nR (ah (ZS 1) (ah (ZS 2) m0))) (gT 2 (bJ (gN 10) (bJ (gN 11) eK))) ue):=rfl
 rw[this]
 unfold rd
 rw[hz]
 exact qay rfl
end
end cq
namespace Hd
open PySem PySem.W PyProof.Rows
noncomputable def uf(tb:String->Option Builtin)(p:Program)(w:World)(m:Nat)(an:Option Value):Nat->SharedT->Thread->Option SharedT
 | 0,_,_=>none
 |k+1,x,y=>match through y with
   |true=>some x
   |false=>match stepOk m an y with
     |false=>none
     |true=>match stepT (denote tb) p w x y with
       |some (x',y')=>uf tb p w m an k x' y'
       |none=>none
theorem Hx:∀ {k:Nat} {x r:SharedT} {y:Thread},uf tb p w m an k x y=some r->topRun tb p w m an k x.abs y=some r.abs
 | 0,_,_,_,h=>by cases h
 |k+1,x,r,y,h=>by
   unfold uf at h
   unfold topRun
   cases c1:through y with
   |true=>rw[c1] at h;cases h;rfl
   |false =>
     rw[c1] at h
     cases c2:stepOk m an y with
     |false=>rw[c2] at h;cases h
     |true =>
       rw[c2] at h
       cases c3:stepT (denote tb) p w x y with
       |none=>rw[c3] at h;cases h
       |some z=>obtain⟨x2,y2⟩:=z;rw[c3] at h;rw[stepT_spec c3];exact Hx h
noncomputable def ug(tb:String->Option Builtin)(p:Program)(w:World)(m:Nat)(an:Option Value):Nat->SharedT->Thread->Option SharedT
 | 0,_,_=>none
 |k+1,x,y=>match through y with
   |true=>some x
   |false=>match Fast.tw6613529449190102663 m an y with
     |false=>none
     |true=>match Fast.tw10156331382660048174 (Fast.tw11892475500146522536 tb) p w x y with
       |some (x',y')=>ug tb p w m an k x' y'
       |none=>none
theorem Hy:∀ (k:Nat) (x:SharedT) (y:Thread),uf tb p w m an k x y=ug tb p w m an k x y
 | 0,_,_=>rfl
 |k+1,x,y=>by
   unfold uf ug
   rw[<- Fast.te6613529449190102663, <- Fast.te10156331382660048174, <- Fast.te11892475500146522536]
   split
   · rfl
   · split
     · rfl
     · split
       · exact Hy k _ _
       · rfl
noncomputable def BU(P:Params)(os:OsState):SharedT :=
 ⟨(.node (boot_o_0 P) (.node (boot_o_1 P) (.node (boot_o_3 P) (.node (boot_o_7 P) .nil .nil) .nil) (.node (boot_o_5 P) (.node (boot_o_9 P) .nil .nil) .nil)) (.node (boot_o_2 P) (.node (boot_o_4 P) (.node (boot_o_8 P) .nil .nil) .nil) (.node (boot_o_6 P) (.node (boot_o_10 P) .nil .nil) .nil))),11,(boot_heap P).life,Array.mk [],boot_drawn,boot_toks,os⟩
theorem Ru(P:Params)(os:OsState):(BU P os).abs=⟨boot_heap P,Array.mk [],boot_drawn,boot_toks,os⟩:=by kernel_rfl
theorem Rv{p r:Program}{keep:List Nat}{R:WRecords}{K:Params->Frag}{as:List Addr}{N:Nat}(ep:p=r)(e0:opening p=plainProg p.main.scope.names)(hN:Nat.ble 600 N=true)(f:∀ s,fenceModules? p s=some s)
 (run:∀ (w:World) (os:OsState),(ug Fast.tw14364793385576792824 r w 11 (some (.ref 6)) N (BU w.params os) (topStub r)).map (fun s=>((staticsOk (importedModules r.main.body) (boot_heap w.params) s.abs.heap && namesBound r s.abs.heap && gensDone s.abs && laidKept (boot_heap w.params) s.abs.heap),
  Fast.tw4187177175401517315 (view r keep) [] (importedModules r.main.body) (fun s=>xlAt (view r keep) [] s && recOk R s) true s.abs,as.map s.abs.heap.get?))=some (true,openGood (view r keep) [],(K w.params).map fun x=>some x.2)) :
 LeftO p (view p keep) [] (fun s=>xlAt (view p keep) [] s && recOk R s) (fun s=>as.map s.heap.get?) (fun w=>(K w.params).map fun x=>some x.2) N:=by
 subst ep
 intro w
 obtain⟨⟨h,gs,d,k,os⟩,e,e'⟩:=qaS.mp (boot_open e0 hN f w)
 obtain⟨rfl,rfl,rfl,rfl⟩:h=boot_heap w.params/\gs=Array.mk []/\d=boot_drawn/\k=boot_toks:=by simpa using e'
 obtain⟨s,h1,h2⟩:=qaS.mp (run w os)
 rw[<- Fast.te14364793385576792824, <- Hy] at h1
 have h1:=Hx h1
 rw[Ru] at h1
 rw[<- Fast.te4187177175401517315] at h2
 obtain⟨l1,l2,l3⟩:_/\_/\_:=by simpa only [Prod.mk.injEq] using h2
 have z:((boot_heap w.params).isNs mainGlobals && (Array.mk []:Array GenState).size == 0,(boot_heap w.params).objs.size,(boot_heap w.params).nsMap mainGlobals "__annotations__")=(true,11,some (.ref 6)):=by kernel_rfl
 obtain⟨z1,z2,z3⟩:_/\_/\_:=by simpa only [Prod.mk.injEq] using z
 have t:topFrom treeTable p w N ⟨boot_heap w.params,Array.mk [],boot_drawn,boot_toks,os⟩=some s.abs:=by
  unfold topFrom
  dsimp only
  rw[z1,z2,z3,h1]
  show(match staticsOk (importedModules p.main.body) (boot_heap w.params) s.abs.heap && namesBound p s.abs.heap && gensDone s.abs && laidKept (boot_heap w.params) s.abs.heap with | true=>_ | false=>_)=_
  rw[l1]
 unfold openEnds
 rw[e]
 show((topFrom treeTable p w N _).map _)=_
 rw[t]
 exact congrArg some (Prod.ext l2 (by exact l3))
noncomputable abbrev vS(s:Str)(t:Tok):Value:=.str s t
abbrev vI(i:Int)(t:Tok):Value:=.int i t
abbrev de(s:Str)(t:Tok)(v:Value):Str×Tok×Value:=(s,t,v)
noncomputable abbrev dO(P:Params)(l:List (Str×Tok×Value))(n:Nat):Obj:={ cls:=.type "dict",data:=.dict (l.map fun x=>⟨PyData.keyHash P x.1,.str x.1 x.2.1,x.2.2⟩).toArray n }
noncomputable abbrev dN(P:Params)(l:List (Str×Tok×Value))(n:Nat):Obj:={ cls:=.none,data:=.dict (l.map fun x=>⟨PyData.keyHash P x.1,.str x.1 x.2.1,x.2.2⟩).toArray n }
abbrev fO(x q:Str)(st:Stmt)(dV pm:Value)(cd:Addr):Obj:={ cls:=.type "function",data:=.func (fnOf x q (L2.aP st) (L2.af st) (L2.aa st) dV .none .none pm none (.ref cd) .none) }
noncomputable abbrev kO(x q:Str)(t:Tok)(a b:Int)(l:List Value):Obj:={ cls:=.type "code",data:=.fields (.str x t :: .str q (t+1) :: .str "/claim/cut.py" (t+2) :: .int a 0 :: .int b 0::l).toArray }
noncomputable abbrev cO(x:Str)(bs mr:List Value)(ns:Addr)(sb:List Value)(sl:Array (Option Value)):Obj:={ cls:=.type "type",data:=.cls { name:=x,bases:=bs,mro:=mr,ns:=ns,qualname:=x,subclasses:=sb },slots:=sl }
def rf:Nat->Value
 | 0=>.none
 |n=>.ref n
def kP(x q:Str)(t:Tok)(a b:Int)(r:Nat)(m:List Nat)(e:Nat):Obj:=kO x q t a b ([vI 0 0,vI 0 0,vI 3 0,.ref r,.bool true,vI 181 0,.ref (r+1)]++m.map rf++[vI e 0,vI a 0,vS "/claim/cut.py" (e+1)])
def fQ(x:Str)(st:Stmt)(pm:Value)(cd:Addr):Obj:=fO x x st .none pm cd
def xD(P:Params)(pm:Value)(t:Tok)(l:Int)(i:List (Str×Tok×Value))(u:Tok)(r:Addr):Obj:=dO P ([de "__module__" t pm,de "__firstlineno__" (t+4) (vI l (t+3))]++i++[de "__static_attributes__" u (.ref r),de "__doc__" (u+1) .none]) 2
def xC(x:Str)(b:Value)(m:List Value)(n:String)(a ns r:Addr)(t u:Tok):Obj:=cO x [b] ([.ref a,b]++m++[.type "Exception",.type "BaseException",.type "object"]) ns [] #[some (.ref r),none,some (vS x t),some (vS x u),some (.builtin (n ++ ".__new__")),some (.bool true)]
end Hd
namespace cq
open PySem L2 Ex Dv
variable[KC]
noncomputable def top(i:Nat):Stmt:=PySem.Challenge.pw_thirdpoint_k04_points_alike_and_written.main.body.getD i (.Pass ⟨0,0,0,0⟩)
structure Nm(mg:Str->Option Value):Prop where
 kT:mg "bool" = none
 dI:mg "enumerate" = none
 uh:mg "int" = none
 a6:mg "isinstance" = none
 cB:mg "len" = none
 kU:mg "list" = none
 ui:mg "max" = none
 uj:mg "min" = none
 i5:mg "range" = none
 ef:mg "repr" = none
 uk:mg "set" = none
 g6:mg "sorted" = none
 um:mg "str" = none
 dY:mg "tuple" = none
 uo:mg "zip" = none
 iJ:∃ t,mg "LAST_KEY" = some (.int 30 t)
 cC:∃ t,mg "MOST_POINTS" = some (.int 200 t)
 ju:mg "NoPoint" = some (.ref (KC.cls .NoPoint))
 eg:mg "NoPoints" = some (.ref (KC.cls .NoPoints))
 g7:mg "Points" = some (.ref (KC.cls .Points))
 jv:mg "TooMany" = some (.ref (KC.cls .TooMany))
 jw:∀ (P:Program) (w:World) (base:Heap),vR P w mg base .NoPoint ["self","point"] (pE (KC.cls .NoPoint) "point")
 eh:∀ (P:Program) (w:World) (base:Heap),vR P w mg base .NoPoints ["self","number"] (pE (KC.cls .NoPoints) "number")
 jx:∀ (P:Program) (w:World) (base:Heap),vR P w mg base .TooMany ["self","many"] (pE (KC.cls .TooMany) "many")
 uq:tQ KC.K
 aN:fB KC.K (KC.cls .Points)
 a7:gW .Points
 kW:mU .Points
 bC:a9 KC.K (KC.cls .Points) "held"
abbrev pS:Stmt:=top 12
abbrev ur:Stmt:=top 9
abbrev uu:Stmt:=top 10
abbrev uv:Stmt:=top 11
abbrev m3:Stmt:=(L2.inClass (top 13) 0)
abbrev uw:Stmt:=(L2.inClass (top 13) 9)
abbrev ux:Stmt:=(L2.inClass (top 13) 10)
abbrev uy:Stmt:=(L2.inClass (top 13) 11)
abbrev uz:Stmt:=(L2.inClass (top 13) 2)
abbrev rk:Stmt:=(L2.inClass (top 13) 8)
abbrev uA:Stmt:=(L2.inClass (top 13) 7)
abbrev uB:Stmt:=top 17
abbrev uC:Stmt:=top 18
abbrev uD:Stmt:=top 15
abbrev uE:Stmt:=top 16
abbrev pT:Stmt:=top 19
abbrev lO:Stmt:=top 20
noncomputable def Rw:Stmt->Expr
 | .Assign _ e _=>e
 | .Return (some e) _=>e
 | _=>.Constant .none 0 ⟨0,0,0,0⟩
abbrev Hz:Stmt:=(af m3).getD 0 (.Pass ⟨0,0,0,0⟩)
abbrev HA:Stmt:=(af m3).getD 1 (.Pass ⟨0,0,0,0⟩)
abbrev HB:Expr:=Rw ((af m3).getD 2 (.Pass ⟨0,0,0,0⟩))
section
variable{P:Program}{w:World}{mg:Str->Option Value}{base:Heap}{fa:Addr}{cdv:Value}{A:Around}{outer:List Env}{s:Shared}{H:Hp}{E:XK}{k:Nat}{ios:List Addr}
abbrev g8(k:Nat)(A:Around)(s:Shared)(fa:Addr)(cdv:Value)(q:Str)(st:Stmt):Prop:=aj k (A.deeper (PyProof.Rows.envOfC q (aa st) s.heap.objs.size fa cdv))
abbrev jy(P:Program)(w:World)(mg:Str->Option Value)(base:Heap)(fa:Addr)(cdv:Value)(A:Around)(outer:List Env)(s:Shared)(H:Hp)(E:XK)(N:List Str)(q:Str)(st:Stmt):Cx:=(fZ bZ P w KC.K mg base N q (aa st) fa cdv A outer s H E).k9
abbrev rn(P:Program)(w:World)(mg:Str->Option Value)(base:Heap)(fa:Addr)(cdv:Value)(A:Around)(outer:List Env)(s:Shared)(H:Hp)(E:XK)(N:List Str)(q:Str)(st:Stmt):Cx:=fZ (eT P w) P w KC.K mg base N q (aa st) fa cdv A outer s H E
variable(P)(w)(mg)(base)
abbrev BV(k:Nat)(G:List D->Option Rx):Prop:=tP P w mg base "Points" k ["points"] [.av] .Points "held" G
abbrev Ry(k:Nat)(G:List D->Option Rt):Prop:=gj P w mg base .Points "__eq__" k ["self","other"] (aX G)
abbrev Rz(k:Nat)(G:List D->Option Rt):Prop:=gj P w mg base .Points "__len__" k ["self"] (aX G)
abbrev RA(k:Nat)(G:List D->Option Rt):Prop:=gj P w mg base .Points "__repr__" k ["self"] (aX G)
abbrev RB(k:Nat)(G:List D->Option Rt):Prop:=gj P w mg base .Points "has" k ["self","point"] (aX G)
abbrev RC(k:Nat)(G:List D->Option Rx):Prop:=qY P w mg base .Points "less" k "point" (iH G)
abbrev RD(k:Nat)(G:List D->Option Rx):Prop:=qY P w mg base .Points "more" k "points" (iH G)
abbrev RE(k:Nat)(G:List D->Option Rt):Prop:=eW P w mg base "_law_cell_at" k ["_law_script","_law_k"] (aX G)
abbrev RF(k:Nat)(G:GI):Prop:=eW P w mg base "_law_point" k ["_law_pool_here","_law_keys","_law_moments"] (mH G)
abbrev RG(k:Nat)(G:List D->Option Rt):Prop:=eW P w mg base "_law_pool" k ["_law_script","_law_k"] (aX G)
abbrev RH(k:Nat)(G:List D->Option Rt):Prop:=eW P w mg base "_law_sorted" k ["_law_spots"] (aX G)
abbrev HC(k:Nat)(G:GI):Prop:=eW P w mg base "_law_take" k ["_law_pool_here","_law_many"] (mH G)
abbrev HD(k:Nat)(G:List D->Option Rt):Prop:=eW P w mg base "in_order" k ["points"] (aX G)
abbrev RI(k:Nat)(G:List D->Option Rt):Prop:=eW P w mg base "is_key" k ["thing"] (aX G)
abbrev HE(k:Nat)(G:List D->Option Rt):Prop:=eW P w mg base "is_point" k ["thing"] (aX G)
abbrev HF(k:Nat)(G:List D->Option Rx):Prop:=vQ P w mg base "look_at_points" k ["thing"] (iH G)
variable{P}{w}{mg}{base}
variable{bG:List D->Option Rx}{bL:Nat}{ZY:List D->Option Rt}{bW:Nat}{gC:List D->Option Rt}{bM:Nat}{fL:List D->Option Rt}{bD:Nat}{mW:List D->Option Rt}{c8:Nat}{kK:List D->Option Rx}{cD:Nat}{kM:List D->Option Rx}{cE:Nat}{lN:List D->Option Rt}{cf:Nat}{jT:GI}{c9:Nat}{jU:List D->Option Rt}{dJ:Nat}{kQ:List D->Option Rt}{cF:Nat}{fK:GI}{bE:Nat}{e_:List D->Option Rt}{bR:Nat}{lM:List D->Option Rt}{g9:Nat}{fJ:List D->Option Rt}{bS:Nat}{eP:List D->Option Rx}{aR:Nat}
theorem RJ:ak ["points"] ["points"] (aa pS):=gU
theorem RK(M:Nm mg)  (hr:g8 k A s fa cdv "in_order" pS) :
 cJ (jy P w mg base fa cdv A outer s H E ["points"] "in_order" pS) EN ios (af pS) (Bh ) :=
 (cA (dW (qI rfl (nG (Nc:=["moment","key"]) (own:=2) (fr:=[]) (sc:=aa pS) (N:=["points"]) rfl rfl (by decide +kernel)) (by decide) (o5 (Ou M.g6 rfl hr rfl (nG (Nc:=["key","moment"]) (own:=2) (fr:=[]) (sc:=aa pS) (N:=["points"]) rfl rfl (by decide +kernel)) (by decide) (Ph (vn 0)) wG (fun _ _ _ _ _ _=>(qe rfl (jF (gE (i:=0) (show(["key","moment"]:List Str).Nodup by decide +kernel) rfl (fH rfl)) (jF (gE (i:=1) (show(["key","moment"]:List Str).Nodup by decide +kernel) rfl (fH rfl)) qc)))) (tU _ _) wH (fun _ _ _ _ _ _=>ph) (fun _ _ _ _ _ _=>(sG (aA (vn 1) (aA (vn 0) aL)))))) wG (fun _ _ _ _ _ _=>(qe rfl (jF (gE (i:=0) (show(["moment","key"]:List Str).Nodup by decide +kernel) rfl (fH rfl)) (jF (gE (i:=1) (show(["moment","key"]:List Str).Nodup by decide +kernel) rfl (fH rfl)) qc)))) (tU _ _) wH (fun _ _ _ _ _ _=>ph) (fun _ _ _ _ _ _=>(sG (aA (vn 1) (aA (vn 0) aL)))))))
theorem RL:ak ["thing"] ["thing"] (aa ur):=gU
theorem RM(M:Nm mg)  (hr:g8 k A s fa cdv "is_key" ur) :
 cJ (jy P w mg base fa cdv A outer s H E ["thing"] "is_key" ur) EN ios (af ur) (Bj ) :=
 (cA (dW (mf (vT .int M.a6 M.uh (vn 0)) (mf (Mx (vT .bool M.a6 M.kT (vn 0))) (sA (Ms C_ C_ Ew Ew bU (vn 0) (zJ M.iJ rfl)))))))
theorem RN:ak ["thing"] ["thing"] (aa uu):=gU
theorem RO(M:Nm mg)(g_:RI P w mg base g9 lM)(hU:g9<=k)(hr:g8 k A s fa cdv "is_point" uu) :
 cJ (jy P w mg base fa cdv A outer s H E ["thing"] "is_point" uu) EN ios (af uu) (Bk lM) :=
 (cA (dW (mf (vT .tuple M.a6 M.dY (vn 0)) (mf (jI (vf hr) vg (vB mn mq M.cB (aA (vn 0) aL)) bU (cV _)) (mf (mI g_ (hr.mono hU) rfl (aA (lC (vn 0) bU) aL)) (sA (mI g_ (hr.mono hU) rfl (aA (lC (vn 0) bU) aL))))))))
theorem a8:ak ["thing","number","point"] ["thing"] (aa uv):=gU
theorem RP(M:Nm mg)(cN:HE P w mg base bS fJ)(cP:bS<=k)(hr:g8 k A s fa cdv "look_at_points" uv)(hk2:2<=k) :
 cJ (rn P w mg base fa cdv A outer s H E ["thing","number","point"] "look_at_points" uv) (fun _=>E) ios (af uv) (Bl fJ) :=
 (cK (iU (ny (qs (y_ (yZ (OK (fun _ ha=>j9 OG rfl M.a6 (by decide +kernel) (gG ha (gG (Dh (gG (rQ (v:=.ty "list") (u:=.type "list") rfl M.kU (by decide +kernel) rfl) (gG (rQ (v:=.ty "tuple") (u:=.type "tuple") rfl M.dY (by decide +kernel) rfl) lb))) lb))) (vn 0)))) (qr (eI yd zg (vB mn mq M.cB (aA (vn 0) aL)) (zJ M.cC rfl) (cV _)))))
  (cA (vU nj (M.eh _ _ _) hr (by omega) M.eg (aA sv aL)))
  iT)
  (cA (ES (n:=3) (Pm (fun _ ha=>Mh rfl M.dI ha) (fun _ ha=>Pg rfl M.dI ha) (aA (vn 0) aL)) (tU _ _)
  (cA (iU (y_ (yZ (mI cN (hr.mono cP) rfl (aA (vn 2) aL))))
  (cA (vU nj (M.eh _ _ _) hr (by omega) M.eg (aA (vn 1) aL)))
  iT)) (fun _ _ h1 h2=>xZ PassesOwn.leaving rfl h1 (qe rfl (jF (gE (i:=1) a8.nd rfl (fH rfl)) (jF (gE (i:=2) a8.nd rfl (fH rfl)) qc))) h2))))
theorem fM:ak ["self","points"] ["self","points"] (aa m3):=gU
theorem RQ(M:Nm mg)(cQ:HD P w mg base bR e_)(cR:bR<=k)(a_:HF P w mg base aR eP)(ba:aR<=k)(hr:g8 k A s fa cdv "Points.__init__" m3)(hk2:2<=k) :
 VJ 0 (rn P w mg base fa cdv A outer s H E ["self","points"] "Points.__init__" m3) (fun _=>E) ios Hz (wU e_ eP)/\VJ 0 (rn P w mg base fa cdv A outer s H E ["self","points"] "Points.__init__" m3) (fun _=>E) ios HA (wV e_ eP)/\VE (rn P w mg base fa cdv A outer s H E ["self","points"] "Points.__init__" m3) (fun _=>E) ios HB (wW e_ eP) :=
 ⟨(OC (eI Kg MC (vn 1) sv (cV _)) (OA (OD (i:=1) (by decide) fM.nd rfl (fH rfl) (gJ aL))) Oz),
   (OB (FK nj a_ (hr.mono ba) rfl (aA (vn 1) aL))),
   (mI cQ (hr.mono cR) rfl (aA (vn 1) aL))⟩
theorem RR:ak ["self","other"] ["self","other"] (aa uw):=gU
theorem RS(M:Nm mg)  (hr:g8 k A s fa cdv "Points.__eq__" uw) :
 cJ (jy P w mg base fa cdv A outer s H E ["self","other"] "Points.__eq__" uw) EN ios (af uw) (wX ) :=
 (cA (dW (mf (vK M.kW M.a6 M.g7 (vn 1)) (sA (jI (vf hr) vg (pM M.aN M.bC (vn 0)) (pM M.aN M.bC (vn 1)) (cV _))))))
theorem RT:ak ["self"] ["self"] (aa ux):=gU
theorem RU(M:Nm mg)  (hr:g8 k A s fa cdv "Points.__len__" ux) :
 cJ (jy P w mg base fa cdv A outer s H E ["self"] "Points.__len__" ux) EN ios (af ux) (Bm ) :=
 (cA (dW (vB mn mq M.cB (aA (pM M.aN M.bC (vn 0)) aL))))
theorem RW:ak ["self"] ["self"] (aa uy):=gU
theorem RX(M:Nm mg)  (hr:g8 k A s fa cdv "Points.__repr__" uy) :
 cJ (jy P w mg base fa cdv A outer s H E ["self"] "Points.__repr__" uy) EN ios (af uy) (Bn ) :=
 (cA (dW (P7 hr M.uq p9 (pM M.aN M.bC (vn 0)) p9 (by decide))))
theorem RY:ak ["self","point"] ["self","point"] (aa uz):=gU
theorem RZ(M:Nm mg)(cN:HE P w mg base bS fJ)(cP:bS<=k)(hr:g8 k A s fa cdv "Points.has" uz) :
 cJ (jy P w mg base fa cdv A outer s H E ["self","point"] "Points.has" uz) EN ios (af uz) (Bo fJ) :=
 (cA (dW (mf (mI cN (hr.mono cP) rfl (aA (vn 1) aL)) (sA (jI (OL hr) OM (vn 1) (pM M.aN M.bC (vn 0)) rfl)))))
theorem R9:ak ["self","point"] ["self","point"] (aa rk):=gU
theorem R_(M:Nm mg)(aE:BV P w mg base bL bG)(aF:bL+1<=k)(gk:RB P w mg base c8 mW)(gn:c8<=k)(hr:g8 k A s fa cdv "Points.less" rk)(hk2:2<=k) :
 cJ (rn P w mg base fa cdv A outer s H E ["self","point"] "Points.less" rk) (fun _=>E) ios (af rk) (Bp bG mW) :=
 (cK (iU (y_ (yZ (OX M.aN gk (hr.mono gn) (vn 0) (aA (vn 1) aL))))
  (cA (vU nj (M.jw _ _ _) hr (by omega) M.ju (aA (vn 1) aL)))
  iT)
  (cA (dW (VY.ve (lG nj aE (hr.mono aF) rfl (aA (qI rfl (nG (Nc:=["other","point"]) (own:=1) (fr:=[1]) (sc:=aa rk) (N:=["self","point"]) rfl rfl (by decide +kernel)) (by decide) (o5 (pM M.aN M.bC (vn 0))) (u0 (by decide)) (fun _ _ _ _ _ _=>(gE (i:=0) (show(["other","point"]:List Str).Nodup by decide +kernel) rfl (fH rfl))) (o3 (by decide)) (qH (by decide)) (fun _ _ _ _ _ _=>Nb (eI (jh hr) ji (vn 0) (vn 1) (cV _))) (fun _ _ _ _ _ _=>(vn 0))) aL))))))
theorem cm:ak ["self","points","together"] ["self","points"] (aa uA):=gU
theorem Sa(M:Nm mg)(aE:BV P w mg base bL bG)(aF:bL+1<=k)(cQ:HD P w mg base bR e_)(cR:bR<=k)(a_:HF P w mg base aR eP)(ba:aR<=k)(hr:g8 k A s fa cdv "Points.more" uA)(hk2:2<=k) :
 cJ (rn P w mg base fa cdv A outer s H E ["self","points","together"] "Points.more" uA) (fun _=>E) ios (af uA) (Bq bG e_ eP) :=
 (cK (zo (FK nj a_ (hr.mono ba) rfl (aA (vn 1) aL)))
  (cK (vS 2 cm.nd (mI cQ (hr.mono cR) rfl (aA (dk mi mj (pM M.aN M.bC (vn 0)) (kj (fun _ ha=>qm Lc rfl M.kU (by decide +kernel) ha) MJ (aA (vn 1) aL))) aL)))
  (cK (iU (eI yd zg (vB mn mq M.cB (aA (vn 2) aL)) (zJ M.cC rfl) (cV _))
  (cA (vU nj (M.jx _ _ _) hr (by omega) M.jv (aA (vB mn mq M.cB (aA (vn 2) aL)) aL)))
  iT)
  (cA (dW (VY.ve (lG nj aE (hr.mono aF) rfl (aA (vn 2) aL))))))))
theorem c_:ak ["_law_pool_here","_law_many","_law_found"] ["_law_pool_here","_law_many"] (aa uB):=gU
theorem Sb(M:Nm mg)  (hr:g8 k A s fa cdv "_law_take" uB) :
 cJ (jy P w mg base fa cdv A outer s H E ["_law_pool_here","_law_many","_law_found"] "_law_take" uB) EN ios (af uB) (wY ) :=
 (cK (iU (eI yd zg (lC (vn 0) bU) bU (cV _))
  (cK (vS 2 c_.nd (dk oi oS (lC (vn 0) bU) (vn 1)))
  (cK (EK (n:=0) (dk CZ Ey (lC (vn 0) bU) (vn 1)) (EL (EE:=EN) E4) (fun _ h=>CQ h (CP (pv 0) (VE.pe (EE:=EN) bU) set_list)))
  (cA (dW (vn 2)))))
  iT)
  (cK (EK (n:=0) (dk oi oS (dk mi mj (dk oh oV (lC (vn 0) bU) bU) bU) bU) (EL (EE:=EN) E4) (fun _ h=>CQ h (CP (pv 0) (VE.pe (EE:=EN) bU) set_list)))
  (cA (dW (dk oi oS (dk CZ Ey (dk oi oS (dk oh oV (lC (vn 0) bU) (lC (vn 0) bU)) bU) bU) (vn 1))))))
theorem Se:ak ["_law_pool_here","_law_keys","_law_moments"] ["_law_pool_here","_law_keys","_law_moments"] (aa uC):=gU
theorem Sf(M:Nm mg)(bj:HC P w mg base bE fK)(bo:bE<=k)(hr:g8 k A s fa cdv "_law_point" uC) :
 cJ (jy P w mg base fa cdv A outer s H E ["_law_pool_here","_law_keys","_law_moments"] "_law_point" uC) EN ios (af uC) (Br fK) :=
 (cA (dW (sG (aA (sZ bj (hr.mono bo) rfl (aA (vn 0) (aA (vn 1) aL))) (aA (sZ bj (hr.mono bo) rfl (aA (vn 0) (aA (vn 2) aL))) aL)))))
theorem Sg:ak ["_law_script","_law_k"] ["_law_script","_law_k"] (aa uD):=gU
theorem Sh(M:Nm mg)  (hr:g8 k A s fa cdv "_law_cell_at" uD) :
 cJ (jy P w mg base fa cdv A outer s H E ["_law_script","_law_k"] "_law_cell_at" uD) EN ios (af uD) (wZ ) :=
 (cK (iU (eI C9 Eu (vn 1) (vB mn mq M.cB (aA (vn 0) aL)) (cV _))
  (cA (dW (lC (vn 0) (vn 1))))
  iT)
  (cA (dW bU)))
theorem bu:ak ["_law_script","_law_k","_law_cell","_law_seed"] ["_law_script","_law_k"] (aa uE):=gU
theorem Si(M:Nm mg)(eo:RE P w mg base cf lN)(et:cf<=k)(hr:g8 k A s fa cdv "_law_pool" uE) :
 cJ (jy P w mg base fa cdv A outer s H E ["_law_script","_law_k","_law_cell","_law_seed"] "_law_pool" uE) EN ios (af uE) (w6 lN) :=
 (cK (vS 2 bu.nd (mI eo (hr.mono et) rfl (aA (vn 0) (aA (vn 1) aL))))
  (cK (vS 3 bu.nd (dk oi oS (dk oh oV (dk mi mj (dk mi mj (dk mi mj (dk oi oS (vn 2) bU) (dk oh oV (dk oh oV bU (vn 1)) (vn 1))) (dk oh oV bU (vn 1))) bU) bU) bU))
  (cK (iU (eI C9 Eu (vn 2) (dk Kb MA bU bU) (cV _))
  (cA (vS 2 bu.nd bU))
  iT)
  (cA (dW (gJ (aA (vn 2) (aA (dk oi oS (dk oh oV (vn 3) (vn 3)) bU) aL))))))))
theorem Sj:ak ["_law_spots"] ["_law_spots"] (aa pT):=gU
theorem Sk(M:Nm mg)  (hr:g8 k A s fa cdv "_law_sorted" pT) :
 cJ (jy P w mg base fa cdv A outer s H E ["_law_spots"] "_law_sorted" pT) EN ios (af pT) (Bt ) :=
 (cA (dW (qI rfl (nG (Nc:=["_law_moment","_law_key"]) (own:=2) (fr:=[]) (sc:=aa pT) (N:=["_law_spots"]) rfl rfl (by decide +kernel)) (by decide) (o5 (O9 hr M.g6 rfl M.uk rfl rfl (aA (qI rfl (nG (Nc:=["_law_key","_law_moment"]) (own:=2) (fr:=[]) (sc:=aa pT) (N:=["_law_spots"]) rfl rfl (by decide +kernel)) (by decide) (o5 (vn 0)) wG (fun _ _ _ _ _ _=>(qe rfl (jF (gE (i:=0) (show(["_law_key","_law_moment"]:List Str).Nodup by decide +kernel) rfl (fH rfl)) (jF (gE (i:=1) (show(["_law_key","_law_moment"]:List Str).Nodup by decide +kernel) rfl (fH rfl)) qc)))) (tU _ _) wH (fun _ _ _ _ _ _=>ph) (fun _ _ _ _ _ _=>(sG (aA (vn 1) (aA (vn 0) aL))))) aL))) wG (fun _ _ _ _ _ _=>(qe rfl (jF (gE (i:=0) (show(["_law_moment","_law_key"]:List Str).Nodup by decide +kernel) rfl (fH rfl)) (jF (gE (i:=1) (show(["_law_moment","_law_key"]:List Str).Nodup by decide +kernel) rfl (fH rfl)) qc)))) (tU _ _) wH (fun _ _ _ _ _ _=>ph) (fun _ _ _ _ _ _=>(sG (aA (vn 1) (aA (vn 0) aL)))))))
theorem bb:ak ["_law_script","_law_kept","_law_rows","_law_k","_law_pool_here","_law_wide","_law_points","_law_spots","_law_made","_law_same","_law_other","_law_row"] ["_law_script"] (aa lO):=gU
theorem HG(M:Nm mg)(aE:BV P w mg base bL bG)(aF:bL+1<=k)(au:Ry P w mg base bW ZY)(jV:bW+3<=k)(bf:Rz P w mg base bM gC)(jz:bM+3<=k)(aH:RA P w mg base bD fL)(i6:bD+3<=k)(fb:RC P w mg base cD kK)(fc:cD<=k)(fh:RD P w mg base cE kM)(fj:cE<=k)(gp:RF P w mg base c9 jT)(gq:c9<=k)(hV:RG P w mg base dJ jU)(hW:dJ<=k)(fk:RH P w mg base cF kQ)(fm:cF<=k)(bj:HC P w mg base bE fK)(bo:bE<=k)(hr:g8 k A s fa cdv "law" lO) :
 cJ (jy P w mg base fa cdv A outer s H E ["_law_script","_law_kept","_law_rows","_law_k","_law_pool_here","_law_wide","_law_points","_law_spots","_law_made","_law_same","_law_other","_law_row"] "law" lO) EN ios (af lO) (Bu bG ZY gC fL kK kM jT jU kQ fK) :=
 (cK (vS 1 bb.nd (gJ aL))
  (cK (vS 2 bb.nd (gJ aL))
  (cK (ES (n:=12) (EO (fun _ ha=>CV rfl M.i5 ha) (aA (vB (Kl rfl) MG M.ui (aA bU (aA (vB (Km rfl) MI M.uj (aA bU (aA (vB mn mq M.cB (aA (vn 0) aL)) aL))) aL))) aL)) (o3 (by decide))
  (cK (vS 4 bb.nd (mI hV (hr.mono hW) rfl (aA (vn 0) (aA (vn 3) aL))))
  (cK (vS 5 bb.nd (dk mi mj bU (sZ bj (hr.mono bo) rfl (aA (vn 4) (aA bU aL)))))
  (cK (Nd (i:=6) bb.nd rfl (fH rfl) rfl (nG (Nc:=["_law_turn","_law_pool_here","_law_wide"]) (own:=1) (fr:=[4,5]) (sc:=aa lO) (N:=["_law_script","_law_kept","_law_rows","_law_k","_law_pool_here","_law_wide","_law_points","_law_spots","_law_made","_law_same","_law_other","_law_row"]) rfl rfl (by decide +kernel)) (by decide) (EO (fun _ ha=>CV rfl M.i5 ha) (aA (sZ bj (hr.mono bo) rfl (aA (vn 4) (aA bU aL))) aL)) (u0 (by decide)) (fun _ _ _ _ _ _=>(gE (i:=0) (show(["_law_turn","_law_pool_here","_law_wide"]:List Str).Nodup by decide +kernel) rfl (fH rfl))) (o3 (by decide)) (qH (by decide)) (fun _ _ _ _ _ _=>ph) (fun _ _ _ _ _ _=>(sZ gp (hr.mono gq) rfl (aA (vn 1) (aA (vn 2) (aA (vn 2) aL))))))
  (cK (vS 7 bb.nd (mI fk (hr.mono fm) rfl (aA (vn 6) aL)))
  (cK (vS 8 bb.nd (VY.ve (lG jo aE (hr.mono aF) rfl (aA (vn 6) aL))))
  (cK (vS 9 bb.nd (gJ (aA (VY.ve (lG jo aE (hr.mono aF) rfl (aA (MR (vn 6) zj zj Nl) aL))) (aA (VY.ve (lG jo aE (hr.mono aF) rfl (aA (kj (fun _ ha=>qm DD rfl M.dY (by decide +kernel) ha) ED (aA (dk mi mj (vn 6) (vn 6)) aL)) aL))) (aA (VY.ve (lG jo aE (hr.mono aF) rfl (aA (vn 7) aL))) (aA (GL jo M.aN fh (hr.mono fj) (VY.ve (lG jo aE (hr.mono aF) rfl (aA (vn 7) aL))) (aA (gJ aL) aL)) aL))))))
  (cK (iU (ny (qs (eI (jh hr) ji (qI rfl (nG (Nc:=["_law_one","_law_made"]) (own:=1) (fr:=[8]) (sc:=aa lO) (N:=["_law_script","_law_kept","_law_rows","_law_k","_law_pool_here","_law_wide","_law_points","_law_spots","_law_made","_law_same","_law_other","_law_row"]) rfl rfl (by decide +kernel)) (by decide) (o5 (vn 9)) (u0 (by decide)) (fun _ _ _ _ _ _=>(gE (i:=0) (show(["_law_one","_law_made"]:List Str).Nodup by decide +kernel) rfl (fH rfl))) (o3 (by decide)) (qH (by decide)) (fun _ _ _ _ _ _=>ph) (fun _ _ _ _ _ _=>(jI (wJ au (hr.mono (by omega))) wI (vn 0) (vn 1) (cV _)))) (dk DJ FG (gJ (aA lq aL)) bU) (cV _)) (qr (eI (jh hr) ji (qI rfl (nG (Nc:=["_law_one","_law_made"]) (own:=1) (fr:=[8]) (sc:=aa lO) (N:=["_law_script","_law_kept","_law_rows","_law_k","_law_pool_here","_law_wide","_law_points","_law_spots","_law_made","_law_same","_law_other","_law_row"]) rfl rfl (by decide +kernel)) (by decide) (o5 (vn 9)) (u0 (by decide)) (fun _ _ _ _ _ _=>(gE (i:=0) (show(["_law_one","_law_made"]:List Str).Nodup by decide +kernel) rfl (fH rfl))) (o3 (by decide)) (qH (by decide)) (fun _ _ _ _ _ _=>ph) (fun _ _ _ _ _ _=>(jI (GW M.a7 au (hr.mono (by omega))) GV (vn 0) (vn 1) (cV _)))) (dk DJ FG (gJ (aA lq aL)) bU) (cV _)))))
  (cA (dW lq))
  iT)
  (cK (zo (EG (fun _ ha=>DF PySem.F.plainAttrs_list PySem.F.slot_list_append PySem.F.type_list_append yn (pv 1) ha) EH (aA (vn 8) aL)))
  (cK (zo (EG (fun _ ha=>DF PySem.F.plainAttrs_list PySem.F.slot_list_append PySem.F.type_list_append yn (pv 2) ha) EH (aA (vn 7) aL)))
  (cK (Qj (js:=[10,11]) (Qh (P4 (fun _ ha=>P1 rfl M.uo ha) (aA (vn 1) (aA (vn 2) aL))) (Qe (G3 (G2 fun k h e=>h (by simp[e])) (G3 (G2 fun k h e=>h (by simp[e])) Qd)))
  (G1 (Qc (ny (qs (eI (jh hr) ji (jI (wJ au (hr.mono (by omega))) wI (vn 8) (vn 10) (cV _)) (jI (vf hr) vg (vn 7) (vn 11) (cV _)) (cV _)) (qr (eI (jh hr) ji (jI (GW M.a7 au (hr.mono (by omega))) GV (vn 8) (vn 10) (cV _)) (jI (jh hr) ji (vn 7) (vn 11) (cV _)) (cV _))))) (G1 (Qb lq)) Qa)) (fun _ _ h1 h2=>xZ PassesOwn.never rfl h1 (qe rfl (jF (gE (i:=10) bb.nd rfl (fH rfl)) (jF (gE (i:=11) bb.nd rfl (fH rfl)) qc))) h2)))
  (cK (iU (ny (Ep (eI (jh hr) ji (vn 7) (gJ aL) (cV _)) (Eo (eI (wJ au (hr.mono (by omega))) wI (vn 8) (GL jo M.aN fb (hr.mono fc) (vn 8) (aA (lC (vn 7) bU) aL)) (cV _)))))
  (cA (dW lq))
  iT)
  (cK (iU (ny (Ep (eI (jh hr) ji (vn 7) (gJ aL) (cV _)) (Eo (eI (Be M.a7 au (hr.mono (by omega))) Bd (vn 8) (gJ (aA (VY.ve (lG jo aE (hr.mono aF) rfl (aA (MQ (vn 7) (MO bU) zj) aL))) (aA sv (aA (vn 7) aL)))) rfl))))
  (cA (dW lq))
  iT)
  (cK (iU (ny (qs (eI (PQ M.a7 au (hr.mono (by omega))) PN (vn 8) (gJ (aA sv (aA (VY.ve (lG jo aE (hr.mono aF) rfl (aA (vn 7) aL))) aL))) rfl) (qr (eI (Be M.a7 au (hr.mono (by omega))) Bd (vn 8) (gJ (aA (vn 7) (aA (kj (fun _ ha=>qm DD rfl M.dY (by decide +kernel) ha) ED (aA (vn 7) aL)) (aA sv (aA (kj (fun _ ha=>j9 (wK aH (hr.mono (by omega))) rfl M.ef (by decide +kernel) ha) tY (aA (vn 8) aL)) aL))))) rfl))))
  (cA (dW lq))
  iT)
  (cK (iU (ny (qs (eI (Be M.a7 au (hr.mono (by omega))) Bd (vn 8) (gJ (aA (vB mn mq M.cB (aA (vn 7) aL)) (aA (gJ (aA (vn 8) aL)) aL))) rfl) (qr (eI (jh hr) ji (kj (fun _ ha=>j9 (PR bf (hr.mono (by omega))) rfl M.cB PySem.boot_len ha) PL (aA (vn 8) aL)) (vB mn mq M.cB (aA (vn 7) aL)) (cV _)))))
  (cA (dW lq))
  iT)
  (cK (iU (eI (jh hr) ji (kj (fun _ ha=>qm (PU M.a7 bf (hr.mono (by omega))) rfl M.kT (by decide +kernel) ha) zhE (aA (vn 8) aL)) (jI (jh hr) ji (vn 7) (gJ aL) (cV _)) (cV _))
  (cA (dW lq))
  iT)
  (cA (iU (ny (qs (eI (jh hr) ji (kj (fun _ ha=>j9 (wK aH (hr.mono (by omega))) rfl M.ef (by decide +kernel) ha) tY (aA (vn 8) aL)) (dk mi mj (dk mi mj yY (vB (O0 hr M.uq) O3 M.ef (aA (vn 7) aL))) yY) (cV _)) (qr (eI (jh hr) ji (kj (fun _ ha=>qm (PV M.a7 aH (hr.mono (by omega))) rfl M.um (by decide +kernel) ha) tY (aA (vn 8) aL)) (kj (fun _ ha=>j9 (wK aH (hr.mono (by omega))) rfl M.ef (by decide +kernel) ha) tY (aA (vn 8) aL)) (cV _)))))
  (cA (dW lq))
  iT))))))))))))))))) (fun _ _ h1 h2=>xZ PassesOwn.never rfl h1 (gE (i:=3) bb.nd rfl (fH rfl)) h2))
  (cA (dW (mf (jI (vf hr) vg (kj (fun _ ha=>j9 (wK aH (hr.mono (by omega))) rfl M.ef (by decide +kernel) ha) tY (aA (AM jo aE (hr.mono aF) rfl) aL)) yY (cV _)) (mf (jI (wJ au (hr.mono (by omega))) wI (AM jo aE (hr.mono aF) rfl) (VY.ve (lG jo aE (hr.mono aF) rfl (aA (gJ aL) aL))) (cV _)) (sA (P_ M.a7 bf (hr.mono (by omega)) (AM jo aE (hr.mono aF) rfl))))))))))
end
end cq
namespace cq
open PySem L2 Ex Dv
section
variable[KC]{P:Program}{w:World}{mg:Str->Option Value}{base:Heap}
structure gr(mg:Str->Option Value):Prop where
 iK:At mg "in_order" pS
 kX:At mg "is_key" ur
 iL:At mg "is_point" uu
 dF:At mg "look_at_points" uv
 kY:Gw .Points "Points.__init__" m3 ["points"]
 dS:mP .Points "__eq__" "Points.__eq__" uw
 dG:mP .Points "__len__" "Points.__len__" ux
 df:mP .Points "__repr__" "Points.__repr__" uy
 gu:mP .Points "has" "Points.has" uz
 fq:mP .Points "less" "Points.less" rk
 ft:mP .Points "more" "Points.more" uA
 hZ:At mg "_law_take" uB
 gv:At mg "_law_point" uC
 eA:At mg "_law_cell_at" uD
 h_:At mg "_law_pool" uE
 fu:At mg "_law_sorted" pT
 uF:At mg "law" lO
theorem HH(T:gr mg)(M:Nm mg):eW P w mg base "in_order" 1 ["points"] (aX e_) :=
 pj (k:=0) T.iK RJ (fun _ _ _ _ _ _=>mR fun _=>rfl) (fun _ _ _ _ _ _ _ hr=>RK M  hr) (fun _ _ h=>jQ h)
theorem Sn(T:gr mg)(M:Nm mg):eW P w mg base "is_key" 1 ["thing"] (aX lM) :=
 pj (k:=0) T.kX RL (fun _ _ _ _ _ _=>mR fun _=>rfl) (fun _ _ _ _ _ _ _ hr=>RM M  hr) (fun _ _ h=>jQ h)
theorem HI(T:gr mg)(M:Nm mg):eW P w mg base "is_point" 2 ["thing"] (aX fJ) :=
 pj (k:=1) T.iL RN (fun _ _ _ _ _ _=>mR fun _=>rfl) (fun _ _ _ _ _ _ _ hr=>RO M (Sn T M) (by omega) hr) (fun _ _ h=>jQ h)
theorem HJ(T:gr mg)(M:Nm mg):vQ P w mg base "look_at_points" 3 ["thing"] (iH eP) :=
 NJ (k:=2) T.dF a8 (fun _ _ _ _ _ _=>mR fun _=>rfl) (fun _ _ _ _ _ _ _ hr=>RP M (HI T M) (by omega) hr (by omega)) (fun _ _ h=>Ao h)
theorem xq(T:gr mg)(M:Nm mg):tP P w mg base "Points" 4 ["points"] [.av] .Points "held" bG :=
 OW (k:=3) (st1:=Hz) (st2:=HA) (e:=HB) T.kY M.g7 fM rfl M.aN M.bC rfl (by decide) (fun _ _ _ _ _ _ _ hr=>let ⟨h1,h2,h3⟩:=RQ M (HH T M) (by omega) (HJ T M) (by omega) hr (by omega); ⟨h1,h2,h3,pv 0,rfl⟩)
theorem HK(T:gr mg)(M:Nm mg):gj P w mg base .Points "__eq__" 1 ["self","other"] (aX ZY) :=
 wu (k:=0) T.dS RR (fun _ _ _ _ _ _=>mS fun _ _=>rfl) (fun _ _ _ _ _ _ _ hr=>RS M  hr) (fun _ _ h=>jQ h)
theorem HL(T:gr mg)(M:Nm mg):gj P w mg base .Points "__len__" 1 ["self"] (aX gC) :=
 wu (k:=0) T.dG RT (fun _ _ _ _ _ _=>mR fun _=>rfl) (fun _ _ _ _ _ _ _ hr=>RU M  hr) (fun _ _ h=>jQ h)
theorem HM(T:gr mg)(M:Nm mg):gj P w mg base .Points "__repr__" 1 ["self"] (aX fL) :=
 wu (k:=0) T.df RW (fun _ _ _ _ _ _=>mR fun _=>rfl) (fun _ _ _ _ _ _ _ hr=>RX M  hr) (fun _ _ h=>jQ h)
theorem Sr(T:gr mg)(M:Nm mg):gj P w mg base .Points "has" 3 ["self","point"] (aX mW) :=
 wu (k:=2) T.gu RY (fun _ _ _ _ _ _=>mS fun _ _=>rfl) (fun _ _ _ _ _ _ _ hr=>RZ M (HI T M) (by omega) hr) (fun _ _ h=>jQ h)
theorem HN(T:gr mg)(M:Nm mg):qY P w mg base .Points "less" 6 "point" (iH kK) :=
 GK (k:=5) T.fq R9 (fun _ _ _ _ _ _ _ _=>rfl) (fun _ _ _ _ _ _ _ _=>rfl) (fun _ _ _ _ _ _ _ hr=>R_ M (xq T M) (by omega) (Sr T M) (by omega) hr (by omega)) (fun _ _ h=>Ao h)
theorem HP(T:gr mg)(M:Nm mg):qY P w mg base .Points "more" 6 "points" (iH kM) :=
 GK (k:=5) T.ft cm (fun _ _ _ _ _ _ _ _=>rfl) (fun _ _ _ _ _ _ _ _=>rfl) (fun _ _ _ _ _ _ _ hr=>Sa M (xq T M) (by omega) (HH T M) (by omega) (HJ T M) (by omega) hr (by omega)) (fun _ _ h=>Ao h)
theorem BW(T:gr mg)(M:Nm mg):eW P w mg base "_law_take" 1 ["_law_pool_here","_law_many"] (mH fK) :=
 E2 (k:=0) T.hZ c_ (fun _ _ _ _ _ _=>mS fun _ _=>rfl) (fun _ _ _ _ _ _ _ _ hr=>Sb M  hr) (fun _ _ _ h=>E5 h)
theorem HQ(T:gr mg)(M:Nm mg):eW P w mg base "_law_point" 2 ["_law_pool_here","_law_keys","_law_moments"] (mH jT) :=
 E2 (k:=1) T.gv Se (fun _ _ _ _ _ _=>Pp fun _ _ _=>rfl) (fun _ _ _ _ _ _ _ _ hr=>Sf M (BW T M) (by omega) hr) (fun _ _ _ h=>E5 h)
theorem Ss(T:gr mg)(M:Nm mg):eW P w mg base "_law_cell_at" 1 ["_law_script","_law_k"] (aX lN) :=
 pj (k:=0) T.eA Sg (fun _ _ _ _ _ _=>mS fun _ _=>rfl) (fun _ _ _ _ _ _ _ hr=>Sh M  hr) (fun _ _ h=>jQ h)
theorem HR(T:gr mg)(M:Nm mg):eW P w mg base "_law_pool" 2 ["_law_script","_law_k"] (aX jU) :=
 pj (k:=1) T.h_ bu (fun _ _ _ _ _ _=>mS fun _ _=>rfl) (fun _ _ _ _ _ _ _ hr=>Si M (Ss T M) (by omega) hr) (fun _ _ h=>jQ h)
theorem HS(T:gr mg)(M:Nm mg):eW P w mg base "_law_sorted" 1 ["_law_spots"] (aX kQ) :=
 pj (k:=0) T.fu Sj (fun _ _ _ _ _ _=>mR fun _=>rfl) (fun _ _ _ _ _ _ _ hr=>Sk M  hr) (fun _ _ h=>jQ h)
theorem xt(T:gr mg)(M:Nm mg):eW P w mg base "law" 7 ["_law_script"] (aX ua) :=
 pj (k:=6) T.uF bb (fun _ _ _ _ _ _=>mR fun _=>rfl) (fun _ _ _ _ _ _ _ hr=>HG M (xq T M) (by omega) (HK T M) (by omega) (HL T M) (by omega) (HM T M) (by omega) (HN T M) (by omega) (HP T M) (by omega) (HQ T M) (by omega) (HR T M) (by omega) (HS T M) (by omega) (BW T M) (by omega) hr) (fun _ _ h=>jQ h)
theorem Su(T:gr mg)(M:Nm mg){f:Addr}{fd:FuncData}(U:ix KC.K "law" "law" lO f fd):aD P w KC.K mg base bZ 7 f fd ["_law_script"] (aX ua) :=
 zF (k:=6) U bb (fun _ _ _ _ _ _ hr=>HG M (xq T M) (by omega) (HK T M) (by omega) (HL T M) (by omega) (HM T M) (by omega) (HN T M) (by omega) (HP T M) (by omega) (HQ T M) (by omega) (HR T M) (by omega) (HS T M) (by omega) (BW T M) (by omega) hr) (fun _ _ h=>jQ h)
end
end cq
namespace cq
open PySem L2 Ex Dv Tr St So
theorem Sv(Q:List (List C))(q:List C):kL Q++[pO (sw q)]=kL (Q++[q]):=by unfold kL;rw[List.map_append];rfl
theorem Sw(Q:List (List C))(q:List C):rL Q++[.lst (sw q)]=rL (Q++[q]):=by unfold rL;rw[List.map_append];rfl
theorem HU{s1 s2 s3:M Fl}{Γ ag:En}(h:aU s1 s2 Γ = .ok .nx ag){r:Res Fl}(h3:s3 ag=r):aU s1 (aU s2 s3) Γ=r:=by
 rw[zX] at h ⊢
 cases e:s1 Γ with
 |st=>rw[e] at h;cases h
 |ex x Γ'=>rw[e] at h;cases h
 |ok fl Γ' =>
   rw[e] at h
   cases fl with
   |nx=>exact i4 h h3
   |ret v=>cases h
   |brk=>cases h
   |cont=>cases h
theorem Sx{s1 s2 s3 s4:M Fl}{Γ ag:En}(h:aU s1 (aU s2 s3) Γ = .ok .nx ag){r:Res Fl}(h3:s4 ag=r):aU s1 (aU s2 (aU s3 s4)) Γ=r:=by
 rw[zX] at h ⊢
 cases e:s1 Γ with
 |st=>rw[e] at h;cases h
 |ex x Γ'=>rw[e] at h;cases h
 |ok fl Γ' =>
   rw[e] at h
   cases fl with
   |nx=>exact HU h h3
   |ret v=>cases h
   |brk=>cases h
   |cont=>cases h
theorem Sy{ns:List Int}{Q:List (List C)}{k:Nat}{x4 x5 x6 x7 x8 x9 x10 x11:Sl}(hk:k<100)(hQ:Q.length<=100):∃ (q:List C) (y4 y5 y6 y7 y8 y9 y10 y11:Sl),
 BP (lE ns (kL Q) (rL Q) k [x4,x5,x6,x7,x8,x9,x10,x11]) = .ok .nx (lE ns (kL (Q++[q])) (rL (Q++[q])) k [y4,y5,y6,y7,y8,y9,y10,y11]):=by
 obtain⟨ps,y4,y5,hd,hl,sm⟩:=Q7 (ns:=ns) (H:=kL Q) (R:=rL Q) hk (x4:=x4) (x5:=x5) (x6:=x6) (x7:=x7) (x8:=x8) (x9:=x9) (x10:=x10) (x11:=x11)
 have Sz:=Q8 (ns:=ns) (H:=kL Q) (R:=rL Q) (k:=k) (x4:=y4) (x5:=y5) (x7:=x7) (x8:=x8) (x9:=x9) (x10:=x10) (x11:=x11) hl sm
 have h6:=Ra (ns:=ns) (H:=kL Q) (R:=rL Q) (k:=k) (x4:=y4) (x5:=y5) (x9:=x9) (x10:=x10) (x11:=x11) hl sm
 have xp:∀ c∈aM ps,bp c:=fun c hc=>sm c (bz.mp hc)
 have lS:=pQ ps
 have G:Gc (aM ps):=⟨by omega,xp,rj sm⟩
 have hS:(aM ps).length<=100:=by omega
 have h9:=Rf (ns:=ns) (H:=kL (Q++[aM ps])) (R:=rL Q) (k:=k) (q:=aM ps) (x4:=y4) (x5:=y5) (x6:=some (.own,.lst (sw ps))) (x8:=some (.ai,pO (sw (aM ps)))) (x9:=some (.ai,.lst [pO (sw (aM ps)),pO (sw (aM ps)),pO (sw (aM ps)),pO (sw (aM ps))])) (x10:=x10) (x11:=x11) (by simp;omega)
 rw[Sw] at h9
 have h8:=Rc (ns:=ns) (H:=kL Q) (R:=rL Q) (k:=k) (q:=aM ps) (x4:=y4) (x5:=y5) (x6:=some (.own,.lst (sw ps))) (x7:=some (.own,.lst (sw (aM ps)))) (x9:=some (.ai,.lst [pO (sw (aM ps)),pO (sw (aM ps)),pO (sw (aM ps)),pO (sw (aM ps))])) (x10:=x10) (x11:=x11) (by simp;omega)
 rw[Sv] at h8
 exact⟨aM ps,_,_,_,_,_,_,_,_,Sx hd (HU Sz (i4 h6 (i4 Rb (i4 h8 (i4 h9 (i4 (Rr _) (i4 (Rg G) (i4 (Rh G hS) (i4 (Rl G hS) (i4 (Rm hS) (i4 (Rn hS) (Ro G hS))))))))))))⟩
theorem SA(ns:List Int)(h:ns.length<=63):ua [.bH ns]=some (.val (.bl true)):=by
 have ln:=line
 have l0:0<=sizeLine:=by omega
 generalize hn:(if (ns.length:Int)<8 then (ns.length:Int) else 8)=n1
 generalize hn2:(if n1 > 1 then n1 else 1)=n2
 have b1:0<=n1/\n1<=8:=by rw[<- hn];split<;>omega
 have b2:1<=n2/\n2<=8:=by rw[<- hn2];split<;>omega
 have sm:small n2=true:=Ak (by omega)
 obtain⟨Γ',hl,Q,y3,y4,y5,y6,y7,y8,y9,y10,y11,hQ,rfl⟩:=FE (m:=gN 3) (s:=BP)
  (fun i Γ=>∃ (Q:List (List C)) (y3 y4 y5 y6 y7 y8 y9 y10 y11:Sl),Q.length=i/\Γ=[some (.ai,.bH ns),some (.own,.lst (kL Q)),some (.own,.lst (rL Q)),y3,y4,y5,y6,y7,y8,y9,y10,y11])
  (ds:=iF 0 n2.toNat) (Γ:=[some (.ai,.bH ns),some (.own,.lst []),some (.own,.lst []),none,none,none,none,none,none,none,none,none])
  ⟨[],none,none,none,none,none,none,none,none,none,rfl,rfl⟩ (by
   rintro i d Γ hd ⟨Q,y3,y4,y5,y6,y7,y8,y9,y10,y11,hQ,rfl⟩
   obtain⟨rfl,hi⟩:=Qv hd
   obtain⟨q,z4,z5,z6,z7,z8,z9,SD,SE,hz⟩:=Sy (ns:=ns) (Q:=Q) (k:=i) (x4:=y4) (x5:=y5) (x6:=y6) (x7:=y7) (x8:=y8) (x9:=y9) (x10:=y10) (x11:=y11) (by omega) (by omega)
   exact⟨_,_,rfl,.inl (by simpa using hz),Q++[q],some (.ai,.int i),z4,z5,z6,z7,z8,z9,SD,SE,by simp[hQ],rfl⟩)
 have p0:=QF
 have p1:=mZ (x:=.lst (sw [])) (cs:=[]) (.inl rfl) (fun c hc=>by cases hc) (by decide)
 have z:aM []=[]:=List.eq_nil_of_length_eq_zero (Nat.le_zero.mp (pQ []))
 rw[z] at p1
 have e1:=xn [] []
 have r1:=BL (cs:=[]) (fun c hc=>by cases hc) (by decide)
 have t1:ptx []=("Points([])" : Str):=by decide +kernel
 rw[t1] at r1
 have nb:=QY (ds:=[]) (by decide)
 have e0:sw []=[]:=rfl
 rw[e0] at p1 e1 r1
 have q1:gz (.str "Points([])") (.str "Points([])")=some (.val (.bl true)):=by
  show some (RV.val (.bl (decide (_=_))))=_
  rw[qaG rfl]
 unfold ua
 rw[Q5]
 simp[dC,b7,gam,hn,hn2,sm,hl,l0,p0,p1,e1,r1,nb,q1]
end cq
namespace cq
open PySem PySem.W PyProof.Rows Hd
def xE(x:Str):=xC x (.ref 31) [(.type "ValueError")] "ValueError"
abbrev pm0:Value:=vS "law_thirdpoint_k04_points_alike_and_written" 444
abbrev eO:Value:=vS "thirdpoint.errors" 194
abbrev dM:Value:=vS "thirdpoint.points" 297
def KK(P:Params):Frag:=[
 (1,dO P [de "builtins" 162 (.ref 4),de "__main__" 163 (.ref 5)] 2),
 (2,dN P [de "type.__subclasses__.KeyError.0" 264 (vI 70 0),de "type.__subclasses__.KeyError.n" 265 (vI 1 0),de "type.__subclasses__.OverflowError.0" 293 (vI 90 0),de "type.__subclasses__.OverflowError.n" 294 (vI 1 0)] 4),
 (3,dO P [de "__name__" 165 pm0,de "__doc__" 166 .none,de "__package__" 167 .none,de "__loader__" 168 (.builtin "__main__.__loader__#opaque"),de "__spec__" 169 .none,de "__annotations__" 170 (.ref 6),de "__builtins__" 171 (.ref 4),de "__file__" 173 (vS "/claim/cut.py" 172),de "__cached__" 174 .none,de "_wall" 193 (.ref 21),de "PointError" 213 (.ref 31),de "NoPoints" 238 (.ref 51),de "NoPoint" 267 (.ref 70),de "TooMany" 296 (.ref 90),de "LAST_KEY" 300 (vI 30 299),de "MOST_POINTS" 302 (vI 200 301),de "is_key" 309 (.ref 100),de "is_point" 316 (.ref 107),de "look_at_points" 325 (.ref 114),de "in_order" 331 (.ref 119),de "Points" 443 (.ref 212),de "_law_cell_at" 453 (.ref 223),de "_law_pool" 463 (.ref 230),de "_law_take" 472 (.ref 237),de "_law_point" 481 (.ref 244),de "_law_sorted" 487 (.ref 249),de "law" 493 (.ref 254)] 27),
 (30,dO P [de "__module__" 203 eO,de "__firstlineno__" 207 (vI 5 206),de "__static_attributes__" 208 (.ref 29),de "__weakref__" 210 (.ref 32),de "__doc__" 211 .none] 3),
 (31,cO "PointError" [(.type "ValueError")] [(.ref 31),(.type "ValueError"),(.type "Exception"),(.type "BaseException"),(.type "object")] 30 [(.ref 51)] #[some (.ref 22),none,some (vS "PointError" 196),some (vS "PointError" 204),some (.builtin "ValueError.__new__"),some (.bool true)]),
 (47,kP "__init__" "NoPoints.__init__" 226 9 2 42 [0,44,45,46] 231),
 (48,fO "__init__" "NoPoints.__init__" (L2.inClass (top 3) 0) .none eO 47),
 (50,xD P eO 221 7 [de "__init__" 233 (.ref 48)] 235 49),
 (51,xE "NoPoints" 51 50 35 214 222),
 (66,kP "__init__" "NoPoint.__init__" 251 14 2 61 [0,63,64,65] 256),
 (67,fO "__init__" "NoPoint.__init__" (L2.inClass (top 4) 0) .none eO 66),
 (69,dO P [de "__module__" 246 eO,de "__firstlineno__" 250 (vI 12 249),de "__init__" 258 (.ref 67),de "__static_attributes__" 260 (.ref 68),de "__weakref__" 262 (.ref 71),de "__doc__" 263 .none] 3),
 (70,xC "NoPoint" (.type "KeyError") [(.type "LookupError")] "LookupError" 70 69 54 239 247),
 (86,kP "__init__" "TooMany.__init__" 280 19 2 81 [0,83,84,85] 285),
 (87,fO "__init__" "TooMany.__init__" (L2.inClass (top 5) 0) .none eO 86),
 (89,dO P [de "__module__" 275 eO,de "__firstlineno__" 279 (vI 17 278),de "__init__" 287 (.ref 87),de "__static_attributes__" 289 (.ref 88),de "__weakref__" 291 (.ref 91),de "__doc__" 292 .none] 3),
 (90,xC "TooMany" (.type "OverflowError") [(.type "ArithmeticError")] "OverflowError" 90 89 74 268 276),
 (99,kP "is_key" "is_key" 303 25 1 94 [0,96,97,98] 307),
 (100,fQ "is_key" (top 9) dM 99),
 (106,kP "is_point" "is_point" 310 27 1 101 [0,103,104,105] 314),
 (107,fQ "is_point" (top 10) dM 106),
 (113,kP "look_at_points" "look_at_points" 317 29 1 108 [0,110,111,112] 323),
 (114,fQ "look_at_points" (top 11) dM 113),
 (118,kP "in_order" "in_order" 326 35 1 115 [0,0,0,117] 329),
 (119,fQ "in_order" (top 12) dM 118),
 (127,{ cls:=.type "tuple",data:=.seq #[.none] }),
 (133,kP "__init__" "Points.__init__" 344 39 2 128 [0,130,131,132] 349),
 (134,fO "__init__" "Points.__init__" (L2.inClass (top 13) 0) (.ref 127) dM 133),
 (147,kP "has" "Points.has" 359 48 2 142 [0,144,145,146] 364),
 (148,fO "has" "Points.has" (L2.inClass (top 13) 2) .none dM 147),
 (182,kP "more" "Points.more" 397 63 2 177 [0,179,180,181] 403),
 (183,fO "more" "Points.more" (L2.inClass (top 13) 7) .none dM 182),
 (187,kP "less" "Points.less" 406 70 2 184 [0,0,0,186] 409),
 (188,fO "less" "Points.less" (L2.inClass (top 13) 8) .none dM 187),
 (194,kP "__eq__" "Points.__eq__" 412 75 2 189 [0,191,192,193] 417),
 (195,fO "__eq__" "Points.__eq__" (L2.inClass (top 13) 9) .none dM 194),
 (201,kP "__len__" "Points.__len__" 420 78 1 196 [0,198,199,200] 424),
 (202,fO "__len__" "Points.__len__" (L2.inClass (top 13) 10) .none dM 201),
 (208,kP "__repr__" "Points.__repr__" 427 81 1 203 [0,205,206,207] 431),
 (209,fO "__repr__" "Points.__repr__" (L2.inClass (top 13) 11) .none dM 208),
 (211,dO P [de "__module__" 339 dM,de "__firstlineno__" 343 (vI 37 342),de "__init__" 351 (.ref 134),de "points" 358 (.ref 141),de "has" 366 (.ref 148),de "keys_at" 374 (.ref 155),de "moments_of" 382 (.ref 162),de "all_keys" 389 (.ref 169),de "all_moments" 396 (.ref 176),de "more" 405 (.ref 183),de "less" 411 (.ref 188),de "__eq__" 419 (.ref 195),de "__len__" 426 (.ref 202),de "__repr__" 433 (.ref 209),de "__static_attributes__" 435 (.ref 210),de "__dict__" 437 (.ref 213),de "__weakref__" 439 (.ref 214),de "__doc__" 440 .none,de "__hash__" 441 .none] 5),
 (212,cO "Points" [(.type "object")] [(.ref 212),(.type "object")] 211 [] #[none,none,some (vS "Points" 332),some (vS "Points" 340),some (.builtin "object.__new__"),some (.bool true)]),
 (222,kP "_law_cell_at" "_law_cell_at" 446 84 2 217 [0,219,220,221] 451),
 (223,fQ "_law_cell_at" (top 15) pm0 222),
 (229,kP "_law_pool" "_law_pool" 454 88 2 224 [0,226,227,228] 461),
 (230,fQ "_law_pool" (top 16) pm0 229),
 (236,kP "_law_take" "_law_take" 464 94 2 231 [0,233,234,235] 470),
 (237,fQ "_law_take" (top 17) pm0 236),
 (243,kP "_law_point" "_law_point" 473 101 3 238 [0,240,241,242] 479),
 (244,fQ "_law_point" (top 18) pm0 243),
 (248,kP "_law_sorted" "_law_sorted" 482 103 1 245 [0,0,0,247] 485),
 (249,fQ "_law_sorted" (top 19) pm0 248),
 (253,kP "law" "law" 488 105 1 250 [0,0,0,252] 491),
 (254,fQ "law" (top 20) pm0 253)]
noncomputable def nU:List Addr:=[1,2,3,30,31,47,48,50,51,66,67,69,70,86,87,89,90,99,100,106,107,113,114,118,119,127,133,134,147,148,182,183,187,188,194,195,201,202,208,209,211,212,222,223,229,230,236,237,243,244,248,249,253,254]
theorem eB(P:Params):nU=(KK P).map (·.1):=by kernel_rfl
noncomputable def fP:List Nat:=[0,2,3,4,5,7,8,9,10,11,12,13,15,16,17,18,19,20]
set_option maxHeartbeats 0 in
theorem run(w:World)(os:OsState):(ug Fast.tw14364793385576792824 PySem.Challenge.pw_thirdpoint_k04_points_alike_and_written w 11 (some (.ref 6)) 3776 (BU w.params os) (topStub PySem.Challenge.pw_thirdpoint_k04_points_alike_and_written)).map (fun s=>((staticsOk (importedModules PySem.Challenge.pw_thirdpoint_k04_points_alike_and_written.main.body) (boot_heap w.params) s.abs.heap && namesBound PySem.Challenge.pw_thirdpoint_k04_points_alike_and_written s.abs.heap && gensDone s.abs && laidKept (boot_heap w.params) s.abs.heap),
 Fast.tw4187177175401517315 (view PySem.Challenge.pw_thirdpoint_k04_points_alike_and_written fP) [] (importedModules PySem.Challenge.pw_thirdpoint_k04_points_alike_and_written.main.body) (fun s=>xlAt (view PySem.Challenge.pw_thirdpoint_k04_points_alike_and_written fP) [] s && recOk [] s) true s.abs,nU.map s.abs.heap.get?))=some (true,openGood (view PySem.Challenge.pw_thirdpoint_k04_points_alike_and_written fP) [],(KK w.params).map fun x=>some x.2):=by kernel_rfl
theorem left:LeftO PySem.Challenge.pw_thirdpoint_k04_points_alike_and_written (view PySem.Challenge.pw_thirdpoint_k04_points_alike_and_written fP) [] (fun s=>xlAt (view PySem.Challenge.pw_thirdpoint_k04_points_alike_and_written fP) [] s && recOk [] s) (fun s=>nU.map s.heap.get?) (fun w=>(KK w.params).map fun x=>some x.2) 3776 :=
 Rv rfl (by kernel_rfl) rfl (fun _=>by kernel_rfl) run
end cq
namespace Xf
open PySem L2 Ex Dv
noncomputable abbrev HV:List Value:=[.type "ValueError",.type "Exception",.type "BaseException",.type "object"]
noncomputable abbrev BX:List Value:=[.type "KeyError",.type "LookupError",.type "Exception",.type "BaseException",.type "object"]
noncomputable abbrev HW:List Value:=[.type "LookupError",.type "Exception",.type "BaseException",.type "object"]
noncomputable abbrev iF:List Value:=[.type "IndexError",.type "LookupError",.type "Exception",.type "BaseException",.type "object"]
noncomputable abbrev HX:List Value:=[.type "OverflowError",.type "ArithmeticError",.type "Exception",.type "BaseException",.type "object"]
theorem ir(self:Value):refuseLoop self "__setattr__" HV=pure ():=F.store_ValueError.passes self
theorem HY(self:Value):refuseLoop self "__setattr__" BX=pure ():=by kernel_rfl
theorem SF(self:Value):refuseLoop self "__setattr__" HW=pure ():=by kernel_rfl
theorem SG(self:Value):refuseLoop self "__setattr__" iF=pure ():=by kernel_rfl
theorem SH(self:Value):refuseLoop self "__setattr__" HX=pure ():=by kernel_rfl
def m4:Cn->List Value
 | .NoPoint | .NoName=>BX
 | .NoKey=>HW
 | .NoBack=>iF
 | .TooMany=>HX
 | _=>HV
noncomputable def pU:Cn->String
 | .NoPoint | .NoName | .NoKey => "LookupError.__new__"
 | .NoBack => "IndexError.__new__"
 | .TooMany => "OverflowError.__new__"
 | _ => "ValueError.__new__"
theorem SI:∀ (C:Cn) (self:Value),refuseLoop self "__setattr__" (m4 C)=pure ()
 | .PointError,s=>ir s
 | .NoPoints,s=>ir s
 | .NoBox,s=>ir s
 | .NoAsks,s=>ir s
 | .NoRun,s=>ir s
 | .NoText,s=>ir s
 | .NoTurn,s=>ir s
 | .NoTree,s=>ir s
 | .NoTop,s=>ir s
 | .NotServed,s=>ir s
 | .NoRow,s=>ir s
 | .NoPoint,s=>HY s
 | .NoName,s=>HY s
 | .NoKey,s=>SF s
 | .NoBack,s=>SG s
 | .TooMany,s=>SH s
 | .Points,s=>ir s
 | .oO,s=>ir s
 | .Search,s=>ir s
 | .oP,s=>ir s
 | .yV,s=>ir s
def m5(K:W.Frag)(C:Addr)(up:List Value)(nw:String):Bool:=oG K C up nw && (W.findIn K (.ref C) "__getattribute__" == some (some (.builtin "BaseException.__getattribute__"))) && (W.findIn K (.ref C) "__getattr__" == some none) &&
 (W.findIn K (.ref C) "__setattr__" == some (some (.builtin "object.__setattr__"))) && (W.mroIn K C (.type "BaseException") == some true) && (W.mroIn K C (.type "object") == some true) && (W.findIn K (.ref C) "__class__" == some (some (.builtin "object.__class__"))) &&
 (W.specialIn K (.builtin "object.__class__") "__get__" == some (some (.builtin "getset_descriptor.__get__"))) && (W.takesIn K (.builtin "object.__class__") == some true) && (W.kitCls K (.ref C) (.ref C) == some true) && W.keepIn K (.ref C)
theorem SJ(ok:∀ self,refuseLoop self "__setattr__" up=pure ())(h:m5 K C up nw=true):oG K C up nw=true/\sf K C:=by
 unfold m5 at h
 simp only[Bool.and_eq_true,beq_iff_eq] at h
 obtain⟨⟨⟨⟨⟨⟨⟨⟨⟨⟨a,b⟩,c⟩,d⟩,e⟩,f⟩,g⟩,i⟩,j⟩,k⟩,l⟩:=h
 exact⟨a,LM ok a b c d e f g i j k l⟩
variable[KC]
theorem dZ{L:List Cn}(h:L.all (fun C=>m5 KC.K (KC.cls C) (m4 C) (pU C))=true)(hc:L.contains C=true):oG KC.K (KC.cls C) (m4 C) (pU C)=true/\sf KC.K (KC.cls C) :=
 SJ (SI C) (List.all_eq_true.mp h C (List.contains_iff_mem.mp hc))
theorem uG:XB "KeyError" "KeyError.__init__" BX:=Lm
theorem pV{K:W.Frag}{D:Addr}(a:W.specialIn K (.ref D) "__getattribute__" = some (some (.builtin "type.__getattribute__")))(b:W.readsIn K D (.type "type")=true)(c:W.findCls K (.ref D) (.type "type") "__init__" = some (.val (.builtin "ValueError.__init__"))):oI K (.ref D) "ValueError" "ValueError.__init__" :=
 ⟨.inl ⟨D,rfl,a,b,c⟩,by decide +kernel,_,XB.of F.excBase_ValueError⟩
theorem gw(c:W.findCls K (.type "KeyError") (.type "type") "__init__" = some (.val (.builtin "KeyError.__init__"))):oI K (.ty "KeyError") "KeyError" "KeyError.__init__" :=
 ⟨.inr ⟨"KeyError",rfl,by kernel_rfl,by decide +kernel,c⟩,by decide +kernel,_,uG⟩
theorem dg(c:W.findCls K (.type "OverflowError") (.type "type") "__init__" = some (.val (.builtin "OverflowError.__init__"))):oI K (.ty "OverflowError") "OverflowError" "OverflowError.__init__" :=
 ⟨.inr ⟨"OverflowError",rfl,by kernel_rfl,by decide +kernel,c⟩,by decide +kernel,_,XB.of F.excBase_OverflowError⟩
theorem ic{K:W.Frag}{x q:Str}{st:Stmt}{a cd:Addr}{pm:Value}(l:K.lookup a=some (Hd.fO x q st .none pm cd))(c:W.codeIn K (.ref cd) q=true)(k:W.keepIn K (.ref a)=true):∃ fd,ix K x q st a fd:=⟨_,L2.j_ l c k⟩
theorem fv{mg:Str->Option Value}{x:Str}{st:Stmt}{a cd:Addr}{pm:Value}{h:Heap}(X:KC.K.In h)(G:h.Ns mainGlobals mg)(l:KC.K.lookup a=some (Hd.fO x x st .none pm cd):=by kernel_rfl)(c:W.codeIn KC.K (.ref cd) x=true:=by kernel_rfl)(k:W.keepIn KC.K (.ref a)=true:=by kernel_rfl)(n:W.nsIn KC.K mainGlobals x=some (some (.ref a)):=by kernel_rfl):At mg x st :=
 let ⟨fd,U⟩:=ic l c k; ⟨a,fd,U,W.mg_of X G n,k⟩
structure XT(K:W.Frag)(C:Addr)(B:String)(x:Str):Prop where
 xc:XC K C
 sub:W.mroIn K C (.type B)=some true
 no:a9 K C x
end Xf
namespace Xf
open PySem L2 Ex Dv
theorem fR[KC]{C:Cn}{m q:Str}{st:Stmt}{a cd:Addr}{pm:Value}(l:KC.K.lookup a=some (Hd.fO m q st .none pm cd):=by kernel_rfl)(c:W.codeIn KC.K (.ref cd) q=true:=by kernel_rfl)(k:W.keepIn KC.K (.ref a)=true:=by kernel_rfl)(e:W.findIn KC.K (.ref (KC.cls C)) m=some (some (.ref a)):=by kernel_rfl)(f:W.isFn KC.K (.ref a)=true:=by kernel_rfl):mP C m q st:=⟨a,_,L2.j_ l c k,⟨e,f,k⟩⟩
end Xf
namespace Ym
open PySem L2 Ex Dv
theorem m6[KC]{T:Cn}(cl:fB KC.K (KC.cls T))(own:W.kitOne KC.K (.ref (KC.cls T)) (.ref (KC.cls T))=some true:=by kernel_rfl)(no:mJ.all (fun t=>W.kitOne KC.K (.type t) (.ref (KC.cls T)) == some false)=true:=by kernel_rfl)
 (ha:W.findIn KC.K (.ref (KC.cls T)) "__class__" = some (some (.builtin "object.__class__")):=by kernel_rfl) (hn:W.specialIn KC.K (.builtin "object.__class__") "__get__" = some (some (.builtin "getset_descriptor.__get__")):=by kernel_rfl)
 (tk:W.takesIn KC.K (.builtin "object.__class__")=some true:=by kernel_rfl) (ob:W.mroIn KC.K (KC.cls T) (.type "object")=some true:=by kernel_rfl):mU T :=
 ⟨own,fun t h=>by simpa using List.all_eq_true.mp no t h,cl,ha,hn,tk,ob⟩
end Ym
namespace cq
open PySem L2 Ex Dv
noncomputable def HZ:Cn->Addr
 | .PointError=>31
 | .NoPoints=>51
 | .NoPoint=>70
 | .TooMany=>90
 | .Points=>212
 | _=>0
section
variable{P:Program}{w:World}{K:W.Frag}{mg:Str->Option Value}{base:Heap}
theorem SM:ak ["self","point"] ["self","point"] (aa (L2.inClass (top 4) 0)):=⟨rfl,rfl,rfl,by decide +kernel,rfl,by decide +kernel,by decide +kernel⟩
theorem SN{f C:Addr}{fd:FuncData}{ini:String}(F:ix K "__init__" "NoPoint.__init__" (L2.inClass (top 4) 0) f fd)(T:Xf.XT K C "KeyError" "point")(Z:oI K (.ty "KeyError") "KeyError" ini)(hm:mg "KeyError" = none):aD P w K mg base bZ 1 f fd ["self","point"] (pE C "point"):=by
 refine F.ok SM (fun vs H Q E h=>?_) (fun cdv A outer s H vs Q E hr h=>?_)
 · obtain⟨a,v,fr,rfl,_⟩:=h
   rfl
 · obtain⟨a,v,fr,rfl,ha,k⟩:=h
   refine⟨_,qa (rR (yB (rQ (v:=.ty "KeyError") (u:=.type "KeyError") rfl hm (by decide +kernel) rfl) Z (gG (pv 0) (gG p9 lb)))) (n_ (yx (pv 0) (pv 1) rfl)),?_⟩
   refine⟨_,rfl,a,C,fr,_,rfl,ha,T.xc,T.sub,by decide,?_⟩
   exact⟨_,rfl,_,rfl,a,C,fr,rfl,T.xc,T.no,.inl ⟨ha,fun d hd ne=>k d hd ne⟩⟩
theorem SQ:ak ["self","number"] ["self","number"] (aa (L2.inClass (top 3) 0)):=⟨rfl,rfl,rfl,by decide +kernel,rfl,by decide +kernel,by decide +kernel⟩
theorem SR{f C D:Addr}{fd:FuncData}{ini:String}(F:ix K "__init__" "NoPoints.__init__" (L2.inClass (top 3) 0) f fd)(T:Xf.XT K C "ValueError" "number")(Z:oI K (.ref D) "ValueError" ini)(hm:mg "PointError" = some (.ref D)):aD P w K mg base bZ 1 f fd ["self","number"] (pE C "number"):=by
 refine F.ok SQ (fun vs H Q E h=>?_) (fun cdv A outer s H vs Q E hr h=>?_)
 · obtain⟨a,v,fr,rfl,_⟩:=h
   rfl
 · obtain⟨a,v,fr,rfl,ha,k⟩:=h
   refine⟨_,qa (rR (yB (xQ (v:=.ref D) rfl hm rfl) Z (gG (pv 0) (gG p9 lb)))) (n_ (yx (pv 0) (pv 1) rfl)),?_⟩
   refine⟨_,rfl,a,C,fr,_,rfl,ha,T.xc,T.sub,by decide,?_⟩
   exact⟨_,rfl,_,rfl,a,C,fr,rfl,T.xc,T.no,.inl ⟨ha,fun d hd ne=>k d hd ne⟩⟩
theorem SS:ak ["self","many"] ["self","many"] (aa (L2.inClass (top 5) 0)):=⟨rfl,rfl,rfl,by decide +kernel,rfl,by decide +kernel,by decide +kernel⟩
theorem SU{f C:Addr}{fd:FuncData}{ini:String}(F:ix K "__init__" "TooMany.__init__" (L2.inClass (top 5) 0) f fd)(T:Xf.XT K C "OverflowError" "many")(Z:oI K (.ty "OverflowError") "OverflowError" ini)(hm:mg "OverflowError" = none):aD P w K mg base bZ 1 f fd ["self","many"] (pE C "many"):=by
 refine F.ok SS (fun vs H Q E h=>?_) (fun cdv A outer s H vs Q E hr h=>?_)
 · obtain⟨a,v,fr,rfl,_⟩:=h
   rfl
 · obtain⟨a,v,fr,rfl,ha,k⟩:=h
   refine⟨_,qa (rR (yB (rQ (v:=.ty "OverflowError") (u:=.type "OverflowError") rfl hm (by decide +kernel) rfl) Z (gG (pv 0) (gG p9 lb)))) (n_ (yx (pv 0) (pv 1) rfl)),?_⟩
   refine⟨_,rfl,a,C,fr,_,rfl,ha,T.xc,T.sub,by decide,?_⟩
   exact⟨_,rfl,_,rfl,a,C,fr,rfl,T.xc,T.no,.inl ⟨ha,fun d hd ne=>k d hd ne⟩⟩
end
def xu(K:W.Frag):Sp:=fun vs H Q _=>∃ (a:Addr) (ns:List Int),vs=[.ref a]/\aZ K H a (ns.map V.int)/\ns.length<=63/\∀ H',Q (.bl true) H'
theorem SV[KC](vs:List V)(H:Hp)(Q:VK)(E:XK)(h:xu KC.K vs H Q E):aX ua vs H Q E:=by
 obtain⟨a,ns,rfl,hS,hl,hQ⟩:=h
 refine⟨H,[.bH ns],fun _ _ z=>z,.cons (.bH hS) .nil,?_⟩
 rw[SA ns hl]
 intro x H' R' _ hx
 cases hx
 exact hQ H'
theorem all_mk{l:W.OpenLaw}{w:World}{h:Heap}{mg:Str->Option Value}{fa:Addr}(X:(KK w.params).In h)(G:h.Ns mainGlobals mg)(hfa:mg "law" = some (.ref fa)) :
 ∃ fd:FuncData,(∀ (s:Shared) (v:Value),BindsTo s fd ⟨[v],[]⟩ [("_law_script",v)])/\∀ base:Heap,(KK w.params).In base->base.Ns mainGlobals mg->aD l.prog w (KK w.params) mg base bZ 7 fa fd ["_law_script"] (xu (KK w.params)):=by
 letI:KC:=⟨KK w.params,HZ⟩
 have BY:∀ {n:Str} (_:W.nsIn (KK w.params) mainGlobals n=some none:=by kernel_rfl),mg n=none:=fun z=>W.mg_none_of X G z
 have uH:∀ {n:Str} {v:Value} (_:W.nsIn (KK w.params) mainGlobals n=some (some v):=by kernel_rfl),mg n=some v:=fun z=>W.mg_of X G z
 have cl:G5.all (fun C=>Xf.m5 KC.K (KC.cls C) (Xf.m4 C) (Xf.pU C))=true:=by kernel_rfl
 have xc:∀ C,G5.contains C=true->XC KC.K (KC.cls C):=fun C hc=>(Xf.dZ cl hc).2.xc
 have xV:=Xf.pV (K:=KK w.params) (D:=HZ .PointError) (by kernel_rfl) (by kernel_rfl) (by kernel_rfl)
 have jA:=Xf.gw (K:=KK w.params) (by kernel_rfl)
 have eC:=Xf.dg (K:=KK w.params) (by kernel_rfl)
 obtain⟨jB,fS⟩:=Xf.dZ cl (C:=.NoPoint) (by decide)
 obtain⟨iM,fT⟩:=Xf.ic (K:=KK w.params) (x := "__init__") (q := "NoPoint.__init__") (st:=(L2.inClass (top 4) 0)) (a:=67) (cd:=66) (pm:=eO) (by kernel_rfl) (by kernel_rfl) (by kernel_rfl)
 obtain⟨iN,eD⟩:=Xf.dZ cl (C:=.NoPoints) (by decide)
 obtain⟨ie,eE⟩:=Xf.ic (K:=KK w.params) (x := "__init__") (q := "NoPoints.__init__") (st:=(L2.inClass (top 3) 0)) (a:=48) (cd:=47) (pm:=eO) (by kernel_rfl) (by kernel_rfl) (by kernel_rfl)
 obtain⟨jC,fU⟩:=Xf.dZ cl (C:=.TooMany) (by decide)
 obtain⟨iO,fV⟩:=Xf.ic (K:=KK w.params) (x := "__init__") (q := "TooMany.__init__") (st:=(L2.inClass (top 5) 0)) (a:=87) (cd:=86) (pm:=eO) (by kernel_rfl) (by kernel_rfl) (by kernel_rfl)
 have M:Nm mg:=by
  constructor
  all_goals try first | exact BY | exact uH | exact Xf.BZ (by kernel_rfl) xc | exact Xf.H_ (by kernel_rfl) xc | exact Xf.Ia (by kernel_rfl)
  · exact⟨299,uH⟩
  · exact⟨301,uH⟩
  · exact fun P w2 base=>⟨⟨67,iM,yz F.excBase_LookupError (by decide +kernel) Xf.uG jB (by kernel_rfl) (by kernel_rfl),SN fT ⟨fS.xc,by kernel_rfl,by show W.findIn _ _ _=_;kernel_rfl⟩ jA (BY),fT.binds (ps:=["self","point"]) fun _ _ _ _ _ _=>mS fun _ _=>rfl⟩,fS⟩
  · exact fun P w2 base=>⟨⟨48,ie,yz F.excBase_ValueError (by decide +kernel) (XB.of F.excBase_ValueError) iN (by kernel_rfl) (by kernel_rfl),SR eE ⟨eD.xc,by kernel_rfl,by show W.findIn _ _ _=_;kernel_rfl⟩ xV (uH),eE.binds (ps:=["self","number"]) fun _ _ _ _ _ _=>mS fun _ _=>rfl⟩,eD⟩
  · exact fun P w2 base=>⟨⟨87,iO,yz F.excBase_OverflowError (by decide +kernel) (XB.of F.excBase_OverflowError) jC (by kernel_rfl) (by kernel_rfl),SU fV ⟨fU.xc,by kernel_rfl,by show W.findIn _ _ _=_;kernel_rfl⟩ eC (BY),fV.binds (ps:=["self","many"]) fun _ _ _ _ _ _=>mS fun _ _=>rfl⟩,fU⟩
  · exact⟨_,(by kernel_rfl:KC.K.lookup 1=some (Hd.dO w.params [Hd.de "builtins" 162 (.ref 4),Hd.de "__main__" 163 (.ref 5)] 2)),rfl⟩
  · exact⟨by kernel_rfl,by kernel_rfl,by kernel_rfl,by kernel_rfl⟩
  · exact⟨by kernel_rfl,by kernel_rfl,by kernel_rfl,by kernel_rfl,by kernel_rfl,by kernel_rfl,by kernel_rfl,by kernel_rfl,by kernel_rfl⟩
  · exact Ym.m6 ⟨by kernel_rfl,by kernel_rfl,by kernel_rfl,by kernel_rfl⟩
  · exact(by show W.findIn _ _ _=_;kernel_rfl)
 have T:gr mg:=⟨Xf.fv (a:=119) (cd:=118) (pm:=dM) X G,
  Xf.fv (a:=100) (cd:=99) (pm:=dM) X G,
  Xf.fv (a:=107) (cd:=106) (pm:=dM) X G,
  Xf.fv (a:=114) (cd:=113) (pm:=dM) X G,
  ⟨134,(.ref 127),.none,.none,dM,.ref 133,.none,.type "function",none,none, #[],by kernel_rfl,by kernel_rfl,⟨by kernel_rfl,by kernel_rfl,by kernel_rfl,by kernel_rfl⟩,(fun s us X hl=>by rcases us with _ | ⟨a,_ | ⟨b,_ | _⟩⟩<;>simp at hl;exact W.kp_binds X fun S=>by kernel_rfl),(fun s us X hl=>by rcases us with _ | ⟨a,_ | _⟩<;>simp at hl;exact W.kp_binds X fun S=>by kernel_rfl),(fun s a us X hl=>by rcases us with _ | ⟨b,_ | _⟩<;>simp at hl;exact W.kp_binds X fun S=>by kernel_rfl)⟩,
  Xf.fR (a:=195) (cd:=194) (pm:=dM),
  Xf.fR (a:=202) (cd:=201) (pm:=dM),
  Xf.fR (a:=209) (cd:=208) (pm:=dM),
  Xf.fR (a:=148) (cd:=147) (pm:=dM),
  Xf.fR (a:=188) (cd:=187) (pm:=dM),
  Xf.fR (a:=183) (cd:=182) (pm:=dM),
  Xf.fv (a:=237) (cd:=236) (pm:=pm0) X G,
  Xf.fv (a:=244) (cd:=243) (pm:=pm0) X G,
  Xf.fv (a:=223) (cd:=222) (pm:=pm0) X G,
  Xf.fv (a:=230) (cd:=229) (pm:=pm0) X G,
  Xf.fv (a:=249) (cd:=248) (pm:=pm0) X G,
  Xf.fv (a:=254) (cd:=253) (pm:=pm0) X G⟩
 obtain⟨d,U⟩:=Xf.ic (K:=KK w.params) (x := "law") (q := "law") (st:=lO) (a:=254) (cd:=253) (pm:=pm0) (by kernel_rfl) (by kernel_rfl) (by kernel_rfl)
 have e:mg "law" = some (.ref 254):=uH (by kernel_rfl)
 rw[hfa] at e
 cases e
 refine⟨d,fun s v=>?_,fun base _ _=>(Su T M U).imp fun vs H Q E q=>SV vs H Q E q⟩
 obtain⟨oc,od,kV,doc,pm,an,cdv,ct,osl,e,_,_⟩:=U.ex
 rw[e]
 exact .of_eq rfl
end cq
namespace cq
open PySem L2 Ex
theorem walk{l:W.OpenLaw}{q:Program}{loose:List Str}{XP:(Str->Option Value)->Heap->Prop}{YP:World->Heap->Prop}{d:DefRec}{K:Params->W.Frag}(hn:l.most=some 63)(hdf:d.params.defaults=[])
 (hY:∀ (w:World) (h:Heap),YP w h->(K w.params).In h)
 (F:∀ (w:World) (mg:Str->Option Value) (fa:Addr) (h:Heap),(K w.params).In h->h.Ns mainGlobals mg->mg d.name=some (.ref fa) ->
  ∃ fd:FuncData,(∀ (s:Shared) (u:Value),BindsTo s fd ⟨[u],[]⟩ [("_law_script",u)])/\∀ base:Heap,(K w.params).In base->base.Ns mainGlobals mg->aD l.prog w (K w.params) mg base bZ 7 fa fd ["_law_script"] (xu (K w.params))) :
 W.WalkO q loose XP YP l.row.toRowW d [] (fun f vs=>PySem.call f vs) :=
 L2.l8 (n:=63) (k:=7) (x := "_law_script") (CX:=fun _=>bZ) (sp:=fun w=>xu (K w.params)) hn (by decide) hdf ⟨rfl,by decide,by decide,rfl⟩ hY F (fun _ _ a ns hl _ hS=>⟨a,ns,rfl,hS,hl,fun _=>rfl⟩) fun _ _ _ _ _ z=>z
end cq
open PySem PySem.W PyProof.Rows
set_option maxRecDepth 100000 in
set_option maxHeartbeats 0 in
theorem PySem.Challenge.cw_thirdpoint_k04_points_alike_and_written_holds : PySem.Challenge.rw_thirdpoint_k04_points_alike_and_written.Holds := by
 refine holds_law (by kernel_rfl) fun said=>?_
 refine PySem.W.holds_open (q:=view PySem.Challenge.pw_thirdpoint_k04_points_alike_and_written cq.fP) (Yf:=Hook.obs (kHook cq.KK cq.nU cq.eB)) (Ya:=Hook.val (kHook cq.KK cq.nU cq.eB)) (YP:=Hook.says (kHook cq.KK cq.nU cq.eB)) cq.left (Hook.of (kHook cq.KK cq.nU cq.eB)) (Hook.keeps (kHook cq.KK cq.nU cq.eB)) (fun s e=>xl_of s (qbl.mp e).1) XL.keeps (by rfl) (by rfl) (by rfl) (fun s e=>recFacts_of (qbl.mp e).2) (by rfl) (by kernel_rfl) (by kernel_rfl) ⟨rfl,rfl,rfl,rfl,rfl,by kernel_rfl⟩ ?hw ?hc
 case hw=>exact⟨[.list []],by kernel_rfl,by kernel_rfl⟩
 case hc=>exact cq.walk (l:=PySem.Challenge.rw_thirdpoint_k04_points_alike_and_written) rfl rfl (fun w h Y=>PySem.W.kIn_of Y) fun w mg fa h KX G hmg=>cq.all_mk KX G hmg
