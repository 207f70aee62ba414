import PyProof.Rows.All
import PyProof.ForAny
import PyProof.TupleKey
import Wide.All
import OpenK.AllK
import Wide.FinOn
import Lean
import PyProof.EqAt
import PyProof.EqKinds
import PyProof.TupleCall
import PyProof.ExcClass3
import PyProof.ExcArgsOwn
import PyProof.InstStoreFacts
import PyProof.NsDelKeeps
import PyProof.CompUse
import PyProof.ConsumeWalk
import PyProof.ReprRoads
import PyProof.ReprBulk
import PyProof.ZipIter
import PyProof.TupleIter
import PyProof.EqLayable
import PyProof.EnumMake
import PyProof.EnumFor
import PyProof.WalkInts
import PyProof.SeqI3
import PyProof.Rows.SeqJoint
import PyProof.Rows.SortWalk
import PyProof.Rows.Range3
import KE.KSortTup
import PyProof.P3Eq
import PySem.Challenge.RW_thirdpoint_k50_what_needs_a_point
set_option bootstrap.genMatcherCode false
set_option genSizeOf false
set_option Elab.async false
set_option compiler.extract_closed false
set_option linter.all false
set_option maxRecDepth 100000
set_option maxHeartbeats 8000000
set_option autoImplicit true
set_option relaxedAutoImplicit true
abbrev T0:=PySem.Value->PySem.Shared->Prop
abbrev W1:=List (PySem.Addr×PySem.Obj)
abbrev M2:=PySem.Str->Option PySem.Value
abbrev P3:=List (Int×Int)
abbrev v4:=List PySem.Value
abbrev v6:=List PySem.Str
abbrev u8:=List Int
abbrev zza:=List PySem.Expr
abbrev zzb:=Option PySem.Value
abbrev zzc:=List Nat
abbrev zzd:=List PySem.Addr
abbrev zze:=PySem.W.Frag
abbrev zzf:=Option Int
abbrev zzg:=Array (Int×PySem.Value)
abbrev zzh:=Array PySem.Value
open Lean in
def gkT:="γ model prog w\nδ model X.prog X.w\nε Inv X pins σ H s\nζ iC X Nc scope cl C s3 H3 fp pn'\nη KC.cls C\nθ sw cs\nι gT 2 (a7 (gN 0) (a7 (gN 1) cX))\nγa .val (.bl true)\nγb Zj 0\nγc starEach es X.env\nγd List D\nγe .val (.bl false)\nγf .ref C\nγg upd H2 s2.heap.objs.size (O s2.heap.objs.size e0)\nγh List C\nγi Al.refl s\nγj .ref s.heap.objs.size\nγk ZS (vn 0) aq\nγl Zj 1\nγm sw (aE cs)\nγn M (List RV)\nγo .lst xs\nγp M.pure true\nγq ar fr own σ\nγr A.deeper (PyProof.Rows.envOfC qual (aa st) s.heap.objs.size fa cdv)\nγs VE X EE ios a f\nγt bS rfl\nγu two el tg src ifs gK bu cA sc pos\nγv ZY γb m0\nγw ER ios R H σ Γ\nγx vn 1\nγy view PySem.Challenge.pw_thirdpoint_k50_what_needs_a_point jg\nγz bL fr own ao\nγA vn 0\nγB List V\nγC .ref a\nγD ns.map V.int\nγE .Attribute o m apos\nγF he pins s σ H _ I h\nγG ha pins s σ H _ I h\nγH envOfC qual scope s.heap.objs.size f cd\nγI Zj 2\nγJ .ref p\nγK a7 (gN 7) (a7 (gN 8) cX)\nγL EP X pins σ Q\nγM .inl rfl\nγN .tup xs\nγO qam _\nγP gH X scope Nc own fr\nγQ W.fnOf name qual params body scope dV kV doc pm an cdv ct\nγR VE X EE ios e f\nγS ZS (vn 2) aq\nγT .int i\nγU gb EE ios R H σ Γ\nγV ha pos pins s σ H _ I h\nγW aZ cs m\nγX az k X.A\nγY bf ios R H σ Γ R1 H1 ai\nγZ aa st\nγ0 vB mi mj M.cD γk\nγ1 bK es ep t\nγ2 aE cs\nγ3 .lst ys\nγ4 a7 (gN 1) (a7 (gN 2) cX)\nγ5 rest cs p\nγ6 qal (qar (qai e) I.ok.above)\nγ7 .ref f\nγ8 Option Addr\nγ9 ZS (vB (C8 rfl) D4 M.mI (ZS (bG γx aD) (ZS (bG (vn 2) aD) aq))) (ZS (vB (C7 rfl) D3 M.km (ZS (bG γx aD) (ZS (bG (vn 2) aD) aq))) aq)\nδa Binds X.K fd ps ds\nδb M.pure none\nδc ZY γl m0\nδd ZY γI m0\nδe ZS γx aq\nδf w.params.setOrder a ep\nδg iM EE ios R H σ Γ\nδh eQ rvs\nδi bz X.prog X.w X.K X.mg X.base CX k f fd ps sp\nδj b_ X (compareOp op) r\nδk VA X EE ios es fs\nδl M.bind (jO jP jP γl γb γI) aM\nδm kI 1\nδn br ios R H σ Γ R1 H1 cR ai\nδo ks.map D.int\nδp bR (kB false)\nδq List Env\nδr dk _\nδs aH R xs ds\nδt some x\nδu Zj 3\nδv gam N ds\nδw .val .ax\nδx .Name x p\nδy Bp.aZ cs m\nδz A.deeper (PyProof.Rows.envOfC x γZ s.heap.objs.size fa cdv)\nδA W.fnOf x qual (bq st) (af st) γZ .none kV doc pm an cdv ct\nδB iY (ix P w) P w KC.K mg base N x γZ fa cdv A outer s H E\nδC iY (ix P w) P w K mg base N qual γZ fa cdv A outer s H E\nδD Option Nat\nδE qax _ (qax _ (uW hb e))\nδF W.fnOf x x (bq st) (af st) γZ .none kV doc pm an cdv ct\nδG bz X.prog X.w X.K X.mg X.base (ix X.prog X.w) k f fd ps sp\nδH VI X EE ios tg iter items\nδI SetTable.below xs j\nδJ vn 3\nδK kI 0\nδL bb G\nδM List.contains_iff_mem.mp hc\nδN M Bool\nδO qb ios R H σ Γ D\nδP iY CX P w K mg base N qual scope f cdv A outer s H E\nδQ some v\nδR .val (.int xs.length)\nδS bL fr own Γ\nδT I.ok.hd hc\nδU ZS aD aq\nδV some (.ref b)\nδW dJ P w H h\nδX .ref x\nδY .int _\nδZ K.In s.heap\nδ0 gN 0\nδ1 t_ M.aj M.cI γA\nδ2 jA _ _\nδ3 .lst θ\nδ4 kHook cZ.KK cZ.sQ cZ.ir\nδ5 vn 2\nδ6 boot_heap w.params\nδ7 .ref I\nδ8 vn 4\nδ9 Zj 4\nεa Loc X.env.scope x\nεb List Stmt\nεc W.instObj C s.heap.objs.size\nεd .bool true\nεe upd H dx (.own x)\nεf p1.trans p2\nεg getMethod ov m pl\nεh .Name x pos\nεi qd (gT 2 (a7 (gN 2) (a7 (gN 3) cX))) γl\nεj List Z\nεk InstAt s.heap x ox C od\nεl .lst ds\nεm op2 bx γl δK\nεn ns.map D.int\nεo importedModules PySem.Challenge.pw_thirdpoint_k50_what_needs_a_point.main.body\nεp ZY (Zj 5) m0\nεq ZS (vn 5) aq\nεr .ins C dx fs\nεs qal (qar (qai e) (I.ok.cab x c hfn hc))\nεt top 16\nεu peek x\nεv model Y.prog Y.w\nεw M.bind (op2 qi γb γl) aM\nεx ho pins s2 σ H2 x y v u _ I2 r1 r2 q2\nεy some st\nεz rest γ2 c\nεA cN jv γv\nεB bo cs a\nεC bG γA aD\nεD I.base.keep b o e n hb hx\nεE prs 0 ks\nεF mat rv\nεG VE X EE ios b g\nεH PassesOwn δ X.A X.env X.xe\nεI .val d\nεJ .ref e\nεK .builtin id\nεL hb pins s1 σ H1 _ I1 q1\nεM cT C a (some d) fr\nεN .bl _\nεO eval e X.env\nεP SetTable.grown es1.size\nεQ some e\nεR some 1\nεS op2 bx γl δm\nεT op2 bx γI δm\nεU op2 bx γI δK\nεV ms.map (kj cs)\nεW cT C a none fr\nεX ps.zip us\nεY model P w\nεZ excClassObj nm qn C N bs tl hd sn sub ab col dd j0 j1 j2 j3 j5 nw\nε0 bG γx aD\nε1 PE X a ta\nε2 .bl b\nε3 dG es t B zs\nε4 Vals xs us\nε5 Vals cS ds\nε6 kZ hr\nε7 g i j\nε8 bF.set i1 δt\nε9 SetTable.turns M\nζa M.bind f aM\nζb .type B\nζc .head _\nζd .Name self p0\nζe j8 ios own gt m\nζf ef s.heap z p\nζg b_ X (compareOp op') r'\nζh XOk X EE\nζi List α\nζj ExcBaseFacts D nw ou un\nζk pyNext (Value.ref I)\nζl he cl C s3 H3 fp pn'\nζm L2.inClass (top 7) 0\nζn HT.bB xs.length 0 lo\nζo .Slice lo hi none p2\nζp upd H a o\nζq p2.al al\nζr cp jY\nζs cT C a dd false\nζt bG δ5 aD\nζu ZY δu m0\nζv Ow σ ai\nζw Nat.mod_lt _ (Nat.succ_pos M)\nζx I.hok.fresh γO\nζy .bl false\nζz .bl (bs.all id)\nζA .Slice none none (some se) p2\nζB qaR hj\nζC op2 eg γl (op2 j7 (op2 bx γI (op2 eg (kI 4) γb)) δu)\nζD Gl X x\nζE some (.Name x pos')\nζF setNext a slot i ep\nζG p.getD k 0\nζH bf.refl er\nζI b7 X EE ios sts s\nζJ ag N ps γZ\nζK List Cn\nζL List Bool\nζM .UnaryOp .Not a pos\nζN fC A ios R H σ Γ R1 H1 cR ai\nζO PE X e te\nζP Array Nat\nζQ nj (fB (vn 8)) (oS (xx pU pU p_ p_ γx γA δ5)) γA\nζR mz i1 (gN i1) p1 f\nζS intKind_is _ _ _ _\nζT dD fr own m p f ds\nζU Dv.aW fr own ao bW\nζV .lst (bs.map V.bl)\nζW pQ (.ref T) i a es.size ep\nζX fs.lookup f\nζY M.bind (op2 iz γb γl) aM\nζZ .ref D\nζ0 some s\nζ1 qai e\nζ2 compareOp .Eq\nζ3 ZS δJ aq\nζ4 ZS aD δU\nζ5 M.bind δm jQ\nζ6 KC.cls .NotServed\nζ7 Fs ks cs\nζ8 Classical.propDecidable p\nζ9 .ret rv\nηa .ref η\nηb .ref h1.objs.size\nηc .ref (KC.cls x.C)\nηd .ok δw\nηe .compLoop ce k it acc env\nηf cW (ft (M.bind (cb qj δc) aM)) (bR (bc m0)) mX\nηg VT X EE ios c p\nηh VT X EE ios a p\nηi SetTable.below t.place j\nηj PI X tg iter wi\nηk Array (zzb)\nηl some k\nηm some 2\nηn p2.back er\nηo nh H d\nηp hr.mono aR\nηq compareOp .NotIn\nηr bz X.prog X.w X.K X.mg X.base iZ k f fd ps (bb Gp)\nηs ZY γl δd\nηt ZS γx γS\nηu .int j\nηv af st\nηw tU EE ios wi items\nηx Bp.Cs cs\nηy vn 6\nηz s _ _ e\nηA mv (m d)\nηB gz (ZS γx γk)\nηC fE x0 x1 key start low high fd x7 x8 x9 x10\nηD eval iter X.env\nηE dC (ZY γl γv)\nηF Zj 6\nηG O s2.heap.objs.size ys\nηH I.base.free b o e n hx\nηI .tup ds\nηJ .ref s2.heap.objs.size\nηK .ref it\nηL .ref (KC.cls T)\nηM .lst γD\nηN .builtin initId\nηO .bl (bs.any id)\nηP iC X (vP X.N x fr) scope cl C s3 H3 fp pn'\nηQ bz X.prog X.w X.K X.mg X.base iZ k fI fd ps sp\nηR t.advance p\nηS qv xs lo hi\nηT ix P w\nηU gI items fr own m p f\nηV eL cs\nηW bm δv\nηX bG δJ aD\nηY ah.refl _\nηZ ah R H\nη0 PE X b tb\nη1 Array δD\nη2 .int k tk\nη3 vn 5\nη4 tm M\nη5 t.probeStart h\nη6 step_dedup l k\nη7 op2 bx γb δK\nη8 cT C a dd true\nη9 Zj 5\nθa W.kitx_own (cl.get _) cl.hd ha hn htk hm\nθb .Slice lo hi (some se) p2\nθc f (.int i t) (.int j u)\nθd iy EE ios t f\nθe List PyData\nθf .lst (ns'.map V.int)\nθg kg X.prog X.w X.mg X.base C m k ps (bb Gp)\nθh VE X EE ios o fo\nθi Γ.set i none\nθj uX r ta tb\nθk start N vs\nθl qaR hji\nθm qa2 _\nθn mN d fs\nθo hr.mono d7\nθp gW aq\nθq br.refl er\nθr binaryOp .Add\nθs X.body E' pn'\nθt List RV\nθu K w.params\nθv Dv.fA B\nθw CmpOf prog w A.in1 (cond mx .Gt .Lt) P bt\nθx .ref sl\nθy .ref fa\nθz .Name x p0\nθA s _ _ h1\nθB qae _ hx\nθC gT 2 γK\nθD fz rvs\nθE cb o6 (ZY γl (ZY γI (ZY δu γv)))\nθF .val ε2\nθG .str x\nθH .lst ys'\nθI .int n\nθJ .bl true\nθK x.above y c (PySem.mem_of_lookup h)\nθL ra.rv (p1.back er)\nθM mJ.extBut b o hb e\nθN bB items.size 0 lo\nθO Option α\nθP List (Option V)\nθQ Dv.aW fr own ao iB\nθR .Attribute e y pos\nθS .Attribute e f pos\nθT σ.set i δt\nθU third cs a b\nθV hP z\nθW cT C a (some s2.heap.objs.size) fr\nθX bR (kB true)\nθY J.AQ I.ok.hd\nθZ I.ok.hd calm\nθ0 .lst (sw ds)\nθ1 vB DR D9 M.cq εq\nθ2 sw c0\nθ3 mM K x qual st fa fd\nθ4 hashInt k\nθ5 cs.take n\nθ6 M.bind (tZ iN .PointError δ9) aM\nθ7 ForInStep.yield r\nθ8 .str (toString i)\nθ9 .str (reprText x)\nιa .candidate j i nx\nιb iy EN ios te f\nιc yx items fr own (uc m p cf ζR)\nιd some a\nιe qab _ e\nιf pm.mem_iff.mp hz\nιg pQ (.int slot 0) i a es.size ep\nιh lE s.heap x dx C mA\nιi ext R3 H3 b\nιj dJ X.prog X.w H' h'\nιk compareOp .NotEq\nιl XB B ini up\nιm KK w.params\nιn C6 r r' ta tb tc\nιo Ax b o e hx\nιp .var i\nιq .str _\nιr .ref l\nιs oS (dM (Gd hr) Ge γA γx rfl)\nιt Int.le_trans (qaI h1) (qaI h2)\nιu some γC"
open Lean in
def gkL(t:String):Syntax:=if t.startsWith "." then .node .none ``Parser.Term.dotIdent #[mkAtom ".",mkIdent (t.drop 1).toString.toName] else if t=="_" then .node .none ``Parser.Term.hole #[mkAtom "_"] else if t.isNat then Syntax.mkNumLit t else mkIdent t.toName
open Lean in
def gkM(x:List Syntax):Syntax:=match x.reverse with
|[]=>.missing
|[f]=>f
|f::a=>.node .none ``Parser.Term.app #[f,mkNullNode a.toArray]
open Lean in
def gkP(s:String):Syntax:=gkM (((((s.replace "(" "( ").replace ")" " )").splitOn " ").foldl (fun k t=>if t=="(" then []::k else if t==")" then match k with
|x::y::r=>(gkM x::y)::r
|_=>k else match k with
|x::r=>(gkL t::x)::r
|_=>k) [[]]).headD [])
open Lean in
def gkF(x:Name):Option Syntax:=match x with
|.str .anonymous s=>if s.front<'γ'||s.front>'ι' then none else ((gkT.splitOn "\n").find? (·.startsWith (s++" "))).map fun l=>gkP (l.drop (s.length+1)).toString
|_=>none
local macro_rules
|`($x:ident)=>match gkF x.getId with
 |some y=>pure y
 |none=>Lean.Macro.throwUnsupported
noncomputable section
noncomputable def qaa:=@PySem.wpAny_bind
noncomputable def qab:=@PySem.Heap.get?_push_of_some
noncomputable def qac:=@PySem.wpAny_pure
noncomputable def qad:=@List.getElem?_eq_some_iff
noncomputable def qae:=@List.mem_cons_of_mem
noncomputable def qaf:=@List.length_map
noncomputable def qag:=@List.mem_cons_self
noncomputable def qah:=@List.getElem?_eq_getElem
noncomputable def qai:=@PySem.Heap.lt_size
noncomputable def qaj:=@List.getElem?_set_ne
noncomputable def qak:=@List.mem_cons
noncomputable def qal:=@Nat.ne_of_lt
noncomputable def qam:=@Nat.le_refl
noncomputable def qan:=@decide_eq_true
noncomputable def qao:=@PySem.Heap.get?_push_size
noncomputable def qap:=@List.getElem?_set_self
noncomputable def qaq:=@List.length_append
noncomputable def qar:=@Nat.lt_of_lt_of_le
noncomputable def qas:=@Bool.false_ne_true
noncomputable def qat:=@Array.getElem?_eq_getElem
noncomputable def qau:=@decide_eq_false
noncomputable def qav:=@List.map_cons
noncomputable def qaw:=@Array.getD_eq_getD_getElem?
noncomputable def qax:=@List.mem_append_right
noncomputable def qay:=@Bool.and_eq_true
noncomputable def qaz:=@Array.length_toList
noncomputable def qaA:=@PySem.Heap.get?_update_other
noncomputable def qaB:=@List.getElem?_map
noncomputable def qaC:=@if_neg
noncomputable def qaD:=@List.mem_singleton
noncomputable def qaE:=@List.mem_map
noncomputable def qaF:=@if_pos
noncomputable def qaG:=@List.size_toArray
noncomputable def qaH:=@List.mem_append
noncomputable def qaI:=@of_decide_eq_true
noncomputable def qaJ:=@PySem.wpAny_newObj_type
noncomputable def qaK:=@List.filterMap_cons
noncomputable def qaL:=@List.mem_filter
noncomputable def qaM:=@Array.getElem?_toList
noncomputable def qaN:=@List.length_cons
noncomputable def qaO:=@Nat.le_trans
noncomputable def qaP:=@List.all_eq_true
noncomputable def qaQ:=@Option.some.inj
noncomputable def qaR:=@Ne.symm
noncomputable def qaS:=@PySem.wpAny_mono
noncomputable def qaT:=@List.mem_append_left
noncomputable def qaU:=@List.length_set
noncomputable def qaV:=@PySem.wpAny_holding
noncomputable def qaW:=@Nat.zero_le
noncomputable def qaX:=@PySem.PassesOwn.never
noncomputable def qaY:=@List.getElem_mem
noncomputable def qaZ:=@PySem.wpAny_call_entry
noncomputable def qa0:=@Array.getElem?_eq_some_iff
noncomputable def qa1:=@List.getD_eq_getElem?_getD
noncomputable def qa2:=@Nat.lt_irrefl
noncomputable def qa3:=@Nat.lt_succ_self
noncomputable def qa4:=@Bool.eq_iff_iff
noncomputable def qa5:=@PySem.wpAny_setState_of
noncomputable def qa6:=@decide_eq_true_eq
noncomputable def qa7:=@beq_iff_eq
noncomputable def qa8:=@List.getElem?_append_left
noncomputable def qa9:=@Classical.byContradiction
noncomputable def qba:=@List.mem_of_getElem?
noncomputable def qbb:=@Int.emod_lt_of_pos
noncomputable def qbc:=@List.take_append_drop
noncomputable def qbd:=@List.nodup_cons
noncomputable def qbe:=@PySem.wpAny_standAt
noncomputable def qbf:=@PyProof.Rows.slot_tuple_getitem
noncomputable def qbg:=@List.exists_cons_of_ne_nil
noncomputable def qbh:=@List.pairwise_cons
noncomputable def qbi:=@Option.map_eq_some_iff
noncomputable def qbj:=@List.pairwise_iff_getElem
noncomputable def qbk:=@List.append_nil
def qbl:=@PyProof.Rows.F.plain_set_update_loop
noncomputable def qbm:=@List.lookup_cons
noncomputable def qbn:=@PySem.wpAny_truthy_bool
noncomputable def qbo:=@PySem.wpAny_loadPart_at
noncomputable def qbp:=@PySem.wpAny_callSpecial?_slot
noncomputable def qbq:=@Int.emod_nonneg
noncomputable def qbr:=@PySem.wpAny_Call_Name_kw
noncomputable def qbs:=@PySem.Around.under_plainId
noncomputable def qbt:=@List.filter_cons
noncomputable def qbu:=@PySem.wpAny_askSetting
noncomputable def qbv:=@List.length_take
noncomputable def qbw:=@List.getElem?_append_right
noncomputable def qbx:=@List.replicate_succ
noncomputable def qby:=@List.drop_eq_getElem_cons
noncomputable def qbz:=@PySem.Heap.get?_update_self
noncomputable def qbA:=@List.length_replicate
noncomputable def qbB:=@List.set_getElem_self
noncomputable def qbC:=@List.getElem_range
noncomputable def qbD:=@PySem.codeAny_call_builtin
noncomputable def qbE:=@List.getElem?_replicate
noncomputable def qbF:=@List.mem_range
noncomputable def qbG:=@List.nodup_nil
noncomputable def qbH:=@Nat.lt_succ_of_lt
noncomputable def qbI:=@Nat.not_lt_zero
noncomputable def qbJ:=@List.map_append
noncomputable def qbK:=@PySem.codeAny_builtin
noncomputable def qbL:=@Int.le_refl
noncomputable def qbM:=@List.filter_eq_nil_iff
noncomputable def qbN:=@List.map_map
noncomputable def qbO:=@List.all_cons
namespace St
open PySem
noncomputable def nD(xs:ζP):Prop:=xs.toList.Pairwise (· < ·)
theorem Pd(xs:ζP)(j:Nat)(hr:nD xs):∀(fuel lo hi:Nat),hi-lo<=fuel->lo<=hi->hi<=xs.size->(∀i,i<lo->xs.getD i j<j)->(∀i,hi<=i->i<xs.size->j<=xs.getD i j) ->
 let p:=SetTable.below.go xs j fuel lo hi
 p<=xs.size/\(∀i,i<p->xs.getD i j<j)/\∀i,p<=i->i<xs.size->j<=xs.getD i j:=by
 have mono:∀a b,a<=b->b<xs.size->xs.getD a j<=xs.getD b j:=λa b h hb=>by
  rcases Nat.lt_or_ge a b with h1|h1
  .have:=(qbj.mp hr) a b (by simpa using Nat.lt_trans h1 hb) (by simpa using hb) h1;simp only[Array.getElem_toList]at this;rw[qaw,qaw,qat hb,qat (Nat.lt_trans h1 hb)];exact Nat.le_of_lt this
  .have:a=b:=by omega
   subst this;exact qam _
 intro fuel;induction fuel with
 |zero =>
   intro lo hi h1 h2 h3 h4 h5;have:lo=hi:=by omega
   subst this;exact⟨h3,h4,h5⟩
 |succ f ih =>
   intro lo hi h1 h2 h3 h4 h5;dsimp only;unfold SetTable.below.go;by_cases c:lo<hi
   .rw[qaF c];dsimp only;by_cases c2:xs.getD ((lo+hi)/2) j<j
    .rw[qaF c2];exact ih _ _ (by omega) (by omega) h3 (λi hi'=>Nat.lt_of_le_of_lt (mono i _ (by omega) (by omega)) c2) h5
    .rw[qaC c2];exact ih _ _ (by omega) (by omega) (by omega) h4 (λi hi' hs=>qaO (Nat.le_of_not_lt c2) (mono _ i hi' hs))
   .rw[qaC c];have:lo=hi:=by omega
    subst this;exact⟨h3,h4,h5⟩
theorem CA(hr:nD xs)(j:Nat):SetTable.below xs j<=xs.size/\(∀i,i<SetTable.below xs j->xs.getD i j<j)/\∀i,SetTable.below xs j<=i->i<xs.size->j<=xs.getD i j:=
 Pd xs j hr xs.size 0 xs.size (by omega) (qaW _) γO (λi h=>absurd h (qbI _)) (λi h1 h2=>absurd h2 (Nat.not_lt_of_le h1))
theorem qo{xs:ζP}(h:i<xs.size):xs.getD i j=xs[i]:=by rw[qaw,qat h];rfl
theorem HL(hr:nD xs)(hj:xs[SetTable.below xs j]?≠some j):nD (SetTable.insertAt xs δI j):=by
 obtain⟨h1,h2,h3⟩:=CA hr j;have hr':=hr;unfold nD at hr ⊢;rw[SetTable.toList_insertAt];have hs:(xs.toList.take δI++xs.toList.drop δI).Pairwise (· < ·):=by rw[qbc];exact hr
 rw[List.pairwise_append]at hs ⊢
 have lo:∀a∈xs.toList.take δI,a<j:=λa ha=>by
  obtain⟨i,hi,rfl⟩:=List.mem_iff_getElem.mp ha;have hi':i<SetTable.below xs j/\i<xs.size:=by simp at hi;omega
  have:=h2 i hi'.1;rw[qo hi'.2]at this;simpa using this
 have hi:∀a∈xs.toList.drop δI,j<a:=λa ha=>by
  obtain⟨i,hi,rfl⟩:=List.mem_iff_getElem.mp ha;have hi':SetTable.below xs j+i<xs.size:=by simp at hi;omega
  have hb:SetTable.below xs j<xs.size:=by omega
  have l1:=h3 δI γO hb;rw[qo hb]at l1;have l2:xs[SetTable.below xs j]≠j:=λe=>hj (by rw[qat hb,e]);have l3:=h3 (SetTable.below xs j+i) (Nat.le_add_right _ _) hi';rw[qo hi']at l3;simp only[List.getElem_drop,Array.getElem_toList];rcases Nat.eq_zero_or_pos i with z|z
  .subst z;exact Nat.lt_of_le_of_ne l1 (qaR l2)
  .have:=(qbj.mp hr) δI (SetTable.below xs j+i) (by simpa using hb) (by simpa using hi') (by omega);simp only[Array.getElem_toList]at this;omega
 refine⟨hs.1,qbh.mpr ⟨hi,hs.2.1⟩,λa ha b hb=>?_⟩;rcases qak.mp hb with rfl|hb
 .exact lo a ha
 .exact Nat.lt_trans (lo a ha) (hi b hb)
theorem Pe(n:Nat):nD (Array.range n):=by unfold nD;simp only[Array.toList_range];exact List.pairwise_lt_range
theorem CB(j:Nat):SetTable.has #[] j=false:=by unfold SetTable.has;simp
theorem HM{t:SetTable}(hd:t.dummies=#[])(h:t.slot j=.empty):t.place[SetTable.below t.place j]?≠some j:=by unfold SetTable.slot at h;dsimp only at h;intro e;rw[e]at h;simp at h
theorem Am{t:SetTable}(hd:t.dummies=#[])(j:Nat):t.slot j≠.dummy:=by
 unfold SetTable.slot;dsimp only;rw[hd,CB];split
 .intro h;cases h
 .intro h;cases h
theorem HN{t:SetTable}(hd:t.dummies=#[])(f:Nat->Int)(h:Int):∀(n:Nat) (p:SetTable.Probe) (j:Nat) (d:δD),p.dummy=none->SetTable.probe.go t f h n p=some (.empty j d)->d=none/\t.slot j=.empty:=by
 intro n;induction n with
 |zero=>intro p j d _ e;cases e
 |succ n ih =>
   intro p j d hp e;unfold SetTable.probe.go at e;split at e
   .rename_i q;cases e;exact⟨hp,q⟩
   .rename_i q;exact absurd q (Am hd _)
   .rename_i i q;split at e
    .cases e
    .refine ih _ j d ?_ e;unfold SetTable.advance;split
     .exact hp
     .exact hp
structure iE(t:SetTable)(B:Bool):Prop where
 rise:nD t.place
 nZ:t.dummies=#[]
 led:t.led = !B
theorem iE.standIn(h:iE t B)(n:Nat):iE (t.standIn n) B:=⟨Pe n,rfl,h.led⟩
theorem iE.orStandIn(h:iE t B)(n:Nat):iE (t.orStandIn n) B:=by
 unfold SetTable.orStandIn;split
 .exact h
 .exact h.standIn n
theorem iE.layNew(h:iE t B)(es:zzg)(k:Int)(x:Value):iE (layNew t es k x).2.1 B:=by
 unfold PySem.layNew;cases q:t.freeSlot k with
 |none=>exact h.standIn _
 |some r =>
   obtain⟨slot,wd⟩:=r;dsimp only;refine iE.orStandIn ?_ _
   have hs:t.slot slot=.empty:=by
    unfold SetTable.freeSlot SetTable.probe at q;split at q
    .rename_i j d e;obtain⟨rfl,hs⟩:=HN h.nZ _ _ _ _ _ _ rfl e;cases q;exact hs
    .cases q
   unfold SetTable.put;dsimp only;exact⟨HL h.rise (HM h.nZ hs),by rw[h.nZ,CB];rfl,h.led⟩
theorem HP(owner:η1)(n:Nat):((((List.range n).filterMap λj=>(owner.getD j none).map (j, ·)).map (·.1)).toArray).toList.Pairwise (· < ·):=by
 have e:(((List.range n).filterMap λj=>(owner.getD j none).map (j, ·)).map (·.1))=(List.range n).filter λj=>(owner.getD j none).isSome:=by
  induction List.range n with
  |nil=>rfl
  |cons a r ih =>
    rw[qaK,qbt];cases q:owner.getD a none with
    |none=>simpa [q]using ih
    |some b=>simpa [q]using ih
 rw[e];exact List.Pairwise.sublist List.filter_sublist List.pairwise_lt_range
theorem iE.relayAll(h:iE t B)(es:zzg)(n:Nat):iE (relayAll t es n).2.1 B:=by
 unfold PySem.relayAll;split
 .rename_i t' order q;dsimp only;split
  .unfold SetTable.relaid SetTable.laid at q;cases r:SetTable.layClean (SetTable.sizeAbove n-1) (es.map (·.1)) with
   |none=>rw[r]at q;cases q
   |some owner =>
     rw[r]at q;cases q;exact⟨HP owner _,rfl,h.led⟩
  .exact h.standIn _
 .exact h.standIn _
theorem iE.fresh(B:Bool):iE (.fresh 0 0 (!B)) B:=⟨List.Pairwise.nil,rfl,rfl⟩
end St
namespace St
open PySem PyProof.Rows
noncomputable def uM(e:Int×Value):Int:=match e.2 with
 |.int k _=>k
 |_=>0
noncomputable def Good(e:Int×Value):Prop:=∃k t,e=(hashInt k,.int k t)
noncomputable def bK(es:zzg)(ep:Nat)(t:SetTable):Obj:={cls:=.type "set",dict:=none,data:=.set es ep t,slots:= #[]}
def iF(B:Bool)(h:Heap)(a:Addr)(l:u8):Prop:=∃es ep t,h.get? a=some γ1/\(∀e∈es.toList,Good e)/\(es.toList.map uM).Perm l/\iE t B/\t.fits es.size=true
theorem iF.at{h h':Heap}(x:iF B h a l)(k:∀o,h.get? a=some o->h'.get? a=some o):iF B h' a l:=by obtain⟨es,ep,t,e,r⟩:=x;exact⟨es,ep,t,k _ e,r⟩
section
variable{prog:Program}{w:World}{A:Around}{E:T0}{s:Shared}
theorem Pf(h:∀e∈l,Good e):ElemsOf (intKind prog w) l:=λe he=>by obtain⟨k,t,rfl⟩:=h e he;exact⟨⟨k,intKind_is _ _ _ _,rfl⟩,rfl⟩
theorem HQ(h:Good e)(k:Int):(intKind prog w).is k e.2=decide (uM e=k):=by obtain⟨k',t,rfl⟩:=h;rw[KeyKind.is_eq_decide (intKind_is prog w k' t) k];exact decide_eq_decide.mpr ⟨Eq.symm,Eq.symm⟩
theorem An{h:Heap}(e:h.get? a=some γ1):(h.update a (Obj.putSet es' t')).get? a=some (bK es' (ep+1) t'):=
 qbz (Obj.putSet es' t') e rfl
theorem add_int(hS:iF B s.heap a l)(hn:l.length+1<scanBound)
 (h:∀(b:Bool) h',Heap.SameBut a s.heap h'->iF B h' a η6->Q b {s with heap:=h'}):wpAny γ A (setAddHashed a η2 θ4) Q E s:=by
 obtain⟨es,ep,t,ho,hg,hp,hh,hf⟩:=hS;have hel:ElemsOf (intKind prog w) es.toList:=Pf hg;have hsz:es.size=l.length:=by rw[<-qaz,<-hp.length_eq,qaf]
 have hb:es.size<scanBound:=by omega
 unfold  setAddHashed setAddHashedIn;refine qaV (qaa ?_);refine qa5 ho rfl hf ?_;dsimp only;rw[byScan_of (knd:=intKind prog w) (x:=.int k tk) rfl hb hel,qaF rfl];refine qaa ?_;unfold setAddByScan;refine qaa (wpAny_rule (qaa ?_));refine wpAny_setScan_of (knd:=intKind prog w) (k:=k) ζS ho rfl hf hel ?_
 have hany:l.any (· == k)=true ↔ ∃e∈es.toList,uM e=k:=by
  rw[List.any_eq_true];constructor
  .rintro⟨y,hy,e⟩;rw[<-hp.mem_iff,qaE]at hy;obtain⟨e',he,rfl⟩:=hy;exact⟨e',he,by simpa using e⟩
  .rintro⟨e,he,hk⟩;exact⟨k,hp.mem_iff.mp (qaE.mpr ⟨e,he,hk⟩),by simp⟩
 cases hr:List.findIdx? (λe=>(intKind prog w).is k e.2) es.toList with
 |some j =>
   dsimp only;obtain⟨hj,hpj,_⟩:=List.findIdx?_eq_some_iff_getElem.mp hr;rw[HQ (hg _ (qaY hj))]at hpj;have hin:l.any (· == k)=true:=hany.mpr ⟨_,qaY hj,qaI hpj⟩;refine qac (qac ?_);have:=h false s.heap (Heap.SameBut.refl a s.heap) ⟨es,ep,t,ho,hg,by unfold step_dedup;rw[if_pos hin];exact hp,hh,hf⟩;exact this
 |none =>
   dsimp only
   have hnot:¬l.any (· == k)=true:=λz=>by obtain⟨e,he,hk⟩:=hany.mp z;have:=List.findIdx?_eq_none_iff.mp hr e he;rw[HQ (hg e he),qan hk]at this;cases this
   have hperm:=layNew_perm t es θ4 η2;have hfits:=layNew_fits t es θ4 η2;have qp:=hh.layNew es θ4 η2;generalize hL:layNew t es θ4 η2=L at hperm hfits qp ⊢;obtain⟨es1,t1,wd,gv⟩:=L;dsimp only at hperm hfits qp ⊢;rw[Array.toList_push]at hperm
   have hg1:∀e∈es1.toList,Good e:=λe he=>by
    rcases qaH.mp (hperm.mem_iff.mp he) with q|q
    .exact hg e q
    .rw[qaD]at q;exact⟨k,tk,q⟩
   have hp1:(es1.toList.map uM).Perm η6:=by unfold step_dedup;rw[qaC hnot];refine(hperm.map uM).trans ?_;rw[qbJ];exact hp.append (List.Perm.refl _)
   have hsz1:es1.size=es.size+1:=by rw[<-qaz,hperm.length_eq,qaq,qaz];rfl
   have g1:∀t2,(s.heap.update a (Obj.putSet es1 t2)).get? a=some (bK es1 (ep+1) t2):=λt2=>An ho;have mJ:∀t2,Heap.SameBut a s.heap (s.heap.update a (Obj.putSet es1 t2)):=λt2=>Heap.SameBut.update s.heap a _
   have gw:∀{m:Sem Unit}{aI:Shared}{Q':Unit->Shared->Prop},(m=rule "set.scan.the-table-gave-way" \/ m=pure ())->Q' () aI->wpAny γ A m Q' E aI:=λ{m aI Q'} hm hq=>by
    rcases hm with rfl|rfl
    .exact wpAny_rule hq
    .exact qac hq
   refine qaa (gw (by cases gv;exact .inr rfl;exact .inl rfl) ?_);have hv:hashByValue 8 η2=pure true:=hashByValue_scannable 8 (x:=.int k tk) rfl;rw[hv,ite_self];refine qaa (qac ?_);rw[qaF rfl];refine qaa (wpAny_storeSet_of ho rfl ?_ (fits_of_scanBound (by omega)));split
   .have p2:=relayAll_perm t1 es1 εP;have fr:=relayAll_fits t1 es1 εP;have hr2:=qp.relayAll es1 εP;generalize relayAll t1 es1 εP=Rl at p2 fr hr2 ⊢;rcases Rl with ⟨es2,t3,g2⟩;dsimp only at p2 fr hr2 ⊢;refine qaa (gw (by cases g2;exact .inr rfl;exact .inl rfl) ?_);have z2:es2.size=es1.size:=by rw[<-qaz,p2.length_eq,qaz]
    refine qaa (wpAny_storeSet_of (g1 t1) rfl ?_ (fits_of_scanBound (by omega)));exact qac (qac (h true _ ((mJ t1).trans (Heap.SameBut.update _ a _)) ⟨es2,_,t3,An (g1 t1),λe he=>hg1 e (p2.mem_iff.mp he),(p2.map uM).trans hp1,hr2,fr⟩))
   .exact qac (qac (h true _ (mJ t1) ⟨es1,_,t1,g1 t1,hg1,hp1,qp,hfits⟩))
end
end St
namespace St
open PySem PyProof.Rows PySem.Spec
section
variable{prog:Program}{w:World}{A:Around}{E:T0}{s:Shared}
theorem n4:∀(l σ:u8),(l.foldl step_dedup σ).length<=σ.length+l.length:=length_foldl_step_dedup_le
theorem Pg(a:Value)(h:Q₁ γj {s with heap:=s.heap.push (bK #[] 0 (.fresh 0 0 (!(w.params.followText "set-order"))))}) :
 codeAny γ A (.call (.builtin "set.__new__") ⟨[.type "set",a],[]⟩) (wants Q₁ E) s:=by
 have self:=sub_set_self
 refine qbD F.plain_set_new F.entry_set_new (by rw[F.newCall_set_1 a];refine qac ?_;unfold Builtin.«set.__new__»;unfold Builtin.Frozenset.newClass;cases s;dsimp only;wp_walk;refine qbu ?_;refine qac ?_;refine qaa ?_;exact wpAny_alloc (qac (qac h)))
theorem HR{Q₁:T0}{R:Result->Shared->Prop}(h:∀v s,Q₁ v s->R (.ok (.ret v)) s)(he:∀e s,E e s->R (.error e) s):∀r s,wants Q₁ E r s->R r s:=by
 intro r s hr;cases r with
 |error e=>exact he e s hr
 |ok f=>cases f<;>first|exact h _ _ hr|exact hr.elim
theorem Ph{l:Addr}{Q:T0}{O:Obj}(hO:bK #[] 0 (.fresh 0 0 (!(w.params.followText "set-order")))=O)
 (h:wpAny γ A.in1.in1 (Builtin.«set.__init__» ⟨[.ref s.heap.objs.size,.ref l],[]⟩) (λfin s'=>match fin with
  |.done f=>wants (λr s2=>r=.none/\Q γj s2) E (.ok f) s'
  |.again c'=>c'.quiet=true/\codeAny γ A.in1 c' (wants (λr s2=>r=.none/\Q γj s2) E) s')
  (λe s'=>wants (λr s2=>r=.none/\Q γj s2) E (.error e) s') {s with heap:=s.heap.push O}):wpAny γ A (call (.type "set") [.ref l]) Q E s:=by
 obtain⟨f1,f2,⟨c,tl,f3⟩,f4,f5,f6,f7⟩:=F.called_set
 have f8:=F.typeCall_set_1 ιr
 have f9:=f7.lookup
 have fa:=f7.bind γj
 have made:=Pg (prog:=prog) (w:=w) (A:=A.in1) (E:=E) (s:=s) ιr (Q₁:=λv s1=>v=.ref s.heap.objs.size/\s1={s with heap:=s.heap.push O}) ⟨rfl,by rw[hO]⟩
 have hT:Shared.TypeIs {s with heap:=s.heap.push O} γj "set":= ⟨O,qao _ (by rw[<-hO];rfl),by rw[<-hO];rfl⟩
 have ini:=qbD f7.plain F.entry_set_init (check_set_init_1 (M:=model prog w) hT h)
 refine wpAny_call (codeAny_of_tree (show wpAny _ _ (callAny (.type "set") _) _ _ _ from qac ⟨Code.quiet_builtin _ (by decide +kernel),qbK F.entry_type_call (by
  rw[Around.under_plain (weight_type_call_type "set" _ []) rfl]
  repeat (any_goals (first|wp_step|assumption))
  refine codeAny_mono made (HR ?_ λ_ _ z=>z);rintro v s1 ⟨rfl,rfl⟩
  repeat (any_goals (first|wp_step|assumption))
  refine codeAny_mono ini (HR ?_ λ_ _ z=>z);rintro v s2 ⟨rfl,q⟩
  repeat (any_goals (first|wp_step|assumption)))⟩))
end
theorem bT:Slot "set_iterator" "__next__" "set_iterator.__next__":=
 .of (owner:= "set_iterator") (n:= "__next__") (by rw[typeLookup_type,builtinLookup_eq_fast];kernel_rfl) (by decide +kernel) (by decide +kernel) (by decide +kernel) (by first|exact .inl (by decide +kernel)|exact .inr (by decide +kernel)) (by rw[isSubtype_type];kernel_rfl)
theorem HS:Slot "set_iterator" "__iter__" "set_iterator.__iter__":=
 .of (owner:= "set_iterator") (n:= "__iter__") (by rw[typeLookup_type,builtinLookup_eq_fast];kernel_rfl) (by decide +kernel) (by decide +kernel) (by decide +kernel) (by first|exact .inl (by decide +kernel)|exact .inr (by decide +kernel)) (by rw[isSubtype_type];kernel_rfl)
theorem Ao:entryFor table "set_iterator.__next__" = some Builtin.«set_iterator.__next__»:= entryFor_of_tree (by kernel_rfl)
theorem Pj:entryFor table "set_iterator.__iter__" = some Builtin.«dict_keyiterator.__iter__»:= entryFor_alias (id':= "dict_keyiterator.__iter__") (by kernel_rfl) rfl (by decide +kernel) (by kernel_rfl)
theorem Pl:entryFor table "set.__iter__" = some Builtin.«frozenset.__iter__»:= entryFor_alias (id':= "frozenset.__iter__") (by kernel_rfl) rfl (by decide +kernel) (by kernel_rfl)
theorem Ap(a:Value):argsOk "set_iterator.__next__" ⟨[a],[]⟩:=by unfold argsOk;kernel_rfl
theorem Pn(a:Value):argsOk "set_iterator.__iter__" ⟨[a],[]⟩:=by unfold argsOk;kernel_rfl
noncomputable def pQ(f:Value)(i:Nat)(a:Addr)(n ep:Nat):Obj:={cls:=.type "set_iterator",dict:=none,data:=.fields #[f,.int i 0,.ref a,.int n 0,.int ep 0],slots:= #[]}
section
variable{prog:Program}{w:World}{A:Around}{E:T0}{s:Shared}{I a:Addr}{es:zzg}{ep i n:Nat}{t:SetTable}{f:Value}{Q:zzb->Shared->Prop}
theorem stops{s:Shared}(hh:A.handled=none)(hQ:∀h',(∀b o,b≠I->s.heap.get? b=some o->h'.get? b=some o)->Q none {s with heap:=h'}) :
 wpAny γ A.in1 (do raiseNew (<-newExc (.type "StopIteration") []):Sem Fin) P (λe s1=>wpAny γ A (do if <-isInstance e (.type "StopIteration") then pure none else throw e) Q E s1) s:=by refine qaa ?_;unfold newExc newTuple;refine qaa (qaJ (qaa (m:=firstArgMember _ _) (wpAny_of_eq (a:=Value.none) (by simp only[firstArgMember];rfl) (qaJ ?_ (by size_fits)))) (by size_fits));exact wpAny_raiseNew_none hh (qaa (wpAny_isInstance (T:= "StopIteration") ⟨_,qao _ rfl,rfl⟩ isSubtype_stop (qac (hQ _ λb o _ e=>qab _ ιe))))
theorem Po{slot nxt:Nat}{x:Value}(hI:s.heap.get? I=some ιg)(ha:s.heap.get? a=some γ1)(hf:t.fits es.size=true)
 (hN:∀{Q':Option (Value×Nat)->Shared->Prop} {E'},Q' (some (x,nxt)) s->wpAny γ A.in1 ζF Q' E' s)
 (hQ:∀h',h'.get? I=some (pQ (.int nxt 0) (i+1) a es.size ep)->(∀b o,b≠I->s.heap.get? b=some o->h'.get? b=some o)->Q δt {s with heap:=h'}):wpAny γ A (pyNext δ7) Q E s:=by have hTy:Shared.TypeIs _ δ7 "set_iterator":= ⟨_,hI,rfl⟩;unfold pyNext;refine qaa (wpAny_attempt (qbp (name:=Str.ofString "__next__") hTy bT (qaZ bT hTy Ao ?_ (Ap _))));show wpAny _ _ (fieldsOf δ7 >>= _) _ _ _;refine qaa (wpAny_fieldsOf hI rfl ?_);show wpAny _ _ (setEntries a >>= _) _ _ _;refine qaa (wpAny_setEntries_of ha rfl hf ?_);rw[qaC (by simp)];dsimp only;refine qaa (hN ?_);dsimp only;refine qaa (wpAny_setField_rec hI (by simp) λh1 g1 mJ=>?_);refine qaa (wpAny_setField_rec g1 (by simp) λh2 g2 CC=>?_);exact qac ⟨_,rfl,qac (hQ h2 g2 λb o hb e=>CC.extBut b o hb θM)⟩
theorem Pp{slot:Nat}(hh:A.handled=none)(hI:s.heap.get? I=some ιg)(ha:s.heap.get? a=some γ1)(hf:t.fits es.size=true)
 (hN:∀{Q':Option (Value×Nat)->Shared->Prop} {E'},Q' none s->wpAny γ A.in1 ζF Q' E' s)
 (hQ:∀h',(∀b o,b≠I->s.heap.get? b=some o->h'.get? b=some o)->Q none {s with heap:=h'}):wpAny γ A (pyNext δ7) Q E s:=by have hTy:Shared.TypeIs _ δ7 "set_iterator":= ⟨_,hI,rfl⟩;unfold pyNext;refine qaa (wpAny_attempt (qbp (name:=Str.ofString "__next__") hTy bT (qaZ bT hTy Ao ?_ (Ap _))));show wpAny _ _ (fieldsOf δ7 >>= _) _ _ _;refine qaa (wpAny_fieldsOf hI rfl ?_);show wpAny _ _ (setEntries a >>= _) _ _ _;refine qaa (wpAny_setEntries_of ha rfl hf ?_);rw[qaC (by simp)];dsimp only;refine qaa (hN ?_);dsimp only;refine qaa (wpAny_setField_rec hI (by simp) λh1 g1 mJ=>?_);exact stops (I:=I) hh λh' k=>hQ h' λb o hb e=>k b o hb θM
theorem Pq{T:Addr}{ps:zzh}{c p:Nat}{x:Int×Value}(hI:s.heap.get? I=some ζW)(ha:s.heap.get? a=some γ1)(hf:t.fits es.size=true)
 (hT:s.heap.get? T=some {cls:=.type "tuple",dict:=none,data:=.seq ps c,slots:= #[]}) (hp:ps[i]?=some (.int p 0)) (hx:es[p]?=some x)
 (hQ:∀h',h'.get? I=some (pQ (.ref T) (i+1) a es.size ep)->(∀b o,b≠I->s.heap.get? b=some o->h'.get? b=some o)->Q (some x.2) {s with heap:=h'}):wpAny γ A (pyNext δ7) Q E s:=by have hTy:Shared.TypeIs _ δ7 "set_iterator":= ⟨_,hI,rfl⟩;unfold pyNext;refine qaa (wpAny_attempt (qbp (name:=Str.ofString "__next__") hTy bT (qaZ bT hTy Ao ?_ (Ap _))));show wpAny _ _ (fieldsOf δ7 >>= _) _ _ _;refine qaa (wpAny_fieldsOf hI rfl ?_);show wpAny _ _ (setEntries a >>= _) _ _ _;refine qaa (wpAny_setEntries_of ha rfl hf ?_);rw[qaC (by simp)];dsimp only;refine qaa (wpAny_seqItems hT rfl ?_);simp only[Int.toNat_natCast,hp];refine qaa ?_;unfold setNextDrawn;refine qaa (qa5 ha rfl hf ?_);dsimp only;rw[qaC (by simp)];simp only[Int.toNat_natCast,hx];refine qac ?_;refine qaa (wpAny_setField_rec hI (by simp) λh1 g1 mJ=>?_);exact qac ⟨_,rfl,qac (hQ h1 g1 λb o hb e=>mJ.extBut b o hb e)⟩
theorem Pr(hh:A.handled=none)(hI:s.heap.get? I=some ζW)(ha:s.heap.get? a=some γ1)(hf:t.fits es.size=true)
 (hT:s.heap.get? T=some {cls:=.type "tuple",dict:=none,data:=.seq ps c,slots:= #[]}) (hp:ps[i]?=none)
 (hQ:∀h',(∀b o,b≠I->s.heap.get? b=some o->h'.get? b=some o)->Q none {s with heap:=h'}):wpAny γ A (pyNext δ7) Q E s:=by have hTy:Shared.TypeIs _ δ7 "set_iterator":= ⟨_,hI,rfl⟩;unfold pyNext;refine qaa (wpAny_attempt (qbp (name:=Str.ofString "__next__") hTy bT (qaZ bT hTy Ao ?_ (Ap _))));show wpAny _ _ (fieldsOf δ7 >>= _) _ _ _;refine qaa (wpAny_fieldsOf hI rfl ?_);show wpAny _ _ (setEntries a >>= _) _ _ _;refine qaa (wpAny_setEntries_of ha rfl hf ?_);rw[qaC (by simp)];dsimp only;refine qaa (wpAny_seqItems hT rfl ?_);simp only[Int.toNat_natCast,hp];refine qaa (wpAny_setField_rec hI (by simp) λh1 g1 mJ=>?_);refine qaa (wpAny_setField_rec g1 (by simp) λh2 g2 CC=>?_);exact stops (I:=I) hh λh' k=>hQ h' λb o hb e=>k b o hb (CC.extBut b o hb θM)
theorem HU{Q:T0}(hI:s.heap.get? I=some (pQ f i a n ep))(hQ:Q δ7 s):wpAny γ A (pyIter δ7) Q E s:=by have hT:s.TypeIs δ7 "set_iterator":= ⟨_,hI,rfl⟩;refine wpAny_pyIter_slot hT HS (qaZ HS hT Pj ?_ (Pn _));exact qac ⟨_,rfl,"set_iterator",_,hT,bT.lookup,hQ⟩
end
theorem HV{α:Type}{l:ζi}(h:i<l.length):(l[i]::l.eraseIdx i).Perm l:=by rw[List.eraseIdx_eq_take_drop_succ];refine List.perm_middle.symm.trans ?_;rw[<-qby h,qbc]
theorem Pt{α:Type}(next:Nat->Nat):∀(fuel k:Nat) (left:ζi) (out:Array α),fuel=left.length->((pickOrder.go next fuel k left out).toList).Perm (out.toList++left):=by
 intro fuel;induction fuel with
 |zero =>
   intro k left out h;have:left=[]:=List.length_eq_zero_iff.mp h.symm;subst this;unfold pickOrder.go;simp
 |succ f ih =>
   intro k left out h;unfold pickOrder.go;have hlt:next k % left.length<left.length:=Nat.mod_lt _ (by omega)
   rw[qah hlt];dsimp only;refine(ih (k+1) _ _ (by rw[List.length_eraseIdx_of_lt hlt];omega)).trans ?_;rw[Array.toList_push,List.append_assoc];exact List.Perm.append_left _ (HV hlt)
theorem Pu{α:Type}(next:Nat->Nat)(xs:Array α):(pickOrder next xs).toList.Perm xs.toList:=by
 have:=Pt next xs.size 0 xs.toList #[] (by simp)
 simpa [pickOrder]using this
section
variable{prog:Program}{w:World}{A:Around}{E:T0}{s:Shared}{I a:Addr}{es:zzg}{ep n:Nat}{t:SetTable}
theorem Pw(hn:n≠0)(h:∀i d,i<n->Q i {s with drawn:=d}):wpAny γ A (choose src n) Q E s:=by intro Γ p hΓ;unfold choose;rw[Sem.wp_choose];refine⟨hn,?_⟩;exact h _ _ (Nat.mod_lt _ (Nat.pos_of_ne_zero hn))
theorem Px{α:Type}:∀(n:Nat) (xs:ζi) (s:Shared) (Q:List α->Shared->Prop),n=xs.length->(∀l d,l.Perm xs->Q l {s with drawn:=d})->wpAny γ A (drawOrder n xs) Q E s:=by
 intro n;induction n with
 |zero =>
   intro xs s Q h q;have:xs=[]:=List.length_eq_zero_iff.mp h.symm;subst this;unfold drawOrder;exact qac (q [] s.drawn .nil)
 |succ n ih =>
   intro xs s Q h q;cases xs with
   |nil=>cases h
   |cons x r =>
     unfold drawOrder;refine qaa (Pw (by simp) λi d hi=>?_);rw[qah hi];dsimp only;refine qaa (ih _ _ _ (by rw[List.length_eraseIdx_of_lt hi];simp at h ⊢;omega) λl d' pl=>?_);exact qac (q _ d' ((List.Perm.cons _ pl).trans (HV hi)))
noncomputable def pos(xs:ζP):Nat->Nat
 |0=>0
 |k+1=>xs.getD k 0+1
theorem HW(hr:nD xs)(hi:i<=xs.size):SetTable.below xs (pos xs i)=i:=by
 obtain⟨h1,h2,h3⟩:=CA hr (pos xs i);generalize SetTable.below xs (pos xs i)=p at h1 h2 h3;cases i with
 |zero =>
   rcases Nat.eq_zero_or_pos p with z|z
   .exact z
   .exact absurd (h2 0 z) (qbI _)
 |succ k =>
   have hk:k<xs.size:=hi;have ek:pos xs (k+1)=xs[k]+1:=by show xs.getD k 0+1=_;rw[qo hk]
   rw[ek]at h2 h3
   have lt:∀a b (ha:a<b) (hb:b<xs.size),xs[a]<xs[b]:=λa b ha hb=>by have:=(qbj.mp hr) a b (by simpa using Nat.lt_trans ha hb) (by simpa using hb) ha;simpa using this
   have a1:k<p:=Nat.lt_of_not_le λz=>by have:=h3 k z hk;rw[qo hk]at this;omega
   have a2:p<=k+1:=Nat.le_of_not_lt λz=>by
    have l1:=h2 (k+1) z;have hk1:k+1<xs.size:=by omega
    rw[qo hk1]at l1;have:=lt k (k+1) (qa3 _) hk1;omega
   omega
theorem HX(ha:s.heap.get? a=some γ1)(hf:t.fits es.size=true)(hB:w.params.followText "set-order" = true)
 (h:Q (((pickOrder δf es)[i]?).map λe=>(e.2,slot)) s):wpAny γ A ζF Q E s:=by unfold setNext;refine qaa (qa5 ha rfl hf ?_);dsimp only;refine qaa ?_;unfold setsByText;refine qaa (qbu (qac ?_));dsimp only;rw[show(model prog w).w.params.followText "set-order" = true from hB,qaF rfl,qaC (by simp)];refine qaa ?_;unfold setWalk setsByText;refine qaa (qa5 ha rfl hf ?_);dsimp only;refine qaa (qaa (qbu (qac ?_)));dsimp only;rw[show(model prog w).w.params.followText "set-order" = true from hB,qaF rfl];refine qaa (qbu (qac (qac h)))
theorem HY(ha:s.heap.get? a=some γ1)(hf:t.fits es.size=true)(hB:w.params.followText "set-order" = false)(hl:t.led=true)(hd:(!t.plain&&decide (es.size>1))=false)
 (h:Q (match es[SetTable.below t.place slot]?,t.place[SetTable.below t.place slot]? with|some (_,x),some j=>some (x,j+1)|_,_=>none) s):wpAny γ A ζF Q E s:=by
 unfold setNext;refine qaa (qa5 ha rfl hf ?_);dsimp only;refine qaa ?_;unfold setsByText;refine qaa (qbu (qac ?_));dsimp only;rw[show(model prog w).w.params.followText "set-order" = false from hB,qaC (by simp)];split
 .rename_i z;have z':(!t.plain&&decide (es.size>1))=true:=z;rw[hd]at z';cases z'
 .refine qaa (wpAny_of_eq (a:=()) ?_ ?_)
  .show(if (!t.led&& !es.isEmpty)=true then unsupported "set:maker-not-led" else pure ())=pure ();rw[hl];rfl
  .exact qac h
theorem HZ(hh:A.handled=none)(hf:t.fits es.size=true)(hne:a≠I){vs:v4}{fst:Nat->Nat}
 (hi:∀(i:Nat) (v:Value),vs[i]?=some v->∀{s:Shared}{A':Around}{Q':Option (Value×Nat)->Shared->Prop} {E'},s.heap.get? a=some γ1->Q' (some (v,fst (i+1))) s->wpAny γ A' (setNext a (fst i) i ep) Q' E' s)
 (hd:∀{s:Shared}{A':Around}{Q':Option (Value×Nat)->Shared->Prop} {E'},s.heap.get? a=some γ1->Q' none s->wpAny γ A' (setNext a (fst vs.length) vs.length ep) Q' E' s) :
 Walks prog w A I [I,a] [I] vs.length (λi v=>vs[i]?=some v) (λi h=>h.get? I=some (pQ (.int (fst i) 0) i a es.size ep)/\h.get? a=some γ1) where
 sub:=λb hb=>by simp at hb;simp[hb]
 frame:=λi h h' st k=>⟨k I (by simp) _ st.1,k a (by simp) _ st.2⟩
 item:=λi s Q E hlt st hQ=>by refine Po (x:=vs[i]) (nxt:=fst (i+1)) st.1 st.2 hf (λq=>hi i _ (qah hlt) st.2 q) λh' g k=>?_;exact hQ _ h' s.toks (qah hlt) ⟨g,k a _ hne st.2⟩ λb o hb e=>k b o (λz=>hb (by simp[z])) e
 done:=λs Q E st hQ=>Pp hh st.1 st.2 hf (λq=>hd st.2 q) λh' k=>hQ h' s.toks λb o hb e=>k b o (λz=>hb (by simp[z])) e
 self:=λ_ _ _ _ st hQ=>HU st.1 hQ
theorem Py(hh:A.handled=none)(hf:t.fits es.size=true)(hne:a≠I)(hT:T≠I){ps:zzc}{vs:v4}(hl:ps.length=vs.length)
 (hv:∀(i p:Nat),ps[i]?=some p->∃x,es[p]?=some x/\vs[i]?=some x.2) :
 Walks prog w A I [I,a,T] [I] vs.length (λi v=>vs[i]?=some v) (λi h=>h.get? I=some ζW/\h.get? a=some γ1/\h.get? T=some {cls:=.type "tuple",dict:=none,data:=.seq (ps.map λ(p:Nat)=>rawInt p).toArray c,slots:= #[]}) where
 sub:=λb hb=>by simp at hb;simp[hb]
 frame:=λi h h' st k=>⟨k I (by simp) _ st.1,k a (by simp) _ st.2.1,k T (by simp) _ st.2.2⟩
 item:=λi s Q E hlt st hQ=>by
  have hlt':i<ps.length:=by omega
  obtain⟨x,hx,Pz⟩:=hv i ps[i] (qah hlt');refine Pq (p:=ps[i]) (x:=x) st.1 st.2.1 hf st.2.2 (by simp[List.getElem?_eq_getElem hlt',rawInt]) hx λh' g k=>?_;exact hQ _ h' s.toks Pz ⟨g,k a _ hne st.2.1,k T _ hT st.2.2⟩ λb o hb e=>k b o (λz=>hb (by simp[z])) e
 done:=λs Q E st hQ=>Pr hh st.1 st.2.1 hf st.2.2 (by simp[hl]) λh' k=>hQ h' s.toks λb o hb e=>k b o (λz=>hb (by simp[z])) e
 self:=λ_ _ _ _ st hQ=>HU st.1 hQ
end
section
variable{prog:Program}{w:World}{A:Around}{E:T0}{s:Shared}{a:Addr}{es:zzg}{ep:Nat}{t:SetTable}
theorem PB(hf:t.fits es.size=true):t.place.size=es.size:=by simp only[SetTable.fits,Bool.and_eq_true,beq_iff_eq,decide_eq_true_eq]at hf;exact hf.1
theorem PC(ha:s.heap.get? a=some γ1)(hon:iE t (w.params.followText "set-order"))(hf:t.fits es.size=true)(hz:es.size<=sizeLine)
 (h:∀(I:Addr) (h':Heap) (d:Drawn) (fp:zzd) (vs:v4) (Wt:Nat->Heap->Prop),s.heap.objs.size<=I->(∀b o,s.heap.get? b=some o->h'.get? b=some o)->(∀b∈fp,b=a\/s.heap.objs.size<=b) ->
  vs.Perm (es.toList.map (·.2))->(∀A':Around,A'.handled=none->Walks prog w A' I fp [I] vs.length (λi v=>vs[i]?=some v) Wt)->Wt 0 h'->Q δ7 {s with heap:=h',drawn:=d}):wpAny γ A (pyIter γC) Q E s:=by
 have hT:s.TypeIs γC "set":= ⟨_,ha,rfl⟩
 have alt:a<s.heap.objs.size:=qai ha
 refine wpAny_pyIter_slot hT F.slot_set_iter (qaZ F.slot_set_iter hT Pl ?_ (F.args_set_iter_1 _))
 show wpAny _ _ (Builtin.Frozenset.sizeOf a >>= _) _ _ _
 refine qaa ?_
 unfold Builtin.Frozenset.sizeOf
 refine qaa (wpAny_setEntries_of ha rfl hf (qac ?_))
 refine qaa ?_
 unfold setDrawn setsByText
 refine qaa (qa5 ha rfl hf ?_)
 dsimp only
 refine qaa (qaa (qbu (qac ?_)))
 dsimp only
 refine qac ?_
 have fin:∀(f:Value) (h1:Heap) (d:Drawn),h1.get? a=some γ1->s.heap.objs.size<=h1.objs.size->(h1.get? h1.objs.size=none->Q ηb {s with heap:=h1.push (pQ f 0 a es.size ep),drawn:=d}) ->
  wpAny γ A.in1 (do ret (<-newFields "set_iterator" [f,rawInt 0,.ref a,rawInt es.size,rawInt (<-setEpoch a)]):Sem Fin) (λr s1=>∃v,r=.done (.ret v)/\∃T' r,s1.TypeIs v T'/\typeLookup (.type T') "__next__" = pure (some r)/\Q v s1) E {s with heap:=h1,drawn:=d}:=by
  intro f h1 d g le q;refine qaa (wpAny_setEpoch_of (s:={s with heap:=h1,drawn:=d}) g rfl hf ?_);refine qaa (qaJ (qac ⟨_,rfl,"set_iterator",_,⟨_,qao _ rfl,rfl⟩,bT.lookup,q ?_⟩));cases z:h1.get? h1.objs.size with
  |none=>rfl
  |some o=>exact absurd (qai z) θm
 have ez:=PB hf
 cases hB:w.params.followText "set-order" with
 |true =>
   rw[show(model prog w).w.params.followText "set-order" = true from hB,Bool.not_true,Bool.false_and,qaC (by simp)]
   refine qaa (qac ?_)
   refine fin _ s.heap s.drawn ha γO λ_=>?_
   have pm:=Pu δf es
   have len:((pickOrder δf es).toList.map (·.2)).length=es.size:=by rw[qaf,pm.length_eq,qaz]
   refine h s.heap.objs.size _ s.drawn [s.heap.objs.size,a] ((pickOrder δf es).toList.map (·.2)) _ γO (λb o e=>qab _ e) (λb hb=>?_) (pm.map _)
    (λA' hh'=>HZ (fst:=λ_=>0) hh' hf (qal alt) (λi v hv s A' Q' E' g q=>HX g hf hB ?_) λ{s A' Q' E'} g q=>HX g hf hB ?_) ⟨qao _ rfl,qab _ ha⟩
   .simp only[List.mem_cons,List.not_mem_nil,or_false]at hb
    exact hb.symm.imp id λz=>Nat.le_of_eq z.symm
   .rw[qaB,qaM]at hv
    cases z:(pickOrder δf es)[i]? with
    |none=>rw[z]at hv;cases hv
    |some e=>rw[z]at hv;cases hv;exact q
   .have:(pickOrder δf es)[((pickOrder δf es).toList.map (·.2)).length]?=none:=by simp
    rw[this];exact q
 |false =>
   rw[show(model prog w).w.params.followText "set-order" = false from hB,Bool.not_false,Bool.true_and]
   have wH:t.led=true:=by rw[hon.led,hB];rfl
   cases hd:(!t.plain&&decide (es.size>1)) with
   |false =>
     split
     .rename_i z
      have z':(!t.plain&&decide (es.size>1))=true:=z
      rw[hd]at z';cases z'
     .refine qaa ?_
      refine qac ?_
      refine fin _ s.heap s.drawn ha γO λ_=>?_
      have len:(es.toList.map (·.2)).length=es.size:=by simp
      refine h s.heap.objs.size _ s.drawn [s.heap.objs.size,a] (es.toList.map (·.2)) _ γO (λb o e=>qab _ e) (λb hb=>?_) (.refl _)
       (λA' hh'=>HZ (fst:=pos t.place) hh' hf (qal alt) (λi v hv s A' Q' E' g q=>HY g hf hB wH hd ?_) λ{s A' Q' E'} g q=>HY g hf hB wH hd ?_) ⟨qao _ rfl,qab _ ha⟩
      .simp only[List.mem_cons,List.not_mem_nil,or_false]at hb
       exact hb.symm.imp id λz=>Nat.le_of_eq z.symm
      .have hi:i<es.size:=by have:=(qad.mp hv).1;rwa[len]at this
       rw[HW hon.rise (by omega),qat hi,qat (by omega:i<t.place.size)]
       rw[qaB,qaM,qat hi]at hv
       cases hv
       have e:pos t.place (i+1)=t.place[i]'(by omega)+1:=by show t.place.getD i 0+1=_;rw[qo (by omega)]
       rw[e]at q
       exact q
      .rw[len,HW hon.rise (by omega)]
       have:es[es.size]?=none:=by simp
       rw[this]
       exact q
   |true =>
     split
     .refine qaa (Px _ _ _ _ (by simp) λl d pl=>?_)
      refine qaa (qaJ ?_ ?_)
      .have hl:l.length=es.size:=by rw[pl.length_eq];simp
       refine fin _ _ d (qab _ ha) (by rw[Heap.size_push];exact Nat.le_succ _) λ_=>?_
       have inr:∀p∈l,p<es.size:=λp hp=>by simpa using pl.mem_iff.mp hp
       have pv:(l.filterMap λp=>(es[p]?).map (·.2)).Perm (es.toList.map (·.2)):=by
        refine(pl.filterMap _).trans ?_;have e:(List.range es.size).filterMap (λp=>(es[p]?).map (·.2))=((List.range es.size).filterMap λp=>es[p]?).map (·.2):=by rw[List.map_filterMap]
        rw[e,filterMap_getElem?_range]
       have ev:∀(l:zzc),(∀p∈l,p<es.size)->(l.filterMap λp=>(es[p]?).map (·.2)).length=l.length/\∀(i p:Nat),l[i]?=some p->∃x,es[p]?=some x/\(l.filterMap λp=>(es[p]?).map (·.2))[i]?=some x.2:=by
        intro l;induction l with
        |nil=>intro _;exact⟨rfl,λi p z=>by simp at z⟩
        |cons k r ih =>
          intro hk;obtain⟨i1,i2⟩:=ih λp hp=>hk p (.tail _ hp);have lt:=hk k ζc;have e1:(es[k]?).map (·.2)=some es[k].2:=by rw[qat lt];rfl
          rw[List.filterMap_cons_some (f:=λp:Nat=>(es[p]?).map λ(x:Int×Value)=>x.2) e1];refine⟨by simp[i1],λi p z=>?_⟩;cases i with
          |zero=>simp at z;subst z;exact⟨es[k],qat lt,rfl⟩
          |succ i=>simpa using i2 i p (by simpa using z)
       obtain⟨v1,v2⟩:=ev l inr
       have sz:(s.heap.push {cls:=.type "tuple",dict:=none,data:=.seq (l.map λ(i:Nat)=>rawInt i).toArray}).objs.size=s.heap.objs.size+1:=Heap.size_push ..
       refine h _ _ d [_,a,s.heap.objs.size] _ _ (by rw[sz];exact Nat.le_succ _) (λb o e=>qab _ ιe) (λb hb=>?_) pv
        (λA' hh'=>Py hh' hf (by rw[sz];exact qal (qbH alt)) (T:=s.heap.objs.size) (by rw[sz];exact qal (qa3 _)) v1.symm v2) ⟨qao _ rfl,qab _ (qab _ ha),qab _ (qao _ rfl)⟩
       simp only[List.mem_cons,List.not_mem_nil,or_false]at hb
       rcases hb with z|z|z
       .exact .inr (by rw[z,sz];exact Nat.le_succ _)
       .exact .inl z
       .exact .inr (Nat.le_of_eq z.symm)
      .show(l.map λ(i:Nat)=>rawInt i).toArray.size<=sizeLine
       simp only[List.size_toArray,List.length_map,pl.length_eq,List.length_range]
       exact hz
     .rename_i z
      exact absurd hd z
theorem PD:typeLookup (.type "set") "__len__" = pure (some (.builtin "set.__len__")):=by rw[typeLookup_type,builtinLookup_eq_fast];kernel_rfl
theorem H_(hh:A.handled=none)(ha:s.heap.get? a=some γ1)(hon:iE t (w.params.followText "set-order"))(hf:t.fits es.size=true)(hz:es.size<=sizeLine)
 (h:∀(vs:v4) (h':Heap) (d:Drawn) (tk:Nat),s.heap.objs.size<=h'.objs.size->(∀b o,s.heap.get? b=some o->h'.get? b=some o)->vs.Perm (es.toList.map (·.2))->Q vs {s with heap:=h',drawn:=d,toks:=tk}):wpAny γ A (collect γC) Q E s:=by
 have start:∀{R:Result->Shared->Prop},wpAny γ A.in1 (Builtin.List.listExtendWith γj γC γj) (λfin s'=>match fin with|.done f=>R (.ok f) s'|.again c'=>c'.quiet=true/\codeAny γ A c' R s') (λe s'=>R (.error e) s') {s with heap:=s.heap.push {cls:=.type "list",dict:=none,data:=.seq ([]:v4).toArray} } ->
  codeAny γ A (.builtin "proto.collect" ⟨[.ref a],[]⟩) R s:=λ{R} z=>qbK F.entry_proto_collect (by rw[qbs F.plain_proto_collect];exact show wpAny _ _ (newList [] >>= λv=>again (.builtin "list.__iadd__" ⟨[v,.ref a],[]⟩)) _ _ _ from qaa (qaJ (qac ⟨plainId_quiet F.plain_list_iadd _,qbK F.entry_list_iadd (by rw[qbs F.plain_list_iadd];exact z)⟩)))
 unfold collect;refine qaa (wpAny_runValue (start ?_));have alt:a<s.heap.objs.size:=qai ha;generalize hH:s.heap.push {cls:=.type "list",dict:=none,data:=.seq ([]:v4).toArray}=H;have g0:H.get? s.heap.objs.size=some {cls:=.type "list",dict:=none,data:=.seq #[] 0,slots:= #[]}:=by rw[<-hH];exact qao _ rfl
 have up:∀b o,s.heap.get? b=some o->H.get? b=some o:=λb o e=>by rw[<-hH];exact qab _ e
 have sz:H.objs.size=s.heap.objs.size+1:=by rw[<-hH];exact Heap.size_push ..
 have hT:Shared.TypeIs {s with heap:=H} γC "set":= ⟨_,up _ _ ha,rfl⟩;unfold  Builtin.List.listExtendWith;refine qaa (wpAny_typeOf hT ?_)
 have n1:Builtin.List.listSameRef γj γC=false:=by show(s.heap.objs.size == a)=false;simpa using Nat.ne_of_gt alt
 have n2:(Value.type "set" == Value.type "list")=false:=by decide
 have n3:(Value.type "set" == Value.type "tuple")=false:=by decide
 rw[n1,n2,n3];simp only[Bool.or_false,Bool.false_eq_true,if_false];refine qaa (PC (up _ _ ha) hon hf hz λI h1 d fp vs Wt hI k1 hfp pv W st=>?_);have hT1:Shared.TypeIs {s with heap:=h1,drawn:=d} γC "set":= ⟨_,k1 _ _ (up _ _ ha),rfl⟩;refine qaa (qaV ?_);unfold  Builtin.List.listLengthHint;refine qaa (wpAny_specialOf hT1 PD ?_)
 wp_delta
 refine qaa (wpAny_isInstance (b:=true) hT1 (by rw[isSubtype_type];kernel_rfl) ?_);show wpAny _ _ (typeOf (Value.ref a) >>= _) _ _ _;refine qaa (wpAny_typeOf hT1 ?_);refine qac ?_;rw[qaF (by decide)];refine qaa (wpAny_rule ?_);unfold Builtin.List.listTouch;have g1:=k1 _ _ g0;refine qaa (qaa ?_);refine PyProof.Rows.listUpdate_at g1 rfl ?_ (qaW _) (by simp);have g2:=get?_update_seq g1 (λxs=>xs.push Value.none);refine PyProof.Rows.listUpdate_at g2 rfl ?_ (by show 1<=sizeLine;decide) (by simp);have g3:=get?_update_seq g2 (λxs=>xs.pop)
 have oth:∀b o,b≠s.heap.objs.size->h1.get? b=some o->((h1.update s.heap.objs.size (Obj.mapSeq λxs=>xs.push Value.none)).update s.heap.objs.size (Obj.mapSeq λxs=>xs.pop)).get? b=some o:=λb o hb e =>
  (qaA _ _ (qaR hb)).trans ((qaA _ _ (qaR hb)).trans e)
 have hSf:s.heap.objs.size∉fp:=λz=>by
  rcases hfp _ z with e|e
  .exact absurd alt (by rw[e];exact qa2 _)
  .exact absurd (show H.objs.size<=s.heap.objs.size from e) (by rw[sz];exact Nat.not_succ_le_self _)
 have W':=W A.in1 hh;have hn:vs.length<=sizeLine:=by rw[pv.length_eq];simpa using hz
 refine qac ⟨plainId_quiet F.plain_extend_loop _,codeAny_extend_loopS W'.toS hn _ hSf _ vs.length 0 _ _ _ rfl (qaW _) (W'.frame _ _ _ st λb hb o e=>oth b o (λz=>hSf (by rw[<-z];exact hb)) e) g3 (ItemsOf.nil _) λs' acc c hm g' hacc=>?_⟩;show wpAny _ _ (load s.heap.objs.size >>= _) _ _ _;refine qaa (wpAny_load g' (qac ?_))
 have ev:acc.toList=vs:=by
  refine List.ext_getElem? λi=>?_;cases q:acc[i]? with
  |none =>
    have:acc.size<=i:=by simpa using q
    rw[hacc.1]at this;rw[qaM,q,List.getElem?_eq_none this]
  |some v=>rw[qaM,q,hacc.2 i v q]
 rw[ev];obtain⟨h',g,d',tk,os⟩:=s';have e1:=(hm.gens:g=s.gens);have e2:d'=d:=hm.drawn;have e3:os=s.os:=hm.os;subst e1;subst e2;subst e3;refine h vs h' d' tk (Nat.le_of_lt (qai g')) (λb o e=>hm.heap b o (λz=>?_) (oth b o (qal ζ1) (k1 b o (up b o e)))) pv;have blt:=qai e;rcases qak.mp z with z|z
 .exact absurd blt (by rw[z];exact qa2 _)
 .rw[qaD]at z;have:H.objs.size<=I:=hI;rw[<-z,sz]at this;exact absurd blt (Nat.not_lt.mpr (Nat.le_of_succ_le this))
noncomputable def kv:Value->Int
 |.int k _=>k
 |_=>0
theorem ints_of:∀{vs:v4},(∀v∈vs,∃t,v=.int (kv v) t)->IntsAre vs (vs.map kv)
 |[],_=>.nil
 |v::r,h=>by obtain⟨t,e⟩:=h v ζc;have ih:=ints_of (vs:=r) λu hu=>h u (.tail _ hu);rw[qav];generalize kv v=k at e ⊢;subst e;exact .cons k t ih
theorem Ia{h:Heap}{vs:v4}(ho:h.get? a=some (seqObj "list" vs.toArray n))(out:zzh):∃e,(sortedHeap h a vs out).get? a=some (seqObj "list" out e):=by
 have lt:a<h.objs.size:=qai ho;unfold sortedHeap;have g1:=get?_update_seq ho λ_ => #[]
 have g2:(((h.update a (Obj.mapSeq λ_ => #[])).push (seqObj "tuple" vs.toArray 0)).push (seqObj "list" #[] 0)).get? a=some (seqObj "list" #[] (if ((#[]:zzh).size == vs.toArray.size)=true then n else n+1)):=by rw[Heap.get?_push_ne _ _ _ (by rw[size_push',Heap.size_update];exact qal (qbH lt)),Heap.get?_push_ne _ _ _ (by rw[Heap.size_update];exact qal lt)];exact g1
 exact⟨_,get?_update_seq g2 λ_=>out⟩
theorem Ib{h:Heap}(hb:b≠a)(e:h.get? b=some o):(sortedHeap h a vs out).get? b=some o:=by unfold sortedHeap;rw[qaA _ _ (qaR hb)];exact qab _ (qab _ ((qaA _ _ (qaR hb)).trans e))
theorem lC(hh:A.handled=none)(hS:iF (w.params.followText "set-order") s.heap a l)(h64:l.length<64)
 (h:∀(h':Heap) (d:Drawn) (tk:Nat) (p:Addr) (out:zzh) (e:Nat) (ns:u8),s.heap.objs.size<=p->(∀b o,s.heap.get? b=some o->h'.get? b=some o)->h'.get? p=some {cls:=.type "list",dict:=none,data:=.seq out e,slots:= #[]}->IntsAre out.toList ns->ns.Perm l->ns.Pairwise (· <= ·)->Q γJ {s with heap:=h',drawn:=d,toks:=tk}) :
 wpAny γ A (call (.builtin "sorted") [.ref a]) Q E s:=by
 obtain⟨es,ep,t,ha,hg,hp,hon,hf⟩:=hS;have hsz:es.size=l.length:=by rw[<-qaz,<-hp.length_eq,qaf]
 have z64:(64:Nat)<=sizeLine:=by decide
 refine Calls.call_function_entry kind_sorted plain_sorted entry_sorted (args_sorted1 _) (show wpAny _ _ (checkCount "sorted" 1 1 1 >>= _) _ _ _ from qaa (qac ?_));refine qaa (H_ hh ha hon hf (by omega) λvs h1 d tk le k1 pv=>?_);have vl:vs.length=l.length:=by rw[pv.length_eq,qaf,qaz,hsz]
 refine qaa (wpAny_newList ?_ (by omega))
 have good:∀v∈vs,∃t,v=.int (kv v) t:=λv hv=>by obtain⟨e,he,rfl⟩:=qaE.mp (pv.mem_iff.mp hv);obtain⟨k,t,rfl⟩:=hg e he;exact⟨t,rfl⟩
 have pl:(vs.map kv).Perm l:=by refine(pv.map kv).trans (List.Perm.trans (.of_eq ?_) hp);rw[qbN];rfl
 show wpAny _ _ _ _ _ {s with heap:=h1.push (seqObj "list" vs.toArray 0),drawn:=d,toks:=tk};have hoL:(h1.push (seqObj "list" vs.toArray 0)).get? h1.objs.size=some (seqObj "list" vs.toArray 0):=qao _ rfl;refine qaa (qaV (qaZ slot_list_sort ⟨_,hoL,rfl⟩ entry_list_sort (list_sort_tree hoL (ints_of good) (by omega) λout ns' a1 a2 a3=>⟨_,rfl,?_⟩) (args_list_sort _)));obtain⟨e,ge⟩:=Ia hoL out;refine qac ⟨_,rfl,h _ d tk h1.objs.size out e ns' le (λb o z=>Ib (qal (qai (k1 b o z))) (qab _ (k1 b o z))) ge a1 (a2.trans pl) a3⟩
end
end St
namespace St
open PySem
noncomputable def lp(M:Nat)(s:Nat×Nat):Nat×Nat:=SetTable.leap M s.1 s.2
noncomputable def jS(M:Nat):Nat->Nat×Nat->Nat×Nat
 |0,s=>s
 |n+1,s=>jS M n (lp M s)
theorem sR(M:Nat):∀(n:Nat) (s:Nat×Nat),jS M (n+1) s=lp M (jS M n s)
 |0,s=>rfl
 |n+1,s=>by rw[jS,sR M n,jS]
theorem PF(M a b:Nat)(s:Nat×Nat):jS M (a+b) s=jS M b (jS M a s):=by
 induction b with
 |zero=>rfl
 |succ b ih=>rw[<-Nat.add_assoc,sR,ih,sR]
theorem Ic(M:Nat):∀(n:Nat) (s:Nat×Nat),(jS M n s).2=s.2/32 ^ n
 |0,s=>by simp[jS]
 |n+1,s=>by rw[sR];show(jS M n s).2/32=_;rw[Ic M n,Nat.div_div_eq_div_mul,Nat.pow_succ]
theorem PH(hp:p<2 ^ 64)(i:Nat):(jS M 13 (i,p)).2=0:=by rw[Ic];exact Nat.div_eq_of_lt (qar hp (by decide))
noncomputable def st(M x:Nat):Nat:=(x*5+1) % (M+1)
noncomputable def sts(M:Nat):Nat->Nat->Nat
 |0,x=>x
 |n+1,x=>st M (sts M n x)
theorem wI(M a:Nat)(x:Nat):∀b,sts M (a+b) x=sts M b (sts M a x)
 |0=>rfl
 |b+1=>by rw[<-Nat.add_assoc,sts,wI M a x b,sts]
theorem Ie(M:Nat):∀(n i:Nat),jS M n (i,0)=(sts M n i,0)
 |0,i=>rfl
 |n+1,i=>by rw[sR,Ie M n i];show SetTable.leap M (sts M n i) 0=_;simp[SetTable.leap,sts,st]
def nF(M:Nat):Prop:=M=7\/M=31\/M=127\/M=511\/M=2047
noncomputable def om(M:Nat):Nat->Nat->Nat->Nat
 |0,_,c=>c
 |n+1,x,c=>om M n (st M x) (c ||| 2 ^ x)
theorem Ig:∀(n x c:Nat),(om M n x c).testBit j=true->c.testBit j=true\/∃k,k<n/\sts M k x=j
 |0,_,_,h=>.inl h
 |n+1,x,c,h=>by
   rcases Ig n (st M x) (c ||| 2 ^ x) h with h|⟨k,hk,e⟩
   .rw[Nat.testBit_or,Bool.or_eq_true]at h;rcases h with h|h
    .exact .inl h
    .rw[Nat.testBit_two_pow]at h;exact .inr ⟨0,by omega,qaI h⟩
   .refine .inr ⟨k+1,by omega,?_⟩;have:=wI M 1 x k;rw[Nat.add_comm]at this;rw[this];exact e
theorem PJ(h:nF M):om M (M+1) 0 0=2 ^ (M+1)-1/\sts M (M+1) 0=0:=by rcases h with rfl|rfl|rfl|rfl|rfl<;>decide +kernel
theorem Ih(h:sts M (M+1) 0=0):∀q r,sts M ((M+1)*q+r) 0=sts M r 0
 |0,r=>by simp
 |q+1,r=>by
   have e:(M+1)*(q+1)+r=(M+1)+((M+1)*q+r):=by rw[Nat.mul_succ];omega
   rw[e,wI,h,Ih h q r]
theorem PK(h:nF M)(hx:x<=M)(hy:y<=M):∃m,m<=M/\sts M m x=y:=by
 obtain⟨a,b⟩:=PJ h
 have f:∀z,z<=M->∃k,k<=M/\sts M k 0=z:=λz hz=>by
  rcases Ig (M:=M) (j:=z) (M+1) 0 0 (by rw[a,Nat.testBit_two_pow_sub_one];exact qan (by omega)) with h|⟨k,hk,e⟩
  .rw[Nat.zero_testBit]at h;cases h
  .exact⟨k,by omega,e⟩
 obtain⟨kx,hkx,ex⟩:=f x hx;obtain⟨ky,hky,ey⟩:=f y hy;rcases Nat.le_total kx ky with le|le
 .refine⟨ky-kx,by omega,?_⟩;rw[<-ex,<-wI,<-ey];congr 1;omega
 .refine⟨(M+1+ky-kx) % (M+1),Nat.lt_succ_iff.mp ζw,?_⟩;rw[<-ex,<-wI];have b':=Ih b 1 ky;rcases Nat.lt_or_ge (M+1+ky-kx) (M+1) with z|z
  .rw[Nat.mod_eq_of_lt z,<-ey,<-b'];congr 1;omega
  .have e:kx=ky:=by omega
   subst e;have:(M+1+kx-kx) % (M+1)=0:=by rw[Nat.add_sub_cancel];exact Nat.mod_self _
   rw[this];exact ey
theorem CD(M i p:Nat):(SetTable.leap M i p).1<=M:=Nat.lt_succ_iff.mp ζw
theorem wJ(M i:Nat):i<=SetTable.runEnd M i/\SetTable.runEnd M i-i<=9:=by unfold SetTable.runEnd;split<;>omega
noncomputable def dR(t:SetTable):Nat->SetTable.Probe->SetTable.Probe
 |0,p=>p
 |n+1,p=>dR t n ηR
theorem PL{t:SetTable}(hd:t.dummies=#[])(f:Nat->Int)(h:Int):∀(n:Nat) (p:SetTable.Probe),SetTable.probe.go t f h n p=none->∀k,k<n->∃i,t.slot (dR t k p).j=.live i:=by
 intro n;induction n with
 |zero=>intro p _ k hk;exact absurd hk (qbI _)
 |succ n ih =>
   intro p e k hk;unfold SetTable.probe.go at e;split at e
   .cases e
   .rename_i q;exact absurd q (Am hd _)
   .rename_i i q;split at e
    .cases e
    .cases k with
     |zero=>exact⟨i,q⟩
     |succ k=>exact ih _ e k (by omega)
theorem uN(t:SetTable):∀(a b:Nat) (p:SetTable.Probe),dR t (a+b) p=dR t b (dR t a p)
 |0,b,p=>by rw[Nat.zero_add];rfl
 |a+1,b,p=>by rw[show a+1+b=(a+b)+1 by omega];exact uN t a b _
def pR(M:Nat)(p:SetTable.Probe)(s:Nat×Nat):Prop:=p.j=s.1/\p.i=s.1/\p.perturb=s.2/\p.more=SetTable.runEnd M s.1-s.1
theorem CF(t:SetTable):∀(m:Nat) (p:SetTable.Probe),p.more=m->(dR t m p).more=0/\(dR t m p).i=p.i/\(dR t m p).perturb=p.perturb
 |0,p,h=>⟨h,rfl,rfl⟩
 |m+1,p,h=>by
   have e:t.advance p={p with j:=p.j+1,more:=p.more-1}:=by unfold SetTable.advance;rw[if_pos (by omega)]
   obtain⟨a,b,c⟩:=CF t m ηR (by rw[e];show p.more-1=m;omega);refine⟨a,?_,?_⟩
   .show(dR t m ηR).i=_;rw[b,e]
   .show(dR t m ηR).perturb=_;rw[c,e]
theorem PM(t:SetTable)(h:pR t.mask p s):∃m,m<=10/\pR t.mask (dR t m p) (lp t.mask s):=by obtain⟨h1,h2,h3,h4⟩:=h;obtain⟨a,b,c⟩:=CF t p.more p rfl;refine⟨p.more+1,by have:=wJ t.mask s.1;omega,?_⟩;rw[uN];show pR t.mask (t.advance (dR t p.more p)) _;unfold SetTable.advance;rw[qaC (by omega),b,c,h2,h3];exact⟨rfl,rfl,rfl,rfl⟩
theorem Ii(t:SetTable)(h:pR t.mask p s):∀k,∃m,m<=10*k/\pR t.mask (dR t m p) (jS t.mask k s)
 |0=>⟨0,by omega,h⟩
 |k+1=>by obtain⟨m,hm,a⟩:=Ii t h k;obtain⟨m',hm',a'⟩:=PM t a;exact⟨m+m',by omega,by rw[uN,sR];exact a'⟩
theorem Ij(h:Int):SetTable.bits h<2 ^ 64:=by unfold SetTable.bits;have:=qbb h (show(0:Int)<2 ^ 64 by decide);have:=qbq h (show(2 ^ 64:Int)≠0 by decide);omega
theorem Ik{M:Nat}(h:nF M){i p:Nat}(hi:i<=M)(hp:p<2 ^ 64){P:Nat->Prop}(hP:∀k,k<=M+14->P (jS M k (i,p)).1):∀j,j<=M->P j:=by
 intro j hj;have z:=PH (M:=M) hp i;generalize hs:jS M 13 (i,p)=CG at z
 have CH:CG.1<=M:=by rw[<-hs,sR];exact CD M _ _
 obtain⟨m,hm,e⟩:=PK h CH hj;have:=hP (13+m) (by omega);rw[PF,hs,show CG=(CG.1,0) by rw[<-z],Ie]at this;simp only at this;rw[e]at this;exact this
theorem CI{t:SetTable}(h:t.slot j=.live i):t.place[i]?=some j:=by
 unfold SetTable.slot at h;dsimp only at h;split at h
 .rename_i e;cases h;exact eq_of_beq e
 .split at h<;>cases h
theorem PQ{t:SetTable}(hd:t.dummies=#[])(hm:nF t.mask)(hr:t.place.size<=t.mask)(f:Nat->Int)(h:Int):∃m,t.probe f h η5=some m:=by
 cases q:t.probe f h η5 with
 |some m=>exact⟨m,rfl⟩
 |none =>
   exfalso;have st:pR t.mask η5 (SetTable.bits h % (t.mask+1),SetTable.bits h):=⟨rfl,rfl,rfl,rfl⟩
   have all:=Ik hm (i:=SetTable.bits h % (t.mask+1)) (p:=SetTable.bits h) (Nat.lt_succ_iff.mp (Nat.mod_lt _ (Nat.succ_pos _))) (Ij h) (P:=λj=>∃i:Nat,t.place[i]?=some j) (λk hk=>by obtain⟨m,hm',a⟩:=Ii t st k;obtain⟨i,hi⟩:=PL hd f h _ _ q m (by unfold SetTable.turns;omega);rw[a.1]at hi;exact⟨i,CI hi⟩)
   have sub:(List.range (t.mask+1)).length<=t.place.toList.length:=by refine List.Nodup.length_le_of_subset List.nodup_range λj hj=>?_;obtain⟨i,hi⟩:=all j (by simpa using Nat.lt_succ_iff.mp (qbF.mp hj));rw[<-qaM]at hi;exact qba hi
   simp at sub;omega
theorem PR(M:Nat)(owner:η1)(hs:owner.size=M+1):∀(n i p j:Nat),SetTable.layClean.free M owner n i p=some j->owner[j]?=some none:=by
 intro n;induction n with
 |zero=>intro i p j h;cases h
 |succ n ih =>
   intro i p j h;unfold SetTable.layClean.free at h;split at h
   .rename_i k q;cases h;have:=List.find?_some q;cases e:owner[i+k]? with
    |none=>rw[qaw,e]at this;cases this
    |some o =>
      rw[qaw,e]at this;cases o with
      |none=>rfl
      |some x=>cases this
   .exact ih _ _ _ h
theorem PU(M:Nat)(owner:η1)(hs:owner.size=M+1):∀(n i p:Nat),i<=M->SetTable.layClean.free M owner n i p=none->∀k,k<n->∃x,owner[(jS M k (i,p)).1]?=some δt:=by
 intro n;induction n with
 |zero=>intro i p hi h k hk;exact absurd hk (qbI _)
 |succ n ih =>
   intro i p hi h k hk;unfold SetTable.layClean.free at h;split at h
   .cases h
   .rename_i q;cases k with
    |zero =>
      have:=List.find?_eq_none.mp q 0 (by simp;have:=wJ M i;omega);show ∃x,owner[i]?=some δt;have lt:i<owner.size:=by omega
      rw[Nat.add_zero,qaw,qat lt]at this;rw[qat lt];cases e:owner[i] with
      |none=>rw[e]at this;simp at this
      |some x=>exact⟨x,rfl⟩
    |succ k=>exact ih _ _ (CD M i p) h k (by omega)
theorem Il:∀(l:List δD) (j:Nat),l[j]?=some none->((l.set j ηl).filterMap id).Perm (k::l.filterMap id)
 |[],j,h=>by simp at h
 |o::r,0,h=>by simp at h;subst h;simp
 |o::r,j+1,h=>by
   have ih:=Il (k:=k) r j (by simpa using h);cases o with
   |none=>simpa using ih
   |some x =>
     show(x::(r.set j ηl).filterMap id).Perm (k::x::r.filterMap id);exact(List.Perm.cons x ih).trans (List.Perm.swap k x _)
theorem Im:∀(l:List δD),(∀o∈l,∃x,o=some x)->(l.filterMap id).length=l.length
 |[],_=>rfl
 |o::r,h=>by obtain⟨x,rfl⟩:=h o ζc;simpa using Im r λo' ho=>h o' (.tail _ ho)
def uO(M k:Nat)(owner:η1):Prop:=owner.size=M+1/\(owner.toList.filterMap id).Perm (List.range k)
theorem PV(hm:nF M)(h:uO M k owner)(hk:k<=M)(c:Int):∃j,SetTable.layClean.free M owner ε9 (SetTable.bits c % (M+1)) (SetTable.bits c)=some j/\owner[j]?=some none:=by
 cases q:SetTable.layClean.free M owner ε9 (SetTable.bits c % (M+1)) (SetTable.bits c) with
 |some j=>exact⟨j,rfl,PR M owner h.1 _ _ _ _ q⟩
 |none =>
   exfalso;have hi:SetTable.bits c % (M+1)<=M:=Nat.lt_succ_iff.mp (Nat.mod_lt _ (Nat.succ_pos _));have all:=Ik hm hi (Ij c) (P:=λj=>∃x,owner[j]?=some δt) λn hn=>PU M owner h.1 _ _ _ hi q n (by unfold SetTable.turns;omega)
   have len:=Im owner.toList λo ho=>by
    obtain⟨j,hj⟩:=List.getElem?_of_mem ho;have jl:j<owner.size:=by have:=(qad.mp hj).1;simpa using this
    obtain⟨x,hx⟩:=all j (by have:=h.1;omega);rw[qaM,hx]at hj;exact⟨x,by injection hj with e;exact e.symm⟩
   have:=h.2.length_eq;rw[len]at this;simp at this;have:=h.1;omega
theorem PX(owner:η1):((List.range owner.size).filterMap λj=>(owner.getD j none).map (j, ·)).map (·.2)=owner.toList.filterMap id:=by
 have key:∀(l:List δD) (b:Nat) (f:Nat->Option Nat),(∀i,i<l.length->f (b+i)=l.getD i none)->((List.range' b l.length).filterMap λj=>(f j).map (j, ·)).map (·.2)=l.filterMap id:=by
  intro l;induction l with
  |nil=>intro b f _;rfl
  |cons o r ih =>
    intro b f h;have h0:=h 0 (by simp)
    have ih':=ih (b+1) f λi hi=>by have:=h (i+1) (by simpa using hi);rw[show b+1+i=b+(i+1) by omega,this];rfl
    rw[qaN,List.range'_succ,qaK];have h0:f b=o:=h0;cases o with
    |none=>simpa [h0]using ih'
    |some x=>simpa [h0]using ih'
 have:=key owner.toList 0 (λj=>owner.getD j none) λi hi=>by rw[Nat.zero_add];simp[Array.getD_eq_getD_getElem?,List.getD_eq_getElem?_getD]
 rw[<-this,List.range_eq_range'];simp
noncomputable def hP(z:Int×Int):Int:=reduceHash (Builtin.Tuple.tupleHashOf [hashInt z.1,hashInt z.2])
def rP(n:Nat):Nat:=(hP ((n/31:Nat),(n % 31:Nat)) % 8192).toNat
def apart:zzc->Nat->Bool
 |[],_=>true
 |n::r,acc => !acc.testBit (rP n)&&apart r (acc ||| 1 <<< rP n)
theorem Io:∀(l:zzc) (acc:Nat),apart l acc=true->(∀n∈l,acc.testBit (rP n)=false)/\(l.map rP).Nodup
 |[],_,_=>⟨λn hn=>(nomatch hn),qbG⟩
 |n::r,acc,h=>by
   unfold apart at h;rw[qay]at h;obtain⟨h1,h2⟩:=h;obtain⟨a,b⟩:=Io r _ h2
   have a':∀m∈r,acc.testBit (rP m)=false/\rP m≠rP n:=λm hm=>by have:=a m hm;rw[Nat.testBit_or,Bool.or_eq_false_iff]at this;refine⟨this.1,λe=>?_⟩;have q:=this.2;rw[e,Nat.one_shiftLeft,Nat.testBit_two_pow_self]at q;cases q
   refine⟨λm hm=>?_,qbd.mpr ⟨λz=>?_,b⟩⟩
   .rcases qak.mp hm with e|e
    .rw[e];simpa using h1
    .exact(a' m e).1
   .obtain⟨m,hm,e⟩:=qaE.mp z;exact(a' m hm).2 e
theorem PY:apart (List.range 961) 0=true:=by decide +kernel
noncomputable def Sm(i:Int):Prop:=0<=i/\i<=30
def bU(z:Int×Int):Prop:=Sm z.1/\Sm z.2
theorem PZ(hy:bU y)(hz:bU z)(e:hP y=hP z):y=z:=by
 have nd:=(Io _ _ PY).2;obtain⟨⟨a1,a2⟩,a3,a4⟩:=hy;obtain⟨⟨b1,b2⟩,b3,b4⟩:=hz;obtain⟨i,hi⟩:∃i:Nat,y.1=i:=⟨y.1.toNat,by omega⟩;obtain⟨j,hj⟩:∃j:Nat,y.2=j:=⟨y.2.toNat,by omega⟩;obtain⟨k,hk⟩:∃k:Nat,z.1=k:=⟨z.1.toNat,by omega⟩;obtain⟨l,hl⟩:∃l:Nat,z.2=l:=⟨z.2.toNat,by omega⟩
 have q:∀(i j:Nat),j<31->rP (31*i+j)=(hP ((i:Int),(j:Int)) % 8192).toNat:=λi j h=>by unfold rP;rw[show(31*i+j)/31=i by omega,show(31*i+j) % 31=j by omega]
 have ey:y=((i:Int),(j:Int)):=Prod.ext hi hj;have ez:z=((k:Int),(l:Int)):=Prod.ext hk hl;have r1:=q i j (by omega);have r2:=q k l (by omega);rw[<-ey]at r1;rw[<-ez]at r2;rw[e,<-r2]at r1;have m1:31*i+j<961:=by omega
 have m2:31*k+l<961:=by omega
 have:=qbj.mp nd
 have inj:31*i+j=31*k+l:=by
  rcases Nat.lt_trichotomy (31*i+j) (31*k+l) with z|z|z
  .exact absurd (by rw[List.getElem_map,List.getElem_map,qbC,qbC];exact r1) (this _ _ (by simpa using m1) (by simpa using m2) z)
  .exact z
  .exact absurd (by rw[List.getElem_map,List.getElem_map,qbC,qbC];exact r1.symm) (this _ _ (by simpa using m2) (by simpa using m1) z)
 have:i=k:=by omega
 have:j=l:=by omega
 rw[ey,ez];simp_all
noncomputable def tm(M:Nat):SetTable:={SetTable.fresh 0 0 true with mask:=M}
def W(M:Nat)(h:Int)(m:Nat):Nat:=(dR η4 m ((tm M).probeStart h)).j
theorem P0(t:SetTable)(p:SetTable.Probe):t.advance p=(tm t.mask).advance p:=rfl
theorem Ip(t:SetTable):∀(m:Nat) (p:SetTable.Probe),dR t m p=dR (tm t.mask) m p
 |0,p=>rfl
 |m+1,p=>by show dR t m ηR=dR (tm t.mask) m ((tm t.mask).advance p);rw[Ip t m,P0]
theorem Aq(t:SetTable)(h:Int)(m:Nat):(dR t m η5).j=W t.mask h m:=by rw[Ip];rfl
def sT(M:Nat)(pl:zzc)(h:Int)(j:Nat):Prop:=∃m,m<10*SetTable.turns M/\W M h m=j/\∀m',m'<m->W M h m'∈pl
theorem sT.mono(r:sT M pl h j)(s:∀x∈pl,x∈P4):sT M P4 h j:=by obtain⟨m,a,b,c⟩:=r;exact⟨m,a,b,λm' hm=>s _ (c m' hm)⟩
theorem Iq{t:SetTable}(hr:nD t.place)(h:t.place[i]?=some j):t.slot j=.live i:=by
 obtain⟨lt,e⟩:=qa0.mp h;obtain⟨h1,h2,h3⟩:=CA hr j
 have e0:SetTable.below t.place j=i:=by
  rcases Nat.lt_trichotomy ηi i with z|z|z
  .have l:=h3 ηi γO (by omega);rw[qo (by omega:SetTable.below t.place j<t.place.size)]at l;have:=(qbj.mp hr) ηi i (by simp;omega) (by simpa using lt) z;simp only[Array.getElem_toList]at this;omega
  .exact z
  .have:=h2 i z;rw[qo lt]at this;omega
 unfold SetTable.slot;dsimp only;rw[e0,h];simp
theorem P5{t:SetTable}(hd:t.dummies=#[])(f:Nat->Int)(h:Int):∀(n:Nat) (p:SetTable.Probe) (j:Nat) (d:δD),SetTable.probe.go t f h n p=some (.empty j d)->∃m,m<n/\(dR t m p).j=j/\∀m',m'<m->∃i,t.slot (dR t m' p).j=.live i:=by
 intro n;induction n with
 |zero=>intro p j d e;cases e
 |succ n ih =>
   intro p j d e;unfold SetTable.probe.go at e;split at e
   .cases e;exact⟨0,by omega,rfl,λm' h=>absurd h (qbI _)⟩
   .rename_i q;exact absurd q (Am hd _)
   .rename_i i q;split at e
    .cases e
    .obtain⟨m,a,b,c⟩:=ih _ j d e;refine⟨m+1,by omega,b,λm' hm=>?_⟩;cases m' with
     |zero=>exact⟨i,q⟩
     |succ m'=>exact c m' (by omega)
theorem P6{t:SetTable}(hd:t.dummies=#[])(f:Nat->Int)(h:Int):∀(n:Nat) (p:SetTable.Probe) (m k:Nat),m<n->(∀m',m'<m->∃i,t.slot (dR t m' p).j=.live i)->t.slot (dR t m p).j=.live k->f k=h->∃j i nx,SetTable.probe.go t f h n p=some ιa:=by
 intro n;induction n with
 |zero=>intro p m k hm;exact absurd hm (qbI _)
 |succ n ih =>
   intro p m k hm hb hs hf;unfold SetTable.probe.go
   have first:∃i,t.slot p.j=.live i:=by
    cases m with
    |zero=>exact⟨k,hs⟩
    |succ m=>exact hb 0 (by omega)
   obtain⟨i,hi⟩:=first
   rw[hi];dsimp only;split
   .exact⟨_,_,_,rfl⟩
   .rename_i c;cases m with
    |zero =>
      have hs:t.slot p.j=.live k:=hs;rw[hi]at hs;cases hs;exact absurd (by simpa using hf) c
    |succ m=>exact ih _ m k (by omega) (λm' h'=>hb (m'+1) (by omega)) hs hf
theorem CJ(M:Nat)(h:Int)(a:pR M (dR η4 m ((tm M).probeStart h)) s):∀k,k<=SetTable.runEnd M s.1-s.1->W M h (m+k)=s.1+k:=by
 have go:∀(k:Nat) (p:SetTable.Probe),k<=p.more->(dR η4 k p).j=p.j+k:=by
  intro k;induction k with
  |zero=>intro p _;rfl
  |succ k ih =>
    intro p hk;have e:(tm M).advance p={p with j:=p.j+1,more:=p.more-1}:=by unfold SetTable.advance;rw[if_pos (by omega)]
    show(dR η4 k ((tm M).advance p)).j=_;rw[ih _ (by rw[e];show k<=p.more-1;omega),e];show p.j+1+k=_;omega
 intro k hk;unfold W;rw[uN,go k _ (by rw[a.2.2.2];exact hk),a.1]
theorem P7(M:Nat)(h:Int)(owner:η1):∀(n m g:Nat) (s:Nat×Nat) (j:Nat),pR M (dR η4 m ((tm M).probeStart h)) s->m<=10*g->(∀m',m'<m->∃x,owner.getD (W M h m') (some 0)=some x) ->
 SetTable.layClean.free M owner n s.1 s.2=some j->∃m2,m2<10*(g+n)/\W M h m2=j/\∀m',m'<m2->∃x,owner.getD (W M h m') (some 0)=some x:=by
 intro n;induction n with
 |zero=>intro m g s j _ _ _ e;cases e
 |succ n ih =>
   intro m g s j a hm hb e;unfold SetTable.layClean.free at e;have re:=wJ M s.1;split at e
   .rename_i k q;cases e;have kl:k<SetTable.runEnd M s.1+1-s.1:=qbF.mp (List.mem_of_find?_eq_some q);refine⟨m+k,by omega,CJ M h a k (by omega),λm' hm'=>?_⟩;rcases Nat.lt_or_ge m' m with z|z
    .exact hb m' z
    .have:=List.find?_range_eq_some.mp q;have w:=CJ M h a (m'-m) (by omega);rw[show m+(m'-m)=m' by omega]at w;rw[w];have nn:=this.2.2 (m'-m) (by omega);cases e:owner.getD (s.1+(m'-m)) (some 0) with
     |none=>rw[e]at nn;simp at nn
     |some x=>exact⟨x,rfl⟩
   .rename_i q;have more:(dR η4 m ((tm M).probeStart h)).more=SetTable.runEnd M s.1-s.1:=a.2.2.2;obtain⟨a1,a2,a3⟩:=CF η4 _ _ more
    have a':pR M (dR η4 (m+(SetTable.runEnd M s.1-s.1)+1) ((tm M).probeStart h)) (lp M s):=by rw[uN,uN];show pR M ((tm M).advance (dR η4 (SetTable.runEnd M s.1-s.1) (dR η4 m ((tm M).probeStart h)))) _;unfold SetTable.advance;rw[qaC (by omega),a2,a3,a.2.1,a.2.2.1];exact⟨rfl,rfl,rfl,rfl⟩
    obtain⟨m2,b1,b2,b3⟩:=ih (m+(SetTable.runEnd M s.1-s.1)+1) (g+1) (lp M s) j a' (by omega) (λm' hm'=>by
     rcases Nat.lt_or_ge m' m with z|z
     .exact hb m' z
     .have w:=CJ M h a (m'-m) (by omega);rw[show m+(m'-m)=m' by omega]at w;rw[w];have nn:=List.find?_eq_none.mp q (m'-m) (by simp;omega);cases e:owner.getD (s.1+(m'-m)) (some 0) with
      |none=>rw[e]at nn;simp at nn
      |some x=>exact⟨x,rfl⟩) e
    exact⟨m2,by omega,b2,b3⟩
theorem Ir(h:i<=M):SetTable.runEnd M i<=M:=by unfold SetTable.runEnd;split<;>omega
theorem Iu(M:Nat):∀(m:Nat) (p:SetTable.Probe),p.j+p.more<=M->(dR η4 m p).j+(dR η4 m p).more<=M
 |0,p,h=>h
 |m+1,p,h=>by
   show(dR η4 m ((tm M).advance p)).j+(dR η4 m ((tm M).advance p)).more<=M;refine Iu M m _ ?_;unfold SetTable.advance;split
   .rename_i c;show p.j+1+(p.more-1)<=M;omega
   .have a:=CD M p.i p.perturb;have b:=Ir a;have c:=wJ M (SetTable.leap M p.i p.perturb).1;show(SetTable.leap M p.i p.perturb).1+(SetTable.runEnd M (SetTable.leap M p.i p.perturb).1-(SetTable.leap M p.i p.perturb).1)<=M;omega
theorem P8(M:Nat)(h:Int)(m:Nat):W M h m<=M:=by
 have a:SetTable.bits h % (M+1)<=M:=Nat.lt_succ_iff.mp ζw
 have:=Iu M m ((tm M).probeStart h) (by show SetTable.bits h % (M+1)+(SetTable.runEnd M (SetTable.bits h % (M+1))-SetTable.bits h % (M+1))<=M;have b:=Ir a;have c:=wJ M (SetTable.bits h % (M+1));omega)
 exact qaO (Nat.le_add_right _ _) this
def wK(M:Nat)(hs:u8)(owner:η1):Prop:=∀j k,owner[j]?=some ηl->∃c,hs[k]?=some c/\∃m,m<10*SetTable.turns M/\W M c m=j/\∀m',m'<m->∃x,owner[W M c m']?=some δt
theorem Iw(hm:nF M)(all:u8):∀(hs:u8) (owner:η1) (k:Nat),uO M k owner->wK M all owner->all.drop k=hs->k+hs.length<=M+1 ->
 ∃owner',hs.foldl (λacc h=>do
  let (owner,k) <-acc
  let j <-SetTable.layClean.free M owner ε9 (SetTable.bits h % (M+1)) (SetTable.bits h)
  pure (owner.setIfInBounds j ηl,k+1)) (some (owner,k))=some (owner',k+hs.length)/\uO M (k+hs.length) owner'/\wK M all owner'
 |[],owner,k,h,r,_,_=>⟨owner,rfl,h,r⟩
 |c::rs,owner,k,h,r,hd,hl=>by
   simp only[List.length_cons]at hl;obtain⟨j,hj,hn⟩:=PV hm h (by omega) c
   have ok:uO M (k+1) (owner.setIfInBounds j ηl):=by refine⟨by rw[Array.size_setIfInBounds];exact h.1,?_⟩;rw[Array.toList_setIfInBounds,List.range_succ];refine(Il owner.toList j (by rw[qaM];exact hn)).trans ?_;exact(List.Perm.cons k h.2).trans (List.perm_append_singleton k _).symm
   have ck:all[k]?=some c:=by have:=congrArg List.head? hd;rw[List.head?_drop]at this;exact this
   have up:∀i x,owner[i]?=some δt->(owner.setIfInBounds j ηl)[i]?=some δt:=λi x e=>by
    have ne:j≠i:=λz=>by rw[z]at hn;rw[hn]at e;cases e
    rw[Array.getElem?_setIfInBounds_ne ne];exact e
   obtain⟨m2,b1,b2,b3⟩:=P7 M c owner ε9 0 0 (SetTable.bits c % (M+1),SetTable.bits c) j ⟨rfl,rfl,rfl,rfl⟩ (by omega) (λm' z=>absurd z (qbI _)) hj
   have gd:∀i,i<=M->∀x,owner.getD i (some 0)=some x->owner[i]?=some δt:=λi hi x e=>by
    have lt:i<owner.size:=by rw[h.1];omega
    rw[qaw,qat lt]at e;rw[qat lt];exact congrArg some e
   have r':wK M all (owner.setIfInBounds j ηl):=λi x e=>by
    by_cases z:j=i
    .subst z;have lt:j<owner.size:=(qa0.mp hn).1;rw[Array.getElem?_setIfInBounds_self_of_lt lt]at e;cases e;refine⟨c,ck,m2,by omega,b2,λm' hm'=>?_⟩;obtain⟨x,hx⟩:=b3 m' hm';exact⟨x,up _ x (gd _ (P8 M c m') x hx)⟩
    .rw[Array.getElem?_setIfInBounds_ne z]at e;obtain⟨c',hc,m,a1,a2,a3⟩:=r i x e;exact⟨c',hc,m,a1,a2,λm' hm'=>let ⟨y,hy⟩:=a3 m' hm'; ⟨y,up _ y hy⟩⟩
   have hd':all.drop (k+1)=rs:=by have:=congrArg List.tail hd;rw[List.tail_drop]at this;exact this
   obtain⟨o',e,ok',r2⟩:=Iw hm all rs _ (k+1) ok r' hd' (by omega);refine⟨o',?_,by rw[qaN,show k+(rs.length+1)=k+1+rs.length by omega];exact ok',r2⟩;rw[List.foldl_cons,qaN,show k+(rs.length+1)=k+1+rs.length by omega,<-e];congr 1;show(Option.bind (SetTable.layClean.free M owner ε9 (SetTable.bits c % (M+1)) (SetTable.bits c)) λj=>some (owner.setIfInBounds j ηl,k+1))=_;rw[hj];rfl
theorem P9(hm:nF M)(hs:Array Int)(hl:hs.size<=M+1):∃owner,SetTable.layClean M hs=some owner/\uO M hs.size owner/\wK M hs.toList owner:=by
 have ok:uO M 0 (Array.replicate (M+1) none):=⟨by simp,by
  rw[Array.toList_replicate]
  have:∀n,(List.replicate n (none:δD)).filterMap id=[]:=λn=>by
   induction n with
   |zero=>rfl
   |succ n ih=>simpa [List.replicate_succ]using ih
  rw[this];exact .nil⟩
 have r0:wK M hs.toList (Array.replicate (M+1) none):=λj k e=>by rw[Array.getElem?_replicate]at e;split at e<;>cases e
 obtain⟨o',e,ok',r'⟩:=Iw hm hs.toList hs.toList _ 0 ok r0 (by simp) (by simpa using hl);refine⟨o',?_,by simpa using ok',r'⟩;unfold SetTable.layClean;rw[<-Array.foldl_toList];have e:=congrArg (Option.map (·.1)) e;exact e
theorem P_{t:SetTable}{es:zzg}(hm:nF (SetTable.sizeAbove n-1))(hl:es.size<=SetTable.sizeAbove n-1) :
 ∃(t':SetTable) (live:List (Nat×Nat)),t.relaid (es.map (·.1)) n=some (t',(live.map (·.2)).toArray)/\(live.map (·.2)).Perm (List.range es.size)/\t'.mask=SetTable.sizeAbove n-1/\nD t'.place/\t'.dummies=#[]/\t'.led=t.led/\t'.plain=t.plain /\
  t'.place.toList=live.map (·.1)/\∀q∈live,∃c,(es.map (·.1)).toList[q.2]?=some c/\sT (SetTable.sizeAbove n-1) (live.map (·.1)) c q.1:=by
 obtain⟨owner,e,ok,Ar⟩:=P9 hm (es.map (·.1)) (by simp;omega)
 rw[Array.size_map]at ok
 have lm:∀j k,owner[j]?=some ηl->(j,k)∈((List.range (SetTable.sizeAbove n-1+1)).filterMap λj=>(owner.getD j none).map (j, ·)):=λj k h=>by have lt:j<owner.size:=(qa0.mp h).1;refine List.mem_filterMap.mpr ⟨j,by rw[qbF,<-ok.1];exact lt,?_⟩;rw[qaw,h];rfl
 cases q:t.relaid (es.map (·.1)) n with
 |none =>
   unfold SetTable.relaid SetTable.laid at q
   rw[e]at q
   cases q
 |some r =>
   unfold SetTable.relaid SetTable.laid at q
   rw[e]at q
   cases q
   refine⟨_,(List.range (SetTable.sizeAbove n-1+1)).filterMap λj=>(owner.getD j none).map (j, ·),rfl,?_,rfl,HP owner _,rfl,rfl,rfl,rfl,?_⟩
   .have:=PX owner
    rw[ok.1]at this
    rw[this]
    exact ok.2
   .rintro⟨j,k⟩ hq
    obtain⟨j',hj,ej⟩:=List.mem_filterMap.mp hq
    have own:owner[j]?=some ηl:=by
     cases z:owner.getD j' none with
     |none=>rw[z]at ej;cases ej
     |some x =>
       rw[z]at ej;cases ej;rw[qaw]at z;cases y:owner[j]? with
       |none=>rw[y]at z;cases z
       |some o=>rw[y]at z;exact congrArg some z
    obtain⟨c,hc,m,a1,a2,a3⟩:=Ar j k own
    refine⟨c,hc,m,a1,a2,λm' hm'=>?_⟩
    obtain⟨x,hx⟩:=a3 m' hm'
    exact qaE.mpr ⟨(W (SetTable.sizeAbove n-1) c m',x),lm _ x hx,rfl⟩
noncomputable abbrev Z:=(Int×Int)×Addr
def zO(z:Z):Int×Value:=(hP z.1,.ref z.2)
theorem wL(z:Z):zO z=(hP z.1,.ref z.2):=by unfold zO;rfl
section
variable{prog:Program}{w:World}{A:Around}{E:T0}{s:Shared}{a p:Addr}{es:zzg}{ep:Nat}{t:SetTable}
noncomputable def ef(h:Heap)(z:Int×Int)(p:Addr):Prop:=∃o items n t u,h.get? p=some o/\o.cls=.type "tuple" /\ o.data=.seq items n/\items.toList=[.int z.1 t,.int z.2 u]
theorem ef.key(x:ef h z p)(prog:Program)(w:World):IsTupleKey (intKind prog w) h [z.1,z.2] p:=by obtain⟨o,items,n,t,u,e,c,d,i⟩:=x;exact⟨o,items,n,e,c,d,by rw[i];exact .cons ζS (.cons ζS .nil)⟩
theorem ef.at{h h':Heap}(x:ef h z p)(k:∀o,h.get? p=some o->h'.get? p=some o):ef h' z p:=by obtain⟨o,items,n,t,u,e,r⟩:=x;exact⟨o,items,n,t,u,k _ e,r⟩
theorem Qa(hu:A.units<cLine)(hp:ζf)(h:Q θV {s with toks:=s.toks+3}):wpAny γ A (pyHash γJ) Q E s:=
 wpAny_pyHash_tuple (knd:=intKind prog w) hu (hp.key prog w) h
theorem Qb(hu:A.units<cLine)(hp:ef s.heap y p)(hq:ef s.heap z q)(h:Q (decide (y=z)) s):wpAny γ A (eqBool γJ (.ref q)) Q E s:=by refine wpAny_eqBool_tuple (knd:=intKind prog w) hu (hp.key prog w) (hq.key prog w) ?_;have e:decide ([y.1,y.2]=[z.1,z.2])=decide (y=z):=decide_eq_decide.mpr ⟨λh=>by simp at h;exact Prod.ext h.1 h.2,λh=>by rw[h]⟩;rw[e];exact h
theorem Iy(hp:ζf)(h:Q false s):wpAny γ A (ofAClassStatement 8 γJ) Q E s:=by obtain⟨o,items,n,t,u,e,c,d,i⟩:=hp;have hT:s.TypeIs γJ "tuple":= ⟨o,e,c⟩;unfold ofAClassStatement;refine qaa (wpAny_typeOf hT ?_);dsimp only;rw[qaF (show(("tuple":String) == "tuple")=true by decide)];refine qaa (qac ?_);rw[qaC (by decide)];refine qaa (wpAny_seqItems e d ?_);dsimp only;refine qaa ?_;rw[<-Array.forIn_toList,i];rw[List.forIn_cons];unfold ofAClassStatement;simp only[pure_bind,List.forIn_cons,List.forIn_nil];exact qac (qac h)
theorem Qc(hp:ζf)(h:Q true s):wpAny γ A (hashByValue 8 γJ) Q E s:=by obtain⟨o,items,n,t,u,e,c,d,i⟩:=hp;have hT:s.TypeIs γJ "tuple":= ⟨o,e,c⟩;unfold hashByValue;refine qaa (wpAny_specialOf hT F.slot_tuple_hash.lookup ?_);dsimp only;refine qaa (wpAny_seqItems e d ?_);refine qaa ?_;dsimp only[Option.getD];rw[<-Array.forIn_toList,i];rw[List.forIn_cons];unfold hashByValue;simp only[pure_bind,List.forIn_cons,List.forIn_nil];exact qac (qac h)
theorem Qd(hp:ζf)(h:Q false s):∀(l:v4),(∀v∈l,∃q y,v=.ref q/\ef s.heap y q)->wpAny γ A (searchCouldBeSeen γJ l) Q E s:=by
 intro l hl;unfold searchCouldBeSeen;refine qaa ?_;refine wpAny_forIn_list _ (λrest r s'=>r.1=none/\s'=s/\∀v∈rest,∃q y,v=.ref q/\ef s.heap y q) _ ?_ ?_ _ _ ⟨rfl,rfl,hl⟩
 .rintro v rest r s' ⟨hr,rfl,hv⟩;obtain⟨q,y,rfl,hq⟩:=hv v ζc;have nx:∀x∈rest,∃q y,x=Value.ref q/\ef s'.heap y q:=λx hx=>hv x (.tail _ hx);dsimp only;split
  .exact qac ⟨rfl,rfl,nx⟩
  .refine qaa (wpAny_eqIsQuiet_tuple (hp.key prog w) ?_);rw[qaC (by decide)];refine qaa (wpAny_eqIsQuiet_tuple (hq.key prog w) ?_);rw[qaC (by decide)];refine qaa (Iy hp ?_);rw[qaC (by decide)];refine qaa (Iy hq ?_);rw[qaC (by decide)];exact qac ⟨rfl,rfl,nx⟩
 .rintro⟨r1,r2⟩ s' ⟨hr,rfl,_⟩;simp only at hr;subst hr;exact qac h
structure dG(es:zzg)(t:SetTable)(B:Bool)(zs:εj):Prop where
 el:es.toList=zs.map zO
 sm:∀z∈zs,bU z.1
 nd:(zs.map (·.1)).Nodup
 hon:iE t B
 wM:nF t.mask
 sz:t.place.size=es.size
 rm:t.place.size<=t.mask
 Ar:∀q∈zs.zip t.place.toList,sT t.mask t.place.toList (hP q.1.1) q.2
theorem dG.fits(h:ε3):t.fits es.size=true:=by have:=h.sz;have:=h.rm;simp only[SetTable.fits,SetTable.fill,h.hon.nZ,Bool.and_eq_true,beq_iff_eq,decide_eq_true_eq];exact⟨h.sz,by simp;omega⟩
theorem dG.get(h:ε3)(i:Nat):es[i]?=(zs[i]?).map zO:=by rw[<-qaM,h.el,qaB]
theorem dG.len(h:ε3):zs.length=es.size:=by have:=congrArg List.length h.el;simpa using this.symm
theorem Qe{t:SetTable}(hd:t.dummies=#[])(f:Nat->Int)(h:Int):∀(n:Nat) (p:SetTable.Probe) (j i:Nat) (nx:SetTable.Probe),SetTable.probe.go t f h n p=some ιa->t.slot j=.live i/\f i=h:=by
 intro n;induction n with
 |zero=>intro p j i nx e;cases e
 |succ n ih =>
   intro p j i nx e;unfold SetTable.probe.go at e;split at e
   .cases e
   .rename_i q;exact absurd q (Am hd _)
   .rename_i k q;split at e
    .rename_i c;cases e;exact⟨q,eq_of_beq c⟩
    .exact ih _ j i nx e
theorem Qf{t:SetTable}(h:t.slot j=.live i):i<t.place.size:=(qa0.mp (CI h)).1
theorem dG.found(T:ε3)(hz:z∈zs.map (·.1))(hf:∀i (h:i<zs.length),f i=hP zs[i].1):∃j i nx,t.probe f θV (t.probeStart θV)=some ιa:=by
 obtain⟨y,hy,rfl⟩:=qaE.mp hz;obtain⟨k,hk,rfl⟩:=List.mem_iff_getElem.mp hy;have kp:k<t.place.size:=by rw[T.sz,<-T.len];exact hk
 have zm:(zs[k],t.place[k])∈zs.zip t.place.toList:=by refine List.mem_iff_getElem.mpr ⟨k,by simp;omega,?_⟩;simp
 obtain⟨m,a1,a2,a3⟩:=T.Ar _ zm;refine P6 T.hon.nZ f _ (10*SetTable.turns t.mask) _ m k a1 (λm' hm'=>?_) ?_ (hf k hk)
 .rw[Aq];obtain⟨i,hi⟩:=List.getElem?_of_mem (a3 m' hm');rw[qaM]at hi;exact⟨i,Iq T.hon.rise hi⟩
 .rw[Aq,a2];exact Iq T.hon.rise (qat kp)
theorem dG.hash(T:ε3)(h:i<zs.length):((es[i]?).map (·.1)).getD 0=hP zs[i].1:=by have e:=T.get i;rw[qah h]at e;rw[e,Option.map_some,Option.map_some,Option.getD_some,wL]
end
section
variable{prog:Program}{w:World}{A:Around}{E:T0}{s:Shared}{a p:Addr}{es:zzg}{ep:Nat}{t:SetTable}
theorem Qg(hu:A.units<cLine)(ha:s.heap.get? a=some γ1)(T:ε3)(hz:∀y∈zs,ef s.heap y.1 y.2)(hp:ζf)(sm:bU z)
 (there:z∈zs.map (·.1)->Q (.there none) s) (free:∀j,z∉zs.map (·.1)->t.slot j=.empty->sT t.mask t.place.toList θV j->Q (.free j false) s) (n:Nat):wpAny γ A (setSearchFrom a γJ θV true (n+1) none) Q E s:=by
 rw[setSearchFrom];refine qaa (qa5 ha rfl T.fits ?_);dsimp only
 have odd:t.gaveWay=false:=by unfold SetTable.gaveWay;rcases T.wM with e|e|e|e|e<;>rw[e]<;>decide
 rw[odd,qaC (by decide)];have room:t.place.size<=t.mask:=T.rm;obtain⟨m,hm⟩:=PQ T.hon.nZ T.wM room (λi:Nat=>((es[i]?).map (·.1)).getD 0) θV;generalize hq:SetTable.probe t _ θV _=r;have hr:r=some m:=by rw[<-hq];exact hm
 clear hq;subst hr;dsimp only
 .generalize hf:(λi:Nat=>((es[i]?).map (·.1)).getD 0)=f at hm;have hfi:∀i (h:i<zs.length),f i=hP zs[i].1:=λi h=>by rw[<-hf];exact T.hash h
  cases m with
  |empty j d =>
    dsimp only;obtain⟨rfl,e⟩:=HN T.hon.nZ f θV _ _ j d rfl hm;obtain⟨m,b1,b2,b3⟩:=P5 T.hon.nZ f θV _ _ j none hm;refine qac (free j (λCK=>?_) e ⟨m,b1,by rw[<-Aq];exact b2,λm' hm'=>?_⟩)
    .obtain⟨j',i',nx',q⟩:=T.found CK hfi;rw[hm]at q;cases q
    .obtain⟨i,hi⟩:=b3 m' hm';rw[Aq]at hi;have:=CI hi;rw[<-qaM]at this;exact qba this
  |candidate j i nx =>
    dsimp only;obtain⟨e1,e2⟩:=Qe T.hon.nZ f θV _ _ j i nx hm;have lz:i<zs.length:=by rw[T.len,<-T.sz];exact Qf e1
    have key:zs[i].1=z:=PZ (T.sm _ (qaY lz)) sm ((hfi i lz).symm.trans e2);have CK:z∈zs.map (·.1):=qaE.mpr ⟨zs[i],qaY lz,key⟩;have ge:=T.get i;rw[qah lz]at ge;rw[Option.map_some,wL]at ge
    have go:∀{k:Bool->(zzg×Nat×SetTable)->Sem SetFound},(∀x,k true x=pure (SetFound.there none))->wpAny γ A (do
     let equal <-holding [Value.ref zs[i].2] (eqBool (.ref zs[i].2) γJ)
     let x <-setState a
     k equal x) Q E s:=λ{k} hk=>by refine qaa (qaV (Qb hu (hz _ (qaY lz)) hp ?_));rw[qan key];refine qaa (qa5 ha rfl T.fits ?_);rw[hk];exact qac (there CK)
    split
    .refine qaa (Qd hp ?_ _ λv hv=>?_)
     .rw[qaC (by decide)];simp only[ge];exact go λx=>by simp
     .obtain⟨e,he,rfl⟩:=qaE.mp hv
      have he:e∈es.toList:=by rw[Array.mem_toList_iff]at he ⊢;exact(Array.mem_filter.mp he).1
      rw[T.el]at he;obtain⟨y,hy,rfl⟩:=qaE.mp he;exact⟨y.2,y.1,rfl,hz y hy⟩
    .simp only[ge];exact go λx=>by simp
end
section
variable{prog:Program}{w:World}{A:Around}{E:T0}{s:Shared}{a p:Addr}{es:zzg}{ep:Nat}{t:SetTable}
theorem Qh{α β:Type}{x:α}{y:β}:∀(xs:ζi) (ys:List β) (n:Nat),xs.length=ys.length->∀q∈(xs.take n++x::xs.drop n).zip (ys.take n++y::ys.drop n),q=(x,y)\/q∈xs.zip ys:=by
 intro xs ys n h q hq;have l:(xs.take n).length=(ys.take n).length:=by rw[qbv,qbv,h]
 rw[List.zip_append l,List.zip_cons_cons]at hq;have e:xs.zip ys=(xs.take n).zip (ys.take n)++(xs.drop n).zip (ys.drop n):=by rw[<-List.zip_append l,qbc,qbc]
 rw[e];rcases qaH.mp hq with z|z
 .exact .inr (qaT _ z)
 .rcases qak.mp z with z|z
  .exact .inl z
  .exact .inr (qax _ z)
theorem dG.put(T:ε3){z:Z}(hn:z.1∉zs.map (·.1))(sm:bU z.1)(hj:t.slot j=.empty)(hr:sT t.mask t.place.toList (hP z.1) j)(rm:t.place.size+1<=t.mask) :
 dG (SetTable.insertAt es (t.put j).2 (zO z)) (t.put j).1 B (zs.take (t.put j).2++z::zs.drop (t.put j).2)/\(t.put j).1.mask=t.mask/\(t.put j).1.place.size=t.place.size+1/\(t.put j).1.dummies=#[]:=by
 have dm:(t.put j).1.dummies=#[]:=by unfold SetTable.put;dsimp only;rw[T.hon.nZ,CB];rfl
 have pl:(t.put j).1.place=SetTable.insertAt t.place (t.put j).2 j:=rfl;have p2:(t.put j).2=SetTable.below t.place j:=rfl;generalize hq:(t.put j).2=q at *;have CL:(t.put j).1.place.toList=t.place.toList.take q++j::t.place.toList.drop q:=by rw[pl,SetTable.toList_insertAt]
 have mk:(t.put j).1.mask=t.mask:=rfl
 have uP:(t.put j).1.place.size=t.place.size+1:=by rw[<-qaz,CL];simp;omega
 have len:zs.length=t.place.toList.length:=by rw[T.len,<-T.sz,qaz]
 have wN:∀x∈t.place.toList,x∈(t.put j).1.place.toList:=λx hx=>by
  rw[CL];rw[<-qbc q t.place.toList]at hx;rcases qaH.mp hx with h|h
  .exact qaT _ h
  .exact qax _ (qae _ h)
 have perm:(zs.take q++z::zs.drop q).Perm (z::zs):=by have:=List.perm_middle (a:=z) (l₁:=zs.take q) (l₂:=zs.drop q);rwa[qbc]at this
 refine⟨⟨?_,λy hy=>?_,?_,⟨?_,dm,T.hon.led⟩,T.wM,?_,by rw[uP];exact rm,λy hy=>?_⟩,rfl,uP,dm⟩
 .rw[SetTable.toList_insertAt,T.el,qbJ,qav,List.map_take,List.map_drop]
 .rcases qak.mp (perm.mem_iff.mp hy) with e|e
  .rw[e];exact sm
  .exact T.sm y e
 .refine(perm.map _).nodup_iff.mpr ?_;rw[qav];exact qbd.mpr ⟨hn,T.nd⟩
 .show nD (t.put j).1.place;rw[pl,p2];exact HL T.hon.rise (HM T.hon.nZ hj)
 .have l2:(SetTable.insertAt es q (zO z)).toList.length=es.toList.length+1:=by rw[SetTable.toList_insertAt];simp only[List.length_append,List.length_take,List.length_cons,List.length_drop];omega
  rw[qaz,qaz]at l2
  rw[uP,l2,T.sz]
 .rw[CL]at hy;rcases Qh zs t.place.toList q len y hy with e|e
  .rw[e,mk];exact hr.mono wN
  .rw[mk];exact(T.Ar y e).mono wN
theorem Qi{zs:εj}(hel:es.toList=zs.map zO)(l:zzc):l.filterMap (λi=>es[i]?)=(l.filterMap λi=>zs[i]?).map zO:=by rw[List.map_filterMap];congr 1;funext i;rw[<-qaM,hel,qaB]
theorem dG.wO(T:ε3)(hm:nF (SetTable.sizeAbove n-1))(hl:es.size<=SetTable.sizeAbove n-1) :
 ∃(t':SetTable) (order:ζP) (zs':εj),t.relaid (es.map (·.1)) n=some (t',order)/\(order.filterMap λi=>es[i]?).size=es.size/\dG (order.filterMap λi=>es[i]?) t' B zs'/\zs'.Perm zs/\t'.mask=SetTable.sizeAbove n-1/\t'.place.size=es.size:=by
 obtain⟨t',live,e,pm,mk,ri,du,le,pn,Iz,rc⟩:=P_ (t:=t) hm hl
 have zp:((live.map (·.2)).filterMap λi=>zs[i]?).Perm zs:=by have q:=pm.filterMap (λi=>zs[i]?);rw[<-T.len,List.filterMap_getElem?_range_length]at q;exact q
 have esl:((live.map (·.2)).toArray.filterMap λi=>es[i]?).toList=((live.map (·.2)).filterMap λi=>zs[i]?).map zO:=by rw[Array.toList_filterMap];exact Qi T.el _
 have IA:((live.map (·.2)).toArray.filterMap λi=>es[i]?).size=es.size:=by rw[<-qaz,esl,qaf,zp.length_eq,T.len]
 have ll:live.length=es.size:=by have:=pm.length_eq;simpa using this
 have psz:t'.place.size=es.size:=by rw[<-qaz,Iz,qaf,ll]
 refine⟨t',_,_,e,IA,⟨esl,λy hy=>T.sm y (zp.mem_iff.mp hy),(zp.map _).nodup_iff.mpr T.nd,⟨ri,du,le.trans T.hon.led⟩,by rw[mk];exact hm,psz.trans IA.symm,by rw[psz,mk];exact hl,λy hy=>?_⟩,zp,mk,psz⟩
 have lt:∀q∈live,q.2<zs.length:=λq hq=>by have:=pm.mem_iff.mp (qaE.mpr ⟨q,hq,rfl⟩);rw[T.len];exact qbF.mp this
 have Qj:∀(l:List (Nat×Nat)),(∀q∈l,q.2<zs.length)->∀y∈((l.map (·.2)).filterMap λi=>zs[i]?).zip (l.map (·.1)),∃q∈l,zs[q.2]?=some y.1/\y.2=q.1:=by
  intro l;induction l with
  |nil=>intro _ y hy;simp at hy
  |cons c r ih =>
    intro h y hy;have lc:=h c ζc;rw[qav,qav,List.filterMap_cons_some (qah lc),List.zip_cons_cons]at hy;rcases qak.mp hy with e|e
    .exact⟨c,.head _,by rw[e];exact qah lc,by rw[e]⟩
    .obtain⟨q,hq,b⟩:=ih (λq hq=>h q (.tail _ hq)) y e;exact⟨q,.tail _ hq,b⟩
 rw[Iz]at hy ⊢;obtain⟨q,hq,e1,e2⟩:=Qj live lt y hy;obtain⟨c,hc,r⟩:=rc q hq
 have ec:c=hP y.1.1:=by
  have h2:(es.map (·.1)).toList[q.2]?=some (hP y.1.1):=by rw[Array.toList_map,T.el,qbN,qaB,e1,Option.map_some,Function.comp_apply,wL]
  rw[h2]at hc;exact(qaQ hc).symm
 rw[mk,e2];rw[ec]at r;exact r
end
section
variable{prog:Program}{w:World}{A:Around}{E:T0}{s:Shared}{a p:Addr}
def dq(B:Bool)(h:Heap)(a:Addr)(zs:εj):Prop:=∃es ep t,h.get? a=some γ1/\dG es t B zs/\t.place.size*5<t.mask*3
theorem dq.at{h h':Heap}(x:dq B h a zs)(k:∀o,h.get? a=some o->h'.get? a=some o):dq B h' a zs:=by obtain⟨es,ep,t,e,r⟩:=x;exact⟨es,ep,t,k _ e,r⟩
theorem dq.fresh(B:Bool){h:Heap}(e:h.get? a=some (bK #[] 0 (.fresh 0 0 (!B)))):dq B h a []:=
 ⟨#[],0,_,e,⟨rfl,(λz hz=>nomatch hz),qbG,iE.fresh B,.inl rfl,rfl,(show 0<=7 by decide),(λq hq=>by simp at hq)⟩,(show 0*5<7*3 by decide)⟩
theorem grow(hm:nF m)(h1:n*5<m*3)(h2:m*3<=(n+1)*5)(h3:n<600):nF (SetTable.sizeAbove (SetTable.grown (n+1))-1)/\n+1<=SetTable.sizeAbove (SetTable.grown (n+1))-1/\(n+1)*5<(SetTable.sizeAbove (SetTable.grown (n+1))-1)*3/\SetTable.sizeAbove (SetTable.grown (n+1))<=sizeLine:=by
 rcases hm with rfl|rfl|rfl|rfl|rfl
 .obtain rfl:n=4:=by omega
  exact⟨.inr (.inl (by decide)),by decide,by decide,by decide⟩
 .obtain rfl:n=18:=by omega
  exact⟨.inr (.inr (.inl (by decide))),by decide,by decide,by decide⟩
 .obtain rfl:n=76:=by omega
  exact⟨.inr (.inr (.inr (.inl (by decide)))),by decide,by decide,by decide⟩
 .obtain rfl:n=306:=by omega
  exact⟨.inr (.inr (.inr (.inr (by decide)))),by decide,by decide,by decide⟩
 .omega
theorem IB(hu:A.units<cLine)(hS:dq B s.heap a zs)(hz:∀y∈zs,ef s.heap y.1 y.2)(hp:ζf)(sm:bU z)(hl:zs.length<600)
 (same:z∈zs.map (·.1)->∀tk,Q false {s with toks:=tk})
 (new:z∉zs.map (·.1)->∀h' tk zs',Heap.SameBut a s.heap h'->dq B h' a zs'->zs'.Perm ((z,p)::zs)->Q true {s with heap:=h',toks:=tk}):wpAny γ A (setAdd a γJ) Q E s:=by
 obtain⟨es,ep,t,ha,T,nf⟩:=hS;unfold setAdd;refine qaV (qaa (Qa hu hp ?_));unfold setAddHashed;refine qaV ?_;show wpAny _ _ (setAddHashedIn a γJ θV (99999+1)) _ _ _;rw[setAddHashedIn];refine qaa (qa5 (s:={s with toks:=s.toks+3}) ha rfl T.fits ?_);have ns:byScan γJ es=false:=rfl;dsimp only;rw[ns,qaC (by decide)];refine qaa ?_;show wpAny _ _ (setSearchFrom a γJ θV true (99999+1) none) _ _ _;refine Qg (s:={s with toks:=s.toks+3}) hu ha T hz hp sm (λhin=>?_) (λj hn hj hr=>?_) 99999
 .exact qac (same hin _)
 .dsimp only;refine qaa (qa5 (s:={s with toks:=s.toks+3}) ha rfl T.fits ?_);dsimp only
  have room:t.place.size+1<=t.mask:=by rcases T.wM with e|e|e|e<;>omega
  obtain⟨T1,mk1,uP,IC⟩:=T.put (z:=(z,p)) hn sm hj hr room;rw[wL]at T1;generalize hq:(t.put j).2=q at T1;generalize ht:(t.put j).1=t1 at T1 mk1 uP IC
  have rk:(zs.take q++(z,p)::zs.drop q).Perm ((z,p)::zs):=by have:=List.perm_middle (a:=(z,p)) (l₁:=zs.take q) (l₂:=zs.drop q);rwa[qbc]at this
  have esl:(SetTable.insertAt es q (hP z,.ref p)).size=zs.length+1:=by rw[<-T1.len];simp only[List.length_append,List.length_take,List.length_cons,List.length_drop];omega
  have big:(600:Nat)<=sizeLine:=by decide
  have zl:t.place.size=zs.length:=by rw[T.sz,T.len]
  have ez:es.size=zs.length:=T.len.symm;have g1:=An (es':=SetTable.insertAt es q (hP z,.ref p)) (t':=t1) ha;have mJ:=Heap.SameBut.update s.heap a (Obj.putSet (SetTable.insertAt es q (hP z,.ref p)) t1)
  have tf:t1.tooFull=decide (t1.place.size*5 ≥ t1.mask*3):=by unfold SetTable.tooFull SetTable.fill;rw[IC];rfl
  have fin:wpAny γ A (if (!false&&t1.tooFull)=true then do
   setRelay a (SetTable.grown (es.size+1))
   pure true
   else pure true) Q E {s with heap:=s.heap.update a (Obj.putSet (SetTable.insertAt es q (hP z,.ref p)) t1),toks:=s.toks+3}:=by
   split
   .rename_i c;rw[tf,Bool.not_false,Bool.true_and,qa6,uP,mk1]at c;obtain⟨k1,k2,k3,k4⟩:=grow T.wM nf c (by omega);rw[<-T.sz];refine qaa ?_;unfold setRelay;refine qaa (qa5 (s:={s with heap:=s.heap.update a (Obj.putSet (SetTable.insertAt es q (hP z,.ref p)) t1),toks:=s.toks+3}) g1 rfl T1.fits ?_);dsimp only;rw[qaC (Nat.not_lt.mpr k4)];obtain⟨t2,order,Qk,e2,ID,T2,l5,mk2,ps2⟩:=T1.wO (n:=SetTable.grown (t.place.size+1)) k1 (by rw[esl,<-zl];exact k2);rw[e2];refine qaa (show wpAny _ _ (if ((order.filterMap λi=>(SetTable.insertAt es q (hP z,.ref p))[i]?).size != (SetTable.insertAt es q (hP z,.ref p)).size)=true then (unsupported "internal:set-table-lost-an-element" >>= λ(_:PUnit)=>pure (order.filterMap λi=>(SetTable.insertAt es q (hP z,.ref p))[i]?,t2)) else pure (order.filterMap λi=>(SetTable.insertAt es q (hP z,.ref p))[i]?,t2)) _ _ _ from ?_);rw[qaC (by rw[ID];simp)];refine qac ?_;dsimp only;refine wpAny_storeSet_of (s:={s with heap:=s.heap.update a (Obj.putSet (SetTable.insertAt es q (hP z,.ref p)) t1),toks:=s.toks+3}) g1 rfl ?_ (by rw[ID,esl];omega);refine qac (new hn _ _ Qk (mJ.trans (Heap.SameBut.update _ a _)) ⟨_,_,t2,An g1,T2,?_⟩ (l5.trans rk));rw[ps2,mk2,esl,<-zl];exact k3
   .rename_i c;rw[tf,Bool.not_false,Bool.true_and,qa6]at c;exact qac (new hn _ _ _ mJ ⟨_,_,t1,g1,T1,by omega⟩ rk)
  split
  .refine qaa (Qc (s:={s with toks:=s.toks+3}) hp ?_);rw[qaF rfl];refine qaa (wpAny_storeSet_of (s:={s with toks:=s.toks+3}) ha rfl ?_ (by omega));exact fin
  .refine qaa (qac ?_);rw[qaF rfl];refine qaa (wpAny_storeSet_of (s:={s with toks:=s.toks+3}) ha rfl ?_ (by omega));exact fin
end
section
variable{prog:Program}{w:World}{A:Around}{E:T0}{s:Shared}{a p:Addr}
theorem Ql(hu:A.units+1<cLine)(hS:dq B s.heap a zs)(hz:∀y∈zs,ef s.heap y.1 y.2)(hp:ζf)(sm:bU z)(hl:zs.length<600)
 (h:∀h' tk zs',Heap.SameBut a s.heap h'->dq B h' a zs'->(zs'=zs/\z∈zs.map (·.1))\/(zs'.Perm ((z,p)::zs)/\z∉zs.map (·.1))->Q .none {s with heap:=h',toks:=tk}):wpAny γ A (call (.builtin "set.add") [.ref a,.ref p]) Q E s:=by
 have hT:s.TypeIs γC "set":= by obtain⟨es,ep,t,e,_⟩:=hS;exact⟨_,e,rfl⟩
 refine qaZ F.slot_set_add hT F.entry_set_add ?_ (F.args_set_add_2 _ _);show wpAny _ _ (setAdd a γJ >>= _) _ _ _;refine qaa (IB hu hS hz hp sm hl (λhin tk=>?_) λhn h' tk zs' sb S pm=>?_)
 .exact qac ⟨_,rfl,h s.heap tk zs (Heap.SameBut.refl _ _) hS (.inl ⟨rfl,hin⟩)⟩
 .exact qac ⟨_,rfl,h h' tk zs' sb S (.inr ⟨pm,hn⟩)⟩
end
end St
namespace L2
open PySem PySem.Spec PyProof.Rows
noncomputable abbrev Key:=Sum Int Str
noncomputable def IE:Key->Value->Bool
 |.inl k,v=>Value.isInt k v
 |.inr x,v=>Value.isStrOf x v
noncomputable def Qm(w:World):Key->Int
 |.inl k=>hashInt k
 |.inr x=>hashStr w x
theorem qq:∀{k:Key}{v:Value},IE k v=true->(∃i t,k=Sum.inl i/\v=Value.int i t)\/(∃x t,k=Sum.inr x/\v=Value.str x t)
 |.inl i,v,h=>by obtain⟨t,e⟩:=Value.isInt_shape (k:=i) (v:=v) h;exact .inl ⟨i,t,rfl,e⟩
 |.inr x,v,h=>by obtain⟨t,e⟩:=Value.isStrOf_shape (x:=x) (v:=v) h;exact .inr ⟨x,t,rfl,e⟩
theorem Qn(a b:Int):decide ((Sum.inl a:Key)=Sum.inl b)=(a == b):=by
 by_cases e:a=b
 .subst e;simp
 .have h:¬(Sum.inl a:Key)=Sum.inl b:=λq=>e (Sum.inl.inj q);rw[qau h];exact(beq_eq_false_iff_ne.mpr e).symm
theorem Qo(a b:Str):decide ((Sum.inr a:Key)=Sum.inr b)=decide (a=b):=by
 by_cases e:a=b
 .subst e;simp
 .have h:¬(Sum.inr a:Key)=Sum.inr b:=λq=>e (Sum.inr.inj q);rw[qau h,qau e]
theorem Qp(a:Int)(b:Str):decide ((Sum.inl a:Key)=Sum.inr b)=false:=qau (λq=>nomatch q)
theorem Qq(a:Str)(b:Int):decide ((Sum.inr a:Key)=Sum.inl b)=false:=qau (λq=>nomatch q)
noncomputable def IF(prog:Program)(w:World):PySem.KeyKind prog w Key where
 is:=IE
 hash:=Qm w
 inj:=λv a b ha hb=>by
  rcases qq ha with ⟨i,t,rfl,rfl⟩|⟨x,t,rfl,rfl⟩
  .rcases qq hb with ⟨j,u,rfl,e⟩|⟨y,u,rfl,e⟩
   .injection e with e1 _;rw[e1]
   .exact nomatch e
  .rcases qq hb with ⟨j,u,rfl,e⟩|⟨y,u,rfl,e⟩
   .exact nomatch e
   .injection e with e1 _;rw[e1]
 byValue:=λk v h=>by rcases qq h with ⟨i,t,rfl,rfl⟩|⟨x,t,rfl,rfl⟩<;>rfl
 pyHash:=λhv h=>by
  rcases qq hv with ⟨i,t,rfl,rfl⟩|⟨x,t,rfl,rfl⟩
  .exact wpAny_pyHash_int h
  .exact wpAny_pyHash_str h
 eqBool:=λhu hv h=>by
  rcases qq hu with ⟨i,t,rfl,rfl⟩|⟨x,t,rfl,rfl⟩
  .rcases qq hv with ⟨j,u,rfl,rfl⟩|⟨y,u,rfl,rfl⟩
   .rw[Qn]at h;exact wpAny_eqBool_int h
   .rw[Qp]at h;exact SeqAt.EqAt.int_str i t y u _ _ _ _ h
  .rcases qq hv with ⟨j,u,rfl,rfl⟩|⟨y,u,rfl,rfl⟩
   .rw[Qq]at h;exact SeqAt.EqAt.str_int x t j u _ _ _ _ h
   .rw[Qo]at h;exact wpAny_eqBool_str h
 «strs»:= λk x t v h=>by
  rcases qq h with ⟨i,u,rfl,e⟩|⟨y,u,rfl,e⟩
  .exact nomatch e
  .injection e with e1 _
   subst e1;cases v<;>rfl
inductive V where
 |ax|bl (b:Bool)|int (i:Int)|str (x:Str)|nG (b:Array UInt8)|flt (b:UInt64)|ref (a:Addr)|ty (n:String)
 deriving DecidableEq
noncomputable def RelV:V->Value->Prop
 |.ax,u=>u=Value.none
 |.bl b,u=>u=Value.bool b
 |.int i,u=>∃t,u=Value.int i t
 |.str x,u=>∃t,u=Value.str x t
 |.nG b,u=>∃t,u=Value.bytes b t
 |.flt b,u=>∃t,u=Value.float b t
 |.ref a,u=>u=Value.ref a
 |.ty n,u=>u=Value.type n
abbrev Vals:List V->v4->Prop:=Paired RelV
theorem Vals.length(r:ε4):xs.length=us.length:=Paired.length r
theorem Vals.get:∀{xs:γB}{us:v4}{i:Nat}{x:V},Vals xs us->xs[i]?=some x->∃u,us[i]?=some u/\RelV x u
 |_,_,_,_,.nil,e=>by simp at e
 |_,_,0,_,.cons r _,e=>by simp at e;subst e;exact⟨_,rfl,r⟩
 |_,_,i+1,x,.cons _ t,e=>by obtain⟨u,h1,h2⟩:=Vals.get (i:=i) (x:=x) t (by simpa using e);exact⟨u,by simpa using h1,h2⟩
theorem Vals.append(r:ε4)(s:Vals ys ws):Vals (xs++ys) (us++ws):=by
 induction r with
 |nil=>exact s
 |cons r t ih=>exact .cons r ih
theorem Vals.take:∀{xs:γB}{us:v4} (n:Nat),Vals xs us->Vals (xs.take n) (us.take n)
 |_,_,0,_=>.nil
 |_,_,_+1,.nil=>.nil
 |_,_,n+1,.cons r t=>.cons r (Vals.take n t)
theorem Vals.drop:∀{xs:γB}{us:v4} (n:Nat),Vals xs us->Vals (xs.drop n) (us.drop n)
 |_,_,0,r=>r
 |_,_,_+1,.nil=>.nil
 |_,_,n+1,.cons _ t=>Vals.drop n t
theorem Vals.none_of:∀{xs:γB}{us:v4}{i:Nat},Vals xs us->xs[i]?=none->us[i]?=none:=λ{xs us i} r e=>by have h1:=r.length;have h2:xs.length<=i:=List.getElem?_eq_none_iff.mp e;exact List.getElem?_eq_none_iff.mpr (by omega)
def eB:Option V->zzb->Prop
 |some v,some u=>RelV v u
 |none,none=>True
 |_,_=>False
def KV{κ:Type}:List (κ×V)->List (κ×Value)->Prop:=Paired λ(p:κ×V) (q:κ×Value)=>p.1=q.1/\RelV p.2 q.2
noncomputable def kV:Key->V
 |.inl i=>.int i
 |.inr x=>.str x
inductive HO where
 |lst (xs:γB)
 |tup (xs:γB)
 |dK (kvs:List (Key×V))|dT (kvs:List (List Key×V))
 |set (S:Int->Bool) (n:Nat)
 |ins (C dx:Addr) (fs:List (Str×V))
 |own (x:Addr)
 |xd (fs:List (Str×V))
 |met (f x:Addr)
 |CM (lo hi:Int)
 |ae (o:Obj) (u:HO)
 |sU (ps:zzh)
 |ext (φ:Heap->Prop)
noncomputable abbrev Hp:=Addr->Option HO
noncomputable def upd(H:Hp)(a:Addr)(o:HO):Hp:=λb=>if b=a then some o else H b
theorem eC:upd H a o a=some o:=by unfold upd;rw[if_pos rfl]
theorem bh(h:b≠a):upd H a o b=H b:=by unfold upd;rw[if_neg h]
theorem Au:upd ζp a u=upd H a u:=by funext b;unfold upd;split<;>rfl
theorem rn{H:Hp}{a b:Addr}{o u:HO}(h:H a=some o)(h':H b=some u)(d:o≠u):a≠b:=by intro e;subst e;rw[h]at h';exact d (qaQ h')
theorem iG{H:Hp}{a b:Addr}{o:HO}(h:H a=some o)(h':H b=none):a≠b:=by intro e;subst e;rw[h]at h';cases h'
section
variable(P:Program)(w:World)
def aJ(H:Hp)(h:Heap)(a:Addr):HO->Prop
 |.lst xs=>xs.length<=sizeLine/\∃(its:v4) (n:Nat),Vals xs its/\h.get? a=some {cls:=.type "list",data:=.seq its.toArray n}
 |.tup xs=>xs.length<=sizeLine/\∃its:v4,Vals xs its/\IsTup h a its.toArray
 |.dK kvs=>kvs.length<=sizeLine/\(a == sysModules)=false/\∃vs,KV kvs vs/\h.DictOf (IF P w) a vs
 |.dT kvs=>kvs.length<=sizeLine/\(a == sysModules)=false/\∃xs:List (List Key×Addr×Value),
  Paired (λ(p:List Key×V) (q:List Key×Addr×Value)=>p.1=q.1/\H q.2.1=some (.tup (p.1.map kV))/\RelV p.2 q.2.2) kvs xs /\
  ∃o es ep,h.get? a=some o/\o.ExactDict/\o.data=.dict es ep/\es.toList=xs.map (entryOfKey (tupleKind (IF P w)))/\(xs.map (·.1)).Nodup
 |.set S n=>h.SetOf (intKind P w) a S n
 |.ins C dx fs=>H dx=some (.own a)/\fs.length<=1000/\dx≠a/\h.get? a=some (W.instObj C dx) /\
  ∃mA,h.Ns1 dx mA/\(∀f,eB ζX (mA f))/\PySem.Within mA (fs.map (·.1))
 |.own _=>∃o,h.get? a=some o
 |.xd fs=>∃mA,h.Ns1 a mA/\∀f,eB ζX (mA f)
 |.CM lo hi=>∃t u v,h.get? a=some {cls:=.type "range",data:=.fields #[.int lo t,.int hi u,.int 1 v]}
 |.ae o u=>h.get? a=some o/\aJ H h a u
 |.sU ps=>h.get? a=some {cls:=.none,data:=.fields ps}
 |.met f x=>h.get? a=some (W.methodObj γ7 δX)
 |.ext φ=>φ h/\(∃o,h.get? a=some o)/\∀h1 h2:Heap,φ h1->(∀o,h1.get? a=some o->h2.get? a=some o)->φ h2
def dJ(H:Hp)(h:Heap):Prop:=∀a o,H a=some o->aJ P w H h a o
end
section
variable{P:Program}{w:World}{H H':Hp}{h h':Heap}{a:Addr}{o:HO}
theorem aJ.lt(x:aJ P w H h a o):a<h.objs.size:=by
 cases o with
 |lst xs=>obtain⟨_,_,_,_,e⟩:=x;exact qai e
 |tup xs=>obtain⟨_,_,_,p⟩:=x;exact p.lt
 |dK kvs=>obtain⟨_,_,_,_,o,_,_,e,_⟩:=x;exact qai e
 |dT kvs=>obtain⟨_,_,_,_,o,_,_,e,_⟩:=x;exact qai e
 |set S n=>obtain⟨o,_,_,_,e,_⟩:=x;exact qai e
 |ins C dx fs=>obtain⟨_,_,_,e,_⟩:=x;exact qai e
 |own y=>obtain⟨_,e⟩:=x;exact qai e
 |xd fs=>obtain⟨_,⟨_,_,_,e,_⟩,_⟩:=x;exact qai e
 |CM lo hi=>obtain⟨_,_,_,e⟩:=x;exact qai e
 |ae ob u=>obtain⟨e,_⟩:=x;exact qai e
 |sU ps=>exact qai (show h.get? a=some _ from x)
 |met f y=>exact qai (show h.get? a=some _ from x)
 |ext φ=>obtain⟨_,⟨_,e⟩,_⟩:=x;exact qai e
theorem Paired.CN{α β:Type}{F G:α->β->Prop}{l₁:ζi}{l₂:List β}(r:Paired F l₁ l₂)(f:∀a b,F a b->G a b):Paired G l₁ l₂:=by
 induction r with
 |nil=>exact .nil
 |cons r t ih=>exact .cons (f _ _ r) ih
theorem aJ.stay(x:aJ P w H h a o)(k:∀b u,(b=a\/H b=some (.own a))->h.get? b=some u->h'.get? b=some u)
 (ho:∀b,H b=some (.own a)->H' b=some (.own a)) (ht:∀b xs,H b=some γN->H' b=some γN):aJ P w H' h' a o:=by
 induction o with
 |lst xs=>obtain⟨z,its,n,r,e⟩:=x;exact⟨z,its,n,r,k _ _ γM e⟩
 |tup xs=>obtain⟨z,its,r,ob,e,c⟩:=x;exact⟨z,its,r,ob,k _ _ γM e,c⟩
 |dK kvs=>obtain⟨z,y,vs,r,ob,es,ep,e,c⟩:=x;exact⟨z,y,vs,r,ob,es,ep,k _ _ γM e,c⟩
 |dT kvs =>
   obtain⟨z,y,xs,r,ob,es,ep,e,c⟩:=x;exact⟨z,y,xs,Paired.CN r λp q z=>⟨z.1,ht _ _ z.2.1,z.2.2⟩,ob,es,ep,k _ _ γM e,c⟩
 |set S n=>obtain⟨ob,es,ep,t,e,c⟩:=x;exact⟨ob,es,ep,t,k _ _ γM e,c⟩
 |ins C dx fs =>
   obtain⟨d,z,ne,e,mA,⟨od,es,ep,e2,c⟩,r⟩:=x;exact⟨ho _ d,z,ne,k _ _ γM e,mA,⟨od,es,ep,k _ _ (.inr d) e2,c⟩,r⟩
 |own y=>obtain⟨ob,e⟩:=x;exact⟨ob,k _ _ γM e⟩
 |xd fs=>obtain⟨mA,⟨od,es,ep,e,c⟩,r⟩:=x;exact⟨mA,⟨od,es,ep,k _ _ γM e,c⟩,r⟩
 |CM lo hi=>obtain⟨t,u,v,e⟩:=x;exact⟨t,u,v,k _ _ γM e⟩
 |ae ob u ih=>obtain⟨e,q⟩:=x;exact⟨k _ _ γM e,ih q⟩
 |sU ps =>
   have e:h.get? a=some {cls:=.none,data:=.fields ps}:=x;show h'.get? a=some {cls:=.none,data:=.fields ps};exact k a _ γM e
 |met f y =>
   have e:h.get? a=some (W.methodObj γ7 (.ref y)):=x;show h'.get? a=some (W.methodObj γ7 (.ref y));exact k a _ γM e
 |ext φ=>obtain⟨p,⟨o,e⟩,st⟩:=x;exact⟨st _ _ p λo q=>k _ _ γM q,⟨o,k _ _ γM e⟩,st⟩
theorem dJ.lt(x:δW)(e:H a=some o):a<h.objs.size:=(x a o e).lt
theorem dJ.fresh(x:δW)(e:h.objs.size<=a):H a=none:=by
 cases q:H a with
 |none=>rfl
 |some u=>exact absurd (qar (x.lt q) e) θm
theorem dJ.kept(x:δW)(k:∀b u,h.get? b=some u->h'.get? b=some u):dJ P w H h':=λa o e =>
 (x a o e).stay (λb u _ q=>k b u q) (λ_ q=>q) λ_ _ q=>q
theorem dJ.laid(x:δW)(k:∀b u,h.get? b=some u->h'.get? b=some u)(hp:h.objs.size<=a)(new:aJ P w ζp h' a o):dJ P w ζp h':=λb u e=>by
 have hn:=x.fresh hp;by_cases hb:b=a
 .subst hb;rw[eC]at e;cases e;exact new
 .rw[bh hb]at e;exact(x b u e).stay (λc v _ q=>k c v q) (λc q=>by rw[bh (iG q hn)];exact q) λc xs q=>by rw[bh (iG q hn)];exact q
end
def Rd(H:Hp)(a:Addr)(u:HO):Prop:=H a=some u\/∃o,H a=some (.ae o u)
theorem Rd.ok(r:Rd H a u)(x:δW):aJ P w H h a u:=by
 rcases r with r|⟨o,r⟩
 .exact x a u r
 .obtain⟨_,q⟩:=x a _ r;exact q
def Av:Option HO->Prop
 |some (.lst _)=>True
 |some (.dK _)=>True
 |some (.dT _)=>True
 |some (.set _ _)=>True
 |some (.ins _ _ _)=>True
 |some (.ext _)=>True
 |_=>False
section
variable{P:Program}{w:World}{H:Hp}{h h':Heap}{x e:Addr}{o':HO}
theorem dJ.write(ok:δW)(mu:Av (H x))(he:e=x\/H e=some (.own x))(k:∀b u,b≠e->h.get? b=some u->h'.get? b=some u)(heo:∃u,h'.get? e=some u)
 (new:aJ P w (upd H x o') h' x o'):dJ P w (upd H x o') h':=λb u q=>by
 have wQ:∀c y,H c=some (.own y)->c≠x:=λc y r z=>by subst z;rw[r]at mu;exact mu
 have CO:∀c xs,H c=some γN->c≠x:=λc xs r z=>by subst z;rw[r]at mu;exact mu
 by_cases hb:b=x
 .subst hb;rw[eC]at q;cases q;exact new
 .rw[bh hb]at q;by_cases hbe:b=e
  .have q':H b=some (.own x):=by
    rcases he with z|z
    .exact absurd (hbe.trans z) hb
    .rw[hbe];exact z
   rw[q]at q';cases q'
   obtain⟨v,hv⟩:=heo
   exact⟨v,by rw[hbe];exact hv⟩
  .refine(ok b u q).stay (λc v hc r=>k c v ?_ r) (λc r=>by rw[bh (wQ c b r)];exact r) λc xs r=>by rw[bh (CO c xs r)];exact r
   rcases hc with rfl|hc
   .exact hbe
   .rintro rfl;rcases he with z|z
    .exact wQ c b hc z
    .rw[hc]at z;cases z;exact hb rfl
end
structure Un(fs ex:zzd)(H H':Hp)(h h':Heap):Prop where
 keep:∀b o,h.get? b=some o->H b=none->b∉fs->b∉ex->h'.get? b=some o
 slot:∀b o,h.get? b=some o->H b=none->b∈fs->b∉ex->∃sl,h'.get? b=some {o with slots:=sl}
 free:∀b o,h.get? b=some o->H b=none->b∉ex->H' b=none
 there:∀b o,h.get? b=some o->b∉ex->∃o',h'.get? b=some o'
 tups:∀b xs,H b=some γN->H' b=some γN
 gG:∀b o u,H b=some (.ae o u)->H' b=some (.ae o u)
 gU:∀b ps,H b=some (.sU ps)->∃more,H' b=some (.sU (ps++more))
section
variable{fs fs' ex ex':zzd}{H H1 H2:Hp}{h h1 h2 h':Heap}{a x e:Addr}{o:HO}
theorem Un.any(u:Un fs ex H H1 h h1)(q:h.get? b=some ob)(n:H b=none)(hx:b∉ex):∃sl,h1.get? b=some {ob with slots:=sl}:=by
 by_cases hb:b∈fs
 .exact u.slot b ob q n hb hx
 .exact⟨ob.slots,u.keep b ob q n hb hx⟩
theorem Un.kept(k:∀b u,h.get? b=some u->h'.get? b=some u):Un fs ex H H h h':=
 ⟨λb ob q _ _ _=>k b ob q,λb ob q _ _ _=>⟨ob.slots,k b ob q⟩,λ_ _ _ n _=>n,λb ob q _=>⟨ob,k b ob q⟩,λ_ _ q=>q,λ_ _ _ q=>q,λ_ ps q=>⟨#[],by rw[q];simp⟩⟩
theorem Un.refl:Un fs ex H H h h:=Un.kept λ_ _ q=>q
theorem Un.laid(k:∀b u,h.get? b=some u->h'.get? b=some u)(hp:h.objs.size<=a)(hn:H a=none):Un fs ex H ζp h h' where
 keep:=λb u q _ _ _=>k b u q
 slot:=λb u q _ _ _=>⟨u.slots,k b u q⟩
 free:=λb u q n _=>by rw[bh (qal (qar (qai q) hp))];exact n
 there:=λb u q _=>⟨u,k b u q⟩
 tups:=λb xs q=>by rw[bh (iG q hn)];exact q
 gG:=λb u xs q=>by rw[bh (iG q hn)];exact q
 gU:=λb ps q=>⟨#[],by rw[bh (iG q hn),q];simp⟩
theorem Un.write(mu:Av (H x))(he:e=x\/H e=some (.own x))(k:∀b u,b≠e->h.get? b=some u->h'.get? b=some u)(heo:∃u,h'.get? e=some u):Un fs ex H (upd H x o) h h':=by
 have hx:∀b,H b=none->b≠x:=λb n z=>by subst z;rw[n]at mu;exact mu
 have hb:∀b,H b=none->b≠e:=λb n z=>by
  subst z;rcases he with r|r
  .exact hx b n r
  .rw[n]at r;cases r
 have hm:∀b u,H b=some u -> ¬Av (some u)->b≠x:=λb u q nm z=>by subst z;rw[q]at mu;exact nm mu
 refine⟨λb u q n _ _=>k b u (hb b n) q,λb u q n _ _=>⟨u.slots,k b u (hb b n) q⟩,λb u q n _=>by rw[bh (hx b n)];exact n,λb u q _=>?_,
  λb xs q=>by rw[bh (hm b _ q λz=>z)];exact q,λb u xs q=>by rw[bh (hm b _ q λz=>z)];exact q,λb ps q=>⟨#[],by rw[bh (hm b _ q λz=>z),q];simp⟩⟩
 by_cases hbe:b=e
 .subst hbe;exact heo
 .exact⟨u,k b u hbe q⟩
end
noncomputable def Aw(h:Heap)(H:Hp):zzd:=(List.range h.objs.size).filter λa=>(H a).isSome
noncomputable def qr(h:Heap)(H:Hp):Heap:=W.hideAll h (Aw h H)
theorem Qr(h:Heap)(H:Hp):(qr h H).objs.size=h.objs.size:=W.hideAll_size _ _
theorem Qs{h:Heap}(e:h.get? b=some o)(n:H b=none):(qr h H).get? b=some o:=
 W.hideAll_get _ e λhm=>by have q:(H b).isSome=true:=(qaL.mp hm).2;rw[n]at q;simp at q
theorem Qt(e:(qr h H).get? b=some o):h.get? b=some o/\H b=none:=by
 have e':h.get? b=some o:=W.of_hideAll (Aw h H) e;refine⟨e',?_⟩;cases q:H b with
 |none=>rfl
 |some x =>
   have hm:b∈Aw h H:=qaL.mpr ⟨qbF.mpr (qai e'),by simp[q]⟩;have z:(qr h H).get? b=none:=W.hideAll_none (Aw h H) hm;rw[z]at e;cases e
noncomputable def zsV(g h:Heap)(L:Addr):W1:=(List.range h.objs.size).filterMap λa=>if a=L\/(g.get? a).isSome=true then none else (h.get? a).map λo=>(a,o)
def rest(g h:Heap)(L d:Addr):W1:=(zsV g h L).filter λp=>decide (p.1≠d)
structure Mod(K:zze)(mg:M2)(base:Heap):Prop where
 qs:K.In base
 glob:base.Ns mainGlobals mg
 blt:∃mb,base.Ns builtinsNs mb/\∀x:Str,x≠"__name__" -> mb x=bootBuiltins x
 nolimit:base.NoLimit
structure Cx where
 prog:Program
 w:World
 K:zze
 mg:M2
 base:Heap
 A:Around
 N:v6
 s₀:Shared
 H₀:Hp
 env:Env
 outer:List Env
 stack:List Env
 ex:zzd
 fn:Str->Bool
 calm:Bool
 pn:W1
 xe:T0
noncomputable def frs(l:δq):zzd:=l.filterMap (·.frame)
abbrev Cx.fs(X:Cx):zzd:=frs X.outer
noncomputable def wR(sc:Scope)(x:Str):Prop:=sc.names.lookup x=some .local\/sc.names.lookup x=some .cell\/sc.names.lookup x=some .free
noncomputable def Loc(sc:Scope)(x:Str):Prop:=sc.names.lookup x=some .local\/sc.names.lookup x=some .cell
noncomputable def Look(env:Env)(h:Heap)(m:M2)(x:Str)(u:Value):Prop:=
 (env.kindOf x=some .local/\m x=some u)\/((env.kindOf x=some .cell\/env.kindOf x=some .free)/\∃c,env.cells.lookup x=some c/\h.IsCell c (some u))
structure Cx.Ok(X:Cx):Prop where
 mod:Mod X.K X.mg X.base
 kind:X.env.scope.kind=.function
 glob:X.env.globals=mainGlobals
 blt:X.env.builtins=builtinsNs
 above:X.s₀.heap.objs.size<=X.env.locals
 inj:∀x y c,X.env.cells.lookup x=some c->X.env.cells.lookup y=some c->x=y
 has:∀x,(X.env.kindOf x=some .cell\/X.env.kindOf x=some .free)->∃c,X.env.cells.lookup x=some c
 cab:∀x c,X.fn x=true->X.env.cells.lookup x=some c->X.s₀.heap.objs.size<=c
 hd:X.calm=true->X.A.handled=none
 frames:X.A.frames=some X.stack
 ro:X.stack=X.outer\/(X.stack=X.env::X.outer/\X.env.frame=some X.env.locals)
 rq:∀b∈X.ex,b≠X.env.locals/\∀x c,X.env.cells.lookup x=some c->c≠b
 bs:∀b o,X.base.get? b=some o->X.s₀.heap.get? b=some o/\X.H₀ b=none
 l7:X.base.objs.size<=X.s₀.heap.objs.size
 jj:∀b o,X.base.get? b=some o->b∉X.ex
 jk:∀b∈X.ex,b∉X.fs
 eD:X.s₀.heap.FunFrames X.base X.outer
 n5:∀b∈X.fs,X.H₀ b=none
structure Inv(X:Cx)(pins:W1)(σ:θP)(H:Hp)(s:Shared):Prop where
 ok:X.Ok
 os:s.os=X.s₀.os
 bare:AllBare s.gens
 base:Un X.fs X.ex X.H₀ H X.s₀.heap s.heap
 loc:∃m,s.heap.Ns X.env.locals m/\∀(i:Nat) (x:Str) (v:V),X.N[i]?=some x->σ[i]?=some δQ->wR X.env.scope x->∃u,RelV v u/\Look X.env s.heap m x u
 cell:∀x c,X.env.cells.lookup x=some c->∃v,s.heap.IsCell c v
 free:H X.env.locals=none
 bX:∀x c,X.env.cells.lookup x=some c->H c=none
 pin:∀p∈X.pn++pins,s.heap.get? p.1=some p.2/\H p.1=none/\p.1≠X.env.locals/\p.1∉X.fs/\∀v,p.2.data≠.cell v
 hok:dJ X.prog X.w H s.heap
 len:σ.length=X.N.length
section
variable{X:Cx}{pins:W1}{σ:θP}{H H':Hp}{s:Shared}{h':Heap}
theorem Cx.Ok.CP(ok:X.Ok)(e:X.base.get? b=some o):b∉X.fs:=λhb=>by have:=(ok.eD.mem hb).1;rw[e]at this;cases this
theorem Inv.bs(I:ε):∀b o,X.base.get? b=some o->s.heap.get? b=some o/\H b=none:=λb o e =>
 ⟨I.base.keep b o (I.ok.bs b o e).1 (I.ok.bs b o e).2 (I.ok.CP e) (I.ok.jj b o e),I.base.free b o (I.ok.bs b o e).1 (I.ok.bs b o e).2 (I.ok.jj b o e)⟩
theorem Inv.bk(I:ε):∀b o,X.base.get? b=some o->s.heap.get? b=some o:=λb o e=>(I.bs b o e).1
theorem Inv.mod(I:ε):Mod X.K X.mg X.base:=I.ok.mod
theorem Inv.bV(I:ε):X.K.In s.heap:=I.ok.mod.qs.keeps I.bk
theorem Inv.fr(I:ε):∃m,Fr X.base X.env.locals s.heap m:=
 let ⟨m,hn,_⟩:=I.loc
 ⟨m,hn,I.bk,qaO I.ok.l7 I.ok.above⟩
theorem Inv.lt(I:ε):X.env.locals<s.heap.objs.size:=let ⟨_,hn,_⟩:=I.loc;hn.lt
theorem Inv.sz(I:ε):X.s₀.heap.objs.size<=s.heap.objs.size:=qaO I.ok.above (Nat.le_of_lt I.lt)
theorem Inv.CQ(I:ε){a:Addr}(h:s.heap.objs.size<=a):a∉X.fs:=λhb=>by obtain⟨_,o,ho,_⟩:=I.ok.eD.mem hb;exact absurd (qar (qai ho) (qaO I.sz h)) θm
theorem Inv.n6(I:ε):∀x c,X.env.cells.lookup x=some c->c≠X.env.locals:=λx c e z=>by obtain⟨v,o,ho,hd⟩:=I.cell x c e;obtain⟨m,⟨o',es,ep,ho',hd',_⟩,_⟩:=I.loc;rw[z,ho']at ho;cases ho;rw[hd']at hd;cases hd
theorem Inv.eD(I:ε):s.heap.FunFrames X.base X.outer:=by
 have all:∀(l:δq),(∀b∈frs l,b∈X.fs)->X.s₀.heap.FunFrames X.base l->s.heap.FunFrames X.base l:=by
  intro l;induction l with
  |nil=>intro _ _;trivial
  |cons env r ih =>
    intro hs hl;obtain⟨hk,⟨L,o,hf,hn,ho,hd⟩,hr⟩:=hl;have hL:L∈X.fs:=hs L (by unfold frs;rw[List.filterMap_cons,hf];exact qag);obtain⟨sl,e⟩:=I.base.slot L o ho (I.ok.n5 L hL) hL λz=>I.ok.jk L z hL;exact⟨hk,⟨L,_,hf,hn,e,hd⟩,ih (λb hb=>hs b (by unfold frs;rw[List.filterMap_cons,hf];exact qae _ hb)) hr⟩
 exact all X.outer (λ_ hb=>hb) I.ok.eD
theorem Inv.stack(I:ε):s.heap.FunFrames X.base X.stack:=by
 rcases I.ok.ro with e|⟨e,hf⟩
 .rw[e];exact I.eD
 .rw[e];obtain⟨m,hn,_⟩:=I.loc;refine .cons (by rw[I.ok.kind];decide) hf hn ?_ I.eD;exact Heap.get?_none_of_le (qaO I.ok.l7 I.ok.above)
theorem Inv.jm(I:ε):∀b∈frs X.stack,b∈X.env.locals::X.fs:=λb hb=>by
 rcases I.ok.ro with e|⟨e,hf⟩
 .rw[e]at hb;exact qae _ hb
 .rw[e]at hb;unfold frs at hb;rw[qaK,hf]at hb;exact hb
theorem Inv.gM(I:ε):∀b∈frs X.stack,H b=none:=λb hb=>by
 rcases qak.mp (I.jm b hb) with e|hb
 .rw[e];exact I.free
 .obtain⟨_,o,ho,_⟩:=I.ok.eD.mem hb;exact I.base.free b o ho (I.ok.n5 b hb) λz=>I.ok.jk b z hb
theorem Inv.step{g':Array GenState}{t':Nat}{d':Drawn}{ch:zzd}(I:ε)
 (hch:∀b∈ch,(b∈X.ex\/X.s₀.heap.objs.size<=b)/\b≠X.env.locals/\(∀x c,X.env.cells.lookup x=some c->c≠b)/\∀p∈X.pn++pins,p.1≠b)
 (keep:∀b o,b≠X.env.locals->b∉X.fs->b∉ch->s.heap.get? b=some o->H b=none->h'.get? b=some o)
 (slot:∀b o,b≠X.env.locals->b∈X.fs->b∉ch->s.heap.get? b=some o->H b=none->∃sl,h'.get? b=some {o with slots:=sl}) (free:∀b o,b∉ch->s.heap.get? b=some o->H b=none->H' b=none)
 (there:∀b o,b∉ch->s.heap.get? b=some o->∃o',h'.get? b=some o')
 (tups:∀b xs,H b=some γN->H' b=some γN) (gG:∀b o u,H b=some (.ae o u)->H' b=some (.ae o u)) (gU:∀b ps,H b=some (.sU ps)->∃more,H' b=some (.sU (ps++more)))
 (ns:∀m,s.heap.Ns X.env.locals m->h'.Ns X.env.locals m) (hok:ιj) (hg:AllBare g') :
 Inv X pins σ H' {s with heap:=h',gens:=g',drawn:=d',toks:=t'}:=by
 have IG:∀b o,X.s₀.heap.get? b=some o->b≠X.env.locals:=λb o e=>qal (qar ζ1 I.ok.above)
 have Ax:∀b o,X.s₀.heap.get? b=some o->b∉X.ex->b∉ch:=λb o e hx hb=>by
  rcases(hch b hb).1 with z|z
  .exact hx z
  .exact absurd (qar ζ1 z) θm
 have cellK:∀x c,X.env.cells.lookup x=some c->∀v,s.heap.IsCell c v->h'.IsCell c v:=λx c e v ⟨o,ho,hd⟩=>by
  have wU:c∉ch:=λz=>(hch c z).2.2.1 x c e rfl;by_cases hc:c∈X.fs
  .obtain⟨sl,q⟩:=slot c o (I.n6 x c e) hc wU ho (I.bX x c e);exact⟨_,q,hd⟩
  .exact⟨o,keep c o (I.n6 x c e) hc wU ho (I.bX x c e),hd⟩
 refine⟨I.ok,I.os,hg,⟨λb o e n hb hx=>?_,λb o e n hb hx=>?_,λb o e n hx=>?_,λb o e hx=>?_,λb xs e=>tups b xs (I.base.tups b xs e),λb o xs e=>gG b o xs (I.base.gG b o xs e),λb ps e=>?_⟩,?_,λx c e=>?_,?_,λx c e=>?_,λp hp=>?_,hok,I.len⟩
 .exact keep b o (IG b o e) hb ιo εD ηH
 .obtain⟨sl,e1⟩:=I.base.slot b o e n hb hx;obtain⟨sl',e2⟩:=slot b _ (IG b o e) hb ιo e1 ηH;exact⟨sl',e2⟩
 .obtain⟨o',e1⟩:=I.base.there b o e hx;exact free b o' ιo e1 ηH
 .obtain⟨o',e1⟩:=I.base.there b o e hx;exact there b o' ιo e1
 .obtain⟨m1,e1⟩:=I.base.gU b ps e;obtain⟨m2,e2⟩:=gU b _ e1;exact⟨m1++m2,by rw[e2,Array.append_assoc]⟩
 .obtain⟨m,hn,hl⟩:=I.loc;refine⟨m,ns m hn,λi x v e1 e2 e3=>?_⟩;obtain⟨u,r,l⟩:=hl i x v e1 e2 e3;refine⟨u,r,?_⟩;rcases l with l|⟨k,c,e,z⟩
  .exact .inl l
  .exact .inr ⟨k,c,e,cellK x c e _ z⟩
 .obtain⟨v,z⟩:=I.cell x c e;exact⟨v,cellK x c e v z⟩
 .obtain⟨m,⟨o,_,_,ho,_⟩,_⟩:=I.loc;exact free _ o (λz=>(hch _ z).2.1 rfl) ho I.free
 .obtain⟨v,o,ho,hd⟩:=I.cell x c e;exact free c o (λz=>(hch c z).2.2.1 x c e rfl) ho (I.bX x c e)
 .obtain⟨e,n,ne,nf,d⟩:=I.pin p hp;have wU:p.1∉ch:=λz=>(hch p.1 z).2.2.2 p hp rfl;exact⟨keep p.1 p.2 ne nf wU e n,free p.1 p.2 wU e n,ne,nf,d⟩
theorem Inv.un{t':Nat}(I:ε)(u:Un X.fs [] H H' s.heap h')(hok:ιj):Inv X pins σ H' {s with heap:=h',toks:=t'}:=by
 obtain⟨m,⟨o,es,ep,ho,r⟩,_⟩:=id I.loc;obtain⟨sl,hL⟩:=u.any ho I.free (by simp)
 exact I.step (g':=s.gens) (d':=s.drawn) (ch:=[]) (λ_ z=>nomatch z) (λb o _ hb _ e n=>u.keep b o e n hb (by simp)) (λb o _ hb _ e n=>u.slot b o e n hb (by simp)) (λb o _ e n=>u.free b o e n (by simp)) (λb o _ e=>u.there b o e (by simp)) u.tups u.gG u.gU (λm' hm=>by obtain⟨o',es',ep',ho',r'⟩:=hm;rw[ho]at ho';cases ho';exact⟨_,es',ep',hL,r'⟩) hok I.bare
theorem Inv.call{g':Array GenState}{t':Nat}{d':Drawn}{ch:zzd}(I:ε)(u:Un (frs X.stack) ch H H' s.heap h')(hok:ιj)(hg:AllBare g')
 (hch:∀b∈ch,(b∈X.ex\/X.s₀.heap.objs.size<=b)/\b≠X.env.locals/\(∀x c,X.env.cells.lookup x=some c->c≠b)/\∀p∈X.pn++pins,p.1≠b) :
 Inv X pins σ H' {s with heap:=h',gens:=g',drawn:=d',toks:=t'}:=by
 obtain⟨m,⟨o,es,ep,ho,r⟩,_⟩:=id I.loc;obtain⟨sl,hL⟩:=u.any ho I.free λz=>(hch _ z).2.1 rfl
 exact I.step (ch:=ch) hch (λb o hL hb hc e n=>u.keep b o e n (λz=>(qak.mp (I.jm b z)).elim hL hb) hc) (λb o _ _ hc e n=>u.any e n hc) (λb o hc e n=>u.free b o e n hc) (λb o hc e=>u.there b o e hc) u.tups u.gG u.gU (λm' hm=>by obtain⟨o',es',ep',ho',r'⟩:=hm;rw[ho]at ho';cases ho';exact⟨_,es',ep',hL,r'⟩) hok hg
theorem Inv.turned{t':Nat}{it:Addr}(I:ε)(k:∀b o,b≠it->s.heap.get? b=some o->h'.get? b=some o)(hn:H it=none)(hL:it≠X.env.locals)
 (h1:it∈X.ex\/X.s₀.heap.objs.size<=it) (h2:∀x c,X.env.cells.lookup x=some c->c≠it) (h3:∀p∈X.pn++pins,p.1≠it):Inv X pins σ H {s with heap:=h',toks:=t'}:=by
 have IH:∀b u,H b=some u->b≠it:=λb u e z=>by rw[z,hn]at e;cases e
 refine I.step (g':=s.gens) (d':=s.drawn) (ch:=[it]) (λb hb=>?_) (λb o _ _ hc e _=>k b o (λz=>hc (by simp[z])) e) (λb o _ _ hc e _=>⟨o.slots,k b o (λz=>hc (by simp[z])) e⟩) (λ_ _ _ _ n=>n)
  (λb o hc e=>⟨o,k b o (λz=>hc (by simp[z])) e⟩) (λ_ _ e=>e) (λ_ _ _ e=>e) (λb ps e=>⟨#[],by rw[e];simp⟩) (λm hm=>?_) (λb u e=>?_) I.bare
 .have e:b=it:=by simpa using hb
  subst e;exact⟨h1,hL,h2,h3⟩
 .obtain⟨o,es,ep,ho,r⟩:=hm;exact⟨o,es,ep,k _ o (qaR hL) ho,r⟩
 .refine(I.hok b u e).stay (λc v hc q=>k c v ?_ q) (λ_ q=>q) λ_ _ q=>q;rcases hc with z|z
  .rw[z];exact IH b u e
  .exact IH c _ z
theorem Inv.tok(I:ε)(t:Nat):Inv X pins σ H {s with toks:=t}:=I.un (h':=s.heap) (t':=t) Un.refl I.hok
theorem Inv.kept(I:ε)(k:∀b u,s.heap.get? b=some u->h'.get? b=some u):Inv X pins σ H {s with heap:=h',toks:=t'}:=I.un (Un.kept k) (I.hok.kept k)
theorem Inv.laid{a:Addr}{o:HO}{t':Nat}(I:ε)(k:∀b u,s.heap.get? b=some u->h'.get? b=some u)(hp:s.heap.objs.size<=a)(new:aJ X.prog X.w ζp h' a o) :
 Inv X pins σ ζp {s with heap:=h',toks:=t'}:=I.un (Un.laid k hp (I.hok.fresh hp)) (I.hok.laid k hp new)
theorem Inv.write(I:ε)(mu:Av (H x))(he:e=x\/H e=some (.own x))(k:∀b u,b≠e->s.heap.get? b=some u->h'.get? b=some u)(heo:∃u,h'.get? e=some u)
 (new:aJ X.prog X.w (upd H x o) h' x o):Inv X pins σ (upd H x o) {s with heap:=h',toks:=t'}:=I.un (Un.write mu he k heo) (I.hok.write mu he k heo new)
theorem Inv.weak{aB:θP}(I:ε)(hl:aB.length=σ.length)(w:∀(i:Nat) v,aB[i]?=some δQ->σ[i]?=some δQ):Inv X pins aB H s:=
 ⟨I.ok,I.os,I.bare,I.base,let ⟨m,hn,hl'⟩:=I.loc; ⟨m,hn,λi x v e1 e2 e3=>hl' i x v e1 (w i v e2) e3⟩,I.cell,I.free,I.bX,I.pin,I.hok,hl.trans I.len⟩
theorem Inv.gO(I:ε)(h:∀p∈jT,s.heap.get? p.1=some p.2/\H p.1=none/\p.1≠X.env.locals/\p.1∉X.fs/\∀v,p.2.data≠.cell v):Inv X jT σ H s:=
 ⟨I.ok,I.os,I.bare,I.base,I.loc,I.cell,I.free,I.bX,λp hp=>(qaH.mp hp).elim (λz=>I.pin p (qaT _ z)) (h p),I.hok,I.len⟩
theorem CS{N:v6}(hN:N.Nodup){i j:Nat}{x:Str}(a:N[i]?=some x)(b:N[j]?=some x):i=j:=by obtain⟨h1,e1⟩:=qad.mp a;obtain⟨h2,e2⟩:=qad.mp b;exact(List.getElem_inj hN).mp (e1.trans e2.symm)
theorem Qu{M:Model}{A:Around}{E:T0}{i:Nat}{x:Str}{v:V}{u:Value}{Q:Unit->Shared->Prop}(I:ε)(hN:X.N.Nodup)(hi:X.N[i]?=some x)(hx:εa)(r:RelV v u)
 (h:∀s',Inv X pins (σ.set i δQ) H s'->(∃a,Heap.SameBut a s.heap s'.heap/\(a=X.env.locals\/X.env.cells.lookup x=some a))->Q () s') (hf:X.fn x=true\/X.env.scope.names.lookup x=some .local:=by first|exact .inl rfl|exact .inr rfl|assumption):wpAny M A (storeName X.env x u) Q E s:=by
 obtain⟨m,hn,hl⟩:=id I.loc;have hcls:(X.env.scope.kind == .class || (X.env.scope.kind == .module&&X.env.locals != X.env.globals))=false:=by rw[I.ok.kind];rfl
 have qt:i<σ.length:=by rw[I.len];exact(qad.mp hi).1
 have n6:=I.n6
 have tracked:∀{a:Addr}{h':Heap},(∃o,s.heap.get? a=some o/\H a=none)->Heap.SameBut a s.heap h'->dJ X.prog X.w H h':=λ{a h'} ha hs b ob e=>by
  obtain⟨_,_,hfree⟩:=ha;refine(I.hok b ob e).stay (λc w' hc q=>(hs.2 c ?_).trans q) (λ_ q=>q) λ_ _ q=>q;rintro rfl;rcases hc with rfl|hc
  .rw[hfree]at e;cases e
  .rw[hfree]at hc;cases hc
 rcases hx with hk|hk
 .refine wpAny_storeName_local hk hn (λh' hn' hs=>?_) hcls;obtain⟨oL,_,_,hoL,_⟩:=id hn;refine h _ ⟨I.ok,I.os,I.bare,⟨λb o e n hb hx=>?_,λb o e n hb hx=>?_,I.base.free,λb o e hx=>?_,I.base.tups,I.base.gG,I.base.gU⟩,⟨_,hn',λj y v' e1 e2 e3=>?_⟩,λy c e=>?_,I.free,I.bX,λp hp=>?_,tracked ⟨oL,hoL,I.free⟩ hs,by simpa using I.len⟩ ⟨_,hs,.inl rfl⟩
  .exact(hs.2 b γ6).trans εD
  .obtain⟨sl,e1⟩:=I.base.slot b o e n hb hx;exact⟨sl,(hs.2 b γ6).trans e1⟩
  .obtain⟨o',e1⟩:=I.base.there b o e hx;exact⟨o',(hs.2 b γ6).trans e1⟩
  .by_cases hj:j=i
   .subst hj;rw[hi]at e1;cases e1;rw[qap qt]at e2;cases e2;exact⟨u,r,.inl ⟨hk,by simp⟩⟩
   .rw[qaj ζB]at e2;obtain⟨u',r',q⟩:=hl j y v' e1 e2 e3;refine⟨u',r',?_⟩;rcases q with ⟨k,e⟩|⟨k,c,e,z⟩
    .refine .inl ⟨k,?_⟩;have:y≠x:=λe=>hj (CS hN e1 (e ▸ hi));simp[this,e]
    .exact .inr ⟨k,c,e,z.sameBut hs (n6 y c e)⟩
  .obtain⟨w',z⟩:=I.cell y c e;exact⟨w',z.sameBut hs (n6 y c e)⟩
  .obtain⟨e,n,ne,nf,d⟩:=I.pin p hp;exact⟨(hs.2 p.1 ne).trans e,n,ne,nf,d⟩
 .have hfn:X.fn x=true:=by
   rcases hf with z|z
   .exact z
   .rw[z]at hk;cases hk
  obtain⟨c,hc⟩:=I.ok.has x (.inl hk)
  obtain⟨w',z⟩:=I.cell x c hc
  refine wpAny_storeName_cell I.ok.kind hk hc z (λh' hc' hs=>?_)
  obtain⟨oc,hoc,CT⟩:=id z
  refine h {s with heap:=h'} ⟨I.ok,I.os,I.bare,⟨λb o e n hb hx=>?_,λb o e n hb hx=>?_,I.base.free,λb o e hx=>?_,I.base.tups,I.base.gG,I.base.gU⟩,⟨m,hn.sameBut hs (qaR (n6 x c hc)),λj y v' e1 e2 e3=>?_⟩,λy c' e=>?_,I.free,I.bX,λp hp=>?_,tracked ⟨oc,hoc,I.bX x c hc⟩ hs,by simpa using I.len⟩ ⟨c,hs,.inr hc⟩
  .exact(hs.2 b εs).trans εD
  .obtain⟨sl,e1⟩:=I.base.slot b o e n hb hx
   exact⟨sl,(hs.2 b εs).trans e1⟩
  .obtain⟨o',e1⟩:=I.base.there b o e hx
   exact⟨o',(hs.2 b εs).trans e1⟩
  .by_cases hj:j=i
   .subst hj
    rw[hi]at e1;cases e1
    rw[qap qt]at e2
    cases e2
    exact⟨u,r,.inr ⟨.inl hk,c,hc,hc'⟩⟩
   .rw[qaj ζB]at e2
    obtain⟨u',r',q⟩:=hl j y v' e1 e2 e3
    refine⟨u',r',?_⟩
    rcases q with q|⟨k,c',e,z'⟩
    .exact .inl q
    .refine .inr ⟨k,c',e,z'.sameBut hs ?_⟩
     rintro rfl
     exact hj (CS hN e1 (I.ok.inj _ _ _ e hc ▸ hi))
  .by_cases hcc:c'=c
   .subst hcc;exact⟨_,hc'⟩
   .obtain⟨w2,z2⟩:=I.cell y c' e
    exact⟨w2,z2.sameBut hs hcc⟩
  .obtain⟨e,n,ne,nf,d⟩:=I.pin p hp
   refine⟨(hs.2 p.1 ?_).trans e,n,ne,nf,d⟩
   intro q
   rw[q,hoc]at e
   have q':oc=p.2:=qaQ e
   exact d w' (by rw[<-q'];exact CT)
theorem uQ(I:ε)(hN:X.N.Nodup)(hi:X.N[i]?=some x)(hx:εa)(r:RelV v u)
 (h:∀s',Inv X pins (σ.set i δQ) H s'->Q () s') (hf:X.fn x=true\/X.env.scope.names.lookup x=some .local:=by first|exact .inl rfl|exact .inr rfl|assumption):wpAny M A (storeName X.env x u) Q E s:=
 Qu I hN hi hx r (λs' I' _=>h s' I') hf
theorem Inv.n8{s':Shared}(I:ε)(ho:s'.os=s.os)(u:Un (frs X.stack) ch H H' s.heap s'.heap)(hok:dJ X.prog X.w H' s'.heap)(hg:AllBare s'.gens)
 (hch:∀b∈ch,(b∈X.ex\/X.s₀.heap.objs.size<=b)/\b≠X.env.locals/\(∀x c,X.env.cells.lookup x=some c->c≠b)/\∀p∈X.pn++pins,p.1≠b):Inv X pins σ H' s':=by obtain⟨h',g',d',t',o'⟩:=s';have e:o'=s.os:=ho;subst e;exact I.call (g':=g') (t':=t') (d':=d') u hok hg hch
end
abbrev XK:=Value->Option Addr->Hp->Prop
noncomputable abbrev St:=List (Option V)
abbrev VK:=V->Hp->Prop
abbrev TE:=St->Hp->VK->Prop
abbrev TT:=St->Hp->(Bool->Hp->Prop)->Prop
abbrev TA:=St->Hp->(List V->Hp->Prop)->Prop
structure Ends where
 nx:St->Hp->Prop
 rt:VK
 bk:St->Hp->Prop:=λ_ _=>False
 ct:St->Hp->Prop:=λ_ _=>False
abbrev TS:=Ends->St->Hp->Prop
def EP(X:Cx)(pins:W1)(σ:St)(Q:VK)(u:Value)(s':Shared):Prop:=∃v H',Inv X pins σ H' s'/\RelV v u/\Q v H'
def TP(X:Cx)(pins:W1)(σ:St)(Q:Bool->Hp->Prop)(b:Bool)(s':Shared):Prop:=∃H',Inv X pins σ H' s'/\Q b H'
def AP(X:Cx)(pins:W1)(σ:St)(Q:List V->Hp->Prop)(us:v4)(s':Shared):Prop:=∃vs H',Inv X pins σ H' s'/\Vals vs us/\Q vs H'
def SP(X:Cx)(pins:W1)(D:Ends)(f:Flow)(s':Shared):Prop:=
 match f with
 |.next=>∃aB H',Inv X pins aB H' s'/\D.nx aB H'
 |.brk=>∃aB H',Inv X pins aB H' s'/\D.bk aB H'
 |.cont=>∃aB H',Inv X pins aB H' s'/\D.ct aB H'
 |.ret u=>∃v aB H',Inv X pins aB H' s'/\RelV v u/\D.rt v H'
def PE(X:Cx)(e:Expr)(t:TE):Prop:=
 ∀(pins:W1) (s:Shared) (σ:St) (H:Hp) (Q:VK),Inv X pins σ H s->t σ H Q->wpAny δ X.A εO γL X.xe s
def PT(X:Cx)(e:Expr)(t:TT):Prop:=
 ∀(pins:W1) (s:Shared) (σ:St) (H:Hp) (Q:Bool->Hp->Prop),Inv X pins σ H s->t σ H Q->wpAny δ X.A (isTrue e X.env εO) (TP X pins σ Q) X.xe s
def PW(X:Cx)(e:Expr)(t:TT):Prop:=
 ∀(whole:Sem Value) (pins:W1) (s:Shared) (σ:St) (H:Hp) (Q:Bool->Hp->Prop),Inv X pins σ H s->t σ H Q->wpAny δ X.A (isTrue e X.env whole) (TP X pins σ Q) X.xe s
theorem PW.pt(h:PW X e t):PT X e t:=h _
def PA(X:Cx)(es:zza)(t:TA):Prop:=
 ∀(pos:Pos) (pins:W1) (s:Shared) (σ:St) (H:Hp) (Q:List V->Hp->Prop),Inv X pins σ H s->t σ H Q->wpAny δ X.A (spliced (backTo pos γc)) (AP X pins σ Q) X.xe s
def PS(X:Cx)(st:Stmt)(t:TS):Prop:=
 ∀(pins:W1) (s:Shared) (σ:St) (H:Hp) (D:Ends),Inv X pins σ H s->t D σ H->wpAny δ X.A (exec st X.env) (SP X pins D) X.xe s
def PSs(X:Cx)(st:εb)(t:TS):Prop:=
 ∀(pins:W1) (s:Shared) (σ:St) (H:Hp) (D:Ends),Inv X pins σ H s->t D σ H->wpAny δ X.A (execs st X.env) (SP X pins D) X.xe s
theorem aK{α:Type}{t:Sem α}{Q Q':α->Shared->Prop}(h:wpAny M A t Q E s)(hQ:∀a s,Q a s->Q' a s):wpAny M A t Q' E s:=qaS h hQ λ_ _ x=>x
section
variable{X:Cx}
def uR(i:Nat):TE:=λσ H Q=>∃v,σ[i]?=some δQ/\Q v H
def tC(v:V):TE:=λ_ H Q=>Q v H
theorem II{i:Nat}{x:Str}{pos:Pos}(hN:X.N[i]?=some x)(hv:wR X.env.scope x)(hd:(x == ("__debug__":Str))=false:=by decide)(hcd:(x == ("__classdict__":Str))=false:=by decide):PE X εh (uR i):=by
 intro pins s σ H Q I h;obtain⟨v,e,h⟩:=h;obtain⟨m,hn,hl⟩:=I.loc;obtain⟨u,r,l⟩:=hl i x v hN e hv;have fin:EP X pins σ Q u s:=⟨v,H,I,r,h⟩;rcases l with ⟨hk,hm⟩|⟨hk,c,hc,hcell⟩
 .exact wpAny_Name (wpAny_loadName_local I.ok.kind hk hn hm fin) hd
 .rcases hk with hk|hk
  .exact wpAny_Name (wpAny_loadName_cell I.ok.kind hk hc hcell fin) hd
  .exact wpAny_Name (wpAny_loadName_free I.ok.kind hk hc hcell fin hcd) hd
theorem Ay{i j pos}:PE X (.Constant γT j pos) (tC γT):=λ_ _ _ H _ I h=>wpAny_Constant_int ⟨.int i,H,I.tok _,⟨_,rfl⟩,h⟩
theorem Qv{b j pos}:PE X (.Constant (.bool b) j pos) (tC ε2):=λ_ _ _ H _ I h=>Constant_bool ⟨.bl b,H,I,rfl,h⟩
theorem Qw{j pos}:PE X (.Constant .none j pos) (tC .ax):=λ_ _ _ H _ I h=>Constant_none ⟨.ax,H,I,rfl,h⟩
theorem IJ{x j pos}:PE X (.Constant θG j pos) (tC θG):=λ_ _ _ H _ I h=>Calls.Constant_str ⟨.str x,H,I.tok _,⟨_,rfl⟩,h⟩
noncomputable def Gl(X:Cx)(x:Str):Prop:=X.env.kindOf x=some .globalImplicit
theorem uS{E:T0}{pins:W1}{s:Shared}{σ:St}{H:Hp}{x:Str}{u:Value}{pos:Pos}{Q:T0}(I:ε)(hg:ζD)(hm:X.mg x=some u)(h:Q u s)
 (hd:(x == ("__debug__":Str))=false:=by decide):wpAny δ X.A (eval εh X.env) Q E s:=
 Calls.Name_function_global I.ok.kind hg (Calls.loadGlobal_global (by rw[I.ok.glob];exact I.mod.glob.keeps I.bk) hm h) hd
theorem sV{E:T0}{pins:W1}{s:Shared}{σ:St}{H:Hp}{x:Str}{u:Value}{pos:Pos}{Q:T0}(I:ε)(hg:ζD)(hm:X.mg x=none)(hv:bootBuiltins x=some u)(h:Q u s)
 (hn:x≠"__name__":= by decide) (hd:(x == ("__debug__":Str))=false:=by decide):wpAny δ X.A (eval εh X.env) Q E s:=by obtain⟨mb,h1,h2⟩:=I.mod.blt;exact Calls.Name_function_global I.ok.kind hg (Calls.loadGlobal_builtin (by rw[I.ok.glob];exact I.mod.glob.keeps I.bk) hm (by rw[I.ok.blt];exact h1.keeps I.bk) ((h2 x hn).trans hv) h) hd
theorem IK(hg:ζD)(hm:X.mg x=some u)(r:RelV v u)(hd:(x == ("__debug__":Str))=false:=by decide):PE X εh (tC v):=
 λ_ _ _ H _ I h=>uS I hg hm ⟨v,H,I,r,h⟩ hd
theorem wV{x:Str}{v:V}{u:Value}{pos:Pos}(hg:ζD)(hm:X.mg x=none)(hv:bootBuiltins x=some u)(r:RelV v u)(hn:x≠"__name__":= by decide)(hd:(x == ("__debug__":Str))=false:=by decide):PE X εh (tC v):=
 λ_ _ _ H _ I h=>sV I hg hm hv ⟨v,H,I,r,h⟩ hn hd
variable{a b:Expr}{ta tb:TE}{pos:Pos}
def tB(t:TE):TT:=λσ H Q=>t σ H λx H1=>∃c,x=.bl c/\Q c H1
theorem Qx(h:PE X e t)(he:∀whole,isTrue e X.env whole=(do let v <-whole;standAt e.pos;holding [v] (truthy v)):=by intro _;rfl):PT X e (tB t):=by intro pins s σ H Q I hw;refine isTrue_plain (aK (h pins s σ H _ I hw) λv s1 zq=>?_) (he _);obtain⟨x,H1,I1,r1,q1⟩:=zq;obtain⟨d,rfl,q⟩:=q1;cases r1;exact qbn ⟨H1,I1,q⟩
variable{tA Az:TT}{rest:zza}
def IL(t u:TT):TT:=λσ H Q=>t σ H λc H1=>if c=true then u σ H1 Q else Q false H1
def IM(t u:TT):TT:=λσ H Q=>t σ H λc H1=>if c=true then Q true H1 else u σ H1 Q
def IP(t:TT):TT:=λσ H Q=>t σ H λc H1=>Q (!c) H1
theorem Qy(ha:PT X a tA):PW X (.BoolOp .And [a] pos) tA:=by
 intro wh pins s σ H Q I h;refine isTrue_and (aK (ha pins s σ H Q I h) λc s1 e=>?_);cases c with
 |true=>exact isTrue_and_nil e
 |false=>exact e
theorem Qz(ha:PT X a tA):PW X (.BoolOp .Or [a] pos) tA:=by
 intro wh pins s σ H Q I h;refine isTrue_or (aK (ha pins s σ H Q I h) λc s1 e=>?_);cases c with
 |false=>exact isTrue_or_nil e
 |true=>exact e
theorem QA(ha:PT X a tA)(hb:PW X (.BoolOp .And (b::rest) pos) Az):PW X (.BoolOp .And (a::b::rest) pos) (IL tA Az):=by
 intro wh pins s σ H Q I h;refine isTrue_and (aK γG λc s1 zq=>?_);obtain⟨H1,I1,q1⟩:=zq;cases c with
 |true=>exact hb wh pins s1 σ H1 Q I1 q1
 |false=>exact⟨H1,I1,q1⟩
theorem QB(ha:PT X a tA)(hb:PW X (.BoolOp .Or (b::rest) pos) Az):PW X (.BoolOp .Or (a::b::rest) pos) (IM tA Az):=by
 intro wh pins s σ H Q I h;refine isTrue_or (aK γG λc s1 zq=>?_);obtain⟨H1,I1,q1⟩:=zq;cases c with
 |true=>exact⟨H1,I1,q1⟩
 |false=>exact hb wh pins s1 σ H1 Q I1 q1
theorem QC(ha:PT X a tA):PT X ζM (IP tA):=by intro pins s σ H Q I h;exact isTrue_not (ha pins s σ H (λc H1=>Q (!c) H1) I h)
def QD(ta tb:TE):TE:=λσ H Q=>ta σ H λx H1=>∃c,x=.bl c/\if c=true then tb σ H1 Q else Q ζy H1
def QE(ta tb:TE):TE:=λσ H Q=>ta σ H λx H1=>∃c,x=.bl c/\if c=true then Q θJ H1 else tb σ H1 Q
def QF(ta:TE):TE:=λσ H Q=>ta σ H λx H1=>∃c,x=.bl c/\Q (.bl (!c)) H1
theorem QG{op}(h:PE X a t):PE X (.BoolOp op [a] pos) t:=λpins s σ H Q I hw=>BoolOp_one (h pins s σ H Q I hw)
theorem QH(ha:ε1)(hb:PE X (.BoolOp .And (b::rest) pos) tb):PE X (.BoolOp .And (a::b::rest) pos) (QD ta tb):=by
 intro pins s σ H Q I h;refine BoolOp_and (aK γG λv s1 zq=>?_);obtain⟨x,H1,I1,r1,q1⟩:=zq;obtain⟨c,rfl,q1⟩:=q1;cases r1;refine qbn ?_;cases c with
 |true=>exact hb pins s1 σ H1 Q I1 q1
 |false=>exact⟨.bl false,H1,I1,rfl,q1⟩
theorem QI(ha:ε1)(hb:PE X (.BoolOp .Or (b::rest) pos) tb):PE X (.BoolOp .Or (a::b::rest) pos) (QE ta tb):=by
 intro pins s σ H Q I h;refine BoolOp_or (aK γG λv s1 zq=>?_);obtain⟨x,H1,I1,r1,q1⟩:=zq;obtain⟨c,rfl,q1⟩:=q1;cases r1;refine qbn ?_;cases c with
 |false=>exact hb pins s1 σ H1 Q I1 q1
 |true=>exact⟨.bl true,H1,I1,rfl,q1⟩
theorem QJ(ha:ε1):PE X ζM (QF ta):=by intro pins s σ H Q I h;refine UnaryOp_ (aK γG λv s1 zq=>?_);obtain⟨x,H1,I1,r1,q1⟩:=zq;obtain⟨c,rfl,q1⟩:=q1;cases r1;exact not_of (qbn ⟨.bl (!c),H1,I1,rfl,q1⟩)
def QK(t:TT)(ta tb:TE):TE:=λσ H Q=>t σ H λc H1=>if c=true then ta σ H1 Q else tb σ H1 Q
theorem QL(hc:PT X c tA)(ha:ε1)(hb:η0):PE X (.IfExp c a b pos) (QK tA ta tb):=by
 intro pins s σ H Q I h;refine wpAny_IfExp (aK (hc pins s σ H _ I h) λd s1 zq=>?_);obtain⟨H1,I1,q1⟩:=zq;cases d with
 |true=>exact ha pins s1 σ H1 Q I1 q1
 |false=>exact hb pins s1 σ H1 Q I1 q1
end
def b8(K:zze)(H:Hp)(a:Addr)(xs:γB):Prop:=
 Rd H a γo \/
  ∃(o:Obj) (its:zzh) (n:Nat),K.lookup a=some o/\o.cls=.type "list" /\ o.dict=none/\o.data=.seq its n/\its.size<=sizeLine/\Vals xs its.toList
def iw(K:zze)(H:Hp)(a:Addr)(xs:γB):Prop:=
 Rd H a γN \/
  ∃(o:Obj) (its:zzh) (n:Nat),K.lookup a=some o/\o.cls=.type "tuple" /\ o.data=.seq its n/\its.size<=sizeLine/\Vals xs its.toList
noncomputable def QM:Value->Option V
 |.none=>some .ax
 |.bool b=>some ε2
 |.int i _=>some γT
 |.str x _=>some θG
 |.bytes b _=>some (.nG b)
 |.float b _=>some (.flt b)
 |.ref a=>some γC
 |.type n=>some (.ty n)
 |_=>none
theorem RelV.abs(r:RelV x u):QM u=some x:=by
 cases x with
 |ax=>cases r;rfl
 |bl _=>cases r;rfl
 |int _=>obtain⟨t,rfl⟩:=r;rfl
 |str _=>obtain⟨t,rfl⟩:=r;rfl
 |nG _=>obtain⟨t,rfl⟩:=r;rfl
 |flt _=>obtain⟨t,rfl⟩:=r;rfl
 |ref _=>cases r;rfl
 |ty _=>cases r;rfl
theorem RelV.inj(r:RelV x u)(q:RelV y u):x=y:=qaQ (r.abs.symm.trans q.abs)
theorem Vals.inj(h:ε4)(h':Vals ys us):xs=ys:=by
 induction h generalizing ys with
 |nil=>cases h';rfl
 |cons r t ih=>cases h' with|cons r' t'=>rw[r.inj r',ih t']
section
variable{X:Cx}{pins:W1}{σ:St}{H:Hp}{s:Shared}{a:Addr}{xs ys:γB}
theorem b8.of{K:zze}(h:H a=some γo):b8 K H a xs:=.inl (.inl h)
theorem iw.of{K:zze}(h:H a=some γN):iw K H a xs:=.inl (.inl h)
theorem Inv.list(I:ε)(h:b8 X.K H a xs):∃its:v4,Vals xs its/\PlainL s.heap a its.toArray/\xs.length<=sizeLine:=by
 rcases h with h|⟨o,its,n,hk,hc,hd,hs,hz,r⟩
 .obtain⟨z,its,n,r,e⟩:=h.ok I.hok;exact⟨its,r,⟨_,n,e,rfl,rfl,rfl⟩,z⟩
 .refine⟨its.toList,r,⟨o,n,I.bV a o hk,hc,hd,by simpa using hs⟩,?_⟩;have e:=r.length;simp only[Array.length_toList]at e;omega
theorem Inv.tuple(I:ε)(h:iw X.K H a xs):∃its:v4,Vals xs its/\IsTup s.heap a its.toArray/\xs.length<=sizeLine:=by
 rcases h with h|⟨o,its,n,hk,hc,hs,hz,r⟩
 .obtain⟨z,its,r,p⟩:=h.ok I.hok;exact⟨its,r,p,z⟩
 .refine⟨its.toList,r,⟨o,I.bV a o hk,hc,n,by simpa using hs⟩,?_⟩;have e:=r.length;simp only[Array.length_toList]at e;omega
theorem Inv.n9(I:ε)(h:b8 X.K H a xs)(h':b8 X.K H a ys):xs=ys:=by
 obtain⟨its,r,⟨o,n,e,_,_,d⟩,_⟩:=I.list h;obtain⟨its',r',⟨o',n',e',_,_,d'⟩,_⟩:=I.list h';rw[e]at e';cases e';rw[d]at d';injection d' with d1 _
 have:its=its':=by simpa using congrArg Array.toList d1
 subst this;exact r.inj r'
end
noncomputable abbrev Cx.iH(X:Cx)(E:T0):Cx:={X with xe:=E}
abbrev Cx.qu(X:Cx):Cx:=X.iH λ_ _=>False
theorem Cx.Ok.iH{X:Cx}(ok:X.Ok)(E:T0):(X.iH E).Ok:=
 ⟨ok.mod,ok.kind,ok.glob,ok.blt,ok.above,ok.inj,ok.has,ok.cab,ok.hd,ok.frames,ok.ro,ok.rq,ok.bs,ok.l7,ok.jj,ok.jk,ok.eD,ok.n5⟩
theorem Cx.Ok.dS{X:Cx}(ok:(X.iH E).Ok):X.Ok:=
 ⟨ok.mod,ok.kind,ok.glob,ok.blt,ok.above,ok.inj,ok.has,ok.cab,ok.hd,ok.frames,ok.ro,ok.rq,ok.bs,ok.l7,ok.jj,ok.jk,ok.eD,ok.n5⟩
section
variable{X:Cx}{pins:W1}{σ:St}{H:Hp}{s:Shared}{E:T0}
theorem Inv.iH(I:ε)(E:T0):Inv (X.iH E) pins σ H s:=⟨I.ok.iH E,I.os,I.bare,I.base,I.loc,I.cell,I.free,I.bX,I.pin,I.hok,I.len⟩
theorem Inv.dS(I:Inv (X.iH E) pins σ H s):Inv X pins σ H s:=⟨I.ok.dS,I.os,I.bare,I.base,I.loc,I.cell,I.free,I.bX,I.pin,I.hok,I.len⟩
theorem SP.dS(h:SP (X.iH E) pins D f s'):SP X pins D f s':=by
 cases f with
 |next=>obtain⟨aB,H',I,q⟩:=h;exact⟨aB,H',I.dS,q⟩
 |brk=>obtain⟨aB,H',I,q⟩:=h;exact⟨aB,H',I.dS,q⟩
 |cont=>obtain⟨aB,H',I,q⟩:=h;exact⟨aB,H',I.dS,q⟩
 |ret u=>obtain⟨v,aB,H',I,r,q⟩:=h;exact⟨v,aB,H',I.dS,r,q⟩
theorem PSs.qu{st:εb}{t:TS}(h:PSs X.qu st t):PSs X st t:=λpins s σ H D I hw =>
 qaS (h pins s σ H D (I.iH _) hw) (λ_ _ q=>q.dS) λ_ _ z=>False.elim z
end
section
variable{X:Cx}{st:Stmt}{rest:εb}{t u:TS}{e:Expr}{te:TE}{pos:Pos}
def QN:TS:=λD σ H=>D.nx σ H
def QO(t u:TS):TS:=λD σ H=>t {D with nx:=u D} σ H
theorem IQ:PSs X [] QN:=λ_ _ σ H _ I h=>wpAny_execs_nil ⟨σ,H,I,h⟩
theorem wW(h1:PS X st t)(h2:PSs X rest u):PSs X (st::rest) (QO t u):=by
 intro pins s σ H D I h;refine wpAny_execs_cons (aK (h1 pins s σ H {D with nx:=u D} I h) λf s1 q=>?_);cases f with
 |next =>
   obtain⟨aB,H',I',q⟩:=q;exact h2 pins s1 aB H' D I' q
 |ret v=>exact q
 |brk=>exact q
 |cont=>exact q
theorem wX(h1:PS X st t):PSs X [st] t:=by
 intro pins s σ H D I h;refine wpAny_execs_cons (aK (h1 pins s σ H D I h) λf s1 q=>?_);cases f with
 |next=>exact wpAny_execs_nil q
 |ret v=>exact q
 |brk=>exact q
 |cont=>exact q
def QP:TS:=λD σ H=>D.bk σ H
def QR:TS:=λD σ H=>D.ct σ H
theorem QS:PS X (.Break pos) QP:=λ_ _ σ H _ I h=>wpAny_Break ⟨σ,H,I,h⟩
theorem QT:PS X (.Continue pos) QR:=λ_ _ σ H _ I h=>wpAny_Continue ⟨σ,H,I,h⟩
theorem Inv.quiet{pins:W1}{σ:St}{H:Hp}{s:Shared}(I:ε):interactive X.env=false:=by simp[interactive,I.ok.kind]
def QU(te:TE):TS:=λD σ H=>te σ H λ_ H1=>D.nx σ H1
theorem CU(he:ζO)(hs:swapsWith e none pos.line X.env=pure false:=by rfl):PS X (.Expr e pos) (QU te):=by intro pins s σ H D I h;exact wpAny_Expr_any (aK γF λv s1 ⟨x,H1,I1,r1,q1⟩=>⟨σ,H1,I1,q1⟩) I.quiet hs
def QV(te:TE):TS:=λD σ H=>te σ H D.rt
theorem IS(he:ζO):PS X (.Return εQ pos) (QV te):=by intro pins s σ H D I h;exact wpAny_Return_some (aK γF λv s1 ⟨x,H1,I1,r1,q1⟩=>⟨x,σ,H1,I1,r1,q1⟩)
def QW(c:TT)(t u:TS):TS:=λD σ H=>c σ H λb H1=>if b=true then t D σ H1 else u D σ H1
theorem IT(hc:PT X c tc)(ha:PSs X a t)(hb:PSs X b u):PS X (.If c a b pos) (QW tc t u):=by
 intro pins s σ H D I h;refine wpAny_If (aK (hc pins s σ H _ I h) λd s1 zq=>?_);obtain⟨H1,I1,q1⟩:=zq;cases d with
 |true=>exact ha pins s1 σ H1 D I1 q1
 |false=>exact hb pins s1 σ H1 D I1 q1
def QX:TS:=λ_ _ _=>False
theorem QY:PS X st QX:=λ_ _ _ _ _ _ h=>h.elim
end
abbrev TG:=V->St->Hp->(St->Hp->Prop)->Prop
abbrev pS:=List V->St->Hp->(St->Hp->Prop)->Prop
def PG(X:Cx)(target:Expr)(t:TG):Prop:=
 ∀(pins:W1) (s:Shared) (σ:St) (H:Hp) (v:V) (u:Value) (Q:St->Hp->Prop),Inv X pins σ H s->RelV v u->t v σ H Q ->
  wpAny δ X.A (assign target X.env u) (λ_ s'=>∃aB H',Inv X pins aB H' s'/\Q aB H') X.xe s
def PGs(X:Cx)(ts:zza)(t:pS):Prop:=
 ∀(pins:W1) (s:Shared) (σ:St) (H:Hp) (vs:γB) (us:v4) (Q:St->Hp->Prop),Inv X pins σ H s->Vals vs us->t vs σ H Q ->
  wpAny δ X.A (assignInOrder ((assignEach ts X.env).map (·.2)) us) (λ_ s'=>∃aB H',Inv X pins aB H' s'/\Q aB H') X.xe s
section
variable{X:Cx}{pos:Pos}
def kW(i:Nat):TG:=λv σ H Q=>Q (σ.set i δQ) H
theorem b9(hN:X.N.Nodup)(hi:X.N[i]?=some x)(hx:εa)(hf:X.fn x=true\/X.env.scope.names.lookup x=some .local:=by first|exact .inl rfl|exact .inr rfl|assumption):PG X εh (kW i):=by intro pins s σ H v u Q I r h;exact wpAny_assign_Name (uQ I hN hi hx r (λs' I'=>⟨_,H,I',h⟩) hf)
def wY:pS:=λvs σ H Q=>vs=[]/\Q σ H
def sW(t:TG)(u:pS):pS:=λvs σ H Q=>∃v r,vs=v::r/\t v σ H λaB H'=>u r aB H' Q
theorem jn:PGs X [] wY:=by intro pins s σ H vs us Q I r h;obtain⟨e,h⟩:=h;subst e;cases r;exact assignInOrder_nil ⟨σ,H,I,h⟩
theorem dB(h1:PG X e t)(h2:PGs X es u)
 (hs:(assignEach (e::es) X.env).map (·.2)=assign e X.env::(assignEach es X.env).map (·.2):=by rfl):PGs X (e::es) (sW t u):=by
 intro pins s σ H vs us Q I r h;obtain⟨v,vr,e1,h⟩:=h;subst e1;cases r with
 |cons r rr =>
   rw[hs];refine assignInOrder_cons (aK (h1 pins s σ H _ _ _ I r h) λ_ s1 zq=>?_);obtain⟨cR,H1,I1,q1⟩:=zq;exact h2 pins s1 cR H1 _ _ Q I1 rr q1
def wZ(K:zze)(n:Nat)(t:pS):TG:=λv σ H Q=>∃a xs,v=.ref a/\iw K H a xs/\xs.length=n/\t xs σ H Q
theorem jo{es:zza}{k:Nat}{t:pS}{n:Nat}(hc:X.calm=true)(h:PGs X es t)
 (hn:(assignEach es X.env).length=n:=by rfl) (hst:(assignEach es X.env).findIdx? (·.1)=none:=by rfl):PG X (.Tuple es k pos) (wZ X.K n t):=by intro pins s σ H v u Q I r hw;obtain⟨a,xs,e1,hq,hl,hw⟩:=hw;subst e1;cases r;obtain⟨its,rv,ht,hz⟩:=I.tuple hq;refine assign_Tuple_tuple δT ht (by simp[hn,<-hl,rv.length]) hst λh' hx=>?_;have I1:Inv X pins σ H {s with heap:=h'}:=I.kept (t':=s.toks) λb o e=>hx b o (qal ζ1) e;exact h pins _ σ H xs _ Q I1 (by simpa using rv) hw
def uT(te:TE)(g:TG):TS:=λD σ H=>te σ H λx H1=>g x σ H1 D.nx
theorem uU(he:ζO)(hg:PG X tg g)(hs:swapsWithSole [tg] e pos.line X.env=pure false:=by rfl)(hw:swappedStores [tg] e X.env=pure none:=by rfl)
 (h1:(assignEach [tg] X.env).map (·.2)=[assign tg X.env]:=by rfl):PS X (.Assign [tg] e pos) (uT te g):=by intro pins s σ H D I h;refine wpAny_Assign_stores (aK γF λv s1 zq=>?_) hs hw;obtain⟨x,H1,I1,r1,q1⟩:=zq;rw[h1];exact aK (hg pins s1 σ H1 x v _ I1 r1 q1) λ_ s2 q=>q
theorem IU(hN:X.N.Nodup)(hi:X.N[i]?=some x)(hx:εa)(he:ζO)(hs:swapsWith e ζE pos.line X.env=pure false:=by rfl)(hf:X.fn x=true\/X.env.scope.names.lookup x=some .local:=by first|exact .inl rfl|exact .inr rfl|assumption) :
 PS X (.Assign [.Name x pos'] e pos) (uT te (kW i)):=by intro pins s σ H D I h;refine wpAny_Assign_Name (aK γF λv s1 zq=>?_) hs;obtain⟨y,H1,I1,r1,q1⟩:=zq;exact uQ I1 hN hi hx r1 (λs2 I2=>⟨_,H1,I2,q1⟩) hf
def QZ(i j:Nat)(ta:TA):TS:=λD σ H=>ta σ H λvs H1=>∃v w,vs=[v,w]/\D.nx ((σ.set i δQ).set j (some w)) H1
theorem Q0{kt k2 sX}(hc:X.calm=true)(hN:X.N.Nodup)(hi:X.N[i]?=some x)(hj:X.N[j]?=some y)(hij:i≠j)
 (hx:X.env.scope.names.lookup x=some .local) (hy:X.env.scope.names.lookup y=some .local) (ha:PA X [a,b] ta)
 (hw:swappedStores [.Tuple [.Name x px,.Name y py] kt pt] (.Tuple [a,b] k2 sX) X.env=pure (some [x,y]))
 (hs:swapsWithSole [.Tuple [.Name x px,.Name y py] kt pt] (.Tuple [a,b] k2 sX) pos.line X.env=pure false:=by rfl) :
 PS X (.Assign [.Tuple [.Name x px,.Name y py] kt pt] (.Tuple [a,b] k2 sX) pos) (QZ i j ta):=by
 intro pins s σ H D I h;rw[exec_Assign_arm];refine qaa (qbe ?_);rw[hs];refine qaa (qac ?_);rw[qaC (by decide)];refine qaa (Tuple_ (aK (ha _ pins s σ H _ I h) λus s1 zq=>?_));obtain⟨vs,H1,I1,r1,q1⟩:=zq;obtain⟨v,w,e1,q1⟩:=q1;subst e1
 obtain⟨u1,u2,rfl,rv,rw'⟩:∃u1 u2,us=[u1,u2]/\RelV v u1/\RelV w u2:=by
  cases r1 with
  |cons p q =>
    cases q with
    |cons p' q' =>
      cases q';exact⟨_,_,rfl,p,p'⟩
 refine qaJ ?_ (by show 2<=sizeLine;decide);have I2:Inv X pins σ H1 {s1 with heap:=s1.heap.push {cls:=.type "tuple",data:=.seq [u1,u2].toArray} }:=I1.kept (t':=s1.toks) λb o e=>qab _ e;rw[hw];refine qaa (qac ?_);show wpAny δ X.A (do rule "assign.swapped-stores";let items <-unpackItems (.ref s1.heap.objs.size) 2 none;assignInOrder [λv=>bindName X.env y v,λv=>bindName X.env x v] items.reverse;pure Flow.next) _ _ _;refine qaa (wpAny_rule (qaa (unpackItems_tuple (items:= #[u1,u2]) δT (IsTup.new s1.heap _) λh' hx'=>?_)));have I3:=I2.kept (h':=h') (t':=s1.toks) λb o e=>hx' b o (qal ζ1) e;show wpAny _ _ (assignInOrder [λv=>bindName X.env y v,λv=>bindName X.env x v] [u2,u1] >>= λ_=>pure Flow.next) _ _ _;refine qaa (assignInOrder_cons (wpAny_bindName (uQ I3 hN hj (.inl hy) rw' (λs2 I4=>?_) (.inr hy))));refine assignInOrder_cons (wpAny_bindName (uQ I4 hN hi (.inl hx) rv (λs3 I5=>assignInOrder_nil (qac ?_)) (.inr hx)));rw[List.set_comm _ _ (qaR hij)]at I5;exact⟨_,H1,I5,q1⟩
end
section
variable{X:Cx}{pos:Pos}
def IV(c:TT)(tb:TS):TS:=λD σ H=>∃W:Nat->St->Hp->Prop,(∃m,W m σ H)/\∀m σ H,W m σ H ->
 c σ H λb H1=>if b=true then ∃N:St->Hp->Prop,(∀aB H',N aB H'->∃m',m'<m/\W m' aB H')/\tb {D with nx:=N,ct:=N,bk:=D.nx} σ H1 else D.nx σ H1
theorem Q2(hp:εH)(hc:PT X c tc)(hb:PSs X body tb):PS X (.While c body [] pos) (IV tc tb):=by
 intro pins s σ H D I h;obtain⟨W,⟨m0,w0⟩,turn⟩:=h;refine wpAny_While (codeAny_whileLoop (λn s'=>∃aB H',Inv X pins aB H' s'/\W n aB H') ?_ m0 ⟨σ,H,I,w0⟩);rintro n s1 ⟨cR,H1,I1,w1⟩;refine wpAny_passesOwn hp (aK (hc pins s1 cR H1 _ I1 (turn n cR H1 w1)) λb s2 zq=>?_);obtain⟨H2,I2,q2⟩:=zq;cases b with
 |true =>
   obtain⟨N,hN,q2⟩:=q2;rw[qaF rfl];refine wpAny_passesOwn hp (aK (hb pins s2 cR H2 _ I2 q2) λf s3 q3=>?_);cases f with
   |next =>
     obtain⟨kX,H3,I3,n3⟩:=q3;obtain⟨m',hm,w3⟩:=hN kX H3 n3;exact⟨m',hm,kX,H3,I3,w3⟩
   |cont =>
     obtain⟨kX,H3,I3,n3⟩:=q3;obtain⟨m',hm,w3⟩:=hN kX H3 n3;exact⟨m',hm,kX,H3,I3,w3⟩
   |brk=>exact q3
   |ret v=>exact q3
 |false =>
   rw[qaC qas];exact wpAny_execs_nil ⟨cR,H2,I2,q2⟩
end
structure It where
 go:Nat->Hp->Prop
 sY:Nat->Hp->V->Hp->Prop
 stop:Nat->Hp->Prop
def l9(X:Cx)(pins:W1)(H:Hp)(b:Addr):Prop:=
 H b=none/\b≠X.env.locals/\b∉X.fs/\(b∈X.ex\/X.s₀.heap.objs.size<=b)/\(∀x c,X.env.cells.lookup x=some c->c≠b)/\∀p∈X.pn++pins,p.1≠b
theorem Inv.n_{X:Cx}{pins:W1}{σ:St}{H H':Hp}{s:Shared}{b:Addr}(I:ε)(hb:s.heap.objs.size<=b)(hn:H' b=none):l9 X pins H' b:=by
 refine⟨hn,Nat.ne_of_gt (qar I.lt hb),I.CQ hb,.inr (qaO I.sz hb),λx c e z=>?_,λp hp z=>?_⟩
 .obtain⟨v,q⟩:=I.cell x c e;exact absurd (qar q.lt (by rw[z];exact hb)) θm
 .exact absurd (qar (qai (I.pin p hp).1) (by rw[z];exact hb)) θm
structure Turn(P:Program)(w:World)(K:zze)(tg:Expr)(J:It)(fp:zzd)(it:Addr)(tn:Nat->Heap->Prop):Prop where
 mem:it∈fp
 obj:∀i h,tn i h->∀b∈fp,∃o,h.get? b=some o/\∀v,o.data≠.cell v
 keep:∀i h h',tn i h->(∀b∈fp,∀o,h.get? b=some o->h'.get? b=some o)->tn i h'
 item:∀(X:Cx),X.prog=P->X.w=w->X.K=K->X.calm=true->∀(i:Nat) (pins:W1) (s:Shared) (σ:St) (H:Hp) (E:T0),Inv X pins σ H s->(∀b∈fp,l9 X pins H b)->tn i s.heap->J.go i H ->
  wpAny εY X.A (pyNext ηK) (λr s1=>∃u,r=some u /\
   wpAny εY X.A (letOwnedTupleGo tg ηK u) (λ_ s2=>∃x H',Inv X pins σ H' s2/\RelV x u/\J.sY i H x H'/\tn (i+1) s2.heap/\∀b∈fp,H' b=none) E s1) E s
 done:∀(X:Cx),X.prog=P->X.w=w->X.K=K->X.calm=true->∀(i:Nat) (pins:W1) (s:Shared) (σ:St) (H:Hp) (E:T0),Inv X pins σ H s->(∀b∈fp,l9 X pins H b)->tn i s.heap->J.stop i H ->
  wpAny εY X.A (pyNext ηK) (λr s1=>r=none/\Inv X pins σ H s1) E s
 self:∀(A:Around) (i:Nat) (s:Shared) (Q:T0) (E:T0),tn i s.heap->Q ηK s->wpAny εY A (pyIter ηK) Q E s
abbrev TI:=St->Hp->(It->Hp->Prop)->Prop
def IW(X:Cx)(pins:W1)(σ:St)(tg:Expr)(R:It->Hp->Prop)(itv:Value)(s2:Shared):Prop:=
 ∃(it:Addr) (fp:zzd) (tn:Nat->Heap->Prop) (J:It) (H':Hp),itv=.ref it/\Inv X pins σ H' s2/\Turn X.prog X.w X.K tg J fp it tn/\tn 0 s2.heap/\(∀b∈fp,l9 X pins H' b)/\R J H'
def PI(X:Cx)(tg iter:Expr)(wi:TI):Prop:=
 ∀(pins:W1) (s:Shared) (σ:St) (H:Hp) (R:It->Hp->Prop),Inv X pins σ H s->wi σ H R ->
  wpAny δ X.A ηD (λv s1=>wpAny δ X.A (pyIter v) (IW X pins σ tg R) X.xe s1) X.xe s
theorem CV{s:Shared}(ho:s.heap.get? it=some o)(hc:o.cls=.type n)(hd:o.data=.fields vs)
 (hn:["enumerate","zip","dict_itemiterator","dict_reverseitemiterator","odict_iterator","itertools.zip_longest","itertools.pairwise"].contains n=false) (hQ:Q () s):wpAny M A (letOwnedTupleGo tg ηK u) Q E s:=by
 unfold letOwnedTupleGo
 cases tg<;>first
  |exact qac hQ
  | (cases u<;>first
   |exact qac hQ
   | (refine qaa (wpAny_load ho ?_)
      rw[hc,hd]
      show wpAny M A (if (["enumerate","zip","dict_itemiterator","dict_reverseitemiterator","odict_iterator","itertools.zip_longest","itertools.pairwise"].contains n&&vs[0]? == some (rawInt _))=true then _ else _) Q E s
      rw[qaC (by intro h;rw[hn,Bool.false_and]at h;cases h)]
      exact qac hQ))
noncomputable def CW(K:zze)(a:Addr):It:=
 ⟨λi H=>∃xs x,b8 K H a xs/\xs[i]?=some x,λi H x H'=>H'=H/\∀xs,b8 K H a xs->xs[i]?=some x,λi H=>∃xs,b8 K H a xs/\xs.length<=i⟩
noncomputable def AA(lo:Int)(n:Nat):It:=⟨λi _=>i<n,λi H x H'=>H'=H/\x=.int (lo+i),λi _=>n<=i⟩
theorem Q3{P:Program}{w:World}{K:zze}{tg:Expr}(a it:Addr):Turn P w K tg (CW K a) [it] it (λi h=>h.IsListIter it a i) where
 mem:=by simp
 obj:=λi h st b hb=>by
  have e:b=it:=by simpa using hb
  subst e;obtain⟨o,e,c,d⟩:=st;exact⟨o,e,λv z=>by rw[d]at z;cases z⟩
 keep:=λi h h' st k=>st.at λo e=>k it (by simp) o e
 item:=by intro X hP hw hK hc i pins s σ H E I hf st hg;subst hP hw hK;obtain⟨xs,x,hq,hx⟩:=hg;obtain⟨its,rv,p,hz⟩:=I.list hq;obtain⟨u,hu,ru⟩:=rv.get hx;obtain⟨f0,f1,f2,f3,f4,f5⟩:=hf it (by simp);refine wpAny_pyNext_list_item st p.isList (x:=u) (by simpa using hu) λh' st' sb=>?_;have I1:Inv X pins σ H {s with heap:=h'}:=I.turned (t':=s.toks) (λb o hb e=>(sb.2 b hb).trans e) f0 f1 f3 f4 f5;obtain⟨o,e,c,d⟩:=id st';exact⟨u,rfl,CV (s:={s with heap:=h'}) e c d (by decide) ⟨x,H,I1,ru,⟨rfl,λys hy=>by rw[I.n9 hy hq];exact hx⟩,st',λb hb=>(hf b hb).1⟩⟩
 done:=by intro X hP hw hK hc i pins s σ H E I hf st hg;subst hP hw hK;obtain⟨xs,hq,hx⟩:=hg;obtain⟨its,rv,p,hz⟩:=I.list hq;obtain⟨f0,f1,f2,f3,f4,f5⟩:=hf it (by simp);have hl:=rv.length;exact wpAny_pyNext_list_end δT st p.isList (by simp;omega) λh' eb=>⟨rfl,I.turned (t':=s.toks) (λb o hb e=>eb b o hb e) f0 f1 f3 f4 f5⟩
 self:=λ_ _ _ _ _ st h=>wpAny_pyIter_listiter st h
theorem Q4{P:Program}{w:World}{K:zze}{tg:Expr}(it:Addr)(lo:Int)(n:Nat):Turn P w K tg (AA lo n) [it] it (λi h=>IsRangeIter h it (lo+(i:Nat)*1) ((n:Int)-(i:Nat)) 1) where
 mem:=by simp
 obj:=λi h st b hb=>by
  have e:b=it:=by simpa using hb
  subst e
  exact⟨_,st,λv z=>by have z':Data.fields _=Data.cell v:=z;cases z'⟩
 keep:=λi h h' st k=>k it (by simp) _ st
 item:=by intro X hP hw hK hc i pins s σ H E I hf st hg;subst hP hw hK;obtain⟨f0,f1,f2,f3,f4,f5⟩:=hf it (by simp);have W:=Walks.range (prog:=X.prog) (w:=X.w) δT it lo 1 n;refine W.item i s _ _ hg st λv h' tk hv st' kk=>?_;obtain⟨t,rfl⟩:=hv;have I1:Inv X pins σ H {s with heap:=h',toks:=tk}:=I.turned (λb o hb e=>kk b o (by simpa using hb) e) f0 f1 f3 f4 f5;refine⟨_,rfl,CV (s:={s with heap:=h',toks:=tk}) (n:= "range_iterator") st' rfl rfl (by decide) ⟨.int (lo+i),H,I1,⟨t,?_⟩,⟨rfl,rfl⟩,st',λb hb=>(hf b hb).1⟩⟩;rw[Int.mul_one]
 done:=by intro X hP hw hK hc i pins s σ H E I hf st hg;subst hP hw hK;obtain⟨f0,f1,f2,f3,f4,f5⟩:=hf it (by simp);exact wpAny_pyNext_range_end δT st (by have:n<=i:=hg;omega) λh' eb=>⟨rfl,I.turned (t':=s.toks) (λb o hb e=>eb b o hb e) f0 f1 f3 f4 f5⟩
 self:=λ_ _ _ _ _ st h=>wpAny_pyIter_rangeiter st h
section
variable{X:Cx}{tg:Expr}
def Q5(K:zze)(tl:TE):TI:=λσ H R=>tl σ H λx H1=>∃a,x=.ref a/\(∃xs,b8 K H1 a xs)/\R (CW K a) H1
theorem Q6{l:Expr}{tl:TE}(hl:PE X l tl):PI X tg l (Q5 X.K tl):=by
 intro pins s σ H R I h;refine aK (hl pins s σ H _ I h) λv s1 zq=>?_;obtain⟨x,H1,I1,r1,q1⟩:=zq;obtain⟨a,e,⟨xs,hq⟩,q⟩:=q1;subst e;cases r1;obtain⟨its,rv,p,hz⟩:=I1.list hq;refine wpAny_pyIter_list p.isList ?_;refine⟨s1.heap.objs.size,[s1.heap.objs.size],_,_,H1,rfl,I1.kept (t':=s1.toks) λb o e=>qab _ e,Q3 a _,⟨_,qao _ rfl,rfl,rfl⟩,λb hb=>?_,q⟩;have e:b=s1.heap.objs.size:=by simpa using hb
 subst e;exact I1.n_ γO (I1.hok.fresh γO)
theorem Q7{pins:W1}{σ:St}{H:Hp}{s:Shared}{R:It->Hp->Prop}{E:T0}{lo hi:Int}{t u v:Tok}{tk:Nat}(I:ε)(h1 : -(2 ^ 62)<=lo)(h2:lo<2 ^ 62)(h3 : -(2 ^ 62)<=hi)(h4:hi<2 ^ 62)
 (q:R (AA lo (hi-lo).toNat) H):wpAny δ X.A (pyIter γj) (IW X pins σ tg R) E {s with heap:=s.heap.push {cls:=.type "range",data:=.fields #[.int lo t,.int hi u,.int 1 v]},toks:=tk}:=by
 refine wpAny_pyIter_range (IsRange.new ..) (small_one h1 h2 h3 h4) ?_;have I1:Inv X pins σ H {s with heap:=s.heap.push {cls:=.type "range",data:=.fields #[.int lo t,.int hi u,.int 1 v]},toks:=tk}:=I.kept λb o e=>qab _ e
 refine⟨(s.heap.push {cls:=.type "range",data:=.fields #[.int lo t,.int hi u,.int 1 v]}).objs.size,[(s.heap.push {cls:=.type "range",data:=.fields #[.int lo t,.int hi u,.int 1 v]}).objs.size],_,_,H,rfl,
  I1.kept (t':=tk) λb o e=>qab _ e,Q4 _ lo (hi-lo).toNat,?_,λb hb=>?_,q⟩
 .have e1:lo+((0:Nat):Int)*1=lo:=by simp
  have e2:(((hi-lo).toNat:Nat):Int)-((0:Nat):Int)=Builtin.Range.rangeSize lo hi 1:=by rw[rangeSize_one];split<;>omega
  show IsRangeIter _ _ (lo+((0:Nat):Int)*1) ((((hi-lo).toNat:Nat):Int)-((0:Nat):Int)) 1;rw[e1,e2];exact qao _ rfl
 .have e:b=(s.heap.push {cls:=.type "range",data:=.fields #[.int lo t,.int hi u,.int 1 v]}).objs.size:=by simpa using hb
  subst e;exact I1.n_ γO (I1.hok.fresh γO)
def IX(ta:TA):TI:=λσ H R=>ta σ H λvs H1=>∃j:Int,vs=[.int j] /\ -(2 ^ 62)<=j/\j<2 ^ 62/\R (AA 0 j.toNat) H1
theorem Q8{a:Expr}{ta:TA}{p pos:Pos}(hg:Gl X "range")(hm:X.mg "range" = none)(ha:PA X [a] ta)(hs:starEach [a] X.env=[(false,eval a X.env)]:=by rfl):PI X tg (.Call (.Name "range" p) [a] [] pos) (IX ta):=by
 intro pins s σ H R I h;refine Call_ (sV I hg hm boot_range (PyProof.Rows.callWith_type1 (aK γV λus s1 zq=>?_) hs rfl));obtain⟨vs,H1,I1,r1,q1⟩:=zq;obtain⟨j,e,q1,q2,q⟩:=q1;subst e;cases r1 with
 |cons r rr =>
   cases rr;obtain⟨t,rfl⟩:=r;exact call_range_1 (Q7 I1 (by omega) (by omega) q1 q2 (by simpa using q))
def CY(wi:TI)(g:TG)(tb:TS):TS:=λD σ H=>wi σ H λJ H1=>∃W:Nat->Nat->St->Hp->Prop,(∃m,W 0 m σ H1)/\∀i m σ H,W i m σ H ->
 (J.stop i H/\D.nx σ H)\/(J.go i H/\∃N:St->Hp->Prop,(∀aB H',N aB H'->∃m',m'<m/\W (i+1) m' aB H')/\∀x H',J.sY i H x H'->g x σ H' λfk H2=>tb {D with nx:=N,ct:=N,bk:=D.nx} fk H2)
noncomputable def uV(fp:zzd)(h:Heap):W1:=fp.filterMap λb=>(h.get? b).map λo=>(b,o)
theorem uW{h:Heap}(hb:b∈fp)(e:h.get? b=some o):(b,o)∈uV fp h:=List.mem_filterMap.mpr ⟨b,hb,by rw[e];rfl⟩
theorem Q9(hp:p∈uV fp h):p.1∈fp/\h.get? p.1=some p.2:=by
 obtain⟨b,hb,e⟩:=List.mem_filterMap.mp hp;cases q:h.get? b with
 |none=>rw[q]at e;cases e
 |some o =>
   rw[q]at e;have e':(b,o)=p:=qaQ e;subst e';exact⟨hb,q⟩
theorem Inv.pinned{pins:W1}{σ:St}{H:Hp}{s:Shared}{fp:zzd}(I:ε)(hf:∀b∈fp,l9 X pins H b)(ho:∀b∈fp,∃o,s.heap.get? b=some o/\∀v,o.data≠.cell v):Inv X (pins++uV fp s.heap) σ H s:=
 I.gO λp hp=>(qaH.mp hp).elim (λz=>I.pin p (qax _ z)) λz=>by obtain⟨hb,e⟩:=Q9 z;obtain⟨f0,f1,f2,_⟩:=hf p.1 hb;obtain⟨o,e',d⟩:=ho p.1 hb;rw[e]at e';cases e';exact⟨e,f0,f1,f2,d⟩
theorem Inv.dU{pins pl:W1}{σ:St}{H:Hp}{s:Shared}(I:Inv X (pins++pl) σ H s):Inv X pins σ H s:=I.gO λp hp=>I.pin p (qax _ (qaT _ hp))
theorem Q_(hp:εH)(hc:X.calm=true)(hi:ηj)(hg:PG X tg g)(hb:PSs X body tb)
 (hs:∀x,foldedSetIterable iter X.env x=pure x:=by intro _;rfl):PS X (.For tg iter body [] pos) (CY wi g tb):=by
 intro pins s σ H D I h;refine wpAny_For (aK (hi pins s σ H _ I h) λv s1 h1=>aK h1 λitv s2 h2=>?_) hs;obtain⟨it,fp,tn,J,H2,e,I2,T,st2,f2,W,⟨m0,w0⟩,turn⟩:=h2;subst e;have stat:∀{H':Hp},(∀b∈fp,H' b=none)->∀b∈fp,l9 X pins H' b:=λhn b hb=>⟨hn b hb,(f2 b hb).2⟩;refine codeAny_forLoop_any (λn s'=>∃i aB H',Inv X pins aB H' s'/\tn i s'.heap/\(∀b∈fp,H' b=none)/\W i n aB H') ?_ m0 ⟨0,σ,H2,I2,st2,λb hb=>(f2 b hb).1,w0⟩;rintro n s3 ⟨i,kX,H3,I3,st3,rA,w3⟩;rcases turn i n kX H3 w3 with ⟨stop,qn⟩|⟨go,N,hN,step⟩
 .refine wpAny_passesOwn hp (aK (T.done X rfl rfl rfl hc i pins s3 kX H3 X.xe I3 (stat rA) st3 stop) λr s4 zq=>?_);obtain⟨hr,I4⟩:=zq;subst hr;exact wpAny_execs_nil ⟨kX,H3,I4,qn⟩
 .refine wpAny_passesOwn hp (aK (T.item X rfl rfl rfl hc i pins s3 kX H3 X.xe I3 (stat rA) st3 go) λr s4 zq=>?_);obtain⟨u,hr,h4⟩:=zq;subst hr;refine wpAny_passesOwn hp (aK h4 λ_ s5 zq=>?_);obtain⟨x,H5,I5,r5,y5,oa,w_⟩:=zq;have Ra:=I5.pinned (stat w_) (T.obj _ _ oa);refine wpAny_passesOwn hp (aK (hg _ s5 kX H5 x u _ Ra r5 (step x H5 y5)) λ_ s6 zq=>?_);obtain⟨gV,H6,I6,q6⟩:=zq;refine wpAny_passesOwn hp (aK (hb _ s6 gV H6 _ I6 q6) λf s7 q7=>?_)
  have again:∀{og:St}{H7:Hp},Inv X (pins++uV fp s5.heap) og H7 s7->N og H7->∃m,m<n/\∃i aB H',Inv X pins aB H' s7/\tn i s7.heap/\(∀b∈fp,H' b=none)/\W i m aB H':=λ{og H7} I7 n7=>by obtain⟨m',hm,w7⟩:=hN og H7 n7;refine⟨m',hm,i+1,og,H7,I7.dU,T.keep _ _ _ oa λb hb o e=>(I7.pin (b,o) δE).1,λb hb=>?_,w7⟩;obtain⟨o,e,d⟩:=T.obj _ _ oa b hb;exact(I7.pin (b,o) δE).2.1
  cases f with
  |next=>obtain⟨og,H7,I7,n7⟩:=q7;exact again I7 n7
  |cont=>obtain⟨og,H7,I7,n7⟩:=q7;exact again I7 n7
  |brk=>obtain⟨og,H7,I7,q7⟩:=q7;exact⟨og,H7,I7.dU,q7⟩
  |ret v=>obtain⟨x7,og,H7,I7,r7,q7⟩:=q7;exact⟨x7,og,H7,I7.dU,r7,q7⟩
end
abbrev R2:=V->V->Hp->VK->Prop
def b_(X:Cx)(f:Value->Value->Sem Value)(r:R2):Prop:=
 ∀(pins:W1) (s:Shared) (σ:St) (H:Hp) (x y:V) (v u:Value) (Q:VK),Inv X pins σ H s->RelV x v->RelV y u->r x y H Q ->
  wpAny δ X.A (f v u) γL X.xe s
def CZ(X:Cx)(f:Value->Sem Value)(r:V->Hp->VK->Prop):Prop:=
 ∀(pins:W1) (s:Shared) (σ:St) (H:Hp) (x:V) (v:Value) (Q:VK),Inv X pins σ H s->RelV x v->r x H Q ->
  wpAny δ X.A (f v) γL X.xe s
def aN(X:Cx)(f:Value)(r:List V->Hp->VK->Prop):Prop:=
 ∀(pins:W1) (s:Shared) (σ:St) (H:Hp) (xs:γB) (us:v4) (Q:VK),Inv X pins σ H s->Vals xs us->r xs H Q ->
  wpAny δ X.A (call f us) γL X.xe s
def uX(r:R2)(ta tb:TE):TE:=λσ H Q=>ta σ H λx H1=>tb σ H1 λy H2=>r x y H2 Q
def Rb(r:V->Hp->VK->Prop)(ta:TE):TE:=λσ H Q=>ta σ H λx H1=>r x H1 Q
def rI(C:Int->Int->Prop)(g:Int->Int->V):R2:=λx y H Q=>∃i j,x=.int i/\y=.int j/\C i j/\Q ε7 H
def lD(g:Int->Int->V):R2:=λx y H Q=>∃i j,x=.int i/\y=.int j/\Q ε7 H
def rU(g:Int->V):V->Hp->VK->Prop:=λx H Q=>∃i,x=.int i/\Q (g i) H
section
variable{X:Cx}{a b c:Expr}{ta tb tc:TE}{pos:Pos}
theorem C0(ha:ε1)(hb:η0){pins:W1}{s:Shared}{σ:St}{H:Hp}{R:V->V->Hp->Prop}(I:ε)
 (h:ta σ H λx H1=>tb σ H1 λy H2=>R x y H2) {Q:T0}{f:Value->Value->Sem Value}
 (hf:∀v u s2 x y H2,Inv X pins σ H2 s2->RelV x v->RelV y u->R x y H2->wpAny δ X.A (f v u) Q X.xe s2) :
 wpAny δ X.A (eval a X.env) (λv aI=>wpAny δ X.A (eval b X.env) (λu C1=>wpAny δ X.A (f v u) Q X.xe C1) X.xe aI) X.xe s:=by refine aK γG λv s1 zq=>?_;obtain⟨x,H1,I1,r1,q1⟩:=zq;refine aK εL λu s2 zq=>?_;obtain⟨y,H2,I2,r2,q2⟩:=zq;exact hf v u s2 x y H2 I2 r1 r2 q2
theorem Rc{op:Operator}{r:R2}(ho:b_ X (binaryOp op) r)(ha:ε1)(hb:η0):PE X (.BinOp a op b pos) θj:=by intro pins s σ H Q I h;exact wpAny_BinOp (C0 ha hb I h λv u s2 x y H2 I2 rx ry q=>ho pins s2 σ H2 x y v u Q I2 rx ry q)
theorem IZ(ho:CZ X (unaryOp op) r)(ha:ε1):PE X (.UnaryOp op a pos) (Rb r ta):=by intro pins s σ H Q I h;exact UnaryOp_ (aK γG λv s1 ⟨x,H1,I1,r1,q1⟩=>ho pins s1 σ H1 x v Q I1 r1 q1)
theorem AE{f:Value->Value->Sem Value}{C:Int->Int->Prop}{g:Int->Int->Int}
 (rule:∀(i j:Int) (t u:Tok) (s:Shared) (Q:T0) (E:T0),C i j->Q (.int ε7 s.toks) {s with toks:=s.toks+1}->wpAny δ X.A θc Q E s) :
 b_ X f (rI C λi j=>.int ε7):=by intro pins s σ H x y v u Q I rx ry h;obtain⟨i,j,rfl,rfl,hc,q⟩:=h;obtain⟨t,rfl⟩:=rx;obtain⟨t',rfl⟩:=ry;exact rule i j t t' s _ _ hc ⟨.int ε7,H,I.tok _,⟨_,rfl⟩,q⟩
theorem I0{f:Value->Value->Sem Value}{g:Int->Int->Int}
 (rule:∀(i j:Int) (t u:Tok) (s:Shared) (Q:T0) (E:T0),Q (.int ε7 s.toks) {s with toks:=s.toks+1}->wpAny δ X.A θc Q E s) :
 b_ X f (lD λi j=>.int ε7):=by intro pins s σ H x y v u Q I rx ry h;obtain⟨i,j,rfl,rfl,q⟩:=h;obtain⟨t,rfl⟩:=rx;obtain⟨t',rfl⟩:=ry;exact rule i j t t' s _ _ ⟨.int ε7,H,I.tok _,⟨_,rfl⟩,q⟩
theorem AF{f:Value->Value->Sem Value}{g:Int->Int->Bool}
 (rule:∀(i j:Int) (t u:Tok) (s:Shared) (Q:T0) (E:T0),Q (.bool ε7) s->wpAny δ X.A θc Q E s) :
 b_ X f (lD λi j=>.bl ε7):=by intro pins s σ H x y v u Q I rx ry h;obtain⟨i,j,rfl,rfl,q⟩:=h;obtain⟨t,rfl⟩:=rx;obtain⟨t',rfl⟩:=ry;exact rule i j t t' s _ _ ⟨.bl ε7,H,I,rfl,q⟩
noncomputable def I8(i j:Int):Prop:=0<j/\j<1073741824
noncomputable def I9(i j:Int):Prop:=0<=j/\j<=1000000/\i.natAbs<2 ^ 64
noncomputable def mK(i j:Int):Prop:=(-(2 ^ 64)<i/\i<2 ^ 64)\/(-(2 ^ 64)<j/\j<2 ^ 64)
theorem mK.ok(h:mK i j):IntMulOk i j:=by
 rcases h with ⟨h1,h2⟩|⟨h1,h2⟩
 .exact .of_left (intBits_le_64 h1 h2)
 .exact .of_right (intBits_le_64 h1 h2)
theorem sZ:b_ X θr (lD λi j=>.int (i+j)):=I0 λ_ _ _ _ _ _ _ q=>add_int q
theorem C2:b_ X (binaryOp .Sub) (lD λi j=>.int (i-j)):=I0 λ_ _ _ _ _ _ _ q=>sub_int q
theorem C3:b_ X (binaryOp .Mult) (rI mK λi j=>.int (i*j)):=AE λ_ _ _ _ _ _ _ hc q=>mul_int q hc.ok
theorem I_:b_ X (binaryOp .FloorDiv) (rI I8 λi j=>.int (i/j)):=AE λi j _ _ _ _ _ hc q=>by have h1:(0:Int)<j:=hc.1;have h2:j<1073741824:=hc.2;exact floordiv_int (by omega) (by rw[Int.fdiv_eq_ediv_of_nonneg i (by omega)];exact q) (.inl (PyProof.noPylong_small (by omega)))
theorem pT:b_ X (binaryOp .Mod) (rI (λ_ j=>0<j) λi j=>.int (i % j)):=AE λi j _ _ _ _ _ hc q=>by have h1:(0:Int)<j:=hc;exact mod_int' (by omega) (by rw[Int.fmod_eq_emod_of_nonneg i (by omega)];exact q)
theorem Ja:b_ X (binaryOp .Pow) (rI I9 λi j=>.int (i ^ j.toNat)):=AE λ_ _ _ _ _ _ _ hc q=>pow_int_small hc.1 hc.2.1 hc.2.2 q
theorem Rf{f:Value->Sem Value}{g:Int->Int}
 (rule:∀(i:Int) (t:Tok) (s:Shared) (Q:T0) (E:T0),Q (.int (g i) s.toks) {s with toks:=s.toks+1}->wpAny δ X.A (f (.int i t)) Q E s) :
 CZ X f (rU λi=>.int (g i)):=by intro pins s σ H x v Q I rx h;obtain⟨i,rfl,q⟩:=h;obtain⟨t,rfl⟩:=rx;exact rule i t s _ _ ⟨.int (g i),H,I.tok _,⟨_,rfl⟩,q⟩
theorem Jb:CZ X (unaryOp .USub) (rU λi=>.int (-i)):=Rf λ_ _ _ _ _ q=>neg_int q
end
noncomputable def Jc:V->V->Bool
 |.ax,.ax=>true|.ax,.int _=>true|.int _,.ax=>true|.ax,.bl _=>true|.bl _,.ax=>true|.ax,.str _=>true|.str _,.ax=>true
 |.int _,.int _=>true|.bl _,.bl _=>true|.str _,.str _=>true|.nG _,.nG _=>true
 |.int _,.str _=>true|.str _,.int _=>true|.bl _,.str _=>true|.str _,.bl _=>true
 |_,_=>false
def Jd:R2:=λx y H Q=>Jc x y=true/\Q (.bl (decide (x=y))) H
def Je:R2:=λx y H Q=>Jc x y=true/\Q (.bl (!decide (x=y))) H
theorem Jf:decide (V.int i=V.int j)=(i == j):=by rw[qa4];simp
theorem Jg:decide (V.bl i=V.bl j)=(i == j):=by rw[qa4];simp
theorem Jh:decide (V.str i=V.str j)=(i == j):=by rw[qa4];simp
theorem Ji:decide (V.nG i=V.nG j)=(i.toList == j.toList):=by rw[qa4];cases i;cases j;simp
section
variable{X:Cx}{a b c:Expr}{ta tb tc:TE}{pos:Pos}
theorem fm{pins:W1}{σ:St}{H:Hp}{s:Shared}{Q:VK}{k k':Bool}(I:ε)(q:Q (.bl k) H)(e:k=k'):EP X pins σ Q (.bool k') s:=by subst e;exact⟨.bl k,H,I,rfl,q⟩
theorem op_eq:b_ X ζ2 Jd:=by
 intro pins s σ H x y v u Q I rx ry h;obtain⟨hs,q⟩:=h;cases x with
 |ax =>
   cases rx;cases y with
   |ax=>cases ry;exact PySem.EqNone.eq_none_none (fm I q (by simp))
   |bl j=>cases ry;exact PySem.EqNone.eq_none_bool (fm I q (by simp))
   |int j=>obtain⟨t',rfl⟩:=ry;exact PySem.EqNone.eq_none_int (fm I q (by simp))
   |str j=>obtain⟨t',rfl⟩:=ry;exact PySem.EqNone.eq_none_str (fm I q (by simp))
   |_=>exact absurd (show false=true from hs) qas
 |bl i =>
   cases rx;cases y with
   |ax=>cases ry;exact PySem.EqNone.eq_bool_none (fm I q (by simp))
   |bl j=>cases ry;exact eq_bool (fm I q Jg)
   |str j=>obtain⟨t',rfl⟩:=ry;exact PySem.EqMixed.eq_bool_str (fm I q (by simp))
   |_=>exact absurd (show false=true from hs) qas
 |int i =>
   obtain⟨t,rfl⟩:=rx;cases y with
   |ax=>cases ry;exact PySem.EqNone.eq_int_none (fm I q (by simp))
   |int j=>obtain⟨t',rfl⟩:=ry;exact eq_int (fm I q Jf)
   |str j=>obtain⟨t',rfl⟩:=ry;exact PySem.EqMixed.eq_int_str (fm I q (by simp))
   |_=>exact absurd (show false=true from hs) qas
 |str i =>
   obtain⟨t,rfl⟩:=rx;cases y with
   |ax=>cases ry;exact PySem.EqNone.eq_str_none (fm I q (by simp))
   |bl j=>cases ry;exact PySem.EqMixed.eq_str_bool (fm I q (by simp))
   |int j=>obtain⟨t',rfl⟩:=ry;exact PySem.EqMixed.eq_str_int (fm I q (by simp))
   |str j=>obtain⟨t',rfl⟩:=ry;exact eq_str (fm I q Jh)
   |_=>exact absurd (show false=true from hs) qas
 |nG i =>
   obtain⟨t,rfl⟩:=rx;cases y with
   |nG j=>obtain⟨t',rfl⟩:=ry;exact W.eq_bytes (fm I q Ji)
   |_=>exact absurd (show false=true from hs) qas
 |_=>cases y<;>exact absurd (show false=true from hs) qas
theorem Rg:b_ X ιk Je:=by
 intro pins s σ H x y v u Q I rx ry h;obtain⟨hs,q⟩:=h;cases x with
 |ax =>
   cases rx;cases y with
   |ax=>cases ry;exact PySem.EqNone.ne_none_none (fm I q (by simp))
   |bl j=>cases ry;exact PySem.EqNone.ne_none_bool (fm I q (by simp))
   |int j=>obtain⟨t',rfl⟩:=ry;exact PySem.EqNone.ne_none_int (fm I q (by simp))
   |str j=>obtain⟨t',rfl⟩:=ry;exact PySem.EqNone.ne_none_str (fm I q (by simp))
   |_=>exact absurd (show false=true from hs) qas
 |bl i =>
   cases rx;cases y with
   |ax=>cases ry;exact PySem.EqNone.ne_bool_none (fm I q (by simp))
   |bl j=>cases ry;exact ne_bool (fm I q (congrArg not Jg))
   |str j=>obtain⟨t',rfl⟩:=ry;exact PySem.EqMixed.ne_bool_str (fm I q (by simp))
   |_=>exact absurd (show false=true from hs) qas
 |int i =>
   obtain⟨t,rfl⟩:=rx;cases y with
   |ax=>cases ry;exact PySem.EqNone.ne_int_none (fm I q (by simp))
   |int j=>obtain⟨t',rfl⟩:=ry;exact ne_int (fm I q (congrArg not Jf))
   |str j=>obtain⟨t',rfl⟩:=ry;exact PySem.EqMixed.ne_int_str (fm I q (by simp))
   |_=>exact absurd (show false=true from hs) qas
 |str i =>
   obtain⟨t,rfl⟩:=rx;cases y with
   |ax=>cases ry;exact PySem.EqNone.ne_str_none (fm I q (by simp))
   |bl j=>cases ry;exact PySem.EqMixed.ne_str_bool (fm I q (by simp))
   |int j=>obtain⟨t',rfl⟩:=ry;exact PySem.EqMixed.ne_str_int (fm I q (by simp))
   |str j=>obtain⟨t',rfl⟩:=ry;exact ne_str (fm I q (congrArg not Jh))
   |_=>exact absurd (show false=true from hs) qas
 |nG i =>
   obtain⟨t,rfl⟩:=rx;cases y with
   |nG j=>obtain⟨t',rfl⟩:=ry;exact W.ne_bytes (fm I q (congrArg not Ji))
   |_=>exact absurd (show false=true from hs) qas
 |_=>cases y<;>exact absurd (show false=true from hs) qas
theorem pU:b_ X (compareOp .Lt) (lD λi j=>.bl (decide (i<j))):=AF λ_ _ _ _ _ _ _ q=>lt_int q
theorem kY:b_ X (compareOp .LtE) (lD λi j=>.bl (decide (i<=j))):=AF λ_ _ _ _ _ _ _ q=>le_int q
theorem uY:b_ X (compareOp .Gt) (lD λi j=>.bl (decide (j<i))):=AF λ_ _ _ _ _ _ _ q=>gt_int q
theorem Rh:b_ X (compareOp .GtE) (lD λi j=>.bl (decide (j<=i))):=AF λ_ _ _ _ _ _ _ q=>ge_int q
theorem C4:b_ X (compareOp .Is) (λx y H Q=>y=.ax/\Q (.bl (decide (x=.ax))) H):=by
 intro pins s σ H x y v u Q I rx ry h;obtain⟨rfl,q⟩:=h;cases ry;refine is_none_gen (fm I q ?_)
 cases x<;>first
  | (cases rx;rfl)
  | (obtain⟨t,rfl⟩:=rx;rfl)
theorem b_.or(h:b_ X f r)(h':b_ X f r'):b_ X f (λx y H Q=>r x y H Q\/r' x y H Q):=by
 intro pins s σ H x y v u Q I rx ry q;rcases q with q|q
 .exact h pins s σ H x y v u Q I rx ry q
 .exact h' pins s σ H x y v u Q I rx ry q
theorem dk(b:Expr)(h:op≠.In:=by decide)(h2:op≠.NotIn:=by decide):behindInMarks op b=false:=by
 have e1:(op == CmpOp.In)=false:=by cases op<;>first|rfl|exact absurd rfl h
 have e2:(op == CmpOp.NotIn)=false:=by cases op<;>first|rfl|exact absurd rfl h2
 cases b<;>simp[behindInMarks,e1,e2]
theorem Ri(ho:δj)(ha:ε1)(hb:η0)(hm:behindInMarks op b=false):PE X (.Compare a [op] [b] pos) θj:=by intro pins s σ H Q I h;exact wpAny_Compare1 (C0 ha hb I h λv u s2 x y H2 I2 rx ry q=>ho pins s2 σ H2 x y v u Q I2 rx ry q) hm
def C5(t:TE):TT:=λσ H Q=>t σ H λx H'=>∃k,x=.bl k/\Q k H'
theorem Rj(ho:δj)(ha:ε1)(hb:η0)(hm:behindInMarks op b=false):PT X (.Compare a [op] [b] pos) (C5 θj):=by intro pins s σ H Q I h;refine wpAny_isTrue_Compare1 (aK γG λv s1 z1=>?_) hm;obtain⟨x,H1,I1,r1,q1⟩:=z1;refine aK εL λu s2 z2=>?_;obtain⟨y,H2,I2,r2,q2⟩:=z2;refine aK εx λc s3 z3=>?_;obtain⟨z,H3,I3,r3,k,e,q3⟩:=z3;subst e;cases r3;exact qbn ⟨H3,I3,q3⟩
def C6(r r':R2)(ta tb tc:TE):TE:=λσ H Q=>ta σ H λx H1=>tb σ H1 λy H2=>r x y H2 λz H3=>∃k,z=.bl k /\
 (if k=true then tc σ H3 λw' H4=>r' y w' H4 Q else Q ζy H3)
theorem Rm(ho:δj)(ho':ζg)(ha:ε1)(hb:η0)(hc:PE X c tc)
 (hm:lastMarks [op,op'] [b,c]=false:=by with_unfolding_all rfl):PE X (.Compare a [op,op'] [b,c] pos) ιn:=by
 intro pins s σ H Q I h;refine Compare_chain (aK γG λv s1 z1=>?_) hm;obtain⟨x,H1,I1,r1,q1⟩:=z1;refine chain_link (aK εL λu s2 z2=>?_);obtain⟨y,H2,I2,r2,q2⟩:=z2;refine aK εx λd s3 z3=>?_;obtain⟨z,H3,I3,r3,k,e,q3⟩:=z3;subst e;cases r3;refine qbn ?_;cases k with
 |false=>exact ite_ff ⟨.bl false,H3,I3,rfl,q3⟩
 |true=>exact ite_tt (chain_last (aK (hc pins s3 σ H3 _ I3 q3) λw' s4 ⟨z',H4,I4,r4,q4⟩=>ho' pins s4 σ H4 y z' u w' Q I4 r2 r4 q4))
theorem Rn(ho:δj)(ho':ζg)(ha:ε1)(hb:η0)(hc:PE X c tc)
 (hm:lastMarks [op,op'] [b,c]=false:=by with_unfolding_all rfl):PT X (.Compare a [op,op'] [b,c] pos) (C5 ιn):=by
 intro pins s σ H Q I h;refine isTrue_chain (aK γG λv s1 z1=>?_) hm;obtain⟨x,H1,I1,r1,q1⟩:=z1;refine test_link (aK εL λu s2 z2=>?_);obtain⟨y,H2,I2,r2,q2⟩:=z2;refine aK εx λd s3 z3=>?_;obtain⟨z,H3,I3,r3,k,e,q3⟩:=z3;subst e;cases r3;refine qbn ?_;cases k with
 |false =>
   obtain⟨k',e',q'⟩:=q3;cases e';exact ite_ff ⟨H3,I3,q'⟩
 |true =>
   refine ite_tt (test_last (aK (hc pins s3 σ H3 _ I3 q3) λw' s4 zq=>?_));obtain⟨z',H4,I4,r4,q4⟩:=zq;refine aK (ho' pins s4 σ H4 y z' u w' _ I4 r2 r4 q4) λd' s5 zq=>?_;obtain⟨z2,H5,I5,r5,k2,e2,q5⟩:=zq;subst e2;cases r5;exact qbn ⟨H5,I5,q5⟩
theorem xa:(sizeLine:Nat)<2 ^ 63:=by rw[sizeLine_eq];decide
theorem Ro:b_ X θr (λx y H Q=>∃i j,x=.str i/\y=.str j/\i.length+j.length<=sizeLine/\Q (.str (i++j)) H):=by intro pins s σ H x y v u Q I rx ry h;obtain⟨i,j,rfl,rfl,hz,q⟩:=h;obtain⟨t,rfl⟩:=rx;obtain⟨t',rfl⟩:=ry;exact add_str (λt' tk=>⟨.str (i++j),H,I.tok _,⟨_,rfl⟩,q⟩) hz
theorem vals1(r:Vals [x] us):∃u,us=[u]/\RelV x u:=by
 cases r with
 |cons r1 r2=>cases r2;exact⟨_,rfl,r1⟩
theorem vals2(r:Vals [x,y] us):∃u w',us=[u,w']/\RelV x u/\RelV y w':=by
 cases r with
 |cons r1 r2 =>
   cases r2 with
   |cons r3 r4=>cases r4;exact⟨_,_,rfl,r1,r3⟩
theorem Rq:aN X (.builtin "abs") (λxs H Q=>∃i,xs=[.int i]/\Q (.int (if i<0 then -i else i)) H):=by intro pins s σ H xs us Q I r h;obtain⟨i,rfl,q⟩:=h;obtain⟨u,rfl,t,rfl⟩:=vals1 r;exact call_abs_int λu tk=>⟨.int (if i<0 then -i else i),H,I.tok _,⟨_,rfl⟩,q⟩
theorem C7(hc:X.calm=true):aN X (.builtin "max") (λxs H Q=>∃i j,xs=[.int i,.int j]/\Q (.int (if j>i then j else i)) H):=by
 intro pins s σ H xs us Q I r h;obtain⟨i,j,rfl,q⟩:=h;obtain⟨u,w',rfl,⟨t,rfl⟩,⟨t',rfl⟩⟩:=vals2 r;refine max_two_ints δT λh' tk k=>⟨_,H,I.kept k,?_,q⟩;by_cases hj:j>i
 .rw[qaF hj,qaF hj];exact⟨_,rfl⟩
 .rw[qaC hj,qaC hj];exact⟨_,rfl⟩
theorem C8(hc:X.calm=true):aN X (.builtin "min") (λxs H Q=>∃i j,xs=[.int i,.int j]/\Q (.int (if j<i then j else i)) H):=by
 intro pins s σ H xs us Q I r h;obtain⟨i,j,rfl,q⟩:=h;obtain⟨u,w',rfl,⟨t,rfl⟩,⟨t',rfl⟩⟩:=vals2 r;refine min_two_ints δT λh' tk k=>⟨_,H,I.kept k,?_,q⟩;by_cases hj:j<i
 .rw[qaF hj,qaF hj];exact⟨_,rfl⟩
 .rw[qaC hj,qaC hj];exact⟨_,rfl⟩
theorem Jj:aN X (.type "int") (λxs H Q=>(∃i,xs=[.int i]/\Q γT H)\/∃k,xs=[.bl k]/\Q (.int (if k then 1 else 0)) H):=by
 intro pins s σ H xs us Q I r h;rcases h with ⟨i,rfl,q⟩|⟨k,rfl,q⟩
 .obtain⟨u,rfl,t,rfl⟩:=vals1 r;exact call_int_int ⟨.int i,H,I,⟨_,rfl⟩,q⟩
 .obtain⟨u,rfl,r1⟩:=vals1 r;cases r1;exact call_int_bool ⟨.int (if k then 1 else 0),H,I.tok _,⟨_,rfl⟩,q⟩
end
structure lE(h:Heap)(x dx C:Addr)(mA:M2):Prop where
 obj:h.get? x=some (W.instObj C dx)
 ns:h.Ns1 dx mA
 ne:dx≠x
theorem f_{h:Heap}(n:h.Ns1 dx mA):∃od,h.get? dx=some od/\∀name,W.lookIn name od=some (mA name):=by
 obtain⟨o,es,ep,ho,hd,hk,_,hm⟩:=n;refine⟨o,ho,λname=>?_⟩;have e:=hm name;unfold nsFind findBy at e;rw[<-Array.find?_toList]at e;unfold W.lookIn;rw[hd];dsimp only;split
 .rename_i y q;rw[q]at e;exact congrArg some e
 .rename_i q;rw[q]at e
  have a:es.toList.any (·.refKey)=false:=by rw[List.any_eq_false];intro y hy;obtain⟨z,t,hkey⟩:=hk y (Array.mem_toList_iff.mp hy);simp[DictEntry.refKey,hkey]
  have a':¬es.toList.any (·.refKey)=true:=by rw[a];exact qas
  rw[qaC a'];exact congrArg some e
theorem lE.look(I:lE h x dx C mA):∃od,W.InstAt h x (W.instObj C dx) C (some od)/\∀name,W.lookIn name od=some (mA name):=
 let ⟨od,ho,hl⟩:=f_ I.ns
 ⟨od,⟨I.obj,rfl,rfl,ho⟩,hl⟩
section
variable{prog:Program}{w:World}{A:Around}{E:T0}{s:Shared}{K:zze}{x dx C f:Addr}{mA:M2}{name:Str}{v:Value}
theorem Rr(X:δZ)(I:ιh)(hg:W.plainGet K C name=true)(hh:W.hasDictIn K C=true)
 (ha:W.findIn K γf name=some none) (hv:mA name=some v) (hv':W.handedIn v=true) (h:Q v {s with toks:=s.toks+1}) :
 wpAny γ A (getAttr δX name expr) Q E s:=by obtain⟨od,J,hl⟩:=I.look;exact W.get_value X J (W.plainGet_of hg).1 (W.findObj_own hh ha rfl (by rw[hl,hv])) hv' h
theorem Ru(X:δZ)(I:ιh)(hg:W.plainGet K C name=true)
 (hf:W.findIn K γf name=some (some γ7)) (ht:W.isFn K γ7=true) (hv:mA name=none) (h:Q (.ref f,[.ref x]) s) :
 wpAny γ A (getMethod δX name pl) Q E s:=by obtain⟨od,J,hl⟩:=I.look;exact W.method_fn X J (W.plainGet_of hg).1 (W.plainGet_of hg).2 hf (qa7.mp ht) (by show(W.lookIn name od).map (·.isSome)=some false;rw[hl,hv];rfl) h
theorem Rv(X:δZ)(I:ιh)
 (hs:W.findIn K γf "__setattr__" = some (some (.builtin "object.__setattr__"))) (hp:W.plainOver K C=true) (ht:W.takerIn K C name=some none) (hh:W.hasDictIn K C=true)
 (hw:PySem.Within mA ns) (hsz:ns.length<=sizeLine)
 (h:∀h',lE h' x dx C (λy=>if y=name then some v else mA y)->Heap.SameBut dx s.heap h'->Q () {s with heap:=h',toks:=s.toks+2}) :
 wpAny γ A (setAttr δX name v) Q E s:=by obtain⟨od,J,hl⟩:=I.look;refine W.set_plain X J hs (W.osa_open (s:={s with toks:=s.toks+1}) (r:=none) X J hp ht λb=>?_);obtain⟨cd,hc,hd'⟩:=W.any_some hh;have hx:s.heap.get? x=some ⟨.ref C,some dx,.plain, #[]⟩:=I.obj;refine qaa (qac (qaa (qaa (wpAny_loadPart hx (qaa (W.Looks.here (s:={s with toks:=s.toks+1}) (W.looks_clsIn X hc) ?_))))));rw[hd'];refine qac (a:=some dx) (qaa (qac (qaa ?_)));refine wpAny_nsSet1 (s:={s with toks:=s.toks+1}) I.ns λh' hn2 hs2=>?_;obtain⟨oD,esD,epD,hoD,hdD,hcD⟩:=hn2.count (PySem.Within.cons name v hw);refine qaa (wpAny_lookBehind hoD (by rw[hdD];exact pastItsLine_dict (qaO hcD (by rw[qaN];omega))) ?_);exact qac (h _ ⟨(hs2.2 _ (qaR I.ne)).trans I.obj,hn2,I.ne⟩ hs2)
theorem Rw(X:δZ)(hm:W.makesIn K C=true)
 (hi:W.findIn K γf "__init__" = some (some γ7)) (hf:W.typeIn K γ7=some (.type "function"))
 (h:codeAny γ (A.under (.builtin "type.__call__" ⟨.ref C::vs,kw⟩)) (.call γ7 ⟨.ref (s.heap.objs.size+1)::vs,kw⟩) (W.InitBack (s.heap.objs.size+1) R)
  {s with heap:=(s.heap.push W.emptyDict).push εc}) :
 codeAny γ A (.call γf ⟨vs,kw⟩) R s:=by obtain⟨hh,g,d,t,os⟩:=s;exact W.make_core (W.makes_of X hm) (W.looks_findIn X hi) (λself=>W.bind_fn X self hf) γM h
end
noncomputable def jN(f:Str)(v:V):List (Str×V)->List (Str×V)
 |[]=>[(f,v)]
 | (g,x)::r=>if g=f then (g,v)::r else (g,x)::jN f v r
theorem C9(f g:Str)(v:V):∀fs:List (Str×V),(jN f v fs).lookup g=if g=f then some v else fs.lookup g
 |[]=>by
   show List.lookup g [(f,v)]=_;by_cases h:g=f
   .have hb:(g == f)=true:=qa7.mpr h;simp only[List.lookup,hb,if_pos h]
   .have hb:(g == f)=false:=beq_eq_false_iff_ne.mpr h;simp only[List.lookup,hb,if_neg h]
 | (k,x)::r=>by
   have ih:=C9 f g v r;rw[show jN f v ((k,x)::r)=(if k=f then (k,v)::r else (k,x)::jN f v r) from rfl];by_cases hk:k=f
   .rw[qaF hk];by_cases h:g=k
    .have hb:(g == k)=true:=qa7.mpr h;simp only[List.lookup,hb,if_pos (h.trans hk)]
    .have hb:(g == k)=false:=beq_eq_false_iff_ne.mpr h;simp only[List.lookup,hb,if_neg (λe:g=f=>h (e.trans hk.symm))]
   .rw[qaC hk];by_cases h:g=k
    .have hb:(g == k)=true:=qa7.mpr h;simp only[List.lookup,hb,if_neg (λe:g=f=>hk (h.symm.trans e))]
    .have hb:(g == k)=false:=beq_eq_false_iff_ne.mpr h;simp only[List.lookup,hb];exact ih
theorem xb(f:Str)(v:V):∀fs:List (Str×V),f∈(jN f v fs).map (·.1)/\∀g,g∈fs.map (·.1)->g∈(jN f v fs).map (·.1)
 |[]=>⟨by simp[jN],λg h=>by simp at h⟩
 | (k,x)::r=>by
   obtain⟨i1,i2⟩:=xb f v r;rw[show jN f v ((k,x)::r)=(if k=f then (k,v)::r else (k,x)::jN f v r) from rfl];by_cases hk:k=f
   .rw[qaF hk];subst hk;exact⟨by simp,λg h=>by simpa using h⟩
   .rw[qaC hk];refine⟨?_,λg h=>?_⟩
    .rw[qav];exact qae _ i1
    .rw[qav]at h ⊢;rcases qak.mp h with e|e
     .exact qak.mpr (.inl e)
     .exact qae _ (i2 g e)
theorem Jk(f:Str)(v:V):∀fs:List (Str×V),(jN f v fs).length<=fs.length+1
 |[]=>by simp[jN]
 | (k,x)::r=>by
   have ih:=Jk f v r;rw[show jN f v ((k,x)::r)=(if k=f then (k,v)::r else (k,x)::jN f v r) from rfl];by_cases hk:k=f
   .rw[qaF hk,qaN,qaN];omega
   .rw[qaC hk,qaN,qaN];omega
theorem eB.some_of(r:eB δQ o):∃u,o=some u/\RelV v u:=by
 cases o with
 |none=>exact(show False from r).elim
 |some u=>exact⟨u,rfl,r⟩
theorem eB.none_of(r:eB none o):o=none:=by
 cases o with
 |none=>rfl
 |some u=>exact(show False from r).elim
theorem Jl(r:RelV v u):W.handedIn u=true:=by
 cases v with
 |ax=>cases (show u=Value.none from r);rfl
 |bl b=>cases (show u=Value.bool b from r);rfl
 |int i=>obtain⟨t,e⟩:=(show ∃t,u=Value.int i t from r);cases e;rfl
 |str x=>obtain⟨t,e⟩:=(show ∃t,u=Value.str x t from r);cases e;rfl
 |nG b=>obtain⟨t,e⟩:=(show ∃t,u=Value.bytes b t from r);cases e;rfl
 |flt b=>obtain⟨t,e⟩:=(show ∃t,u=Value.float b t from r);cases e;rfl
 |ref a=>cases (show u=Value.ref a from r);rfl
 |ty n=>cases (show u=Value.type n from r);rfl
section
variable{P:Program}{w:World}{H H':Hp}{h h':Heap}{a C dx:Addr}{fs fs':List (Str×V)}
theorem xf(hok:δW)(e:H a=some εr):∃mA,lE h a dx C mA/\(∀f,eB ζX (mA f))/\PySem.Within mA (fs.map (·.1))/\fs.length<=1000/\H dx=some (.own a):=by obtain⟨d,z,ne,ob,mA,n,r,q⟩:=(show aJ P w H h a εr from hok a _ e);exact⟨mA,⟨ob,n,ne⟩,r,q,z,d⟩
end
structure jq(K:zze)(C:Addr):Prop where
 pg:W.plainGet K C Str.empty=true
 hd:W.hasDictIn K C=true
 po:W.plainOver K C=true
 sa:W.findIn K γf "__setattr__" = some (some (.builtin "object.__setattr__"))
theorem jq.get{K:zze}{C:Addr}(c:jq K C)(f:Str):W.plainGet K C f=true:=c.pg
def bj(K:zze)(C:Addr)(f:Str):Prop:=W.findIn K γf f=some none
theorem bj.taker{K:zze}{C:Addr}{f:Str}(n:bj K C f):W.takerIn K C f=some none:=by unfold W.takerIn;rw[show W.findIn K γf f=some none from n];rfl
structure Meth(K:zze)(C:Addr)(m:Str)(f:Addr):Prop where
 at_:W.findIn K γf m=some (some γ7)
 fn:W.isFn K γ7=true
 kp:W.keepIn K γ7=true
section
variable{X:Cx}{pins:W1}{σ:St}{H:Hp}{s:Shared}{a C dx:Addr}{fs:List (Str×V)}{f:Str}{v:V}{A:Around}{E:T0}
theorem Ry(I:ε)(e:H a=some εr)(c:jq X.K C)(n:bj X.K C f)(l:fs.lookup f=some v)
 (h:∀u s',Inv X pins σ H s'->RelV v u->Q u s'):wpAny δ A (getAttr γC f b) Q E s:=by obtain⟨mA,O,r,_,_,_⟩:=xf I.hok e;obtain⟨u,hu,ru⟩:=eB.some_of (v:=v) (o:=mA f) (by rw[<-l];exact r f);exact Rr I.bV O (c.get f) c.hd n hu (Jl ru) (h u _ (I.tok _) ru)
theorem Jm(I:ε)(e:H a=some εr)(c:jq X.K C)(k:Meth X.K C m g)(l:fs.lookup m=none)
 (h:Q (.ref g,[.ref a]) s):wpAny δ A (getMethod γC m pl) Q E s:=by obtain⟨mA,O,r,_,_,_⟩:=xf I.hok e;have hn:mA m=none:=eB.none_of (by rw[<-l];exact r m);exact Ru I.bV O (c.get m) k.at_ k.fn hn h
theorem Rz(I:ε)(e:H a=some εr)(c:jq X.K C)(n:bj X.K C f)(hl:fs.length<1000)(ry:RelV y u)
 (h:∀s',Inv X pins σ (upd H a (.ins C dx (jN f y fs))) s'->Q () s'):wpAny δ A (setAttr γC f u) Q E s:=by
 obtain⟨mA,O,r,wi,_,ho⟩:=xf I.hok e;have hz:(fs.map (·.1)).length<=sizeLine:=by rw[qaf,sizeLine_eq];omega
 refine Rv I.bV O c.sa c.po n.taker c.hd wi hz λh' O' sb=>h _ ?_;have hd:∃o,h'.get? dx=some o:=let ⟨o,_,_,e',_⟩:=O'.ns; ⟨o,e'⟩;refine I.write (x:=a) (e:=dx) (by rw[e];exact True.intro) (.inr ho) (λb q hb z=>(sb.2 b hb).trans z) hd ?_;refine⟨by rw[bh O.ne];exact ho,?_,O.ne,O'.obj,_,O'.ns,λg=>?_,λg hg=>?_⟩
 .have:=Jk f y fs;omega
 .show eB ((jN f y fs).lookup g) (if g=f then some u else mA g);rw[C9];by_cases q:g=f
  .rw[qaF q,qaF q];exact ry
  .rw[qaC q,qaC q];exact r g
 .by_cases q:g=f
  .rw[q];exact(xb f y fs).1
  .refine(xb f y fs).2 g (wi g λz=>hg ?_);show(if g=f then some u else mA g)=none;rw[qaC q];exact z
theorem Inv.made(I:ε):Inv X pins σ (upd (upd H s.heap.objs.size (.own (s.heap.objs.size+1))) (s.heap.objs.size+1) (.ins C s.heap.objs.size []))
 {s with heap:=(s.heap.push W.emptyDict).push εc}:=by
 have e1:(s.heap.push W.emptyDict).get? s.heap.objs.size=some W.emptyDict:=qao s.heap rfl
 have e2:((s.heap.push W.emptyDict).push εc).get? (s.heap.objs.size+1)=some εc:=by have:=qao (s.heap.push W.emptyDict) (o:=W.instObj C s.heap.objs.size) rfl;rwa[Heap.size_push]at this
 have e3:(s.heap.push W.emptyDict).Ns s.heap.objs.size (λ_=>none):=⟨W.emptyDict, #[],_,e1,rfl,(λe he=>absurd he (by simp)),λ_=>rfl⟩;have I1:=I.laid (a:=s.heap.objs.size) (o:=.own (s.heap.objs.size+1)) (h':=s.heap.push W.emptyDict) (t':=s.toks) (λb u q=>qab _ q) γO ⟨_,e1⟩;refine I1.laid (a:=s.heap.objs.size+1) (o:=.ins C s.heap.objs.size []) (t':=s.toks) (λb u q=>qab _ q) (Nat.le_of_eq (Heap.size_push _ _)) ?_;have ne:s.heap.objs.size≠s.heap.objs.size+1:=qal (qa3 _);refine⟨by rw[bh ne,eC],qaW _,ne,e2,λ_=>none,(Heap.Ns1.of_empty e3).at λo q=>qab _ q,λ_=>True.intro,λy hy=>absurd rfl hy⟩
theorem Jn(hb:attributeBase e f env (eval e env)=eval e env)
 (h:wpAny γ A (eval e env) (λo aI=>wpAny γ A (getAttr o f true) Q E aI) E s):wpAny γ A (eval θS env) Q E s:=
 Attribute_any_ h (by rw[arm_eval_Attribute,hb])
end
def RA(K:zze)(ta:TE)(f:Str):TE:=λσ H Q=>ta σ H λx H1=>∃a C dx fs v,x=.ref a/\H1 a=some εr/\jq K C/\bj K C f/\fs.lookup f=some v/\Q v H1
def RB(K:zze)(ta tv:TE)(f:Str):TS:=λD σ H=>tv σ H λy H1=>ta σ H1 λx H2=>∃a C dx fs,x=.ref a/\H2 a=some εr/\jq K C/\bj K C f/\fs.length<1000 /\
 D.nx σ (upd H2 a (.ins C dx (jN f y fs)))
section
variable{X:Cx}{o e value:Expr}{f:Str}{pos pos' tpos:Pos}{ta tv:TE}
theorem RC(he:PE X e ta)(hb:attributeBase e f X.env εO=eval e X.env):PE X θS (RA X.K ta f):=by intro pins s σ H Q I h;refine Jn hb (aK γF λu s1 zq=>?_);obtain⟨x,H1,I1,rx,a,C,dx,fs,v,ex,ea,c,n,l,q⟩:=zq;subst ex;obtain rfl:u=Value.ref a:=rx;exact Ry I1 ea c n l λu' s2 I2 ru=>⟨v,H1,I2,ru,q⟩
theorem RD(ha:PE X o ta)(hv:PE X value tv)(hs:swapsWith value (some (.Attribute o f pos')) pos.line X.env=pure false):PS X (.Assign [.Attribute o f pos'] value pos) (RB X.K ta tv f):=by intro pins s σ H D I h;refine plainObj_wpAny_Assign_Attribute (aK (hv pins s σ H _ I h) λu s1 zq=>?_) hs;obtain⟨y,H1,I1,ry,q⟩:=zq;refine aK (ha pins s1 σ H1 _ I1 q) λov s2 zq=>?_;obtain⟨x,H2,I2,rx,a,C,dx,fs,ex,ea,c,n,l,q2⟩:=zq;subst ex;obtain rfl:ov=Value.ref a:=rx;exact Rz I2 ea c n l ry λs3 I3=>⟨σ,_,I3,q2⟩
end
section
variable{X:Cx}{pins:W1}{σ:St}{H:Hp}{s:Shared}{A:Around}{E:T0}{Q:T0}{c:Value}{b:Bool}
inductive eE(K:zze)(H:Hp):V->Value->Prop where
 |ax:eE K H .ax (.type "NoneType")
 |bl (x:Bool):eE K H (.bl x) (.type "bool")
 |int (i:Int):eE K H (.int i) (.type "int")
 |str (x:Str):eE K H (.str x) (.type "str")
 |flt (x:UInt64):eE K H (.flt x) (.type "float")
 |lst {a:Addr}{xs:γB} (e:H a=some (.lst xs)):eE K H (.ref a) (.type "list")
 |ae {a:Addr}{o:Obj}{xs:γB} (e:H a=some (.ae o (.lst xs))):eE K H (.ref a) (.type "list")
 |tup {a:Addr}{xs:γB} (e:H a=some (.tup xs)):eE K H (.ref a) (.type "tuple")
 |dK {a:Addr}{kvs:List (Key×V)} (e:H a=some (.dK kvs)):eE K H (.ref a) (.type "dict")
 |dT {a:Addr}{kvs:List (List Key×V)} (e:H a=some (.dT kvs)):eE K H (.ref a) (.type "dict")
 |ins {a C dx:Addr}{fs:List (Str×V)} (e:H a=some (.ins C dx fs)) (cl:jq K C) (ha:W.findIn K (.ref C) "__class__" = some (some (.builtin "object.__class__")))
  (hn:W.specialIn K (.builtin "object.__class__") "__get__" = some (some (.builtin "getset_descriptor.__get__"))) (htk:W.takesIn K (.builtin "object.__class__")=some true)
  (hm:W.mroIn K C (.type "object")=some true):eE K H γC γf
theorem RE(I:ε)(rx:RelV x u)(ty:eE X.K H x t)(e:W.kitOne X.K t c=some b)(h:∀tk,Q (.bool b) {s with toks:=tk}) :
 wpAny δ A (call (.builtin "isinstance") [u,c]) Q E s:=by
 cases ty with
 |ax=>cases (show u=Value.none from rx);exact W.kia_one W.kitx_none I.bV True.intro e (λz=>nomatch z) h
 |bl y=>cases (show u=Value.bool y from rx);exact W.kia_one W.kitx_bool I.bV True.intro e (λz=>nomatch z) h
 |int i=>obtain⟨t,q⟩:=(show ∃t,u=Value.int i t from rx);cases q;exact W.kia_one W.kitx_int I.bV True.intro e (λz=>nomatch z) h
 |str y=>obtain⟨t,q⟩:=(show ∃t,u=Value.str y t from rx);cases q;exact W.kia_one W.kitx_str I.bV True.intro e (λz=>nomatch z) h
 |flt y=>obtain⟨t,q⟩:=(show ∃t,u=Value.float y t from rx);cases q;exact W.kia_one W.kitx_float I.bV True.intro e (λz=>nomatch z) h
 | @lst a xs ea =>
   cases (show u=Value.ref a from rx);obtain⟨_,_,n,_,h1⟩:=(show aJ X.prog X.w H s.heap a γo from I.hok a _ ea);exact W.kia_one W.kitx_list I.bV ⟨_,h1,rfl⟩ e (λz=>nomatch z) h
 | @ae a ob xs ea =>
   cases (show u=Value.ref a from rx);obtain⟨_,_,_,n,_,h1⟩:=(show aJ X.prog X.w H s.heap a (.ae ob γo) from I.hok a _ ea);exact W.kia_one W.kitx_list I.bV ⟨_,h1,rfl⟩ e (λz=>nomatch z) h
 | @tup a xs ea =>
   cases (show u=Value.ref a from rx);obtain⟨_,_,_,p⟩:=(show aJ X.prog X.w H s.heap a γN from I.hok a _ ea);obtain⟨o,h1,h2,_⟩:=p;exact W.kia_one W.kitx_tuple I.bV ⟨o,h1,h2⟩ e (λz=>nomatch z) h
 | @dK a kvs ea =>
   cases (show u=Value.ref a from rx);obtain⟨_,_,vs,_,p⟩:=(show aJ X.prog X.w H s.heap a (.dK kvs) from I.hok a _ ea);obtain⟨o,es,ep,h1,h2,_⟩:=p;exact W.kia_one W.kitx_dict I.bV ⟨o,h1,h2.1⟩ e (λz=>nomatch z) h
 | @dT a kvs ea =>
   cases (show u=Value.ref a from rx);obtain⟨_,_,xs,_,o,es,ep,h1,h2,_⟩:=(show aJ X.prog X.w H s.heap a (.dT kvs) from I.hok a _ ea);exact W.kia_one W.kitx_dict I.bV ⟨o,h1,h2.1⟩ e (λz=>nomatch z) h
 | @ins a C dx fs ea cl ha hn htk hm =>
   cases (show u=Value.ref a from rx);obtain⟨mA,O,_⟩:=xf I.hok ea;obtain⟨od,J,_⟩:=O.look;exact W.kia_one θa I.bV J e (λz=>nomatch z) h
end
structure az(k:Nat)(A:Around):Prop where
 hd:A.handled=none
 dp:A.depth+3*k+5<recursionLimit
 un:A.units+16*k+200<cLine
 gd:A.guards=some []
theorem az.mono(r:az k A)(h:j<=k):az j A:=⟨r.hd,by have:=r.dp;omega,by have:=r.un;omega,r.gd⟩
theorem az.deeper(r:az (k+1) A)(env:Env):az k (A.deeper env):=
 ⟨r.hd,by have:=r.dp;show A.depth+1+3*k+5<_;omega,by have:=r.un;show A.units+3+16*k+200<_;omega,r.gd⟩
theorem RF{A:Around}:(A.under (.builtin "type.__call__" ⟨.ref C::us,kw⟩)).depth=A.depth+1:=by first|rfl|simp[Around.under,Code.weight,Code.isCreation,Code.isGuard,Code.isCaller,Code.frames,Code.isFrame,guardIds]
theorem RG{A:Around}:(A.under (.builtin "type.__call__" ⟨.ref C::us,kw⟩)).units=A.units+1:=by first|rfl|simp[Around.under,Code.cUnits,Code.frames,Code.isFrame]
theorem RH{A:Around}(h:A.guards=some []):(A.under (.builtin "type.__call__" ⟨.ref C::us,kw⟩)).guards=some []:=by show pushGuards (Code.guards (.builtin "type.__call__" ⟨.ref C::us,kw⟩)) A.guards=some [];rw[h];first|rfl| (simp[Code.guards,Code.isGuard,guardIds,pushGuards])
theorem az.make(r:az (k+1) A)(C:Addr)(us:v4)(kw:List (Str×Value)):az k (A.under (.builtin "type.__call__" ⟨.ref C::us,kw⟩)):=
 ⟨r.hd,by have:=r.dp;rw[RF];omega,by have:=r.un;rw[RG];omega,RH r.gd⟩
theorem az.depth(r:az k A):A.depth<recursionLimit:=by have:=r.dp;omega
theorem az.units(r:az k A):A.units+64<cLine:=by have:=r.un;omega
def rB:TA:=λ_ H Q=>Q [] H
def l_(ta:TE)(tr:TA):TA:=λσ H Q=>ta σ H λx H1=>tr σ H1 λxs H2=>Q (x::xs) H2
section
variable{X:Cx}{e:Expr}{es:zza}{te:TE}{t:TA}{pos:Pos}
theorem oh:PA X [] rB:=λ_ _ _ _ H Q I h=>Calls.spliced_nil ⟨[],H,I,.nil,h⟩
theorem jU(ha:ζO)(hr:PA X es t)(hs:starEach (e::es) X.env=(false,eval e X.env)::starEach es X.env:=by rfl):PA X (e::es) (l_ te t):=by intro pos pins s σ H Q I h;rw[hs];show wpAny _ _ (spliced ((false,eval e X.env)::backTo pos γc)) _ _ s;refine Calls.spliced_cons (aK γG λu s1 zq=>?_);obtain⟨x,H1,I1,r1,q1⟩:=zq;exact aK (hr pos pins s1 σ H1 _ I1 q1) λus s2 ⟨xs,H2,I2,r2,q2⟩=>⟨x::xs,H2,I2,.cons r1 r2,q2⟩
def Jo(t:TA):TE:=λσ H Q=>t σ H λxs H1=>xs.length<=sizeLine/\∀p,H1 p=none->Q γJ (upd H1 p γN)
def RI(t:TA):TE:=λσ H Q=>t σ H λxs H1=>xs.length<=sizeLine/\∀p,H1 p=none->Q γJ (upd H1 p γo)
theorem Jp{x1}(h:PA X es t):PE X (.Tuple es x1 pos) (Jo t):=by intro pins s σ H Q I hq;refine wpAny_Tuple_spliced (aK (h pos pins s σ H _ I hq) λus s1 zq=>?_);obtain⟨xs,H1,I1,r,z,q⟩:=zq;refine⟨by rw[<-r.length];exact z,?_⟩;have hf:H1 s1.heap.objs.size=none:=I1.hok.fresh γO;refine⟨.ref s1.heap.objs.size,upd H1 s1.heap.objs.size γN,I1.laid (t':=s1.toks) (λb u e=>qab _ e) γO ?_,rfl,q _ hf⟩;exact⟨z,us,r,⟨_,qao _ rfl,rfl,_,rfl⟩⟩
theorem RJ(h:PA X es t):PE X (.List es pos) (RI t):=by intro pins s σ H Q I hq;refine wpAny_List_spliced (aK (h pos pins s σ H _ I hq) λus s1 zq=>?_);obtain⟨xs,H1,I1,r,z,q⟩:=zq;refine⟨by rw[<-r.length];exact z,?_⟩;have hf:H1 s1.heap.objs.size=none:=I1.hok.fresh γO;refine⟨.ref s1.heap.objs.size,upd H1 s1.heap.objs.size γo,I1.laid (t':=s1.toks) (λb u e=>qab _ e) γO ?_,rfl,q _ hf⟩;exact⟨z,us,0,r,qao _ rfl⟩
end
abbrev Sp:=List V->Hp->VK->XK->Prop
abbrev oi:=List Env->Hp->Shared->XK->T0
structure lF(P:Program)(w:World)(K:zze)(mg:M2)(base:Heap)(A:Around)(outer:δq)(s:Shared)(H:Hp):Prop where
 frames:A.frames=some outer
 mod:Mod K mg base
 bs:∀b o,base.get? b=some o->s.heap.get? b=some o/\H b=none
 l7:base.objs.size<=s.heap.objs.size
 eD:s.heap.FunFrames base outer
 n5:∀b∈frs outer,H b=none
 hok:dJ P w H s.heap
 bare:AllBare s.gens
def CE(outer:δq)(P:Program)(w:World)(H:Hp)(s:Shared)(Q:VK)(u:Value)(s':Shared):Prop:=
 ∃v H',s'.os=s.os/\AllBare s'.gens/\Un (frs outer) [] H H' s.heap s'.heap/\dJ P w H' s'.heap/\RelV v u/\Q v H'
def CR(CX:oi)(outer:δq)(P:Program)(w:World)(H:Hp)(s:Shared)(Q:VK)(E:XK)(r:Result)(s':Shared):Prop:=
 match r with
 |.ok (.ret u)=>CE outer P w H s Q u s'
 |.ok _=>False
 |.error e=>CX outer H s E e s'
structure bz(P:Program)(w:World)(K:zze)(mg:M2)(base:Heap)(CX:oi)(k:Nat)(f:Addr)(fd:FuncData)(ps:v6)(sp:Sp):Prop where
 len:∀vs H Q E,sp vs H Q E->vs.length=ps.length
 run:∀(A:Around) (outer:δq) (s:Shared) (H:Hp) (args:Args) (us:v4) (vs:γB) (Q:VK) (E:XK),az k A->lF P w K mg base A outer s H->BindsTo s fd args εX->Vals vs us->sp vs H Q E ->
  codeAny εY A (.call γ7 args) (CR CX outer P w H s Q E) s
theorem bz.imp{P:Program}{w:World}{K:zze}{mg:M2}{base:Heap}{CX:oi}{k:Nat}{f:Addr}{fd:FuncData}{ps:v6}{sp Jq:Sp}(F:bz P w K mg base CX k f fd ps sp)
 (h:∀vs H Q E,Jq vs H Q E->sp vs H Q E):bz P w K mg base CX k f fd ps Jq:=
 ⟨λvs H Q E q=>F.len vs H Q E (h _ _ _ _ q),λA outer s H args us vs Q E hr he hb hv hs=>F.run A outer s H args us vs Q E hr he hb hv (h _ _ _ _ hs)⟩
theorem lF.make{P:Program}{w:World}{K:zze}{mg:M2}{base:Heap}{A:Around}{outer:δq}{s:Shared}{H:Hp}(e:lF P w K mg base A outer s H)(C:Addr)(us:v4)(kw:List (Str×Value)) :
 lF P w K mg base (A.under (.builtin "type.__call__" ⟨.ref C::us,kw⟩)) outer s H:=⟨by first|exact e.frames| (simpa [Around.under,Code.envs,Code.isFrame,pushEnvs]using e.frames),e.mod,e.bs,e.l7,e.eD,e.n5,e.hok,e.bare⟩
section
variable{X:Cx}{pins:W1}{σ:St}{H:Hp}{s s':Shared}
theorem Inv.env0(I:ε):lF X.prog X.w X.K X.mg X.base X.A X.stack s H:=
 ⟨I.ok.frames,I.ok.mod,I.bs,qaO I.ok.l7 I.sz,I.stack,I.gM,I.hok,I.bare⟩
theorem Inv.after(I:ε)(h:CE X.stack X.prog X.w H s Q u s'):EP X pins σ Q u s':=by obtain⟨v,H',os,bare,un,hok,r,q⟩:=h;obtain⟨hh,g,d,t,os'⟩:=s';obtain rfl:os'=s.os:=os;exact⟨v,H',I.call (h':=hh) (g':=g) (d':=d) (t':=t) (ch:=[]) un hok bare (λb z=>absurd z (by simp)),r,q⟩
end
def Jr(sp:Sp)(cS:γB)(E:XK)(t:TA):TE:=λσ H Q=>t σ H λvs H1=>sp (vs++cS) H1 Q E
def Js(C:Addr)(m:Str)(sp:Sp)(cS:γB)(E:XK)(ta:TE)(t:TA):TE:=λσ H Q=>ta σ H λx H1=>∃a dx fs,x=.ref a/\H1 a=some εr/\fs.lookup m=none /\
 t σ H1 λvs H2=>sp (x::(vs++cS)) H2 Q E
def Binds(K:zze)(fd:FuncData)(ps:v6)(ds:v4):Prop:=
 ∀(s:Shared) (us:v4),K.In s.heap->(us++ds).length=ps.length->BindsTo s fd ⟨us,[]⟩ (ps.zip (us++ds))
theorem Binds.all{K:zze}{fd:FuncData}{ps:v6}(h:∀us:v4,us.length=ps.length->bindArgs fd ⟨us,[]⟩=pure εX):Binds K fd ps []:=λs us _ hl=>by rw[qbk]at hl ⊢;exact .of_eq (h us hl)
def xg(CX:oi)(X:Cx)(E:XK):Prop:=∀(pins:W1) (σ:St) (H:Hp) (s:Shared) (e:Value) (s':Shared),Inv X pins σ H s->CX X.stack H s E e s'->X.xe e s'
section
variable{X:Cx}{CX:oi}{k:Nat}{f C:Addr}{fd:FuncData}{ps:v6}{sp:Sp}{cS:γB}{ds:v4}{E:XK}{x m:Str}{p pos apos:Pos}{e o:Expr}{es:zza}{ta:TE}{t:TA}
theorem C_{pins:W1}{σ:St}{H:Hp}{s:Shared}{Q:VK}{us:v4}{vs:γB}(F:δi)(hr:γX)(hb:δa)(hd:ε5)(hx:xg CX X E)
 (I:ε) (r:Vals vs us) (h:sp (vs++cS) H Q E):wpAny δ X.A (call γ7 us) γL X.xe s:=by
 have r2:Vals (vs++cS) (us++ds):=r.append hd;have hl:(us++ds).length=ps.length:=by rw[<-r2.length];exact F.len _ _ _ _ h
 refine wpAny_call (codeAny_mono (F.run X.A X.stack s H ⟨us,[]⟩ (us++ds) (vs++cS) Q E hr I.env0 (hb s us I.bV hl) r2 h) λr s' hq=>?_);cases r with
 |error e=>exact hx pins σ H s e s' I hq
 |ok fl =>
   cases fl with
   |ret u=>exact I.after hq
   |next=>exact False.elim hq
   |brk=>exact False.elim hq
   |cont=>exact False.elim hq
theorem RK(F:δi)(hr:γX)(hg:ζD)(hm:X.mg x=some γ7)(hk:W.keepIn X.K γ7=true)(hb:δa)(hd:ε5)(hx:xg CX X E)
 (ha:PA X (e::es) t) (hdb:(x == ("__debug__":Str))=false:=by decide) (he:starEach (e::es) X.env=(false,eval e X.env)::starEach es X.env:=by rfl) (hpl:(backTo pos γc).any (·.1)=false:=by rfl) :
 PE X (.Call δx (e::es) [] pos) (Jr sp cS E t):=by intro pins s σ H Q I h;refine qbr (uS I hg hm ?_ hdb);refine W.callWith_K (h₀:=X.base) I.ok.mod.qs hk (aK γV λus s1 zq=>?_) he hpl;obtain⟨vs,H1,I1,r,q⟩:=zq;refine⟨I1.bV,?_⟩;exact C_ F hr hb hd hx I1 r q
theorem RL{pl:Sem Bool}(he:PE X o ta)(c:jq X.K C)(hm:Meth X.K C m f)(F:δi)(hr:γX)(hb:δa)(hd:ε5)(hx:xg CX X E)(ha:PA X (e::es) t)
 (hst:starEach (e::es) X.env=(false,eval e X.env)::starEach es X.env:=by rfl) (hpl:(backTo pos γc).any (·.1)=false:=by rfl)
 (ht:eval (.Call γE (e::es) [] pos) X.env=(do
  let ov <-eval o X.env
  standAt apos.atName
  let (f,first) <-holding [ov] εg
  callWith pos f first (backTo pos (starEach (e::es) X.env)) (backToKw pos (keywordEach [] X.env))):=by rfl) :
 PE X (.Call γE (e::es) [] pos) (Js C m sp cS E ta t):=by intro pins s σ H Q I h;refine W.methodCall_KW (pl:=pl) (aK γF λu s1 zq=>?_) ht;obtain⟨x,H1,I1,rx,a,dx,fs,ex,ea,l,q⟩:=zq;subst ex;obtain rfl:u=Value.ref a:=rx;refine Jm I1 ea c hm l ?_;refine W.callWith_K (first:=[.ref a]) (h₀:=X.base) I.ok.mod.qs hm.kp (aK (ha pos pins s1 σ H1 _ I1 q) λus s2 zq=>?_) hst hpl;obtain⟨vs,H2,I2,r,q2⟩:=zq;refine⟨I2.bV,?_⟩;exact C_ (us:=.ref a::us) (vs:=.ref a::vs) F hr hb hd hx I2 (.cons rfl r) q2
theorem RM(he:PE X o ta)(c:jq X.K C)(hm:Meth X.K C m f)(F:δi)(hr:γX)(hb:δa)(hd:ε5)(hx:xg CX X E)
 (ht:eval (.Call γE [] [] pos) X.env=(do
  let ov <-eval o X.env
  standAt apos.atName
  let (f,first) <-holding [ov] εg
  callWith pos f first (backTo pos (starEach [] X.env)) (backToKw pos (keywordEach [] X.env))):=by rfl) :
 PE X (.Call γE [] [] pos) (Js C m sp cS E ta rB):=by intro pins s σ H Q I h;refine W.methodCall_KW (pl:=pl) (aK γF λu s1 zq=>?_) ht;obtain⟨x,H1,I1,rx,a,dx,fs,ex,ea,l,q⟩:=zq;subst ex;obtain rfl:u=Value.ref a:=rx;refine Jm I1 ea c hm l ?_;exact W.callWith_K0 (first:=[.ref a]) I1.bV hm.kp (C_ (us:=[.ref a]) (vs:=[.ref a]) F hr hb hd hx I1 (.cons rfl .nil) q)
structure Mk(K:zze)(C f:Addr):Prop where
 makes:W.makesIn K C=true
 init:W.findIn K γf "__init__" = some (some γ7)
 fn:W.isFn K γ7=true
 kp:W.keepIn K γf=true
end
structure ag(N P:v6)(sc:Scope):Prop where
 kind:sc.kind=.function
 co:sc.isCoroutine=false
 gen:sc.isGenerator=false
 nd:N.Nodup
 pre:N.take P.length=P
 par:∀x∈P,sc.names.lookup x=some .local\/sc.names.lookup x=some .cell
 s_:∀y∈sc.names,y.2≠.free
theorem Jt{kindOf:Str->Option NameKind}{x:Str}:∀{binds:List (Str×Value)}{m:M2},(∀v,(x,v)∉binds)->bindL kindOf binds m x=m x
 |[],_,_=>rfl
 | (n,v)::r,m,h=>by
   unfold bindL;rw[Jt λw hw=>h w (qae _ hw)];split
   .have:x≠n:=by rintro rfl;exact h v qag
    simp[this]
   .rfl
theorem Ju{kindOf:Str->Option NameKind}{x:Str}:∀{binds:List (Str×Value)}{m:M2},(∀v,(x,v)∉binds)->bindC kindOf binds m x=m x
 |[],_,_=>rfl
 | (n,v)::r,m,h=>by
   unfold bindC;rw[Ju λw hw=>h w (qae _ hw)];split
   .rfl
   .have:x≠n:=by rintro rfl;exact h v qag
    simp[this]
theorem Jv{kindOf:Str->Option NameKind}{x:Str}{v:Value}:∀{P:v6}{vs:v4}{i:Nat}{m:M2},P.Nodup->P[i]?=some x->vs[i]?=some v->kindOf x=some .local ->
 bindL kindOf (P.zip vs) m x=some v
 |[],_,_,_,_,h,_,_=>by simp at h
 |_::_,[],_,_,_,_,h,_=>by simp at h
 |p::P,w::vs,0,m,nd,h1,h2,hk=>by simp at h1 h2;subst h1;subst h2;show bindL kindOf ((p,w)::P.zip vs) m p=_;unfold bindL;rw[Jt λv hv=>(qbd.mp nd).1 (List.of_mem_zip hv).1,qaF hk];simp
 |p::P,w::vs,i+1,m,nd,h1,h2,hk=>by show bindL kindOf ((p,w)::P.zip vs) m x=_;unfold bindL;exact Jv (i:=i) (qbd.mp nd).2 (by simpa using h1) (by simpa using h2) hk
theorem Jw{kindOf:Str->Option NameKind}{x:Str}{v:Value}:∀{P:v6}{vs:v4}{i:Nat}{m:M2},P.Nodup->P[i]?=some x->vs[i]?=some v->kindOf x≠some .local ->
 bindC kindOf (P.zip vs) m x=some v
 |[],_,_,_,_,h,_,_=>by simp at h
 |_::_,[],_,_,_,_,h,_=>by simp at h
 |p::P,w::vs,0,m,nd,h1,h2,hk=>by simp at h1 h2;subst h1;subst h2;show bindC kindOf ((p,w)::P.zip vs) m p=_;unfold bindC;rw[Ju λv hv=>(qbd.mp nd).1 (List.of_mem_zip hv).1,qaC hk];simp
 |p::P,w::vs,i+1,m,nd,h1,h2,hk=>by show bindC kindOf ((p,w)::P.zip vs) m x=_;unfold bindC;exact Jw (i:=i) (qbd.mp nd).2 (by simpa using h1) (by simpa using h2) hk
noncomputable def start(N:v6)(vs:γB):St:=vs.map some++List.replicate (N.length-vs.length) none
noncomputable def iY(CX:oi)(P:Program)(w:World)(K:zze)(mg:M2)(base:Heap)(N:v6)(qual:Str)(scope:Scope)(f:Addr)(cd:Value)(A:Around)(outer:δq)(s:Shared)(H:Hp)(E:XK):Cx where
 prog:=P
 w:=w
 K:=K
 mg:=mg
 base:=base
 A:=A.deeper γH
 N:=N
 s₀:=s
 H₀:=H
 env:=envOfC qual scope s.heap.objs.size f cd
 outer:=outer
 stack:=envOfC qual scope s.heap.objs.size f cd::outer
 ex:=[]
 calm:=true
 fn:=λ_=>true
 pn:=[]
 xe:=λe s'=>wpAny εY (A.deeper γH) (leaving γH e) (λ_ s''=>CX outer H s E e s'') (λe' s''=>CX outer H s E e' s'') s'
theorem Jx{sc:Scope}(h:sc.names.lookup x=some .cell):∃c,(cellsFrom n sc.names []).lookup x=some c:=by have q:=W.cellsFrom_some sc.names n [] (.inl h);exact Option.isSome_iff_exists.mp q
theorem RN{CX:oi}{P:Program}{w:World}{K:zze}{mg:M2}{base:Heap}{N ps:v6}{qual:Str}{scope:Scope}{f:Addr}{cd:Value}{A:Around}{outer:δq}{s s1:Shared}{H:Hp}{E:XK}{us:v4}{vs:γB}
 (S:ag N ps scope) (hd:A.handled=none) (e0:lF P w K mg base A outer s H) (hl:vs.length=ps.length) (r:Vals vs us)
 (x:InCallC s s.heap.objs.size (bindL (envOfC qual scope s.heap.objs.size f cd).kindOf εX λ_=>none) (cellsFrom (s.heap.objs.size+1) scope.names []) (bindC (envOfC qual scope s.heap.objs.size f cd).kindOf εX λ_=>none) s1) :
 Inv (iY CX P w K mg base N qual scope f cd A outer s H E) [] θk H s1:=by
 have hpl:ps.length<=N.length:=by have:=congrArg List.length S.pre;rw[qbv]at this;omega
 obtain⟨h1,tk,rfl,hk⟩:=x.done;have xh:∀b:Addr,b∉(iY CX P w K mg base N qual scope f cd A outer s H E).ex:=λb z=>absurd (show b∈([]:zzd) from z) (by simp)
 refine⟨⟨e0.mod,S.kind,rfl,rfl,qam _,λy z c h1 h2=>?_,λy hy=>?_,λy c _ h=>?_,λ_=>hd,Around.frames_deeper e0.frames,.inr ⟨rfl,rfl⟩,λb z=>absurd z (xh b),e0.bs,e0.l7,λb _ _=>xh b,λb z=>absurd z (xh b),e0.eD,e0.n5⟩,
  rfl,e0.bare,Un.kept hk,⟨_,x.toInCall.ns,λi y v h1 h2 h3=>?_⟩,λy c h=>⟨_,x.cell y c h⟩,e0.hok.fresh γO,λy c h=>?_,λp hp=>absurd (show p∈([]:W1) from hp) (by simp),e0.hok.kept hk,?_⟩
 .exact name_of_addr x.apart (PySem.mem_of_lookup h1) (PySem.mem_of_lookup h2)
 .have hy:scope.names.lookup y=some .cell\/scope.names.lookup y=some .free:=hy;rcases hy with hy|hy
  .exact Jx hy
  .exact absurd rfl (S.s_ _ (PySem.mem_of_lookup hy))
 .exact Nat.le_of_lt θK
 .have hi:i<vs.length:=by
   unfold start at h2;by_cases hi:i<vs.length
   .exact hi
   .rw[qbw (by simpa using hi)]at h2;rw[qbE]at h2;split at h2<;>cases h2
  have ha:vs[i]?=some v:=by
   unfold start at h2;rw[qa8 (by simpa using hi),qaB]at h2;cases e:vs[i]? with
   |none=>rw[e]at h2;cases h2
   |some a=>rw[e]at h2;cases h2;rfl
  obtain⟨u,hu,rv⟩:=r.get ha
  have hp:ps[i]?=some y:=by rw[<-S.pre,List.getElem?_take_of_lt (by omega)];exact h1
  have Jy:ps.Nodup:=by rw[<-S.pre];exact S.nd.sublist (List.take_sublist _ _)
  refine⟨u,rv,?_⟩
  rcases S.par y (qba hp) with k|k
  .exact .inl ⟨k,Jv Jy hp hu k⟩
  .obtain⟨c,e⟩:=Jx (n:=s.heap.objs.size+1) k
   refine .inr ⟨.inl k,c,e,?_⟩
   have q:=x.cell y c e
   rw[Jw Jy hp hu (by show scope.names.lookup y≠_;rw[k];decide)]at q
   exact q
 .exact e0.hok.fresh (Nat.le_of_lt θK)
 .unfold start;show _=N.length;rw[qaq,qaf,qbA];omega
theorem AG{CX:oi}{P:Program}{w:World}{K:zze}{mg:M2}{base:Heap}{k:Nat}{f:Addr}{name qual:Str}{params:Arguments}{body:εb}{scope:Scope}{dV kV doc pm cdv ct oc:Value}{an od:γ8}
 {osl:ηk}{N ps:v6}{sp:Sp} (lk:K.lookup f=some ⟨oc,od,.func γQ,osl⟩) (hcd:W.codeIn K cdv qual=true) (S:ag N ps scope)
 (len:∀vs H Q E,sp vs H Q E->vs.length=ps.length)
 (hbody:∀(A:Around) (outer:δq) (s:Shared) (H:Hp) (vs:γB) (Q:VK) (E:XK),az k (A.deeper (envOfC qual scope s.heap.objs.size f cdv))->sp vs H Q E ->
  ∃t,PSs δP body t/\t {nx:=λ_ H'=>Q .ax H',rt:=Q} θk H) :
 bz P w K mg base CX (k+1) f γQ ps sp:=by
 refine⟨len,λA outer s H args us vs Q E hr e0 hb r hsp=>?_⟩;have hl:=len _ _ _ _ hsp;have KX:K.In s.heap:=e0.mod.qs.keeps λb o e=>(e0.bs b o e).1;have lim:s.heap.NoLimit:=e0.mod.nolimit.keeps λb o e=>(e0.bs b o e).1
 have hkind:∀y∈ps.zip us,scope.names.lookup y.1=some .local\/(scope.names.lookup y.1=some .cell/\((cellsFrom (s.heap.objs.size+1) scope.names []).lookup y.1).isSome=true):=λ⟨n,v⟩ hy=>by
  rcases S.par n (List.of_mem_zip hy).1 with q|q
  .exact .inl q
  .exact .inr ⟨q,W.cellsFrom_some _ _ _ (.inl q)⟩
 refine codeAny_call_function hr.depth (KX _ _ lk) rfl S.co S.gen rfl (W.codeRec_of KX hcd) (hb _ _ _ _ ?_);refine wpAny_newFunctionEnv_cells S.kind hkind λenv he s1 x=>?_;subst he;refine⟨lim.keeps x.toInCall.keep,codeAny_func ?_⟩;obtain⟨t,ht,hq⟩:=hbody A outer s H vs Q E (hr.deeper _) hsp;have I:Inv δP [] θk H s1:=RN S hr.hd e0 hl r x;refine qaS (ht [] s1 θk H _ I hq) (λfl s' hs=>?_) λe s' hs=>hs
 have fin:∀{aB:St}{H':Hp}{v:V}{u:Value},Inv δP [] aB H' s'->RelV v u->Q v H'->CE outer P w H s Q u s':=
  λ{aB H' v u} J rv q=>⟨v,H',J.os,J.bare,J.base,J.hok,rv,q⟩
 cases fl with
 |ret u =>
   obtain⟨v,aB,H',J,rv,q⟩:=hs;exact fin J rv q
 |next =>
   obtain⟨aB,H',J,q⟩:=hs;exact fin (v:=V.ax) (u:=Value.none) J rfl q
 |brk =>
   obtain⟨_,_,_,q⟩:=hs;exact False.elim q
 |cont =>
   obtain⟨_,_,_,q⟩:=hs;exact False.elim q
section
variable{X:Cx}{x:Str}{p pos:Pos}{e:Expr}{es:zza}{t:TA}{id T:String}{r:List V->Hp->VK->Prop}
def rC(r:List V->Hp->VK->Prop)(t:TA):TE:=λσ H Q=>t σ H λvs H1=>r vs H1 Q
theorem rD(hc:aN X εK r)(hg:ζD)(hm:X.mg x=none)(hv:bootBuiltins x=some εK)(ha:PA X (e::es) t)(hn:x≠"__name__":= by decide)(hdb:(x == ("__debug__":Str))=false:=by decide)
 (he:starEach (e::es) X.env=(false,eval e X.env)::starEach es X.env:=by rfl) (hpl:(backTo pos γc).any (·.1)=false:=by rfl):PE X (.Call δx (e::es) [] pos) (rC r t):=by intro pins s σ H Q I h;refine qbr (sV I hg hm hv ?_ hn hdb);exact PyProof.Rows.callWith_builtin1 (aK γV λus s1 ⟨vs,H1,I1,r1,q1⟩=>hc pins s1 σ H1 vs us Q I1 r1 q1) he hpl
theorem uZ(hc:aN X (.type T) r)(hg:ζD)(hm:X.mg x=none)(hv:bootBuiltins x=some (.type T))(ha:PA X (e::es) t)(hn:x≠"__name__":= by decide)(hdb:(x == ("__debug__":Str))=false:=by decide)
 (he:starEach (e::es) X.env=(false,eval e X.env)::starEach es X.env:=by rfl) (hpl:(backTo pos γc).any (·.1)=false:=by rfl):PE X (.Call δx (e::es) [] pos) (rC r t):=by intro pins s σ H Q I h;refine qbr (sV I hg hm hv ?_ hn hdb);exact PyProof.Rows.callWith_type1 (aK γV λus s1 ⟨vs,H1,I1,r1,q1⟩=>hc pins s1 σ H1 vs us Q I1 r1 q1) he hpl
end
end L2
namespace HT
open PySem PyProof.Rows
section
variable{prog:Program}{w:World}{A:Around}{E:T0}{s:Shared}
noncomputable def bB(n d:Nat):zzf->Nat
 |none=>d
 |some v=>if v<0 then (v+(n:Int)).toNat else min v.toNat n
theorem jr(n d k:Nat):bB n d (some (k:Int))=min k n:=by show(if (k:Int)<0 then ((k:Int)+(n:Int)).toNat else min (k:Int).toNat n)=min k n;rw[qaC (by omega),Int.toNat_natCast]
theorem RO(n d:Nat)(hd:d<=n)(o:zzf):bB n d o<=n:=by
 cases o with
 |none=>exact hd
 |some v =>
   show(if v<0 then (v+(n:Int)).toNat else min v.toNat n)<=n;by_cases hv:v<0
   .rw[qaF hv];omega
   .rw[qaC hv];exact Nat.min_le_right _ _
theorem Jz(v:Int)(n d:Nat):(if v<0 then max (v+(n:Int)) 0 else min v (n:Int))=((bB n d δQ:Nat):Int):=by
 show(if v<0 then max (v+(n:Int)) 0 else min v (n:Int))=(((if v<0 then (v+(n:Int)).toNat else min v.toNat n):Nat):Int);by_cases hv:v<0
 .simp only[if_pos hv];omega
 .simp only[if_neg hv];omega
theorem RP(lo hi:zzf)(n:Nat):Builtin.Slice.sliceAdjust lo hi 1 (n:Int)=(((bB n 0 lo:Nat):Int),((bB n n hi:Nat):Int)):=by
 have h1:¬((1:Int)<0):=by omega
 unfold Builtin.Slice.sliceAdjust;simp only[h1,if_false];refine Prod.ext ?_ ?_
 .cases lo with
  |none=>rfl
  |some v=>exact Jz v n 0
 .cases hi with
  |none=>rfl
  |some v=>exact Jz v n n
theorem RQ(i j:Nat):Builtin.Slice.slicePlaces (i:Int) (j:Int) 1=j-i:=by
 unfold Builtin.Slice.slicePlaces;have h1:(1:Int)>0:=by omega
 simp only[h1,if_true,Int.ediv_one];split<;>omega
theorem JA(p:IsPart v o)(h:Q o s):wpAny γ A (Builtin.Slice.slicePartIndex v) Q E s:=by
 cases p with
 |none=>exact slicePart_none h
 |int i t=>exact slicePart_int h
theorem RR{sl:Addr}{vl vu:Value}{lo hi:zzf}{n:Nat}{Q:Int×Int×Nat->Shared->Prop}(hs:s.heap.IsSliceOf sl vl vu .none)(pl:IsPart vl lo)(pu:IsPart vu hi)
 (h:Q (((bB n 0 lo:Nat):Int),1,bB n n hi-bB n 0 lo) s):wpAny γ A (Builtin.Slice.sliceApplied θx (pure (n:Int))) Q E s:=by obtain⟨os,hos,hcs,hds⟩:=id hs;unfold Builtin.Slice.sliceApplied Builtin.Slice.sliceFields;refine qaa (qaa (wpAny_field hos hds (x:=vl) rfl (qaa (wpAny_field hos hds (x:=vu) rfl (qaa (wpAny_field hos hds (x:=.none) rfl (qac ?_)))))));refine qaa (slicePart_none ?_);show wpAny _ _ (if ((1:Int) == 0)=true then _ else _) _ _ s;rw[qaC (by decide)];refine qaa (JA pl (qaa (JA pu (qaa (qac ?_)))));show wpAny _ _ (match Builtin.Slice.sliceAdjust lo hi 1 (n:Int) with| (lo,hi)=>pure (lo,(1:Int),Builtin.Slice.slicePlaces lo hi 1)) _ _ s;rw[RP lo hi n];show wpAny _ _ (pure (((bB n 0 lo:Nat):Int),(1:Int),Builtin.Slice.slicePlaces ((bB n 0 lo:Nat):Int) ((bB n n hi:Nat):Int) 1)) _ _ s;rw[RQ];exact qac h
theorem RS(xs:zzh)(i k:Nat):((List.range k).filterMap λ(m:Nat)=>xs[((i:Int)+(m:Int)*1).toNat]?).toArray=((xs.toList.drop i).take k).toArray:=by
 have e:(λ(m:Nat)=>xs[((i:Int)+(m:Int)*1).toNat]?)=λm=>xs[i+m]?:= by
  funext m;have:((i:Int)+(m:Int)*1).toNat=i+m:=by omega
  rw[this]
 rw[e];have:=pick_run xs i k;rw[List.filterMap_map]at this;have e2:((λx=>xs[x]?) ∘ λx=>i+x)=λm=>xs[i+m]?:= rfl;rw[e2]at this;rw[this]
theorem fu{t sl:Addr}{items:zzh}{vl vu:Value}{lo hi:zzf}{Q:T0}(ht:IsTup s.heap t items)(hs:s.heap.IsSliceOf sl vl vu .none)(pl:IsPart vl lo)(pu:IsPart vu hi)
 (hw:¬(bB items.size 0 lo=0/\bB items.size items.size hi=items.size))
 (h:Q γj {s with heap:=s.heap.push {cls:=.type "tuple",data:=.seq ((items.toList.drop θN).take (bB items.size items.size hi-bB items.size 0 lo)).toArray} })
 (hsz:items.size<=sizeLine):wpAny γ A (getItem (.ref t) θx) Q E s:=by
 have fv:sizeOk (.seq ((items.toList.drop θN).take (bB items.size items.size hi-bB items.size 0 lo)).toArray):=by show((items.toList.drop θN).take (bB items.size items.size hi-bB items.size 0 lo)).toArray.size<=sizeLine;rw[qaG,qbv,List.length_drop,qaz];omega
 have hj:bB items.size items.size hi<=items.size:=RO _ _ γO hi;obtain⟨os,hos,hcs,hds⟩:=id hs;have hTs:s.TypeIs θx "slice":= ⟨os,hos,hcs⟩;unfold getItem
 try with_reducible refine qaV ?_
 first|refine qaa (qac ?_)|skip
 refine qaa (wpAny_sequenceKey ht.typeIs (by decide) ?_)
 refine qaa (qbp (name:=Str.ofString "__getitem__") ht.typeIs qbf
  (qaZ qbf ht.typeIs entry_tuple_getitem ?_ (args_tuple_getitem _ _)))
 show wpAny _ _ (Builtin.Tuple.tupleItemsOf (.ref t) >>= _) _ _ s;refine qaa (tupleItemsOf_ ht ?_);refine qaa (wpAny_typeOf hTs ?_);rw[qaF (by decide)];refine qaa (RR hs pl pu ?_)
 have hno:¬((((bB items.size 0 lo:Nat):Int) == 0&&(1:Int) == 1&&(bB items.size items.size hi-bB items.size 0 lo) == items.size)=true):=by intro q;rw[qay,qay]at q;have q1:((bB items.size 0 lo:Nat):Int)=0:=eq_of_beq q.1.1;have q2:bB items.size items.size hi-bB items.size 0 lo=items.size:=eq_of_beq q.2;exact hw ⟨by omega,by omega⟩
 show wpAny _ _ (if (((bB items.size 0 lo:Nat):Int) == 0&&(1:Int) == 1&&(bB items.size items.size hi-bB items.size 0 lo) == items.size)=true then _ else _) _ _ s;rw[qaC hno,RS]
 first
  |exact qaa (m:=Builtin.Tuple.tupleExact _) (qaJ (qac ⟨_,rfl,qac h⟩) fv)
  |exact qaa (m:=Builtin.Tuple.tupleExact _) (qaJ (qaa (qac (qac ⟨_,rfl,qac h⟩))) fv)
  |exact qaa (qaa (m:=Builtin.Tuple.tupleExact _) (qaJ (qac (qac ⟨_,rfl,qac h⟩)) fv))
  |exact qaa (qaa (m:=Builtin.Tuple.tupleExact _) (qaJ (qac ⟨_,rfl,qac h⟩) fv))
end
end HT
namespace L2
open PySem PySem.Spec PyProof.Rows
abbrev TO:=St->Hp->(zzf->Hp->Prop)->Prop
def PO(X:Cx)(e:Option Expr)(t:TO):Prop:=
 ∀(pins:W1) (s:Shared) (σ:St) (H:Hp) (Q:zzf->Hp->Prop),Inv X pins σ H s->t σ H Q ->
  wpAny δ X.A (evalPart e X.env) (λu s'=>∃o H',Inv X pins σ H' s'/\IsPart u o/\Q o H') X.xe s
def RT:TO:=λ_ H Q=>Q none H
def RU(t:TE):TO:=λσ H Q=>t σ H λx H1=>∃i,x=.int i/\Q (some i) H1
theorem intsAre_of{ns:u8}:∀{us:v4},Vals γD us->IntsAre us ns:=by
 induction ns with
 |nil=>intro us r;rw[List.map_nil]at r;cases r;exact .nil
 |cons n ns ih =>
   intro us r;rw[qav]at r;cases r with
   |cons r1 r2 =>
     obtain⟨t,e⟩:=r1;subst e;exact .cons n t (ih r2)
section
variable{X:Cx}{e:Expr}{te:TE}{lo hi:Option Expr}{tl th:TO}{pos p2:Pos}
theorem Dc:PO X none RT:=by intro pins s σ H Q I h;rw[evalPart_none];exact qac ⟨none,H,I,.none,h⟩
theorem RX(h:ζO):PO X εQ (RU te):=by intro pins s σ H Q I hw;rw[evalPart_some];refine aK (h pins s σ H _ I hw) λu s1 zq=>?_;obtain⟨x,H1,I1,r1,q1⟩:=zq;obtain⟨i,rfl,q⟩:=q1;obtain⟨t,rfl⟩:=r1;exact⟨some i,H1,I1,.int i t,q⟩
def lG(X:Cx)(r:V->zzf->zzf->Hp->VK->Prop):Prop:=
 ∀(pins:W1) (s:Shared) (σ:St) (H:Hp) (x:V) (v vl vu:Value) (lo hi:zzf) (sl:Addr) (Q:VK),Inv X pins σ H s->RelV x v->s.heap.IsSliceOf sl vl vu .none->IsPart vl lo->IsPart vu hi->r x lo hi H Q ->
  ∃T id,typeLookup (.type T) "__getitem__" = pure (some εK)/\s.TypeIs v T/\wpAny δ X.A (getItem v θx) γL X.xe s
theorem lG.or(h:lG X r)(h':lG X r'):lG X (λx lo hi H Q=>r x lo hi H Q\/r' x lo hi H Q):=by
 intro pins s σ H x v vl vu lo hi sl Q I rx hs pl pu q;rcases q with q|q
 .exact h pins s σ H x v vl vu lo hi sl Q I rx hs pl pu q
 .exact h' pins s σ H x v vl vu lo hi sl Q I rx hs pl pu q
def JB(r:V->zzf->zzf->Hp->VK->Prop)(te:TE)(tl th:TO):TE:=λσ H Q=>te σ H λx H1=>tl σ H1 λl H2=>th σ H2 λu H3=>r x l u H3 Q
theorem JC(hr:lG X r)(he:ζO)(hl:PO X lo tl)(hu:PO X hi th):PE X (.Subscript e ζo pos) (JB r te tl th):=by intro pins s σ H Q I h;refine Subscript_ (aK γF λv s1 zq=>?_);obtain⟨x,H1,I1,r1,q1⟩:=zq;refine wpAny_Slice (aK (hl pins s1 σ H1 _ I1 q1) λvl s2 zq=>?_);obtain⟨l,H2,I2,pl,q2⟩:=zq;refine aK (hu pins s2 σ H2 _ I2 q2) λvu s3 zq=>?_;obtain⟨u,H3,I3,pu,q3⟩:=zq;rw[evalPart_none];refine qac ?_;have I4:Inv X pins σ H3 {s3 with heap:=s3.heap.push {cls:=.type "slice",data:=.fields #[vl,vu,.none]} }:=I3.kept (t':=s3.toks) λb ob q=>qab _ q;obtain⟨T,id,hT,ht,hg⟩:=hr pins {s3 with heap:=s3.heap.push {cls:=.type "slice",data:=.fields #[vl,vu,.none]} } σ H3 x v vl vu l u s3.heap.objs.size Q I4 r1 (Heap.IsSliceOf.new ..) pl pu q3;show wpAny δ X.A (subscriptTail e ζo v (.ref s3.heap.objs.size)) γL X.xe {s3 with heap:=s3.heap.push {cls:=.type "slice",data:=.fields #[vl,vu,.none]} };exact tail_any (ops:=[.ref s3.heap.objs.size,v]) ht hT hg (by with_unfolding_all rfl)
def qv(xs:γB)(lo hi:zzf):List V:=(xs.drop ζn).take (HT.bB xs.length xs.length hi-HT.bB xs.length 0 lo)
theorem JD(xs:γB)(lo hi:zzf):(qv xs lo hi).length<=xs.length:=by unfold qv;rw[qbv,List.length_drop];omega
def RY(K:zze):V->zzf->zzf->Hp->VK->Prop:=λx lo hi H Q=>∃a xs,x=.ref a/\iw K H a xs /\
 ¬(HT.bB xs.length 0 lo=0/\HT.bB xs.length xs.length hi=xs.length)/\∀p,H p=none->Q γJ (upd H p (.tup ηS))
theorem RZ:lG X (RY X.K):=by
 intro pins s σ H x v vl vu lo hi sl Q I rx hs pl pu h;obtain⟨a,xs,rfl,hx,hw,q⟩:=h;cases rx;obtain⟨its,r,ht,hz⟩:=I.tuple hx;have hlen:its.toArray.size=xs.length:=by rw[qaG];exact r.length.symm
 refine⟨"tuple",_,qbf.lookup,ht.typeIs,?_⟩;refine HT.fu ht hs pl pu (by rw[hlen];exact hw) ?_ (by rw[hlen];exact hz);rw[hlen];refine⟨.ref s.heap.objs.size,_,I.laid (t':=s.toks) (o:=.tup ηS) (λb ob q=>qab _ q) γO ?_,rfl,q _ ζx⟩;exact⟨qaO (JD xs lo hi) hz,_,(r.drop ζn).take (HT.bB xs.length xs.length hi-HT.bB xs.length 0 lo),IsTup.new _ _⟩
end
noncomputable def mL(n:Nat)(i:Int):Option Nat:=if 0<=i then (if i<n then some i.toNat else none) else if -(n:Int)<=i then some (i+n).toNat else none
def dn{α:Type}(xs:ζi)(i:Int):Option α:=(mL xs.length i).bind λj=>xs[j]?
theorem R_(h:mL n i=some j):seqIndex? i n=some j/\j<n /\ -(n:Int)<=i/\i<n:=by
 unfold mL at h;by_cases h0:0<=i
 .rw[qaF h0]at h;by_cases h1:i<n
  .rw[qaF h1]at h;have e:i.toNat=j:=qaQ h;exact⟨by rw[seqIndex_of h0 h1,e],by omega,by omega,h1⟩
  .rw[qaC h1]at h;cases h
 .rw[qaC h0]at h;by_cases h1 : -(n:Int)<=i
  .rw[qaF h1]at h;have e:(i+n).toNat=j:=qaQ h;exact⟨by rw[seqIndex_neg (by omega) h1,e],by omega,h1,by omega⟩
  .rw[qaC h1]at h;cases h
theorem Dd{α:Type}{xs:ζi}{v:α}(h:dn xs i=some v):∃j,seqIndex? i xs.length=some j/\xs[j]?=some v/\j<xs.length /\ -(xs.length:Int)<=i/\i<xs.length:=by
 unfold dn at h;cases e:mL xs.length i with
 |none=>rw[e]at h;cases h
 |some j =>
   rw[e]at h;obtain⟨h1,h2,h3,h4⟩:=R_ e;exact⟨j,h1,h,h2,h3,h4⟩
theorem De{α:Type}{xs:ζi}{j:Nat}{v:α}(h:xs[j]?=some v):dn xs (j:Int)=some v:=by
 have hj:j<xs.length:=(qad.mp h).1
 have e:mL xs.length (j:Int)=some j:=by unfold mL;rw[qaF (by omega),qaF (by omega)];simp
 unfold dn;rw[e];exact h
noncomputable def JE(b:Expr):Prop:=∀o i,subscripted b false o i=operate [o,i] (getItem o i)
def qw(X:Cx)(r:R2):Prop:=
 ∀(value slice:Expr) (pins:W1) (s:Shared) (σ:St) (H:Hp) (x y:V) (v u:Value) (Q:VK),Inv X pins σ H s->RelV x v->RelV y u->r x y H Q ->
  subscripted slice false v u=operate [v,u] (getItem v u)->wpAny δ X.A (subscriptTail value slice v u) γL X.xe s
def Sa(X:Cx)(id:String)(r:V->List V->Hp->VK->Prop):Prop:=
 ∀(pins:W1) (s:Shared) (σ:St) (H:Hp) (x:V) (xs:γB) (v:Value) (us:v4) (Q:VK),Inv X pins σ H s->RelV x v->Vals xs us->r x xs H Q ->
  wpAny δ X.A (call εK (v::us)) γL X.xe s
section
variable{X:Cx}{a b:Expr}{ta tb:TE}{pos:Pos}
theorem qw.or(h:qw X r)(h':qw X r'):qw X (λx y H Q=>r x y H Q\/r' x y H Q):=by
 intro value slice pins s σ H x y v u Q I rx ry q hs;rcases q with q|q
 .exact h value slice pins s σ H x y v u Q I rx ry q hs
 .exact h' value slice pins s σ H x y v u Q I rx ry q hs
theorem Sb(hr:qw X r)(ha:ε1)(hb:η0)(hs:JE b):PE X (.Subscript a b pos) θj:=by intro pins s σ H Q I h;exact Subscript_ (C0 ha hb I h λv u s2 x y H2 I2 rx ry q=>hr a b pins s2 σ H2 x y v u Q I2 rx ry q (hs _ _))
def JF(K:zze):R2:=λx y H Q=>∃p xs i v,x=.ref p/\y=.int i/\b8 K H p xs/\dn xs i=some v/\Q v H
def JG(K:zze):R2:=λx y H Q=>∃p xs i v,x=.ref p/\y=.int i/\iw K H p xs/\dn xs i=some v/\Q v H
def JH:R2:=λx y H Q=>∃z i c,x=.str z/\y=.int i/\z.length<=sizeLine/\dn z.cps.toList i=some c/\Q (.str ⟨#[c]⟩) H
theorem qy:qw X (JF X.K):=by
 intro value slice pins s σ H x y v u Q I rx ry h hs;obtain⟨p,xs,i,z,rfl,rfl,hq,he,q⟩:=h;cases rx;obtain⟨t,rfl⟩:=ry;obtain⟨its,r,pl,hz⟩:=I.list hq;obtain⟨j,h1,h2,h3,h4,h5⟩:=Dd he;obtain⟨w,ew,rw'⟩:=r.get h2;have hl:=r.length;have hn:=xa;have fin:EP X pins σ Q w s:=⟨z,H,I,rw',q⟩;by_cases h0:0<=i
 .have hj:i.toNat=j:=by rw[seqIndex_of h0 h5]at h1;exact qaQ h1
  exact item_listR pl.isList h0 (by omega) (by rw[hj];simpa using ew) fin hs
 .have hj:(i+(its.toArray.size:Int)).toNat=j:=by rw[seqIndex_neg (by omega) h4]at h1;rw[qaG,<-hl];exact qaQ h1
  exact subscriptTail_builtinR (x:=w) pl.isList.typeIs slot_list_getitem.lookup
   (wpAny_getItem_list_neg (Q:=λr s'=>r=w/\EP X pins σ Q r s') pl.isList (by omega) (by rw[qaG]<;>omega) (by omega) (by rw[hj];simpa using ew) ⟨rfl,fin⟩) hs
theorem td:qw X (JG X.K):=by
 intro value slice pins s σ H x y v u Q I rx ry h hs;obtain⟨p,xs,i,z,rfl,rfl,hq,he,q⟩:=h;cases rx;obtain⟨t,rfl⟩:=ry;obtain⟨its,r,pl,hz⟩:=I.tuple hq;obtain⟨j,h1,h2,h3,h4,h5⟩:=Dd he;obtain⟨w,ew,rw'⟩:=r.get h2;have hl:=r.length;have hn:=xa;have fin:EP X pins σ Q w s:=⟨z,H,I,rw',q⟩
 exact subscriptTail_builtinR (x:=w) pl.typeIs qbf.lookup
  (getItem_tuple (j:=j) (Q:=λr s'=>r=w/\EP X pins σ Q r s') pl (by omega) (by omega) (by rw[qaG,<-hl];exact h1) (by simpa using ew) ⟨rfl,fin⟩) hs
theorem Se:qw X JH:=by
 intro value slice pins s σ H x y v u Q I rx ry h hs;obtain⟨z,i,c,rfl,rfl,hz,he,q⟩:=h;obtain⟨t,rfl⟩:=rx;obtain⟨t',rfl⟩:=ry;obtain⟨j,h1,h2,h3,h4,h5⟩:=Dd he;have hl:z.cps.toList.length=z.length:=by simp[Str.length]
 rw[hl]at h1 h4 h5;have hn:=xa
 exact tail_any (typeIs_str s z t) slot_str_getitem.lookup (getItem_str (c:=c) (by have e1:decide (i < -(2 ^ 63:Int))=false:=qau (by omega);have e2:decide (i ≥ 2 ^ 63)=false:=qau (by omega);rw[e1,e2,Bool.or_false]) (by rw[h1];simpa using h2) ⟨.str ⟨#[c]⟩,H,I.tok _,⟨_,rfl⟩,q⟩) hs
def JI(K:zze):R2:=λx y H Q=>JF K x y H Q\/JG K x y H Q\/JH x y H Q
theorem Sf:qw X (JI X.K):=qy.or (td.or Se)
theorem Sg(lo hi:zzf)(n:Nat):(sliceBounds lo hi none n).1=((HT.bB n 0 lo:Nat):Int)/\(sliceBounds lo hi none n).2.1=((HT.bB n n hi:Nat):Int)/\(sliceBounds lo hi none n).2.2=1:=by
 refine⟨?_,?_,rfl⟩
 .cases lo with
  |none=>simp[sliceBounds,HT.bB]
  |some i =>
    simp only[sliceBounds,HT.bB,Option.getD_none,show(1:Int)>0 by decide,if_true];by_cases h:i<0
    .simp only[h,if_true]<;>omega
    .simp only[h,if_false]<;>omega
 .cases hi with
  |none=>simp[sliceBounds,HT.bB]
  |some i =>
    simp only[sliceBounds,HT.bB,Option.getD_none,show(1:Int)>0 by decide,if_true];by_cases h:i<0
    .simp only[h,if_true]<;>omega
    .simp only[h,if_false]<;>omega
theorem Sh(its:v4)(lo hi:zzf):slicePick its.toArray lo hi none=((its.drop (HT.bB its.length 0 lo)).take (HT.bB its.length its.length hi-HT.bB its.length 0 lo)).toArray:=by obtain⟨h1,h2,h3⟩:=Sg lo hi its.toArray.size;unfold slicePick;rw[h1,h2,h3];simp only[sliceRange_one,pick_run,List.size_toArray]<;>rfl
def JJ(K:zze):V->zzf->zzf->Hp->VK->Prop:=λx lo hi H Q=>∃a xs,x=.ref a/\b8 K H a xs/\∀p,H p=none->Q γJ (upd H p (.lst ηS))
theorem md:lG X (JJ X.K):=by intro pins s σ H x v vl vu lo hi sl Q I rx hs pl pu h;obtain⟨a,xs,rfl,hx,q⟩:=h;cases rx;obtain⟨its,r,ht,hz⟩:=I.list hx;have hlen:=r.length;refine⟨"list",_,slot_list_getitem.lookup,ht.isList.typeIs,?_⟩;refine wpAny_getItem_list_slice ht.isList hs pl pu .none (by simp) ?_ (by rw[List.size_toArray]<;>omega);rw[Sh,<-hlen];refine⟨.ref s.heap.objs.size,_,I.laid (t':=s.toks) (o:=.lst ηS) (λb ob q=>qab _ q) γO ?_,rfl,q _ ζx⟩;exact⟨qaO (JD xs lo hi) hz,_,0,(r.drop ζn).take (HT.bB xs.length xs.length hi-HT.bB xs.length 0 lo),qao _ rfl⟩
noncomputable def oj:V->Bool
 |.ax=>true
 |.bl _=>true
 |.int _=>true
 |.str _=>true
 |_=>false
noncomputable def pV:V->V->Bool
 |.ax,.ax=>true
 |.bl a,.bl b=>a == b
 |.bl a,.int b=>(if a then 1 else 0) == b
 |.int a,.bl b=>a == (if b then 1 else 0)
 |.int a,.int b=>a == b
 |.str a,.str b=>a == b
 |_,_=>false
theorem Si(ry:RelV y u)(rx:RelV x v)(fy:oj y=true)(fx:oj x=true):SeqAt.EqAt A s u v (pV y x):=by
 cases y with
 |ax =>
   cases ry;cases x with
   |ax=>cases rx;exact SeqAt.EqAt.same _
   |bl b=>cases rx;exact SeqAt.EqAt.none_bool b
   |int b=>obtain⟨t,rfl⟩:=rx;exact SeqAt.EqAt.none_int b t
   |str b=>obtain⟨t,rfl⟩:=rx;exact SeqAt.EqAt.none_str b t
   |_=>exact absurd (show false=true from fx) qas
 |bl a =>
   cases ry;cases x with
   |ax=>cases rx;exact SeqAt.EqAt.bool_none a
   |bl b=>cases rx;exact SeqAt.EqAt.bool_bool a b
   |int b=>obtain⟨t,rfl⟩:=rx;exact SeqAt.EqAt.bool_int a b t
   |str b=>obtain⟨t,rfl⟩:=rx;exact SeqAt.EqAt.bool_str a b t
   |_=>exact absurd (show false=true from fx) qas
 |int a =>
   obtain⟨t',rfl⟩:=ry;cases x with
   |ax=>cases rx;exact SeqAt.EqAt.int_none a t'
   |bl b=>cases rx;exact SeqAt.EqAt.int_bool a t' b
   |int b=>obtain⟨t,rfl⟩:=rx;exact SeqAt.EqAt.int_int a t' b t
   |str b=>obtain⟨t,rfl⟩:=rx;exact SeqAt.EqAt.int_str a t' b t
   |_=>exact absurd (show false=true from fx) qas
 |str a =>
   obtain⟨t',rfl⟩:=ry;cases x with
   |ax=>cases rx;exact SeqAt.EqAt.str_none a t'
   |bl b=>cases rx;exact SeqAt.EqAt.str_bool a t' b
   |int b=>obtain⟨t,rfl⟩:=rx;exact SeqAt.EqAt.str_int a t' b t
   |str b=>obtain⟨t,rfl⟩:=rx;exact SeqAt.EqAt.str_str a t' b t
   |_=>exact absurd (show false=true from fx) qas
 |_=>exact absurd (show false=true from fy) qas
def qz(x:V)(u:Value):Bool:=match u with
 |.none=>pV .ax x
 |.bool b=>pV ε2 x
 |.int i _=>pV γT x
 |.str z _=>pV (.str z) x
 |_=>false
theorem JK(r:RelV y u)(f:oj y=true):qz x u=pV y x:=by
 cases y with
 |ax=>cases r;rfl
 |bl b=>cases r;rfl
 |int i=>obtain⟨t,rfl⟩:=r;rfl
 |str z=>obtain⟨t,rfl⟩:=r;rfl
 |_=>exact absurd (show false=true from f) qas
theorem JL(r:ε4)(f:xs.all oj=true):us.any (qz x)=xs.any λy=>pV y x:=by
 induction r with
 |nil=>rfl
 |cons r t ih =>
   rw[qbO,qay]at f;rw[List.any_cons,List.any_cons,JK r f.1,ih f.2]
theorem JM(rx:RelV x v)(fx:oj x=true)(r:ε4)(f:xs.all oj=true):∀u∈us,SeqAt.EqAt A s u v (qz x u):=by
 induction r with
 |nil=>nofun
 |cons r t ih =>
   rw[qbO,qay]at f;refine List.forall_mem_cons.mpr ⟨?_,ih f.2⟩;rw[JK r f.1];exact Si r rx f.1 fx
def inV(x:V)(xs:γB):Bool:=xs.any λy=>pV y x
def Df(K:zze)(neg:Bool):R2:=λx y H Q=>∃p xs,y=.ref p/\(b8 K H p xs\/iw K H p xs)/\oj x=true/\xs.all oj=true/\Q (.bl (if neg then !inV x xs else inV x xs)) H
theorem JN:b_ X (compareOp .In) (Df X.K false):=by
 intro pins s σ H x y v u Q I rx ry h;obtain⟨p,xs,rfl,hq,fx,fs,q⟩:=h;cases ry;rcases hq with hq|hq
 .obtain⟨its,r,pl,hz⟩:=I.list hq;refine SeqAt.in_listAt (qz x) pl.isList (λw hw=>JM rx fx r fs w (by simpa using hw)) ⟨.bl _,H,I,rfl,?_⟩;rw[show its.toArray.any (qz x)=its.any (qz x) by simp,JL r fs];exact q
 .obtain⟨its,r,pl,hz⟩:=I.tuple hq;refine SeqAt.in_tupleAt (qz x) pl (λw hw=>JM rx fx r fs w (by simpa using hw)) ⟨.bl _,H,I,rfl,?_⟩;rw[show its.toArray.any (qz x)=its.any (qz x) by simp,JL r fs];exact q
theorem js:aN X (.builtin "len") (λxs H Q=>∃p ys,xs=[.ref p]/\(b8 X.K H p ys\/iw X.K H p ys)/\Q (.int ys.length) H):=by
 intro pins s σ H xs us Q I r h;obtain⟨p,ys,rfl,hq,q⟩:=h;obtain⟨u,rfl,rx⟩:=vals1 r;cases rx;have hn:=xa;rcases hq with hq|hq
 .obtain⟨its,r',pl,hz⟩:=I.list hq;have hlen:=r'.length;exact Calls.call_len_list pl.isList (by simp only[List.size_toArray]<;>omega) ⟨.int ys.length,H,I.tok _,⟨s.toks+1,by rw[qaG,hlen]⟩,q⟩
 .obtain⟨its,r',pl,hz⟩:=I.tuple hq;have hlen:=r'.length;exact len_tuple pl (by simp only[List.size_toArray]<;>omega) ⟨.int ys.length,H,I.tok _,⟨s.toks+1,by rw[qaG,hlen]⟩,q⟩
theorem Sj:aN X (.builtin "len") (λxs H Q=>∃z,xs=[.str z]/\z.length<=sizeLine/\Q (.int z.length) H):=by intro pins s σ H xs us Q I r h;obtain⟨z,rfl,hz,q⟩:=h;obtain⟨u,rfl,t,rfl⟩:=vals1 r;have hn:=xa;exact len_str (by omega) ⟨.int z.length,H,I.tok _,⟨_,rfl⟩,q⟩
theorem aN.or(h:aN X f r)(h':aN X f r'):aN X f (λxs H Q=>r xs H Q\/r' xs H Q):=by
 intro pins s σ H xs us Q I rs q;rcases q with q|q
 .exact h pins s σ H xs us Q I rs q
 .exact h' pins s σ H xs us Q I rs q
theorem Dh:aN X (.type "list") (λxs H Q=>∃p ys,xs=[.ref p]/\(b8 X.K H p ys\/iw X.K H p ys)/\∀l,H l=none->Q ιr (upd H l γ3)):=by
 intro pins s σ H xs us Q I r h;obtain⟨p,ys,rfl,hq,q⟩:=h;obtain⟨u,rfl,rx⟩:=vals1 r;cases rx
 have fin:∀(its:v4),Vals ys its->ys.length<=sizeLine->∀(h':Heap) (c':Nat),(∀b o',s.heap.get? b=some o'->h'.get? b=some o') ->
  h'.get? s.heap.objs.size=some {cls:=.type "list",dict:=none,data:=.seq its.toArray c',slots:= #[]}->EP X pins σ Q γj {s with heap:=h'}:=λits r' hz h' c' kp e =>
  ⟨.ref s.heap.objs.size,_,I.laid (t':=s.toks) kp γO (show aJ X.prog X.w _ h' _ γ3 from⟨hz,its,c',r',e⟩),rfl,q _ ζx⟩
 rcases hq with hq|hq
 .obtain⟨its,r',pl,hz⟩:=I.list hq;have hlen:=r'.length;obtain⟨o,ho,hc,n,hd⟩:=pl.isList;exact call_list_seq p γM ho hc hd (λh' c' kp e=>fin its r' hz h' c' kp e) (by simp only[List.size_toArray]<;>omega)
 .obtain⟨its,r',pl,hz⟩:=I.tuple hq;have hlen:=r'.length;obtain⟨o,ho,hc,n,hd⟩:=pl;exact call_list_seq p (.inr rfl) ho hc hd (λh' c' kp e=>fin its r' hz h' c' kp e) (by simp only[List.size_toArray]<;>omega)
def Di(K:zze)(T:String)(x:V)(H:Hp):Prop:=match x with
 |.str _=>T = "str"
 |.int _=>T = "int"
 |.ref p=>(T = "list" /\ ∃xs,b8 K H p xs)\/(T = "tuple" /\ ∃o,K.lookup p=some o/\o.cls=.type "tuple" /\ o.dict=none) \/
  (T = "dict" /\ ((∃kvs,H p=some (.dK kvs))\/∃kvs,H p=some (.dT kvs)))\/(T = "set" /\ ∃S n,H p=some (.set S n))
 |_=>False
theorem Sk{pins:W1}{σ:St}{H:Hp}{s:Shared}{T:String}{x:V}{v:Value}(I:ε)(r:RelV x v)(ty:Di X.K T x H) :
 s.TypeIs v T/\∀a,v=.ref a->∃ob,s.heap.get? a=some ob/\ob.dict=none:=by
 cases x with
 |str z =>
   obtain⟨t,rfl⟩:=r;cases (show T = "str" from ty);exact⟨typeIs_str s z t,λ_ e=>nomatch e⟩
 |int i =>
   obtain⟨t,rfl⟩:=r;cases (show T = "int" from ty);exact⟨typeIs_int s i t,λ_ e=>nomatch e⟩
 |ref p =>
   cases r;rcases ty with ⟨rfl,xs,hq⟩|⟨rfl,o,hk,hc,hd⟩|⟨rfl,hk⟩|⟨rfl,S,n,hk⟩
   .obtain⟨its,_,pl,_⟩:=I.list hq;refine⟨pl.isList.typeIs,λa e=>?_⟩;cases e;obtain⟨o,n,e,c,hd,_⟩:=pl;exact⟨o,e,hd⟩
   .refine⟨⟨o,I.bV p o hk,hc⟩,λa e=>?_⟩;cases e;exact⟨o,I.bV _ o hk,hd⟩
   .have z:∃o,s.heap.get? p=some o/\o.ExactDict:=by
     rcases hk with ⟨kvs,hk⟩|⟨kvs,hk⟩
     .obtain⟨_,_,_,_,o,_,_,e,ex,_⟩:=I.hok p _ hk;exact⟨o,e,ex⟩
     .obtain⟨_,_,_,_,o,_,_,e,ex,_⟩:=I.hok p _ hk;exact⟨o,e,ex⟩
    obtain⟨o,e,ex⟩:=z
    refine⟨⟨o,e,ex.1⟩,λa e2=>?_⟩
    cases e2
    exact⟨o,e,ex.2.1⟩
   .obtain⟨o,_,_,_,e,ex,_⟩:=I.hok p _ hk;refine⟨⟨o,e,ex.1⟩,λa e2=>?_⟩;cases e2;exact⟨o,e,ex.2.1⟩
 |_=>exact False.elim ty
def JO(K:zze)(T:String)(r:V->List V->Hp->VK->Prop)(to:TE)(t:TA):TE:=λσ H Q=>to σ H λx H1=>Di K T x H1/\t σ H1 λxs H2=>r x xs H2 Q
variable{o e:Expr}{es:zza}{to:TE}{t:TA}{name:Str}{apos cpos:Pos}{T id:String}{r:V->List V->Hp->VK->Prop}
theorem AH(pa:PlainAttrs T)(slot:Slot T name id)(hty:typeOf εK=pure (.type "method_descriptor"))(hm:Sa X id r)(ho:PE X o to)(ha:PA X (e::es) t)
 (hbase:attributeBase o name X.env (eval o X.env)=eval o X.env:=by rfl)
 (hfew:((backTo cpos (starEach (e::es) X.env)).all (λx => !x.1)&&(backToKw cpos (keywordEach [] X.env)).all (λx=>x.1.isSome)
  &&decide ((e::es).length+([]:List Keyword).length+(if ([]:List Keyword).isEmpty then 0 else 1)<30))=true:=by rfl)
 (hline:(apos.endLine == cpos.line)=true:=by rfl) (hs:starEach (e::es) X.env=(false,eval e X.env)::starEach es X.env:=by rfl) (hplain:(backTo cpos γc).any (·.1)=false:=by rfl) :
 PE X (.Call (.Attribute o name apos) (e::es) [] cpos) (JO X.K T r to t):=by intro pins s σ H Q I h;refine wpAny_Call_method_late hbase hfew hline rfl (aK (ho pins s σ H _ I h) λv s1 zq=>?_);obtain⟨x,H1,I1,r1,ty,q1⟩:=zq;obtain⟨h1,h2⟩:=Sk I1 r1 ty;refine⟨T,id,pa,slot,hty,h1,h2,?_⟩;have hA:=ha cpos pins s1 σ H1 _ I1 q1;rw[hs]at hA ⊢;refine Calls.callWith_builtin (by show(false || (backTo cpos γc).any (·.1))=false;rw[hplain]<;>rfl) (Calls.evalArgs_plain ?_);exact aK hA λus s2 ⟨vs,H2,I2,r2,q2⟩=>hm pins s2 σ H2 x vs v us Q I2 r1 r2 q2
end
def JP(X:Cx)(id:String)(r:V->List V->Hp->VK->Prop):Prop:=
 ∀(pins:W1) (s:Shared) (σ:St) (H:Hp) (x:V) (xs:γB) (v:Value) (us:v4) (Q:VK),Inv X pins σ H s->RelV x v->Vals xs us->r x xs H Q ->
  wpAny δ X.A (call εK (v::us)) γL X.xe s
theorem Vals.one(h:Vals [x] us):∃u,us=[u]/\RelV x u:=by rcases h with _|⟨r,⟨⟩⟩;exact⟨_,rfl,r⟩
theorem Vals.two(h:Vals [x,y] us):∃u v,us=[u,v]/\RelV x u/\RelV y v:=by rcases h with _|⟨r,_|⟨q,⟨⟩⟩⟩;exact⟨_,_,rfl,r,q⟩
theorem Vals.rep(h:ε4):∀k:Nat,Vals (List.replicate k xs).flatten (List.replicate k us).flatten
 |0=>.nil
 |k+1=>by rw[qbx,qbx,List.flatten_cons,List.flatten_cons];exact Vals.append h (Vals.rep h k)
theorem foldl_rep(its:v4):∀(k:Nat) (acc:v4),
 List.foldl (λx1 x2=>x1++x2) acc.toArray (List.replicate k its.toArray)=(acc++(List.replicate k its).flatten).toArray
 |0,acc=>by simp
 |k+1,acc=>by
   have e:acc.toArray++its.toArray=(acc++its).toArray:=by simp
   have e2:(acc++its)++(List.replicate k its).flatten=acc++(List.replicate (k+1) its).flatten:=by rw[qbx,List.flatten_cons,List.append_assoc]
   rw[<-e2,<-foldl_rep its k (acc++its),<-e,qbx,List.foldl_cons]
section
variable{X:Cx}{pins:W1}{σ:St}{H:Hp}{s:Shared}{l b:Addr}{xs ys zs:γB}
theorem Inv.xi{its its':v4}(I:ε)(hH:H l=some γo)
 (e:s.heap.get? l=some {cls:=.type "list",data:=.seq its.toArray n}) (hf:f its.toArray=its'.toArray) (hv:Vals ys its') (hz:ys.length<=sizeLine) :
 Inv X pins σ (upd H l γ3) {s with heap:=s.heap.update l (Obj.mapSeq f),toks:=t'}:=by have q:=PySem.IsL.update e f;rw[hf]at q;refine I.write (x:=l) (e:=l) (by rw[hH];exact trivial) γM (λb' u hb hu=>(qaA s.heap (Obj.mapSeq f) (qaR hb)).trans hu) ⟨_,q⟩ ?_;exact⟨hz,its',_,hv,q⟩
theorem Inv.ti(I:ε)(hv:Vals ys its)(hz:ys.length<=sizeLine) :
 Inv X pins σ (upd H s.heap.objs.size γ3) {s with heap:=s.heap.push {cls:=.type "list",data:=.seq its.toArray},toks:=t'}:=
 I.laid (λ_ _ q=>qab _ q) γO ⟨hz,its,0,hv,qao _ rfl⟩
theorem Inv.fresh(I:ε):H s.heap.objs.size=none:=I.hok.fresh γO
theorem Inv.bc(I:ε)(hH:H l=some γo):xs.length<=sizeLine/\∃(its:v4) (n:Nat),Vals xs its/\xs.length=its.length/\s.heap.get? l=some {cls:=.type "list",data:=.seq its.toArray n}:=by obtain⟨z,its,n,r,e⟩:=I.hok l _ hH;exact⟨z,its,n,r,r.length,e⟩
theorem JQ(h:n<=sizeLine):Builtin.List.listTooLong n=false:=by unfold Builtin.List.listTooLong;exact qau (by omega)
end
section
variable{X:Cx}
def JR:V->List V->Hp->VK->Prop:=λx vs H Q=>∃l xs y,x=.ref l/\vs=[y]/\H l=some γo/\xs.length<sizeLine/\Q .ax (upd H l (.lst (xs++[y])))
theorem AI:JP X "list.append" JR:=by intro pins s σ H x vs v us Q I rx rv h;obtain⟨l,xs,y,rfl,rfl,hH,hz,q⟩:=h;cases rx;obtain⟨u,rfl,ru⟩:=rv.one;obtain⟨z,its,n,r,hl,e⟩:=I.bc hH;refine call_meets F.slot_list_append ⟨_,e,rfl⟩ F.entry_list_append (F.args_list_append_2 _ _) (PySem.list_append l its.toArray n u (by rw[qaG];omega)) ⟨e,?_⟩;refine⟨.ax,_,I.xi (its':=its++[u]) hH e (by simp) (r.append (.cons ru .nil)) ?_,rfl,q⟩;rw[qaq,List.length_singleton];omega
def JS:V->List V->Hp->VK->Prop:=λx vs H Q=>∃l b xs zs,x=.ref l/\vs=[.ref b]/\H l=some γo/\H b=some (.lst zs)/\xs.length+zs.length<=sizeLine/\Q .ax (upd H l (.lst (xs++zs)))
theorem Sn:JP X "list.extend" JS:=by
 intro pins s σ H x vs v us Q I rx rv h;obtain⟨l,b,xs,zs,rfl,rfl,hH,hB,hz,q⟩:=h;cases rx;obtain⟨u,rfl,ru⟩:=rv.one;cases ru;obtain⟨z,its,n,r,hl,e⟩:=I.bc hH;obtain⟨z2,its2,n2,r2,hl2,e2⟩:=I.bc hB;have hsz:its.toArray.size+its2.toArray.size<=sizeLine:=by rw[qaG,qaG];omega
 have oq:¬(!its.toArray.isEmpty&&Builtin.List.listTooLong (its.toArray.size+its2.toArray.size))=true:=by rw[JQ hsz,Bool.and_false];exact qas
 refine call_meets F.slot_list_extend ⟨_,e,rfl⟩ F.entry_list_extend (F.args_list_extend_2 _ _)
  (AutoSeq1.list_extend_list_list_0 l its.toArray n b its2.toArray n2 oq (by rw[qaG];omega) (by omega)) ⟨e,e2,?_⟩
 refine⟨.ax,_,I.xi (its':=its++its2) hH e (by simp) (r.append r2) ?_,rfl,q⟩;rw[qaq];omega
def JT:R2:=λx y H Q=>∃l b xs zs,x=.ref l/\y=.ref b/\H l=some γo/\H b=some (.lst zs)/\xs.length+zs.length<=sizeLine/\∀p,H p=none->Q γJ (upd H p (.lst (xs++zs)))
theorem tj:b_ X θr JT:=by
 intro pins s σ H x y v u Q I rx ry h;obtain⟨l,b,xs,zs,rfl,rfl,hH,hB,hz,q⟩:=h;cases rx;cases ry;obtain⟨z,its,n,r,hl,e⟩:=I.bc hH;obtain⟨z2,its2,n2,r2,hl2,e2⟩:=I.bc hB;refine PySem.P.add_list e e2 ?_ (by rw[qaG,qaG];omega);have ea:its.toArray++its2.toArray=(its++its2).toArray:=by simp
 rw[ea];exact⟨.ref _,_,I.ti (t':=s.toks) (r.append r2) (by rw[qaq];omega),rfl,q _ I.fresh⟩
def JU:R2:=λx y H Q=>∃l k xs,x=.ref l/\y=.int k/\H l=some γo /\ -(2 ^ 63)<=k/\k<2 ^ 63/\xs.length*k.toNat<=sizeLine /\
 ∀p,H p=none->Q γJ (upd H p (.lst (List.replicate k.toNat xs).flatten))
theorem len_rep{α:Type}(xs:ζi)(k:Nat):(List.replicate k xs).flatten.length=k*xs.length:=by
 induction k with
 |zero=>simp
 |succ k ih=>rw[qbx,List.flatten_cons,qaq,ih,Nat.succ_mul,Nat.add_comm]
theorem JV:b_ X (binaryOp .Mult) JU:=by
 intro pins s σ H x y v u Q I rx ry h;obtain⟨l,k,xs,rfl,rfl,hH,h1,h2,hz,q⟩:=h;cases rx;obtain⟨t,rfl⟩:=ry;obtain⟨z,its,n,r,hl,e⟩:=I.bc hH;have hlen:its.toArray.size*k.toNat<=sizeLine:=by rw[qaG,<-hl];exact hz
 have Dj:¬its.toArray.size*k.toNat>(2 ^ 63-1)/8:=by
  have:(sizeLine:Nat)<=(2 ^ 63-1)/8:=by decide
  omega
 have hfit:¬(!Builtin.List.listFitsIndex k)=true:=by rw[fitsIndex_both h1 h2];exact qas
 have oq:¬Builtin.List.listTooLong (its.toArray.size*k.toNat)=true:=by rw[JQ hlen];exact qas
 have hnew:List.foldl (λx1 x2=>x1++x2) #[] (List.replicate (if its.toArray.isEmpty=true then 0 else k.toNat) its.toArray)=(List.replicate k.toNat its).flatten.toArray:=by
  have f0:∀m:Nat,List.foldl (λx1 x2=>x1++x2) #[] (List.replicate m its.toArray)=(List.replicate m its).flatten.toArray:=λm=>by have:=foldl_rep its m [];rw[List.nil_append]at this;exact this
  rw[f0];cases its with
  |nil=>simp
  |cons a r'=>rw[qaC (by simp)]
 refine wpAny_binaryOp_repeat_ref (T:= "list") (U:= "int") (by decide) ⟨_,e,rfl⟩ (λs'=>typeIs_int s' k t) noFill_list_mul F.fills_int_mul F.slot_int_rmul repeat_list F.slot_int_index.lookup
  (call_meets F.slot_int_rmul (typeIs_int s k t) F.entry_int_rmul (F.args_int_rmul_2 _ _) (int___rmul___int_list k t l its.toArray n)
   ⟨e,rfl,⟨_,e,rfl⟩,call_meets F.slot_list_mul ⟨_,e,rfl⟩ F.entry_list_mul (F.args_list_mul_2 _ _) (AutoListH.list___mul___list_int_3 l its.toArray n k t hfit Dj oq) ⟨e,?_⟩⟩)
 rw[hnew];exact⟨.ref _,_,I.ti (t':=s.toks) (r.rep k.toNat) (by rw[len_rep,Nat.mul_comm];exact hz),rfl,q _ I.fresh⟩
end
end L2
namespace JW
open PySem PySem.W PySem.Calls PyProof.Rows
theorem Sq:∀(ns:u8) (vs:v4),WellAll P h vs (ns.map WData.int)->IntsAre vs ns:=by
 intro ns;induction ns with
 |nil =>
   intro vs w;rw[List.map_nil]at w;cases w;exact .nil
 |cons n ns ih =>
   intro vs w;rw[qav]at w;cases w with
   |cons a b =>
     cases a;exact .cons _ _ (ih _ b)
theorem Sr{l:OpenLaw}(hn:l.most=some n)
 (hpre:l.row.toRowW.claim.pre args=true) (hwl:WellAll P h vals args) :
 ∃a vs ns,vals=[Value.ref a]/\args=[WData.list (ns.map WData.int)]/\h.get? a=some {cls:=.type "list",data:=.seq vs.toArray}/\IntsAre vs ns/\ns.length<=n:=by
 have hsh:WShape.hasAll [] args [.list .int]=true:=(pre_splitW hpre).1;have hc:l.pre.holds [] {args:=args}=true:=(pre_splitW hpre).2;obtain⟨d,r,rfl,h1,h2⟩:=hasAllW_cons hsh;obtain rfl:=hasAllW_nil h2;obtain⟨xs,rfl,h3⟩:=hasW_list h1;obtain⟨ns,rfl⟩:=items_int h3
 have hlen:ns.length<=n:=by
  unfold OpenLaw.pre at hc
  have h4:(WTm.not (.lt (.lit (.int (n:Int))) (.len (.arg 0)))).holds [] {args:=[.list (ns.map .int)]}=true:=by have h4:=(holds_andW hc).1;rw[hn]at h4;exact h4
  have h5:=condW_of h4 (w_not (w_lt w_lit (w_len_list (w_arg rfl))));rw[qaf]at h5;refine Nat.le_of_not_lt λq=>?_;have q':(n:Int)<((ns.length:Nat):Int):=by omega
  first
   | (rw[qan q']at h5;exact absurd h5 (by decide))
   | (simp at h5;omega)
 cases hwl with
 |cons w1 w2 =>
   cases w2;cases w1 with
   |list ho hall=>exact⟨_,_,ns,rfl,rfl,ho,Sq ns _ hall,hlen⟩
theorem Ss(l:OpenLaw)(args:List WData):l.row.toRowW.claim.post args εd args=true:=
 postW_of (r:=l.row.toRowW) (X:=(true == true))
  (show WShape.has [] εd .bool=true by first|rfl|decide|simp[WShape.has,WShape.arms,WShape.armsAll])
  (show(WTm.eq .res (.lit εd)).value [] {args:=args,res:=some εd,after:=args}=some (.bool (true == true)) from w_eq_bool (w_res rfl) w_lit) rfl
theorem jV{l:OpenLaw}{d:DefRec}
 (hn:l.most=some n) (hdf:d.params.defaults=[])
 (call:∀(w:World) (s₀ aI:Shared) (mg mb:M2) (fa:Addr) (o:Obj) (pm cd doc:Value) (a:Addr) (vs:v4) (ns:u8),
  Ground q loose [] XP w s₀ mg mb aI.heap->YP w aI.heap ->
  aI.heap.get? fa=some o->o.data=.func (docDef d.name d.params d.body d.scope pm cd doc)->aI.heap.CodeRec cd d.name->mg d.name=some θy ->
  aI.heap.get? a=some {cls:=.type "list",data:=.seq vs.toArray}->IntsAre vs ns->ns.length<=n->aI.gens=#[] ->
  codeAny (model l.prog w) callerA (.call θy ⟨[.ref a],[]⟩) (λr s'=>r=.ok (.ret εd)/\OldK aI.heap s'.heap/\s'.os=aI.os/\AllBare s'.gens) aI) :
 WalkO q loose XP YP l.row.toRowW d [] (λf vs=>PySem.call f vs):=by intro w s₀ aI mg mb G Y fa o pm cd doc dV kV ho hd hcd hD hmg hg args vals as hpre hlay hrd hwl hlo;obtain rfl:dV=.none:=Dflts.none hD hdf;obtain rfl:kV=.none:=Dflts.noKw hD;obtain⟨a,vs,ns,rfl,rfl,hobj,hints,hlen⟩:=Sr hn hpre hwl;refine enter_call (codeAny_mono (call w s₀ aI mg mb fa o pm cd doc a vs ns G Y ho (fd_plain hd) hcd hmg hobj hints hlen hg) λr s' hq=>?_);obtain⟨rfl,h2,h3,h4⟩:=hq;exact⟨.inl ⟨.bool true,.bool true,[],rfl,λ_=>rfl,.bool true,Ss l _,λ_=>⟨List.Pairwise.nil,λ_ hm=>(nomatch hm)⟩⟩,h2,h3,h4⟩
end JW
namespace L2
open PySem PySem.Spec PyProof.Rows
theorem Dk(h:IntsAre vs ns):Vals γD vs:=by
 induction h with
 |nil=>exact .nil
 |cons n t h ih=>exact .cons ⟨t,rfl⟩ ih
def Dl(H:Hp):Prop:=∀b,H b=none\/∃o xs,H b=some (.ae o γo)
theorem Su{K:zze}{aI:Shared}{vs:v4}
 (KX:K.In aI.heap) (hns:aI.heap.Ns mainGlobals mg) (hb:aI.heap.Ns builtinsNs mb) (Sv:∀x:Str,x≠"__name__" -> mb x=bootBuiltins x) (hlim:aI.heap.NoLimit) (hg:aI.gens=#[])
 (ha:aI.heap.get? a=some {cls:=.type "list",data:=.seq vs.toArray}) (hi:IntsAre vs ns) (hl:ns.length<=sizeLine) (hr:az k callerA)
 (F:∀base:Heap,K.In base->base.Ns mainGlobals mg->bz P w K mg base CX k fa fd [x] sp) (hbind:∀(s:Shared) (u:Value),BindsTo s fd ⟨[u],[]⟩ [(x,u)])
 (hsp:∀H:Hp,Dl H->b8 K H a γD->sp [.ref a] H (λv _=>v=.bl true) λ_ _ _=>False)
 (Dm:∀H e s',CX [] H aI (λ_ _ _=>False) e s'->False) :
 codeAny εY callerA (.call θy ⟨[.ref a],[]⟩) (λr s'=>r=.ok (.ret εd)/\OldK aI.heap s'.heap/\s'.os=aI.os/\AllBare s'.gens) aI:=by
 have rv:=Dk hi;have lenV:=hi.length
 have core:∀H:Hp,Dl H->b8 K H a γD->dJ P w H aI.heap->(∀b,H b≠none->b=a)->(H a≠none->K.lookup a=none) ->
  codeAny εY callerA (.call θy ⟨[.ref a],[]⟩) (λr s'=>r=.ok (.ret εd)/\OldK aI.heap s'.heap/\s'.os=aI.os/\AllBare s'.gens) aI:=by
  intro H hO hS hok hA hK;have me:∀{b:Addr}{o:Obj},aI.heap.get? b=some o->H b=none->(qr aI.heap H).get? b=some o:=λe n=>Qs e n
  have xh:∀{b:Addr}{o:Obj}{es:Array DictEntry}{ep:Nat},aI.heap.get? b=some o->o.data=.dict es ep->H b=none:=λ{b o es ep} e d=>by
   cases q:H b with
   |none=>rfl
   |some u =>
     have e':b=a:=hA b (by rw[q];simp);subst e';rw[ha]at e;cases e;have d':Data.seq vs.toArray _=Data.dict es ep:=d;cases d'
  have AJ:∀{b:Addr}{m:M2},aI.heap.Ns b m->(qr aI.heap H).Ns b m:=λ{b m} ⟨o,es,ep,e,d,r⟩=>⟨o,es,ep,me e (xh e d),d,r⟩
  have JX:K.In (qr aI.heap H):=λb o e=>me (KX b o e) (by
   cases q:H b with
   |none=>rfl
   |some u =>
     have e':b=a:=hA b (by rw[q];simp);subst e';rw[hK (by rw[q];simp)]at e;cases e)
  have hM:Mod K mg (qr aI.heap H):=⟨JX,AJ hns,⟨mb,AJ hb,Sv⟩,let ⟨mc,h1,h2⟩:=hlim; ⟨mc,AJ h1,h2⟩⟩;have e0:lF P w K mg (qr aI.heap H) callerA [] aI H:=⟨rfl,hM,λb o e=>Qt e,Nat.le_of_eq (Qr _ _),trivial,λb hb=>absurd (show b∈([]:zzd) from hb) (by simp),hok,.of_eq hg⟩;refine codeAny_mono ((F _ JX (AJ hns)).run callerA [] aI H ⟨[.ref a],[]⟩ [.ref a] [.ref a] _ _ hr e0 (hbind aI γC) (.cons rfl .nil) (hsp H hO hS)) λr s' h=>?_;cases r with
  |error e=>exact(Dm H e s' h).elim
  |ok fl =>
    cases fl with
    |next=>exact False.elim h
    |brk=>exact False.elim h
    |cont=>exact False.elim h
    |ret u =>
      obtain⟨v,H',os,bare,un,hok',r',q⟩:=h;have q':v=.bl true:=q;subst q';obtain rfl:u=Value.bool true:=r';refine⟨rfl,OldK.of_keep λb o e=>?_,os,bare⟩;cases q:H b with
      |none=>exact un.keep b o e q (by intro z;exact absurd (show b∈([]:zzd) from z) (by simp)) (by simp)
      |some u =>
        rcases hO b with z|⟨ob,xs,z⟩
        .rw[q]at z;cases z
        .have z2:=un.gG b ob _ z;obtain⟨e1,_⟩:=hok b _ z;obtain⟨e2,_⟩:=hok' b _ z2;rw[e]at e1;cases e1;exact e2
 cases hk:K.lookup a with
 |some o =>
   have e:=KX a o hk;rw[ha]at e;cases e;refine core (λ_=>none) (λ_=>.inl rfl) (.inr ⟨_,vs.toArray,_,hk,rfl,rfl,rfl,by rw[qaG,lenV];exact hl,by simpa using rv⟩) (λb u z=>by have z':(none:Option HO)=some u:=z;cases z') (λb z=>absurd rfl z) λz=>absurd rfl z
 |none =>
   refine core (λb=>if b=a then some (.ae {cls:=.type "list",data:=.seq vs.toArray} ηM) else none) (λb=>?_) (.inl (.inr ⟨{cls:=.type "list",data:=.seq vs.toArray},qaF rfl⟩)) (λb u z=>?_) (λb z=>?_) λ_=>hk
   .by_cases hb:b=a
    .exact .inr ⟨_,_,qaF hb⟩
    .exact .inl (qaC hb)
   .by_cases hb:b=a
    .have z':=(qaF hb).symm.trans z;cases z';subst hb;exact⟨ha,by rw[qaf];exact hl,vs,_,rv,ha⟩
    .have z':=(qaC hb).symm.trans z;cases z'
   .by_cases hb:b=a
    .exact hb
    .exact absurd (qaC hb) z
theorem qA{l:W.OpenLaw}{n k:Nat}{q:Program}{loose:v6}{XP:(M2)->Heap->Prop}{YP:World->Heap->Prop}{d:DefRec}{K:Params->zze}{CX:World->oi}{sp:World->Sp}{x:Str}
 (hn:l.most=some n) (hn2:n<=sizeLine) (hdf:d.params.defaults=[]) (hr:az k callerA)
 (hY:∀(w:World) (h:Heap),YP w h->(K w.params).In h)
 (F:∀(w:World) (mg:M2) (fa:Addr) (h:Heap),(K w.params).In h->h.Ns mainGlobals mg->mg d.name=some θy ->
  ∃fd:FuncData,(∀(s:Shared) (u:Value),BindsTo s fd ⟨[u],[]⟩ [(x,u)]) /\
   ∀base:Heap,(K w.params).In base->base.Ns mainGlobals mg->bz l.prog w θu mg base (CX w) k fa fd [x] (sp w))
 (hsp:∀(w:World) (H:Hp) (a:Addr) (ns:u8),ns.length<=n->Dl H->b8 θu H a γD->sp w [.ref a] H (λv _=>v=.bl true) λ_ _ _=>False)
 (Dm:∀(w:World) (H:Hp) (s:Shared) (e:Value) (s':Shared),CX w [] H s (λ_ _ _=>False) e s'->False) :
 W.WalkO q loose XP YP l.row.toRowW d [] (λf vs=>PySem.call f vs):=by refine JW.jV hn hdf λw s₀ aI mg mb fa o pm cd doc a vs ns G Y ho hd hcd hmg hobj hints hlen hg=>?_;have KX:=hY w _ Y;obtain⟨fd,hb,hF⟩:=F w mg fa _ KX G.T.g hmg;exact Su KX G.T.g G.T.b G.T.builtins G.T.nolimit hg hobj hints (qaO hlen hn2) hr hF hb (λH hO hS=>hsp w H a ns hlen hO hS) λH e s'=>Dm w H aI e s'
noncomputable def inClass(s:Stmt)(j:Nat):Stmt:=match s with
 |.ClassDef _ _ _ body _ _ _ _ _ _ _=>body.getD j (.Pass ⟨0,0,0,0⟩)
 |_=>.Pass ⟨0,0,0,0⟩
noncomputable def bq(s:Stmt):Arguments:=match s with
 |.FunctionDef _ a _ _ _ _ _ _ _ _=>a
 |_=>{posonlyargs:=[],args:=[],vararg:=none,kwonlyargs:=[],kw_defaults:=[],kwarg:=none,defaults:=[]}
noncomputable def af(s:Stmt):List Stmt:=match s with
 |.FunctionDef _ _ b _ _ _ _ _ _ _=>b
 |_=>[]
noncomputable def aa(s:Stmt):Scope:=match s with
 |.FunctionDef _ _ _ _ _ _ sc _ _ _=>sc
 |_=>{kind:=.function,names:=[],isGenerator:=false,isCoroutine:=false}
abbrev iZ:oi:=λ_ _ _ _ _ _=>False
abbrev E0:XK:=λ_ _ _=>False
theorem Dn:xg iZ X E0:=λ_ _ _ _ _ _ _ h=>h.elim
structure mM(K:zze)(x qual:Str)(st:Stmt)(f:Addr)(fd:FuncData):Prop where
 ex:∃(oc:Value) (od:γ8) (kV doc pm:Value) (an:γ8) (cdv ct:Value) (osl:ηk),
  fd=W.fnOf x qual (bq st) ηv γZ .none kV doc pm an cdv ct/\K.lookup f=some ⟨oc,od,.func fd,osl⟩/\W.codeIn K cdv qual=true
 kp:W.keepIn K γ7=true
section
variable{P:Program}{w:World}{K:zze}{mg:M2}{base:Heap}
theorem mM.ok{x qual:Str}{st:Stmt}{f:Addr}{fd:FuncData}{N ps:v6}{k:Nat}{sp:Sp}(F:mM K x qual st f fd)(S:ζJ)(len:∀vs H Q E,sp vs H Q E->vs.length=ps.length)
 (hbody:∀(cdv:Value) (A:Around) (outer:δq) (s:Shared) (H:Hp) (vs:γB) (Q:VK) (E:XK),az k (A.deeper (envOfC qual γZ s.heap.objs.size f cdv))->sp vs H Q E ->
  ∃t,PSs (iY iZ P w K mg base N qual γZ f cdv A outer s H E).qu ηv t/\t {nx:=λ_ H'=>Q .ax H',rt:=Q} θk H):bz P w K mg base iZ (k+1) f fd ps sp:=by
 obtain⟨oc,od,kV,doc,pm,an,cdv,ct,osl,rfl,lk,hcd⟩:=F.ex
 refine AG lk hcd S len λA outer s H vs Q E hr hsp=>?_
 obtain⟨t,h,q⟩:=hbody cdv A outer s H vs Q E hr hsp
 exact⟨t,h.qu,q⟩
theorem mM.binds{x qual:Str}{st:Stmt}{f:Addr}{fd:FuncData}{ps:v6}(F:mM K x qual st f fd)
 (h:∀(kV doc pm:Value) (an:γ8) (cdv ct:Value) (us:v4),us.length=ps.length->bindArgs δA ⟨us,[]⟩=pure εX):Binds K fd ps []:=by obtain⟨oc,od,kV,doc,pm,an,cdv,ct,osl,rfl,lk,hcd⟩:=F.ex;exact .all (h kV doc pm an cdv ct)
theorem ot{x qual:Str}{st:Stmt}{f:Addr}{oc:Value}{od an:γ8}{osl:ηk}{kV doc pm cdv ct:Value}(l:K.lookup f=some ⟨oc,od,.func δA,osl⟩)
 (c:W.codeIn K cdv qual=true) (k:W.keepIn K γ7=true):mM K x qual st f δA:=⟨⟨oc,od,kV,doc,pm,an,cdv,ct,osl,rfl,l,c⟩,k⟩
end
section
variable{X:Cx}
theorem pv(i:Nat){x:Str}{pos:Pos}(hN:X.N[i]?=some x:=by rfl)(hv:wR X.env.scope x:=by first|exact Or.inl rfl|exact Or.inr (Or.inl rfl)|exact Or.inr (Or.inr rfl))(hd:(x == ("__debug__":Str))=false:=by decide)
 (hcd:(x == ("__classdict__":Str))=false:=by decide):PE X εh (uR i):=II hN hv hd hcd
end
theorem qB{A B:Prop}(h:B):if false=true then A else B:=by rw[qaC qas];exact h
theorem qC{A B:Prop}(h:A):if true=true then A else B:=by rw[qaF rfl];exact h
def ah(H H':Hp):Prop:=∀b o,H b=some o->H' b=some o
theorem ah.refl(H:Hp):ah H H:=λ_ _ h=>h
theorem ah.trans(a:ah H H1)(b:ah H1 H2):ah H H2:=λc o h=>b c o (a c o h)
theorem ah.free(e:ah H H')(h:H' l=Option.none):H l=Option.none:=by
 cases q:H l with
 |none=>rfl
 |some o =>
   rw[e l o q]at h;cases h
theorem ah.seq{K:zze}{H H':Hp}{a:Addr}{xs:γB}(e:ah H H')(h:b8 K H a xs):b8 K H' a xs:=by
 rcases h with (h|⟨o,h⟩)|h
 .exact .inl (.inl (e _ _ h))
 .exact .inl (.inr ⟨o,e _ _ h⟩)
 .exact .inr h
end L2
namespace Ex
open PySem PySem.Spec PyProof.Rows PySem.W
structure XB(B ini:String)(up:v4):Prop where
 mroIs:mroOf ζb=pure up
 hasB:up.contains ζb=true
 noAttr:up.contains (.type "AttributeError")=false
 noName:up.contains (.type "NameError")=false
 slot:Slot B "__init__" ini
 entry:entryFor table ini=some Builtin.«BaseException.__init__»
 split:splitId ini=some (B,"__init__")
 kind:builtinKind ini=some .slot
 row:Manifest.signature? ini=some ⟨.positional,"*",B,.self,[⟨"args",.varPos,false⟩]⟩
 star:(B != "*")=true
theorem XB.of(f:ExcBaseFacts B nw ini up):XB B ini up:=⟨f.mroIs,f.hasB,f.noAttr,f.noName,f.init,f.initEntry,f.initSplit,f.initKind,f.initRow,f.noStar⟩
theorem Sw:Slot "KeyError" "__init__" "KeyError.__init__":= by
 apply Slot.of (owner:= "KeyError") (n:= "__init__")
 case hl=>rw[typeLookup_type,builtinLookup_eq_fast];kernel_rfl
 all_goals first|decide +kernel|exact .inl (by decide +kernel)|exact .inr (by decide +kernel)| (rw[isSubtype_type];kernel_rfl)
theorem Sx:XB "KeyError" "KeyError.__init__" [.type "KeyError",.type "LookupError",.type "Exception",.type "BaseException",.type "object"]:=by
 refine⟨?_,?_,?_,?_,Sw,?_,?_,?_,?_,?_⟩
 case refine_1=>rw[mroOf_type];kernel_rfl
 case refine_5 =>
  apply entryFor_alias (id':= "BaseException.__init__")
  all_goals first|decide +kernel| (rw[fastTable_eq_tree];kernel_rfl)|rfl
 all_goals first|decide +kernel|kernel_rfl
noncomputable def rE(h:Heap)(C:Addr)(as:v4):Heap:=
 (h.push {cls:=.type "tuple",data:=.seq as.toArray}).push {cls:=.ref C,data:=.fields #[.ref h.objs.size,.none,.none,.none,.bool false,.none]}
theorem u5{h:Heap}:∀b o,h.get? b=some o->(rE h C as).get? b=some o:=λb o e=>qab _ ιe
theorem Dp:(rE h C as).get? (h.objs.size+1)=some {cls:=.ref C,data:=.fields #[.ref h.objs.size,.none,.none,.none,.bool false,.none]}:=
 Heap.get?_push_at (by rw[Heap.size_push]) rfl
section
variable{prog:Program}{w:World}{A:Around}{E:T0}{h:Heap}{g:Array GenState}{d:Drawn}{t:Nat}{os:OsState}{nm qn:Str}{C N:Addr}{bs tl up un:v4}{hd:Bool}{sn:v6}{sub:v4}{ab:Bool}{col:Option Bool}
 {dd:γ8}{j0 j1 j2 j3 j5:zzb}{B D nw ini ou:String}{K:Frag}{fI:Addr}{as:v4}
theorem Sy(fn:ζj)(hD:up.contains (.type D)=true)(F:ιl)(T:OwnTail h up tl)(hC:h.get? C=some εZ)
 (hl:as.length<=sizeLine) (q:R (.ok (.ret (.ref (h.objs.size+1)))) ⟨rE h C as,g,d,t,os⟩):codeAny γ A (.builtin nw ⟨.ref C::as,[]⟩) R ⟨h,g,d,t,os⟩:=by
 have isIn:∀{n:String}{b:Bool},up.contains (.type n)=b->(Value.ref C::tl).contains (.type n)=b:=λ{n b} e=>by rw[List.contains_cons,T.hasType e];exact Bool.false_or _
 have c1:=isIn hD;have c2:=isIn F.noAttr;have c3:=isIn F.noName;have ends:=fn.ends;apply codeAny_builtinAt fn.entry;delta Builtin.«BaseException.__new__»;apply PySem.wpAt_bind;change PySem.wpAt _ _ _ (stack >>= _) _ _ _;apply PySem.wpAt_bind;apply PySem.wpAt_stack;intro p below;apply PySem.wpAt_of_wpAny;wp_walk;apply PySem.wpAt_of_wpAny;rw[fn.owner]
 repeat (first
  | (with_reducible apply wpAny_madeHere_exc fn.canon hC)
  | (with_reducible apply qbo hC)
  | (with_reducible apply wpAny_isSubtype_exc hC;first|rw[c1]|rw[c2]|rw[c3])
  |wp_step)
 change R _ _;rw[Heap.size_push];exact q
theorem JY(fn:ζj)(hD:up.contains (.type D)=true)(F:ιl)(T:OwnTail h up tl)(X:K.In h)(hC:h.get? C=some εZ)
 (at_:findIn K γf "__init__" = some (some iv)) (bd:Looks γ (rE h C as) (bindSpecial iv (.ref (h.objs.size+1))) (iv,[.ref (h.objs.size+1)])) (hl:as.length<=sizeLine)
 (q:wpAny γ (A.under (.builtin "type.__call__" ⟨.ref C::as,[]⟩)) (call iv (.ref (h.objs.size+1)::as)) (λr s'=>r=.none/\Q (.ref (h.objs.size+1)) s') E ⟨rE h C as,g,d,t,os⟩) :
 wpAny γ A (call γf as) Q E ⟨h,g,d,t,os⟩:=by
 have look:=tc_lookup;have bnd:=tc_bind γf;have tyC:(⟨h,g,d,t,os⟩:Shared).TypeIs γf "type":= ⟨_,hC,rfl⟩;have X':K.In (rE h C as):=X.keeps u5;have hC':=u5 (as:=as) (C:=C) _ _ hC;have self:(Value.ref C::tl).contains γf=true:=by rw[List.contains_cons,beq_self_eq_true];exact Bool.true_or _
 apply wpAny_call;apply codeAny_of_tree;change wpAny _ _ (callAny γf _) _ _ _
 repeat (any_goals (first|assumption| (with_reducible apply qbo hC)|wp_step))
 constructor
 .rfl
 apply codeAny_call_builtin_at (Code.quiet_builtin _ (by decide +kernel)) entry_typeCall;apply wpAny_check_type_call_sub hC
 repeat (first| (with_reducible apply qbo hC)| (with_reducible apply wpAny_madeBy_exc hC)|wp_step)
 apply codeAny_call_builtin_code (Code.quiet_builtin _ fn.quiet);apply wpAny_check_new_subU fn hD T hC;apply Sy fn hD F T hC hl;change wpAny _ _ _ _ _ _;delta isInstance
 repeat (first| (with_reducible apply qbo Dp)| (with_reducible apply wpAny_isSubtype_exc hC';rw[self])|wp_step)
 change wpAny _ _ (typeLookup γf _) _ _ _;apply (looks_findIn X' at_).here (s:=⟨_,g,d,t,os⟩);apply qaV;apply qaa;apply bd.here (s:=⟨_,g,d,t,os⟩);apply qaa;apply qaS q
 .rintro r s' ⟨rfl,k⟩;wp_walk;exact k
 .exact λ_ _ z=>z
end
end Ex
namespace Ex
open PySem PySem.Spec PyProof.Rows PySem.W PySem.Calls Builtin Builtin.ObjectAttr
structure XC(K:Frag)(C:Addr):Prop where
 ga:findIn K γf "__getattribute__" = some (some (.builtin "BaseException.__getattribute__"))
 gt:findIn K γf "__getattr__" = some none
 sa:findIn K γf "__setattr__" = some (some (.builtin "object.__setattr__"))
 be:mroIn K C (.type "BaseException")=some true
 ob:mroIn K C (.type "object")=some true
 pass:∃cd,clsIn K C=some cd/\cd.hasDict=true/\∀self,refuseLoop self "__setattr__" cd.mro=pure ()
 ca:findIn K γf "__class__" = some (some (.builtin "object.__class__"))
 cg:specialIn K (.builtin "object.__class__") "__get__" = some (some (.builtin "getset_descriptor.__get__"))
 ct:takesIn K (.builtin "object.__class__")=some true
 kc:kitCls K γf γf=some true
section
variable{prog:Program}{w:World}{A:Around}{E:T0}{s:Shared}{K:Frag}{x C:Addr}{ox:Obj}{od:Option Obj}{n:Str}{ex fl:Bool}{tk:Tok}
theorem JZ(X:δZ)(I:εk)(c:XC K C)
 (k:wpAny γ A.in1 (Builtin.«object.__getattribute__» ⟨[.ref x,.str n tk],[]⟩) (λr s'=>∃v,r=.done (.ret v)/\wpAny γ A (handedOut v) Q E s') (λ_ _=>False) s) :
 wpAny γ A (getAttrBy δX (.str n tk) fl ex) Q E s:=by
 have noObj:(Value.builtin "BaseException.__getattribute__" == Value.builtin "object.__getattribute__")=false:=by decide +kernel
 have SL:=PySem.F.attr_ValueError.ga;have hook:Looks γ s.heap (hookBefore γf) none:=looks_hook X (mc:=.ref C) (show findIn K γf "__getattr__" = some none from c.gt);apply qaV;apply qaa;apply I.type.here;apply qaa;apply (looks_findIn X c.ga).here;dsimp only;rw[noObj,Bool.and_false,qaC qas];apply qaa;apply hook.here;apply qaa;apply wpAny_attempt;apply qaV;unfold callGetattribute;rw[show(ex&&onTheHeap (Value.builtin "BaseException.__getattribute__"))=false from Bool.and_false ex,qaC qas];unfold boundAndCalled;rw[SL.bind];apply qaa;apply qac;change wpAny _ _ (call (.builtin "BaseException.__getattribute__") [.ref x,.str n tk]) _ _ _;apply wpAny_call;apply qbD SL.plain PySem.F.entry_bexc_ga;apply @check_slot γ A.in1 _ s "BaseException.__getattribute__" "BaseException" "__getattribute__" δX [.str n tk] []
 .decide +kernel
 .decide +kernel
 .exact I.type.andThen (looks_mroIn X c.be)
 .exact PySem.F.args_bexc_ga _ _
 .exact qaS k (λr s' ⟨v,e,z⟩=>by subst e;exact z) λ_ _ z=>z.elim
theorem Sz(X:δZ)(I:εk)(c:XC K C)(hf:findObj K C od n=some (.value v))(hh:handedIn v=true)(q:Q v {s with toks:=s.toks+1}) :
 wpAny γ A (getAttr δX n ex) Q E s:=by apply qaa;apply wpAny_mkText;apply JZ (s:={s with toks:=s.toks+1}) X I c;delta Builtin.«object.__getattribute__»;apply qaa;apply qac;apply qaa;apply qac;apply qaa;apply I.type.here (s:={s with toks:=s.toks+1});apply qaa;apply (looks_find X I hf).here (s:={s with toks:=s.toks+1});exact qac ⟨v,rfl,by rw[handedOut_of hh];exact qac q⟩
theorem SA(X:δZ)(I:εk)(c:XC K C)(q:Q (some γf) {s with toks:=s.toks+1}):wpAny γ A (getAttr? δX "__class__") Q E s:=by
 obtain⟨cd,hc,_,_⟩:=c.pass
 have SD:findObj K C od "__class__" = some (.bind (.builtin "getset_descriptor.__get__") (.builtin "object.__class__")):=by unfold findObj;rw[hc,Option.bind_some,c.ca,Option.bind_some];dsimp only;rw[c.cg,Option.bind_some];dsimp only;rw[c.ct,Option.bind_some]
 apply qaa;apply wpAny_mkText;apply qaa;apply wpAny_attempt;apply JZ (s:={s with toks:=s.toks+1}) X I c;delta Builtin.«object.__getattribute__»;apply qaa;apply qac;apply qaa;apply qac;apply qaa;apply I.type.here (s:={s with toks:=s.toks+1});apply qaa;apply (looks_find X I SD).here (s:={s with toks:=s.toks+1});change wpAny _ _ (holding [_] (call (.builtin "getset_descriptor.__get__") [.builtin "object.__class__",.ref x,.ref C]) >>= ret) _ _ _;apply qaa;apply qaV;apply wpAny_call;exact class_get (s:={s with toks:=s.toks+1}) (ox:=ox) (od:=od) X I c.ob (qac ⟨_,rfl,handed_on rfl (qac q)⟩)
end
theorem SE{K:Frag}{x C:Addr}(c:XC K C):KitX K δX γf (λh=>∃ox od,InstAt h x ox C od) where
 ty:=λ_ _ _ ⟨_,_,I⟩=>I.type
 it:=λ_ _ X _=>(kit_cls X c.kc).2.1
 ne:=λh tp _ _ _ _ X e=>by
  obtain⟨cd,hc,_⟩:=c.pass;cases z:(Value.ref C == Value.ref tp) with
  |false=>rfl
  |true =>
    cases qa7.mp z;unfold clsIn at hc;split at hc
    .rename_i a;cases (X _ _ a).symm.trans e
    .cases hc
 ca:=λX ⟨_,_,I⟩ k=>SA X I c k
section
variable{prog:Program}{w:World}{A:Around}{E:T0}{s:Shared}{K:Frag}{x C:Addr}{ox:Obj}{od:Option Obj}{n:Str}{v:Value}
theorem J0(X:δZ)(I:εk)(c:XC K C)(none_:findIn K γf n=some none)
 (k:wpAny γ A.in1 (storeInOwnDict δX γf (.str n s.toks) n v false) (λr s'=>∃u,r=.done (.ret u)/\Q () s') E {s with toks:=s.toks+1}):wpAny γ A (setAttr δX n v) Q E s:=by
 have SO:=PySem.F.store_object;obtain⟨cd,hc,_,pass⟩:=c.pass;apply set_plain X I c.sa;apply qbD SO.slot.plain SO.entry;apply @check_slot γ A.in1 _ {s with toks:=s.toks+1} "object.__setattr__" "object" "__setattr__" δX [.str n s.toks,v] [] _ SO.kind SO.split
 .exact I.type.andThen (looks_mroIn X c.ob)
 .exact SO.args _ _ _
 rw[osa_eq,refuse_eq];apply qaa;apply qaa;apply I.type.here (s:={s with toks:=s.toks+1});apply qaa;apply ((looks_clsIn X hc).andThen .now:Looks γ s.heap (mroOf γf) cd.mro).here (s:={s with toks:=s.toks+1});rw[pass];apply qac;apply qaa;apply I.type.here (s:={s with toks:=s.toks+1});apply qaa;apply (looks_findIn X none_).here (s:={s with toks:=s.toks+1});apply qaa;apply qac;exact qaS k (λr s' ⟨u,e,z⟩=>by subst e;exact z) λ_ _ z=>z
theorem J1(N:s.heap.Ns1 dx mA)(W:Within mA ks)(few:ks.length<sizeLine)
 (k:∀h' tk',Heap.SameBut dx s.heap h'->h'.Ns1 dx (λy=>if y=n then some v else mA y)->R (.done (.ret .none)) {s with heap:=h',toks:=tk'}):wpAny γ A (storeInDict dx (.str n tk) n v) R E s:=by
 unfold storeInDict newKeyGuard;apply qaa;apply qac;apply qaa;apply wpAny_nsSet1 N;intro h' N' sb;obtain⟨o,es,ep,ho,hd,le⟩:=N'.count (Within.cons n v W);apply qaa;apply wpAny_lookBehind ho
 .rw[hd];apply pastItsLine_dict;rw[qaN]at le;omega
 .exact qac (k h' _ sb N')
theorem J2(hx:s.heap.get? x=some ox)(cl:ox.cls=.ref C)(hd:ox.data=.fields vs)(dict:match ox.dict,od with|some dx,some o=>s.heap.get? dx=some o|none,none=>True|_,_=>False):InstAt s.heap x ox C od:=
 ⟨hx,cl,by unfold notCls;rw[hd],dict⟩
theorem SF(X:δZ)(hx:s.heap.get? x=some ox)(cl:ox.cls=.ref C)(hd:ox.data=.fields vs)(Dq:ox.dict=none)(c:XC K C)(none_:findIn K γf n=some none)
 (k:∀h' tk',(∀b o,b≠x->s.heap.get? b=some o->h'.get? b=some o)->h'.get? x=some {ox with dict:=some s.heap.objs.size}->h'.Ns1 s.heap.objs.size (λy=>if y=n then some v else none)->Q () {s with heap:=h',toks:=tk'}) :
 wpAny γ A (setAttr δX n v) Q E s:=by
 obtain⟨cd,hc,own,_⟩:=c.pass;apply J0 (od:=none) X (J2 hx cl hd (by rw[Dq];trivial)) c none_;obtain⟨p1,p2,p3,osl⟩:=ox;dsimp only at cl hd Dq;subst cl hd Dq;obtain⟨h,g,d,t,os⟩:=s;dsimp only at hx X k;have new:x≠h.objs.size:=qal (qai hx);have hx2:=qab emptyDict hx;unfold storeInOwnDict;apply qaa;apply qac;rw[qaC (show ¬((Value.ref C == Value.type "module")=true) by intro z;cases qa7.mp z)];change wpAny _ _ (instanceDict x true >>= _) _ _ _;unfold instanceDict;apply qaa;apply qaa;apply qbo hx;dsimp only;apply qaa;apply (looks_clsIn X hc).here (s:=⟨h,g,d,t+1,os⟩);rw[own,qaC (by decide)];rw[qaC (show ¬((!true || !typeHasDict γf)=true) from qas)];apply qaa;apply wpAny_alloc;apply qaa;apply wpAny_update hx2;apply qac;have gx:((h.push emptyDict).update x λo=>{o with dict:=some h.objs.size}).get? x=some ⟨.ref C,some h.objs.size,.fields vs,osl⟩:=qbz _ hx2 rfl
 have gd:((h.push emptyDict).update x λo=>{o with dict:=some h.objs.size}).get? h.objs.size=some emptyDict:=by rw[qaA _ _ new];exact qao h rfl
 apply J1 (ks:=[]) (Heap.Ns1.of_empty ⟨_, #[],_,gd,rfl,(by intro e he;exact absurd he (by simp)),λ_=>rfl⟩) Within.nil (by rw[sizeLine_eq];decide);intro h' tk' sb N;refine⟨_,rfl,k h' tk' (λb o ne e=>?_) ((sb.2 x new).trans gx) N⟩;rw[sb.2 b (qal ζ1),qaA _ _ (qaR ne)];exact qab emptyDict e
theorem SG(X:δZ)(hx:s.heap.get? x=some ox)(cl:ox.cls=.ref C)(hd:ox.data=.fields vs)(hdx:ox.dict=some dx)(N:s.heap.Ns1 dx mA)(W:Within mA ks)(few:ks.length<sizeLine)
 (c:XC K C) (none_:findIn K γf n=some none) (k:∀h' tk',Heap.SameBut dx s.heap h'->h'.Ns1 dx (λy=>if y=n then some v else mA y)->Q () {s with heap:=h',toks:=tk'}):wpAny γ A (setAttr δX n v) Q E s:=by obtain⟨cd,hc,own,_⟩:=c.pass;obtain⟨oD,hD,_⟩:=L2.f_ N;apply J0 (od:=some oD) X (J2 hx cl hd (by rw[hdx];exact hD)) c none_;obtain⟨p1,p2,p3,osl⟩:=ox;dsimp only at cl hd hdx;subst cl hd hdx;obtain⟨h,g,d,t,os⟩:=s;dsimp only at hx X k N;unfold storeInOwnDict;apply qaa;apply qac;rw[qaC (show ¬((Value.ref C == Value.type "module")=true) by intro z;cases qa7.mp z)];change wpAny _ _ (instanceDict x true >>= _) _ _ _;unfold instanceDict;apply qaa;apply qaa;apply qbo hx;dsimp only;apply qaa;apply (looks_clsIn X hc).here (s:=⟨h,g,d,t+1,os⟩);rw[own,qaC (by decide)];apply qac;apply J1 (s:=⟨h,g,d,t+1,os⟩) N W few;exact λh' tk' sb N'=>⟨_,rfl,k h' tk' sb N'⟩
theorem J_{as:v4}(F:ιl)(X:δZ)(I:εk)(c:XC K C)(sub:mroIn K C ζb=some true)(hd:ox.data=.fields vs)(v0:vs[0]?=some (.ref t0))(few:as.length<=sizeLine)
 (k:∀h',(∀b o,b≠x->s.heap.get? b=some o->h'.get? b=some o)->h'.get? x=some {ox with data:=.fields (vs.setIfInBounds 0 γj)}->Q .none {s with heap:=h'}):wpAny γ A (call (.builtin ini) (.ref x::as)) Q E s:=by
 have Ka:Looks γ s.heap (isInstance δX ζb) true:=I.type.andThen (looks_mroIn X sub);obtain⟨cd,hc,_,_⟩:=c.pass;have lc:=looks_clsIn (M:=model prog w) X hc;have hx:=I.at_;have cl:=I.cls;obtain⟨h,g,d,t,os⟩:=s;obtain⟨p1,p2,p3,p4⟩:=ox;dsimp only at cl hd hx Ka k;subst cl hd;have pos:0<vs.size:=(qa0.mp v0).1;have hx2:=qab {cls:=.type "tuple",data:=.seq as.toArray} hx;have anyArgs:∀(a b:String) (m:Nat),Bind.check ⟨.positional,"*",B,.self,[⟨"args",.varPos,false⟩]⟩ a b m (List.map (·.fst) ({pos:=Value.ref x::as}:Args).kw)=pure ():=λ_ _ _=>check_star_args _ _ _ _ _ _;have last:Q .none ⟨(h.push {cls:=.type "tuple",data:=.seq as.toArray}).update x (Obj.mapFields (·.setIfInBounds 0 (.ref h.objs.size))),g,d,t,os⟩:=k _ (λb o ne e=>by rw[qaA _ _ (qaR ne)];exact qab _ e) (qbz _ hx2 rfl);have notStar:=F.star;apply wpAny_call;apply qbD F.slot.plain F.entry;simp only[F.kind,F.split,F.row,checkBuiltinCall];apply qaa;apply Ka.here (s:=⟨h,g,d,t,os⟩);rw[show(!true)=false from rfl,qaC qas]
 repeat (first|apply wpAny_onRaise| (rw[anyArgs];apply qac)| (apply qaa;apply lc.here (s:=⟨h,g,d,t,os⟩))|wp_step)
 rw[v0];apply qac;apply qaa;apply wpAny_setField hx2 rfl pos;dsimp only
 repeat (first|exact last|wp_step)
end
end Ex
namespace Ex
open PySem PySem.Spec PyProof.Rows PySem.W PySem.Calls
noncomputable def rF(h:Heap)(e:Addr)(m:Value):Option Addr->Prop
 |none=>∃oe vs,h.get? e=some oe/\oe.data=.fields vs/\vs[1]?=some .none
 |some T=>∃oe vs oT ts,h.get? e=some oe/\oe.data=.fields vs/\vs[1]?=some (.ref T)/\T≠e/\h.get? T=some oT/\oT.data=.fields ts/\ts[3]?=some m
structure Step(fr:zzd)(e:Addr)(tb:γ8)(h h':Heap):Prop where
 keep:∀b o,h.get? b=some o->b≠e->tb≠some b->b∉fr->h'.get? b=some o
 slot:∀b o,h.get? b=some o->b≠e->tb≠some b->∃sl,h'.get? b=some {o with slots:=sl}
 exc:∀oe vs,h.get? e=some oe->oe.data=.fields vs->∃vs':zzh,h'.get? e=some {oe with data:=.fields vs'}/\vs'[0]?=vs[0]? /\ vs'.size=vs.size
 there:∀b o,h.get? b=some o->∃o',h'.get? b=some o'
theorem SH{o:Obj}(hd:o.data=.fields vs)(f:zzh->zzh):o.mapFields f={o with data:=.fields (f vs)}:=by
 cases o with
 |mk c d dt sl=>cases hd;rfl
theorem Dr{h:Heap}(e:h.get? a=some o)(hd:o.data=.fields vs)(i:Nat)(v:Value) :
 (h.update a (Obj.mapFields (·.setIfInBounds i v))).get? a=some {o with data:=.fields (vs.setIfInBounds i v)}:=by rw[<-SH hd (·.setIfInBounds i v)];exact qbz _ e (Obj.isFreed_of_fields (Obj.data_mapFields hd _))
section
variable{M:Model}{A:Around}{E:T0}{s:Shared}{env:Env}{outer:δq}{base:Heap}{L e:Addr}
theorem Kb(fr:A.frames=some (env::outer))(ff:s.heap.FunFrames base (env::outer))(at_:env.frame=some L)(he:s.heap.get? e=some oe)(hd:oe.data=.fields vs)(two:1<vs.size)
 (k:∀h' T,Step (L2.frs (env::outer)) e none s.heap h'->s.heap.objs.size<=T->rF h' e (rawInt L) (some T)->Q () {s with heap:=h'}) :
 wpAny M A (do let fo <-frameOf env;let pl <-entryPlaceOf L more;let en <-EntryCells.newEntry hd0 fo .none (rawInt L) .none pl;setField εJ 1 en) Q E s:=by
 have SI:e∉L2.frs (env::outer):=λm=>let ⟨_,o,ho,no⟩:=ff.mem m;no vs (by rw[he]at ho;cases ho;exact hd);apply qaa;apply wpAny_frameOf_fun fr ff at_;rintro h1 ⟨sz,same,Kc⟩;apply qaa;apply wpAny_entryPlaceOf;intro pl xj;delta EntryCells.newEntry newFields;apply qaa;apply qaJ _ (xj.sizeOk5 _ _ _ _ _);generalize eN:({cls:=.type "traceback",dict:=none,data:=.fields ([hd0,.ref L,.none,rawInt L,.none]++(if pl.isEmpty then List.replicate 6 Value.none else pl)).toArray}:Obj)=en;have e1:h1.get? e=some oe:=(same e SI).trans he;have ne:h1.objs.size≠e:=λz=>absurd (qai e1) (by rw[z];exact qa2 _);have e2:=Dr (qab en e1) hd 1 ηb
 have oth:∀b o,b≠e->h1.get? b=some o->((h1.push en).update e (Obj.mapFields (·.setIfInBounds 1 ηb))).get? b=some o:=λb o nb z=>by rw[qaA _ _ (qaR nb)];exact qab en z
 have Ds:((h1.push en).update e (Obj.mapFields (·.setIfInBounds 1 ηb))).get? h1.objs.size=some en:=by rw[qaA _ _ (qaR ne)];exact qao h1 (by rw[<-eN];rfl)
 apply wpAny_setField (qab en e1) hd two;apply k _ h1.objs.size
 .constructor
  .exact λb o z nb _ nf=>oth b o nb ((same b nf).trans z)
  .intro b o z nb _;obtain⟨sl,z'⟩:=Kc b o z;exact⟨sl,oth b _ nb z'⟩
  .intro oe' vs' z zd;cases he.symm.trans z;cases hd.symm.trans zd;exact⟨_,e2,Array.getElem?_setIfInBounds_ne (by decide),Array.size_setIfInBounds⟩
  .intro b o z;by_cases nb:b=e
   .rw[nb];exact⟨_,e2⟩
   .obtain⟨sl,z'⟩:=Kc b o z;exact⟨_,oth b _ nb z'⟩
 .rw[sz];exact qam _
 .refine⟨_,_,_,_,e2,rfl,by simp[two],ne,Ds,by rw[<-eN],?_⟩;rcases xj with z|⟨_,_,_,_,_,_,_,z⟩<;>subst z<;>rfl
theorem Ke(fr:A.frames=some (env::outer))(ff:s.heap.FunFrames base (env::outer))(at_:env.frame=some L)(F:rF s.heap e .none tb)(two:∀oe vs,s.heap.get? e=some oe->oe.data=.fields vs->1<vs.size)
 (k:∀h' T,Step (L2.frs (env::outer)) e tb s.heap h'->s.heap.objs.size<=T->rF h' e (rawInt L) (some T)->Q () {s with heap:=h'}):wpAny M A (noteFrame εJ env) Q E s:=by
 unfold noteFrame;rw[at_];dsimp only;cases tb with
 |none =>
   obtain⟨oe,vs,he,hd,v1⟩:=F;apply qaa;apply wpAny_field he hd v1;rw[qaC (show ¬((Value.none != Value.none)=true) by decide)];exact Kb fr ff at_ he hd (two _ _ he hd) k
 |some T =>
   obtain⟨oe,vs,oT,ts,he,hd,v1,nT,hT,hdT,t3⟩:=F;have oth:∀b,b≠T->(s.heap.update T (Obj.mapFields (·.setIfInBounds 3 .none))).get? b=s.heap.get? b:=λb z=>qaA _ _ (qaR z);have SJ:∀b o,s.heap.get? b=some o->(∀vs,o.data≠.fields vs)->b≠T:=λb o z no q=>by subst q;cases hT.symm.trans z;exact no ts hdT
   apply qaa;apply wpAny_field he hd v1;rw[qaF (show(Value.ref T != Value.none)=true by rfl)];apply qaa;apply wpAny_field hT hdT t3;rw[qaC (show ¬((Value.none == rawInt L)=true) by intro z;cases qa7.mp z)];apply qaa;apply wpAny_setField hT hdT (qa0.mp t3).1;apply Kb (s:={s with heap:=s.heap.update T (Obj.mapFields (·.setIfInBounds 3 .none))}) fr (ff.of_keeps λb o z no=>⟨o,(oth b (SJ b o z no)).trans z,rfl⟩) at_ ((oth e (qaR nT)).trans he) hd (two _ _ he hd);intro h' T' S le F';apply k h' T' _ (by rw[Heap.size_after_update]at le;exact le) F';have via:∀b,some T≠some b->b≠T:=λb z q=>z (by rw[q]);constructor
   .exact λb o z nb nt nf=>S.keep b o ((oth b (via b nt)).trans z) nb (by intro q;cases q) nf
   .exact λb o z nb nt=>S.slot b o ((oth b (via b nt)).trans z) nb (by intro q;cases q)
   .exact λoe' vs' z zd=>S.exc oe' vs' ((oth e (qaR nT)).trans z) zd
   .intro b o z;by_cases q:b=T
    .rw[q];exact S.there T _ (Dr hT hdT 3 .none)
    .exact S.there b o ((oth b q).trans z)
theorem Dt(F:rF s.heap e m (some T))
 (k:∀h',(∀b,b≠T->h'.get? b=s.heap.get? b)->rF h' e .none (some T)->Q () {s with heap:=h'}):wpAny M A (setFlight εJ none) Q E s:=by obtain⟨oe,vs,oT,ts,he,hd,v1,nT,hT,hdT,t3⟩:=F;have l3:3<ts.size:=(qa0.mp t3).1;have oth:∀b,b≠T->(s.heap.update T (Obj.mapFields (·.setIfInBounds 3 .none))).get? b=s.heap.get? b:=λb z=>qaA _ _ (qaR z);unfold setFlight;apply qaa;apply wpAny_field he hd v1;rw[qaF (show(Value.ref T != Value.none)=true by rfl)];apply wpAny_setField hT hdT l3;exact k _ oth ⟨oe,vs,_,_,(oth e (qaR nT)).trans he,hd,v1,nT,Dr hT hdT 3 .none,rfl,by simp[l3]⟩
end
end Ex
namespace L2
open PySem PySem.Spec PyProof.Rows Ex
noncomputable def cT(C e:Addr)(dd:γ8)(fr:Bool):HO:=.ext λh=>∃oe vs t0,h.get? e=some oe/\oe.cls=.ref C/\oe.dict=dd/\oe.data=.fields vs/\vs[0]?=some (.ref t0)/\1<vs.size/\(fr=true->vs[1]?=some .none)
noncomputable def mN(d:Addr)(fs:List (Str×V)):HO:=.ext λh=>∃mA,h.Ns1 d mA/\(∀f,eB ζX (mA f))/\PySem.Within mA (fs.map (·.1))
section
variable{P:Program}{w:World}{H:Hp}{h:Heap}{e C d:Addr}{dd:γ8}{fr:Bool}{fs:List (Str×V)}
theorem u6(he:h.get? e=some oe)(hc:oe.cls=.ref C)(hdd:oe.dict=dd)(hd:oe.data=.fields vs)(h0:vs[0]?=some (.ref t0))(hs:1<vs.size)(hf:fr=true->vs[1]?=some .none) :
 aJ P w H h e (cT C e dd fr):=
 ⟨⟨oe,vs,t0,he,hc,hdd,hd,h0,hs,hf⟩,⟨oe,he⟩,λ_ _ z k=>by obtain⟨oe,vs,t0,he,r⟩:=z;exact⟨oe,vs,t0,k _ he,r⟩⟩
theorem Kf(hn:h.Ns1 d mA)(hr:∀f,eB ζX (mA f))(hw:PySem.Within mA (fs.map (·.1))):aJ P w H h d θn:=
 ⟨⟨mA,hn,hr,hw⟩,hn.imp λ_ z=>by obtain⟨_,_,q,_⟩:=z;exact q,λ_ _ z k=>by obtain⟨mA,⟨o,es,ep,q,r⟩,r2⟩:=z;exact⟨mA,⟨o,es,ep,k _ q,r⟩,r2⟩⟩
theorem pW(ok:δW)(q:H e=some (cT C e dd fr)):∃oe vs t0,h.get? e=some oe/\oe.cls=.ref C/\oe.dict=dd/\oe.data=.fields vs/\vs[0]?=some (.ref t0)/\1<vs.size/\(fr=true->vs[1]?=some .none):=(ok _ _ q).1
theorem Du(ok:δW)(q:H d=some θn):∃mA,h.Ns1 d mA/\(∀f,eB ζX (mA f))/\PySem.Within mA (fs.map (·.1)):=(ok _ _ q).1
end
structure SN(X:Cx)(pins:W1)(H:Hp)(s:Shared)(e C:Addr):Prop where
 ex:∃dd,H e=some (cT C e dd false)
 lo:X.s₀.heap.objs.size<=e
 tr:∃tb,rF s.heap e .none tb/\∀T,tb=some T->H T=none/\X.s₀.heap.objs.size<=T/\∀p∈X.pn++pins,p.1≠T
abbrev bw:=St->XK
def XOk(X:Cx)(EE:bw):Prop:=∀(pins:W1) (σ:St) (H:Hp) (s:Shared) (e C:Addr),Inv X pins σ H s->SN X pins H s e C->EE σ γf εQ H->X.xe εJ s
def ix(P:Program)(w:World):oi:=λouter H s E ev s'=>∃e C H',ev=.ref e/\s'.os=s.os/\AllBare s'.gens/\Un (frs outer) [] H H' s.heap s'.heap/\dJ P w H' s'.heap /\
 (∃dd,H' e=some (cT C e dd false))/\s.heap.objs.size<=e/\(∃tb,rF s'.heap e .none tb/\∀T,tb=some T->H' T=none/\s.heap.objs.size<=T)/\E γf εQ H'
theorem Kg{X:Cx}{EE:bw}(hX:ζh){pins:W1}{σ:St}{H:Hp}{s s':Shared}{ev:Value}(I:ε)(h:ix X.prog X.w X.stack H s (EE σ) ev s'):X.xe ev s':=by obtain⟨e,C,H',rfl,os,bare,un,hok,ex,lo,⟨tb,F,hT⟩,q⟩:=h;have I':Inv X pins σ H' s':=I.n8 (ch:=[]) os un hok bare λb z=>absurd z (by simp);refine hX pins σ H' s' e C I' ⟨ex,qaO I.sz lo,tb,F,λT z=>⟨(hT T z).1,qaO I.sz (hT T z).2,λp hp=>?_⟩⟩ q;have lt:=qai (I.pin p hp).1;have:=(hT T z).2;exact qal (qar lt this)
section
variable{P:Program}{w:World}{K:zze}{mg:M2}{base:Heap}{N:v6}{qual:Str}{scope:Scope}{f:Addr}{cd:Value}{A:Around}{outer:δq}{s:Shared}{H:Hp}{E:XK}
theorem AK:XOk (iY ηT P w K mg base N qual scope f cd A outer s H E) (λ_=>E):=by
 intro pins σ H1 s1 e C I T q;obtain⟨⟨dd,ex⟩,lo,tb,F,hT⟩:=T;show wpAny εY (A.deeper γH) (leaving γH εJ) (λ_ s''=>ix P w outer H s E εJ s'') (λe' s''=>ix P w outer H s E e' s'') s1;have hfr:(A.deeper γH).frames=some (envOfC qual scope s.heap.objs.size f cd::outer):=I.ok.frames;have hl:s1.heap.FunFrames base (envOfC qual scope s.heap.objs.size f cd::outer):=I.stack;obtain⟨oe,vs,t0,he,hc,hdd,hd,h0,hsz,_⟩:=pW I.hok ex
 have s0:∀b o,s.heap.get? b=some o->b≠e/\tb≠some b/\b≠s.heap.objs.size:=λb o z=>by have lt:=qai z;refine⟨qal (qar lt lo),λy=>?_,qal lt⟩;exact qa2 _ (qar lt (hT b y).2.1)
 unfold leaving;refine qaa (Ke (L:=s.heap.objs.size) hfr hl rfl F (λoe' vs' a b=>by rw[he]at a;cases a;rw[hd]at b;cases b;exact hsz) λh' T' S hle FF=>?_);refine Dt (s:={s1 with heap:=h'}) FF λh'' oth F2=>?_;have SQ:s.heap.objs.size<=s1.heap.objs.size:=I.sz;have hT':∀b o,s1.heap.get? b=some o->b≠T':=λb o z=>qal (qar (qai z) hle);have fresh:H1 T'=none:=I.hok.fresh hle;have keep:∀b o,s1.heap.get? b=some o->b≠e->tb≠some b->b∉frs (envOfC qual scope s.heap.objs.size f cd::outer)->h''.get? b=some o:=λb o z a1 a2 a3=>(oth b (hT' b o z)).trans (S.keep b o z a1 a2 a3)
 have xk:∀b,b∈frs (envOfC qual scope s.heap.objs.size f cd::outer)->b=s.heap.objs.size\/b∈frs outer:=λb hb=>by
  unfold frs at hb ⊢;rw[qaK]at hb;rcases qak.mp hb with z|z
  .exact .inl z
  .exact .inr z
 have tracked:∀b u,H1 b=some u->b∉frs (envOfC qual scope s.heap.objs.size f cd::outer):=λb u z hb=>by have n:H1 b=none:=I.gM b hb;rw[z]at n;cases n
 refine⟨e,C,H1,rfl,I.os,I.bare,⟨λb o z n hb hx=>?_,λb o z n hb hx=>?_,I.base.free,λb o z hx=>?_,I.base.tups,I.base.gG,I.base.gU⟩,λb u z=>?_,⟨dd,ex⟩,lo,⟨some T',F2,λT z=>?_⟩,q⟩
 .obtain⟨a1,a2,a3⟩:=s0 b o z;exact keep b o (I.base.keep b o z n hb hx) a1 a2 λy=>(xk b y).elim a3 hb
 .obtain⟨a1,a2,a3⟩:=s0 b o z;obtain⟨sl,e1⟩:=I.base.slot b o z n hb hx;obtain⟨sl2,e2⟩:=S.slot b _ e1 a1 a2;exact⟨sl2,(oth b (hT' b _ e1)).trans e2⟩
 .obtain⟨o',e1⟩:=I.base.there b o z hx;obtain⟨o2,e2⟩:=S.there b o' e1;exact⟨o2,(oth b (hT' b _ e1)).trans e2⟩
 .by_cases hb:b=e
  .subst hb;rw[ex]at z;cases z;obtain⟨vs',e1,e2,e3⟩:=S.exc oe vs he hd;exact u6 ((oth b (hT' b _ he)).trans e1) hc hdd rfl (by rw[e2];exact h0) (by rw[e3];exact hsz) λz=>nomatch z
  .refine(I.hok b u z).stay (λc v hcv r=>?_) (λ_ r=>r) λ_ _ r=>r
   have ne:c≠e:=by
    rcases hcv with rfl|hcv
    .exact hb
    .exact rn hcv ex (by intro y;cases y)
   have tr:∃u',H1 c=some u':=by
    rcases hcv with rfl|hcv
    .exact⟨_,z⟩
    .exact⟨_,hcv⟩
   obtain⟨u',hu'⟩:=tr;exact keep c v r ne (λy=>by have:=(hT c y).1;rw[hu']at this;cases this) (tracked c u' hu')
 .cases z;exact⟨fresh,qaO SQ hle⟩
end
end L2
namespace Ex
open PySem PySem.Spec PyProof.Rows PySem.W PySem.Calls Builtin Builtin.ObjectAttr
def Kh(K:Frag)(h:Heap)(e:Addr):Prop:=∃oe vs C oC,h.get? e=some oe/\oe.cls=.ref C/\mroIn K C (.type "BaseException")=some true/\K.lookup C=some oC/\oC.cls=.type "type" /\ oe.data=.fields vs/\vs[1]?=some .none
theorem Dw{A:Around}{K:Frag}(calm:A.handled=none)
 (k:wpAny M A x (λv s'=>∃e,v=.ref e/\K.In s'.heap/\Kh K s'.heap e/\E v s') E s):wpAny M A (raiseStmt env δt none) Q E s:=by
 delta raiseStmt;apply qaa;apply qaS k _ λ_ _ z=>z;rintro v ⟨h,g,d,t,os⟩ ⟨e,rfl,X,⟨⟨c1,c2,c3,c4⟩,vs,C,⟨d1,d2,d3,d4⟩,he,hc,sub,hC,ht,hd,v1⟩,last⟩;dsimp only at X he hc hd ht;subst hc hd ht;have LS:=looks_mroIn (M:=M) X sub;have hC':=X _ _ hC
 repeat (first| (with_reducible apply qbo hC')| (with_reducible apply qbo he)| (with_reducible apply LS.here (s:=⟨h,g,d,t,os⟩))|rw[v1]|wp_step)
 exact wpAny_raiseNew_none calm last
end Ex
namespace L2
open PySem PySem.Spec PyProof.Rows Ex
def SR(K:zze)(ta:TE)(f:Str):TE:=λσ H Q=>ta σ H λx H1=>∃a C d fr fs v,x=.ref a/\H1 a=some εM/\H1 d=some θn/\XC K C/\bj K C f/\fs.lookup f=some v/\Q v H1
def SS(K:zze)(ta tv:TE)(f:Str):TS:=λD σ H=>tv σ H λy H1=>ta σ H1 λx H2=>∃a C fr,x=.ref a/\XC K C/\bj K C f /\
 ((H2 a=some εW/\∀d,H2 d=none->d≠a->D.nx σ (upd (upd H2 d (mN d [(f,y)])) a εM)) \/
  (∃d fs,H2 a=some εM/\H2 d=some θn/\fs.length<1000/\D.nx σ (upd H2 d (mN d (jN f y fs)))))
section
variable{X:Cx}{o e value:Expr}{f:Str}{pos pos' tpos:Pos}{ta tv:TE}
theorem AL{K:zze}(ok:δW)(q:H a=some (cT C a dd fr))(hdd:∀d,dd=some d->∃o,h.get? d=some o) :
 ∃ox od,W.InstAt h a ox C od/\ox.dict=dd/\(∀d,dd=some d->∃o,od=some o/\h.get? d=some o):=by
 obtain⟨oe,vs,t0,he,hc,hd,hda,_⟩:=pW ok q;have hn:W.notCls oe=true:=by unfold W.notCls;rw[hda]
 cases dd with
 |none=>exact⟨oe,none,⟨he,hc,hn,by rw[hd];trivial⟩,hd,λd z=>nomatch z⟩
 |some d =>
   obtain⟨o,ho⟩:=hdd d rfl;exact⟨oe,some o,⟨he,hc,hn,by rw[hd];exact ho⟩,hd,λd' z=>by cases z;exact⟨o,rfl,ho⟩⟩
theorem SU(he:PE X e ta)(hb:attributeBase e f X.env εO=eval e X.env):PE X θS (SR X.K ta f):=by
 intro pins s σ H Q I h;refine Jn hb (aK γF λu s1 zq=>?_);obtain⟨x,H1,I1,rx,a,C,d,fr,fs,v,ex,ea,ed,c,n,l,q⟩:=zq;subst ex;obtain rfl:u=Value.ref a:=rx;obtain⟨mA,hn,hr,_⟩:=Du I1.hok ed;obtain⟨od,ho,hlk⟩:=f_ hn;obtain⟨ox,od',AM,_,hod⟩:=AL (K:=X.K) I1.hok ea λd' z=>by cases z;exact⟨od,ho⟩
 obtain⟨o2,e2,ho2⟩:=hod d rfl;rw[ho]at ho2;cases ho2;subst e2;obtain⟨u,hu,ru⟩:=eB.some_of (v:=v) (o:=mA f) (by rw[<-l];exact hr f);obtain⟨cd,hcd,SV,_⟩:=c.pass;have hf:W.findObj X.K C (some od) f=some (.value u):=W.findObj_own (by unfold W.hasDictIn;rw[hcd];exact SV) n rfl (by rw[hlk,hu]);exact Sz I1.bV AM c hf (Jl ru) ⟨v,H1,I1.tok _,ru,q⟩
theorem SW(ha:PE X o ta)(hv:PE X value tv)(hs:swapsWith value (some (.Attribute o f pos')) pos.line X.env=pure false):PS X (.Assign [.Attribute o f pos'] value pos) (SS X.K ta tv f):=by
 intro pins s σ H D I h;refine plainObj_wpAny_Assign_Attribute (aK (hv pins s σ H _ I h) λu s1 zq=>?_) hs;obtain⟨y,H1,I1,ry,q⟩:=zq;refine aK (ha pins s1 σ H1 _ I1 q) λov s2 zq=>?_;obtain⟨x,H2,I2,rx,a,C,fr,ex,c,n,q2⟩:=zq;subst ex;obtain rfl:ov=Value.ref a:=rx;rcases q2 with ⟨ea,k⟩|⟨d,fs,ea,ed,hl,k⟩
 .obtain⟨oe,vs,t0,he,hc,hd,hda,h0,hsz,hfr⟩:=pW I2.hok ea;have na:s2.heap.objs.size≠a:=Nat.ne_of_gt (qai he);refine SF I2.bV he hc hda hd c n λh' tk' kp hx hn=>?_;refine⟨σ,_,?_,k s2.heap.objs.size (I2.hok.fresh γO) na⟩;have fresh:H2 s2.heap.objs.size=none:=I2.hok.fresh γO;have hdn:∃o,h'.get? s2.heap.objs.size=some o:=let ⟨o,_,_,z,_⟩:=hn; ⟨o,z⟩
  have od:∀(G:Hp),aJ X.prog X.w G h' s2.heap.objs.size (mN s2.heap.objs.size [(f,y)]):=λG=>Kf hn (λg=>by
   show eB (List.lookup g [(f,y)]) (if g=f then some u else none);rw[qbm];by_cases z:g=f
   .subst z;rw[qaF rfl];simp only[beq_self_eq_true];exact ry
   .have z':(g == f)=false:=by simpa using z
    rw[qaC z,z'];exact True.intro) (λg hg=>by
   have z:g=f:=by
    by_cases z:g=f
    .exact z
    .exact absurd (qaC z) hg
   rw[z];simp)
  have oe':∀(G:Hp),aJ X.prog X.w G h' a θW:=λG=>u6 hx hc rfl hda h0 hsz hfr
  have un:Un X.fs [] H2 (upd (upd H2 s2.heap.objs.size (mN s2.heap.objs.size [(f,y)])) a θW) s2.heap h':=by
   have ne:∀b,H2 b=none->b≠a:=λb z e=>by rw[e,ea]at z;cases z
   refine⟨λb ob z z2 _ _=>kp b ob (ne b z2) z,λb ob z z2 _ _=>⟨ob.slots,kp b ob (ne b z2) z⟩,λb ob z z2 _=>?_,λb ob z _=>?_,λb xs z=>?_,λb ob xs z=>?_,λb ps z=>⟨#[],?_⟩⟩
   .rw[bh (ne b z2),bh (qal (qai z))];exact z2
   .by_cases hb:b=a
    .subst hb;exact⟨_,hx⟩
    .exact⟨ob,kp b ob hb z⟩
   .rw[bh (rn z ea (by intro y;cases y)),bh (iG z fresh)];exact z
   .rw[bh (rn z ea (by intro y;cases y)),bh (iG z fresh)];exact z
   .rw[bh (rn z ea (by intro y;cases y)),bh (iG z fresh),z];simp
  refine I2.un un λb ob z=>?_;by_cases hb:b=a
  .subst hb;rw[eC]at z;cases z;exact oe' _
  .rw[bh hb]at z;by_cases hb2:b=s2.heap.objs.size
   .subst hb2;rw[eC]at z;cases z;exact od _
   .rw[bh hb2]at z;refine(I2.hok b ob z).stay (λc v hcv r=>kp c v ?_ r) (λc r=>?_) λc xs r=>?_
    .rcases hcv with rfl|hcv
     .exact hb
     .exact rn hcv ea (by intro y;cases y)
    .rw[bh (rn r ea (by intro y;cases y)),bh (iG r fresh)];exact r
    .rw[bh (rn r ea (by intro y;cases y)),bh (iG r fresh)];exact r
 .obtain⟨oe,vs,t0,he,hc,hd,hda,h0,hsz,hfr⟩:=pW I2.hok ea;obtain⟨mA,hn,hr,hw⟩:=Du I2.hok ed;refine SG I2.bV he hc hda hd hn hw (by rw[qaf,sizeLine_eq];omega) c n λh' tk' sb hn'=>?_;refine⟨σ,_,I2.write (x:=d) (e:=d) (by rw[ed];exact True.intro) γM (λb q hb z=>(sb.2 b hb).trans z) (let ⟨o,_,_,z,_⟩:=hn'; ⟨o,z⟩) ?_,k⟩;refine Kf hn' (λg=>?_) λg hg=>?_
  .show eB ((jN f y fs).lookup g) (if g=f then some u else mA g);rw[C9];by_cases q:g=f
   .rw[qaF q,qaF q];exact ry
   .rw[qaC q,qaC q];exact hr g
  .by_cases q:g=f
   .rw[q];exact(xb f y fs).1
   .refine(xb f y fs).2 g (hw g λz=>hg ?_);show(if g=f then some u else mA g)=none;rw[qaC q];exact z
end
structure oy(h h':Heap)(e C:Addr):Prop where
 keeps:∀c u,h.get? c=some u->h'.get? c=some u
 le:h.objs.size<=e
 obj:∃t0,h'.get? e=some {cls:=.ref C,data:=.fields #[.ref t0,.none,.none,.none,.bool false,.none]}
def XMk(K:zze)(C fI:Addr):Prop:=∀(prog:Program) (w:World) (A:Around) (E:T0) (s:Shared) (rest:v4) (Q:T0),K.In s.heap->rest.length<=sizeLine ->
 (∀h' e,oy s.heap h' e C->wpAny γ (A.under (.builtin "type.__call__" ⟨.ref C::rest,[]⟩)) (call (.ref fI) (.ref e::rest)) (λr s'=>r=.none/\Q εJ s') E {s with heap:=h'}) ->
 wpAny γ A (call γf rest) Q E s
def AN(K:zze)(C:Addr):Prop:=∀(prog:Program) (w:World) (A:Around) (E:T0) (s:Shared) (rest:v4) (Q:T0),K.In s.heap->rest.length<=sizeLine ->
 (∀h' e,oy s.heap h' e C->Q εJ {s with heap:=h'})->wpAny γ A (call γf rest) Q E s
structure rG(K:zze)(C:Addr):Prop where
 xc:XC K C
 mt:∃oC,K.lookup C=some oC/\oC.cls=.type "type"
 kp:W.keepIn K γf=true
section
variable{X:Cx}{k:Nat}{fI C:Addr}{fd:FuncData}{ps:v6}{sp:Sp}{cS:γB}{ds:v4}{x:Str}{p pos cpos apos:Pos}{e:Expr}{es:zza}{t:TA}{EE:bw}
theorem Inv.exc{pins:W1}{σ:St}{H:Hp}{s:Shared}{h':Heap}{a:Addr}(I:ε)(m:oy s.heap h' a C)(fr:Bool) :
 Inv X pins σ (upd H a εW) {s with heap:=h'}:=by obtain⟨t0,he⟩:=m.obj;exact I.laid (a:=a) (o:=cT C a none fr) (t':=s.toks) m.keeps m.le (u6 he rfl rfl rfl rfl (by simp) λ_=>rfl)
theorem SX{pins:W1}{σ:St}{H:Hp}{s:Shared}{Q:VK}{us:v4}{vs:γB}(M:XMk X.K C fI)(F:ηQ)(hr:az (k+1) X.A)(hb:δa)(hd:ε5)
 (I:ε) (r:Vals vs us) (hlen:vs.length<=1000)
 (h:∀a,H a=none->sp (.ref a::(vs++cS)) (upd H a (cT C a none true)) (λv H2=>v=.ax/\Q γC H2) E0) :
 wpAny δ X.A (call γf us) (λu s'=>∃a H',u=.ref a/\Inv X pins σ H' s'/\s.heap.objs.size<=a/\Q γC H') X.xe s:=by
 refine M X.prog X.w X.A X.xe s us _ I.bV (by rw[<-r.length,sizeLine_eq];omega) λh' a m=>?_;have hq:=h a (I.hok.fresh m.le);have I2:=I.exc m true;have r2:Vals (V.ref a::(vs++cS)) (Value.ref a::(us++ds)):=.cons rfl (r.append hd)
 have hl:(Value.ref a::us++ds).length=ps.length:=by have e:=r2.length;rw[F.len _ _ _ _ hq]at e;exact e.symm
 refine wpAny_call (codeAny_mono (F.run _ X.stack _ _ ⟨Value.ref a::us,[]⟩ (Value.ref a::(us++ds)) _ _ E0 (hr.make C us [])
  (I2.env0.make C us []) (hb _ (Value.ref a::us) I2.bV hl) r2 hq) λr s' hq'=>?_)
 cases r with
 |error e=>exact False.elim hq'
 |ok fl =>
   cases fl with
   |ret u =>
     obtain⟨v,H',I3,rv,ev,q3⟩:=I2.after hq';subst ev;exact⟨rv,a,H',rfl,I3,m.le,q3⟩
   |next=>exact False.elim hq'
   |brk=>exact False.elim hq'
   |cont=>exact False.elim hq'
theorem Ki{pins:W1}{σ:St}{H:Hp}{s:Shared}{a:Addr}{dd:γ8}(hX:ζh)(I:ε)(hle:X.s₀.heap.objs.size<=a)(ea:H a=some η8)(q:EE σ γf ιd (upd H a ζs)):X.xe γC s:=by obtain⟨oe,vs,t0,he,hc,hd,hda,h0,hsz,hfr⟩:=pW I.hok ea;have I':Inv X pins σ (upd H a ζs) s:=I.write (x:=a) (e:=a) (t':=s.toks) (h':=s.heap) (by rw[ea];exact True.intro) γM (λb u _ z=>z) ⟨_,he⟩ (u6 he hc hd hda h0 hsz λz=>nomatch z);exact hX pins σ _ s a C I' ⟨⟨dd,eC⟩,hle,none,⟨oe,vs,he,hda,hfr rfl⟩,λT z=>nomatch z⟩ q
def SY(C:Addr)(sp:Sp)(cS:γB)(EE:bw)(t:TA):TS:=λ_ σ H=>t σ H λvs H1=>vs.length<=1000/\∀a,H1 a=none ->
 sp (.ref a::(vs++cS)) (upd H1 a (cT C a none true)) (λv H2=>v=.ax/\∃dd,H2 a=some η8/\EE σ γf ιd (upd H2 a ζs)) E0
def S0(C:Addr)(EE:bw)(t:TA):TS:=λ_ σ H=>t σ H λvs H1=>vs.length<=1000/\∀a,H1 a=none->EE σ γf ιd (upd H1 a (cT C a none false))
theorem Kj(hh:X.A.handled=none)
 (h:wpAny δ X.A (eval xe X.env) (λv aI=>∃e,v=.ref e/\X.K.In aI.heap/\Kh X.K aI.heap e/\X.xe v aI) X.xe s) :
 wpAny δ X.A (exec (.Raise (some xe) none pos) X.env) Q X.xe s:=by
 rw[arm_exec_Raise]
 first
  |exact qaa (qbe (Dw hh (qaa (qaS h (λv aI h₁=>qaa (qbe (qac h₁))) λ_ _ x=>x))))
  | (simp only[evalOpt,Option.map];exact qaa (qbe (Dw hh (qaa (qaS h (λv aI h₁=>qaa (qbe (qac h₁))) λ_ _ x=>x)))))
  | (show wpAny _ _ (do standAt pos;raiseStmt X.env (some (do let v <-eval xe X.env;standAt pos;pure v)) none) Q X.xe s;exact qaa (qbe (Dw hh (qaa (qaS h (λv aI h₁=>qaa (qbe (qac h₁))) λ_ _ x=>x)))))
theorem S4(hX:ζh)(hc:X.calm=true)(M:XMk X.K C fI)(Z:rG X.K C)(F:ηQ)(hr:az (k+1) X.A)(hg:ζD)(hm:X.mg x=some γf)(hb:δa)(hd:ε5)
 (ha:PA X (e::es) t) (hdb:(x == ("__debug__":Str))=false:=by decide) (he:starEach (e::es) X.env=(false,eval e X.env)::starEach es X.env:=by rfl) (hpl:(backTo cpos γc).any (·.1)=false:=by rfl) :
 PS X (.Raise (some (.Call δx (e::es) [] cpos)) none pos) (SY C sp cS EE t):=by
 intro pins s σ H D I h;refine Kj δT (qbr (uS I hg hm ?_ hdb));refine W.callWith_K (h₀:=X.base) I.ok.mod.qs Z.kp (aK (ha cpos pins s σ H _ I h) λus s1 zq=>?_) he hpl;obtain⟨vs,H1,I1,r,hlen,q⟩:=zq;refine⟨I1.bV,?_⟩;refine aK (SX (Q:=λv H2=>∃a dd,v=.ref a/\H2 a=some η8/\EE σ γf ιd (upd H2 a ζs)) M F hr hb hd I1 r hlen λa na=>?_) λu s2 ⟨a,H2,eu,I2,hle,a',dd,S5,ex,q2⟩=>?_
 .have q':=q a na
  have:(λv H2=>v=V.ax/\∃dd,H2 a=some η8/\EE σ γf ιd (upd H2 a ζs))=(λv H2=>v=V.ax/\∃a' dd,V.ref a=V.ref a'/\H2 a'=some (cT C a' dd true)/\EE σ γf (some a') (upd H2 a' (cT C a' dd false))):=by
   funext v H2;apply propext;constructor
   .rintro⟨z,dd,z1,z2⟩;exact⟨z,a,dd,rfl,z1,z2⟩
   .rintro⟨z,a',dd,z0,z1,z2⟩;cases z0;exact⟨z,dd,z1,z2⟩
  rw[<-this];exact q'
 .cases S5;obtain⟨oe,ws,t0,h1,h2,h3,h4,h5,h6,h7⟩:=pW I2.hok ex;obtain⟨oC,m1,m2⟩:=Z.mt;exact⟨a,eu,I2.bV,⟨oe,ws,C,oC,h1,h2,Z.xc.be,m1,m2,h4,h7 rfl⟩,by rw[eu];exact Ki hX I2 (qaO I1.sz hle) ex q2⟩
theorem S6(hX:ζh)(hc:X.calm=true)(M:AN X.K C)(Z:rG X.K C)(hg:ζD)(hm:X.mg x=some γf)
 (ha:PA X (e::es) t) (hdb:(x == ("__debug__":Str))=false:=by decide) (he:starEach (e::es) X.env=(false,eval e X.env)::starEach es X.env:=by rfl) (hpl:(backTo cpos γc).any (·.1)=false:=by rfl) :
 PS X (.Raise (some (.Call δx (e::es) [] cpos)) none pos) (S0 C EE t):=by intro pins s σ H D I h;refine Kj δT (qbr (uS I hg hm ?_ hdb));refine W.callWith_K (h₀:=X.base) I.ok.mod.qs Z.kp (aK (ha cpos pins s σ H _ I h) λus s1 zq=>?_) he hpl;obtain⟨vs,H1,I1,r,hlen,q⟩:=zq;refine⟨I1.bV,?_⟩;refine M X.prog X.w X.A X.xe s1 us _ I1.bV (by rw[<-r.length,sizeLine_eq];omega) λh' a m=>?_;have I2:=I1.exc m true;obtain⟨t0,h1⟩:=m.obj;obtain⟨oC,m1,m2⟩:=Z.mt;refine⟨a,rfl,I2.bV,⟨_,_,C,oC,h1,rfl,Z.xc.be,m1,m2,rfl,rfl⟩,Ki (dd:=none) hX I2 (qaO I1.sz m.le) eC ?_⟩;rw[Au];exact q a (I1.hok.fresh m.le)
end
noncomputable def rH(K:zze)(C:Addr)(up:v4)(nw:String):Bool:=(K.lookup C).any λo=>o.cls == .type "type" &&o.slots.size == 6&&o.slots.toList[4]? == some (some (.builtin nw))&&
 match o.data with
 |.cls cd=>cd.mro.head? == some γf&& !cd.hasDel&&cd.hasDict&&W.tailIn K up cd.mro.tail&&W.nsOkIn K cd.ns
 |_=>false
theorem S7{l:List (zzb)}(h:l.length=6)(q:l[4]?=some v):∃a b c d e,l=[a,b,c,d,v,e]:=by rcases l with _|⟨a,_|⟨b,_|⟨c,_|⟨d,_|⟨x,_|⟨e,_|_⟩⟩⟩⟩⟩⟩<;>simp at h q;exact⟨a,b,c,d,e,by rw[q]⟩
theorem Dx{K:zze}{C:Addr}{up:v4}{nw:String}(q:rH K C up nw=true) :
 ∃tl N nm qn bs sn sub ab col dd j0 j1 j2 j3 j5,K.lookup C=some (excClassObj nm qn C N bs tl true sn sub ab col dd j0 j1 j2 j3 j5 nw)/\W.tailIn K up tl=true/\W.nsOkIn K N=true:=by
 unfold rH at q;cases z:K.lookup C with
 |none=>rw[z]at q;cases q
 |some o =>
   rw[z]at q;cases o with
   |mk oc od oda osl =>
     simp only[Option.any_some,Bool.and_eq_true,beq_iff_eq]at q;obtain⟨⟨⟨rfl,sz⟩,s4⟩,q⟩:=q;cases oda with
     |cls cd =>
       cases cd with
       |mk nm bs mro N qn S9 sn sub ab col del =>
         simp only[Bool.not_eq_true',Bool.and_eq_true,beq_iff_eq]at q;obtain⟨⟨⟨⟨hm,rfl⟩,rfl⟩,ht⟩,hn⟩:=q;cases mro with
         |nil=>cases hm
         |cons a tl =>
           cases hm;obtain⟨l⟩:=osl;obtain⟨a,b,c,d,e,rfl⟩:=S7 (by simpa using sz) (by simpa using s4);exact⟨tl,N,nm,qn,bs,sn,sub,ab,col,od,a,b,c,d,e,rfl,ht,hn⟩
     |_=>cases q
section
variable{K:zze}{C fI:Addr}{B D nw ou ini:String}{un up:v4}
theorem S_(fn:ζj)(hD:up.contains (.type D)=true)(F:ιl)(q:rH K C up nw=true)(at_:W.findIn K γf "__init__" = some (some (.ref fI)))(isF:W.isFn K (.ref fI)=true):XMk K C fI:=by rintro prog w A E ⟨h,g,d,t,os⟩ as Q X few k;obtain⟨tl,N,nm,qn,bs,sn,sub,ab,col,dd,j0,j1,j2,j3,j5,hC,ht,hn⟩:=Dx q;exact JY fn hD F (W.tail_of_in X ht) X (X _ _ hC) at_ (W.bind_fn (X.keeps u5) _ (qa7.mp isF)) few (k _ _ ⟨u5,Nat.le_succ _,_,Dp⟩)
theorem Ta(fn:ζj)(hD:up.contains (.type D)=true)(F:ιl)(q:rH K C up nw=true)(c:XC K C)(sub:W.mroIn K C ζb=some true)(at_:W.findIn K γf "__init__" = some (some (.builtin ini))):AN K C:=by rintro prog w A E ⟨h,g,d,t,os⟩ as Q X few k;obtain⟨tl,N,nm,qn,bs,sn,sub',ab,col,dd,j0,j1,j2,j3,j5,hC,ht,hn⟩:=Dx q;apply JY fn hD F (W.tail_of_in X ht) X (X _ _ hC) at_ (W.Looks.of_pure (F.slot.bind _)) few;have X':K.In (rE h C as):=X.keeps u5;apply J_ (s:=⟨rE h C as,g,d,t,os⟩) F X' (od:=none) ⟨Dp,rfl,rfl,trivial⟩ c sub rfl rfl few;intro h' kp hx;refine⟨rfl,k h' _ ⟨λb o e=>kp b o ?_ (u5 b o e),Nat.le_succ _,_,hx⟩⟩;exact qal (qbH ζ1)
theorem stores(ok:refuseLoop self "__setattr__" up=pure ()):∀{l:v4},W.tailIn K up l=true->refuseLoop self "__setattr__" l=pure ()
 |[],e=>by have z:up=[]:=qa7.mp e;rw[<-z];exact ok
 |v::r,e=>by
   unfold W.tailIn at e;cases z:((v::r) == up) with
   |true=>rw[qa7.mp z];exact ok
   |false =>
     rw[z,Bool.false_or]at e;cases v with
     |ref a =>
       dsimp only at e;split at e
       .rw[qay]at e;rw[refuseLoop_ref];exact stores ok e.2
       .cases e
     |_=>cases e
theorem Tb(ok:∀self,refuseLoop self "__setattr__" up=pure ())(q:rH K C up nw=true)
 (ga:W.findIn K γf "__getattribute__" = some (some (.builtin "BaseException.__getattribute__"))) (gt:W.findIn K γf "__getattr__" = some none) (sa:W.findIn K γf "__setattr__" = some (some (.builtin "object.__setattr__")))
 (be:W.mroIn K C (.type "BaseException")=some true) (ob:W.mroIn K C (.type "object")=some true) (ca:W.findIn K γf "__class__" = some (some (.builtin "object.__class__")))
 (cg:W.specialIn K (.builtin "object.__class__") "__get__" = some (some (.builtin "getset_descriptor.__get__"))) (ct:W.takesIn K (.builtin "object.__class__")=some true) (kc:W.kitCls K γf γf=some true) (kp:W.keepIn K γf=true):rG K C:=by obtain⟨tl,N,nm,qn,bs,sn,sub,ab,col,dd,j0,j1,j2,j3,j5,hC,ht,hn⟩:=Dx q;exact⟨⟨ga,gt,sa,be,ob,⟨_,by unfold W.clsIn;rw[hC],rfl,λself=>by rw[refuseLoop_ref];exact stores (ok self) ht⟩,ca,cg,ct,kc⟩,⟨_,hC,rfl⟩,kp⟩
end
def qD(H:Hp)(a C:Addr):Prop:=∃fr,H a=some εW\/∃d fs,H a=some εM/\H d=some θn
noncomputable def tq:V->zzb
 |.ref a=>some γC
 |.ty n=>some (.type n)
 |_=>none
theorem Tc(h:tq c=some cv)(r:RelV c u):u=cv:=by cases c<;>first| (cases h;exact r)|cases h
def xl(K:zze)(H:Hp)(x:V)(t:Value):Prop:=eE K H x t\/∃a C,x=.ref a/\t=.ref C/\qD H a C/\XC K C
section
variable{X:Cx}
theorem qD.inst(ok:δW)(q:qD H a C):∃ox od,W.InstAt h a ox C od:=by
 obtain⟨fr,q|⟨d,fs,q,q2⟩⟩:=q
 .obtain⟨ox,od,I,_⟩:=AL (K:=[]) ok q λd z=>nomatch z;exact⟨ox,od,I⟩
 .obtain⟨mA,hn,_⟩:=Du ok q2;obtain⟨ox,od,I,_⟩:=AL (K:=[]) ok q λd' z=>by cases z;exact let ⟨o,_,_,z,_⟩:=hn; ⟨o,z⟩
  exact⟨ox,od,I⟩
theorem Dy:aN X (.builtin "isinstance") (λxs H Q=>∃x c t cv b,xs=[x,c]/\tq c=some cv/\xl X.K H x t/\W.kitOne X.K t cv=some b/\Q ε2 H):=by
 intro pins s σ H xs us Q I r h;obtain⟨x,c,t,cv,b,rfl,hc,ty,e,q⟩:=h;obtain⟨u,u2,rfl,rx,rc⟩:=Vals.two r;cases Tc hc rc;rcases ty with ty|⟨a,C,rfl,rfl,ea,c⟩
 .exact RE I rx ty e λtk=>⟨.bl b,H,I.tok _,rfl,q⟩
 .obtain rfl:u=Value.ref a:=rx;exact W.kia_one (SE c) I.bV (ea.inst I.hok) e (λz=>nomatch z) λtk=>⟨.bl b,H,I.tok _,rfl,q⟩
structure Dz(K:zze)(b:V)(B initId:String):Prop where
 get:(∃D,b=.ref D/\W.specialIn K ζZ "__getattribute__" = some (some (.builtin "type.__getattribute__"))/\W.readsIn K D (.type "type")=true/\W.findCls K ζZ (.type "type") "__init__" = some (.val ηN)) \/
  (∃T,b=.ty T/\typeOf (.type T)=pure (.type "type")/\Manifest.isStub T=false/\W.findCls K (.type T) (.type "type") "__init__" = some (.val ηN))
 hh:W.handedIn ηN=true
 base:∃bmB,XB B initId bmB
def Td(K:zze)(B:String)(t:TA):TE:=λσ H Q=>t σ H λvs H1=>∃a C fr rest,vs=.ref a::rest/\H1 a=some εW/\XC K C/\W.mroIn K C ζb=some true/\rest.length<=1000/\Q .ax H1
theorem Te{b:V}{B initId:String}{x:Str}{p apos pos:Pos}{e:Expr}{es:zza}{t:TA}{pl:Sem Bool}(hb:PE X δx (tC b))(Z:Dz X.K b B initId)(ha:PA X (e::es) t)
 (hst:starEach (e::es) X.env=(false,eval e X.env)::starEach es X.env:=by rfl) (hpl:(backTo pos γc).any (·.1)=false:=by rfl)
 (ht:eval (.Call (.Attribute δx "__init__" apos) (e::es) [] pos) X.env=(do
  let ov <-eval δx X.env
  standAt apos.atName
  let (f,first) <-holding [ov] (getMethod ov "__init__" pl)
  callWith pos f first (backTo pos (starEach (e::es) X.env)) (backToKw pos (keywordEach [] X.env))):=by rfl) :
 PE X (.Call (.Attribute δx "__init__" apos) (e::es) [] pos) (Td X.K B t):=by
 intro pins s σ H Q I h;refine W.methodCall_KW (pl:=pl) (aK (hb pins s σ H (λv H1=>v=b/\H1=H) I ⟨rfl,rfl⟩) λu s1 zq=>?_) ht;obtain⟨x',H1,I1,rx,ex,eH⟩:=zq;subst ex eH;obtain⟨bmB,F⟩:=Z.base
 have rest:∀tk,wpAny δ X.A (callWith pos ηN [] (backTo pos (starEach (e::es) X.env)) (backToKw pos (keywordEach [] X.env))) γL X.xe {s1 with toks:=tk}:=λtk=>by
  refine PyProof.Rows.callWith_builtin1 (aK (ha pos pins _ σ H1 _ (I1.tok tk) h) λus s2 zq=>?_) hst hpl;obtain⟨vs,H2,I2,r,a,C,fr,rest,ev,ea,c,hm,hl,q⟩:=zq;subst ev;cases r with
  | @cons _ u' _ us' ra rr =>
    obtain rfl:u'=Value.ref a:=ra;obtain⟨oe,ws,t0,h1,h2,h3,h4,h5,h6,h7⟩:=pW I2.hok ea;obtain⟨ox,od,AM,hdd,_⟩:=AL (K:=X.K) I2.hok ea λd z=>nomatch z;have e1:=AM.at_;rw[h1]at e1;cases e1;refine J_ F I2.bV AM c hm h4 h5 (by rw[<-rr.length,sizeLine_eq];omega) λh' kp hx=>?_;refine⟨.ax,H2,?_,rfl,q⟩
    have I3:=I2.write (x:=a) (e:=a) (o:=cT C a none fr) (t':=s2.toks) (h':=h') (by rw[ea];exact True.intro) γM (λb u hb z=>kp b u hb z) ⟨_,hx⟩ (by exact u6 hx h2 h3 rfl (show(ws.setIfInBounds 0 (Value.ref s2.heap.objs.size))[0]?=some ηJ by have:0<ws.size:=(by omega);simp[Array.getElem?_setIfInBounds,this]) (by simp;exact h6) (λz=>by rw[Array.getElem?_setIfInBounds_ne (by decide)];exact h7 z))
    have e2:upd H2 a εW=H2:=by
     funext b;by_cases z:b=a
     .subst z;rw[eC,ea]
     .rw[bh z]
    rw[e2]at I3;exact I3
 rcases Z.get with ⟨D,rfl,hg,hr,hc⟩|⟨T,rfl,h1,h2,hc⟩
 .obtain rfl:u=Value.ref D:=rx;exact W.method_cls I1.bV hg (W.cls_value I1.bV hr hc Z.hh (rest _))
 .obtain rfl:u=Value.type T:=rx;obtain⟨m,Fr⟩:=I1.fr;exact W.method_type Fr I1.ok.mod.qs h1 h2 hc Z.hh (rest _)
theorem AO{M:Model}{A:Around}{E:T0}{pins:W1}{σ:St}{H:Hp}{s:Shared}{i:Nat}{n:Str}{pos:Pos}{Q:Unit->Shared->Prop}(I:ε)(hN:X.N.Nodup)(hi:X.N[i]?=some n)(hl:X.env.scope.names.lookup n=some .local)
 (h:∀s',Inv X pins (σ.set i none) H s'->Q () s'):wpAny M A (do bindName X.env n .none;unbindBehindTheSuite X.env n pos) Q E s:=by
 obtain⟨m,hn,hlk⟩:=id I.loc;have hcls:(X.env.scope.kind == .class || (X.env.scope.kind == .module&&X.env.locals != X.env.globals))=false:=by rw[I.ok.kind];rfl
 have n6:=I.n6;refine wpAny_nameGoes_keeps hl hn hcls λh' v hn' hs=>?_;obtain⟨oL,_,_,hoL,_⟩:=id hn
 have tracked:dJ X.prog X.w H h':=λb ob e=>by
  refine(I.hok b ob e).stay (λc w' hc q=>(hs.2 c ?_).trans q) (λ_ q=>q) λ_ _ q=>q;rintro rfl;have hfree:=I.free;rcases hc with rfl|hc
  .rw[hfree]at e;cases e
  .rw[hfree]at hc;cases hc
 refine h _ ⟨I.ok,I.os,I.bare,⟨λb o e n hb hx=>?_,λb o e n hb hx=>?_,I.base.free,λb o e hx=>?_,I.base.tups,I.base.gG,I.base.gU⟩,⟨_,hn',λj y v' e1 e2 e3=>?_⟩,λy c e=>?_,I.free,I.bX,λp hp=>?_,tracked,by simpa using I.len⟩
 .exact(hs.2 b γ6).trans εD
 .obtain⟨sl,e1⟩:=I.base.slot b o e n hb hx;exact⟨sl,(hs.2 b γ6).trans e1⟩
 .obtain⟨o',e1⟩:=I.base.there b o e hx;exact⟨o',(hs.2 b γ6).trans e1⟩
 .have qt:i<σ.length:=by rw[I.len];exact(qad.mp hi).1
  by_cases hj:j=i
  .subst hj;rw[qap qt]at e2;cases e2
  .rw[qaj ζB]at e2;obtain⟨u',r',q⟩:=hlk j y v' e1 e2 e3;refine⟨u',r',?_⟩;rcases q with ⟨k,e⟩|⟨k,c,e,z⟩
   .refine .inl ⟨k,?_⟩;have:y≠n:=λe=>hj (CS hN e1 (e ▸ hi));simp[this,e]
   .exact .inr ⟨k,c,e,z.sameBut hs (n6 y c e)⟩
 .obtain⟨w',z⟩:=I.cell y c e;exact⟨w',z.sameBut hs (n6 y c e)⟩
 .obtain⟨e,n,ne,nf,d⟩:=I.pin p hp;exact⟨(hs.2 p.1 ne).trans e,n,ne,nf,d⟩
end
end L2
namespace Ex
open PySem PySem.Spec PyProof.Rows PySem.W PySem.Calls Builtin Builtin.ObjectAttr
noncomputable def a8(K:Frag)(C:Addr):v4->Option Bool
 |[]=>some false
 |c::r=>if jt K c=true then (match subIn K γf c,a8 K C r with
  |some a,some b=>some (a || b)
  |_,_=>none) else none
where jt (K:Frag) (c:Value):Bool:=kitCls K c c == some true&&subIn K c (.type "BaseException") == some true
section
variable{M:Model}{A:Around}{E:T0}{s:Shared}{K:Frag}
theorem Tf(X:K.In h)(q:a8.jt K c=true):Looks M h (isExcClass c) true:=by unfold a8.jt at q;rw[qay]at q;exact(kit_cls X (qa7.mp q.1)).2.1.andThen (looks_subIn X (qa7.mp q.2))
theorem Tg{β:Type}{l:v4}{b:β}{f:Value->β->Sem (ForInStep β)}{Q:β->Shared->Prop}(hf:∀c∈l,∀R:ForInStep β->Shared->Prop,R (.yield b) s->wpAny M A (f c b) R E s)(h:Q b s):wpAny M A (forIn l b f) Q E s:=by
 induction l with
 |nil=>exact qac h
 |cons c r ih =>
   rw[List.forIn_cons];refine qaa (hf c (qag ..) _ ?_);exact ih λc' hc'=>hf c' (qae _ hc')
theorem Th(X:δZ)(q:a8 K C cs=some b)(h:Q (if b then (some true,()) else (none,())) s) :
 wpAny M A (forIn cs ((none,()):Option Bool×Unit) λc __s=>do
  let __do_lift <-isSubtype γf c
  if __do_lift=true then pure (ForInStep.done (some true,())) else pure (ForInStep.yield (none,()))) Q E s:=by
 induction cs generalizing b with
 |nil=>cases q;exact qac h
 |cons c r ih =>
   unfold a8 at q
   split at q
   .split at q
    .rename_i a b' e1 e2
     cases q
     rw[List.forIn_cons]
     refine qaa (qaa ((looks_subIn X e1).here ?_))
     cases a with
     |true=>exact qac (qac h)
     |false =>
       refine qac ?_
       exact ih e2 (by simpa using h)
    .cases q
   .cases q
theorem Kk:∀{cs:v4}{b:Bool},a8 K C cs=some b->∀c∈cs,a8.jt K c=true
 |[],_,_,c,hc=>nomatch hc
 |c::r,b,q,c',hc=>by
   unfold a8 at q;split at q
   .rename_i hk;split at q
    .rename_i a b' e1 e2;cases hc with
     |head=>exact hk
     |tail _ m=>exact Kk e2 c' m
    .cases q
   .cases q
theorem Ti{e C p:Addr}{cs:v4}{b:Bool}{Q:Bool->Shared->Prop}(X:δZ)(hty:Looks M s.heap (typeOf εJ) γf)(hp:IsTup s.heap p cs.toArray)(q:a8 K C cs=some b)(h:Q b s) :
 wpAny M A (excMatches εJ γJ) Q E s:=by
 obtain⟨o,ho,hc,n,hd⟩:=hp;unfold excMatches;refine qaa (wpAny_isInstance (T:= "tuple") ⟨o,ho,hc⟩ (b:=true) (by rw[isSubtype_type];kernel_rfl) ?_);have hs:seqItems? γJ=seqItems? γJ:=rfl;obtain⟨oc,odi,oda,osl⟩:=o;dsimp only at hc hd;subst hc hd;have e0:((some cs.toArray).getD #[]).toList=cs:=by simp
 rw[qaF rfl];refine qaa (m:=seqItems? γJ) (qaS (Q:=λr s'=>r=some cs.toArray/\s'=s) (E:=E) ?_ (λr s' hr=>?_) λ_ _ x=>x)
 .unfold seqItems?;obtain⟨h0,g,d,t,os⟩:=s
  repeat (first|with_reducible refine qbo ho ?_|exact⟨rfl,rfl⟩|wp_step)
 obtain⟨rfl,rfl⟩:=hr;refine qaa (qac ?_);rw[e0];dsimp only;refine qaa (Tg (λc hc R hR=>?_) ?_)
 .refine qaa ((Tf X (Kk q c hc)).here ?_);exact qac hR
 refine qaa (hty.here (qaa (Th X q ?_)));cases b<;>exact qac h
end
end Ex
namespace L2
open PySem PySem.Spec PyProof.Rows Ex
noncomputable abbrev Cx.body(X:Cx)(E':T0)(pn':W1):Cx:={X with xe:=E',pn:=pn'}
noncomputable abbrev Cx.hand(X:Cx)(e:Value)(E':T0):Cx:={X with A:=X.A.mark εQ,calm:=false,xe:=E'}
section
variable{X:Cx}{pins:W1}{σ:St}{H:Hp}{s:Shared}
theorem Inv.Tj(I:ε)(E':T0):Inv (X.body E' (X.pn++pins)) [] σ H s:=
 ⟨⟨I.ok.mod,I.ok.kind,I.ok.glob,I.ok.blt,I.ok.above,I.ok.inj,I.ok.has,I.ok.cab,I.ok.hd,I.ok.frames,I.ok.ro,I.ok.rq,I.ok.bs,I.ok.l7,I.ok.jj,I.ok.jk,I.ok.eD,I.ok.n5⟩,I.os,I.bare,I.base,I.loc,I.cell,I.free,I.bX,
   λp hp=>I.pin p (by simpa using hp),I.hok,I.len⟩
theorem Inv.xn(I:Inv (X.body E' (X.pn++pins)) jT σ H s):Inv X pins σ H s:=
 ⟨⟨I.ok.mod,I.ok.kind,I.ok.glob,I.ok.blt,I.ok.above,I.ok.inj,I.ok.has,I.ok.cab,I.ok.hd,I.ok.frames,I.ok.ro,I.ok.rq,I.ok.bs,I.ok.l7,I.ok.jj,I.ok.jk,I.ok.eD,I.ok.n5⟩,I.os,I.bare,I.base,I.loc,I.cell,I.free,I.bX,
   λp hp=>I.pin p (qaT _ hp),I.hok,I.len⟩
theorem Inv.Tn(I:ε)(e:Value)(E':T0):Inv (X.hand e E') pins σ H s:=
 ⟨⟨I.ok.mod,I.ok.kind,I.ok.glob,I.ok.blt,I.ok.above,I.ok.inj,I.ok.has,I.ok.cab,(λz=>nomatch z),I.ok.frames,I.ok.ro,I.ok.rq,I.ok.bs,I.ok.l7,I.ok.jj,I.ok.jk,I.ok.eD,I.ok.n5⟩,I.os,I.bare,I.base,I.loc,I.cell,I.free,I.bX,I.pin,I.hok,I.len⟩
theorem Inv.AQ(I:Inv (X.hand e E') pins σ H s)(hd:X.calm=true->X.A.handled=none):Inv X pins σ H s:=
 ⟨⟨I.ok.mod,I.ok.kind,I.ok.glob,I.ok.blt,I.ok.above,I.ok.inj,I.ok.has,I.ok.cab,hd,I.ok.frames,I.ok.ro,I.ok.rq,I.ok.bs,I.ok.l7,I.ok.jj,I.ok.jk,I.ok.eD,I.ok.n5⟩,I.os,I.bare,I.base,I.loc,I.cell,I.free,I.bX,I.pin,I.hok,I.len⟩
theorem Inv.landed{e C T':Addr}{tb:γ8}{h' h'':Heap}(I:ε)(ex:∃dd,H e=some (cT C e dd false))(hT:∀T,tb=some T->H T=none/\X.s₀.heap.objs.size<=T/\∀p∈X.pn++pins,p.1≠T)
 (DA:∀T,tb=some T->∃oT ts,s.heap.get? T=some oT/\oT.data=.fields ts) (S:Step (frs X.stack) e tb s.heap h') (hle:s.heap.objs.size<=T') (oth:∀b,b≠T'->h''.get? b=h'.get? b):Inv X pins σ H {s with heap:=h''}:=by
 obtain⟨dd,ex⟩:=ex;obtain⟨oe,vs,t0,he,hc,hdd,hd,h0,hsz,_⟩:=pW I.hok ex;have hT':∀b o,s.heap.get? b=some o->b≠T':=λb o z=>qal (qar (qai z) hle);have keep:∀b o,s.heap.get? b=some o->b≠e->tb≠some b->b∉frs X.stack->h''.get? b=some o:=λb o z a1 a2 a3=>(oth b (hT' b o z)).trans (S.keep b o z a1 a2 a3)
 have tracked:∀b u,H b=some u->b∉frs X.stack:=λb u z hb=>by have n:=I.gM b hb;rw[z]at n;cases n
 have ne:∀b,H b=none->b≠e:=λb z y=>by rw[y,ex]at z;cases z
 refine I.n8 (s':={s with heap:=h''}) (ch:=tb.toList) rfl ⟨λb o z n hb hx=>?_,λb o z n hb hx=>?_,λb o z n _=>n,λb o z _=>?_,λ_ _ z=>z,λ_ _ _ z=>z,λb ps z=>⟨#[],by rw[z];simp⟩⟩ (λb u z=>?_) I.bare λb hb=>?_
 .exact keep b o z (ne b n) (λy=>hx (by rw[y];simp)) hb
 .obtain⟨sl,e1⟩:=S.slot b o z (ne b n) (λy=>hx (by rw[y];simp));exact⟨sl,(oth b (hT' b o z)).trans e1⟩
 .obtain⟨o2,e2⟩:=S.there b o z;exact⟨o2,(oth b (hT' b o z)).trans e2⟩
 .by_cases hb:b=e
  .subst hb;rw[ex]at z;cases z;obtain⟨vs',e1,e2,e3⟩:=S.exc oe vs he hd;exact u6 ((oth b (hT' b _ he)).trans e1) hc hdd rfl (by rw[e2];exact h0) (by rw[e3];exact hsz) λz=>nomatch z
  .refine(I.hok b u z).stay (λc v hcv r=>?_) (λ_ r=>r) λ_ _ r=>r
   have ne2:c≠e:=by
    rcases hcv with rfl|hcv
    .exact hb
    .exact rn hcv ex (by intro y;cases y)
   have tr:∃u',H c=some u':=by
    rcases hcv with rfl|hcv
    .exact⟨_,z⟩
    .exact⟨_,hcv⟩
   obtain⟨u',hu'⟩:=tr;exact keep c v r ne2 (λy=>by have:=(hT c y).1;rw[hu']at this;cases this) (tracked c u' hu')
 .cases tb with
  |none=>simp at hb
  |some T =>
    have:b=T:=by simpa using hb
    subst this;obtain⟨a1,a2,a3⟩:=hT b rfl;obtain⟨oT,ts,g1,g2⟩:=DA b rfl;refine⟨.inr a2,λy=>?_,λx c hx y=>?_,a3⟩
    .obtain⟨m,⟨o,es,ep,ho,hd',_⟩,_⟩:=I.loc;rw[y,ho]at g1;cases g1;rw[hd']at g2;cases g2
    .obtain⟨v,o,ho,hd'⟩:=I.cell x c hx;rw[y,g1]at ho;cases ho;rw[hd']at g2;cases g2
def PN(X:Cx)(es:zza)(us:v4):Prop:=
 ∀(A:Around) (E:T0) (pos:Pos) (pins:W1) (σ:St) (H:Hp) (s:Shared) (Q:v4->Shared->Prop),Inv X pins σ H s->Q us s->wpAny δ A (spliced (backTo pos γc)) Q E s
theorem To:PN X [] []:=λ_ _ _ _ _ _ _ _ _ h=>Calls.spliced_nil h
theorem DB{x:Str}{p:Pos}{es:zza}{u:Value}{us:v4}(hg:ζD)(hm:X.mg x=some u)(hr:PN X es us)(hd:(x == ("__debug__":Str))=false:=by decide)
 (hs:starEach (.Name x p::es) X.env=(false,eval δx X.env)::starEach es X.env:=by rfl):PN X (.Name x p::es) (u::us):=by intro A E pos pins σ H s Q I h;rw[hs];show wpAny _ _ (spliced ((false,eval δx X.env)::backTo pos γc)) _ _ s;refine Calls.spliced_cons (Calls.Name_function_global I.ok.kind hg (Calls.loadGlobal_global (by rw[I.ok.glob];exact I.mod.glob.keeps I.bk) hm ?_) hd);exact hr A E pos pins σ H s _ I h
section
variable{X:Cx}
def Kl(K:zze)(cs:v4)(i:Nat)(tb:bw->TS)(ts:TS):TS:=λD σ H =>
 tb (λaB cls ea H'=>∃a C,cls=.ref C/\ea=some a/\a8 K C cs=some true /\
  ts {nx:=λoz xo=>D.nx (oz.set i none) xo,rt:=D.rt,bk:=λoz xo=>D.bk (oz.set i none) xo,ct:=λoz xo=>D.ct (oz.set i none) xo} (aB.set i ιu) H') D σ H
theorem Tp{k1 p1 hpos pos}(hst:X.stack=X.env::X.outer/\X.env.frame=some X.env.locals)
 (hN:X.N.Nodup) (hi:X.N[i]?=some n) (hl:X.env.scope.names.lookup n=some .local) (hes:PN X es cs) (hcs:cs.length<=1000)
 (hb:∀E' pn' EE,XOk θs EE->PSs θs body (tb EE)) (hs:∀a,PSs (X.hand γC λ_ _=>False) (DC::suite) ts) :
 PS X (.Try body [.ExceptHandler (some (.Tuple es k1 p1)) (some n) (DC::suite) hpos] [] [] pos) (Kl X.K cs i tb ts):=by
 intro pins s σ H D I h;refine wpAny_Try_except ?_
 have fin:∀{f:Flow}{s1:Shared},SP X pins D f s1->(match f with|.next=>wpAny δ X.A (execs [] X.env) (SP X pins D) X.xe s1|f=>SP X pins D f s1):=λ{f s1} hsp=>by cases f<;>first|exact hsp|exact wpAny_execs_nil hsp
 refine qaS (hb _ (X.pn++pins) _ ?_ [] s σ H D (I.Tj _) h) (λf s1 hsp=>fin ?_) λe s1 z=>z
 . -- what is wanted of exceptions
   intro jT aB H' s' e C I' T q;obtain⟨ex,lo,tb',F,hT⟩:=T;have I1:Inv X pins aB H' s':=I'.xn;have hT1:∀T,tb'=some T->H' T=none/\X.s₀.heap.objs.size<=T/\∀p∈X.pn++pins,p.1≠T:=λT z=>⟨(hT T z).1,(hT T z).2.1,λp hp=>(hT T z).2.2 p (qaT _ hp)⟩
   have DA:∀T,tb'=some T->∃oT ts,s'.heap.get? T=some oT/\oT.data=.fields ts:=λT z=>by subst z;obtain⟨_,_,oT,ts,_,_,_,_,g1,g2,_⟩:=F;exact⟨oT,ts,g1,g2⟩
   obtain⟨dd,ex'⟩:=id ex;obtain⟨oe,vs,t0,he,hc,hdd,hd,h0,hsz,_⟩:=pW I1.hok ex';have hfr:X.A.frames=some (X.env::X.outer):=by rw[I1.ok.frames,hst.1]
   have hfl:s'.heap.FunFrames X.base (X.env::X.outer):=by rw[<-hst.1];exact I1.stack
   show wpAny δ X.A (noteFrame εJ X.env) _ X.xe s';refine Ke (L:=X.env.locals) hfr hfl hst.2 F (λoe' vs' a b=>by rw[he]at a;cases a;rw[hd]at b;cases b;exact hsz) λh' T' S hle FF=>?_;refine Dt (s:={s' with heap:=h'}) FF λh'' oth F2=>?_;have I2:Inv X pins aB H' {s' with heap:=h''}:=I1.landed ex hT1 DA (by rw[hst.1];exact S) hle oth;obtain⟨a,C',ec,ea,hm,hk⟩:=q;cases ec;cases ea;obtain⟨oe2,vs2,t2,he2,hc2,_⟩:=pW I2.hok ex';refine wpAny_handleBy_cons (codeAny_handlers_test ?_) (by intro q;cases q);refine wpAny_Tuple_spliced (hes _ _ _ pins aB H' _ _ I2 ⟨by rw[sizeLine_eq];omega,?_⟩);have I3:Inv X pins aB H' {s' with heap:=h''.push {cls:=.type "tuple",data:=.seq cs.toArray} }:=I2.kept (t':=s'.toks) λb u z=>qab _ z;have Tq:=qab {cls:=.type "tuple",data:=.seq cs.toArray} he2
   have F3:rF (h''.push {cls:=.type "tuple",data:=.seq cs.toArray}) e .none (some T'):=by obtain⟨o1,v1,o2,v2,g1,g2,g3,g4,g5,g6,g7⟩:=F2;exact⟨o1,v1,o2,v2,qab _ g1,g2,g3,g4,qab _ g5,g6,g7⟩
   have LT:W.Looks δ (h''.push {cls:=.type "tuple",data:=.seq cs.toArray}) (typeOf εJ) γf:=hc2 ▸ (W.Looks.ld Tq).andThen .now;refine Ti (s:={s' with heap:=h''.push {cls:=.type "tuple",data:=.seq cs.toArray} }) I3.bV LT ⟨_,qao _ rfl,rfl,_,rfl⟩ hm ?_;apply codeAny_handlers_suite_as;refine Dt (s:={s' with heap:=h''.push {cls:=.type "tuple",data:=.seq cs.toArray} }) F3 λh4 DD F4=>?_
   have I4:Inv X pins aB H' {s' with heap:=h4}:=by
    refine I3.turned (t':=s'.toks) (λb o hb z=>(DD b hb).trans z) (I1.hok.fresh hle) (Nat.ne_of_gt (qar I1.lt hle)) (.inr (qaO I1.sz hle)) (λx c hx=>?_) λp hp=>?_
    .obtain⟨v,o,ho,_⟩:=I1.cell x c hx;exact qal (qar (qai ho) hle)
    .exact qal (qar (qai (I1.pin p hp).1) hle)
   refine uQ (s:={s' with heap:=h4}) I4 hN hi (.inl hl) (v:=.ref e) rfl (λs5 I5=>?_) (.inr hl);refine qaS (PSs.qu (X:=X.hand εJ _) (hs e) pins s5 _ _ _ (I5.Tn _ _) hk) (λf s6 hsp=>?_) λx s6 z=>z;show wpAny _ _ _ _ _ _;cases f with
   |next =>
     obtain⟨gV,H6,J,z⟩:=hsp;exact AO θY hN hi hl λs7 I7=>⟨_,_,I7,z⟩
   |brk =>
     obtain⟨gV,H6,J,z⟩:=hsp;exact AO θY hN hi hl λs7 I7=>⟨_,_,I7,z⟩
   |cont =>
     obtain⟨gV,H6,J,z⟩:=hsp;exact AO θY hN hi hl λs7 I7=>⟨_,_,I7,z⟩
   |ret u =>
     obtain⟨v,gV,H6,J,rv,z⟩:=hsp;exact AO θY hN hi hl λs7 I7=>⟨v,_,_,I7,rv,z⟩
 .cases f with
  |next=>obtain⟨gV,H6,J,z⟩:=hsp;exact⟨gV,H6,J.xn,z⟩
  |brk=>obtain⟨gV,H6,J,z⟩:=hsp;exact⟨gV,H6,J.xn,z⟩
  |cont=>obtain⟨gV,H6,J,z⟩:=hsp;exact⟨gV,H6,J.xn,z⟩
  |ret u=>obtain⟨v,gV,H6,J,rv,z⟩:=hsp;exact⟨v,gV,H6,J.xn,rv,z⟩
end
end
structure Km(env:Env)(scope:Scope)(cl:List (Str×Addr)):Prop where
 clos:closureFor scope env=pure cl
 sub:∀x c,cl.lookup x=some c->env.cells.lookup x=some c
 has:∀x,(x,NameKind.free)∈scope.names->∃c,cl.lookup x=some c
theorem lookup_mem{α:Type}{x:Str}{c:α}:∀{l:List (Str×α)},l.lookup x=some c->(x,c)∈l
 |[],h=>by simp at h
 | (y,d)::r,h=>by
   rw[qbm]at h;split at h
   .rename_i q;cases h;rw[qa7.mp q];exact qag ..
   .exact qae _ (lookup_mem h)
theorem mem_lookup{α:Type}{x:Str}{c:α}:∀{l:List (Str×α)},(x,c)∈l->∃d,l.lookup x=some d
 |[],h=>nomatch h
 | (y,d)::r,h=>by
   rw[qbm];split
   .exact⟨d,rfl⟩
   .rename_i q;rcases qak.mp h with z|z
    .cases z;simp at q
    .exact mem_lookup z
theorem Ts{env:Env}{scope:Scope}(h:∀x,(x,NameKind.free)∈scope.names->∃c,env.cells.lookup x=some c):∃cl,Km env scope cl:=by
 have go:∀(names:List (Str×NameKind)) (cs:List (Str×Addr)),(∀x,(x,NameKind.free)∈names->∃c,env.cells.lookup x=some c) ->
  ∃cl,(forIn (m:=Sem) names cs λx r=>(match x with| (name,kind)=>if (kind == NameKind.free)=true then do let a <-cellOf env name;pure (ForInStep.yield ((name,a)::r)) else pure θ7))=pure cl /\
   (∀y c,(y,c)∈cl->(y,c)∈cs\/env.cells.lookup y=some c)/\(∀y c,(y,c)∈cs->(y,c)∈cl)/\(∀y,(y,NameKind.free)∈names->∃c,(y,c)∈cl):=by
  intro names
  induction names with
  |nil=>intro cs _;exact⟨cs,rfl,λ_ _ z=>.inl z,λ_ _ z=>z,λ_ z=>nomatch z⟩
  |cons p r ih =>
    intro cs hh;obtain⟨y,k⟩:=p;by_cases hk:k=.free
    .subst hk;obtain⟨c,hc⟩:=hh y (qag ..);obtain⟨cl,e,h1,h2,h3⟩:=ih ((y,c)::cs) λx hx=>hh x θB;refine⟨cl,?_,λz d hz=>?_,λz d hz=>h2 z d (qae _ hz),λz hz=>?_⟩
     .have ec:cellOf env y=pure c:=by simp only[cellOf,hc]
      rw[List.forIn_cons];simp only[beq_self_eq_true,if_true,ec,pure_bind];exact e
     .rcases h1 z d hz with q|q
      .rcases qak.mp q with q|q
       .cases q;exact .inr hc
       .exact .inl q
      .exact .inr q
     .rcases qak.mp hz with q|q
      .cases q;exact⟨c,h2 _ _ (qag ..)⟩
      .exact h3 z q
    .obtain⟨cl,e,h1,h2,h3⟩:=ih cs λx hx=>hh x θB;refine⟨cl,?_,h1,h2,λz hz=>?_⟩
     .rw[List.forIn_cons];have:(k == NameKind.free)=false:=by simpa using hk
      simp only[this,Bool.false_eq_true,if_false,pure_bind];exact e
     .rcases qak.mp hz with q|q
      .cases q;exact absurd rfl hk
      .exact h3 z q
 obtain⟨cl,e,h1,h2,h3⟩:=go scope.names [] h;refine⟨cl,?_,λx c hx=>?_,λx hx=>?_⟩
 .unfold closureFor
  first
   |exact e
   | (show(forIn (m:=Sem) scope.names ([]:List (Str×Addr)) _ >>= λr=>pure r)=pure cl;rw[bind_pure];exact e)
   | (rw[bind_pure];exact e)
   | (trace_state;fail "x")
 .exact(h1 x c (lookup_mem hx)).elim (λz=>nomatch z) id
 .obtain⟨c,hc⟩:=h3 x hx;exact mem_lookup hc
noncomputable abbrev Cx.blk(X:Cx)(Nc:v6)(scope:Scope)(cl:List (Str×Addr))(C:Addr)(s3:Shared)(H3:Hp)(fp:zzd)(pn':W1)(E':T0):Cx:=
 {X with N:=Nc,s₀:=s3,H₀:=H3,env:=compEnvC scope cl C X.env,outer:=X.stack,ex:=fp,fn:=λ_=>false,pn:=pn',xe:=E'}
noncomputable def ar(fr:zzc)(own:Nat)(σ:St):St:=List.replicate own none++fr.map λj=>(σ[j]?).join
structure gH(X:Cx)(scope:Scope)(Nc:v6)(own:Nat)(fr:zzc):Prop where
 len:Nc.length=own+fr.length
 free:∀(k j:Nat) (x:Str),fr[k]?=some j->Nc[own+k]?=some x->X.N[j]?=some x/\(X.env.scope.names.lookup x=some .cell\/X.env.scope.names.lookup x=some .free)/\scope.names.lookup x=some .free
 kind:scope.kind=.function
 lH:∀y∈scope.names,y.2≠.cell
 names:∀x∈scope.names,x.2=.local->scope.names.lookup x.1=some .local
 frees:∀x,(x,NameKind.free)∈scope.names->X.env.scope.names.lookup x=some .cell\/X.env.scope.names.lookup x=some .free
def pX(X:Cx)(ifs:zza)(t:TT):Prop:=
 ∀(pins:W1) (s:Shared) (σ:St) (H:Hp) (Q:Bool->Hp->Prop),Inv X pins σ H s->t σ H Q ->
  wpAny δ X.A (forIn ifs true λc r=>if r=true then do let ok <-isTrue c X.env (eval c X.env);pure (ForInStep.yield ok) else pure θ7) (TP X pins σ Q) X.xe s
theorem Tt:pX X [] (λ_ H Q=>Q true H):=λ_ _ _ H _ I h=>wpAny_tests_nil ⟨H,I,h⟩
theorem Tu(h:PT X c t):pX X [c] t:=λpins s σ H Q I q=>wpAny_tests_one (h pins s σ H Q I q)
def DE(fr:zzc)(own:Nat)(wi:TI)(g:TG)(tc:TT)(te:TE):TE:=λσ H Q=>wi σ H λJ H1=>∀D,H1 D=none->∃W:Nat->Nat->List V->Hp->Prop,(∃m,W 0 m [] (upd H1 D (.lst []))) /\
 ∀i m ys H2,H2 D=some γ3->W i m ys H2->(J.stop i H2/\Q ζZ H2)\/(J.go i H2/\ys.length<sizeLine/\∀x H3,J.sY i H2 x H3->g x γq H3 λbF H4=>tc bF H4 λb H5 =>
  if b=true then te bF H5 λy H6=>H6 D=some γ3/\∃m',m'<m/\W (i+1) m' (ys++[y]) (upd H6 D (.lst (ys++[y]))) else H5 D=some γ3/\∃m',m'<m/\W (i+1) m' ys H5)
theorem Kn{scope:Scope}(hn:∀y∈scope.names,y.2≠.cell)(h:(relabel scope env).names.lookup x=some k)(hk:k=.cell\/k=.free):(x,NameKind.free)∈scope.names:=by
 have m:=lookup_mem h;obtain⟨⟨y,k'⟩,hy,e⟩:=qaE.mp m;dsimp only at e;split at e
 .rename_i q;rw[qay,qay]at q;have Tv:=qa7.mp q.1.1;cases e;rw[Tv]at hy;exact hy
 .cases e;rcases hk with rfl|rfl
  .exact absurd rfl (hn _ hy)
  .exact hy
theorem Tw{scope:Scope}(h:scope.names.lookup x=some .free):(relabel scope env).names.lookup x=some .cell\/(relabel scope env).names.lookup x=some .free:=by
 unfold relabel;dsimp only;generalize scope.names=l at h;induction l with
 |nil=>simp at h
 |cons p r ih =>
   obtain⟨y,k⟩:=p;rw[qbm]at h;rw[qav, ];split at h
   .rename_i q;cases h;dsimp only;split
    .rw[qbm,q];exact .inl rfl
    .rw[qbm,q];exact .inr rfl
   .rename_i q;dsimp only;split
    .rw[qbm,q];exact ih h
    .rw[qbm,q];exact ih h
section
variable{X:Cx}{pins:W1}{σ:St}{H:Hp}{s:Shared}
theorem Inv.block{scope:Scope}{Nc:v6}{own:Nat}{fr:zzc}{cl:List (Str×Addr)}{fp:zzd}{h₁:Heap}{t':Nat}{E':T0}(I:ε)(B:γP)(nH:Km X.env scope cl)
 (hfp:∀b∈fp,l9 X pins H b/\∃o,s.heap.get? b=some o) (hns:h₁.Ns s.heap.objs.size (λ_=>none)) (keep:∀b o,s.heap.get? b=some o->h₁.get? b=some o) :
 Inv (X.blk Nc scope cl s.heap.objs.size s H fp (X.pn++pins) E') [] γq H {s with heap:=h₁,toks:=t'}:=by
 have lt:∀b∈fp,b<s.heap.objs.size:=λb hb=>let ⟨_,_,e⟩:=hfp b hb;qai e;have DF:∀x c,X.env.cells.lookup x=some c->c<s.heap.objs.size:=λx c e=>let ⟨_,_,e,_⟩:=I.cell x c e;qai e
 refine⟨⟨I.ok.mod,B.kind,I.ok.glob,I.ok.blt,qam _,λx y c h1 h2=>I.ok.inj x y c (nH.sub x c h1) (nH.sub y c h2),λx hx=>?_,(λx c z=>nomatch z),I.ok.hd,I.ok.frames,.inl rfl,λb hb=>?_,I.bs,qaO I.ok.l7 I.sz,λb o e hb=>?_,λb hb=>?_,I.stack,I.gM⟩,
  rfl,I.bare,Un.kept keep,⟨_,hns,λi x v e1 e2 e3=>?_⟩,λx c e=>?_,I.hok.fresh γO,λx c e=>I.bX x c (nH.sub x c e),λp hp=>?_,I.hok.kept keep,?_⟩
 .rcases hx with hx|hx
  .exact nH.has x (Kn B.lH hx γM)
  .exact nH.has x (Kn B.lH hx (.inr rfl))
 .exact⟨qal (lt b hb),λx c e z=>(hfp b hb).1.2.2.2.2.1 x c (nH.sub x c e) z⟩
 . -- a base object is no iterator of ours
   have e0:=I.ok.bs b o e;rcases(hfp b hb).1.2.2.2.1 with z|z
   .exact I.ok.jj b o e z
   .exact absurd (qar (qar ζ1 I.ok.l7) z) θm
 .intro z;rcases qak.mp (I.jm b z) with z|z
  .exact(hfp b hb).1.2.1 z
  .exact(hfp b hb).1.2.2.1 z
 . -- a slot
   unfold ar at e2;by_cases hi:i<own
   .rw[qa8 (by simpa using hi),qbE,qaF hi]at e2;cases e2
   .have hge:own<=i:=Nat.le_of_not_lt hi;rw[qbw (by simpa using hge),qbA,qaB]at e2;cases hj:fr[i-own]? with
    |none=>rw[hj]at e2;cases e2
    |some j =>
      rw[hj]at e2;have e2':(σ[j]?).join=some v:=by simpa using e2
      have e4:σ[j]?=some δQ:=by
       cases q:σ[j]? with
       |none=>rw[q]at e2';cases e2'
       |some o=>rw[q]at e2';have:o=some v:=e2';rw[this]
      have e5:Nc[own+(i-own)]?=some x:=by rw[Nat.add_sub_cancel' hge];exact e1
      obtain⟨n1,n2,n3⟩:=B.free (i-own) j x hj e5;obtain⟨m,hn,hl⟩:=I.loc;have Tx:wR X.env.scope x:=n2.elim (λz=>.inr (.inl z)) λz=>.inr (.inr z);obtain⟨u,r,l⟩:=hl j x v n1 e4 Tx;refine⟨u,r,.inr ⟨Tw n3,?_⟩⟩;rcases l with ⟨k,_⟩|⟨_,c,hc,hcell⟩
      .rcases n2 with n2|n2
       .have k':X.env.scope.names.lookup x=some .local:=k;rw[n2]at k';cases k'
       .have k':X.env.scope.names.lookup x=some .local:=k;rw[n2]at k';cases k'
      .obtain⟨c',hc'⟩:=nH.has x (lookup_mem n3);have e6:=nH.sub x c' hc';rw[hc]at e6;cases e6;obtain⟨o,ho,hd⟩:=hcell;exact⟨c,hc',o,keep _ _ ho,hd⟩
 .obtain⟨v,o,ho,hd⟩:=I.cell x c (nH.sub x c e);exact⟨v,o,keep _ _ ho,hd⟩
 .have hp':p∈X.pn++pins:=by simpa using hp
  obtain⟨e,n,ne,nf,d⟩:=I.pin p hp';refine⟨keep _ _ e,n,qal ζ1,λz=>?_,d⟩;rcases qak.mp (I.jm p.1 z) with z|z
  .exact ne z
  .exact nf z
 .show(ar fr own σ).length=Nc.length;unfold ar;rw[qaq,qbA,qaf,B.len]
theorem Inv.qE{scope:Scope}{Nc:v6}{cl:List (Str×Addr)}{fp:zzd}{E':T0}{jT:W1}{aB:St}{H':Hp}{s':Shared}{h':Heap}(I:ε)(hfp:∀b∈fp,l9 X pins H b)
 (J:Inv (X.blk Nc scope cl s.heap.objs.size s H fp (X.pn++pins) E') jT aB H' s') (sb:Heap.SameBut s.heap.objs.size s'.heap h'):Inv X pins σ H' {s' with heap:=h'}:=by
 have ne:∀b o,s.heap.get? b=some o->b≠s.heap.objs.size:=λb o e=>qal ζ1;have hC:H' s.heap.objs.size=none:=J.free;refine I.n8 (s':={s' with heap:=h'}) (ch:=fp) J.os ⟨λb o e n hb hx=>?_,λb o e n hb hx=>?_,J.base.free,λb o e hx=>?_,J.base.tups,J.base.gG,J.base.gU⟩ (λb u e=>?_) J.bare λb hb=>?_
 .exact(sb.2 b (ne b o e)).trans (J.base.keep b o e n hb hx)
 .obtain⟨sl,z⟩:=J.base.slot b o e n hb hx;exact⟨sl,(sb.2 b (ne b o e)).trans z⟩
 .obtain⟨o',z⟩:=J.base.there b o e hx;exact⟨o',(sb.2 b (ne b o e)).trans z⟩
 .refine(J.hok b u e).stay (λc v hc q=>(sb.2 c ?_).trans q) (λ_ q=>q) λ_ _ q=>q;rintro rfl;rcases hc with rfl|hc
  .rw[hC]at e;cases e
  .rw[hC]at hc;cases hc
 .obtain⟨f0,f1,f2,f3,f4,f5⟩:=hfp b hb;exact⟨f3,f1,f4,f5⟩
def mO(own:Nat)(g:TG):Prop:=∀(x:V) (σ:St) (H:Hp) (Q:St->Hp->Prop),g x σ H Q->g x σ H λaB H'=>Q aB H'/\∀k,own<=k->aB[k]?=σ[k]?
def AR(own:Nat)(g:pS):Prop:=∀(x:γB) (σ:St) (H:Hp) (Q:St->Hp->Prop),g x σ H Q->g x σ H λaB H'=>Q aB H'/\∀k,own<=k->aB[k]?=σ[k]?
theorem AS(h:i<own):mO own (kW i):=λx σ H Q q=>⟨q,λk hk=>qaj (by omega)⟩
theorem Tz:AR own wY:=λx σ H Q q=>⟨q.1,q.2,λ_ _=>rfl⟩
theorem Ko(h:i<own)(hu:AR own u):AR own (sW (kW i) u):=λx σ H Q q=>by
 obtain⟨v,r,e,q⟩:=q;refine⟨v,r,e,?_⟩;have q':=hu r _ H _ q
 have e2:(λaB H'=>Q aB H'/\∀k,own<=k->aB[k]?=(σ.set i δQ)[k]?)=(λaB H'=>Q aB H'/\∀k,own<=k->aB[k]?=σ[k]?):=by
  funext aB H';apply propext;constructor
  .rintro⟨a,b⟩;exact⟨a,λk hk=>by rw[b k hk,qaj (by omega)]⟩
  .rintro⟨a,b⟩;exact⟨a,λk hk=>by rw[b k hk,qaj (by omega)]⟩
 rw[e2]at q';exact q'
theorem TB{own n:Nat}{K:zze}{u:pS}(hu:AR own u):mO own (wZ K n u):=λx σ H Q q=>by obtain⟨a,xs,e1,e2,e3,q⟩:=q;exact⟨a,xs,e1,e2,e3,hu xs σ H Q q⟩
end
noncomputable def turnOf(e:Expr)(k:Nat)(tg:Expr)(p:Pos)(ifs:zza)(act:Sem Unit)(it acc:Value)(env:Env):Sem Fin:=do
 standAt p
 match <-pyNext it with
 |none=>pure (.done .next)
 |some v =>
   letOwnedTupleGo tg it v
   assign tg env v
   let mut ok:=true
   for c in ifs do
    if ok then ok <-isTrue c env (eval c env)
   if ok then act
   again (.compLoop e k it acc env)
abbrev TC(M:Model)(A:Around)(env:Env)(tg:Expr)(it:Value)(ifs:zza)(act:Sem Unit)(N:T0)(next:Shared->Prop)(v:Value)(s:Shared):Prop:=
 wpAny M A (letOwnedTupleGo tg it v) (λ_ a=>wpAny M A (assign tg env v) (λ_ b =>
  wpAny M A (forIn ifs true λc r=>if r=true then do let ok <-isTrue c env (eval c env);pure (ForInStep.yield ok) else pure θ7) (λyes c =>
   if yes=true then wpAny M A act (λ_=>next) N c else next c) N b) N a) N s
noncomputable def Kp(prog:Program)(w:World)(A:Around)(ce:Expr)(k:Nat):Prop:=∀(it acc:Value) (env:Env),A.under ηe=A/\(model prog w).den ηe=(compTurn ce k it acc env).onRaise λx=>do noteFrame x env;theTreesLotGoes x
theorem Kq(ht:compTurn ce k it acc env=turnOf ce k tg p ifs act it acc env)(J:Nat->Shared->Prop)(n:Nat)(start:J n s)
 (turn:∀n s,J n s->wpAny γ A (pyNext it) (λr a=>match r with
  |none=>R (.ok .next) a
  |some v=>TC γ A env tg it ifs act (notedBy γ A env λx=>R (.error x)) (λb=>∃m,m<n/\J m b) v a) (notedBy γ A env λx=>R (.error x)) s) (hd:Kp prog w A ce k:=by exact λ_ _ _=>⟨rfl,rfl⟩) :
 codeAny γ A ηe R s:=by
 apply codeAny_loop rfl J _ n start;intro n s j;rw[(hd it acc env).1,(hd it acc env).2];apply wpAny_noted;rw[ht];unfold turnOf;apply qaa;apply qbe;apply qaa;apply qaS (turn n s j) _ λ_ _ z=>z;intro r a k;cases r with
 |none=>exact qac k
 |some v =>
   apply qaa;apply qaS k _ λ_ _ z=>z;intro _ b k;apply qaa;apply qaS k _ λ_ _ z=>z;intro _ c k;apply qaa;apply qaS k _ λ_ _ z=>z;intro yes d k;cases yes
   .exact qac (And.intro rfl k)
   .apply qaa;apply qaS k _ λ_ _ z=>z;intro _ f k;exact qac (And.intro rfl k)
abbrev xp(β:Type):=St->Hp->Addr->β->(β->Hp->Prop)->Prop
abbrev AU:=xp γB
def DG{β:Type}(O:Addr->β->HO)(Y:Cx)(L:β->Prop)(te:xp β)(act:Value->Sem Unit):Prop:=∀(pins:W1) (s:Shared) (σ:St) (H:Hp) (D:Addr) (ys:β) (K:β->Hp->Prop),Inv Y pins σ H s->L ys->te σ H D ys K ->
 wpAny εv Y.A (act ζZ) (λ_ s'=>∃H' ys',Inv Y pins σ H' s'/\H' D=some (O D ys')/\K ys' H') (λ_ _=>False) s
noncomputable abbrev oL:Addr->List V->HO:=λ_ ys=>.lst ys
abbrev DH:=DG oL
noncomputable def emit(el:Expr)(env:Env)(acc:Value):Sem Unit:=do let _ <-call (.builtin "list.append") [acc,<-eval el env]
def u7(te:TE):AU:=λσ H D ys K=>te σ H λy H6=>H6 D=some γ3/\K (ys++[y]) (upd H6 D (.lst (ys++[y])))
noncomputable abbrev tw(ys:γB):Prop:=ys.length<sizeLine
theorem DI{Y:Cx}(hx:Y.xe=λ_ _=>False)(he:PE Y el te):DH Y tw (u7 te) (emit el Y.env):=by intro pins s σ H D ys K J hlen q;unfold emit;refine qaa (qaS (he pins s σ H _ J q) (λv s8 zq=>?_) λ_ _ z=>by rw[hx]at z;exact z);obtain⟨y,H8,J8,r8,e8,k8⟩:=zq;refine qaa (qaS (AI _ s8 σ H8 ζZ [y] ζZ [v] (λ_ H9=>H9=upd H8 D (.lst (ys++[y]))) J8 rfl (.cons r8 .nil) ⟨_,ys,y,rfl,rfl,e8,hlen,rfl⟩) (λ_ s9 zq=>?_) λ_ _ z=>by rw[hx]at z;exact z);obtain⟨_,H9,J9,_,e9⟩:=zq;subst e9;exact qac ⟨_,_,J9,eC,k8⟩
def AV{β:Type}(O:Addr->β->HO)(e0:β)(fr:zzc)(own:Nat)(wi:TI)(g:TG)(tc:TT)(L:β->Prop)(te:xp β):TE:=λσ H Q=>wi σ H λJ H1=>∀D,H1 D=none->∃W:Nat->Nat->β->Hp->Prop,(∃m,W 0 m e0 (upd H1 D (O D e0))) /\
 ∀i m ys H2,H2 D=some (O D ys)->W i m ys H2->(J.stop i H2/\Q ζZ H2)\/(J.go i H2/\L ys/\∀x H3,J.sY i H2 x H3->g x γq H3 λbF H4=>tc bF H4 λb H5 =>
  if b=true then te bF H5 D ys (λys' H6=>∃m',m'<m/\W (i+1) m' ys' H6) else H5 D=some (O D ys)/\∃m',m'<m/\W (i+1) m' ys H5)
abbrev AW:=AV oL []
noncomputable abbrev lO:Obj:={cls:=.type "list",dict:=none,data:=.seq ([]:v4).toArray}
section
variable{X:Cx}{pins:W1}{σ:St}{H:Hp}{s:Shared}
theorem DJ{X:Cx}{H:Hp}{h:Heap}{D:Addr}(e:h.get? D=some lO):aJ X.prog X.w H h D (oL D []):=⟨qaW _,[],0,.nil,e⟩
theorem AX{ce tg iter:Expr}{ifs:zza}{scope:Scope}{DK:Pos}{Nc:v6}{own:Nat}{fr:zzc}{wi:TI}{g:TG}{tc:TT}{β:Type}{O:Addr->β->HO}{e0:β}{L:β->Prop}{te:xp β}{mk:Sem Value}{o0:Obj}{act:Env->Value->Sem Unit}{gs:List Comprehension}{use:Option (Value->Sem Unit)}{QQ:T0}{Q:VK}(hc:X.calm=true)(B:γP)(hi:ηj)(hog:mO own g)
 (hg:∀cl C s3 H3 fp pn',PG (X.blk Nc scope cl C s3 H3 fp pn' λ_ _=>False) tg g) (ht:∀cl C s3 H3 fp pn',pX (X.blk Nc scope cl C s3 H3 fp pn' λ_ _=>False) ifs tc) (hturn:∀it acc env,compTurn ce 0 it acc env=turnOf ce 0 tg iter.pos ifs (act env acc) it acc env) (ha:∀cl C s3 H3 fp pn',DG O (X.blk Nc scope cl C s3 H3 fp pn' λ_ _=>False) L te (act (compEnvC scope cl C X.env)))
 (hfr:o0.isFreed=false) (hd:Kp X.prog X.w X.A ce 0) (hcl:clausesOf ce=⟨tg,iter,ifs,0⟩::gs) (hmk:∀{E:T0}{Q:T0}{s:Shared},Q γj {s with heap:=s.heap.push o0}->wpAny δ X.A mk Q E s) (hob:∀{H:Hp}{h:Heap}{D:Addr},h.get? D=some o0->aJ X.prog X.w H h D (O D e0))
 (hst:∀{R:Result->Shared->Prop}{s:Shared}{it acc:Value}{env:Env},codeAny δ X.A (.compLoop ce 0 it acc env) R s->wpAny δ X.A (pyIter it) (λit' s'=>codeAny δ X.A (.compLoop ce 0 it' acc env) R s') (notedBy δ X.A env λx s'=>R (.error x) s') s->codeAny δ X.A (.compStart ce 0 it acc env) R s)
 (hs:∀x,foldedSetIterable iter X.env x=pure x) (I:ε) (h:AV O e0 fr own wi g tc L te σ H Q)
 (fin:∀(D C:Addr) (H3:Hp) (s4:Shared),(∃m,s4.heap.Ns C m)->l9 X pins H3 C->(∀h',Heap.SameBut C s4.heap h'->Inv X pins σ H3 {s4 with heap:=h'})->Q ζZ H3->compPost δ X.A X.xe use QQ ζZ C (.ok .next) s4) :
 wpAny δ X.A (comprehension ce scope X.env DK mk false ηD use) QQ X.xe s:=by
 obtain⟨cl,nH⟩:=Ts (env:=X.env) (scope:=scope) λx hx=>I.ok.has x (B.frees x hx);apply wpAny_comprehension_free hcl hs nH.clos B.kind B.names;apply qaS (hi pins s σ H _ I h) _ λ_ _ e=>e;intro xv s1 h1;apply qaS h1 _ λ_ _ e=>e;intro itv s2 h2;obtain⟨it,fp,tn,J,H2,rfl,I2,T,st2,f2,q⟩:=h2;refine hmk (wpAny_newFunctionEnv B.lH (by intro y hy;simp at hy) (λh₁ tx tD=>?_) B.kind);have hD:H2 s2.heap.objs.size=none:=I2.hok.fresh γO;obtain⟨W,⟨m0,w0⟩,turn⟩:=q s2.heap.objs.size hD
 have I3:Inv X pins σ γg {s2 with heap:=s2.heap.push o0}:=
  I2.laid (t':=s2.toks) (λb u e=>qab _ e) γO (hob (qao _ hfr))
 have DL:∀b∈fp,b≠s2.heap.objs.size:=λb hb=>let ⟨o,e,_⟩:=T.obj _ _ st2 b hb;qal ζ1;have f3:∀b∈fp,l9 X pins γg b:=λb hb=>⟨by rw[bh (DL b hb)];exact(f2 b hb).1,(f2 b hb).2⟩
 have keep:∀b o,(s2.heap.push o0).get? b=some o->h₁.get? b=some o:=λb o e =>
  (tD.2 b (qal ζ1)).trans ιe
 have IY:=I3.block (h₁:=h₁) (t':=s2.toks+([]:List (Str×Value)).length) (E':=λ_ _=>False) B nH (λb hb=>⟨f3 b hb,let ⟨o,e,_⟩:=T.obj _ _ st2 b hb; ⟨o,qab _ e⟩⟩) tx keep;have st1:tn 0 h₁:=T.keep _ _ _ st2 λb hb o e=>keep b o ιe
 have fY:∀{H':Hp},(∀b∈fp,H' b=none)->∀b∈fp,l9 (X.blk Nc scope cl (s2.heap.push o0).objs.size {s2 with heap:=s2.heap.push o0} γg fp (X.pn++pins) λ_ _=>False) [] H' b:=λhn b hb =>
  ⟨hn b hb,(IY.ok.rq b hb).1,IY.ok.jk b hb,.inl hb,(IY.ok.rq b hb).2,λp hp=>(f2 b hb).2.2.2.2.2 p (by simpa using hp)⟩
 have loop:codeAny δ X.A (.compLoop ce 0 ηK ηJ (compEnvC scope cl (s2.heap.push o0).objs.size X.env))
  (compPost δ X.A X.xe use QQ ηJ (s2.heap.push o0).objs.size) {s2 with heap:=h₁,toks:=s2.toks+([]:List (Str×Value)).length}:=by
  refine Kq (hd:=hd) (hturn _ _ _) (λn s'=>∃i ys H',Inv (X.blk Nc scope cl (s2.heap.push o0).objs.size {s2 with heap:=s2.heap.push o0} γg fp (X.pn++pins) λ_ _=>False) [] γq H' s'/\tn i s'.heap/\(∀b∈fp,H' b=none)/\H' s2.heap.objs.size=some ηG/\W i n ys H')
   m0 ⟨0,e0,_,IY,st1,λb hb=>(f3 b hb).1,eC,w0⟩ ?_
  rintro n s3 ⟨i,ys,H3,J3,st3,rA,e3,w3⟩;rcases turn i n ys H3 e3 w3 with ⟨stop,qn⟩|⟨go,hlen,step⟩
  .refine aK (T.done (X.blk Nc scope cl (s2.heap.push o0).objs.size {s2 with heap:=s2.heap.push o0} γg fp (X.pn++pins) λ_ _=>False) rfl rfl rfl hc i [] s3 _ H3 _ J3 (fY rA) st3 stop) λr s4 zq=>?_;obtain⟨hr,J4⟩:=zq;subst hr;obtain⟨m,hn,_⟩:=J4.loc;exact fin _ _ H3 s4 ⟨m,hn⟩ (I3.n_ γO J4.free) (λh' sb=>I3.qE f3 J4 sb) qn
  .refine aK (T.item (X.blk Nc scope cl (s2.heap.push o0).objs.size {s2 with heap:=s2.heap.push o0} γg fp (X.pn++pins) λ_ _=>False) rfl rfl rfl hc i [] s3 _ H3 _ J3 (fY rA) st3 go) λr s4 zq=>?_;obtain⟨u,hr,h4⟩:=zq;subst hr;refine aK h4 λ_ s5 zq=>?_;obtain⟨x,H5,J5,r5,y5,oa,w_⟩:=zq;have DM:=J5.pinned (fY w_) (T.obj _ _ oa);have lift:∀{α:Type}{m:Sem α}{Q':α->Shared->Prop}{E':T0}{s':Shared},wpAny δ X.A m Q' (λ_ _=>False) s'->wpAny δ X.A m Q' E' s':=λh=>qaS h (λ_ _ z=>z) λ_ _ z=>z.elim;refine lift (aK (hg _ _ _ _ _ _ _ s5 _ H5 x u _ DM r5 (hog _ _ _ _ (step x H5 y5))) λ_ s6 zq=>?_);obtain⟨gV,H6,J6,q6,tE⟩:=zq;refine lift (aK (ht _ _ _ _ _ _ _ s6 gV H6 _ J6 q6) λb s7 zq=>?_);obtain⟨H7,J7,q7⟩:=zq
   have back:∀{H8:Hp}{s8:Shared}{ys':β}{m':Nat},Inv (X.blk Nc scope cl (s2.heap.push o0).objs.size {s2 with heap:=s2.heap.push o0} γg fp (X.pn++pins) λ_ _=>False) ([]++uV fp s5.heap) gV H8 s8->H8 s2.heap.objs.size=some (O s2.heap.objs.size ys')->m'<n->W (i+1) m' ys' H8 ->
    ∃m,m<n/\∃i ys H',Inv (X.blk Nc scope cl (s2.heap.push o0).objs.size {s2 with heap:=s2.heap.push o0} γg fp (X.pn++pins) λ_ _=>False) [] γq H' s8/\tn i s8.heap/\(∀b∈fp,H' b=none)/\H' s2.heap.objs.size=some ηG/\W i m ys H':=λ{H8 s8 ys' m'} J8 e8 hm w8=>by
    refine⟨m',hm,i+1,ys',H8,?_,T.keep _ _ _ oa λb hb o e=>(J8.pin (b,o) δE).1,λb hb=>?_,e8,w8⟩
    .refine(Inv.dU (pins:=[]) J8).weak ?_ λj v' z=>?_
     .rw[IY.len];exact J8.len.symm
     .by_cases hj:j<own
      .unfold ar at z;rw[qa8 (by simpa using hj),qbE,qaF hj]at z;cases z
      .rw[tE j (Nat.le_of_not_lt hj)];exact z
    .obtain⟨o,e,d⟩:=T.obj _ _ oa b hb;exact(J8.pin (b,o) δE).2.1
   cases b with
   |false =>
     obtain⟨e7,m',hm,w7⟩:=(show H7 s2.heap.objs.size=some ηG/\∃m',m'<n/\W (i+1) m' ys H7 from by simpa using q7);exact back J7 e7 hm w7
   |true =>
     have DN:te gV H7 s2.heap.objs.size ys (λys' H6=>∃m',m'<n/\W (i+1) m' ys' H6):=by simpa using q7
     refine lift (aK (ha _ _ _ _ _ _ _ s7 gV H7 _ ys _ J7 hlen DN) λv s8 zq=>?_);obtain⟨H8,ys',J8,e8,m',hm,w8⟩:=zq;exact back J8 e8 hm w8
 exact hst loop (T.self _ _ _ _ _ st1 loop)
theorem TF(hc:X.calm=true)(B:γP)(hi:ηj)(hog:mO own g)
 (hg:∀cl C s3 H3 fp pn',PG (X.blk Nc scope cl C s3 H3 fp pn' λ_ _=>False) tg g) (ht:∀cl C s3 H3 fp pn',pX (X.blk Nc scope cl C s3 H3 fp pn' λ_ _=>False) ifs tc) (he:∀cl C s3 H3 fp pn',PE (X.blk Nc scope cl C s3 H3 fp pn' λ_ _=>False) elt te)
 (hs:∀x,foldedSetIterable iter X.env x=pure x:=by intro _;rfl):PE X (.ListComp elt [⟨tg,iter,ifs,0⟩] scope pos) (DE fr own wi g tc te):=by intro pins s σ H Q I h;rw[eval_ListComp];exact AX (o0:=lO) (gs:=[]) (act:=λenv acc=>emit elt env acc) (QQ:=EP X pins σ Q) hc B hi hog hg ht (λ_ _ _=>rfl) (λcl C s3 H3 fp pn'=>DI rfl ζl) rfl (λ_ _ _=>⟨rfl,rfl⟩) rfl qaJ DJ codeAny_compStart_list hs I (show AW fr own wi g tc tw (u7 te) σ H Q from h) λL C H3 s4 hn f tF q=>let ⟨m,hm⟩:=hn; ⟨m,hm,λh' sb=>⟨.ref L,H3,tF h' sb,rfl,q⟩⟩
theorem TH{pos py spos:Pos}(hN:X.N.Nodup)(hi':X.N[i]?=some y)(hx:Loc X.env.scope y)(hc:X.calm=true)(B:γP)(hi:ηj)(hog:mO own g)
 (hg:∀cl C s3 H3 fp pn',PG (X.blk Nc scope cl C s3 H3 fp pn' λ_ _=>False) tg g) (ht:∀cl C s3 H3 fp pn',pX (X.blk Nc scope cl C s3 H3 fp pn' λ_ _=>False) ifs tc) (he:∀cl C s3 H3 fp pn',PE (X.blk Nc scope cl C s3 H3 fp pn' λ_ _=>False) elt te)
 (hs:∀x,foldedSetIterable iter X.env x=pure x:=by intro _;rfl) (hsw:swapsWith (.ListComp elt [⟨tg,iter,ifs,0⟩] scope pos) (some (.Name y py)) spos.line X.env=pure true:=by rfl)
 (hf:X.fn y=true\/X.env.scope.names.lookup y=some .local:=by first|exact .inl rfl|exact .inr rfl|assumption) :
 PS X (.Assign [.Name y py] (.ListComp elt [⟨tg,iter,ifs,0⟩] scope pos) spos) (uT (DE fr own wi g tc te) (kW i)):=by
 intro pins s σ H D I h;rw[exec_Assign_Name_used (hs:=hsw)];apply qaa;apply qbe;apply qaa;change wpAny _ _ (comprehension (.ListComp elt [⟨tg,iter,ifs,0⟩] scope pos) scope X.env _ (newList []) false ηD (some (assign (.Name y py) X.env)) >>= λ_=>pure ()) _ _ _;apply qaa;refine qaS (AX (o0:=lO) (gs:=[]) (Q:=λx H1=>kW i x σ H1 D.nx) (act:=λenv acc=>emit elt env acc) (QQ:=λ_ s'=>SP X pins D .next s') hc B hi hog hg ht (λ_ _ _=>rfl) (λcl C s3 H3 fp pn'=>DI rfl ζl) rfl (λ_ _ _=>⟨rfl,rfl⟩) rfl qaJ DJ codeAny_compStart_list hs I (show AW fr own wi g tc tw (u7 te) σ H _ from h) (λL C H3 s4 hn f tF q=>?_)) (λ_ s' q=>qac (qac q)) λ_ _ e=>e;obtain⟨m,o,es,ep,ho,hd,r⟩:=hn;have I4:Inv X pins σ H3 s4:=tF s4.heap (Heap.SameBut.refl _ _);obtain⟨f0,f1,f2,f3,f4,f5⟩:=f
 have I5:Inv X ((C,o)::pins) σ H3 s4:=I4.gO λp hp=>by
  rcases qak.mp hp with e|e
  .subst e;exact⟨ho,f0,f1,f2,λv z=>by rw[hd]at z;cases z⟩
  .exact I4.pin p (qax _ e)
 show wpAny _ _ (assign (.Name y py) X.env (.ref L)) _ _ _;apply wpAny_assign_Name;apply uQ I5 hN hi' hx (v:=.ref L) rfl _ hf;intro s5 I6;have hC:=(I6.pin (C,o) (qax _ (qag ..))).1;refine⟨m,⟨o,es,ep,hC,hd,r⟩,λh' sb=>⟨_,H3,?_,q⟩⟩;have I7:Inv X pins (σ.set i (some (.ref L))) H3 s5:=I6.gO λp hp=>I6.pin p (qax _ (qae _ hp));exact I7.turned (t':=s5.toks) (λb o hb e=>(sb.2 b hb).trans e) f0 f1 f3 f4 f5
end
section
variable{X:Cx}
theorem range_all(bs:ζL):((List.range bs.length).all λi=>bs.getD i false)=bs.all id:=by
 induction bs with
 |nil=>rfl
 |cons b r ih =>
   rw[qaN,List.range_succ_eq_map,qbO,List.all_map,qbO];exact congrArg (b&& ·) ih
theorem Kr(calm:X.calm=true):aN X (.builtin "all") (λxs H Q=>∃(p:Addr) (bs:ζL),xs=[.ref p]/\H p=some ζV/\Q ζz H):=by
 intro pins s σ H xs us Q I r h;obtain⟨p,bs,rfl,hH,q⟩:=h;obtain⟨u,rfl,ru⟩:=r.one;cases ru;obtain⟨z,its,n,rv,hl,e⟩:=I.bc hH;have xq:s.heap.IsList p its.toArray:=⟨_,e,rfl,_,rfl⟩;have ne:p≠s.heap.objs.size:=qal ζ1;have hA:X.A.in1.handled=none:=I.ok.hd calm;apply call_all_walk;apply wpAny_pyIter_list xq;refine⟨_,_,_,_,_,_,λi=>bs.getD i false,rfl,Walks.list hA s.heap.objs.size p ne its.toArray,⟨⟨_,qao _ rfl,rfl,rfl⟩,?_⟩,?_,?_⟩
 .exact xq.push _
 .intro i v s' Q' E' hv hQ;have hv':its[i]?=some v:=by simpa using hv
  have lt:i<bs.length:=by have:=(qad.mp hv').1;rw[<-rv.length,qaf]at this;exact this
  obtain⟨u,hu,ru⟩:=rv.get (x:=.bl bs[i]) (by rw[qaB,qah lt];rfl);rw[hv']at hu;cases hu;cases (show v=Value.bool bs[i] from ru);have eb:bs.getD i false=bs[i]:=by simp[List.getD,lt]
  dsimp only at hQ;rw[eb]at hQ;exact qac hQ
 .intro h' tk kp;refine⟨.bl (bs.all id),H,I.kept λb o z=>kp b o ?_ (qab _ z),?_,q⟩
  .have:b≠s.heap.objs.size:=qal (qai z);simpa using this
  .have el:its.toArray.size=bs.length:=by rw[qaG,<-rv.length,qaf]
   show Value.bool _=Value.bool _;rw[el,range_all]
mutual
inductive bQ(H:Hp):V->PyData->Prop
 |ax:bQ H .ax .none
 |bl (b:Bool):bQ H (.bl b) (.bool b)
 |int (i:Int):bQ H (.int i) (.int i)
 |str (x:Str):bQ H (.str x) (.str x)
 |lst {a:Addr}{xs:γB}{ds:θe}:H a=some (.lst xs)->cB H xs ds->bQ H (.ref a) (.list ds)
 |tup {a:Addr}{xs:γB}{ds:θe}:H a=some (.tup xs)->cB H xs ds->bQ H (.ref a) (.tuple ds)
inductive cB(H:Hp):List V->List PyData->Prop
 |nil:cB H [] []
 |cons {x:V}{d:PyData}{xs:γB}{ds:θe}:bQ H x d->cB H xs ds->cB H (x::xs) (d::ds)
end
theorem bQ.reads(ok:δW)(D:bQ H x d)(r:RelV x u):∃as,Reads h u d as:=by
 refine bQ.rec (motive_1:=λx d _=>∀u,RelV x u->∃as,Reads h u d as) (motive_2:=λxs ds _=>∀us,Vals xs us->∃as,ReadsAll h us ds as) (λ_ r=>?_) (λb _ r=>?_) (λi _ r=>?_) (λx _ r=>?_) (λe _ ih _ r=>?_) (λe _ ih _ r=>?_) (λ_ r=>?_) (λ_ _ a b _ r=>?_) D u r
 .cases r;exact⟨_,.none⟩
 .cases r;exact⟨_,.bool b⟩
 .obtain⟨t,rfl⟩:=r;exact⟨_,.int i t⟩
 .obtain⟨t,rfl⟩:=r;exact⟨_,.str x t⟩
 .cases r;obtain⟨_,its,n,rv,q⟩:=ok _ _ e;obtain⟨as,R⟩:=ih _ rv;exact⟨_,.list q rfl rfl R⟩
 .cases r;obtain⟨_,its,rv,o,q,c,n,d⟩:=ok _ _ e;obtain⟨as,R⟩:=ih _ rv;exact⟨_,.tuple q c d R⟩
 .cases r;exact⟨_,.nil⟩
 .cases r with
  |cons r1 r2 =>
    obtain⟨_,R1⟩:=a _ r1;obtain⟨_,R2⟩:=b _ r2;exact⟨_,.cons R1 R2⟩
end
section
variable{X:Cx}{pins:W1}{σ:St}{H:Hp}{s:Shared}{h':Heap}{fp:zzd}
theorem Inv.mP(I:ε)(k:∀b o,b∉fp->s.heap.get? b=some o->h'.get? b=some o)(hf:∀b∈fp,l9 X pins H b):Inv X pins σ H {s with heap:=h',toks:=t'}:=by
 have apart:∀b u,H b=some u->b∉fp:=λb u e z=>by have q:=(hf b z).1;rw[e]at q;cases q
 refine I.step (g':=s.gens) (d':=s.drawn) (ch:=fp) (λb hb=>?_) (λb o _ _ hc e _=>k b o hc e) (λb o _ _ hc e _=>⟨o.slots,k b o hc e⟩) (λ_ _ _ _ n=>n) (λb o hc e=>⟨o,k b o hc e⟩) (λ_ _ e=>e) (λ_ _ _ e=>e) (λb ps e=>⟨#[],by rw[e];simp⟩) (λm hm=>?_) (λb u e=>?_) I.bare
 .obtain⟨_,f1,_,f3,f4,f5⟩:=hf b hb;exact⟨f3,f1,f4,f5⟩
 .obtain⟨o,es,ep,ho,r⟩:=hm;exact⟨o,es,ep,k _ o (λz=>(hf _ z).2.1 rfl) ho,r⟩
 .apply (I.hok b u e).stay (h':=h') (H':=H) _ (λ_ q=>q) (λ_ _ q=>q);intro c v hc q;cases hc with
  |inl z=>exact k c v (by rw[z];exact apart b u e) q
  |inr z=>exact k c v (apart c _ z) q
theorem Inv.mQ{t':Nat}{a:Addr}{o:HO}(I:ε)(k:∀b o,b∉fp->s.heap.get? b=some o->h'.get? b=some o)(hf:∀b∈fp,l9 X pins H b)(ha:s.heap.objs.size<=a)(new:aJ X.prog X.w ζp h' a o):Inv X pins σ ζp {s with heap:=h',toks:=t'}:=by
 have apart:∀b u,H b=some u->b∉fp:=λb u e z=>by have q:=(hf b z).1;rw[e]at q;cases q
 have fr:H a=none:=I.hok.fresh ha;have old:∀b u,H b=some u->upd H a o b=some u:=λb u e=>by rw[bh (iG e fr)];exact e
 refine I.step (g':=s.gens) (d':=s.drawn) (ch:=fp) (λb hb=>?_) (λb o _ _ hc e _=>k b o hc e) (λb o _ _ hc e _=>⟨o.slots,k b o hc e⟩) (λb u _ e n=>?_) (λb o hc e=>⟨o,k b o hc e⟩) (λb xs e=>old b _ e) (λb o u e=>old b _ e) (λb ps e=>⟨#[],by rw[old b _ e];simp⟩) (λm hm=>?_) (λb u e=>?_) I.bare
 .obtain⟨_,f1,_,f3,f4,f5⟩:=hf b hb;exact⟨f3,f1,f4,f5⟩
 .have lt:b<s.heap.objs.size:=qai e;rw[bh (qal (qar lt ha))];exact n
 .obtain⟨o,es,ep,ho,r⟩:=hm;exact⟨o,es,ep,k _ o (λz=>(hf _ z).2.1 rfl) ho,r⟩
 .by_cases hb:b=a
  .subst hb;rw[eC]at e;cases e;exact new
  .rw[bh hb]at e;apply (I.hok b u e).stay (h':=h') (H':=upd H a o) _ (λc q=>old c _ q) (λc xs q=>old c _ q);intro c v hc q;cases hc with
   |inl z=>exact k c v (by rw[z];exact apart b u e) q
   |inr z=>exact k c v (apart c _ z) q
end
section
variable{X:Cx}
def DO:R2:=λx y H Q=>∃d e,bQ H x d/\bQ H y e/\SeqAt.shaped d=true/\SeqAt.shaped e=true/\Q (.bl (PyData.eqv d e)) H
def DP:R2:=λx y H Q=>∃d e,bQ H x d/\bQ H y e/\SeqAt.shaped d=true/\SeqAt.shaped e=true/\Q (.bl (!PyData.eqv d e)) H
theorem TJ(hr:γX):b_ X ζ2 DO:=by intro pins s σ H x y v u Q I rx ry h;obtain⟨d,e,hd,he,sd,se,q⟩:=h;obtain⟨as,ra⟩:=hd.reads I.hok rx;obtain⟨bs,rb⟩:=he.reads I.hok ry;exact SeqAt.compareEq_shaped ra rb sd se hr.units ⟨.bl _,H,I,rfl,q⟩
theorem TK(hr:γX):b_ X ιk DP:=by intro pins s σ H x y v u Q I rx ry h;obtain⟨d,e,hd,he,sd,se,q⟩:=h;obtain⟨as,ra⟩:=hd.reads I.hok rx;obtain⟨bs,rb⟩:=he.reads I.hok ry;exact SeqAt.compareNe_shaped ra rb sd se hr.units ⟨.bl _,H,I,rfl,q⟩
theorem range_any(bs:ζL):((List.range bs.length).any λi=>bs.getD i false)=bs.any id:=by
 induction bs with
 |nil=>rfl
 |cons b r ih =>
   rw[qaN,List.range_succ_eq_map,List.any_cons,List.any_map,List.any_cons];exact congrArg (b || ·) ih
theorem TL(calm:X.calm=true):aN X (.builtin "any") (λxs H Q=>∃(p:Addr) (bs:ζL),xs=[.ref p]/\H p=some ζV/\Q ηO H):=by
 intro pins s σ H xs us Q I r h;obtain⟨p,bs,rfl,hH,q⟩:=h;obtain⟨u,rfl,ru⟩:=r.one;cases ru;obtain⟨z,its,n,rv,hl,e⟩:=I.bc hH;have xq:s.heap.IsList p its.toArray:=⟨_,e,rfl,_,rfl⟩;have ne:p≠s.heap.objs.size:=qal ζ1;have hA:X.A.in1.handled=none:=I.ok.hd calm;apply call_any_walk;apply wpAny_pyIter_list xq;refine⟨_,_,_,_,_,_,λi=>bs.getD i false,rfl,Walks.list hA s.heap.objs.size p ne its.toArray,⟨⟨_,qao _ rfl,rfl,rfl⟩,?_⟩,?_,?_⟩
 .exact xq.push _
 .intro i v s' Q' E' hv hQ;have hv':its[i]?=some v:=by simpa using hv
  have lt:i<bs.length:=by have:=(qad.mp hv').1;rw[<-rv.length,qaf]at this;exact this
  obtain⟨u,hu,ru⟩:=rv.get (x:=.bl bs[i]) (by rw[qaB,qah lt];rfl);rw[hv']at hu;cases hu;cases (show v=Value.bool bs[i] from ru);have eb:bs.getD i false=bs[i]:=by simp[List.getD,lt]
  dsimp only at hQ;rw[eb]at hQ;exact qac hQ
 .intro h' tk kp;refine⟨.bl (bs.any id),H,I.kept λb o z=>kp b o ?_ (qab _ z),?_,q⟩
  .have:b≠s.heap.objs.size:=qal (qai z);simpa using this
  .have el:its.toArray.size=bs.length:=by rw[qaG,<-rv.length,qaf]
   show Value.bool _=Value.bool _;rw[el,range_any]
end
noncomputable def DQ(l:Addr):It where
 go:=λi H=>∃xs x,H l=some γo/\xs[i]?=some x
 sY:=λi H v H'=>∃p xs x,v=.ref p/\H p=none/\H'=upd H p (.tup [.int i,x])/\H l=some γo/\xs[i]?=some x
 stop:=λi H=>∃xs,H l=some γo/\xs.length<=i
noncomputable def tG(n:Addr):zzd:=[n+1,n]
theorem cC:b∈tG n ↔ b=n+1\/b=n:=by simp[tG]
noncomputable def TM(n l:Addr)(i:Nat)(h:Heap):Prop:=∃old,IsEnum h (n+1) n i old/\h.IsListIter n l i
theorem TN{P:Program}{w:World}{K:zze}{es:zza}{x1}{pos:Pos}(l n:Addr):Turn P w K (.Tuple es x1 pos) (DQ l) (tG n) (n+1) (TM n l) where
 mem:=by simp[tG]
 obj:=λi h st b hb=>by
  obtain⟨old,he,⟨o,e,c,d⟩⟩:=st;rcases cC.mp hb with z|z<;>subst z
  .exact⟨_,he,λv z=>nomatch z⟩
  .exact⟨_,e,λv z=>by rw[d]at z;cases z⟩
 keep:=λi h h' st k=>by obtain⟨old,he,⟨o,e,r⟩⟩:=st;exact⟨old,k _ (cC.mpr γM) _ he,⟨o,k _ (cC.mpr (.inr rfl)) _ e,r⟩⟩
 item:=by
  intro X hP hw hK hc i pins s σ H E I hf st hg;subst hP hw hK;obtain⟨xs,x,q1,hx⟩:=hg;obtain⟨old,he,st1⟩:=st;have ne:n+1≠n:=Nat.succ_ne_self n;obtain⟨us,r1,p1,z1⟩:=I.list (b8.of q1);obtain⟨u,hu,ru⟩:=r1.get hx
  have new:∀b∈tG n,b<s.heap.objs.size:=λb hb=>by
   rcases cC.mp hb with e|e<;>subst e
   .exact qai he
   .obtain⟨_,e,_⟩:=st1;exact qai e
  apply wpAny_pyNext_enum_item he st1 p1.isList (x:=u) (by simpa using hu) ne;intro h1 ho1 s1 np sz kept;refine⟨_,rfl,wpAny_letOwnedTupleGo_enum ho1 λh2 he2 sb=>?_⟩
  have k2:∀b o,b∉tG n->s.heap.get? b=some o->h2.get? b=some o:=λb o hb e=>by rw[cC]at hb;exact sb.extBut _ _ (λz=>hb (.inl z)) (kept b o (λz=>hb (.inl z)) (λz=>hb (.inr z)) e)
  have fr:H s.heap.objs.size=none:=I.hok.fresh γO;have nz:s.heap.objs.size≠n+1:=λe=>absurd (new (n+1) (cC.mpr γM)) (by rw[e];exact qa2 _);refine⟨.ref s.heap.objs.size,upd H s.heap.objs.size (.tup [.int i,x]),I.mQ (t':=s.toks+1) k2 hf γO ?_,rfl,⟨_,xs,x,rfl,fr,rfl,q1,hx⟩,⟨u,?_,?_⟩,λb hb=>?_⟩
  .exact⟨by show(2:Nat)<=sizeLine;decide,[.int i s.toks,u],.cons ⟨_,rfl⟩ (.cons ru .nil),⟨_,sb.extBut _ _ nz np,rfl,_,rfl⟩⟩
  .exact he2
  .obtain⟨o,e,r⟩:=s1;exact⟨o,sb.extBut _ _ (qaR ne) e,r⟩
  .rw[bh (qal (new b hb))];exact(hf b hb).1
 done:=by intro X hP hw hK hc i pins s σ H E I hf st hg;subst hP hw hK;obtain⟨xs,q1,hx⟩:=hg;obtain⟨old,he,st1⟩:=st;obtain⟨us,r1,p1,z1⟩:=I.list (b8.of q1);have hl:=r1.length;apply wpAny_pyNext_enum_end δT he st1 p1.isList (by simp;omega);intro h1 kept;exact⟨rfl,I.mP (t':=s.toks) (λb o hb e=>kept b o (λz=>hb (cC.mpr (.inr z))) e) hf⟩
 self:=λA i s Q E st h=>by obtain⟨old,he,_⟩:=st;have ty:s.TypeIs (.ref (n+1)) "enumerate":= ⟨_,he,rfl⟩;apply wpAny_pyIter_slot ty F.slot_enumerate_iter;apply qaZ F.slot_enumerate_iter ty F.entry_enumerate_iter _ (F.args_enumerate_iter_1 _);change wpAny _ _ (ret (.ref (n+1))) _ _ s;exact qac ⟨_,rfl,"enumerate",_,ty,F.slot_enumerate_next.lookup,h⟩
def Ks(ta:TA):TI:=λσ H R=>ta σ H λvs H1=>∃l xs,vs=[.ref l]/\H1 l=some γo/\R (DQ l) H1
section
variable{X:Cx}
theorem TQ:bootBuiltins "enumerate" = some (.type "enumerate"):=by decide +kernel
theorem u9{a:Expr}{es:zza}{x1}{tp:Pos}{ta:TA}{p pos:Pos}(hg:Gl X "enumerate")(hm:X.mg "enumerate" = none)(ha:PA X [a] ta)(hs:starEach [a] X.env=[(false,eval a X.env)]:=by rfl):PI X (.Tuple es x1 tp) (.Call (.Name "enumerate" p) [a] [] pos) (Ks ta):=by
 intro pins s σ H R I h;refine Call_ (sV I hg hm TQ (PyProof.Rows.callWith_type1 (aK γV λus s1 zq=>?_) hs rfl));obtain⟨vs,H1,I1,r1,q1⟩:=zq;obtain⟨l,xs,e,q1,q⟩:=q1;subst e;obtain⟨u,rfl,e1⟩:=vals1 r1;cases e1;obtain⟨us,r1,p1,z1⟩:=I1.list (b8.of q1);apply call_enumerate_list p1.isList;intro h' he st sz kept;have T:=TN (P:=X.prog) (w:=X.w) (K:=X.K) (es:=es) (x1:=x1) (pos:=tp) l s1.heap.objs.size;apply T.self X.A 0 _ _ _ ⟨.none,he,st⟩;refine⟨_,tG s1.heap.objs.size,_,_,H1,rfl,I1.kept (t':=s1.toks) kept,T,⟨.none,he,st⟩,λb hb=>?_,q⟩
 have le:s1.heap.objs.size<=b:=by rw[cC]at hb;rcases hb with e|e<;>rw[e]<;>first|exact qam _|exact Nat.le_add_right _ _
 exact I1.n_ le (I1.hok.fresh le)
end
section
variable{X:Cx}
theorem Kt{ns:u8}(r:Vals γD its):∃ps:Array (Int×Tok),its.toArray=intItems ps/\ps.toList.map (·.1)=ns:=by have ia:=intsAre_of r;obtain⟨ps,e⟩:=ia.allInts.items;refine⟨ps,e,?_⟩;rw[<-nums_intItems,<-e];exact ia.numsOf
theorem TR(calm:X.calm=true):aN X (.builtin "max") (λxs H Q=>∃(p:Addr) (ns:u8),xs=[.ref p]/\H p=some ηM/\0<ns.length/\∀M∈ns,(∀a∈ns,a<=M)->Q (.int M) H):=by
 intro pins s σ H xs us Q I r h;obtain⟨p,ns,rfl,hH,hn,q⟩:=h;obtain⟨u,rfl,ru⟩:=r.one;cases ru;obtain⟨z,its,n,rv,hl,e⟩:=I.bc hH;obtain⟨ps,e1,rfl⟩:=Kt rv;rw[qaf,qaz]at hn;apply max_intList (xs:=ps) θZ ⟨_,e,rfl,_,by rw[e1]⟩ hn;intro v h' tk hv kp;obtain⟨tk2,rfl⟩:=intItems_at hv;have B:=argBest_gt (numAt ps) (ps.size-1);refine⟨.int _,H,I.kept kp,⟨tk2,rfl⟩,q _ ?_ λa ha=>?_⟩
 .rw[numAt_eq];apply PySem.getD_mem;rw[qaf,qaz];have:=B.1;omega
 .obtain⟨j,lt,rfl⟩:=mem_getD ha;rw[qaf,qaz]at lt;have:=B.2 j (by omega);rwa[numAt_eq ps j]at this
theorem DR:aN X (.builtin "sorted") (λxs H Q=>∃(p:Addr) (ns:u8),xs=[.ref p]/\b8 X.K H p γD/\ns.length<64/\∀(l:Addr) (ns':u8),H l=none->ns'.Perm ns->ns'.Pairwise (· <= ·)->Q ιr (upd H l θf)):=by
 intro pins s σ H xs us Q I r h;obtain⟨p,ns,rfl,hS,hn,q⟩:=h;obtain⟨u,rfl,ru⟩:=r.one;cases ru;obtain⟨its,rv,pl,hz⟩:=I.list hS;have hl:=rv.length;rw[qaf]at hl;apply sorted_ints pl.isList (intsAre_of rv) (by omega);intro out ns' ia pm pw;obtain⟨e,he⟩:=sortedAll_at s.heap its out;have fr:H (s.heap.objs.size+1)=none:=I.hok.fresh (Nat.le_succ _);refine⟨.ref (s.heap.objs.size+1),upd H (s.heap.objs.size+1) θf,I.laid (t':=s.toks) (λb o z=>sortedAll_old z) (Nat.le_succ _) ?_,rfl,q _ ns' fr pm pw⟩;refine⟨?_,out.toList,e,Dk ia,he⟩;rw[qaf,pm.length_eq];have z:(64:Nat)<=sizeLine:=by decide
 omega
noncomputable def DS(lo c:Int)(n:Nat):It:=⟨λi _=>i<n,λi H x H'=>H'=H/\x=.int (lo+i*c),λi _=>n<=i⟩
end
theorem TU{P:Program}{w:World}{K:zze}{tg:Expr}(it:Addr)(lo c:Int)(n:Nat):Turn P w K tg (DS lo c n) [it] it (λi h=>IsRangeIter h it (lo+(i:Nat)*c) ((n:Int)-(i:Nat)) c) where
 mem:=by simp
 obj:=λi h st b hb=>by
  have e:b=it:=by simpa using hb
  subst e;exact⟨_,st,λv z=>nomatch z⟩
 keep:=λi h h' st k=>k it (by simp) _ st
 item:=by intro X hP hw hK hc i pins s σ H E I hf st hg;subst hP hw hK;obtain⟨f0,f1,f2,f3,f4,f5⟩:=hf it (by simp);have W:=Walks.range (prog:=X.prog) (w:=X.w) δT it lo c n;refine W.item i s _ _ hg st λv h' tk hv st' kk=>?_;obtain⟨t,rfl⟩:=hv;have I1:Inv X pins σ H {s with heap:=h',toks:=tk}:=I.turned (λb o hb e=>kk b o (by simpa using hb) e) f0 f1 f3 f4 f5;exact⟨_,rfl,CV (s:={s with heap:=h',toks:=tk}) (n:= "range_iterator") st' rfl rfl (by decide) ⟨.int (lo+i*c),H,I1,⟨t,rfl⟩,⟨rfl,rfl⟩,st',λb hb=>(hf b hb).1⟩⟩
 done:=by intro X hP hw hK hc i pins s σ H E I hf st hg;subst hP hw hK;obtain⟨f0,f1,f2,f3,f4,f5⟩:=hf it (by simp);exact wpAny_pyNext_range_end δT st (by have:n<=i:=hg;omega) λh' eb=>⟨rfl,I.turned (t':=s.toks) (λb o hb e=>eb b o hb e) f0 f1 f3 f4 f5⟩
 self:=λ_ _ _ _ _ st h=>wpAny_pyIter_rangeiter st h
def Ku(ta:TA):TI:=λσ H R=>ta σ H λvs H1=>∃(i j c:Int) (n:Nat),vs=[.int i,.int j,.int c]/\c≠0/\c.natAbs<1073741824/\Builtin.Range.small i j c=true/\Builtin.Range.rangeSize i j c=n/\R (DS i c n) H1
section
variable{X:Cx}{tg:Expr}
theorem Kv{a b c:Expr}{ta:TA}{p pos:Pos}(hg:Gl X "range")(hm:X.mg "range" = none)(ha:PA X [a,b,c] ta)(hs:starEach [a,b,c] X.env=[(false,eval a X.env),(false,eval b X.env),(false,eval c X.env)]:=by rfl)(hs2:starEach [b,c] X.env=[(false,eval b X.env),(false,eval c X.env)]:=by rfl) :
 PI X tg (.Call (.Name "range" p) [a,b,c] [] pos) (Ku ta):=by
 intro pins s σ H R I h;refine Call_ (sV I hg hm boot_range (PyProof.Rows.callWith_type1 (aK γV λus s1 zq=>?_) (by rw[hs,hs2]) (by rw[hs2];rfl)));obtain⟨vs,H1,I1,r1,q1⟩:=zq;obtain⟨i,j,d,n,e,d0,d1,sm,sz,q⟩:=q1;subst e;cases r1 with
 |cons r rr=>cases rr with
   |cons r' rr=>cases rr with
     |cons r'' rr =>
       cases rr;obtain⟨t,rfl⟩:=r;obtain⟨t',rfl⟩:=r';obtain⟨t'',rfl⟩:=r'';apply call_range_3 d0 _ (.inl (PyProof.noPylong_small d1));apply wpAny_pyIter_range (IsRange.new ..) sm;have I2:Inv X pins σ H1 {s1 with heap:=s1.heap.push {cls:=.type "range",data:=.fields #[.int i t,.int j t',.int d t'']} }:=I1.kept (t':=s1.toks) λb o e=>qab _ e;refine⟨_,[(s1.heap.push {cls:=.type "range",data:=.fields #[.int i t,.int j t',.int d t'']}).objs.size],_,_,H1,rfl,I2.kept (t':=s1.toks) λb o e=>qab _ e,TU _ i d n,?_,λb hb=>?_,q⟩
       .have e1:i+((0:Nat):Int)*d=i:=by simp
        have e2:(n:Int)-((0:Nat):Int)=Builtin.Range.rangeSize i j d:=by rw[sz];simp
        show IsRangeIter _ _ (i+((0:Nat):Int)*d) ((n:Int)-((0:Nat):Int)) d;rw[e1,e2];exact qao _ rfl
       .have e:b=(s1.heap.push {cls:=.type "range",data:=.fields #[.int i t,.int j t',.int d t'']}).objs.size:=by simpa using hb
        subst e;exact I2.n_ γO (I2.hok.fresh γO)
noncomputable def AY(xs:γB)(lo hi:zzf)(st:Int):List V:=(sliceRange (sliceBounds lo hi εy xs.length).1 (sliceBounds lo hi εy xs.length).2.1 (sliceBounds lo hi εy xs.length).2.2).filterMap (xs[·]?)
theorem DT(r:ε4):∀ps:zzc,Vals (ps.filterMap (xs[·]?)) (ps.filterMap (us[·]?))
 |[]=>.nil
 |p::ps=>by
   rw[qaK,qaK];cases e:xs[p]? with
   |none=>rw[r.none_of e];exact DT r ps
   |some x =>
     obtain⟨u,hu,ru⟩:=r.get e;rw[hu];exact .cons ru (DT r ps)
def TV(K:zze)(te:TE)(tl th:TO)(st:Int):TE:=λσ H Q=>te σ H λx H1=>tl σ H1 λl H2=>th σ H2 λu H3=>∃a xs,x=.ref a/\b8 K H3 a xs/\st≠0/\(AY xs l u st).length<=sizeLine/\∀p,H3 p=none->Q γJ (upd H3 p (.lst (AY xs l u st)))
theorem TX{e se:Expr}{te:TE}{lo hi:Option Expr}{tl th:TO}{st:Int}{pos p2:Pos}(he:ζO)(hl:PO X lo tl)(hu:PO X hi th)(hse:PE X se (tC (.int st))):PE X (.Subscript e θb pos) (TV X.K te tl th st):=by
 intro pins s σ H Q I h;refine Subscript_ (aK γF λv s1 zq=>?_);obtain⟨x,H1,I1,r1,q1⟩:=zq;refine wpAny_Slice (aK (hl pins s1 σ H1 _ I1 q1) λvl s2 zq=>?_);obtain⟨l,H2,I2,pl,q2⟩:=zq;refine aK (hu pins s2 σ H2 _ I2 q2) λvu s3 zq=>?_;obtain⟨u,H3,I3,pu,q3⟩:=zq;rw[evalPart_some];refine aK (hse pins s3 σ H3 (λx H'=>x=.int st/\H'=H3) I3 ⟨rfl,rfl⟩) λvs s4 zq=>?_;obtain⟨y,H4,I4,r4,ey,eH⟩:=zq;subst ey eH;obtain⟨t,rfl⟩:=r4;obtain⟨a,xs,rfl,hx,s0,sz,q⟩:=q3;cases r1;have I5:Inv X pins σ H4 {s4 with heap:=s4.heap.push {cls:=.type "slice",data:=.fields #[vl,vu,.int st t]} }:=I4.kept (t':=s4.toks) λb ob q=>qab _ q;obtain⟨its,r,ht,hz⟩:=I5.list hx;have hlen:=r.length;show wpAny δ X.A (subscriptTail e θb γC (.ref s4.heap.objs.size)) γL X.xe {s4 with heap:=s4.heap.push {cls:=.type "slice",data:=.fields #[vl,vu,.int st t]} };refine tail_any (ops:=[.ref a,.ref s4.heap.objs.size]) ht.isList.typeIs slot_list_getitem.lookup ?_ (by with_unfolding_all rfl);refine wpAny_getItem_list_slice ht.isList (Heap.IsSliceOf.new ..) pl pu (.int st t) (by simpa using s0) ?_ (by rw[List.size_toArray]<;>omega)
 have e1:slicePick its.toArray l u εy=((sliceRange (sliceBounds l u εy xs.length).1 (sliceBounds l u εy xs.length).2.1 (sliceBounds l u εy xs.length).2.2).filterMap (its[·]?)).toArray:=by unfold slicePick;rw[qaG,<-hlen];simp
 rw[e1];exact⟨.ref _,_,I5.ti (t':=s4.toks) (DT r _) sz,rfl,q _ I5.fresh⟩
end
def TY(K:zze):List V->Hp->VK->Prop:=λxs H Q=>∃x c t cv b,xs=[x,c]/\tq c=some cv/\xl K H x t/\W.kitOne K t cv=some b/\Q ε2 H
theorem lJ(h:H p=none):ah H (upd H p o):=λb u e=>by rw[bh (iG e h)];exact e
end L2
namespace Dv
open PySem L2 Ex
inductive Cn where
 |PointError|NoPoints|NoBox|NoAsks|rJ|oA|oB|oE|rK|NotServed|rL|NoPoint|ju|oF|lK|TooMany|Points|tH|Search|tI|DU
 deriving DecidableEq
class KC where
 K:zze
 cls:Cn->Addr
variable[KC]
inductive D where
 |ax|bl (b:Bool)|int (i:Int)|str (x:Str)
 |lst (xs:γd)|tup (xs:γd)|i4 (ks vs:γd)|dW (ns:u8)|ins (C:Cn) (ns:v6) (vs:γd)|obj (C:Cn) (ns:v6) (vs:γd)
mutual
inductive Rp(R:Hp):V->D->Prop
 |ax:Rp R .ax .ax
 |bl (b:Bool):Rp R (.bl b) (.bl b)
 |int (i:Int):Rp R (.int i) (.int i)
 |str (x:Str):Rp R (.str x) (.str x)
 |lst {a:Addr}{xs:γB}{ds:γd}:R a=some (.lst xs)->aH R xs ds->Rp R (.ref a) (.lst ds)
 |tup {a:Addr}{xs:γB}{ds:γd}:R a=some (.tup xs)->aH R xs ds->Rp R (.ref a) (.tup ds)
 |oG {a:Addr}:R a=some (.dK [])->Rp R (.ref a) (.i4 [] [])
 |dW {a:Addr}{ns:u8}:b8 KC.K R a (ns.map V.int)->Rp R (.ref a) (.dW ns)
 |oH {a:Addr}{C:Cn}:R a=some (cT (KC.cls C) a none false)->Rp R (.ref a) (.ins C [] [])
 |exc {a d:Addr}{C:Cn}{fs:List (Str×V)}{ds:γd}:R a=some (cT (KC.cls C) a (some d) false)->R d=some (mN d fs)->aH R (fs.map (·.2)) ds->Rp R (.ref a) (.ins C (fs.map (·.1)) ds)
 |obj {a dx:Addr}{C:Cn}{fs:List (Str×V)}{ds:γd}:R a=some (.ins (KC.cls C) dx fs)->aH R (fs.map (·.2)) ds->Rp R (.ref a) (.obj C (fs.map (·.1)) ds)
inductive aH(R:Hp):List V->List D->Prop
 |nil:aH R [] []
 |cons {x:V}{d:D}{xs:γB}{ds:γd}:Rp R x d->aH R xs ds->aH R (x::xs) (d::ds)
end
theorem Rp.ind{R:Hp}{m:V->D->Prop}{n:List V->List D->Prop}(h1:m .ax .ax)(h2:∀b,m ε2 ε2)(h3:∀i,m γT γT)(h4:∀x,m θG θG)(h5:∀{a xs ds},R a=some γo->n xs ds->m γC εl)(h6:∀{a xs ds},R a=some γN->n xs ds->m γC ηI)(h7:∀{a},R a=some (.dK [])->m γC (.i4 [] []))(h8:∀{a ns},b8 KC.K R a γD->m γC (.dW ns))(h9:∀{a C},R a=some (cT η a none false)->m γC (.ins C [] []))(h10:∀{a d C fs ds},R a=some (cT η a (some d) false)->R d=some θn->n (fs.map (·.2)) ds->m γC (.ins C (fs.map (·.1)) ds))(h11:∀{a dx C fs ds},R a=some (.ins η dx fs)->n (fs.map (·.2)) ds->m γC (.obj C (fs.map (·.1)) ds))(h12:n [] [])(h13:∀{x d xs ds},m x d->n xs ds->n (x::xs) (d::ds)):(∀{x d},Rp R x d->m x d)/\∀{xs ds},aH R xs ds->n xs ds:=
 ⟨λh=>Rp.rec (motive_1:=λx d _=>m x d) (motive_2:=λx d _=>n x d) h1 h2 h3 h4 (λe _=>h5 e) (λe _=>h6 e) h7 h8 h9 (λe e' _=>h10 e e') (λe _=>h11 e) h12 (λ_ _=>h13) h,λh=>aH.rec (motive_1:=λx d _=>m x d) (motive_2:=λx d _=>n x d) h1 h2 h3 h4 (λe _=>h5 e) (λe _=>h6 e) h7 h8 h9 (λe e' _=>h10 e e') (λe _=>h11 e) h12 (λ_ _=>h13) h⟩
theorem aH.ind{R:Hp}{n:List V->List D->Prop}(h0:n [] [])(h1:∀{x d xs ds},Rp R x d->aH R xs ds->n xs ds->n (x::xs) (d::ds)){xs:γB}{ds:γd}(h:δs):n xs ds:=by
 induction xs generalizing ds with
 |nil=>cases h;exact h0
 |cons x r ih =>
   cases h with
   |cons a b=>exact h1 a b (ih b)
theorem Rp.Kw{H H':Hp}(s:ah H H'):(∀{x d},Rp H x d->Rp H' x d)/\∀{xs ds},aH H xs ds->aH H' xs ds:=
 Rp.ind .ax .bl .int .str (λe=>.lst ηz) (λe=>.tup ηz) (λe=>.oG ηz) (λe=>.dW (s.seq e)) (λe=>.oH ηz) (λe e'=>.exc ηz (s _ _ e')) (λe=>.obj ηz) .nil .cons
theorem Rp.sm(s:ah H H')(h:Rp H x d):Rp H' x d:=(Rp.Kw s).1 h
theorem aH.sm(s:ah H H')(h:aH H xs ds):aH H' xs ds:=(Rp.Kw s).2 h
section
variable{R:Hp}
theorem aH.len(h:δs):xs.length=ds.length:=h.ind (n:=λxs ds=>xs.length=ds.length) rfl (λ_ _ h=>congrArg Nat.succ h)
theorem aH.at{i:Nat}(h:δs):xs[i]?=some x->∃d,ds[i]?=some d/\Rp R x d:=by
 revert i;refine h.ind (n:=λxs ds=>∀{i:Nat},xs[i]?=some x->∃d,ds[i]?=some d/\Rp R x d) nofun λr _ ih i e=>?_;cases i with
 |zero=>cases e;exact⟨_,rfl,r⟩
 |succ i=>exact ih e
theorem aH.ta{xs:γB}{ds:γd}{i:Nat}{d:D}(h:δs)(e:ds[i]?=some d):∃x,xs[i]?=some x/\Rp R x d:=by
 have lt:i<xs.length:=by rw[h.len];exact(qad.mp e).1
 obtain⟨d',e',r⟩:=h.at (qah lt);rw[e]at e';cases e';exact⟨_,qah lt,r⟩
theorem aH.app(h:δs)(k:aH R ys es):aH R (xs++ys) (ds++es):=h.ind (n:=λxs ds=>aH R (xs++ys) (ds++es)) k (λa _=>.cons a)
theorem aH.take(n:Nat)(h:δs):aH R (xs.take n) (ds.take n):=
 h.ind (n:=λxs ds=>∀n,aH R (xs.take n) (ds.take n)) (λn=>by cases n<;>exact .nil) (λa _ ih n=>by cases n;exact .nil;exact .cons a (ih _)) n
theorem aH.drop(n:Nat)(h:δs):aH R (xs.drop n) (ds.drop n):=
 h.ind (n:=λxs ds=>∀n,aH R (xs.drop n) (ds.drop n)) (λn=>by cases n<;>exact .nil) (λa b ih n=>by cases n;exact .cons a b;exact ih _) n
theorem aH.ints:∀ns:u8,aH R γD εn
 |[]=>.nil
 |n::r=>.cons θI (aH.ints r)
theorem aH.cU{ns:u8}(h:aH R xs εn):xs=ns.map V.int:=by
 induction ns generalizing xs with
 |nil=>cases h;rfl
 |cons n r ih =>
   cases h with
   |cons a b=>cases a;rw[ih b];rfl
theorem aH.mf{ns:ζL}(h:aH R xs (ns.map D.bl)):xs=ns.map V.bl:=by
 induction ns generalizing xs with
 |nil=>cases h;rfl
 |cons n r ih =>
   cases h with
   |cons a b=>cases a;rw[ih b];rfl
theorem aH.pick(h:δs):∀ps:zzc,aH R (ps.filterMap (xs[·]?)) (ps.filterMap (ds[·]?))
 |[]=>.nil
 |p::r=>by
   rw[qaK,qaK];cases e:xs[p]? with
   |none =>
     have:ds[p]?=none:=by rw[List.getElem?_eq_none_iff]at e ⊢;rw[<-h.len];exact e
     rw[this];exact h.pick r
   |some x =>
     obtain⟨d,e2,q⟩:=h.at e;rw[e2];exact .cons q (h.pick r)
end
inductive Kd where
 |ae|own|io (k:Nat)
 deriving DecidableEq
noncomputable abbrev Sl:=Option (Kd×D)
abbrev En:=List Sl
inductive RV where
 |val (d:D)|new (d:D)|var (i:Nat)
def OwR(R H:Hp)(v:V)(d:D):Prop:=∃a xs ds,v=.ref a/\R a=none/\H a=some γo/\d=.lst ds/\aH R xs ds
def lG(ios:zzd)(R H:Hp)(v:V):Kd×D->Prop
 | (.ae,d)=>Rp R v d
 | (.own,d)=>OwR R H v d
 | (.io k,d)=>OwR R H v d/\∃a,ios[k]?=some a/\v=.ref a
noncomputable def owned:Kd->Bool
 |.ae=>false
 |_=>true
def Ow(σ:St)(Γ:En)(b:Addr):Prop:=∃(i:Nat) (k:Kd) (d:D),Γ[i]?=some (some (k,d))/\owned k=true/\σ[i]?=some δV
structure ER(ios:zzd)(R H:Hp)(σ:St)(Γ:En):Prop where
 sub:ah R H
 len:σ.length=Γ.length
 sl:∀(i:Nat) (s:Kd×D),Γ[i]?=some ζ0->∃v,σ[i]?=some δQ/\lG ios R H v s
 dj:∀(i j:Nat) (k l:Kd) (d e:D) (b:Addr),Γ[i]?=some (some (k,d))->owned k=true->Γ[j]?=some (some (l,e))->owned l=true->σ[i]?=some δV->σ[j]?=some δV->i=j
structure Go(O:Addr->Prop)(R H:Hp)(O':Addr->Prop)(R' H':Hp):Prop where
 rr:ah R R'
 hh:∀b o,H b=some o -> ¬O b->H' b=some o
 no:∀b o,H b=some o -> ¬O b->R b=none->R' b=none
 oo:∀b,O' b->O b\/H b=none
 th:∀b o,H b=some o->∃o',H' b=some o'
theorem Go.refl:Go O R H O R H:=⟨ah.refl _,λ_ _ h _=>h,λ_ _ _ _ h=>h,λ_ h=>.inl h,λ_ o h=>⟨o,h⟩⟩
theorem Go.trans{O O1 O2:Addr->Prop}{R H R1 H1 R2 H2:Hp}(g:Go O R H O1 R1 H1)(k:Go O1 R1 H1 O2 R2 H2):Go O R H O2 R2 H2:=by
 have nO:∀b o,H b=some o -> ¬O b -> ¬O1 b:=λb o h n z=>(g.oo b z).elim n λq=>by rw[h]at q;cases q
 refine⟨g.rr.trans k.rr,λb o h n=>k.hh b o (g.hh b o h n) (nO b o h n),λb o h n r=>k.no b o (g.hh b o h n) (nO b o h n) (g.no b o h n r),λb z=>?_,λb o h=>let ⟨o1,h1⟩:=g.th b o h;k.th b o1 h1⟩;rcases k.oo b z with q|q
 .exact g.oo b q
 .by_cases hO:O b
  .exact .inl hO
  .cases e:H b with
   |none=>exact .inr rfl
   |some o=>rw[g.hh b o e hO]at q;cases q
end Dv
namespace Dv
open PySem L2 Ex
variable[KC]
structure Xc where
 C:Cn
 fs:List (Str×D)
inductive Res(α:Type) where
 |ok (a:α) (Γ:En)|ex (x:Xc) (Γ:En)|st
abbrev M(α:Type):=En->Res α
noncomputable def M.pure{α:Type}(a:α):M α:=λΓ=>.ok a Γ
noncomputable def M.bind{α β:Type}(f:M α)(g:α->M β):M β:=λΓ=>match f Γ with
 |.ok a Γ'=>g a Γ'
 |.ex x Γ'=>.ex x Γ'
 |.st=>.st
noncomputable def M.st{α:Type}:M α:=λ_=>.st
noncomputable def M.dH{α:Type}:Option α->M α
 |some a=>M.pure a
 |none=>M.st
def cz{α:Type}(r:Res α)(K:α->En->Prop)(E:Xc->En->Prop):Prop:=match r with
 |.ok a Γ=>K a Γ
 |.ex x Γ=>E x Γ
 |.st=>False
theorem aC{α β:Type}{f:M α}{g:α->M β}{Γ:En}{K:β->En->Prop}{E:Xc->En->Prop}:cz (M.bind f g Γ) K E=cz (f Γ) (λa Γ'=>cz (g a Γ') K E) E:=by unfold M.bind cz;cases f Γ<;>rfl
theorem a6{α:Type}{r:Res α}{K K':α->En->Prop}(h:cz r K E)(hK:∀a Γ,K a Γ->K' a Γ)(hE:∀x Γ,E x Γ->E' x Γ):cz r K' E':=by
 cases r with
 |ok a Γ=>exact hK _ _ h
 |ex x Γ=>exact hE _ _ h
 |st=>exact h
theorem jW{α:Type}{o:θO}{K:α->En->Prop}(h:cz (M.dH o Γ) K E):∃a,o=some a/\K a Γ:=by
 cases o with
 |none=>exact False.elim h
 |some a=>exact⟨a,rfl,h⟩
structure Al(R H R' H':Hp):Prop where
 sub:ah R' H'
 rr:ah R R'
 hh:ah H H'
 no:∀b o,H b=some o->R b=none->R' b=none
theorem Al.refl(s:ηZ):Al R H R H:=⟨s,ah.refl _,ah.refl _,λ_ _ _ h=>h⟩
theorem Al.go(a:Al R H R' H'):Go O R H O R' H':=⟨a.rr,λb o h _=>a.hh b o h,λb o h _ r=>a.no b o h r,λ_ h=>.inl h,λb o h=>⟨o,a.hh b o h⟩⟩
theorem ER.ow(e:γw)(o:Ow σ Γ b):R b=none/\∃xs,H b=some γo:=by
 obtain⟨i,k,d,h1,h2,h3⟩:=o;obtain⟨v,hv,s⟩:=e.sl i _ h1;rw[h3]at hv;cases hv;cases k with
 |ae=>cases h2
 |own=>obtain⟨a,xs,ds,e1,e2,e3,_⟩:=s;cases e1;exact⟨e2,xs,e3⟩
 |io n=>obtain⟨⟨a,xs,ds,e1,e2,e3,_⟩,_⟩:=s;cases e1;exact⟨e2,xs,e3⟩
theorem OwR.mono(h:OwR R H v d)(rr:ah R R')(k:∀a xs,v=.ref a->H a=some γo->R a=none->H' a=some γo/\R' a=none):OwR R' H' v d:=by obtain⟨a,xs,ds,rfl,h1,h2,rfl,h3⟩:=h;obtain⟨k1,k2⟩:=k a xs rfl h2 h1;exact⟨a,xs,ds,rfl,k2,k1,rfl,h3.sm rr⟩
theorem lG.mono(h:lG ios R H v s)(rr:ah R R')(k:owned s.1=true->∀a xs,v=.ref a->H a=some γo->R a=none->H' a=some γo/\R' a=none):lG ios R' H' v s:=by
 obtain⟨kd,d⟩:=s;cases kd with
 |ae=>exact Rp.sm rr h
 |own=>exact OwR.mono h rr (k rfl)
 |io n=>exact⟨OwR.mono h.1 rr (k rfl),h.2⟩
theorem ER.al(e:γw)(a:Al R H R' H'):ER ios R' H' σ Γ where
 sub:=a.sub
 len:=e.len
 sl:=λi s h=>let ⟨v,hv,q⟩:=e.sl i s h; ⟨v,hv,q.mono a.rr λ_ b xs _ h1 h2=>⟨a.hh _ _ h1,a.no _ _ h1 h2⟩⟩
 dj:=e.dj
structure bf(ios:zzd)(R H:Hp)(σ:St)(Γ:En)(R' H':Hp)(Γ':En):Prop where
 er:ER ios R' H' σ Γ'
 go:Go (Ow σ Γ) R H (Ow σ Γ') R' H'
 sh:∀b,Ow σ Γ' b->Ow σ Γ b
section
variable{ios:zzd}{R H R1 H1 R2 H2:Hp}{σ:St}{Γ ai ao:En}
theorem bf.refl(e:γw):bf ios R H σ Γ R H Γ:=⟨e,Go.refl,λ_ h=>h⟩
theorem bf.trans(a:γY)(b:bf ios R1 H1 σ ai R2 H2 ao):bf ios R H σ Γ R2 H2 ao:=⟨b.er,a.go.trans b.go,λc h=>a.sh c (b.sh c h)⟩
theorem bf.al(a:γY)(b:Al R1 H1 R2 H2):bf ios R H σ Γ R2 H2 ai:=⟨a.er.al b,a.go.trans b.go,a.sh⟩
def gP(R H H':Hp)(σ:St)(x:V):RV->Prop
 |.val d=>Rp R x d
 |.new d=>OwR R H' x d/\∃a,x=.ref a/\H a=none
 |.var i=>σ[i]?=some δt
theorem gP.go(e:γw)(a:γY)(h:gP R1 H H1 σ x rv)(b:Go ζv R1 H1 (Ow σ ao) R2 H2):gP R2 H H2 σ x rv:=by
 cases rv with
 |val d=>exact Rp.sm b.rr h
 |var i=>exact h
 |new d =>
   obtain⟨h1,p,hp,hn⟩:=h;refine⟨h1.mono b.rr λq xs e1 e2 e3=>?_,p,hp,hn⟩
   have:¬Ow σ ai q:=λz=>by
    have hq:q=p:=by rw[hp]at e1;exact(V.ref.inj e1).symm
    obtain⟨_,xs,e4⟩:=e.ow (a.sh q z);rw[hq,hn]at e4;cases e4
   exact⟨b.hh _ _ e2 this,b.no _ _ e2 this e3⟩
def Pk(R H:Hp)(x:V)(d:D):Prop:=Rp R x d\/∃a xs ds,x=.ref a/\H a=some γo/\d=.lst ds/\aH R xs ds
theorem Pk.lst{ds:γd}{x:V}(s:ηZ)(h:Pk R H x εl):∃a xs,x=.ref a/\H a=some γo/\aH R xs ds:=by
 rcases h with h|⟨a,xs,ds',rfl,h1,h2,h3⟩
 .cases h with|lst e q=>exact⟨_,_,rfl,s _ _ e,q⟩
 .cases h2;exact⟨a,xs,rfl,h1,h3⟩
theorem Pk.hv(s:ηZ)(h:Pk R H x d):Rp H x d:=by
 rcases h with h|⟨a,xs,ds',rfl,h1,rfl,h3⟩
 .exact h.sm s
 .exact .lst h1 (h3.sm s)
theorem Pk.int(h:Pk R H x γT):x=.int i:=by
 rcases h with h|⟨a,xs,ds',rfl,h1,h2,h3⟩
 .cases h;rfl
 .cases h2
theorem Pk.bl(h:Pk R H x (.bl i)):x=.bl i:=by
 rcases h with h|⟨a,xs,ds',rfl,h1,h2,h3⟩
 .cases h;rfl
 .cases h2
theorem Pk.str(h:Pk R H x (.str i)):x=.str i:=by
 rcases h with h|⟨a,xs,ds',rfl,h1,h2,h3⟩
 .cases h;rfl
 .cases h2
theorem Pk.tup{ds:γd}{x:V}(h:Pk R H x ηI):∃a xs,x=.ref a/\R a=some γN/\aH R xs ds:=by
 rcases h with h|⟨a,xs,ds',rfl,h1,h2,h3⟩
 .cases h with|tup e q=>exact⟨_,_,rfl,e,q⟩
 .cases h2
end
noncomputable def peek:RV->M D
 |.val d=>M.pure d
 |.new d=>M.pure d
 |.var i=>λΓ=>match Γ[i]? with
   |some (some (_,d))=>.ok d Γ
   |_=>.st
noncomputable def mat:RV->M D
 |.val d=>M.pure d
 |.new d=>M.pure d
 |.var i=>λΓ=>match Γ[i]? with
   |some (some (_,d))=>.ok d (Γ.set i (some (.ae,d)))
   |_=>.st
section
variable{ios:zzd}{R H R1 H1 R2 H2:Hp}{σ:St}{Γ ai ao:En}
theorem lG.pk(h:lG ios R H v s):Pk R H v s.2:=by
 obtain⟨kd,d⟩:=s;cases kd with
 |ae=>exact .inl h
 |own=>obtain⟨a,xs,ds,h1,_,h2,h3,h4⟩:=h;exact .inr ⟨a,xs,ds,h1,h2,h3,h4⟩
 |io n=>obtain⟨⟨a,xs,ds,h1,_,h2,h3,h4⟩,_⟩:=h;exact .inr ⟨a,xs,ds,h1,h2,h3,h4⟩
theorem mR(e:ER ios R1 H1 σ ai)(h:gP R1 H H1 σ x rv)(k:cz (peek rv ai) K E):∃d,Pk R1 H1 x d/\K d ai:=by
 cases rv with
 |val d=>exact⟨d,.inl h,k⟩
 |new d =>
   obtain⟨⟨a,xs,ds,h1,_,h2,h3,h4⟩,_⟩:=h;exact⟨d,.inr ⟨a,xs,ds,h1,h2,h3,h4⟩,k⟩
 |var i =>
   unfold peek at k;dsimp only at k;split at k
   .rename_i q;obtain⟨v,hv,s⟩:=e.sl i _ q;have h:σ[i]?=some δt:=h;rw[h]at hv;cases hv;exact⟨_,s.pk,k⟩
   .exact False.elim k
noncomputable def ext(R H:Hp)(a:Addr):Hp:=λb=>if b=a then H a else R b
theorem u_(h:R a=none):ah R (ext R H a):=λb o e=>by
 unfold ext;split
 .rename_i z;rw[z,h]at e;cases e
 .exact e
theorem qF:ext R H a a=H a:=by unfold ext;rw[if_pos rfl]
theorem pY(h:b≠a):ext R H a b=R b:=by unfold ext;rw[if_neg h]
theorem zhE(s:ηZ):ah (ext R H a) H:=λb o e=>by
 unfold ext at e;split at e
 .rename_i z;rw[z];exact e
 .exact s b o e
theorem Kx(h:Ow σ (Γ.set i (some (.ae,d))) b):Ow σ Γ b /\ ¬(σ[i]?=some δV/\∀j k d,Γ[j]?=some (some (k,d))->owned k=true->σ[j]?=some δV->j=i):=by
 obtain⟨j,k,e,h1,h2,h3⟩:=h;by_cases hj:j=i
 .subst hj;by_cases hl:j<Γ.length
  .rw[qap hl]at h1;cases h1;cases h2
  .rw[List.getElem?_eq_none (by rw[qaU];omega)]at h1;cases h1
 .rw[qaj ζB]at h1;exact⟨⟨j,k,e,h1,h2,h3⟩,λ⟨_,z⟩=>hj (z j k e h1 h2 h3)⟩
theorem ER.freeze{i:Nat}{k:Kd}{d:D}{x:V}(e:γw)(hi:Γ[i]?=some (some (k,d)))(hx:σ[i]?=some δt):∃R',bf ios R H σ Γ R' H (Γ.set i (some (.ae,d)))/\Rp R' x d:=by
 obtain⟨v,hv,s⟩:=e.sl i _ hi;rw[hx]at hv;cases hv;have hlt:i<Γ.length:=(qad.mp hi).1;by_cases hk:owned k=true
 .obtain⟨a,xs,ds,rfl,h1,h2,rfl,h3⟩:OwR R H x d:=by
   cases k with
   |ae=>cases hk
   |own=>exact s
   |io n=>exact s.1
  have inj:∀j l z,Γ[j]?=some (some (l,z))->owned l=true->σ[j]?=some ιu->j=i:=λj l z q1 q2 q3=>(e.dj i j k l _ z a hi hk q1 q2 hx q3).symm
  have rr:ah R (ext R H a):=u_ h1
  refine⟨ext R H a,⟨⟨zhE e.sub,by rw[qaU];exact e.len,λj t hj=>?_,λj j' l l' z z' b q1 q2 q3 q4 q5 q6=>?_⟩,⟨rr,λ_ _ h _=>h,λb o hb nb rb=>?_,λb z=>.inl (Kx z).1,λb o h=>⟨o,h⟩⟩,λb z=>(Kx z).1⟩,.lst (by rw[qF];exact h2) (h3.sm rr)⟩
  .by_cases hji:j=i
   .subst hji
    rw[qap hlt]at hj
    cases hj
    exact⟨_,hx,.lst (by rw[qF];exact h2) (h3.sm rr)⟩
   .rw[qaj θl]at hj
    obtain⟨v,hv,q⟩:=e.sl j t hj
    refine⟨v,hv,q.mono rr λho b ys eb hb rb=>⟨hb,?_⟩⟩
    rw[pY]
    .exact rb
    .rintro rfl
     subst eb
     exact hji (inj j t.1 t.2 hj ho hv)
  .have g1:Γ[j]?=some (some (l,z)):=by
    by_cases hji:j=i
    .subst hji;rw[qap hlt]at q1;cases q1;cases q2
    .rwa[qaj θl]at q1
   have g2:Γ[j']?=some (some (l',z')):=by
    by_cases hji:j'=i
    .subst hji;rw[qap hlt]at q3;cases q3;cases q4
    .rwa[qaj θl]at q3
   exact e.dj j j' l l' z z' b g1 q2 g2 q4 q5 q6
  .rw[pY]
   .exact rb
   .rintro rfl
    exact nb ⟨i,k,_,hi,hk,hx⟩
 .have hk:k=.ae:=by cases k<;>first|rfl|exact absurd rfl hk
  subst hk
  have:Γ.set i (some (.ae,d))=Γ:=by
   apply List.ext_getElem?;intro j;by_cases hj:j=i
   .subst hj;rw[qap hlt,hi]
   .rw[qaj ζB]
  rw[this];exact⟨R,bf.refl e,s⟩
theorem mS(e:γw)(a:γY)(h:gP R1 H H1 σ x rv)(k:cz (mat rv ai) K E):∃d ao R2,bf ios R H σ Γ R2 H1 ao/\ah R1 R2/\Rp R2 x d/\K d ao:=by
 cases rv with
 |val d=>exact⟨d,ai,R1,a,ah.refl _,h,k⟩
 |new d =>
   obtain⟨⟨p,xs,ds,rfl,h1,h2,rfl,h3⟩,q,hq,hn⟩:=h;cases hq;have rr:ah R1 (ext R1 H1 p):=u_ h1;have nO:¬Ow σ Γ p:=λz=>by obtain⟨_,xs,e4⟩:=e.ow z;rw[hn]at e4;cases e4
   refine⟨_,ai,ext R1 H1 p,⟨⟨zhE a.er.sub,a.er.len,λj t hj=>?_,a.er.dj⟩,⟨a.go.rr.trans rr,a.go.hh,λb o hb nb rb=>?_,a.go.oo,a.go.th⟩,a.sh⟩,rr,.lst (by rw[qF];exact h2) (h3.sm rr),k⟩
   .obtain⟨v,hv,s⟩:=a.er.sl j t hj;refine⟨v,hv,s.mono rr λho b ys eb hb rb=>⟨hb,?_⟩⟩;rw[pY]
    .exact rb
    .rintro rfl;subst eb;exact nO (a.sh _ ⟨j,t.1,t.2,hj,ho,hv⟩)
   .rw[pY]
    .exact a.go.no b o hb nb rb
    .rintro rfl;rw[hn]at hb;cases hb
 |var i =>
   unfold mat at k;dsimp only at k;split at k
   .rename_i q;obtain⟨R',f,r⟩:=a.er.freeze q h;exact⟨_,_,R',a.trans f,f.go.rr,r,k⟩
   .exact False.elim k
end
def pZ(R H0 H:Hp)(e:Addr)(x:Xc):Prop:=R e=none/\H0 e=none/\((x.fs=[]/\H e=some (cT (KC.cls x.C) e none false)) \/
 ∃d fs,H e=some (cT (KC.cls x.C) e (some d) false)/\H d=some θn/\R d=none/\H0 d=none/\fs.map (·.1)=x.fs.map (·.1)/\aH R (fs.map (·.2)) (x.fs.map (·.2)))
theorem pZ.back(b:∀a,H1 a=none->H0 a=none)(h:pZ R H1 H e x):pZ R H0 H e x:=by obtain⟨h1,h2,h3⟩:=h;refine⟨h1,b _ h2,h3.imp id λz=>?_⟩;obtain⟨d,fs,a1,a2,a3,a4,a5⟩:=z;exact⟨d,fs,a1,a2,a3,b _ a4,a5⟩
theorem bf.since(h:bf ios R H σ Γ R' H' Γ'):∀b,H' b=none->H b=none:=λb hb=>by
 cases q:H b with
 |none=>rfl
 |some o =>
   obtain⟨o',z⟩:=h.go.th b o q;rw[hb]at z;cases z
def gb(EE:bw)(ios:zzd)(R H:Hp)(σ:St)(Γ:En):Xc->En->Prop:=λx Γ'=>∀e H' R',bf ios R H σ Γ R' H' Γ'->pZ R' H H' e x->EE σ ηc εQ H'
theorem gb.trans(a:γY)(h:gb EE ios R H σ Γ x Γ'):gb EE ios R1 H1 σ ai x Γ':=λe H' R' b q=>h e H' R' (a.trans b) (q.back a.since)
def iy(EE:bw)(ios:zzd)(t:TE)(f:M RV):Prop:=∀σ H R Γ Q,ER ios R H σ Γ ->
 cz (f Γ) (λrv Γ'=>∀x H' R',bf ios R H σ Γ R' H' Γ'->gP R' H H' σ x rv->Q x H') γU->t σ H Q
def jX(EE:bw)(ios:zzd)(t:TT)(f:δN):Prop:=∀σ H R Γ Q,ER ios R H σ Γ ->
 cz (f Γ) (λb Γ'=>∀H' R',bf ios R H σ Γ R' H' Γ'->Q b H') γU->t σ H Q
def VE(X:Cx)(EE:bw)(ios:zzd)(e:Expr)(f:M RV):Prop:=∃t,PE X e t/\iy EE ios t f
def VT(X:Cx)(EE:bw)(ios:zzd)(e:Expr)(f:δN):Prop:=∃t,PT X e t/\jX EE ios t f
def VW(X:Cx)(EE:bw)(ios:zzd)(e:Expr)(f:δN):Prop:=∃t,PW X e t/\jX EE ios t f
def tJ(R:Hp)(σ:St)(x:V):RV->Prop
 |.val d=>Rp R x d
 |.new _=>False
 |.var i=>σ[i]?=some δt
inductive gc(R:Hp)(σ:St):List V->List RV->Prop where
 |nil:gc R σ [] []
 |cons {x:V}{rv:RV}{xs:γB}{rvs:θt}:tJ R σ x rv->gc R σ xs rvs->gc R σ (x::xs) (rv::rvs)
theorem tJ.sm(s:ah R R')(h:tJ R σ x rv):tJ R' σ x rv:=by
 cases rv with
 |val d=>exact Rp.sm s h
 |new d=>exact h
 |var i=>exact h
theorem gc.sm(s:ah R R')(h:gc R σ xs rvs):gc R' σ xs rvs:=by
 induction h with
 |nil=>exact .nil
 |cons a b ih=>exact .cons (a.sm s) ih
theorem tJ.rv{R H H':Hp}{σ:St}{x:V}{rv:RV}(h:tJ R σ x rv):gP R H H' σ x rv:=by
 cases rv with
 |val d=>exact h
 |new d=>exact h.elim
 |var i=>exact h
def xt(EE:bw)(ios:zzd)(t:TA)(f:γn):Prop:=∀σ H R Γ Q,ER ios R H σ Γ ->
 cz (f Γ) (λrvs Γ'=>∀xs H' R',bf ios R H σ Γ R' H' Γ'->gc R' σ xs rvs->Q xs H') γU->t σ H Q
def VA(X:Cx)(EE:bw)(ios:zzd)(es:zza)(f:γn):Prop:=∃t,PA X es t/\xt EE ios t f
section
variable{X:Cx}{EE:bw}{ios:zzd}{e a b c:Expr}{f g k:M RV}{pos:Pos}
noncomputable def Zj(i:Nat):M RV:=λΓ=>match Γ[i]? with
 |some (some (.ae,d))=>.ok εI Γ
 |some (some _)=>.ok ιp Γ
 |_=>.st
theorem TZ(h:PE X e (uR i)):VE X EE ios e (Zj i):=by
 refine⟨_,h,λσ H R Γ Q er w=>?_⟩;unfold Zj at w;split at w
 .rename_i q;obtain⟨v,hv,s⟩:=er.sl i _ q;exact⟨v,hv,w v H R ζH s⟩
 .rename_i q;obtain⟨v,hv,s⟩:=er.sl i _ q;exact⟨v,hv,w v H R ζH hv⟩
 .exact False.elim w
theorem xu(h:PE X e (tC v))(r:∀R,Rp R v d):VE X EE ios e (M.pure εI):=
 ⟨_,h,λσ H R Γ Q er w=>w v H R ζH (r R)⟩
theorem aD:VE X EE ios (.Constant γT j pos) (M.pure (.val γT)):=xu Ay λ_=>.int i
theorem jY:VE X EE ios (.Constant (.bool i) j pos) (M.pure (.val (.bl i))):=xu Qv λ_=>.bl i
theorem rM:VE X EE ios (.Constant .none j pos) (M.pure δw):=xu Qw λ_=>.ax
theorem va:VE X EE ios (.Constant (.str i) j pos) (M.pure (.val (.str i))):=xu IJ λ_=>.str i
def i5(R H H':Hp)(z:V):RV->Prop
 |.val d=>Rp R z d
 |.new d=>OwR R H' z d/\∃a,z=.ref a/\H a=none
 |.var _=>False
theorem i5.rv{R H0 H H':Hp}{σ:St}{z:V}{rv:RV}(h:i5 R H H' z rv)(s:∀b,H b=none->H0 b=none):gP R H0 H' σ z rv:=by
 cases rv with
 |val d=>exact h
 |new d=>obtain⟨h1,a,h2,h3⟩:=h;exact⟨h1,a,h2,s _ h3⟩
 |var i=>exact h.elim
theorem bf.back(er:γw)(h:bf ios R H σ Γ R' H' Γ'):∀b,H' b=none->H b=none:=λb hb=>by
 cases q:H b with
 |none=>rfl
 |some o =>
   obtain⟨o',z⟩:=h.go.th b o q;rw[hb]at z;cases z
end
section
variable{X:Cx}{EE:bw}{ios:zzd}{e a b c:Expr}{f g k:M RV}{pos:Pos}{ta tb tc t:TE}{r r':R2}
def dI(r:R2)(g:D->D->Option RV):Prop:=∀R H x y d e rv (Q:VK),ah R H->Pk R H x d->Pk R H y e->g d e=some rv->(∀z H' R',Al R H R' H'->i5 R' H H' z rv->Q z H')->r x y H Q
noncomputable def op2(o:D->D->Option RV)(f g:M RV):M RV:=M.bind f λx=>M.bind g λy=>M.bind εu λd=>M.bind (peek y) λe=>M.dH (o d e)
theorem vc{o:D->D->Option RV}(ho:dI r o)(ha:iy EE ios ta f)(hb:iy EE ios tb g):iy EE ios θj (op2 o f g):=by intro σ H R Γ Q er w;unfold op2 at w;rw[aC]at w;refine ha σ H R Γ _ er (a6 w (λrx ai w x H1 R1 p1 hx=>?_) λ_ _ z=>z);rw[aC]at w;refine hb σ H1 R1 ai _ p1.er (a6 w (λry ao w y H2 R2 p2 hy=>?_) λ_ _ z=>gb.trans p1 z);rw[aC]at w;obtain⟨d,pd,w⟩:=mR p2.er (hx.go er p1 p2.go) w;rw[aC]at w;obtain⟨e,pe,w⟩:=mR p2.er hy w;obtain⟨rv,hg,w⟩:=jW w;exact ho R2 H2 x y d e rv Q p2.er.sub pd pe hg λz H' R' al ra=>w z H' R' ((p1.trans p2).al al) (ra.rv ((p1.trans p2).back er))
theorem cM{op:Operator}{o:D->D->Option RV}(h:b_ X (binaryOp op) r)(ho:dI r o)(ha:γs)(hb:εG):VE X EE ios (.BinOp a op b pos) (op2 o f g):=
 let ⟨_,h1,h2⟩:=ha;let ⟨_,h3,h4⟩:=hb; ⟨_,Rc h h1 h3,vc ho h2 h4⟩
theorem mT{op:CmpOp}{o:D->D->Option RV}(h:δj)(ho:dI r o)(ha:γs)(hb:εG)(hm:behindInMarks op b=false):VE X EE ios (.Compare a [op] [b] pos) (op2 o f g):=
 let ⟨_,h1,h2⟩:=ha;let ⟨_,h3,h4⟩:=hb; ⟨_,Ri h h1 h3 hm,vc ho h2 h4⟩
noncomputable def aM(rv:RV):M Bool:=match rv with
 |.val (.bl b)=>M.pure b
 |_=>M.st
theorem DV(h:θd):jX EE ios (C5 t) ζa:=by
 intro σ H R Γ Q er w;rw[aC]at w;refine h σ H R Γ _ er (a6 w (λrv ai w x H1 R1 p1 hx=>?_) λ_ _ z=>z);unfold aM at w;split at w
 .cases hx;exact⟨_,rfl,w H1 R1 p1⟩
 .exact False.elim w
theorem dM{op:CmpOp}{o:D->D->Option RV}(h:δj)(ho:dI r o)(ha:γs)(hb:εG)(hm:behindInMarks op b=false):VT X EE ios (.Compare a [op] [b] pos) (M.bind (op2 o f g) aM):=
 let ⟨_,h1,h2⟩:=ha;let ⟨_,h3,h4⟩:=hb; ⟨_,Rj h h1 h3 hm,DV (vc ho h2 h4)⟩
theorem gy(ha:γR)(he:∀whole,isTrue e X.env whole=(do let v <-whole;standAt e.pos;holding [v] (truthy v)):=by intro _;rfl):VT X EE ios e ζa:=
 let ⟨_,h1,h2⟩:=ha; ⟨_,Qx h1 he,DV h2⟩
noncomputable def jO(o o':D->D->Option RV)(f g k:M RV):M RV:=M.bind f λx=>M.bind g λy=>M.bind εu λd=>M.bind (peek y) λe=>M.bind (M.bind (M.dH (o d e)) aM) λq =>
 if q then M.bind k λz=>M.bind (peek y) λe'=>M.bind (peek z) λu=>M.dH (o' e' u) else M.pure γe
theorem Ky{o o':D->D->Option RV}(ho:dI r o)(ho':dI r' o')(ha:iy EE ios ta f)(hb:iy EE ios tb g)(hc:iy EE ios tc k):iy EE ios ιn (jO o o' f g k):=by
 intro σ H R Γ Q er w;unfold jO at w;rw[aC]at w;refine ha σ H R Γ _ er (a6 w (λrx ai w x H1 R1 p1 hx=>?_) λ_ _ z=>z);rw[aC]at w;refine hb σ H1 R1 ai _ p1.er (a6 w (λry ao w y H2 R2 p2 hy=>?_) λ_ _ z=>gb.trans p1 z);have jZ:=p1.trans p2;rw[aC]at w;obtain⟨d,pd,w⟩:=mR p2.er (hx.go er p1 p2.go) w;rw[aC]at w;obtain⟨e,pe,w⟩:=mR p2.er hy w;rw[aC,aC]at w;obtain⟨rv,hg,w⟩:=jW w;refine ho R2 H2 x y d e rv _ p2.er.sub pd pe hg λz H3 R3 al ra=>?_;unfold aM at w;split at w
 .rename_i q;cases ra;refine⟨q,rfl,?_⟩;have w:cz ((if q=true then M.bind k λz=>M.bind (peek ry) λe'=>M.bind (peek z) λu=>M.dH (o' e' u) else M.pure γe) ao) _ _:=w;cases q with
  |false=>exact qB (w ζy H3 R3 (jZ.al al) ζy)
  |true =>
    refine qC ?_;simp only[if_true]at w;rw[aC]at w;have tK:=jZ.al al;refine hc σ H3 R3 ao _ tK.er (a6 w (λrz mU w z H4 R4 p4 hz=>?_) λ_ _ z=>gb.trans tK z);rw[aC]at w;have T4:gP R3 H1 H3 σ y ry:=hy.go p1.er p2 al.go;obtain⟨e',T5,w⟩:=mR p4.er (T4.go p1.er ζq p4.go) w;rw[aC]at w;obtain⟨u,pu,w⟩:=mR p4.er hz w;obtain⟨rv,hg',w⟩:=jW w;exact ho' R4 H4 y z e' u rv Q p4.er.sub T5 pu hg' λv H' R' al' T6=>w v H' R' ((tK.trans p4).al al') (T6.rv ((tK.trans p4).back er))
 .exact False.elim w
theorem xw{op op':CmpOp}{o o':D->D->Option RV}(h:δj)(h':ζg)(ho:dI r o)(ho':dI r' o')(ha:γs)(hb:εG)(hc:VE X EE ios c k)
 (hm:lastMarks [op,op'] [b,c]=false:=by with_unfolding_all rfl):VE X EE ios (.Compare a [op,op'] [b,c] pos) (jO o o' f g k):=
 let ⟨_,h1,h2⟩:=ha;let ⟨_,h3,h4⟩:=hb;let ⟨_,h5,h6⟩:=hc; ⟨_,Rm h h' h1 h3 h5 hm,Ky ho ho' h2 h4 h6⟩
theorem xx{op op':CmpOp}{o o':D->D->Option RV}(h:δj)(h':ζg)(ho:dI r o)(ho':dI r' o')(ha:γs)(hb:εG)(hc:VE X EE ios c k)
 (hm:lastMarks [op,op'] [b,c]=false:=by with_unfolding_all rfl):VT X EE ios (.Compare a [op,op'] [b,c] pos) (M.bind (jO o o' f g k) aM):=
 let ⟨_,h1,h2⟩:=ha;let ⟨_,h3,h4⟩:=hb;let ⟨_,h5,h6⟩:=hc; ⟨_,Rn h h' h1 h3 h5 hm,DV (Ky ho ho' h2 h4 h6)⟩
variable{p q:δN}
noncomputable def ft(p:δN):M Bool:=M.bind p λb=>M.pure (!b)
noncomputable def andM(p q:δN):M Bool:=M.bind p λb=>if b then q else M.pure false
noncomputable def orM(p q:δN):M Bool:=M.bind p λb=>if b then M.pure true else q
theorem T7{t:TT}(h:jX EE ios t p):jX EE ios (IP t) (ft p):=by intro σ H R Γ Q er w;unfold ft at w;rw[aC]at w;exact h σ H R Γ _ er (a6 w (λb ai w H1 R1 p1=>w H1 R1 p1) λ_ _ z=>z)
theorem T8{t u:TT}(h:jX EE ios t p)(h':jX EE ios u q):jX EE ios (IL t u) (andM p q):=by
 intro σ H R Γ Q er w;unfold andM at w;rw[aC]at w;refine h σ H R Γ _ er (a6 w (λb ai w H1 R1 p1=>?_) λ_ _ z=>z);cases b with
 |false=>exact qB (w H1 R1 p1)
 |true=>exact qC (h' σ H1 R1 ai _ p1.er (a6 w (λb ao w H2 R2 p2=>w H2 R2 εf) λ_ _ z=>gb.trans p1 z))
theorem T9{t u:TT}(h:jX EE ios t p)(h':jX EE ios u q):jX EE ios (IM t u) (orM p q):=by
 intro σ H R Γ Q er w;unfold orM at w;rw[aC]at w;refine h σ H R Γ _ er (a6 w (λb ai w H1 R1 p1=>?_) λ_ _ z=>z);cases b with
 |true=>exact qC (w H1 R1 p1)
 |false=>exact qB (h' σ H1 R1 ai _ p1.er (a6 w (λb ao w H2 R2 p2=>w H2 R2 εf) λ_ _ z=>gb.trans p1 z))
theorem iI(h:ηh):VT X EE ios ζM (ft p):=let ⟨_,h1,h2⟩:=h; ⟨_,QC h1,T7 h2⟩
theorem tL(h:ηh):VW X EE ios (.BoolOp .And [a] pos) p:=let ⟨_,h1,h2⟩:=h; ⟨_,Qy h1,h2⟩
theorem rN(h:ηh):VW X EE ios (.BoolOp .Or [a] pos) p:=let ⟨_,h1,h2⟩:=h; ⟨_,Qz h1,h2⟩
theorem rO{rest:zza}(h:ηh)(h':VW X EE ios (.BoolOp .And (b::rest) pos) q):VW X EE ios (.BoolOp .And (a::b::rest) pos) (andM p q):=let ⟨_,h1,h2⟩:=h;let ⟨_,h3,h4⟩:=h'; ⟨_,QA h1 h3,T8 h2 h4⟩
theorem p9{rest:zza}(h:ηh)(h':VW X EE ios (.BoolOp .Or (b::rest) pos) q):VW X EE ios (.BoolOp .Or (a::b::rest) pos) (orM p q):=let ⟨_,h1,h2⟩:=h;let ⟨_,h3,h4⟩:=h'; ⟨_,QB h1 h3,T9 h2 h4⟩
theorem lL(h:VW X EE ios a p):VT X EE ios a p:=let ⟨_,h1,h2⟩:=h; ⟨_,PW.pt h1,h2⟩
noncomputable def xy(p:δN):M RV:=M.bind p λb=>M.pure θF
noncomputable def j4(f g:M RV):M RV:=M.bind ζa λb=>if b then g else M.pure γe
noncomputable def xA(f g:M RV):M RV:=M.bind ζa λb=>if b then M.pure γa else g
theorem AZ{R0 H0 R H R' H':Hp}{σ:St}{fw Γ Γ':En}{x:V}{rv:RV}(er:ER ios R0 H0 σ fw)(p1:bf ios R0 H0 σ fw R H Γ)(h:gP R' H H' σ x rv):gP R' H0 H' σ x rv:=by
 cases rv with
 |val d=>exact h
 |new d=>obtain⟨h1,a,h2,h3⟩:=h;exact⟨h1,a,h2,p1.back er _ h3⟩
 |var i=>exact h
theorem qG{op:BoolOp}(h:γs):VE X EE ios (.BoolOp op [a] pos) f:=let ⟨_,h1,h2⟩:=h; ⟨_,QG h1,h2⟩
theorem mh{rest:zza}(h:γs)(h':VE X EE ios (.BoolOp .And (b::rest) pos) g):VE X EE ios (.BoolOp .And (a::b::rest) pos) (j4 f g):=by
 obtain⟨_,h1,h2⟩:=h;obtain⟨_,h3,h4⟩:=h';refine⟨_,QH h1 h3,λσ H R Γ Q er w=>?_⟩;unfold j4 at w;rw[aC]at w;refine h2 σ H R Γ _ er (a6 (by rw[aC]at w;exact w) (λrv ai w x H1 R1 p1 hx=>?_) λ_ _ z=>z);unfold aM at w;split at w
 .rename_i q;cases hx;refine⟨_,rfl,?_⟩;cases q with
  |false=>exact qB (w ζy H1 R1 p1 ζy)
  |true=>exact qC (h4 σ H1 R1 ai _ p1.er (a6 w (λrv ao w y H2 R2 p2 hy=>w y H2 R2 εf (AZ (Γ':=ao) er p1 hy)) λ_ _ z=>gb.trans p1 z))
 .exact False.elim w
theorem Kz{rest:zza}(h:γs)(h':VE X EE ios (.BoolOp .Or (b::rest) pos) g):VE X EE ios (.BoolOp .Or (a::b::rest) pos) (xA f g):=by
 obtain⟨_,h1,h2⟩:=h;obtain⟨_,h3,h4⟩:=h';refine⟨_,QI h1 h3,λσ H R Γ Q er w=>?_⟩;unfold xA at w;rw[aC]at w;refine h2 σ H R Γ _ er (a6 (by rw[aC]at w;exact w) (λrv ai w x H1 R1 p1 hx=>?_) λ_ _ z=>z);unfold aM at w;split at w
 .rename_i q;cases hx;refine⟨_,rfl,?_⟩;cases q with
  |true=>exact qC (w θJ H1 R1 p1 θJ)
  |false=>exact qB (h4 σ H1 R1 ai _ p1.er (a6 w (λrv ao w y H2 R2 p2 hy=>w y H2 R2 εf (AZ (Γ':=ao) er p1 hy)) λ_ _ z=>gb.trans p1 z))
 .exact False.elim w
theorem KA(h:γs):VE X EE ios ζM (xy (ft ζa)):=by
 obtain⟨_,h1,h2⟩:=h;refine⟨_,QJ h1,λσ H R Γ Q er w=>?_⟩;unfold xy ft at w;rw[aC,aC,aC]at w;refine h2 σ H R Γ _ er (a6 w (λrv ai w x H1 R1 p1 hx=>?_) λ_ _ z=>z);unfold aM at w;split at w
 .cases hx;exact⟨_,rfl,w _ H1 R1 p1 εN⟩
 .exact False.elim w
noncomputable def xB(p:δN)(f g:M RV):M RV:=M.bind p λb=>if b then f else g
theorem KD(hc:ηg)(h:γs)(h':εG):VE X EE ios (.IfExp c a b pos) (xB p f g):=by
 obtain⟨_,h0,h0'⟩:=hc;obtain⟨_,h1,h2⟩:=h;obtain⟨_,h3,h4⟩:=h';refine⟨_,QL h0 h1 h3,λσ H R Γ Q er w=>?_⟩;unfold xB at w;rw[aC]at w;refine h0' σ H R Γ _ er (a6 w (λb ai w H1 R1 p1=>?_) λ_ _ z=>z);cases b with
 |true=>exact qC (h2 σ H1 R1 ai _ p1.er (a6 w (λrv ao w y H2 R2 p2 hy=>w y H2 R2 εf (AZ (Γ':=ao) er p1 hy)) λ_ _ z=>gb.trans p1 z))
 |false=>exact qB (h4 σ H1 R1 ai _ p1.er (a6 w (λrv ao w y H2 R2 p2 hy=>w y H2 R2 εf (AZ (Γ':=ao) er p1 hy)) λ_ _ z=>gb.trans p1 z))
end
mutual
noncomputable def D.py:D->PyData
 |.ax=>.none
 |.bl b=>.bool b
 |.int i=>.int i
 |.str x=>.str x
 |.lst xs=>.list (D.iJ xs)
 |.tup xs=>.tuple (D.iJ xs)
 |.i4 _ _=>.dict []
 |.dW _=>.dict []
 |.ins _ _ _=>.dict []
 |.obj _ _ _=>.dict []
noncomputable def D.iJ:List D->List PyData
 |[]=>[]
 |x::r=>x.py::D.iJ r
end
theorem Rp.DW{H:Hp}:(∀{x d},Rp H x d->d.py.canLay0=true->bQ H x d.py)/\∀{xs ds},aH H xs ds->PyData.canLayAll0 (D.iJ ds)=true->cB H xs (D.iJ ds):=by
 refine Rp.ind (m:=λx d=>d.py.canLay0=true->bQ H x d.py) (λ_=>.ax) (λb _=>.bl b) (λi _=>.int i) (λx _=>.str x) (λe h p=>.lst e (h ?_)) (λe h p=>.tup e (h ?_)) ?_ ?_ ?_ ?_ ?_ (λ_=>.nil) (λa b p=>?_)
 iterate 2 simpa [D.py,PyData.canLay0]using p
 iterate 5 simp[D.py,PyData.canLay0]
 have p:=Bool.and_eq_true_iff.mp (show(PyData.canLay0 _&&PyData.canLayAll0 _)=true from by simpa only [D.iJ,PyData.canLayAll0]using p);exact .cons (a p.1) (b p.2)
theorem Rp.dat:Rp H x d->d.py.canLay0=true->bQ H x d.py:=Rp.DW.1
def eqB(d e:D):Bool:=PyData.eqv d.py e.py
def cV(d:D):Bool:=SeqAt.shaped d.py
theorem rQ(h:cV d=true):d.py.canLay0=true:=SeqAt.canLay_of_shaped h
def tM(d e:D):Option RV:=if cV d&&cV e then some (.val (.bl (eqB d e))) else none
def tN(d e:D):Option RV:=if cV d&&cV e then some (.val (.bl (!eqB d e))) else none
section
variable{K:zze}
theorem T_:dI DO tM:=by
 intro R H x y d e rv Q s px py hg q;unfold tM at hg;split at hg
 .rename_i c;rw[qay]at c;cases hg;exact⟨d.py,e.py,(px.hv s).dat (rQ c.1),(py.hv s).dat (rQ c.2),c.1,c.2,q _ H R γi εN⟩
 .cases hg
theorem Ua:dI DP tN:=by
 intro R H x y d e rv Q s px py hg q;unfold tN at hg;split at hg
 .rename_i c;rw[qay]at c;cases hg;exact⟨d.py,e.py,(px.hv s).dat (rQ c.1),(py.hv s).dat (rQ c.2),c.1,c.2,q _ H R γi εN⟩
 .cases hg
def eF:D->D->Option RV
 |.str x,.str y=>some (.val (.bl (decide (x=y))))
 |d,e=>tM d e
def iz:D->D->Option RV
 |.str x,.str y=>some (.val (.bl (!decide (x=y))))
 |d,e=>tN d e
def DX:R2:=λx y H Q=>DO x y H Q\/Jd x y H Q
def KG:R2:=λx y H Q=>DP x y H Q\/Je x y H Q
omit [KC] in
theorem kZ{X:Cx}(hr:γX):b_ X ζ2 DX:=(TJ hr).or op_eq
omit [KC] in
theorem rR{X:Cx}(hr:γX):b_ X ιk KG:=(TK hr).or Rg
omit [KC] in
theorem KH(x y:Str):decide (V.str x=V.str y)=decide (x=y):=by
 by_cases h:x=y
 .subst h;simp
 .simp[h]
theorem k5:dI DX eF:=by
 intro R H x y d e rv Q s px py hg q;unfold eF at hg;split at hg
 .cases hg;cases px.str;cases py.str;refine .inr ⟨rfl,?_⟩;rw[KH];exact q _ H R γi εN
 .exact .inl (T_ R H x y _ _ rv Q s px py hg q)
theorem rT:dI KG iz:=by
 intro R H x y d e rv Q s px py hg q;unfold iz at hg;split at hg
 .cases hg;cases px.str;cases py.str;refine .inr ⟨rfl,?_⟩;rw[KH];exact q _ H R γi εN
 .exact .inl (Ua R H x y _ _ rv Q s px py hg q)
noncomputable def rV(g:Int->Int->D)(d e:D):Option RV:=match d,e with
 |.int i,.int j=>some (.val ε7)
 |_,_=>none
noncomputable def xF(C:Int->Int->Bool)(g:Int->Int->D)(d e:D):Option RV:=match d,e with
 |.int i,.int j=>if C i j then some (.val ε7) else none
 |_,_=>none
theorem xG(h:∀R i j,Rp R ε7 (g' i j)):dI (lD g) (rV g'):=by
 intro R H x y d e rv Q s px py hg q;unfold rV at hg;split at hg
 .cases hg;exact⟨_,_,px.int,py.int,q _ H R γi (h R _ _)⟩
 .cases hg
theorem DY(hC:∀i j,C' i j=true->C i j)(h:∀R i j,Rp R ε7 (g' i j)):dI (rI C g) (xF C' g'):=by
 intro R H x y d e rv Q s px py hg q;unfold xF at hg;split at hg
 .split at hg
  .rename_i c;cases hg;exact⟨_,_,px.int,py.int,hC _ _ c,q _ H R γi (h R _ _)⟩
  .cases hg
 .cases hg
noncomputable def cd(p:Prop):Bool:=@decide p ζ8
omit [KC] in
theorem gf{p:Prop}(h:p):cd p=true:=by unfold cd;exact @decide_eq_true p ζ8 h
omit [KC] in
theorem mV{p:Prop}(h:cd p=true):p:=by unfold cd at h;exact @of_decide_eq_true p ζ8 h
abbrev jP:=rV λi j=>.bl (decide (i<j))
abbrev j6:=rV λi j=>.bl (decide (i<=j))
abbrev rW:=rV λi j=>.bl (decide (j<i))
abbrev KI:=rV λi j=>.bl (decide (j<=i))
abbrev tO:=rV λi j=>.int (i-j)
abbrev j7:=xF (λ_ j=>cd (0<j)) λi j=>.int (i % j)
abbrev A1:=xF (λ_ j=>cd (0<j/\j<1073741824)) λi j=>.int (i/j)
abbrev xH:=xF (λi j=>cd (0<=j/\j<=1000000/\i.natAbs<2 ^ 64)) λi j=>.int (i ^ j.toNat)
theorem p_:dI (lD λi j=>.bl (decide (i<j))) jP:=xG λ_ _ _=>.bl _
theorem k6:dI (lD λi j=>.bl (decide (i<=j))) j6:=xG λ_ _ _=>.bl _
theorem vd:dI (lD λi j=>.bl (decide (j<i))) rW:=xG λ_ _ _=>.bl _
theorem Ub:dI (lD λi j=>.bl (decide (j<=i))) KI:=xG λ_ _ _=>.bl _
theorem DZ:dI (lD λi j=>.int (i-j)) tO:=xG λ_ _ _=>.int _
theorem qa:dI (rI (λ_ j=>0<j) λi j=>.int (i % j)) j7:=DY (λ_ _ h=>mV h) λ_ _ _=>.int _
theorem KJ:dI (rI I8 λi j=>.int (i/j)) A1:=DY (λ_ _ h=>mV h) λ_ _ _=>.int _
theorem KL:dI (rI I9 λi j=>.int (i ^ j.toNat)) xH:=DY (λ_ _ h=>mV h) λ_ _ _=>.int _
theorem nJ(s:ηZ)(hp:H p=none)(h:δs):Al R H R (upd H p γo)/\i5 R H (upd H p γo) γJ (.new εl):=
 ⟨⟨s.trans (lJ hp),ah.refl _,lJ hp,λ_ _ _ z=>z⟩,⟨p,xs,ds,rfl,s.free hp,eC,rfl,h⟩,p,rfl,hp⟩
theorem A2(s:ηZ)(hp:H p=none)(h:δs):Al R H (upd R p γN) (upd H p γN)/\i5 (upd R p γN) H (upd H p γN) γJ (.val ηI):=by
 have hr:R p=none:=s.free hp;refine⟨⟨λb o e=>?_,lJ hr,lJ hp,λb o e r=>?_⟩,.tup eC (h.sm (lJ hr))⟩
 .by_cases hb:b=p
  .subst hb;rw[eC]at e ⊢;exact e
  .rw[bh hb]at e ⊢;exact s b o e
 .rw[bh (iG e hp)];exact r
noncomputable def eg(d e:D):Option RV:=match d,e with
 |.int i,.int j=>some (.val (.int (i+j)))
 |.lst xs,.lst ys=>if xs.length+ys.length<=sizeLine then some (.new (.lst (xs++ys))) else none
 |.str i,.str j=>if i.length+j.length<=sizeLine then some (.val (.str (i++j))) else none
 |_,_=>none
def KN:R2:=λx y H Q=>lD (λi j=>.int (i+j)) x y H Q\/(JT x y H Q\/(∃i j,x=.str i/\y=.str j/\i.length+j.length<=sizeLine/\Q (.str (i++j)) H))
theorem iK:b_ X θr KN:=sZ.or (tj.or Ro)
theorem iL:dI KN eg:=by
 intro R H x y d e rv Q s px py hg q;unfold eg at hg;split at hg
 .cases hg;exact .inl ⟨_,_,px.int,py.int,q _ H R γi δY⟩
 .split at hg
  .rename_i c;cases hg;obtain⟨a,xs,rfl,h1,h2⟩:=px.lst s;obtain⟨b,ys,rfl,h3,h4⟩:=py.lst s;refine .inr (.inl ⟨a,b,xs,ys,rfl,rfl,h1,h3,by rw[h2.len,h4.len];exact c,λp hp=>?_⟩);obtain⟨al,rv⟩:=nJ s hp (h2.app h4);exact q _ _ _ al rv
  .cases hg
 .split at hg
  .rename_i c;cases hg;exact .inr (.inr ⟨_,_,px.str,py.str,c,q _ H R γi ιq⟩)
  .cases hg
 .cases hg
def tP(i j:Int):Bool:=cd (mK i j)
def vf(d e:D):Option RV:=match d,e with
 |.int i,.int j=>if tP i j then some (.val (.int (i*j))) else none
 |_,_=>none
theorem Uc(h:tP i j=true):mK i j:=mV h
theorem D0:dI (rI mK λi j=>.int (i*j)) vf:=by
 intro R H x y d e rv Q s px py hg q;unfold vf at hg;split at hg
 .split at hg
  .rename_i c;cases hg;exact⟨_,_,px.int,py.int,Uc c,q _ H R γi δY⟩
  .cases hg
 .cases hg
noncomputable def isNone:D->Bool
 |.ax=>true
 |_=>false
theorem Pk.isNone(h:Pk R H x d):decide (x=.ax)=isNone d:=by
 rcases h with h|⟨a,xs,ds,rfl,_,rfl,_⟩
 .cases h<;>first|rfl|exact qau (λz=>nomatch z)
 .exact qau (λz=>nomatch z)
def vg(d e:D):Option RV:=match e with
 |.ax=>some (.val (.bl (isNone d)))
 |_=>none
theorem Pk.D1(h:Pk R H x .ax):x=.ax:=by
 rcases h with h|⟨a,xs,ds,rfl,_,h2,_⟩
 .cases h;rfl
 .cases h2
theorem D2:dI (λx y H Q=>y=.ax/\Q (.bl (decide (x=.ax))) H) vg:=by
 intro R H x y d e rv Q s px py hg q;unfold vg at hg;split at hg
 .cases hg;refine⟨py.D1,?_⟩;rw[px.isNone];exact q _ H R γi εN
 .cases hg
noncomputable def rX:D->Bool
 |.ax=>true
 |.bl _=>true
 |.int _=>true
 |.str _=>true
 |_=>false
noncomputable def tQ:D->D->Bool
 |.ax,.ax=>true
 |.bl a,.bl b=>a == b
 |.bl a,.int b=>(if a then 1 else 0) == b
 |.int a,.bl b=>a == (if b then 1 else 0)
 |.int a,.int b=>a == b
 |.str a,.str b=>a == b
 |_,_=>false
theorem Rp.flat(h:Rp R x d):oj x=rX d:=by cases h<;>rfl
theorem Rp.Ud(h:Rp R x d)(h':Rp R y e):pV x y=tQ d e:=by cases h<;>cases h'<;>rfl
theorem aH.flats(h:δs):xs.all oj=ds.all rX:=h.ind (n:=λxs ds=>xs.all oj=ds.all rX) rfl (λa _ h=>by rw[qbO,qbO,a.flat,h])
theorem aH.inf(h:Rp R x d)(k:δs):inV x xs=ds.any (λe=>tQ e d):=k.ind (n:=λxs ds=>inV x xs=ds.any (λe=>tQ e d)) rfl (λa _ k=>by show(pV _ x || inV x _)=_;rw[List.any_cons,a.Ud h,k])
noncomputable def KO:D->Option γd
 |.lst xs=>some xs
 |.tup xs=>some xs
 |_=>none
def xI(neg:Bool)(d e:D):Option RV:=match KO e with
 |some xs=>if rX d&&xs.all rX then some (.val (.bl (if neg then !xs.any (λe=>tQ e d) else xs.any (λe=>tQ e d)))) else none
 |none=>none
theorem Pk.seq(s:ηZ)(h:Pk R H x d)(e:KO d=some ds):∃p xs,x=.ref p/\(b8 K H p xs\/iw K H p xs)/\aH R xs ds:=by
 cases d<;>first| (cases e;done)|skip
 .cases e;obtain⟨a,xs,rfl,h1,h2⟩:=h.lst s;exact⟨a,xs,rfl,.inl (b8.of h1),h2⟩
 .cases e;obtain⟨a,xs,rfl,h1,h2⟩:=h.tup;exact⟨a,xs,rfl,.inr (iw.of θA),h2⟩
theorem KP:dI (Df K neg) (xI neg):=by
 intro R H x y d e rv Q s px py hg q;unfold xI at hg;split at hg
 .rename_i ds hs;split at hg
  .rename_i c;rw[qay]at c;cases hg;obtain⟨p,xs,rfl,h1,h2⟩:=py.seq (K:=K) s hs;have KQ:=px.hv s;have h2':=h2.sm s;refine⟨p,xs,rfl,h1,by rw[KQ.flat];exact c.1,by rw[h2'.flats];exact c.2,?_⟩;rw[aH.inf KQ h2'];exact q _ H R γi εN
  .cases hg
 .cases hg
end
section
variable{X:Cx}{EE:bw}{ios:zzd}{e a b c:Expr}{es:zza}{f g k:M RV}{fs:γn}{pos:Pos}{ta tb tc t:TE}{r r':R2}
noncomputable def nK(f:M RV):M RV:=M.bind f λrv=>match rv with
 |.var i=>M.pure ιp
 |rv=>M.bind εF λd=>M.pure εI
noncomputable def ZY(f:M RV)(g:γn):M θt:=M.bind (nK f) λx=>M.bind g λxs=>M.pure (x::xs)
theorem A3(h:θd){σ:St}{H R:Hp}{Γ:En}{Q:VK}(er:γw)
 (w:cz (nK f Γ) (λrv Γ'=>∀x H' R',bf ios R H σ Γ R' H' Γ'->tJ R' σ x rv->Q x H') γU):t σ H Q:=by
 unfold nK at w;rw[aC]at w;refine h σ H R Γ _ er (a6 w (λrv ai w x H1 R1 p1 hx=>?_) λ_ _ z=>z);cases rv with
 |var i=>exact w x H1 R1 p1 hx
 |val d =>
   rw[aC]at w;obtain⟨d,ao,R2,e2,_,r2,w⟩:=mS er p1 hx w;exact w x H1 R2 e2 r2
 |new d =>
   rw[aC]at w;obtain⟨d,ao,R2,e2,_,r2,w⟩:=mS er p1 hx w;exact w x H1 R2 e2 r2
theorem aq:VA X EE ios [] (M.pure []):=⟨_,oh,λσ H R Γ Q er w=>w [] H R ζH .nil⟩
theorem Ue(h:θd)(h':xt EE ios u fs):xt EE ios (l_ t u) (ZY f fs):=by intro σ H R Γ Q er w;unfold ZY at w;rw[aC]at w;refine A3 h er (a6 w (λrv ai w x H1 R1 p1 hx=>?_) λ_ _ z=>z);rw[aC]at w;refine h' σ H1 R1 ai _ p1.er (a6 w (λrvs ao w xs H2 R2 p2 hxs=>?_) λ_ _ z=>gb.trans p1 z);exact w (x::xs) H2 R2 εf (.cons (hx.sm p2.go.rr) hxs)
theorem ZS(ha:γR)(hr:δk)(hs:starEach (e::es) X.env=(false,eval e X.env)::starEach es X.env:=by rfl):VA X EE ios (e::es) (ZY f fs):=
 let ⟨_,h1,h2⟩:=ha;let ⟨_,h3,h4⟩:=hr; ⟨_,jU h1 h3 hs,Ue h2 h4⟩
noncomputable def eQ:List RV->M γd
 |[]=>M.pure []
 |rv::r=>M.bind εF λd=>M.bind (eQ r) λds=>M.pure (d::ds)
noncomputable def fz:List RV->M γd
 |[]=>M.pure []
 |rv::r=>M.bind (peek rv) λd=>M.bind (fz r) λds=>M.pure (d::ds)
inductive Pks(R H:Hp):List V->List D->Prop where
 |nil:Pks R H [] []
 |cons {x:V}{d:D}{xs:γB}{ds:γd}:Pk R H x d->Pks R H xs ds->Pks R H (x::xs) (d::ds)
theorem xJ(er:γw)(h:gc R σ xs rvs)(w:cz (fz rvs Γ) K E):∃ds,Pks R H xs ds/\K ds Γ:=by
 induction h generalizing K with
 |nil=>exact⟨[],.nil,w⟩
 |cons a b ih =>
   unfold fz at w;rw[aC]at w;obtain⟨d,pd,w⟩:=mR (H:=H) er a.rv w;rw[aC]at w;obtain⟨ds,pds,w⟩:=ih w;exact⟨d::ds,.cons pd pds,w⟩
theorem nL(er:ER ios R0 H0 σ fw):∀{xs:γB}{rvs:θt}{R:Hp}{Γ:En}{K:List D->En->Prop}{E:Xc->En->Prop},bf ios R0 H0 σ fw R H Γ->gc R σ xs rvs->cz (eQ rvs Γ) K E ->
 ∃ds Γ' R',bf ios R0 H0 σ fw R' H Γ'/\ah R R'/\aH R' xs ds/\K ds Γ'
 |_,_,R,Γ,K,E,p,.nil,w=>⟨[],Γ,R,p,ah.refl _,.nil,w⟩
 |_,_,R,Γ,K,E,p,.cons a b,w=>by unfold eQ at w;rw[aC]at w;obtain⟨d,ai,R1,p1,s1,r1,w⟩:=mS er p a.rv w;rw[aC]at w;obtain⟨ds,ao,R2,p2,s2,r2,w⟩:=nL er p1 (b.sm s1) w;exact⟨d::ds,ao,R2,p2,s1.trans s2,.cons (r1.sm s2) r2,w⟩
noncomputable def bc(fs:γn):M RV:=M.bind fs λrvs=>M.bind δh λds=>if ds.length<=sizeLine then M.pure (.new εl) else M.st
noncomputable def dC(fs:γn):M RV:=M.bind fs λrvs=>M.bind δh λds=>if ds.length<=sizeLine then M.pure (.val ηI) else M.st
theorem gW(h:δk):VE X EE ios (.List es pos) (bc fs):=by
 obtain⟨t,h1,h2⟩:=h;refine⟨_,RJ h1,λσ H R Γ Q er w=>?_⟩;unfold bc at w;rw[aC]at w;refine h2 σ H R Γ _ er (a6 w (λrvs ai w xs H1 R1 p1 hx=>?_) λ_ _ z=>z);rw[aC]at w;obtain⟨ds,ao,R2,p2,s2,r2,w⟩:=nL er p1 hx w;split at w
 .rename_i c;refine⟨by rw[r2.len];exact c,λp hp=>?_⟩;obtain⟨al,rv⟩:=nJ p2.er.sub hp r2;exact w _ _ _ ζq (rv.rv ηn)
 .exact False.elim w
theorem gz(h:δk):VE X EE ios (.Tuple es k1 pos) (dC fs):=by
 obtain⟨t,h1,h2⟩:=h;refine⟨_,Jp h1,λσ H R Γ Q er w=>?_⟩;unfold dC at w;rw[aC]at w;refine h2 σ H R Γ _ er (a6 w (λrvs ai w xs H1 R1 p1 hx=>?_) λ_ _ z=>z);rw[aC]at w;obtain⟨ds,ao,R2,p2,s2,r2,w⟩:=nL er p1 hx w;split at w
 .rename_i c;refine⟨by rw[r2.len];exact c,λp hp=>?_⟩;obtain⟨al,rv⟩:=A2 p2.er.sub hp r2;exact w _ _ _ ζq (rv.rv ηn)
 .exact False.elim w
def mW(r:List V->Hp->VK->Prop)(g:List D->Option RV):Prop:=∀R H xs ds rv (Q:VK),ah R H->Pks R H xs ds->g ds=some rv->(∀z H' R',Al R H R' H'->i5 R' H H' z rv->Q z H')->r xs H Q
noncomputable def cN(g:List D->Option RV)(fs:γn):M RV:=M.bind fs λrvs=>M.bind θD λds=>M.dH (g ds)
theorem vh{r:List V->Hp->VK->Prop}{g:List D->Option RV}{e0:Expr}(hp:∀t,PA X es t->PE X e0 (rC r t))(hv:mW r g)(ha:δk):VE X EE ios e0 (cN g fs):=by obtain⟨t,h1,h2⟩:=ha;refine⟨_,hp t h1,λσ H R Γ Q er w=>?_⟩;unfold cN at w;rw[aC]at w;refine h2 σ H R Γ _ er (a6 w (λrvs ai w xs H1 R1 p1 hx=>?_) λ_ _ z=>z);rw[aC]at w;obtain⟨ds,pd,w⟩:=xJ p1.er hx w;obtain⟨rv,hg,w⟩:=jW w;exact hv R1 H1 xs ds rv Q p1.er.sub pd hg λz H' R' al ra=>w z H' R' (p1.al al) θL
theorem Pks.one(h:Pks R H xs [d]):∃x,xs=[x]/\Pk R H x d:=by cases h with|cons a b=>cases b;exact⟨_,rfl,a⟩
theorem Pks.two{R H:Hp}{xs:γB}{d e:D}(h:Pks R H xs [d,e]):∃x y,xs=[x,y]/\Pk R H x d/\Pk R H y e:=by cases h with|cons a b=>obtain⟨y,rfl,q⟩:=b.one;exact⟨_,_,rfl,a,q⟩
noncomputable def jv:List D->Option RV
 |[.lst xs]=>some δR
 |[.tup xs]=>some δR
 |[.dW xs]=>some δR
 |[.str z]=>if z.length<=sizeLine then some (.val (.int z.length)) else none
 |_=>none
def KR(K:zze):List V->Hp->VK->Prop:=λxs H Q=>(∃p ys,xs=[.ref p]/\(b8 K H p ys\/iw K H p ys)/\Q (.int ys.length) H)\/(∃z,xs=[.str z]/\z.length<=sizeLine/\Q (.int z.length) H)
theorem mi:aN X (.builtin "len") (KR X.K):=js.or Sj
theorem mj:mW (KR KC.K) jv:=by
 intro R H xs ds rv Q s px hg q;unfold jv at hg;split at hg
 .cases hg;obtain⟨x,rfl,p⟩:=px.one;obtain⟨a,ys,rfl,h1,h2⟩:=p.lst s;refine .inl ⟨a,ys,rfl,.inl (b8.of h1),?_⟩;rw[h2.len];exact q _ H R γi δY
 .cases hg;obtain⟨x,rfl,p⟩:=px.one;obtain⟨a,ys,rfl,h1,h2⟩:=p.tup;refine .inl ⟨a,ys,rfl,.inr (iw.of θA),?_⟩;rw[h2.len];exact q _ H R γi δY
 .cases hg;obtain⟨x,rfl,p⟩:=px.one;rcases p with p|⟨_,_,_,_,_,z,_⟩
  .cases p with
   |dW h1 =>
     refine .inl ⟨_,_,rfl,.inl (s.seq h1),?_⟩;rw[qaf];exact q _ H R γi δY
  .cases z
 .split at hg
  .rename_i c;cases hg;obtain⟨x,rfl,p⟩:=px.one;cases p.str;exact .inr ⟨_,rfl,c,q _ H R γi δY⟩
  .cases hg
 .cases hg
noncomputable def A4:List D->Option RV
 |[.int i]=>some (.val (.int (if i<0 then -i else i)))
 |_=>none
theorem Ug:mW (λxs H Q=>∃i,xs=[.int i]/\Q (.int (if i<0 then -i else i)) H) A4:=by
 intro R H xs ds rv Q s px hg q;unfold A4 at hg;split at hg
 .cases hg;obtain⟨x,rfl,p⟩:=px.one;exact⟨_,by rw[p.int],q _ H R γi δY⟩
 .cases hg
noncomputable def rY:List D->Option RV
 |[.int i,.int j]=>some (.val (.int (if j>i then j else i)))
 |_=>none
noncomputable def rZ:List D->Option RV
 |[.int i,.int j]=>some (.val (.int (if j<i then j else i)))
 |_=>none
theorem D3:mW (λxs H Q=>∃i j,xs=[.int i,.int j]/\Q (.int (if j>i then j else i)) H) rY:=by
 intro R H xs ds rv Q s px hg q;unfold rY at hg;split at hg
 .cases hg;obtain⟨x,y,rfl,p,p'⟩:=px.two;exact⟨_,_,by rw[p.int,p'.int],q _ H R γi δY⟩
 .cases hg
theorem D4:mW (λxs H Q=>∃i j,xs=[.int i,.int j]/\Q (.int (if j<i then j else i)) H) rZ:=by
 intro R H xs ds rv Q s px hg q;unfold rZ at hg;split at hg
 .cases hg;obtain⟨x,y,rfl,p,p'⟩:=px.two;exact⟨_,_,by rw[p.int,p'.int],q _ H R γi δY⟩
 .cases hg
noncomputable def xK:List D->Option RV
 |[.int i]=>some (.val γT)
 |[.bl k]=>some (.val (.int (if k then 1 else 0)))
 |_=>none
theorem KS:mW (λxs H Q=>(∃i,xs=[.int i]/\Q γT H)\/∃k,xs=[.bl k]/\Q (.int (if k then 1 else 0)) H) xK:=by
 intro R H xs ds rv Q s px hg q;unfold xK at hg;split at hg
 .cases hg;obtain⟨x,rfl,p⟩:=px.one;exact .inl ⟨_,by rw[p.int],q _ H R γi δY⟩
 .cases hg;obtain⟨x,rfl,p⟩:=px.one;exact .inr ⟨_,by rw[p.bl],q _ H R γi δY⟩
 .cases hg
noncomputable def tR:List D->Option RV
 |[.lst xs]=>some (.new γo)
 |[.tup xs]=>some (.new γo)
 |_=>none
theorem D5:mW (λxs H Q=>∃p ys,xs=[.ref p]/\(b8 K H p ys\/iw K H p ys)/\∀l,H l=none->Q ιr (upd H l γ3)) tR:=by
 intro R H xs ds rv Q s px hg q;unfold tR at hg;split at hg
 .cases hg;obtain⟨x,rfl,p⟩:=px.one;obtain⟨a,ys,rfl,h1,h2⟩:=p.lst s;refine⟨a,ys,rfl,.inl (b8.of h1),λl hl=>?_⟩;obtain⟨al,rv⟩:=nJ s hl h2;exact q _ _ _ al rv
 .cases hg;obtain⟨x,rfl,p⟩:=px.one;obtain⟨a,ys,rfl,h1,h2⟩:=p.tup;refine⟨a,ys,rfl,.inr (iw.of θA),λl hl=>?_⟩;obtain⟨al,rv⟩:=nJ s hl h2;exact q _ _ _ al rv
 .cases hg
noncomputable def mY:List D->Option ζL
 |[]=>some []
 |.bl b::r=>(mY r).map (b :: ·)
 |_=>none
omit [KC] in
theorem D6:∀{ds:γd}{bs:ζL},mY ds=some bs->ds=bs.map D.bl
 |[],bs,h=>by cases h;rfl
 |d::r,bs,h=>by
   cases d<;>first| (cases h;done)|skip
   rename_i b;have h:(mY r).map (b :: ·)=some bs:=h;cases q:mY r with
   |none=>rw[q]at h;cases h
   |some l=>rw[q]at h;cases h;rw[List.map_cons,<-D6 q]
omit [KC] in
theorem D7(bs:ζL):mY (bs.map D.bl)=some bs:=by
 induction bs with
 |nil=>rfl
 |cons b r ih=>show(mY (r.map D.bl)).map (b :: ·)=_;rw[ih];rfl
def vi:List D->Option RV
 |[.lst ds]=>(mY ds).map λbs=>.val ζz
 |_=>none
def A5:List D->Option RV
 |[.lst ds]=>(mY ds).map λbs=>.val ηO
 |_=>none
theorem KU:mW (λxs H Q=>∃(p:Addr) (bs:ζL),xs=[.ref p]/\H p=some ζV/\Q ζz H) vi:=by
 intro R H xs ds rv Q s px hg q;unfold vi at hg;split at hg
 .rename_i l;cases h:mY l with
  |none=>rw[h]at hg;cases hg
  |some bs =>
    rw[h]at hg;cases hg;obtain⟨x,rfl,p⟩:=px.one;obtain⟨a,ys,rfl,h1,h2⟩:=p.lst s;rw[D6 h]at h2;rw[h2.mf]at h1;exact⟨a,bs,rfl,h1,q _ H R γi εN⟩
 .cases hg
theorem Uh:mW (λxs H Q=>∃(p:Addr) (bs:ζL),xs=[.ref p]/\H p=some ζV/\Q ηO H) A5:=by
 intro R H xs ds rv Q s px hg q;unfold A5 at hg;split at hg
 .rename_i l;cases h:mY l with
  |none=>rw[h]at hg;cases hg
  |some bs =>
    rw[h]at hg;cases hg;obtain⟨x,rfl,p⟩:=px.one;obtain⟨a,ys,rfl,h1,h2⟩:=p.lst s;rw[D6 h]at h2;rw[h2.mf]at h1;exact⟨a,bs,rfl,h1,q _ H R γi εN⟩
 .cases hg
noncomputable def iA:List D->Option (u8)
 |[]=>some []
 |.int b::r=>(iA r).map (b :: ·)
 |_=>none
omit [KC] in
theorem nN:∀{ds:γd}{bs:u8},iA ds=some bs->ds=bs.map D.int
 |[],bs,h=>by cases h;rfl
 |d::r,bs,h=>by
   cases d<;>first| (cases h;done)|skip
   rename_i b;have h:(iA r).map (b :: ·)=some bs:=h;cases q:iA r with
   |none=>rw[q]at h;cases h
   |some l=>rw[q]at h;cases h;rw[List.map_cons,<-nN q]
omit [KC] in
theorem vj(bs:u8):iA (bs.map D.int)=some bs:=by
 induction bs with
 |nil=>rfl
 |cons b r ih=>show(iA (r.map D.int)).map (b :: ·)=_;rw[ih];rfl
noncomputable def fA(ns:u8):u8:=ns.mergeSort (λa b=>decide (a<=b))
omit [KC] in
theorem bA(ns:u8):(fA ns).Perm ns:=List.mergeSort_perm ..
omit [KC] in
theorem D8(ns:u8):(fA ns).Pairwise (· <= ·):=by
 have h:=List.pairwise_mergeSort (le:=λa b:Int=>decide (a<=b)) (λa b c h1 h2=>qan ιt) (λa b=>by
  rcases Int.le_total a b with h|h
  .rw[qan h];rfl
  .rw[qan h,Bool.or_true]) ns
 exact h.imp λh=>qaI h
omit [KC] in
theorem KW:∀{xs ys:u8},xs.Perm ys->xs.Pairwise (· <= ·)->ys.Pairwise (· <= ·)->xs=ys:=λp h1 h2=>List.Perm.eq_of_pairwise (λ_ _ _ _ h h'=>Int.le_antisymm h h') h1 h2 p
def vk:List D->Option RV
 |[.lst ds]=>(iA ds).bind λns=>if ns.length<64 then some (.new (.lst ((fA ns).map D.int))) else none
 |_=>none
theorem D9:mW (λxs H Q=>∃(p:Addr) (ns:u8),xs=[.ref p]/\b8 K H p γD/\ns.length<64/\∀(l:Addr) (ns':u8),H l=none->ns'.Perm ns->ns'.Pairwise (· <= ·)->Q ιr (upd H l θf)) vk:=by
 intro R H xs ds rv Q s px hg q;unfold vk at hg;split at hg
 .rename_i l;cases h:iA l with
  |none=>rw[h]at hg;cases hg
  |some ns =>
    rw[h]at hg;have hg:(if ns.length<64 then some (RV.new (.lst ((fA ns).map D.int))) else none)=some rv:=hg;split at hg
    .rename_i c;cases hg;obtain⟨x,rfl,p⟩:=px.one;obtain⟨a,ys,rfl,h1,h2⟩:=p.lst s;rw[nN h]at h2;rw[h2.cU]at h1;refine⟨a,ns,rfl,b8.of h1,c,λl ns' hl pm pw=>?_⟩;have e:ns'=fA ns:=KW (pm.trans (bA ns).symm) pw (D8 ns);obtain⟨al,rv⟩:=nJ s hl (aH.ints (R:=R) (fA ns));rw[e];exact q _ _ _ al rv
    .cases hg
 .cases hg
end
section
variable{X:Cx}{EE:bw}{ios:zzd}{e a b c:Expr}{es:zza}{f g k:M RV}{fs:γn}{pos:Pos}{ta tb tc t:TE}{r r':R2}{K:zze}
def bx(d e:D):Option RV:=match d,e with
 |.lst xs,.int i=>(dn xs i).map .val
 |.tup xs,.int i=>(dn xs i).map .val
 |.dW ns,.int i=>(dn ns i).map λn=>.val θI
 |.str z,.int i=>if z.length<=sizeLine then (dn z.cps.toList i).map λc=>.val (.str ⟨#[c]⟩) else none
 |_,_=>none
theorem aH.dn(h:δs)(e:L2.dn ds i=some d):∃x,L2.dn xs i=some x/\Rp R x d:=by
 unfold L2.dn at e ⊢;rw[h.len];cases q:mL ds.length i with
 |none=>rw[q]at e;cases e
 |some j =>
   rw[q]at e;exact h.ta e
theorem Ui{α β:Type}(f:α->β)(xs:ζi)(i:Int):L2.dn (xs.map f) i=(L2.dn xs i).map f:=by
 unfold L2.dn;rw[qaf];cases mL xs.length i with
 |none=>rfl
 |some j=>simp
theorem Uj:dI (JI KC.K) bx:=by
 intro R H x y d e rv Q s px py hg q;unfold bx at hg;split at hg
 .rename_i ds i;cases h:L2.dn ds i with
  |none=>rw[h]at hg;cases hg
  |some d =>
    rw[h]at hg;cases hg;obtain⟨a,xs,rfl,h1,h2⟩:=px.lst s;obtain⟨v,hv,rv⟩:=h2.dn h;exact .inl ⟨a,xs,i,v,rfl,py.int,b8.of h1,hv,q _ H R γi rv⟩
 .rename_i ds i;cases h:L2.dn ds i with
  |none=>rw[h]at hg;cases hg
  |some d =>
    rw[h]at hg;cases hg;obtain⟨a,xs,rfl,h1,h2⟩:=px.tup;obtain⟨v,hv,rv⟩:=h2.dn h;exact .inr (.inl ⟨a,xs,i,v,rfl,py.int,iw.of θA,hv,q _ H R γi rv⟩)
 .rename_i ns i;cases h:L2.dn ns i with
  |none=>rw[h]at hg;cases hg
  |some n =>
    rw[h]at hg;cases hg;rcases px with px|⟨_,_,_,_,_,z,_⟩
    .cases px with
     |dW h1=>exact .inl ⟨_,_,i,.int n,rfl,py.int,s.seq h1,by rw[Ui,h];rfl,q _ H R γi θI⟩
    .cases z
 .rename_i z i;split at hg
  .rename_i c;cases h:L2.dn z.cps.toList i with
   |none=>rw[h]at hg;cases hg
   |some n =>
     rw[h]at hg;cases hg;exact .inr (.inr ⟨z,i,n,px.str,py.int,c,h,q _ H R γi ιq⟩)
  .cases hg
 .cases hg
theorem bG(ha:γs)(hb:εG)(hs:JE b:=by intro _ _;rfl)(hK:X.K=KC.K:=by rfl):VE X EE ios (.Subscript a b pos) (op2 bx f g):=
 let ⟨_,h1,h2⟩:=ha;let ⟨_,h3,h4⟩:=hb; ⟨_,Sb Sf h1 h3 hs,vc (by rw[hK];exact Uj) h2 h4⟩
def fq{α:Type}(xs:ζi)(lo hi:zzf):List α:=(xs.drop ζn).take (HT.bB xs.length xs.length hi-HT.bB xs.length 0 lo)
def jw(d:D)(lo hi:zzf):Option RV:=match d with
 |.lst xs=>some (.new (.lst (fq xs lo hi)))
 |.dW ns=>some (.new (.lst ((fq ns lo hi).map D.int)))
 |_=>none
def D_(EE:bw)(ios:zzd)(t:TO)(f:M (zzf)):Prop:=∀σ H R Γ Q,ER ios R H σ Γ ->
 cz (f Γ) (λo Γ'=>∀H' R',bf ios R H σ Γ R' H' Γ'->Q o H') γU->t σ H Q
def VO(X:Cx)(EE:bw)(ios:zzd)(e:Option Expr)(f:M (zzf)):Prop:=∃t,PO X e t/\D_ EE ios t f
theorem mZ:VO X EE ios none δb:=⟨_,Dc,λσ H R Γ Q er w=>w H R ζH⟩
noncomputable def jQ(rv:RV):M (zzf):=match rv with
 |.val (.int i)=>M.pure (some i)
 |_=>M.st
theorem lM(h:γR):VO X EE ios εQ (M.bind f jQ):=by
 obtain⟨t,h1,h2⟩:=h;refine⟨_,RX h1,λσ H R Γ Q er w=>?_⟩;rw[aC]at w;refine h2 σ H R Γ _ er (a6 w (λrv ai w x H1 R1 p1 hx=>?_) λ_ _ z=>z);unfold jQ at w;split at w
 .cases hx;exact⟨_,rfl,w H1 R1 p1⟩
 .exact False.elim w
noncomputable def i6(o:D->zzf->zzf->Option RV)(f:M RV)(lo hi:M (zzf)):M RV:=M.bind f λx=>M.bind lo λl=>M.bind hi λu=>M.bind εu λd=>M.dH (o d l u)
theorem aH.cut(h:δs)(lo hi:zzf):aH R ηS (fq ds lo hi):=by unfold qv fq;rw[h.len];exact(h.drop _).take _
theorem Uk{α β:Type}(f:α->β)(xs:ζi)(lo hi:zzf):(fq xs lo hi).map f=fq (xs.map f) lo hi:=by unfold fq;rw[qaf,List.map_take,List.map_drop]
def KY(o:D->zzf->zzf->Option RV)(r:V->zzf->zzf->Hp->VK->Prop):Prop:=∀(R H:Hp) (x:V) (d:D) (l u:zzf) (rv:RV) (Q:VK),ah R H->Pk R H x d->o d l u=some rv->(∀z H' R',Al R H R' H'->i5 R' H H' z rv->Q z H')->r x l u H Q
theorem Ea{o:D->zzf->zzf->Option RV}{r:V->zzf->zzf->Hp->VK->Prop}{t1:TE}{t2 t3:TO}{l u:M (zzf)}(k:KY o r)(h2:iy EE ios t1 f)(h4:D_ EE ios t2 l)(h6:D_ EE ios t3 u):iy EE ios (JB r t1 t2 t3) (i6 o f l u):=by intro σ H R Γ Q er w;unfold i6 at w;rw[aC]at w;refine h2 σ H R Γ _ er (a6 w (λrx ai w x H1 R1 p1 hx=>?_) λ_ _ z=>z);rw[aC]at w;refine h4 σ H1 R1 ai _ p1.er (a6 w (λl ao w H2 R2 p2=>?_) λ_ _ z=>gb.trans p1 z);rw[aC]at w;have jZ:=p1.trans p2;refine h6 σ H2 R2 ao _ p2.er (a6 w (λu oI w H3 R3 p3=>?_) λ_ _ z=>gb.trans jZ z);have tK:=jZ.trans p3;rw[aC]at w;obtain⟨d,pd,w⟩:=mR p3.er (hx.go er p1 (p2.trans p3).go) w;obtain⟨rv,hg,w⟩:=jW w;exact k R3 H3 x d l u rv Q p3.er.sub pd hg λz H' R' al ra=>w z H' R' (tK.al al) (ra.rv (tK.back er))
theorem KZ{K:zze}(hK:K=KC.K):KY jw (JJ K):=by
 intro R H x d l u rv Q s pd hg w;unfold jw at hg;split at hg
 .cases hg;obtain⟨a,xs,rfl,h1,h2⟩:=pd.lst s;exact⟨a,xs,rfl,b8.of h1,λp hp=>let ⟨al,rv⟩:=nJ s hp (h2.cut l u);w _ _ _ al rv⟩
 .cases hg;rcases pd with pd|⟨_,_,_,_,_,z,_⟩
  .cases pd with
   |dW h1 =>
     refine⟨_,_,rfl,by rw[hK];exact s.seq h1,λp hp=>?_⟩;rw[show qv=fq from rfl,<-Uk];obtain⟨al,rv⟩:=nJ s hp (aH.ints (R:=R) _);exact w _ _ _ al rv
  .cases z
 .cases hg
theorem oJ(ha:γs)(hl:VO X EE ios lo l)(hu:VO X EE ios hi u)(hK:X.K=KC.K:=by rfl):VE X EE ios (.Subscript a ζo pos) (i6 jw f l u):=by obtain⟨t1,h1,h2⟩:=ha;obtain⟨t2,h3,h4⟩:=hl;obtain⟨t3,h5,h6⟩:=hu;exact⟨_,JC md h1 h3 h5,Ea (KZ hK) h2 h4 h6⟩
noncomputable def gQ{α:Type}(xs:ζi)(lo hi:zzf)(st:Int):List α:=(sliceRange (sliceBounds lo hi εy xs.length).1 (sliceBounds lo hi εy xs.length).2.1 (sliceBounds lo hi εy xs.length).2.2).filterMap (xs[·]?)
noncomputable def xM(st:Int)(d:D)(lo hi:zzf):Option RV:=match d with
 |.lst xs=>if st≠0/\(gQ xs lo hi st).length<=sizeLine then some (.new (.lst (gQ xs lo hi st))) else none
 |_=>none
theorem aH.r6(h:δs)(lo hi:zzf)(st:Int):aH R (AY xs lo hi st) (gQ ds lo hi st):=by unfold AY gQ;rw[h.len];exact h.pick _
theorem K0(ha:γs)(hl:VO X EE ios lo l)(hu:VO X EE ios hi u)(hse:PE X se (tC (.int st))):VE X EE ios (.Subscript a θb pos) (i6 (xM st) f l u):=by
 obtain⟨t1,h1,h2⟩:=ha;obtain⟨t2,h3,h4⟩:=hl;obtain⟨t3,h5,h6⟩:=hu;refine⟨_,TX h1 h3 h5 hse,Ea (λR H x d l u rv Q s pd hg w=>?_) h2 h4 h6⟩;unfold xM at hg;split at hg
 .split at hg
  .rename_i c;cases hg;obtain⟨a,xs,rfl,h1,h2⟩:=pd.lst s;refine⟨a,xs,rfl,b8.of h1,c.1,by rw[(h2.r6 l u st).len];exact c.2,λp hp=>?_⟩;obtain⟨al,rv⟩:=nJ s hp (h2.r6 l u st);exact w _ _ _ al rv
  .cases hg
 .cases hg
noncomputable def op1(o:D->Option RV)(f:M RV):M RV:=M.bind f λx=>M.bind εu λd=>M.dH (o d)
noncomputable def r9:D->Option RV
 |.int i=>some (.val (.int (-i)))
 |_=>none
theorem A6(ha:γs):VE X EE ios (.UnaryOp .USub a pos) (op1 r9 f):=by
 obtain⟨t,h1,h2⟩:=ha;refine⟨_,IZ Jb h1,λσ H R Γ Q er w=>?_⟩;unfold op1 at w;rw[aC]at w;refine h2 σ H R Γ _ er (a6 w (λrx ai w x H1 R1 p1 hx=>?_) λ_ _ z=>z);rw[aC]at w;obtain⟨d,pd,w⟩:=mR p1.er hx w;obtain⟨rv,hg,w⟩:=jW w;unfold r9 at hg;split at hg
 .cases hg;exact⟨_,pd.int,w _ H1 R1 p1 δY⟩
 .cases hg
noncomputable def xN:D->String
 |.ax => "NoneType"
 |.bl _ => "bool"
 |.int _ => "int"
 |.str _ => "str"
 |.lst _ => "list"
 |.tup _ => "tuple"
 |.i4 _ _ => "dict"
 |.dW _ => "list"
 |.ins _ _ _ => "object"
 |.obj _ _ _ => "object"
noncomputable def plain:D->Bool
 |.dW _=>false
 |.ins _ _ _=>false
 |.obj _ _ _=>false
 |_=>true
theorem Rp.ty(h:Rp H x d)(ns:plain d=true):eE K H x (.type (xN d)):=by
 cases h with
 |ax=>exact .ax
 |bl b=>exact .bl b
 |int i=>exact .int i
 |str x=>exact .str x
 |lst e _=>exact .lst e
 |tup e _=>exact .tup e
 |oG e=>exact .dK e
 |dW e=>cases ns
 |oH e=>cases ns
 |exc e _ _=>cases ns
 |obj e _=>cases ns
inductive Ty where
 |int|bool|str|list|tuple|dict
noncomputable def Ty.nm:Ty->String
 |.int => "int"
 |.bool => "bool"
 |.str => "str"
 |.list => "list"
 |.tuple => "tuple"
 |.dict => "dict"
noncomputable def k7:Ty->D->Bool
 |.int,.bl _=>true
 |.bool,.bl _=>true
 |.int,.int _=>true
 |.str,.str _=>true
 |.list,.lst _=>true
 |.list,.dW _=>true
 |.tuple,.tup _=>true
 |.dict,.i4 _ _=>true
 |_,_=>false
theorem Ul(K:zze)(d:D)(hd:plain d=true)(T:Ty):W.kitOne K (.type (xN d)) (.type T.nm)=some (k7 T d):=by cases T<;>cases d<;>first|kernel_rfl|cases hd
def xO(T:Ty):D->Option RV
 |.dW _=>none
 |.ins _ _ _=>none
 |.obj _ _ _=>none
 |d=>some (.val (.bl (k7 T d)))
def qH(T:Ty)(f:M RV):M RV:=M.bind (nK f) λx=>M.bind εu λd=>M.dH (xO T d)
theorem Um{T:Ty}(hp:∀t,PE X a t->PE X e0 (rC (TY X.K) (l_ t (l_ (tC (.ty T.nm)) rB))))(ha:γs):VE X EE ios e0 (qH T f):=by
 obtain⟨t,h1,h2⟩:=ha;refine⟨_,hp t h1,λσ H R Γ Q er w=>?_⟩;unfold qH at w;rw[aC]at w;refine A3 h2 er (a6 w (λrx ai w x H1 R1 p1 hx=>?_) λ_ _ z=>z);rw[aC]at w;obtain⟨d,pd,w⟩:=mR (H:=H) p1.er hx.rv w;have hv:=pd.hv p1.er.sub;obtain⟨rv,hg,w⟩:=jW w;have ns:plain d=true:=by cases d<;>first|rfl|cases hg
 have hg:rv=.val (.bl (k7 T d)):=by cases d<;>first| (cases hg;done)|exact(qaQ hg).symm
 subst hg;exact⟨x,.ty T.nm,_,_,_,rfl,rfl,.inl (hv.ty ns),Ul X.K d ns T,w _ H1 R1 p1 εN⟩
theorem ER.mut{R H:Hp}{σ:St}{Γ:En}{i:Nat}{kd:Kd}{ds ds':γd}{x:V}(er:γw)(hi:Γ[i]?=some (some (kd,.lst ds)))(ho:owned kd=true)(hx:σ[i]?=some δt) :
 ∃p xs,x=.ref p/\H p=some γo/\aH R xs ds/\∀xs',aH R xs' ds'->bf ios R H σ Γ R (upd H p (.lst xs')) (Γ.set i (some (kd,.lst ds'))):=by
 obtain⟨v,hv,s⟩:=er.sl i _ hi;rw[hx]at hv;cases hv;have hlt:i<Γ.length:=(qad.mp hi).1
 obtain⟨⟨a,xs,A7,rfl,h1,h2,h3,h4⟩,hio⟩:OwR R H x εl/\∀n,kd=.io n->∃a,ios[n]?=some a/\x=.ref a:=by
  cases kd with
  |ae=>cases ho
  |own=>exact⟨s,λ_ z=>nomatch z⟩
  |io n=>exact⟨s.1,λm z=>by cases z;exact s.2⟩
 cases h3;have inj:∀j l z,Γ[j]?=some (some (l,z))->owned l=true->σ[j]?=some ιu->j=i:=λj l z q1 q2 q3=>(er.dj i j kd l _ z a hi ho q1 q2 hx q3).symm
 have K1:∀b,Ow σ (Γ.set i (some (kd,.lst ds'))) b->Ow σ Γ b:=by
  rintro b ⟨j,l,z,q1,q2,q3⟩;by_cases hj:j=i
  .subst hj;rw[qap hlt]at q1;cases q1;exact⟨j,kd,_,hi,ho,q3⟩
  .rw[qaj ζB]at q1;exact⟨j,l,z,q1,q2,q3⟩
 refine⟨a,xs,rfl,h2,h4,λxs' h5=>⟨⟨λb o e=>?_,by rw[qaU];exact er.len,λj t hj=>?_,λj j' l l' z z' b q1 q2 q3 q4 q5 q6=>?_⟩,⟨ah.refl _,λb o h n=>?_,λ_ _ _ _ z=>z,λb z=>.inl (K1 b z),λb o h=>?_⟩,K1⟩⟩
 .rw[bh]
  .exact er.sub b o e
  .rintro rfl;rw[h1]at e;cases e
 .by_cases hji:j=i
  .subst hji;rw[qap hlt]at hj;cases hj;refine⟨_,hx,?_⟩;have z:OwR R (upd H a (.lst xs')) γC (.lst ds'):=⟨a,xs',ds',rfl,h1,eC,rfl,h5⟩;cases kd with
   |ae=>cases ho
   |own=>exact z
   |io n=>exact⟨z,hio n rfl⟩
  .rw[qaj θl]at hj;obtain⟨v,hv,q⟩:=er.sl j t hj;refine⟨v,hv,q.mono ηY λho' b ys eb hb rb=>⟨?_,rb⟩⟩;rw[bh]
   .exact hb
   .rintro rfl;subst eb;exact hji (inj j t.1 t.2 hj ho' hv)
 .have g:∀{j:Nat}{l:Kd}{z:D},(Γ.set i (some (kd,.lst ds')))[j]?=some (some (l,z))->∃z',Γ[j]?=some (some (l,z')):=by
   intro j l z q;by_cases hji:j=i
   .subst hji;rw[qap hlt]at q;cases q;exact⟨_,hi⟩
   .rw[qaj θl]at q;exact⟨z,q⟩
  obtain⟨z1,g1⟩:=g q1
  obtain⟨z2,g2⟩:=g q3
  exact er.dj j j' l l' z1 z2 b g1 q2 g2 q4 q5 q6
 .rw[bh]
  .exact h
  .rintro rfl;exact n ⟨i,kd,_,hi,ho,hx⟩
 .by_cases hb:b=a
  .subst hb;exact⟨_,eC⟩
  .exact⟨o,by rw[bh hb];exact h⟩
def A8(r:V->List V->Hp->VK->Prop)(g:List D->List D->Option (List D×D)):Prop:=∀R H p xs ds ys es ds' res (Q:VK),ah R H->R p=none->H p=some γo->aH R xs ds->aH R ys es->g ds es=some (ds',res) ->
 (∀xs' z,aH R xs' ds'->Rp R z res->Q z (upd H p (.lst xs')))->r γJ ys H Q
def recv(i:Nat):M Unit:=λΓ=>match Γ[i]? with
 |some (some (kd,.lst _))=>if owned kd then .ok () Γ else .st
 |_=>.st
def xP(i:Nat)(g:List D->List D->Option (List D×D))(es:γd):M RV:=λΓ=>match Γ[i]? with
 |some (some (kd,.lst ds))=>if owned kd then match g ds es with
   |some (ds',res)=>.ok (.val res) (Γ.set i (some (kd,.lst ds')))
   |none=>.st else .st
 |_=>.st
def tS(i:Nat)(g:List D->List D->Option (List D×D))(fs:γn):M RV:=M.bind (recv i) λ_=>M.bind fs λrvs=>M.bind δh λes=>xP i g es
theorem Uo(h:H p=some γo):Di K "list" γJ H:=.inl ⟨rfl,_,b8.of h⟩
theorem Up(er:γw)(w:cz (recv i Γ) K' E):∃p xs,σ[i]?=some (some γJ)/\H p=some γo/\K' () Γ:=by
 unfold recv at w;split at w
 .rename_i kd ds q;split at w
  .rename_i ho;obtain⟨v,hv,s⟩:=er.sl i _ q;obtain⟨p,xs,rfl,h2,_⟩:=er.mut (ds':=ds) q ho hv;exact⟨p,xs,hv,h2,w⟩
  .exact False.elim w
 .exact False.elim w
theorem Uq{i:Nat}{r:V->List V->Hp->VK->Prop}{g:List D->List D->Option (List D×D)}(hv:A8 r g){R0 H0 R H:Hp}{σ:St}{fw Γ:En}{p:Addr}{ys:γB}{es:γd}{Q:VK}{E:Xc->En->Prop}(p1:bf ios R0 H0 σ fw R H Γ)
 (m5:σ[i]?=some (some γJ)) (hys:aH R ys es) (w:cz (xP i g es Γ) (λrv Γ'=>∀x H' R',bf ios R0 H0 σ fw R' H' Γ'->gP R' H0 H' σ x rv->Q x H') E):r γJ ys H Q:=by
 unfold xP at w;split at w
 .rename_i kd ds q;split at w
  .rename_i ho;split at w
   .rename_i ds' res hg;obtain⟨p',xs,e,h2,h3,k⟩:=p1.er.mut (ds':=ds') q ho m5;cases e;have hr:R p=none:=(p1.er.ow ⟨i,kd,_,q,ho,m5⟩).1;exact hv R H p xs ds ys es ds' res Q p1.er.sub hr h2 h3 hys hg λxs' z hxs hz=>w z _ R (p1.trans (k xs' hxs)) hz
   .exact False.elim w
  .exact False.elim w
 .exact False.elim w
theorem A9{i:Nat}{r:V->List V->Hp->VK->Prop}{g:List D->List D->Option (List D×D)}{e0:Expr}(hp:∀t,PA X es t->PE X e0 (JO X.K "list" r (uR i) t))(hv:A8 r g)(ha:δk):VE X EE ios e0 (tS i g fs):=by obtain⟨t,h1,h2⟩:=ha;refine⟨_,hp t h1,λσ H R Γ Q er w=>?_⟩;unfold tS at w;rw[aC]at w;obtain⟨p,xs0,m5,h0,w⟩:=Up er w;have ty:=Uo (K:=X.K) h0;refine⟨_,m5,ty,?_⟩;rw[aC]at w;refine h2 σ H R Γ _ er (a6 w (λrvs ai w xs H1 R1 p1 hx=>?_) λ_ _ z=>z);rw[aC]at w;obtain⟨ds,ao,R2,p2,s2,r2,w⟩:=nL er p1 hx w;exact Uq hv p2 m5 r2 w
noncomputable def vm(ds es:γd):Option (List D×D):=match es with
 |[d]=>if ds.length<sizeLine then some (ds++[d],.ax) else none
 |_=>none
theorem Eb:A8 JR vm:=by
 intro R H p xs ds ys es ds' res Q s hr hp hx hy hg q;unfold vm at hg;split at hg
 .split at hg
  .rename_i c;cases hg;cases hy with
   |cons h1 h2 =>
     cases h2;exact⟨p,xs,_,rfl,rfl,hp,by rw[hx.len];exact c,q _ _ (hx.app (.cons h1 .nil)) .ax⟩
  .cases hg
 .cases hg
end
inductive Fl where
 |nx|ret (rv:RV)|brk|cont
structure br(ios:zzd)(R H:Hp)(σ:St)(Γ:En)(R' H':Hp)(aB:St)(Γ':En):Prop where
 er:ER ios R' H' aB Γ'
 go:Go (Ow σ Γ) R H (Ow aB Γ') R' H'
section
variable{ios:zzd}{R H R1 H1 R2 H2:Hp}{σ cR fk:St}{Γ ai ao:En}
theorem br.refl(e:γw):br ios R H σ Γ R H σ Γ:=⟨e,Go.refl⟩
theorem br.trans(a:δn)(b:br ios R1 H1 cR ai R2 H2 fk ao):br ios R H σ Γ R2 H2 fk ao:=⟨b.er,a.go.trans b.go⟩
theorem bf.fW(a:γY):br ios R H σ Γ R1 H1 σ ai:=⟨a.er,a.go⟩
theorem br.back(h:δn):∀b,H1 b=none->H b=none:=λb hb=>by
 cases q:H b with
 |none=>rfl
 |some o=>obtain⟨o',z⟩:=h.go.th b o q;rw[hb]at z;cases z
theorem xQ(p1:∀b,H1 b=none->H b=none)(h:gP R' H1 H' aB x rv):gP R' H H' aB x rv:=by
 cases rv with
 |val d=>exact h
 |new d=>obtain⟨h1,a,h2,h3⟩:=h;exact⟨h1,a,h2,p1 _ h3⟩
 |var i=>exact h
end
def iM(EE:bw)(ios:zzd)(R H:Hp)(σ:St)(Γ:En):Xc->En->Prop:=λx Γ'=>∀e aB H' R',br ios R H σ Γ R' H' aB Γ'->pZ R' H H' e x->EE aB ηc εQ H'
theorem iM.exp(h:iM EE ios R H σ Γ x Γ'):gb EE ios R H σ Γ x Γ':=λe H' R' p q=>h e σ H' R' p.fW q
theorem iM.trans(a:δn)(h:iM EE ios R H σ Γ x Γ'):iM EE ios R1 H1 cR ai x Γ':=λe aB H' R' b q=>h e aB H' R' (a.trans b) (q.back a.back)
def qb(ios:zzd)(R H:Hp)(σ:St)(Γ:En)(D:Ends):Fl->En->Prop:=λfl Γ'=>∀aB H' R',br ios R H σ Γ R' H' aB Γ'->match fl with
 |.nx=>D.nx aB H'
 |.brk=>D.bk aB H'
 |.cont=>D.ct aB H'
 |.ret rv=>∀x,gP R' H H' aB x rv->D.rt x H'
def oK(EE:bw)(ios:zzd)(t:TS)(f:M Fl):Prop:=∀σ H R Γ D,ER ios R H σ Γ->cz (f Γ) δO δg->t D σ H
def VS(X:Cx)(EE:bw)(ios:zzd)(st:Stmt)(f:M Fl):Prop:=∃t,PS X st t/\oK EE ios t f
def b7(X:Cx)(EE:bw)(ios:zzd)(st:εb)(f:M Fl):Prop:=∃t,PSs X st t/\oK EE ios t f
section
variable{X:Cx}{EE:bw}{ios:zzd}{e a b c:Expr}{es:zza}{f g k:M RV}{fs:γn}{p:δN}{s s':M Fl}{st:Stmt}{sts jx:εb}{pos:Pos}
theorem eI:b7 X EE ios [] (M.pure .nx):=⟨_,IQ,λσ H R Γ D er w=>w σ H R θq⟩
noncomputable def aP(f g:M Fl):M Fl:=M.bind f λfl=>match fl with
 |.nx=>g
 |fl=>M.pure fl
theorem aX(h:VS X EE ios st s)(h':b7 X EE ios sts s'):b7 X EE ios (st::sts) (aP s s'):=by
 obtain⟨t,h1,h2⟩:=h;obtain⟨u,h3,h4⟩:=h';refine⟨_,wW h1 h3,λσ H R Γ D er w=>?_⟩;unfold aP at w;rw[aC]at w;refine h2 σ H R Γ _ er (a6 w (λfl ai w cR H1 R1 p1=>?_) λ_ _ z=>z);cases fl with
 |nx =>
   refine h4 cR H1 R1 ai D p1.er (a6 w (λfl ao w fk H2 R2 p2=>?_) λ_ _ z=>iM.trans p1 z);have:=w fk H2 R2 εf;cases fl with
   |nx=>exact this
   |brk=>exact this
   |cont=>exact this
   |ret rv=>exact λx hx=>this x (xQ p1.back hx)
 |brk=>exact w cR H1 R1 p1
 |cont=>exact w cR H1 R1 p1
 |ret rv=>exact w cR H1 R1 p1
theorem aV(h:VS X EE ios st s):b7 X EE ios [st] s:=let ⟨_,h1,h2⟩:=h; ⟨_,wX h1,h2⟩
theorem Ur:VS X EE ios (.Break pos) (M.pure .brk):=⟨_,QS,λσ H R Γ D er w=>w σ H R θq⟩
theorem Us:VS X EE ios (.Continue pos) (M.pure .cont):=⟨_,QT,λσ H R Γ D er w=>w σ H R θq⟩
theorem tT:VS X EE ios st M.st:=⟨_,QY,λσ H R Γ D er w=>w⟩
noncomputable def k9(f:M RV):M Fl:=M.bind f λ_=>M.pure .nx
theorem r_(h:γR)(hs:swapsWith e none pos.line X.env=pure false:=by rfl):VS X EE ios (.Expr e pos) (k9 f):=by obtain⟨t,h1,h2⟩:=h;refine⟨_,CU h1 hs,λσ H R Γ D er w=>?_⟩;unfold k9 at w;rw[aC]at w;exact h2 σ H R Γ _ er (a6 w (λrv ai w x H1 R1 p1 hx=>w σ H1 R1 p1.fW) λ_ _ z=>z.exp)
noncomputable def bR(f:M RV):M Fl:=M.bind f λrv=>M.pure ζ9
theorem cp(h:γR):VS X EE ios (.Return εQ pos) (bR f):=by obtain⟨t,h1,h2⟩:=h;refine⟨_,IS h1,λσ H R Γ D er w=>?_⟩;unfold bR at w;rw[aC]at w;exact h2 σ H R Γ _ er (a6 w (λrv ai w x H1 R1 p1 hx=>w σ H1 R1 p1.fW x hx) λ_ _ z=>z.exp)
noncomputable def cW(p:δN)(s s':M Fl):M Fl:=M.bind p λb=>if b then s else s'
theorem eh(hc:ηg)(h:ζI)(h':b7 X EE ios jx s'):VS X EE ios (.If c sts jx pos) (cW p s s'):=by
 obtain⟨_,h0,h0'⟩:=hc;obtain⟨t,h1,h2⟩:=h;obtain⟨u,h3,h4⟩:=h';refine⟨_,IT h0 h1 h3,λσ H R Γ D er w=>?_⟩;unfold cW at w;rw[aC]at w;refine h0' σ H R Γ _ er (a6 w (λb ai w H1 R1 p1=>?_) λ_ _ z=>z.exp)
 have go:∀fl ao,qb ios R H σ Γ D fl ao->qb ios R1 H1 σ ai D fl ao:=λfl ao w fk H2 R2 p2=>by
  have:=w fk H2 R2 (p1.fW.trans p2);cases fl with
  |nx=>exact this
  |brk=>exact this
  |cont=>exact this
  |ret rv=>exact λx hx=>this x (xQ p1.fW.back hx)
 cases b with
 |true=>exact qC (h2 σ H1 R1 ai D p1.er (a6 w go λ_ _ z=>iM.trans p1.fW z))
 |false=>exact qB (h4 σ H1 R1 ai D p1.er (a6 w go λ_ _ z=>iM.trans p1.fW z))
noncomputable def qc(i:Nat)(s:Kd×D):M Unit:=λΓ=>.ok () (Γ.set i ζ0)
theorem K2{σ:St}{Γ:En}{i:Nat}{x:V}{s:Kd×D}{b:Addr}(h:Ow θT (Γ.set i ζ0) b):Ow σ Γ b\/(owned s.1=true/\x=.ref b):=by
 obtain⟨j,k,d,h1,h2,h3⟩:=h;by_cases hj:j=i
 .subst hj;have l1:j<Γ.length:=by have:=(qad.mp h1).1;rwa[qaU]at this
  have l2:j<σ.length:=by have:=(qad.mp h3).1;rwa[qaU]at this
  rw[qap l1]at h1;rw[qap l2]at h3;cases h1;cases h3;exact .inr ⟨h2,rfl⟩
 .rw[qaj ζB]at h1 h3;exact .inl ⟨j,k,d,h1,h2,h3⟩
theorem br.set{R H R1 H1:Hp}{σ:St}{Γ ai:En}{i:Nat}{x:V}{s:Kd×D}(er:γw)(p1:γY)(hs:lG ios R1 H1 x s)(hn:owned s.1=true->∀a,x=.ref a->H a=none) :
 br ios R H σ Γ R1 H1 θT (ai.set i ζ0):=by
 have hfresh:owned s.1=true->∀a,x=.ref a -> ¬Ow σ ai a:=λho a ea z=>by obtain⟨_,xs,q⟩:=er.ow (p1.sh a z);rw[hn ho a ea]at q;cases q
 refine⟨⟨p1.er.sub,by rw[qaU,qaU];exact p1.er.len,λj t hj=>?_,λj j' l l' d d' b q1 q2 q3 q4 q5 q6=>?_⟩,⟨p1.go.rr,p1.go.hh,p1.go.no,λb z=>?_,p1.go.th⟩⟩
 .by_cases hji:j=i
  .subst hji;have l1:j<ai.length:=by have:=(qad.mp hj).1;rwa[qaU]at this
   rw[qap l1]at hj;cases hj;exact⟨x,by rw[qap (by rw[p1.er.len];exact l1)],hs⟩
  .rw[qaj θl]at hj ⊢;exact p1.er.sl j t hj
 .by_cases h1:j=i
  .by_cases h2:j'=i
   .rw[h1,h2]
   .subst h1;have l1:j<ai.length:=by have:=(qad.mp q1).1;rwa[qaU]at this
    rw[qap l1]at q1;rw[qap (by rw[p1.er.len];exact l1)]at q5;rw[qaj (qaR h2)]at q3 q6;cases q1;cases q5;exact absurd ⟨j',l',d',q3,q4,q6⟩ (hfresh q2 b rfl)
  .by_cases h2:j'=i
   .subst h2;have l1:j'<ai.length:=by have:=(qad.mp q3).1;rwa[qaU]at this
    rw[qap l1]at q3;rw[qap (by rw[p1.er.len];exact l1)]at q6;rw[qaj (qaR h1)]at q1 q5;cases q3;cases q6;exact absurd ⟨j,l,d,q1,q2,q5⟩ (hfresh q4 b rfl)
   .rw[qaj (qaR h1)]at q1 q5;rw[qaj (qaR h2)]at q3 q6;exact p1.er.dj j j' l l' d d' b q1 q2 q3 q4 q5 q6
 .rcases K2 z with z|⟨ho,rfl⟩
  .exact .inl (p1.sh b z)
  .exact .inr (hn ho b rfl)
noncomputable def bN(i:Nat)(f:M RV):M Fl:=M.bind f λrv=>M.bind (match rv with
 |.new d=>qc i (.own,d)
 |.val d=>qc i (.ae,d)
 |.var j=>M.bind (mat (.var j)) λd=>qc i (.ae,d)) λ_=>M.pure .nx
theorem K3{t:TE}{i:Nat}(h:θd):oK EE ios (uT t (kW i)) (bN i f):=by
 intro σ H R Γ D er w;unfold bN at w;rw[aC]at w;refine h σ H R Γ _ er (a6 w (λrv ai w x H1 R1 p1 hx=>?_) λ_ _ z=>z.exp);show D.nx θT H1;rw[aC]at w;cases rv with
 |val d=>exact w _ H1 R1 (br.set er p1 (s:=(.ae,d)) hx λz=>by cases z)
 |new d =>
   obtain⟨h1,a,h2,h3⟩:=hx;exact w _ H1 R1 (br.set er p1 (s:=(.own,d)) h1 λ_ b eb=>by rw[h2]at eb;cases eb;exact h3)
 |var j =>
   rw[aC]at w;obtain⟨d,ao,R2,p2,_,r2,w⟩:=mS er p1 hx w;exact w _ H1 R2 (br.set er p2 (s:=(.ae,d)) r2 λz=>by cases z)
theorem Ut(hN:X.N.Nodup)(hi:X.N[i]?=some x)(hx:εa)(he:γR)(hs:swapsWith e ζE pos.line X.env=pure false:=by rfl)(hf:X.fn x=true\/X.env.scope.names.lookup x=some .local:=by first|exact .inl rfl|exact .inr rfl|assumption) :
 VS X EE ios (.Assign [.Name x pos'] e pos) (bN i f):=let ⟨_,h1,h2⟩:=he; ⟨_,IU hN hi hx h1 hs hf,K3 h2⟩
def xR:Xc->En->Prop:=λ_ _=>False
def j8(ios:zzd)(n:Nat)(g:TG)(m:D->M Unit):Prop:=∀σ H R Γ v d (Q:St->Hp->Prop),ER ios R H σ Γ->Rp R v d ->
 cz (m d Γ) (λ_ Γ'=>∀aB H' R',br ios R H σ Γ R' H' aB Γ'->(∀k,n<=k->aB[k]?=σ[k]?)->ah R R'->Q aB H') xR->g v σ H Q
def A_(ios:zzd)(n:Nat)(g:pS)(m:List D->M Unit):Prop:=∀σ H R Γ vs ds (Q:St->Hp->Prop),ER ios R H σ Γ->aH R vs ds ->
 cz (m ds Γ) (λ_ Γ'=>∀aB H' R',br ios R H σ Γ R' H' aB Γ'->(∀k,n<=k->aB[k]?=σ[k]?)->ah R R'->Q aB H') xR->g vs σ H Q
noncomputable def gN(i:Nat)(d:D):M Unit:=qc i (.ae,d)
theorem mq{i n:Nat}(h:i<n):j8 ios n (kW i) (gN i):=λσ H R Γ v d Q er hv w =>
 w _ H R (br.set er ζH (s:=(.ae,d)) hv λz=>by cases z) (λk hk=>qaj (by omega)) ηY
noncomputable def cX:List D->M Unit
 |[]=>M.pure ()
 |_=>M.st
noncomputable def a7(m:D->M Unit)(ms:List D->M Unit):List D->M Unit
 |d::r=>M.bind (m d) λ_=>ms r
 |[]=>M.st
theorem Uu:A_ ios n wY cX:=λσ H R Γ vs ds Q er hv w=>by
 cases hv with
 |nil=>exact⟨rfl,w σ H R θq (λ_ _=>rfl) ηY⟩
 |cons _ _=>exact False.elim w
theorem K4{n:Nat}{g:TG}{gs:pS}{m:D->M Unit}{ms:List D->M Unit}(h:j8 ios n g m)(h':A_ ios n gs ms):A_ ios n (sW g gs) (a7 m ms):=λσ H R Γ vs ds Q er hv w=>by
 cases hv with
 |nil=>exact False.elim w
 |cons h1 h2 =>
   refine⟨_,_,rfl,?_⟩;unfold a7 at w;rw[aC]at w;refine h σ H R Γ _ _ _ er h1 (a6 w (λ_ ai w cR H1 R1 p1 k1 s1=>?_) λ_ _ z=>z);exact h' cR H1 R1 ai _ _ _ p1.er (h2.sm s1) (a6 w (λ_ ao w fk H2 R2 p2 k2 s2=>w fk H2 R2 εf (λk hk=>(k2 k hk).trans (k1 k hk)) (s1.trans s2)) λ_ _ z=>z)
noncomputable def gT(n:Nat)(ms:List D->M Unit):D->M Unit
 |.tup ds=>if ds.length=n then ms ds else M.st
 |_=>M.st
theorem Uv(h:A_ ios n gs ms):j8 ios n (wZ K m gs) (gT m ms):=λσ H R Γ v d Q er hv w=>by
 unfold gT at w;split at w
 .split at w
  .rename_i c;cases hv with
   |tup e q=>exact⟨_,_,rfl,iw.of (er.sub _ _ e),by rw[q.len];exact c,h σ H R Γ _ _ Q er q w⟩
  .exact False.elim w
 .exact False.elim w
noncomputable def mv(m:M Unit):M Unit:=λΓ=>match m Γ with
 |.ok a Γ'=>.ok a Γ'
 |_=>.st
noncomputable def qd(m:D->M Unit)(f:M RV):M Fl:=M.bind f λrv=>M.bind εF λd=>M.bind ηA λ_=>M.pure .nx
theorem vo(h:cz (mv m Γ) K E):cz (m Γ) K xR:=by
 unfold mv at h;cases q:m Γ with
 |ok a Γ'=>rw[q]at h;exact h
 |ex x Γ'=>rw[q]at h;exact False.elim h
 |st=>rw[q]at h;exact False.elim h
theorem Uw{t:TE}{g:TG}{m:D->M Unit}{n:Nat}(h:θd)(hg:j8 ios n g m):oK EE ios (uT t g) (qd m f):=by intro σ H R Γ D er w;unfold qd at w;rw[aC]at w;refine h σ H R Γ _ er (a6 w (λrv ai w x H1 R1 p1 hx=>?_) λ_ _ z=>z.exp);rw[aC]at w;obtain⟨d,ao,R2,p2,_,r2,w⟩:=mS er p1 hx w;rw[aC]at w;exact hg σ H1 R2 ao x d _ p2.er r2 (a6 (vo w) (λ_ oI w kX H3 R3 p3 _ _=>w kX H3 R3 (p2.fW.trans p3)) λ_ _ z=>z)
theorem vp{tg:Expr}{g:TG}{m:D->M Unit}{n:Nat}(he:γR)(hr:j8 ios n g m)(hp:∀t,PE X e t->PS X (.Assign [tg] e pos) (uT t g)):VS X EE ios (.Assign [tg] e pos) (qd m f):=
 let ⟨_,h1,h2⟩:=he; ⟨_,hp _ h1,Uw h2 hr⟩
def vq(J:It)(R0:Hp)(items:γd):Prop:=∀(i:Nat) (H R:Hp),ah R0 R->ah R H ->
 (∀d,items[i]?=some d->J.go i H/\∀x H',J.sY i H x H'->∃R',Al R H R' H'/\Rp R' x d)/\(items.length<=i->J.stop i H)
def tU(EE:bw)(ios:zzd)(wi:TI)(f:M γd):Prop:=∀σ H R Γ Rk,ER ios R H σ Γ ->
 cz (f Γ) (λitems Γ'=>∀J H' R',bf ios R H σ Γ R' H' Γ'->vq J R' items->Rk J H') γU->wi σ H Rk
def VI(X:Cx)(EE:bw)(ios:zzd)(tg iter:Expr)(f:M γd):Prop:=∃wi,PI X tg iter wi/\tU EE ios wi f
variable{tg:Expr}
noncomputable def et(f:M RV):M γd:=M.bind f λrv=>M.bind εF λd=>match d with
 |.lst ds=>M.pure ds
 |.dW ns=>M.pure εn
 |_=>M.st
theorem K5{K:zze}{R0:Hp}{a:Addr}{xs:γB}{ds:γd}(h:∀H,ah R0 H->b8 K H a xs)(r:aH R0 xs ds):vq (CW K a) R0 ds:=by intro i H R s1 s2;have s:=s1.trans s2;refine⟨λd hd=>?_,λhl=>⟨xs,h H s,by rw[r.len];exact hl⟩⟩;obtain⟨x,hx,rx⟩:=r.ta hd;refine⟨⟨xs,x,h H s,hx⟩,λy H' hy=>?_⟩;obtain⟨rfl,hy⟩:=hy;have:=hy xs (h _ s);rw[hx]at this;cases this;exact⟨R,Al.refl s2,rx.sm s1⟩
theorem fB(h:γR)(hK:X.K=KC.K:=by rfl):VI X EE ios tg e (et f):=by
 obtain⟨t,h1,h2⟩:=h;refine⟨_,Q6 h1,λσ H R Γ Rk er w=>?_⟩;unfold et at w;rw[aC]at w;refine h2 σ H R Γ _ er (a6 w (λrv ai w x H1 R1 p1 hx=>?_) λ_ _ z=>z);rw[aC]at w;obtain⟨d,ao,R2,p2,_,r2,w⟩:=mS er p1 hx w;split at w
 .cases r2 with
  |lst e q=>exact⟨_,rfl,⟨_,b8.of (p2.er.sub _ _ e)⟩,w _ H1 R2 p2 (K5 (λH s=>b8.of ηz) q)⟩
 .cases r2 with
  |dW e=>exact⟨_,rfl,⟨_,by rw[hK];exact p2.er.sub.seq e⟩,w _ H1 R2 p2 (K5 (λH s=>by rw[hK];exact s.seq e) (aH.ints _))⟩
 .exact False.elim w
noncomputable def nP(lo:Int)(n:Nat):List D:=(List.range n).map λ(i:Nat)=>D.int (lo+i)
theorem Ux:vq (AA lo n) R0 (nP lo n):=by
 intro i H R s1 s2;refine⟨λd hd=>?_,λhl=>show n<=i by simpa [nP]using hl⟩;unfold nP at hd;rw[qaB]at hd;cases q:(List.range n)[i]? with
 |none=>rw[q]at hd;cases hd
 |some j =>
   rw[q]at hd;cases hd;obtain⟨h1,h2⟩:=qad.mp q;rw[qbC]at h2;subst h2;refine⟨show i<n by simpa using h1,λx H' hx=>?_⟩;obtain⟨rfl,rfl⟩:=hx;exact⟨R,Al.refl s2,.int _⟩
def small(j:Int):Bool:=cd (-(2 ^ 62)<=j/\j<2 ^ 62)
def Ba(fs:γn):M γd:=M.bind fs λrvs=>match rvs with
 |[.val (.int j)]=>if small j then M.pure (nP 0 j.toNat) else M.st
 |_=>M.st
theorem Uy(hp:∀t,PA X es t->PI X tg e0 (IX t))(ha:δk):VI X EE ios tg e0 (Ba fs):=by
 obtain⟨t,h1,h2⟩:=ha;refine⟨_,hp t h1,λσ H R Γ Rk er w=>?_⟩;unfold Ba at w;rw[aC]at w;refine h2 σ H R Γ _ er (a6 w (λrvs ai w xs H1 R1 p1 hx=>?_) λ_ _ z=>z);split at w
 .split at w
  .rename_i c;have c:=mV c;cases hx with
   |cons a b =>
     cases b;cases a;exact⟨_,rfl,c.1,c.2,w _ H1 R1 p1 Ux⟩
  .exact False.elim w
 .exact False.elim w
noncomputable def oM(lo c:Int)(n:Nat):List D:=(List.range n).map λ(i:Nat)=>D.int (lo+i*c)
theorem Uz{R0:Hp}{lo c:Int}{n:Nat}:vq (DS lo c n) R0 (oM lo c n):=by
 intro i H R s1 s2;refine⟨λd hd=>?_,λhl=>show n<=i by simpa [oM]using hl⟩;unfold oM at hd;rw[qaB]at hd;cases q:(List.range n)[i]? with
 |none=>rw[q]at hd;cases hd
 |some j =>
   rw[q]at hd;cases hd;obtain⟨h1,h2⟩:=qad.mp q;rw[qbC]at h2;subst h2;refine⟨show i<n by simpa using h1,λx H' hx=>?_⟩;obtain⟨rfl,rfl⟩:=hx;exact⟨R,Al.refl s2,.int _⟩
def zrk(fs:γn):M γd:=M.bind fs λrvs=>match rvs with
 |[.val (.int i),.val (.int j),.val (.int c)]=>if cd (c≠0/\c.natAbs<1073741824/\Builtin.Range.small i j c=true/\0<=Builtin.Range.rangeSize i j c) then M.pure (oM i c (Builtin.Range.rangeSize i j c).toNat) else M.st
 |_=>M.st
theorem K6(hp:∀t,PA X es t->PI X tg e0 (Ku t))(ha:δk):VI X EE ios tg e0 (zrk fs):=by
 obtain⟨t,h1,h2⟩:=ha;refine⟨_,hp t h1,λσ H R Γ Rk er w=>?_⟩;unfold zrk at w;rw[aC]at w;refine h2 σ H R Γ _ er (a6 w (λrvs ai w xs H1 R1 p1 hx=>?_) λ_ _ z=>z);split at w
 .split at w
  .rename_i c;have c:=mV c;cases hx with
   |cons a b =>
     cases b with
     |cons b c' =>
       cases c' with
       |cons c' d' =>
         cases d';cases a;cases b;cases c';exact⟨_,_,_,_,rfl,c.1,c.2.1,c.2.2.1,(by rw[Int.toNat_of_nonneg c.2.2.2]),w _ H1 R1 p1 Uz⟩
  .exact False.elim w
 .exact False.elim w
noncomputable def lN(ds:γd):List D:=ds.zipIdx.map λp=>D.tup [.int p.2,p.1]
theorem UA(h:R0 l=some γo)(r:aH R0 xs ds):vq (DQ l) R0 (lN ds):=by
 intro i H R s1 s2;have hl:H l=some γo:=s2 _ _ (s1 _ _ h);refine⟨λd hd=>?_,λhl'=>⟨xs,hl,by rw[r.len];simpa [lN]using hl'⟩⟩;have hd:((ds.zipIdx)[i]?).map (λp=>D.tup [.int p.2,p.1])=some d:=by rw[<-qaB];exact hd
 rw[List.getElem?_zipIdx]at hd;cases q:ds[i]? with
 |none=>rw[q]at hd;cases hd
 |some d0 =>
   rw[q]at hd;cases hd;obtain⟨x,hx,rx⟩:=r.ta q;refine⟨⟨xs,x,hl,hx⟩,λv H' hv=>?_⟩;obtain⟨p,ys,y,rfl,hp,rfl,hy,K7⟩:=hv;rw[hl]at hy;cases hy;rw[hx]at K7;cases K7;obtain⟨al,rv⟩:=A2 (xs:=[.int i,x]) (ds:=[.int i,d0]) s2 hp (.cons δY (.cons (rx.sm s1) .nil));refine⟨_,al,?_⟩;have rv:Rp _ _ _:=rv;simpa using rv
def qI(fs:γn):M γd:=M.bind fs λrvs=>M.bind δh λds=>match ds with
 |[.lst ds]=>M.pure (lN ds)
 |_=>M.st
theorem vt(hp:∀t,PA X es t->PI X tg e0 (Ks t))(ha:δk):VI X EE ios tg e0 (qI fs):=by
 obtain⟨t,h1,h2⟩:=ha;refine⟨_,hp t h1,λσ H R Γ Rk er w=>?_⟩;unfold qI at w;rw[aC]at w;refine h2 σ H R Γ _ er (a6 w (λrvs ai w xs H1 R1 p1 hx=>?_) λ_ _ z=>z);rw[aC]at w;obtain⟨ds,ao,R2,p2,_,r2,w⟩:=nL er p1 hx w;split at w
 .cases r2 with
  |cons a b =>
    cases b;cases a with
    |lst e q=>exact⟨_,_,rfl,p2.er.sub _ _ e,w _ H1 R2 p2 (UA e q)⟩
 .exact False.elim w
end
section
variable{X:Cx}{EE:bw}{ios:zzd}{e a b c iter tg:Expr}{es:zza}{f g k:M RV}{fs:γn}{p:δN}{s s':M Fl}{st:Stmt}{sts jx:εb}{pos:Pos}
theorem oN{α:Type}{a:α}{K:α->En->Prop}(h:K a Γ):cz (.ok a Γ) K E:=h
theorem sf{α:Type}{a:α}{K:α->En->Prop}(h:cz (.ok a Γ) K E):K a Γ:=h
noncomputable def xS(m:D->M Unit)(body:M Fl)(rest:M Fl)(d:D):M Fl:=M.bind ηA λ_=>M.bind body λfl=>match fl with
 |.nx=>rest
 |.cont=>rest
 |.brk=>M.pure .nx
 |.ret rv=>M.pure ζ9
noncomputable def gX(m:D->M Unit)(body:M Fl):List D->M Fl
 |[]=>M.pure .nx
 |d::r=>xS m body (gX m body r) d
noncomputable def forM(items:M γd)(m:D->M Unit)(body:M Fl):M Fl:=M.bind items λds=>gX m body ds
theorem UB(hi:ηw)(hg:j8 ios n gt m)(hb:oK EE ios tb s):oK EE ios (CY wi gt tb) (forM items m s):=by
 intro σ H R Γ D er w;unfold forM at w;rw[aC]at w;refine hi σ H R Γ _ er (a6 w (λds ai w J H1 R1 p1 hJ=>?_) λ_ _ z=>z.exp);refine⟨λi m' fk H2=>m'=ds.length-i/\i<=ds.length/\∃R2 ao,br ios R H σ Γ R2 H2 fk ao/\ah R1 R2/\cz (gX m s (ds.drop i) ao) δO δg,⟨ds.length,rfl,qaW _,R1,ai,p1.fW,ah.refl _,w⟩,?_⟩;rintro i m' fk H2 ⟨rfl,hi',R2,ao,p2,s2,w⟩;obtain⟨go,stop⟩:=hJ i H2 R2 s2 p2.er.sub;by_cases hlt:i<ds.length
 .have hd:ds[i]?=some ds[i]:=qah hlt;obtain⟨g1,g2⟩:=go _ hd;rw[qby hlt]at w;have w:cz (xS m s (gX m s (ds.drop (i+1))) ds[i] ao) δO δg:=w;unfold xS at w;rw[aC]at w;refine .inr ⟨g1,λkX H3=>∃R3 oI,br ios R H σ Γ R3 H3 kX oI/\ah R1 R3/\cz (gX m s (ds.drop (i+1)) oI) δO δg,?_,λx H3 hx=>?_⟩
  .rintro kX H3 ⟨R3,oI,q1,q2,q3⟩;exact⟨_,by omega,rfl,hlt,R3,oI,q1,q2,q3⟩
  .obtain⟨R3,al,rx⟩:=g2 x H3 hx;have K8:ER ios R3 H3 fk ao:=p2.er.al al;have p3:br ios R H σ Γ R3 H3 fk ao:=⟨K8,p2.go.trans al.go⟩;refine hg fk H3 R3 ao x _ _ K8 rx (a6 (vo w) (λ_ mU w bF H4 R4 p4 _ s4=>?_) λ_ _ z=>z);rw[aC]at w;have Ec:=p3.trans p4;refine hb bF H4 R4 mU _ p4.er (a6 w (λfl xT w xU H5 R5 p5=>?_) λ_ _ z=>iM.trans Ec z);have p35:=Ec.trans p5;have s5:ah R1 R5:=((s2.trans al.rr).trans s4).trans p5.go.rr;cases fl with
   |nx=>exact⟨R5,xT,p35,s5,w⟩
   |cont=>exact⟨R5,xT,p35,s5,w⟩
   |brk=>exact w xU H5 R5 p35
   |ret rv=>exact λy hy=>w xU H5 R5 p35 y (xQ Ec.back hy)
 .have e:ds.drop i=[]:=List.drop_eq_nil_of_le (by omega);rw[e]at w;exact .inl ⟨stop (by omega),w fk H2 R2 p2⟩
theorem UC(hi:δH)(hr:j8 ios n gt m)(hb:ζI)
 (hps:∀wi tb,PI X tg iter wi->PSs X sts tb->PS X (.For tg iter sts [] pos) (CY wi gt tb)):VS X EE ios (.For tg iter sts [] pos) (forM items m s):=
 let ⟨_,h1,h2⟩:=hi;let ⟨_,h3,h4⟩:=hb; ⟨_,hps _ _ h1 h3,UB h2 hr h4⟩
noncomputable def m6(p:δN)(body:M Fl):Nat->M Fl
 |0=>M.st
 |n+1=>M.bind p λb=>if b then M.bind body λfl=>match fl with
   |.nx=>m6 p body n
   |.cont=>m6 p body n
   |.brk=>M.pure .nx
   |.ret rv=>M.pure ζ9 else M.pure .nx
theorem UD(hc:jX EE ios tc p)(hb:oK EE ios tb s)(n:Nat):oK EE ios (IV tc tb) (m6 p s n):=by
 intro σ H R Γ D er w;refine⟨λn' fk H2=>∃R2 ao,br ios R H σ Γ R2 H2 fk ao/\cz (m6 p s n' ao) δO δg,⟨n,R,Γ,br.refl er,w⟩,?_⟩;rintro n' fk H2 ⟨R2,ao,p2,w⟩;cases n' with
 |zero=>exact False.elim w
 |succ n' =>
   unfold m6 at w;rw[aC]at w;refine hc fk H2 R2 ao _ p2.er (a6 w (λb oI w H3 R3 p3=>?_) λ_ _ z=>(iM.trans p2 z).exp);have Bb:=p2.trans p3.fW;cases b with
   |false=>exact qB (w fk H3 R3 Bb)
   |true =>
     refine qC ⟨λbF H4=>∃R4 mU,br ios R H σ Γ R4 H4 bF mU/\cz (m6 p s n' mU) δO δg,λbF H4 q=>⟨n',qa3 _,q⟩,?_⟩;simp only[if_true]at w;rw[aC]at w;refine hb fk H3 R3 oI _ p3.er (a6 w (λfl xT w xU H5 R5 p5=>?_) λ_ _ z=>iM.trans Bb z);have p25:=Bb.trans p5;cases fl with
     |nx=>exact⟨R5,xT,p25,w⟩
     |cont=>exact⟨R5,xT,p25,w⟩
     |brk=>exact w xU H5 R5 p25
     |ret rv=>exact λy hy=>w xU H5 R5 p25 y (xQ Bb.back hy)
theorem UE(hc:ηg)(hb:ζI)(hp:εH:=by exact qaX):VS X EE ios (.While c sts [] pos) (m6 p s n):=
 let ⟨_,h1,h2⟩:=hc;let ⟨_,h3,h4⟩:=hb; ⟨_,Q2 hp h1 h3,UD h2 h4 n⟩
noncomputable def bL(fr:zzc)(own:Nat)(Γ:En):En:=List.replicate own none++fr.map λj=>(Γ[j]?).join
noncomputable def aW:zzc->Nat->En->En->En
 |[],_,Γ,_=>Γ
 |j::r,k,Γ,bW=>aW r (k+1) (Γ.set j (bW[k]?).join) bW
theorem Bc{α:Type}{fr:zzc}{L:List θO}(h:i<own):(List.replicate own (none:θO)++fr.map λj=>(L[j]?).join)[i]?=some none:=by rw[qa8 (by rw[qbA];exact h),qbE,qaF h]
theorem Bd{α:Type}{fr:zzc}{L:List θO}(h:own<=i):(List.replicate own (none:θO)++fr.map λj=>(L[j]?).join)[i]?=(fr[i-own]?).map λj=>(L[j]?).join:=by rw[qbw (by rw[qbA];exact h),qbA,qaB]
theorem Be{α:Type}{o:Option θO}{a:α}(h:o.join=some a):o=some ιd:=by
 cases o with
 |none=>cases h
 |some o=>cases o with
   |none=>cases h
   |some b=>cases h;rfl
theorem vv{fr:zzc}{own i:Nat}{Γ:En}{s:Kd×D}(h:(bL fr own Γ)[i]?=some ζ0):own<=i/\∃j,fr[i-own]?=some j/\Γ[j]?=some ζ0:=by
 unfold bL at h;by_cases hi:i<own
 .rw[Bc hi]at h;cases h
 .rw[Bd (by omega)]at h;cases q:fr[i-own]? with
  |none=>rw[q]at h;cases h
  |some j =>
    rw[q]at h;exact⟨by omega,j,rfl,Be (qaQ h)⟩
theorem UG(hi:own<=i)(hj:fr[i-own]?=some j)(hv:σ[j]?=some δQ):(ar fr own σ)[i]?=some δQ:=by unfold ar;rw[Bd hi,hj];show some ((σ[j]?).join)=_;rw[hv];rfl
theorem xV(hi:own<=i)(hj:fr[i-own]?=some j)(h:(ar fr own σ)[i]?=some δQ):σ[j]?=some δQ:=by unfold ar at h;rw[Bd hi,hj]at h;exact Be (qaQ h)
theorem UH{fr:zzc}(hn:fr.Nodup){i j x:Nat}(h1:fr[i]?=some x)(h2:fr[j]?=some x):i=j:=by obtain⟨l1,e1⟩:=qad.mp h1;obtain⟨l2,e2⟩:=qad.mp h2;exact(List.getElem_inj hn).mp (e1.trans e2.symm)
theorem ER.blk{R H:Hp}{σ:St}{Γ:En}{fr:zzc}{own:Nat}(er:γw)(hn:fr.Nodup):ER ios R H γq δS where
 sub:=er.sub
 len:=by unfold ar bL;simp
 sl:=λi s h=>by obtain⟨hi,j,hj,hs⟩:=vv h;obtain⟨v,hv,q⟩:=er.sl j s hs;exact⟨v,UG hi hj hv,q⟩
 dj:=λi j k l d e b q1 q2 q3 q4 q5 q6=>by obtain⟨hi,i',hi',s1⟩:=vv q1;obtain⟨hj,j',hj',s2⟩:=vv q3;have:=er.dj i' j' k l d e b s1 q2 s2 q4 (xV hi hi' q5) (xV hj hj' q6);subst this;have:=UH hn hi' hj';omega
theorem Ow.blk{σ:St}{Γ:En}{fr:zzc}{own:Nat}{b:Addr}(h:Ow γq δS b):Ow σ Γ b:=by obtain⟨i,k,d,h1,h2,h3⟩:=h;obtain⟨hi,j,hj,hs⟩:=vv h1;exact⟨j,k,d,hs,h2,xV hi hj h3⟩
theorem Ed:∀{fr:zzc}{k:Nat}{Γ bW:En},(aW fr k Γ bW).length=Γ.length
 |[],_,_,_=>rfl
 |j::r,k,Γ,bW=>by unfold aW;rw[Ed,List.length_set]
theorem Ee:∀{fr:zzc}{k j:Nat}{Γ bW:En},j∉fr->(aW fr k Γ bW)[j]?=Γ[j]?
 |[],_,_,_,_,_=>rfl
 |i::r,k,j,Γ,bW,h=>by unfold aW;rw[Ee (λz=>h (qae _ z)),qaj (λz=>h (by rw[z];exact qag ..))]
theorem K9:∀{fr:zzc}{k i j:Nat}{Γ bW:En},fr.Nodup->fr[i]?=some j->j<Γ.length->(aW fr k Γ bW)[j]?=some (bW[k+i]?).join
 |[],_,_,_,_,_,_,h,_=>by simp at h
 |x::r,k,0,j,Γ,bW,hn,h,hl=>by simp at h;subst h;unfold aW;rw[Ee (qbd.mp hn).1,qap hl];rfl
 |x::r,k,i+1,j,Γ,bW,hn,h,hl=>by unfold aW;rw[K9 (qbd.mp hn).2 (by simpa using h) (by rw[List.length_set];exact hl)];rw[show k+1+i=k+(i+1) by omega]
theorem bf.aW{R H R1 H1:Hp}{σ vw:St}{Γ bW:En}{fr:zzc}{own:Nat}(er:γw)(hn:fr.Nodup)(p:br ios R H γq δS R1 H1 vw bW)(keep:∀k,own<=k->vw[k]?=(ar fr own σ)[k]?)
 (sh:∀b,Ow vw bW b->Ow γq δS b):bf ios R H σ Γ R1 H1 (Dv.aW fr own Γ bW):=by
 have slot:∀(j:Nat) (s:Kd×D),(Dv.aW fr own Γ bW)[j]?=some ζ0->(j∉fr/\Γ[j]?=some ζ0)\/∃i,fr[i]?=some j/\bW[own+i]?=some ζ0/\vw[own+i]?=some ((σ[j]?).join):=by
  intro j s h;by_cases hj:j∈fr
  .obtain⟨i,hi,e⟩:=List.getElem_of_mem hj;have hi':fr[i]?=some j:=by rw[qah hi,e]
   have hl:j<Γ.length:=by have:=(qad.mp h).1;rwa[Ed]at this
   rw[K9 hn hi' hl]at h;refine .inr ⟨i,hi',Be (qaQ h),?_⟩;rw[keep _ (by omega)];unfold ar;rw[Bd (by omega),show own+i-own=i by omega,hi'];rfl
  .rw[Ee hj]at h;exact .inl ⟨hj,h⟩
 have inside:∀(i j:Nat) (k:Kd) (d:D) (b:Addr),fr[i]?=some j->bW[own+i]?=some (some (k,d))->owned k=true->vw[own+i]?=some ((σ[j]?).join)->σ[j]?=some δV->∃j0 k0 d0,j0∈fr/\Γ[j0]?=some (some (k0,d0))/\owned k0=true/\σ[j0]?=some δV:=by
  intro i j k d b hi q h2 e h3;have e:vw[own+i]?=some δV:=by rw[e,h3];rfl
  obtain⟨i0,k0,d0,g1,g2,g3⟩:=sh b ⟨own+i,k,d,q,h2,e⟩;obtain⟨hi0,j0,hj0,hs0⟩:=vv g1;exact⟨j0,k0,d0,qba hj0,hs0,g2,xV hi0 hj0 g3⟩
 have sh':∀b,Ow σ (Dv.aW fr own Γ bW) b->Ow σ Γ b:=by
  rintro b ⟨j,k,d,h1,h2,h3⟩;rcases slot j _ h1 with ⟨_,q⟩|⟨i,hi,q,e⟩
  .exact⟨j,k,d,q,h2,h3⟩
  .obtain⟨j0,k0,d0,_,g1,g2,g3⟩:=inside i j k d b hi q h2 e h3;exact⟨j0,k0,d0,g1,g2,g3⟩
 have out:∀(j:Nat) (k:Kd) (d:D) (b:Addr),j∉fr->Γ[j]?=some (some (k,d))->owned k=true->σ[j]?=some δV -> ¬Ow γq δS b:=by rintro j k d b hj h1 h2 h3 ⟨i0,k0,d0,g1,g2,g3⟩;obtain⟨hi0,j0,hj0,hs0⟩:=vv g1;have:=er.dj j j0 k k0 d d0 b h1 h2 hs0 g2 h3 (xV hi0 hj0 g3);subst this;exact hj (qba hj0)
 refine⟨⟨p.er.sub,by rw[Ed];exact er.len,λj t hj=>?_,λj j' l l' d d' b q1 q2 q3 q4 q5 q6=>?_⟩,⟨p.go.rr,λb o h n=>p.go.hh b o h λz=>n z.blk,λb o h n r=>p.go.no b o h (λz=>n z.blk) r,λb z=>.inl (sh' b z),p.go.th⟩,sh'⟩
 .rcases slot j t hj with ⟨hf,q⟩|⟨i,hi,q,e⟩
  .obtain⟨v,hv,q'⟩:=er.sl j t q;refine⟨v,hv,q'.mono p.go.rr λho b ys eb hb rb=>?_⟩;subst eb;have:=out j t.1 t.2 b hf q ho hv;exact⟨p.go.hh b _ hb this,p.go.no b _ hb this rb⟩
  .obtain⟨v,hv,q'⟩:=p.er.sl _ t q;rw[e]at hv;exact⟨v,Be (qaQ hv),q'⟩
 .rcases slot j _ q1 with ⟨hf,g1⟩|⟨i,hi,g1,e1⟩
  .rcases slot j' _ q3 with ⟨hf',g3⟩|⟨i',hi',g3,e3⟩
   .exact er.dj j j' l l' d d' b g1 q2 g3 q4 q5 q6
   .obtain⟨j0,k0,d0,m0,z1,z2,z3⟩:=inside i' j' l' d' b hi' g3 q4 e3 q6;have:=er.dj j j0 l k0 d d0 b g1 q2 z1 z2 q5 z3;subst this;exact absurd m0 hf
  .rcases slot j' _ q3 with ⟨hf',g3⟩|⟨i',hi',g3,e3⟩
   .obtain⟨j0,k0,d0,m0,z1,z2,z3⟩:=inside i j l d b hi g1 q2 e1 q5;have:=er.dj j' j0 l' k0 d' d0 b g3 q4 z1 z2 q6 z3;subst this;exact absurd m0 hf'
   .have:=p.er.dj (own+i) (own+i') l l' d d' b g1 q2 g3 q4 (by rw[e1,q5];rfl) (by rw[e3,q6];rfl);have:i=i':=by omega
    subst this;rw[hi]at hi';exact qaQ hi'
def nQ(n:Nat)(m:D->M Unit):Prop:=∀d Γ Γ',m d Γ=.ok () Γ'->(∀k,n<=k->Γ'[k]?=Γ[k]?)/\∀i s,i<n->Γ'[i]?=some ζ0->Γ[i]?=some ζ0\/s.1=.ae
def Bf(n:Nat)(m:List D->M Unit):Prop:=∀d Γ Γ',m d Γ=.ok () Γ'->(∀k,n<=k->Γ'[k]?=Γ[k]?)/\∀i s,i<n->Γ'[i]?=some ζ0->Γ[i]?=some ζ0\/s.1=.ae
theorem vx(h:i<n):nQ n (gN i):=λd Γ Γ' e=>by
 cases e;refine⟨λk hk=>qaj (by omega),λj s hj q=>?_⟩;by_cases hji:j=i
 .subst hji;have l1:j<Γ.length:=by have:=(qad.mp q).1;rwa[qaU]at this
  rw[qap l1]at q;cases q;exact .inr rfl
 .rw[qaj θl]at q;exact .inl q
theorem UI:Bf n cX:=λd Γ Γ' e=>by
 cases d with
 |nil=>cases e;exact⟨λ_ _=>rfl,λ_ _ _ q=>.inl q⟩
 |cons _ _=>cases e
theorem K_(h:nQ n m)(h':Bf n ms):Bf n (a7 m ms):=λd Γ Γ' e=>by
 cases d with
 |nil=>cases e
 |cons d r =>
   have e:M.bind (m d) (λ_=>ms r) Γ=.ok () Γ':=e;unfold M.bind at e;cases q:m d Γ with
   |ok a ai =>
     rw[q]at e;obtain⟨a1,a2⟩:=h d Γ ai q;obtain⟨b1,b2⟩:=h' r ai Γ' e;exact⟨λk hk=>(b1 k hk).trans (a1 k hk),λi s hi z=>(b2 i s hi z).elim (λz=>a2 i s hi z) .inr⟩
   |ex x ai=>rw[q]at e;cases e
   |st=>rw[q]at e;cases e
theorem UJ{n k:Nat}{ms:List D->M Unit}(h:Bf n ms):nQ n (gT k ms):=λd Γ Γ' e=>by
 unfold gT at e;split at e
 .split at e
  .exact h _ _ _ e
  .cases e
 .cases e
noncomputable def nR(m:D->M Unit)(p:δN)(f:M RV)(d:D):M (Option D):=M.bind ηA λ_=>M.bind p λb=>if b then M.bind f λrv=>M.bind εF λy=>M.pure (some y) else M.pure none
noncomputable def dD(fr:zzc)(own:Nat)(m:D->M Unit)(p:δN)(f:M RV):List D->M γd
 |[]=>M.pure []
 |d::r=>λΓ=>match nR m p f d δS with
   |.ok y bW=>match dD fr own m p f r (aW fr own Γ bW) with
     |.ok ys Γ'=>.ok (y.toList++ys) Γ'
     |_=>.st
   |_=>.st
noncomputable def gI(items:M γd)(fr:zzc)(own:Nat)(m:D->M Unit)(p:δN)(f:M RV):M RV:=M.bind items λds=>if ds.length<sizeLine then M.bind ζT λys=>M.pure (.new γ3) else M.st
abbrev EN:bw:=λ_ _ _ _=>False
theorem UK{fr:zzc}{own:Nat}{m:D->M Unit}{p:δN}{f:M RV}:∀(ds:γd) (Γ:En) (x:Xc) (Γ':En) (_ _ _:Unit),dD fr own m p f ds Γ≠.ex x Γ'
 |[],_,_,_,_,_,_=>λh=>by cases h
 |d::r,Γ,x,Γ',_,_,_=>λh=>by
   unfold dD at h;split at h
   .split at h<;>cases h
   .cases h
theorem Ef{β:Type}{O:Addr->β->HO}{e0:β}{L:β->Prop}{AD:β->V->Hp->(β->Prop)->Prop}{bd:Nat}{rS:V->Hp->VK->Prop}{out:List D->Option RV}(inv:β->List D->Hp->Prop)(hmono:∀b ys R R',inv b ys R->ah R R'->inv b ys R')(h0:∀R,inv e0 [] R)(hl:∀b ys R,inv b ys R->ys.length<bd->L b)
 (hstep:∀b ys dy zr rv y R H P,inv b ys R->ys.length<bd->out (ys++dy::zr)=some rv->Rp R y dy->ah R H->(∀b',inv b' (ys++[dy]) R->P b')->AD b y H P)
 (hfin:∀b ys R H A H0 (Q:VK) rv,inv b ys R->ah R H->R A=none->H A=some (O A b)->ys.length<bd->out ys=some rv->H0 A=none->(∀c,H c=none->H0 c=none)->(∀z H' R',Al R H R' H'->i5 R' H0 H' z rv->Q z H')->rS (.ref A) H Q)
 {wi:TI}{gt:TG}{tc:TT}{te:TE}{items:M γd}{m:D->M Unit}{fr:zzc}{own:Nat} (hn:fr.Nodup) (hi:ηw) (hg:ζe) (hk:nQ own m) (hc:jX EN ios tc p) (he:ιb) :
 iy EE ios (λσ H Q=>AV O e0 fr own wi gt tc L (λσ H D ys K=>te σ H λy H6=>H6 D=some (O D ys)/\AD ys y H6 λys'=>K ys' (upd H6 D (O D ys'))) σ H (λx H1=>rS x H1 Q)) (M.bind items λds=>if ds.length<bd then M.bind ζT λys=>M.dH (out ys) else M.st):=by
 intro σ H R Γ Q er w;rw[aC]at w;refine hi σ H R Γ _ er (a6 w (λds ai w J H1 R1 p1 hJ=>?_) λ_ _ z=>z);split at w
 .rename_i hsz;rw[aC]at w;cases hall:dD fr own m p f ds ai with
  |ex _ _=>exact absurd hall (UK _ _ _ _ () () ())
  |st=>rw[hall]at w;exact False.elim w
  |ok sj qJ =>
  rw[hall]at w;obtain⟨rv,hout,Eg⟩:=jW (sf w);clear w;intro A hA;have Eh:R1 A=none:=p1.er.sub.free hA;have Ei:Al R1 H1 R1 (upd H1 A (O A e0)):=⟨p1.er.sub.trans (lJ hA),ah.refl _,lJ hA,λ_ _ _ z=>z⟩
  refine⟨λi n zs H2=>n=ds.length-i/\i<=ds.length/\∃R2 ao gR zr,bf ios R H σ Γ R2 H2 ao/\ah R1 R2/\R2 A=none/\dD fr own m p f (ds.drop i) ao=.ok zr qJ/\gR++zr=sj/\inv zs gR R2/\gR.length<=i,
   ⟨ds.length,rfl,qaW _,R1,ai,[],sj,p1.al Ei,ah.refl _,Eh,hall,rfl,h0 _,qam _⟩,?_⟩
  rintro i n zs H2 tV ⟨rfl,hi',R2,ao,gR,zr,p2,s2,oO,hL,hys,hinv,hyl⟩;obtain⟨go,stop⟩:=hJ i H2 R2 s2 p2.er.sub
  have xW:¬Ow σ Γ A:=λz=>by obtain⟨_,xs,q⟩:=er.ow z;rw[p1.back er A hA]at q;cases q
  by_cases hlt:i<ds.length
  .have hd:ds[i]?=some ds[i]:=qah hlt;obtain⟨g1,g2⟩:=go _ hd;rw[qby hlt]at hL;refine .inr ⟨g1,hl _ _ _ hinv (by omega),λx H3 hx=>?_⟩;obtain⟨R3,al,rx⟩:=g2 x H3 hx;unfold dD at hL;have p3:bf ios R H σ Γ R3 H3 ao:=p2.al al;have sk:H3 A=some (O A zs):=al.hh _ _ tV;have oP:R3 A=none:=al.no _ _ tV oO;have Ej:ER ios R3 H3 γq γz:=p3.er.blk hn;have j9:¬Ow γq γz A:=λz=>xW (p3.sh A z.blk)
   have run:cz (nR m p f ds[i] γz) (λy bW=>∃fX,dD fr own m p f (ds.drop (i+1)) ζU=.ok fX qJ/\y.toList++fX=zr) xR:=by
    cases q:nR m p f ds[i] γz with
    |ok y bW =>
      rw[q]at hL;dsimp only at hL;cases q':dD fr own m p f (ds.drop (i+1)) ζU with
      |ok fX Γ' =>
        rw[q']at hL;cases hL;exact⟨fX,q',rfl⟩
      |ex _ _=>rw[q']at hL;cases hL
      |st=>rw[q']at hL;cases hL
    |ex _ _=>rw[q]at hL;cases hL
    |st=>rw[q]at hL;cases hL
   unfold nR at run;rw[aC]at run;cases hm:m ds[i] γz with
   |ex _ _=>have:=vo run;rw[hm]at this;exact this.elim
   |st=>have:=vo run;rw[hm]at this;exact this.elim
   |ok u mU =>
     obtain⟨k1,k2⟩:=hk _ _ _ hm;have wm:=vo run;rw[hm]at wm;refine hg γq H3 R3 γz x _ _ Ej rx ?_;rw[hm];refine oN λbF H4 R4 p4 keep s4=>?_;have w1:=sf wm;rw[aC]at w1
     have oQ:∀b,Ow bF mU b->Ow γq γz b:=by
      rintro b ⟨j,k,d,h1,h2,h3⟩;by_cases hj:own<=j
      .rw[k1 j hj]at h1;rw[keep j hj]at h3;exact⟨j,k,d,h1,h2,h3⟩
      .rcases k2 j (k,d) (by omega) h1 with z|z
       .unfold bL at z;rw[Bc (by omega)]at z;cases z
       .cases z;cases h2
     refine hc bF H4 R4 mU _ p4.er (a6 w1 (λb oR w1 H6 R6 p6=>?_) λ_ _ z=>z.elim);have p46:br ios R3 H3 γq γz R6 H6 bF oR:=p4.trans p6.fW;have xX:∀b,Ow bF oR b->Ow γq γz b:=λb z=>oQ b (p6.sh b z);have xY:H6 A=some (O A zs):=p46.go.hh _ _ sk j9;have qK:R6 A=none:=p46.go.no _ _ sk j9 oP;cases b with
     |false =>
       simp only[Bool.false_eq_true,if_false]at w1 ⊢;have pu:bf ios R3 H3 σ ao R6 H6 (Dv.aW fr own ao oR):=bf.aW p3.er hn p46 keep xX;obtain⟨fX,e1,e2⟩:=sf w1;refine⟨xY,_,Nat.sub_lt_sub_left hlt (qa3 i),rfl,hlt,R6,_,gR,fX,p3.trans pu,(s2.trans al.rr).trans p46.go.rr,qK,e1,by rw[<-hys,<-e2];rfl,hmono _ _ _ _ hinv (al.rr.trans p46.go.rr),by omega⟩
     |true =>
       simp only[if_true]at w1 ⊢;rw[aC]at w1;refine he bF H6 R6 oR _ p6.er (a6 w1 (λrv7 La w1 y H7 R7 p7 hy=>?_) λ_ _ z=>z.elim);rw[aC]at w1;obtain⟨dy,iB,R8,p8,s8,ry,w1⟩:=mS p6.er p7 hy w1;have xZ:br ios R3 H3 γq γz R8 H7 bF iB:=p46.trans p8.fW;have sq:∀b,Ow bF iB b->Ow γq γz b:=λb z=>xX b (p8.sh b z);have pu:bf ios R3 H3 σ ao R8 H7 θQ:=bf.aW p3.er hn xZ keep sq;have Ek:H7 A=some (O A zs):=xZ.go.hh _ _ sk j9;have x_:R8 A=none:=xZ.go.no _ _ sk j9 oP;have nS:=p3.trans pu;have El:¬Ow σ θQ A:=λz=>xW (nS.sh A z);obtain⟨fX,e1,e2⟩:=sf w1;have e2:dy::fX=zr:=e2;have hsplit:out (gR++dy::fX)=some rv:=by rw[e2,hys];exact hout
       have rr:=al.rr.trans xZ.go.rr;refine⟨Ek,hstep zs gR dy fX rv y R8 H7 _ (hmono _ _ _ _ hinv rr) (by omega) hsplit ry nS.er.sub λzs' hinv'=>?_⟩
       have pA:bf ios R H σ Γ R8 (upd H7 A (O A zs')) θQ:=by
        have up:∀b,b≠A->upd H7 A (O A zs') b=H7 b:=λb hb=>bh hb;refine⟨⟨λb o q=>?_,nS.er.len,λj t hj=>?_,nS.er.dj⟩,⟨nS.go.rr,λb o q n=>?_,nS.go.no,nS.go.oo,λb o q=>?_⟩,nS.sh⟩
        .rw[up b (λz=>by rw[z,x_]at q;cases q)];exact nS.er.sub b o q
        .obtain⟨v,hv,q⟩:=nS.er.sl j t hj;refine⟨v,hv,q.mono ηY λho b zs eb hb rb=>⟨?_,rb⟩⟩;rw[up b]
         .exact hb
         .rintro rfl;subst eb;exact El ⟨j,t.1,t.2,hj,ho,hv⟩
        .rw[up b (λz=>by rw[z,p1.back er A hA]at q;cases q)];exact nS.go.hh b o q n
        .by_cases hb:b=A
         .subst hb;exact⟨_,eC⟩
         .rw[up b hb];exact nS.go.th b o q
       refine⟨_,Nat.sub_lt_sub_left hlt (qa3 i),rfl,hlt,R8,_,gR++[dy],fX,pA,(s2.trans al.rr).trans xZ.go.rr,x_,e1,by rw[<-hys,<-e2];simp,hinv',by rw[List.length_append];simp;omega⟩
  .have e:ds.drop i=[]:=List.drop_eq_nil_of_le (by omega);rw[e]at hL;have hL:Res.ok [] ao=Res.ok zr qJ:=hL;cases hL;rw[qbk]at hys;subst hys;refine .inl ⟨stop (by omega),hfin zs gR R2 H2 A H Q rv hinv p2.er.sub oO tV (by omega) hout (p1.back er A hA) ηn λz H' R' al ra=>?_⟩;exact Eg z H' R' ζq (ra.rv λ_ h=>h)
 .exact False.elim w
theorem i5.back{R H0 H H':Hp}{z:V}{rv:RV}(h:i5 R H H' z rv)(s:∀b,H b=none->H0 b=none):i5 R H0 H' z rv:=by
 cases rv with
 |val d=>exact h
 |new d=>exact⟨h.1,let ⟨a,e,q⟩:=h.2; ⟨a,e,s a q⟩⟩
 |var i=>exact h
theorem Lb{β:Type}{O:Addr->β->HO}{bd:Nat}{rS:V->Hp->VK->Prop}{out:List D->Option RV}{inv:β->List D->Hp->Prop}(h:∀b ys R H A (Q:VK) rv,inv b ys R->ah R H->H A=some (O A b)->ys.length<bd->out ys=some rv->(∀z H' R',Al R H R' H'->i5 R' H H' z rv->Q z H')->rS (.ref A) H Q) :
 ∀b ys R H A H0 (Q:VK) rv,inv b ys R->ah R H->R A=none->H A=some (O A b)->ys.length<bd->out ys=some rv->H0 A=none->(∀c,H c=none->H0 c=none)->(∀z H' R',Al R H R' H'->i5 R' H0 H' z rv->Q z H')->rS (.ref A) H Q:=
 λb ys R H A H0 Q rv i s _ e l o _ bk w=>h b ys R H A Q rv i s e l o λz H' R' al ra=>w z H' R' al (ra.back bk)
theorem Lc{fr:zzc}(hn:fr.Nodup)(hi:ηw)(hg:ζe)(hk:nQ own m)(hc:jX EN ios tc p)(he:ιb):iy EE ios (DE fr own wi gt tc te) ηU:=
 Ef (O:=oL) (L:=tw) (AD:=λys y _ P=>P (ys++[y])) (rS:=λx H Q=>Q x H) (out:=λys=>some (.new γ3)) (λys ds R=>aH R ys ds) (λ_ _ _ _ h s=>h.sm s) (λ_=>.nil) (λ_ _ _ h l=>by have:=h.len;show _<_;omega)
  (λ_ _ _ _ _ _ _ _ _ h _ _ ry _ w=>w _ (h.app (.cons ry .nil))) (λb ys R H A H0 Q rv h _ hR hA _ e h0 _ w=>by cases e;exact w _ H R (Al.refl (by assumption)) ⟨⟨A,b,ys,rfl,hR,hA,rfl,h⟩,A,rfl,h0⟩) hn hi hg hk hc he
end
section
variable{X:Cx}{EE:bw}{ios:zzd}{e a b c iter tg elt:Expr}{es ifs:zza}{f g k:M RV}{fs:γn}{p:δN}{s s':M Fl}{st:Stmt}{sts jx:εb}{pos:Pos}
def UL(EE:bw)(ios:zzd)(f:M RV):TE:=λσ H Q=>∃R Γ,ER ios R H σ Γ/\cz (f Γ) (λrv Γ'=>∀x H' R',bf ios R H σ Γ R' H' Γ'->gP R' H H' σ x rv->Q x H') γU
def Ld(EE:bw)(ios:zzd)(f:δN):TT:=λσ H Q=>∃R Γ,ER ios R H σ Γ/\cz (f Γ) (λb Γ'=>∀H' R',bf ios R H σ Γ R' H' Γ'->Q b H') γU
theorem VE.pe(h:γR):PE X e (UL EE ios f):=let ⟨_,h1,h2⟩:=h;λpins s σ H Q I ⟨R,Γ,er,w⟩=>h1 pins s σ H Q I (h2 σ H R Γ Q er w)
theorem VT.pt(h:VT X EE ios e p):PT X e (Ld EE ios p):=let ⟨_,h1,h2⟩:=h;λpins s σ H Q I ⟨R,Γ,er,w⟩=>h1 pins s σ H Q I (h2 σ H R Γ Q er w)
def qM(X:Cx)(EE:bw)(ios:zzd)(ifs:zza)(p:δN):Prop:=pX X ifs (Ld EE ios p)
theorem m7:qM X EE ios [] γp:=λpins s σ H Q I ⟨R,Γ,er,w⟩=>Tt pins s σ H Q I (w H R ζH)
theorem oS(h:ηg):qM X EE ios [c] p:=Tu h.pt
noncomputable abbrev iC(X:Cx)(Nc:v6)(scope:Scope)(cl:List (Str×Addr))(C:Addr)(s3:Shared)(H3:Hp)(fp:zzd)(pn':W1):Cx:=X.blk Nc scope cl C s3 H3 fp pn' λ_ _=>False
theorem vy(hc:X.calm=true)(B:γP)(hn:fr.Nodup)(hi:δH)(hog:mO own gt)
 (hg:∀cl C s3 H3 fp pn',PG ζ tg gt) (hr:ζe) (hk:nQ own m) (ht:∀cl C s3 H3 fp pn',qM ζ EN ios ifs p) (he:∀cl C s3 H3 fp pn',VE ζ EN ios elt f)
 (hs:∀x,foldedSetIterable iter X.env x=pure x:=by intro _;rfl):VE X EE ios (.ListComp elt [⟨tg,iter,ifs,0⟩] scope pos) ηU:=
 let ⟨_,h1,h2⟩:=hi
 ⟨_,TF hc B h1 hog hg ht (λcl C s3 H3 fp pn'=>(he cl C s3 H3 fp pn').pe) hs,Lc hn h2 hr hk (λσ H R Γ Q er w=>⟨R,Γ,er,w⟩) (λσ H R Γ Q er w=>⟨R,Γ,er,w⟩)⟩
theorem Le{py spos:Pos}(hN:X.N.Nodup)(hi':X.N[i]?=some y)(hx:Loc X.env.scope y)(hc:X.calm=true)(B:γP)(hn:fr.Nodup)(hi:δH)(hog:mO own gt)
 (hg:∀cl C s3 H3 fp pn',PG ζ tg gt) (hr:ζe) (hk:nQ own m) (ht:∀cl C s3 H3 fp pn',qM ζ EN ios ifs p) (he:∀cl C s3 H3 fp pn',VE ζ EN ios elt f)
 (hs:∀x,foldedSetIterable iter X.env x=pure x:=by intro _;rfl) (hsw:swapsWith (.ListComp elt [⟨tg,iter,ifs,0⟩] scope pos) (some (.Name y py)) spos.line X.env=pure true:=by rfl)
 (hf:X.fn y=true\/X.env.scope.names.lookup y=some .local:=by first|exact .inl rfl|exact .inr rfl|assumption):VS X EE ios (.Assign [.Name y py] (.ListComp elt [⟨tg,iter,ifs,0⟩] scope pos) spos) (bN i ηU):=
 let ⟨_,h1,h2⟩:=hi
 ⟨_,TH hN hi' hx hc B h1 hog hg ht (λcl C s3 H3 fp pn'=>(he cl C s3 H3 fp pn').pe) hs hsw hf,K3 (Lc hn h2 hr hk (λσ H R Γ Q er w=>⟨R,Γ,er,w⟩) (λσ H R Γ Q er w=>⟨R,Γ,er,w⟩))⟩
inductive Rt where
 |val (d:D)|new (d:D)
noncomputable def Rt.rv:Rt->RV
 |.val d=>.val d
 |.new d=>.new d
def UM(R H:Hp)(r:Option Rt)(Q:VK):Prop:=match r with
 |some r=>∀x H' R',Al R H R' H'->i5 R' H H' x r.rv->Q x H'
 |none=>False
def bb(G:List D->Option Rt):Sp:=λvs H Q _=>∃R ds,ah R H/\aH R vs ds/\UM R H (G ds) Q
noncomputable def gam(N:v6)(ds:γd):En:=ds.map (λd=>some (.ae,d))++List.replicate (N.length-ds.length) none
noncomputable def bC:Res Fl->Option Rt
 |.ok .nx _=>some δw
 |.ok (.ret (.val d)) _=>some εI
 |.ok (.ret (.new d)) _=>some (.new d)
 |.ok (.ret (.var i)) Γ=>match Γ[i]? with
   |some (some (.own,d))=>some (.new d)
   |some (some (.ae,d))=>some εI
   |_=>none
 |_=>none
theorem Bg{N:v6}{ds:γd}{i:Nat}{t:Kd×D}(h:(gam N ds)[i]?=some (some t)):∃d,ds[i]?=some d/\t=(.ae,d):=by
 unfold gam at h;by_cases hi:i<ds.length
 .rw[qa8 (by rw[qaf];exact hi),qaB,qah hi]at h;cases h;exact⟨_,qah hi,rfl⟩
 .rw[qbw (by rw[qaf];omega),qbE]at h;split at h<;>cases h
theorem Lf{N:v6}{vs:γB}{i:Nat}{v:V}(h:vs[i]?=some v):(L2.start N vs)[i]?=some δQ:=by unfold L2.start;have hi:=(qad.mp h).1;rw[qa8 (by rw[qaf];exact hi),qaB,h];rfl
theorem Bh{N:v6}{R H:Hp}{vs:γB}{ds:γd}(s:ηZ)(h:aH R vs ds):ER [] R H (L2.start N vs) δv where
 sub:=s
 len:=by unfold L2.start gam;simp[h.len]
 sl:=λi t q=>by obtain⟨d,hd,rfl⟩:=Bg q;obtain⟨x,hx,rx⟩:=h.ta hd;exact⟨x,Lf hx,rx⟩
 dj:=λi j k l d e b q1 q2 _ _ _ _=>by obtain⟨_,_,z⟩:=Bg q1;cases z;cases q2
theorem Bi{N:v6}{σ:St}{ds:γd}{b:Addr}:¬Ow σ δv b:=by rintro⟨i,k,d,q1,q2,_⟩;obtain⟨_,_,z⟩:=Bg q1;cases z;cases q2
theorem br.al(p:br ios R H σ δv R' H' aB Γ'):Al R H R' H':=⟨p.er.sub,p.go.rr,λb o h=>p.go.hh b o h Bi,λb o h r=>p.go.no b o h Bi r⟩
theorem Em{P:Program}{w:World}{K:zze}{mg:M2}{base:Heap}{x qual:Str}{fa:Addr}{fd:FuncData}{N ps:v6}{k:Nat}{G:List D->Option Rt}{bm:M Fl}(F:θ3)(S:ζJ)
 (hb:∀(cdv:Value) (A:Around) (outer:δq) (s:Shared) (H:Hp) (E:XK),az k γr->b7 (iY iZ P w K mg base N qual γZ fa cdv A outer s H E).qu EN [] ηv bm)
 (h:∀ds r,G ds=some r->ds.length=ps.length/\bC ηW=some r):bz P w K mg base iZ (k+1) fa fd ps δL:=by
 refine F.ok S (λvs H Q E q=>?_) (λcdv A outer s H vs Q E hr q=>?_)
 .obtain⟨R,ds,_,h2,h3⟩:=q;cases e:G ds with
  |none=>rw[e]at h3;exact h3.elim
  |some r=>rw[h2.len];exact(h ds r e).1
 .obtain⟨R,ds,h1,h2,h3⟩:=q;cases e:G ds with
  |none=>rw[e]at h3;exact h3.elim
  |some r =>
    rw[e]at h3;obtain⟨t,b1,b2⟩:=hb cdv A outer s H E hr;refine⟨t,b1,b2 _ H R _ _ (Bh h1 h2) ?_⟩;have fin:=(h ds r e).2;cases q:bm δv with
    |st=>rw[q]at fin;cases fin
    |ex _ _=>rw[q]at fin;cases fin
    |ok fl Γ' =>
      rw[q]at fin;refine oN λaB H' R' p=>?_;cases fl with
      |brk=>cases fin
      |cont=>cases fin
      |nx=>cases fin;exact h3 .ax H' R' p.al .ax
      |ret rv =>
        intro y hy;cases rv with
        |val d=>cases fin;exact h3 y H' R' p.al hy
        |new d=>cases fin;exact h3 y H' R' p.al hy
        |var i =>
          have fin:(match Γ'[i]? with
           |some (some (.own,d))=>some (Rt.new d)
           |some (some (.ae,d))=>some εI
           |_=>none)=some r:=fin
          split at fin
          .rename_i d hs;cases fin;obtain⟨v,hv,sl⟩:=p.er.sl i _ hs;have hy:aB[i]?=some (some y):=hy;rw[hy]at hv;cases hv;obtain⟨a,xs,ds',rfl,r1,r2,r3,r4⟩:=sl;refine h3 _ H' R' p.al ⟨⟨a,xs,ds',rfl,r1,r2,r3,r4⟩,a,rfl,?_⟩;exact(p.go.oo a ⟨i,.own,d,hs,rfl,hy⟩).elim (λz=>absurd z Bi) id
          .rename_i d hs;cases fin;obtain⟨v,hv,sl⟩:=p.er.sl i _ hs;have hy:aB[i]?=some (some y):=hy;rw[hy]at hv;cases hv;exact h3 _ H' R' p.al sl
          .cases fin
mutual
noncomputable def qN:D->Bool
 |.ax=>true
 |.bl _=>true
 |.int _=>true
 |.str _=>true
 |.tup xs=>j_ xs
 |_=>false
noncomputable def j_:List D->Bool
 |[]=>true
 |d::r=>qN d&&j_ r
end
def jy:Rt->Bool
 |.val d=>qN d
 |.new (.lst ds)=>j_ ds
 |.new _=>false
noncomputable def m8:RV->Bool
 |.var _=>true
 |_=>false
theorem Rp.sr{R R':Hp}(h:∀b xs,R b=some γN->R' b=some γN):(∀{x d},Rp R x d->qN d=true->Rp R' x d)/\∀{xs ds},aH R xs ds->j_ ds=true->aH R' xs ds:=by
 refine Rp.ind (m:=λx d=>qN d=true->Rp R' x d) (λ_=>.ax) (λb _=>.bl b) (λi _=>.int i) (λx _=>.str x) ?_ (λe q z=>.tup (h _ _ e) (q (by simpa [qN]using z))) ?_ ?_ ?_ ?_ ?_ (λ_=>.nil) (λa b z=>?_)
 iterate 6 simp[qN]
 have z:=Bool.and_eq_true_iff.mp (show(qN _&&j_ _)=true from by simpa only [j_]using z);exact .cons (a z.1) (b z.2)
theorem Rp.less(h:∀b xs,R b=some γN->R' b=some γN):Rp R x d->qN d=true->Rp R' x d:=(Rp.sr h).1
theorem aH.less(h:∀b xs,R b=some γN->R' b=some γN):aH R xs ds->j_ ds=true->aH R' xs ds:=(Rp.sr h).2
def cb(G:List D->Option Rt)(fs:γn):M RV:=M.bind fs λrvs=>M.bind θD λds=>match G ds with
 |some r=>if rvs.any m8&& !jy r then M.bind δh λds'=>M.dH ((G ds').map Rt.rv) else M.pure r.rv
 |none=>M.st
open Classical in
def lent(O:Addr->Prop)(R H:Hp):Hp:=λb=>if O b then H b else R b
theorem Eo(s:ηZ):ah (lent O R H) H:=λb o e=>by
 unfold lent at e;split at e
 .exact e
 .exact s b o e
theorem UN(h:∀b,O b->R b=none):ah R (lent O R H):=λb o e=>by
 unfold lent;split
 .rename_i z;rw[h b z]at e;cases e
 .exact e
theorem Pks.lent(er:γw):∀{xs:γB}{rvs:θt}{ds:γd},gc R σ xs rvs->Pks R H xs ds->fz rvs Γ=.ok ds Γ->aH (lent (Ow σ Γ) R H) xs ds:=by
 have ss:ah R (Dv.lent (Ow σ Γ) R H):=UN λb z=>(er.ow z).1;intro xs rvs;induction rvs generalizing xs with
 |nil=>intro ds h1 h2 _;cases h1;cases h2;exact .nil
 |cons rv r ih =>
   intro ds h1 h2 h3;cases h1 with
   |cons a b =>
     cases h2 with
     |cons c d =>
       unfold fz M.bind at h3;cases q:peek rv Γ with
       |ex _ _=>rw[q]at h3;cases h3
       |st=>rw[q]at h3;cases h3
       |ok d0 fw =>
         have e0:fw=Γ:=by
          cases rv with
          |val _=>cases q;rfl
          |new _=>cases q;rfl
          |var i=>unfold peek at q;dsimp only at q;split at q<;>cases q;rfl
         subst e0;rw[q]at h3;dsimp only at h3;cases q2:fz r fw with
         |ex _ _=>rw[q2]at h3;cases h3
         |st=>rw[q2]at h3;cases h3
         |ok A7 ai =>
           rw[q2]at h3;cases h3;refine .cons ?_ (ih b d q2);cases rv with
           |val d'=>cases q;exact Rp.sm ss a
           |new d'=>exact a.elim
           |var i =>
             unfold peek at q;dsimp only at q;split at q
             .rename_i kd d' hs;cases q;obtain⟨v,hv,sl⟩:=er.sl i _ hs;have a:σ[i]?=some (some _):=a;rw[a]at hv;cases hv;cases kd with
              |ae=>exact Rp.sm ss sl
              |own =>
                obtain⟨ad,ys,es,rfl,r1,r2,rfl,r4⟩:=sl;refine .lst ?_ (r4.sm ss);unfold Dv.lent;rw[qaF ⟨i,.own,_,hs,rfl,a⟩];exact r2
              |io n =>
                obtain⟨⟨ad,ys,es,rfl,r1,r2,rfl,r4⟩,_⟩:=sl;refine .lst ?_ (r4.sm ss);unfold Dv.lent;rw[qaF ⟨i,.io n,_,hs,rfl,a⟩];exact r2
             .cases q
theorem Lg:∀{rvs:θt}{ds:γd},fz rvs Γ=.ok ds Γ'->Γ'=Γ:=by
 intro rvs;induction rvs with
 |nil=>intro ds h;cases h;rfl
 |cons rv r ih =>
   intro ds h;unfold fz M.bind at h;cases q:peek rv Γ with
   |ex _ _=>rw[q]at h;cases h
   |st=>rw[q]at h;cases h
   |ok d0 fw =>
     have e0:fw=Γ:=by
      cases rv with
      |val _=>cases q;rfl
      |new _=>cases q;rfl
      |var i=>unfold peek at q;dsimp only at q;split at q<;>cases q;rfl
     subst e0;rw[q]at h;dsimp only at h;cases q2:fz r fw with
     |ex _ _=>rw[q2]at h;cases h
     |st=>rw[q2]at h;cases h
     |ok A7 ai=>rw[q2]at h;cases h;exact ih q2
theorem Lh:∀{xs:γB}{rvs:θt}{ds:γd},gc R σ xs rvs->rvs.any m8=false->fz rvs Γ=.ok ds Γ->aH R xs ds:=by
 intro xs rvs;induction rvs generalizing xs with
 |nil=>intro ds h1 _ h3;cases h1;cases h3;exact .nil
 |cons rv r ih =>
   intro ds h1 h2 h3;rw[List.any_cons,Bool.or_eq_false_iff]at h2;cases h1 with
   |cons a b =>
     cases rv with
     |var i=>cases h2.1
     |new d=>exact a.elim
     |val d =>
       have h3:M.bind (fz r) (λds=>M.pure (d::ds)) Γ=.ok ds Γ:=h3;unfold M.bind at h3;cases q2:fz r Γ with
       |ex _ _=>rw[q2]at h3;cases h3
       |st=>rw[q2]at h3;cases h3
       |ok A7 ai =>
         have:=Lg q2;subst this;rw[q2]at h3;cases h3;exact .cons a (ih b h2.2 q2)
theorem UO:∀{rvs:θt},fz rvs Γ≠.ex x Γ':=by
 intro rvs;induction rvs with
 |nil=>intro h;cases h
 |cons rv r ih =>
   intro h;unfold fz M.bind at h;cases q:peek rv Γ with
   |ex _ _ =>
     cases rv with
     |val _=>cases q
     |new _=>cases q
     |var i=>unfold peek at q;dsimp only at q;split at q<;>cases q
   |st=>rw[q]at h;cases h
   |ok d0 fw =>
     have e0:fw=Γ:=by
      cases rv with
      |val _=>cases q;rfl
      |new _=>cases q;rfl
      |var i=>unfold peek at q;dsimp only at q;split at q<;>cases q;rfl
     subst e0;rw[q]at h;dsimp only at h;cases q2:fz r fw with
     |ex _ _=>exact ih (by rw[q2]at h;cases h;exact q2)
     |st=>rw[q2]at h;cases h
     |ok A7 ai=>rw[q2]at h;cases h
theorem Ep(w:cz (fz rvs Γ) K E):∃ds,fz rvs Γ=.ok ds Γ/\K ds Γ:=by
 cases q:fz rvs Γ with
 |ex _ _=>exact absurd q UO
 |st=>rw[q]at w;exact False.elim w
 |ok ds Γ' =>
   have:=Lg q;subst this;rw[q]at w;exact⟨ds,rfl,w⟩
open Classical in
def ya(O:Addr->Prop)(R:Hp):Hp:=λb=>if O b then none else R b
theorem tW{O:Addr->Prop}{R':Hp}{b:Addr}(z:¬O b):ya O R' b=R' b:=qaC z
theorem Er{O:Addr->Prop}{R':Hp}{b:Addr}(z:O b):ya O R' b=none:=qaF z
theorem Bj{R1 H1 R' H':Hp}{σ:St}{ai:En}(er:ER ios R1 H1 σ ai)(al:Al (lent ζv R1 H1) H1 R' H'):Al R1 H1 (ya ζv R') H'/\∀b ys,R' b=some (.tup ys)->ya ζv R' b=some (.tup ys):=by
 refine⟨⟨λb o z=>?_,λb o z=>?_,al.hh,λb o hb rb=>?_⟩,λb ys z=>?_⟩
 .by_cases nb:Ow σ ai b
  .rw[Er nb]at z;cases z
  .rw[tW nb]at z;exact al.sub b o z
 .have nb:¬Ow σ ai b:=λq=>by rw[(er.ow q).1]at z;cases z
  rw[tW nb];apply al.rr;unfold lent;rw[qaC nb];exact z
 .by_cases nb:Ow σ ai b
  .exact Er nb
  .rw[tW nb];apply al.no b o hb;unfold lent;rw[qaC nb];exact rb
 .rw[tW λo=>?_]
  .exact z
  .obtain⟨_,zs,hz⟩:=er.ow o;have:=al.sub _ _ z;rw[al.hh _ _ hz]at this;cases this
theorem Li{R1 H1 R' H' R H:Hp}{σ:St}{Γ ai:En}{x:V}{r:Rt}(er:γw)(p1:γY)(al:Al (lent ζv R1 H1) H1 R' H')(jz:jy r=true)(ra:i5 R' H1 H' x r.rv):gP (ya ζv R') H H' σ x r.rv:=by
 have tup:=(Bj p1.er al).2;cases r with
 |val d=>exact Rp.less tup ra jz
 |new d =>
   cases d with
   |lst zs =>
     obtain⟨⟨a,ys,lP,rfl,r1,r2,r3,r4⟩,a',ea,hf⟩:=ra;cases ea;cases r3;refine⟨⟨a,ys,zs,rfl,?_,r2,rfl,r4.less tup jz⟩,a,rfl,p1.back er a hf⟩;by_cases nb:Ow σ ai a
     .exact Er nb
     .rw[tW nb];exact r1
   |_=>cases jz
theorem UP(hp:∀t,PA X es t->PE X e0 (Jr δL [] E0 t))(ha:δk):VE X EE ios e0 (cb G fs):=by
 obtain⟨t,h1,h2⟩:=ha;refine⟨_,hp t h1,λσ H R Γ Q er w=>?_⟩;unfold cb at w;rw[aC]at w;refine h2 σ H R Γ _ er (a6 w (λrvs ai w xs H1 R1 p1 hx=>?_) λ_ _ z=>z);show bb G (xs++[]) H1 Q E0;rw[qbk];rw[aC]at w;obtain⟨ds,q,w⟩:=Ep w;obtain⟨ds',pk,e⟩:=xJ (K:=λds' _=>ds'=ds) (E:=λ_ _=>False) p1.er hx (by rw[q];exact rfl);subst e;cases hG:G ds' with
 |none=>rw[hG]at w;exact False.elim w
 |some r =>
   rw[hG]at w;dsimp only at w;by_cases hv:rvs.any m8=true
   .by_cases jz:jy r=true
    .rw[hv,jz]at w;have w:∀x H' R',bf ios R H σ Γ R' H' ai->gP R' H H' σ x r.rv->Q x H':=w;refine⟨lent ζv R1 H1,ds',Eo p1.er.sub,Pks.lent p1.er hx pk q,?_⟩;rw[hG];intro x H' R' al ra;exact w x H' _ (p1.al (Bj p1.er al).1) (Li er p1 al jz ra)
    .have jz:jy r=false:=by cases z:jy r<;>simp_all
     rw[hv,jz]at w;have w:cz (M.bind δh (λds'=>M.dH ((G ds').map Rt.rv)) ai) _ _:=w;rw[aC]at w;obtain⟨lP,ao,R2,p2,s2,r2,w⟩:=nL er p1 hx w;obtain⟨rv,hrv,w⟩:=jW w;refine⟨R2,lP,p2.er.sub,r2,?_⟩;cases oU:G lP with
     |none=>rw[oU]at hrv;cases hrv
     |some r' =>
       rw[oU]at hrv;cases hrv;exact λx H' R' al ra=>w x H' R' ζq (ra.rv ηn)
   .have hv:rvs.any m8=false:=by cases z:rvs.any m8<;>simp_all
    rw[hv]at w;have w:∀x H' R',bf ios R H σ Γ R' H' ai->gP R' H H' σ x r.rv->Q x H':=w;refine⟨R1,ds',p1.er.sub,Lh hx hv q,?_⟩;rw[hG];exact λx H' R' al ra=>w x H' R' (p1.al al) θL
end
def At(mg:M2)(x:Str)(st:Stmt):Prop:=∃f fd,mM KC.K x x st f fd/\mg x=some γ7/\W.keepIn KC.K γ7=true
def cc(P:Program)(w:World)(mg:M2)(base:Heap)(x:Str)(k:Nat)(ps:v6)(sp:Sp):Prop:=∃f fd,bz P w KC.K mg base iZ k f fd ps sp/\mg x=some γ7/\W.keepIn KC.K γ7=true/\Binds KC.K fd ps []
section
variable{X:Cx}{EE:bw}{ios:zzd}{e:Expr}{es:zza}{fs:γn}{x:Str}{k:Nat}{ps:v6}{p pos:Pos}{st:Stmt}
theorem cY(C:cc X.prog X.w X.mg X.base x k ps δL)(hr:γX)(hg:ζD)(ha:VA X EE ios (e::es) fs)(hK:X.K=KC.K:=by rfl)(hdb:(x == ("__debug__":Str))=false:=by decide)
 (he:starEach (e::es) X.env=(false,eval e X.env)::starEach es X.env:=by rfl) (hpl:(backTo pos γc).any (·.1)=false:=by rfl):VE X EE ios (.Call δx (e::es) [] pos) (cb G fs):=by obtain⟨f,fd,F,hm,hk,hb⟩:=C;rw[<-hK]at F hk hb;exact UP (λt h=>RK F hr hg hm hk hb .nil Dn h hdb he hpl) ha
theorem gJ(A0:At mg x st)(S:ζJ)
 (bd:∀(kV doc pm:Value) (an:γ8) (cdv ct:Value) (us:v4),us.length=ps.length->bindArgs δF ⟨us,[]⟩=pure εX)
 (hb:∀(fa:Addr) (cdv:Value) (A:Around) (outer:δq) (s:Shared) (H:Hp) (E:XK),az k δz->b7 (iY iZ P w KC.K mg base N x γZ fa cdv A outer s H E).qu EN [] ηv bm)
 (h:∀ds r,G ds=some r->ds.length=ps.length/\bC ηW=some r):cc P w mg base x (k+1) ps δL:=
 let ⟨f,fd,F,hm,hk⟩:=A0
 ⟨f,fd,Em F S (hb f) h,hm,hk,F.binds bd⟩
theorem UQ:PE X (.UnaryOp .USub (.Constant γT j p1) p2) (tC (.int (-i))):=λpins s σ H Q I h=>IZ Jb Ay pins s σ H Q I ⟨i,rfl,h⟩
noncomputable def Es(sc scope:Scope)(N Nc:v6)(own:Nat)(fr:zzc):Bool:=
 decide (Nc.length=own+fr.length)&&decide (scope.kind=.function)&&scope.names.all (λy=>decide (y.2≠.cell))&&scope.names.all (λy=>decide (y.2=.local->scope.names.lookup y.1=some .local))&&
 scope.names.all (λy=>decide (y.2=.free->sc.names.lookup y.1=some .cell\/sc.names.lookup y.1=some .free))&&
 (List.range fr.length).all λk=>match fr[k]?,Nc[own+k]? with
  |some j,some x=>decide (N[j]?=some x)&&decide (sc.names.lookup x=some .cell\/sc.names.lookup x=some .free)&&decide (scope.names.lookup x=some .free)
  |_,_=>true
omit [KC] in
theorem oV{X:Cx}(hs:X.env.scope=sc)(hN:X.N=N)(h:Es sc scope N Nc own fr=true):gH X scope Nc own fr:=by subst hs hN;unfold Es at h;simp only[Bool.and_eq_true,decide_eq_true_eq,List.all_eq_true]at h;obtain⟨⟨⟨⟨⟨h1,h2⟩,h3⟩,h4⟩,h5⟩,h6⟩:=h;refine⟨h1,λk j x e1 e2=>?_,h2,h3,h4,λx hx=>h5 _ hx rfl⟩;have hk:k<fr.length:=(qad.mp e1).1;have z:=h6 k (qbF.mpr hk);rw[e1,e2]at z;simp only[Bool.and_eq_true,decide_eq_true_eq]at z;exact⟨z.1.1,z.1.2,z.2⟩
end
section
variable{X:Cx}{EE:bw}{ios:zzd}{e a b c:Expr}{f g k:M RV}{pos p:Pos}{x:Str}{ps:v6}{kk:Nat}
theorem yb(h:∃t,X.mg x=some (.int i t))(hg:ζD)(hd:(x == ("__debug__":Str))=false:=by decide):VE X EE ios εh (M.pure (.val γT)):=
 let ⟨t,h⟩:=h;xu (IK (v:=.int i) hg h ⟨t,rfl⟩ hd) λ_=>.int i
noncomputable def fZ:u8->Int
 |[]=>0
 |[n]=>n
 |n::r=>max n (fZ r)
noncomputable def mw:u8->Int
 |[]=>0
 |[n]=>n
 |n::r=>min n (mw r)
theorem Et:∀{ns:u8},ns≠[]->fZ ns∈ns/\∀a∈ns,a<=fZ ns
 |[],h=>absurd rfl h
 |[n],_=>⟨by simp[fZ],λa ha=>by simp at ha;simp[fZ,ha]⟩
 |n::m::r,_=>by
   obtain⟨h1,h2⟩:=Et (ns:=m::r) (by simp);have e:fZ (n::m::r)=max n (fZ (m::r)):=rfl;rw[e];refine⟨?_,λa ha=>?_⟩
   .by_cases q:n<=fZ (m::r)
    .rw[Int.max_eq_right q];exact qae _ h1
    .rw[Int.max_eq_left (by omega)];exact qag ..
   .rcases qak.1 ha with rfl|ha
    .omega
    .have:=h2 a ha;omega
theorem Lj:∀{ns:u8},ns≠[]->mw ns∈ns/\∀a∈ns,mw ns<=a
 |[],h=>absurd rfl h
 |[n],_=>⟨by simp[mw],λa ha=>by simp at ha;simp[mw,ha]⟩
 |n::m::r,_=>by
   obtain⟨h1,h2⟩:=Lj (ns:=m::r) (by simp);have e:mw (n::m::r)=min n (mw (m::r)):=rfl;rw[e];refine⟨?_,λa ha=>?_⟩
   .by_cases q:n<=mw (m::r)
    .rw[Int.min_eq_left q];exact qag ..
    .rw[Int.min_eq_right (by omega)];exact qae _ h1
   .rcases qak.1 ha with rfl|ha
    .omega
    .have:=h2 a ha;omega
def Bk:List D->Option RV
 |[.lst ds]=>match iA ds with
   |some (n::r)=>some (.val (.int (fZ (n::r))))
   |_=>none
 |_=>none
theorem UR:mW (λxs H Q=>∃(p:Addr) (ns:u8),xs=[.ref p]/\H p=some ηM/\0<ns.length/\∀M∈ns,(∀a∈ns,a<=M)->Q (.int M) H) Bk:=by
 intro R H xs ds rv Q s px hg q;unfold Bk at hg;split at hg
 .split at hg
  .rename_i l n r h;cases hg;obtain⟨x,rfl,p⟩:=px.one;obtain⟨a,ys,rfl,h1,h2⟩:=p.lst s;rw[nN h]at h2;rw[h2.cU]at h1;refine⟨a,n::r,rfl,h1,by simp,λM hM hle=>?_⟩;obtain⟨m1,m2⟩:=Et (ns:=n::r) (by simp);have:M=fZ (n::r):=Int.le_antisymm (m2 M hM) (hle _ m1);rw[this];exact q _ H R γi δY
  .cases hg
 .cases hg
end
noncomputable def ba(n:Nat)(N:v6)(bm:M Fl):List D->Option Rt:=λds=>if ds.length=n then bC ηW else none
theorem eJ(h:ba n N bm ds=some r):ds.length=n/\bC ηW=some r:=by
 unfold ba at h;split at h
 .rename_i q;exact⟨q,h⟩
 .cases h
end Dv
namespace Dv
open PySem L2 Ex
section
variable{α β:Type}{Γ Γ':En}{f g k:M RV}{fs:γn}{p q:δN}{s s':M Fl}{d:D}{i:Nat}
@[simp] theorem Eu:M.pure a Γ=.ok a Γ:=(rfl)
@[simp] theorem US{f:M α}{g:α->M β}:M.bind f g Γ=match f Γ with
 |.ok a Γ'=>g a Γ'
 |.ex x Γ'=>.ex x Γ'
 |.st=>.st:=(rfl)
@[simp] theorem Ew:M.dH ιd Γ=.ok a Γ:=(rfl)
@[simp] theorem Ey:Zj i Γ=match Γ[i]? with
 |some (some (.ae,d))=>.ok εI Γ
 |some (some _)=>.ok ιp Γ
 |_=>.st:=(rfl)
@[simp] theorem Bl:peek εI Γ=.ok d Γ:=(rfl)
@[simp] theorem Bm:peek (.new d) Γ=.ok d Γ:=(rfl)
@[simp] theorem Bn:peek ιp Γ=match Γ[i]? with
 |some (some (_,d))=>.ok d Γ
 |_=>.st:=(rfl)
@[simp] theorem Ez:mat εI Γ=.ok d Γ:=(rfl)
@[simp] theorem EA:mat (.new d) Γ=.ok d Γ:=(rfl)
@[simp] theorem EB:mat ιp Γ=match Γ[i]? with
 |some (some (_,d))=>.ok d (Γ.set i (some (.ae,d)))
 |_=>.st:=(rfl)
@[simp] theorem Lk:op1 o f Γ=M.bind f (λx=>M.bind εu λd=>M.dH (o d)) Γ:=(rfl)
@[simp] theorem Ll:op2 o f g Γ=M.bind f (λx=>M.bind g λy=>M.bind εu λd=>M.bind (peek y) λe=>M.dH (o d e)) Γ:=(rfl)
@[simp] theorem Lm:jO o o' f g k Γ=M.bind f (λx=>M.bind g λy=>M.bind εu λd=>M.bind (peek y) λe=>M.bind (M.bind (M.dH (o d e)) aM) λq =>
 if q then M.bind k λz=>M.bind (peek y) λe'=>M.bind (peek z) λu=>M.dH (o' e' u) else M.pure γe) Γ:=(rfl)
@[simp] theorem Ln:aM θF Γ=.ok b Γ:=(rfl)
@[simp] theorem UT:ft p Γ=M.bind p (λb=>M.pure (!b)) Γ:=(rfl)
@[simp] theorem Lo:andM p q Γ=M.bind p (λb=>if b then q else M.pure false) Γ:=(rfl)
@[simp] theorem UU:orM p q Γ=M.bind p (λb=>if b then M.pure true else q) Γ:=(rfl)
@[simp] theorem EC:xy p Γ=M.bind p (λb=>M.pure θF) Γ:=(rfl)
@[simp] theorem ED:j4 f g Γ=M.bind ζa (λb=>if b then g else M.pure γe) Γ:=(rfl)
@[simp] theorem Lp:xA f g Γ=M.bind ζa (λb=>if b then M.pure γa else g) Γ:=(rfl)
@[simp] theorem EF:xB p f g Γ=M.bind p (λb=>if b then f else g) Γ:=(rfl)
@[simp] theorem Lq:nK f Γ=match f Γ with
 |.ok (.var i) Γ'=>.ok ιp Γ'
 |.ok (.val d) Γ'=>.ok εI Γ'
 |.ok (.new d) Γ'=>.ok εI Γ'
 |.ex x Γ'=>.ex x Γ'
 |.st=>.st:=by
 unfold nK M.bind;cases f Γ with
 |ok rv Γ'=>cases rv<;>rfl
 |ex _ _=>rfl
 |st=>rfl
@[simp] theorem EG:ZY f fs Γ=M.bind (nK f) (λx=>M.bind fs λxs=>M.pure (x::xs)) Γ:=(rfl)
@[simp] theorem EH:eQ [] Γ=.ok [] Γ:=(rfl)
@[simp] theorem EI:eQ (rv::r) Γ=M.bind εF (λd=>M.bind (eQ r) λds=>M.pure (d::ds)) Γ:=(rfl)
@[simp] theorem Bo:fz [] Γ=.ok [] Γ:=(rfl)
@[simp] theorem Bq:fz (rv::r) Γ=M.bind (peek rv) (λd=>M.bind (fz r) λds=>M.pure (d::ds)) Γ:=(rfl)
@[simp] theorem Lr:bc fs Γ=M.bind fs (λrvs=>M.bind δh λds=>if ds.length<=sizeLine then M.pure (.new εl) else M.st) Γ:=(rfl)
@[simp] theorem Ls:dC fs Γ=M.bind fs (λrvs=>M.bind δh λds=>if ds.length<=sizeLine then M.pure (.val ηI) else M.st) Γ:=(rfl)
@[simp] theorem Lu{g:List D->Option RV}:cN g fs Γ=M.bind fs (λrvs=>M.bind θD λds=>M.dH (g ds)) Γ:=(rfl)
@[simp] theorem Lv:qH T f Γ=M.bind (nK f) (λx=>M.bind εu λd=>M.dH (xO T d)) Γ:=(rfl)
@[simp] theorem Lw:i6 o f lo hi Γ=M.bind f (λx=>M.bind lo λl=>M.bind hi λu=>M.bind εu λd=>M.dH (o d l u)) Γ:=(rfl)
@[simp] theorem Lx:jQ (.val θI) Γ=.ok (some n) Γ:=(rfl)
@[simp] theorem Ly:tS i m fs Γ=M.bind (recv i) (λ_=>M.bind fs λrvs=>M.bind δh λes=>xP i m es) Γ:=(rfl)
@[simp] theorem EJ:recv i Γ=match Γ[i]? with
 |some (some (kd,.lst _))=>if owned kd then .ok () Γ else .st
 |_=>.st:=(rfl)
@[simp] theorem Br:xP i m es Γ=match Γ[i]? with
 |some (some (kd,.lst ds))=>if owned kd then match m ds es with
   |some (ds',res)=>.ok (.val res) (Γ.set i (some (kd,.lst ds')))
   |none=>.st else .st
 |_=>.st:=(rfl)
@[simp] theorem Lz:owned .own=true:=(rfl)
@[simp] theorem UW:aP s s' Γ=match s Γ with
 |.ok .nx Γ'=>s' Γ'
 |.ok fl Γ'=>.ok fl Γ'
 |.ex x Γ'=>.ex x Γ'
 |.st=>.st:=by
 unfold aP M.bind;cases s Γ with
 |ok fl Γ'=>cases fl<;>rfl
 |ex _ _=>rfl
 |st=>rfl
@[simp] theorem EK:k9 f Γ=M.bind f (λ_=>M.pure .nx) Γ:=(rfl)
@[simp] theorem LA:bR f Γ=M.bind f (λrv=>M.pure ζ9) Γ:=(rfl)
@[simp] theorem UX:cW p s s' Γ=M.bind p (λb=>if b then s else s') Γ:=(rfl)
@[simp] theorem LB:bN i f Γ=match f Γ with
 |.ok (.new d) Γ'=>.ok .nx (Γ'.set i (some (.own,d)))
 |.ok (.val d) Γ'=>.ok .nx (Γ'.set i (some (.ae,d)))
 |.ok (.var j) Γ'=>M.bind (mat (.var j)) (λd=>M.bind (qc i (.ae,d)) λ_=>M.pure .nx) Γ'
 |.ex x Γ'=>.ex x Γ'
 |.st=>.st:=by
 unfold bN M.bind;cases f Γ with
 |ok rv Γ' =>
   cases rv with
   |var j=>dsimp only[M.bind];cases mat (.var j) Γ'<;>rfl
   |_=>rfl
 |ex _ _=>rfl
 |st=>rfl
@[simp] theorem EL:qc i t Γ=.ok () (Γ.set i (some t)):=(rfl)
@[simp] theorem EM:qd m f Γ=M.bind f (λrv=>M.bind εF λd=>M.bind ηA λ_=>M.pure .nx) Γ:=(rfl)
@[simp] theorem m9:mv m Γ=match m Γ with
 |.ok a Γ'=>.ok a Γ'
 |_=>.st:=(rfl)
@[simp] theorem UY:gN i d Γ=.ok () (Γ.set i (some (.ae,d))):=(rfl)
@[simp] theorem LC:cX [] Γ=.ok () Γ:=(rfl)
@[simp] theorem LD:a7 m ms (d::r) Γ=M.bind (m d) (λ_=>ms r) Γ:=(rfl)
@[simp] theorem UZ:gT n ms ηI Γ=(if ds.length=n then ms ds else M.st) Γ:=(rfl)
@[simp] theorem U0:forM items m s Γ=M.bind items (λds=>gX m s ds) Γ:=(rfl)
@[simp] theorem LF:gX m s [] Γ=.ok .nx Γ:=(rfl)
theorem k_:gX m s (d::r) Γ=match mv (m d) Γ with
 |.ok _ ai=>match s ai with
   |.ok .nx ao=>gX m s r ao
   |.ok .cont ao=>gX m s r ao
   |.ok .brk ao=>.ok .nx ao
   |.ok (.ret rv) ao=>.ok ζ9 ao
   |.ex x ao=>.ex x ao
   |.st=>.st
 |.ex x ai=>.ex x ai
 |.st=>.st:=by
 show xS m s (gX m s r) d Γ=_;unfold xS M.bind;cases mv (m d) Γ with
 |ok a ai =>
   dsimp only;cases s ai with
   |ok fl ao=>cases fl<;>rfl
   |ex _ _=>rfl
   |st=>rfl
 |ex _ _=>rfl
 |st=>rfl
theorem LG:m6 p s (n+1) Γ=match p Γ with
 |.ok true ai=>(match s ai with
   |.ok .nx ao=>m6 p s n ao
   |.ok .cont ao=>m6 p s n ao
   |.ok .brk ao=>.ok .nx ao
   |.ok (.ret rv) ao=>.ok ζ9 ao
   |.ex x ao=>.ex x ao
   |.st=>.st)
 |.ok false ai=>.ok .nx ai
 |.ex x ai=>.ex x ai
 |.st=>.st:=by
 show M.bind p _ Γ=_;unfold M.bind;cases p Γ with
 |ok b ai =>
   cases b with
   |false=>rfl
   |true =>
     show M.bind s _ ai=_;unfold M.bind;dsimp only;cases s ai with
     |ok fl ao=>cases fl<;>rfl
     |ex _ _=>rfl
     |st=>rfl
 |ex _ _=>rfl
 |st=>rfl
@[simp] theorem EO:et f Γ=M.bind f (λrv=>M.bind εF λd=>match d with
 |.lst ds=>M.pure ds
 |.dW ns=>M.pure εn
 |_=>M.st) Γ:=(rfl)
@[simp] theorem ES:qI fs Γ=M.bind fs (λrvs=>M.bind δh λds=>match ds with
 |[.lst ds]=>M.pure (lN ds)
 |_=>M.st) Γ:=(rfl)
@[simp] theorem ET:Ba fs Γ=M.bind fs (λrvs=>match rvs with
 |[.val (.int j)]=>if small j then M.pure (nP 0 j.toNat) else M.st
 |_=>M.st) Γ:=(rfl)
@[simp] theorem Bs:cb G fs Γ=M.bind fs (λrvs=>M.bind θD λds=>match G ds with
 |some r=>if rvs.any m8&& !jy r then M.bind δh λds'=>M.dH ((G ds').map Rt.rv) else M.pure r.rv
 |none=>M.st) Γ:=(rfl)
@[simp] theorem LH:(Rt.val d).rv=.val d:=(rfl)
@[simp] theorem LI:(Rt.new d).rv=.new d:=(rfl)
@[simp] theorem LJ:m8 εI=false:=(rfl)
@[simp] theorem EU:m8 ιp=true:=(rfl)
end
@[simp] theorem Bt(h:0<j):j7 γT ηu=some (.val (.int (i % j))):=by show(if cd (0<j)=true then _ else _)=_;rw[qaF (gf h)]
@[simp] theorem vz(h:0<j)(h':j<1073741824):A1 γT ηu=some (.val (.int (i/j))):=by show(if cd (0<j/\j<1073741824)=true then _ else _)=_;rw[qaF (gf ⟨h,h'⟩)]
@[irreducible] noncomputable def vA:Int:=1000000000000000000
theorem U1:xH (.int 10) (.int 18)=some (.val (.int vA)):=by
 show(if cd ((0:Int)<=18/\(18:Int)<=1000000/\(10:Int).natAbs<2 ^ 64)=true then some (RV.val (.int (10 ^ (18:Int).toNat))) else none)=_;rw[qaF (gf (by decide))];have:(10:Int) ^ (18:Int).toNat=vA:=by unfold vA;decide +kernel
 rw[this]
@[simp] theorem LK:rV g γT ηu=some (.val ε7):=(rfl)
@[simp] theorem EV:eg γT ηu=some (.val (.int (i+j))):=(rfl)
@[simp] theorem qO{xs ys:γd}(h:xs.length+ys.length<=sizeLine):eg γo γ3=some (.new (.lst (xs++ys))):=by show(if _ then _ else _)=_;rw[qaF h]
@[simp] theorem LL(h:tP i j=true):vf γT ηu=some (.val (.int (i*j))):=by show(if _ then _ else _)=_;rw[qaF h]
@[simp] theorem U2:vg d .ax=some (.val (.bl (isNone d))):=(rfl)
@[simp] theorem U3:isNone .ax=true:=(rfl)
@[simp] theorem U4:isNone γN=false:=(rfl)
@[simp] theorem EW:jv [.lst xs]=some δR:=(rfl)
@[simp] theorem EX:jv [.tup xs]=some δR:=(rfl)
@[simp] theorem EY:jv [.dW xs]=some δR:=(rfl)
@[simp] theorem LM:bx γo γT=(L2.dn xs i).map .val:=(rfl)
@[simp] theorem LN:bx γN γT=(L2.dn xs i).map .val:=(rfl)
@[simp] theorem LO:r9 γT=some (.val (.int (-i))):=(rfl)
@[simp] theorem EZ:jw γo lo hi=some (.new (.lst (fq xs lo hi))):=(rfl)
@[simp] theorem E1:jw (.dW xs) lo hi=some (.new (.lst ((fq xs lo hi).map D.int))):=(rfl)
@[simp] theorem U5:rY [.int i,.int j]=some (.val (.int (if j>i then j else i))):=(rfl)
@[simp] theorem U6:rZ [.int i,.int j]=some (.val (.int (if j<i then j else i))):=(rfl)
@[simp] theorem LP:A4 [.int i]=some (.val (.int (if i<0 then -i else i))):=(rfl)
@[simp] theorem E2:xK [.bl k]=some (.val (.int (if k then 1 else 0))):=(rfl)
@[simp] theorem E3:tR [.lst xs]=some (.new γo):=(rfl)
@[simp] theorem E4:xO T γN=some (.val (.bl (k7 T γN))):=(rfl)
@[simp] theorem E5:xO T γT=some (.val (.bl (k7 T γT))):=(rfl)
@[simp] theorem E6:xO T γo=some (.val (.bl (k7 T γo))):=(rfl)
@[simp] theorem LQ{ds:γd}(h:ds.length<sizeLine):vm ds [d]=some (ds++[d],.ax):=by show(if _ then _ else _)=_;rw[qaF h]
@[simp] theorem U7(h : -4611686018427387904<=j/\j<4611686018427387904):small j=true:=gf (by omega)
theorem E7(h : -18446744073709551616<i/\i<18446744073709551616):tP i j=true:=gf (.inl (by omega))
theorem Bu(I:Nat->En->Prop)(h0:I 0 Γ)
 (step:∀(i:Nat) (d:D) (Γ:En),ds[i]?=some d->I i Γ->∃ai ao,m d Γ=.ok () ai/\(s ai=.ok .nx ao\/s ai=.ok .cont ao)/\I (i+1) ao):∃Γ',gX m s ds Γ=.ok .nx Γ'/\I ds.length Γ':=by
 induction ds generalizing Γ I with
 |nil=>exact⟨Γ,rfl,h0⟩
 |cons d r ih =>
   obtain⟨ai,ao,h1,h2,h3⟩:=step 0 d Γ rfl h0;obtain⟨Γ',h4,h5⟩:=ih (λi=>I (i+1)) h3 λi d Γ hd hi=>step (i+1) d Γ (by simpa using hd) hi;refine⟨Γ',?_,h5⟩;rw[k_,m9,h1];rcases h2 with h2|h2<;>simp only[h2]<;>exact h4
theorem U8(I:Nat->En->Prop)(yc:En->Prop)
 (step:∀m Γ,I m Γ->(∃ai,p Γ=.ok false ai/\yc ai)\/∃ai ao m',p Γ=.ok true ai/\s ai=.ok .nx ao/\m'<m/\I m' ao):∀(n m:Nat) (Γ:En),m<n->I m Γ->∃Γ',m6 p s n Γ=.ok .nx Γ'/\yc Γ':=by
 intro n;induction n with
 |zero=>intro m Γ h;omega
 |succ n ih =>
   intro m Γ h hi;rcases step m Γ hi with ⟨ai,h1,h2⟩|⟨ai,ao,m',h1,h2,h3,h4⟩
   .exact⟨ai,by rw[LG,h1],h2⟩
   .obtain⟨Γ',h5,h6⟩:=ih m' ao (by omega) h4;exact⟨Γ',by rw[LG,h1];simp only[h2];exact h5,h6⟩
end Dv
namespace Dv
open PySem L2 Ex
variable[KC]
def vC(d e:D):Option RV:=match d,e with
 |.lst xs,.int k=>if cd (-(2 ^ 63)<=k/\k<2 ^ 63/\xs.length*k.toNat<=sizeLine) then some (.new (.lst (List.replicate k.toNat xs).flatten)) else none
 |_,_=>none
theorem aH.rep(h:δs):∀k:Nat,aH R (List.replicate k xs).flatten (List.replicate k ds).flatten
 |0=>.nil
 |k+1=>by rw[qbx,qbx,List.flatten_cons,List.flatten_cons];exact h.app (aH.rep h k)
theorem LR:dI JU vC:=by
 intro R H x y d e rv Q s px py hg q;unfold vC at hg;split at hg
 .split at hg
  .rename_i c;cases hg;obtain⟨c1,c2,c3⟩:=mV c;obtain⟨a,xs,rfl,h1,h2⟩:=px.lst s;refine⟨a,_,xs,rfl,py.int,h1,c1,c2,by rw[h2.len];exact c3,λp hp=>?_⟩;obtain⟨al,rv⟩:=nJ s hp (h2.rep _);exact q _ _ _ al rv
  .cases hg
 .cases hg
section
variable{X:Cx}{EE:bw}{ios:zzd}{pos:Pos}
theorem U9(s:ηZ)(hp:H p=none):Al R H (upd R p (.dK [])) (upd H p (.dK []))/\i5 (upd R p (.dK [])) H (upd H p (.dK [])) γJ (.val (.i4 [] [])):=by
 have hr:R p=none:=s.free hp;refine⟨⟨λb o e=>?_,lJ hr,lJ hp,λb o e r=>?_⟩,.oG eC⟩
 .by_cases hb:b=p
  .subst hb;rw[eC]at e ⊢;exact e
  .rw[bh hb]at e ⊢;exact s b o e
 .rw[bh (iG e hp)];exact r
def U_:TE:=λ_ H Q=>∀p,H p=none->Q γJ (upd H p (.dK []))
theorem Va:PE X (.Dict [] [] pos) U_:=by intro pins s σ H Q I h;refine wpAny_Dict_empty ⟨.ref s.heap.objs.size,upd H s.heap.objs.size (.dK []),?_,rfl,h _ I.fresh⟩;refine Inv.laid (t':=s.toks) I (λ_ _ q=>qab _ q) γO ?_;have m:mainGlobals<s.heap.objs.size:=Heap.Ns.lt (I.mod.glob.keeps I.bk);refine⟨qaW _,beq_eq_false_iff_ne.mpr (λz=>?_),[],.nil,Heap.DictOf.new _⟩;rw[z]at m;exact absurd m (by decide)
theorem Vb:VE X EE ios (.Dict [] [] pos) (M.pure (.val (.i4 [] []))):=by refine⟨_,Va,λσ H R Γ Q er w=>λp hp=>?_⟩;obtain⟨al,rv⟩:=U9 er.sub hp;exact w _ _ _ ((bf.refl er).al al) (rv.rv ((bf.refl er).back er))
end
section
variable{X:Cx}{EE:bw}{ios:zzd}{fs:γn}{ta:TA}{i j:Nat}{x y:Str}{a b:Expr}{px py pt pos:Pos}{kt k2:Nat}{sX:Pos}
noncomputable def yd(i j:Nat)(fs:γn):M Fl:=M.bind fs λrvs=>M.bind δh λds=>match ds with
 |[d,e]=>M.bind (qc i (.ae,d)) λ_=>M.bind (qc j (.ae,e)) λ_=>M.pure .nx
 |_=>M.st
theorem LU(hc:X.calm=true)(hN:X.N.Nodup)(hi:X.N[i]?=some x)(hj:X.N[j]?=some y)(hij:i≠j)(hx:X.env.scope.names.lookup x=some .local)(hy:X.env.scope.names.lookup y=some .local)(ha:VA X EE ios [a,b] fs)
 (hw:swappedStores [.Tuple [.Name x px,.Name y py] kt pt] (.Tuple [a,b] k2 sX) X.env=pure (some [x,y]))
 (hs:swapsWithSole [.Tuple [.Name x px,.Name y py] kt pt] (.Tuple [a,b] k2 sX) pos.line X.env=pure false:=by rfl) :
 VS X EE ios (.Assign [.Tuple [.Name x px,.Name y py] kt pt] (.Tuple [a,b] k2 sX) pos) (yd i j fs):=by
 obtain⟨t,h1,h2⟩:=ha;refine⟨_,Q0 hc hN hi hj hij hx hy h1 hw hs,λσ H R Γ Q er w=>?_⟩;unfold yd at w;rw[aC]at w;refine h2 σ H R Γ _ er (a6 w (λrvs ai w xs H1 R1 p1 hx=>?_) λ_ _ z=>z.exp);rw[aC]at w;obtain⟨ds,ao,R2,p2,s2,r2,w⟩:=nL er p1 hx w;split at w
 .rename_i d e;cases r2 with
  |cons q1 r2 =>
    cases r2 with
    |cons q2 r2 =>
      cases r2;refine⟨_,_,rfl,?_⟩;have z1:=br.set (i:=i) er p2 (s:=(.ae,d)) q1 λz=>by cases z
      have z2:=br.set (i:=j) z1.er (bf.refl z1.er) (s:=(.ae,e)) q2 λz=>by cases z
      exact w _ H1 R2 (z1.trans z2)
 .exact False.elim w
end
end Dv
namespace L2
open PySem PySem.Spec PyProof.Rows Ex
section
variable{X:Cx}
theorem Vc(ok:δW)(e:H b=some (.dK [])):Reads h (.ref b) (.dict []) [b]/\b≠sysModules:=by
 obtain⟨_,ns,vs,kv,o,es,ep,g,ex,dt,_,pr,_⟩:=ok _ _ e;cases kv
 have z:es.toList=[]:=by
  cases q:es.toList with
  |nil=>rfl
  |cons a r=>rw[q]at pr;cases pr
 refine⟨?_,λz=>by rw[z]at ns;exact absurd ns (by decide)⟩;have R:Reads h (.ref b) (.dict []) (b::[]++[]):=.dict g ex.1 dt (by rw[z];exact .nil) (by rw[z];exact .nil);exact R
theorem ka:aN X (.builtin "repr") (λxs H Q=>∃i:Int,xs=[.int i]/\i.natAbs.log2<1920/\Q θ8 H):=by intro pins s σ H xs us Q I r h;obtain⟨i,rfl,hi,q⟩:=h;obtain⟨u,rfl,ru⟩:=r.one;obtain⟨t,rfl⟩:=ru;exact PySem.P.repr_of_int hi ⟨.str (toString i),H,I.kept (λ_ _ e=>e),⟨_,rfl⟩,q⟩
end
end L2
namespace Dv
open PySem L2 Ex
section
variable{Γ Γ':En}{f g k l:M RV}{fs:γn}{p q:δN}{d:D}{i j:Nat}{m:D->M Unit}{fr:zzc}{own:Nat}
@[simp] theorem E8:gI items fr own m p f Γ=M.bind items (λds=>if ds.length<sizeLine then M.bind ζT λys=>M.pure (.new γ3) else M.st) Γ:=(rfl)
@[simp] theorem LV:nR m p f d Γ=M.bind ηA (λ_=>M.bind p λb=>if b then M.bind f λrv=>M.bind εF λy=>M.pure (some y) else M.pure none) Γ:=(rfl)
@[simp] theorem LW:yd i j fs Γ=M.bind fs (λrvs=>M.bind δh λds=>match ds with
 |[d,e]=>M.bind (qc i (.ae,d)) λ_=>M.bind (qc j (.ae,e)) λ_=>M.pure .nx
 |_=>M.st) Γ:=(rfl)
theorem qe(F:D->Option D):∀(ds:γd),(∀d∈ds,∃bW,nR m p f d δS=.ok (F d) bW/\aW fr own Γ bW=Γ)->dD fr own m p f ds Γ=.ok (ds.filterMap F) Γ
 |[],_=>rfl
 |d::r,h=>by obtain⟨bW,h1,h2⟩:=h d (qag ..);have ih:=qe F r λd hd=>h d (qae _ hd);unfold dD;rw[h1];simp only[h2,ih];cases e:F d<;>simp[List.filterMap_cons,e]
theorem su(F:D->D)(h:∀d∈ds,∃bW,nR m p f d δS=.ok (some (F d)) bW/\aW fr own Γ bW=Γ):dD fr own m p f ds Γ=.ok (ds.map F) Γ:=by
 rw[qe (λd=>some (F d)) ds h]
 exact congrArg (λz=>Res.ok z Γ) (by induction ds with
  |nil=>rfl
  |cons a r ih=>rw[qaK,qav,ih λd hd=>h d (qae _ hd)])
end
end Dv
namespace L2
open PySem PySem.Spec PyProof.Rows Ex
section
variable{X:Cx}{EE:bw}{k:Nat}{f:Addr}{fd:FuncData}{ps:v6}{sp:Sp}{cS:γB}{ds:v4}{x:Str}{p pos:Pos}{e:Expr}{es:zza}{t:TA}
def vD(sp:Sp)(cS:γB)(EE:bw)(t:TA):TE:=λσ H Q=>t σ H λvs H1=>sp (vs++cS) H1 Q (EE σ)
theorem Vd{pins:W1}{σ:St}{H:Hp}{s:Shared}{Q:VK}{us:v4}{vs:γB}(F:δG)(hr:γX)(hb:δa)(hd:ε5)(hX:ζh)
 (I:ε) (r:Vals vs us) (h:sp (vs++cS) H Q (EE σ)):wpAny δ X.A (call γ7 us) γL X.xe s:=by
 have r2:Vals (vs++cS) (us++ds):=r.append hd;have hl:(us++ds).length=ps.length:=by rw[<-r2.length];exact F.len _ _ _ _ h
 refine wpAny_call (codeAny_mono (F.run X.A X.stack s H ⟨us,[]⟩ (us++ds) (vs++cS) Q (EE σ) hr I.env0 (hb s us I.bV hl) r2 h) λr s' hq=>?_);cases r with
 |error e=>exact Kg hX I hq
 |ok fl =>
   cases fl with
   |ret u=>exact I.after hq
   |next=>exact False.elim hq
   |brk=>exact False.elim hq
   |cont=>exact False.elim hq
theorem LX(F:δG)(hr:γX)(hg:ζD)(hm:X.mg x=some γ7)(hk:W.keepIn X.K γ7=true)(hb:δa)(hd:ε5)(hX:ζh)
 (ha:PA X (e::es) t) (hdb:(x == ("__debug__":Str))=false:=by decide) (he:starEach (e::es) X.env=(false,eval e X.env)::starEach es X.env:=by rfl) (hpl:(backTo pos γc).any (·.1)=false:=by rfl) :
 PE X (.Call δx (e::es) [] pos) (vD sp cS EE t):=by intro pins s σ H Q I h;refine qbr (uS I hg hm ?_ hdb);refine W.callWith_K (h₀:=X.base) I.ok.mod.qs hk (aK γV λus s1 zq=>?_) he hpl;obtain⟨vs,H1,I1,r,q⟩:=zq;refine⟨I1.bV,?_⟩;exact Vd F hr hb hd hX I1 r q
theorem ye:XOk X (λ_ _ _ _=>False):=λ_ _ _ _ _ _ _ _ h=>h.elim
end
end L2
namespace Dv
open PySem L2 Ex
variable[KC]
section
variable{X:Cx}{EE:bw}{ios:zzd}{e a b c:Expr}{es:zza}{f g:M RV}{fs:γn}{p:δN}{s s':M Fl}{st:Stmt}{sts jx:εb}{pos:Pos}
inductive Rx where
 |ok (r:Rt)|ex (x:Xc)
def Ve(R H:Hp)(r:Option Rx)(Q:VK)(E:XK):Prop:=match r with
 |some (.ok r)=>∀x H' R',Al R H R' H'->i5 R' H H' x r.rv->Q x H'
 |some (.ex x)=>∀e H' R',Al R H R' H'->pZ R' H H' e x->E ηc εQ H'
 |none=>False
def qP(G:List D->Option Rx):Sp:=λvs H Q E=>∃R ds,ah R H/\aH R vs ds/\Ve R H (G ds) Q E
noncomputable def m_:Res Fl->Option Rx
 |.ex x _=>some (.ex x)
 |r=>(bC r).map .ok
theorem Vf(fin:bC (.ok fl Γ')=some r)(h3:∀x H' R',Al R H R' H'->i5 R' H H' x r.rv->Q x H'):qb ios R H σ δv {nx:=λ_ H'=>Q .ax H',rt:=Q} fl Γ':=by
 intro aB H' R' p;cases fl with
 |brk=>cases fin
 |cont=>cases fin
 |nx=>cases fin;exact h3 .ax H' R' p.al .ax
 |ret rv =>
   intro y hy;cases rv with
   |val d=>cases fin;exact h3 y H' R' p.al hy
   |new d=>cases fin;exact h3 y H' R' p.al hy
   |var i =>
     have fin:(match Γ'[i]? with
      |some (some (.own,d))=>some (Rt.new d)
      |some (some (.ae,d))=>some εI
      |_=>none)=some r:=fin
     split at fin
     .rename_i d hs;cases fin;obtain⟨v,hv,sl⟩:=p.er.sl i _ hs;have hy:aB[i]?=some (some y):=hy;rw[hy]at hv;cases hv;obtain⟨a,xs,ds',rfl,r1,r2,r3,r4⟩:=sl;refine h3 _ H' R' p.al ⟨⟨a,xs,ds',rfl,r1,r2,r3,r4⟩,a,rfl,?_⟩;exact(p.go.oo a ⟨i,.own,d,hs,rfl,hy⟩).elim (λz=>absurd z Bi) id
     .rename_i d hs;cases fin;obtain⟨v,hv,sl⟩:=p.er.sl i _ hs;have hy:aB[i]?=some (some y):=hy;rw[hy]at hv;cases hv;exact h3 _ H' R' p.al sl
     .cases fin
theorem Vg(F:θ3)(S:ζJ)
 (hb:∀(cdv:Value) (A:Around) (outer:δq) (s:Shared) (H:Hp) (E:XK),az k γr->b7 δC (λ_=>E) [] ηv bm)
 (h:∀ds r,G ds=some r->ds.length=ps.length/\m_ ηW=some r):bz P w K mg base ηT (k+1) fa fd ps (qP G):=by
 obtain⟨oc,od,kV,doc,pm,an,cdv,ct,osl,rfl,lk,hcd⟩:=F.ex;refine AG lk hcd S (λvs H Q E q=>?_) λA outer s H vs Q E hr q=>?_
 .obtain⟨R,ds,_,h2,h3⟩:=q;cases e:G ds with
  |none=>rw[e]at h3;exact h3.elim
  |some r=>rw[h2.len];exact(h ds r e).1
 .obtain⟨R,ds,h1,h2,h3⟩:=q;cases e:G ds with
  |none=>rw[e]at h3;exact h3.elim
  |some r =>
    rw[e]at h3;obtain⟨t,b1,b2⟩:=hb cdv A outer s H E hr;refine⟨t,b1,b2 _ H R _ _ (Bh h1 h2) ?_⟩;have fin:=(h ds r e).2;cases q:bm δv with
    |st=>rw[q]at fin;cases fin
    |ex x Γ' =>
      rw[q]at fin;cases fin;exact λe aB H' R' p qx=>h3 e H' R' p.al qx
    |ok fl Γ' =>
      rw[q]at fin;have fin:(bC (.ok fl Γ')).map Rx.ok=some r:=fin;cases q2:bC (.ok fl Γ') with
      |none=>rw[q2]at fin;cases fin
      |some r' =>
        rw[q2]at fin;cases fin;exact oN (Vf q2 h3)
noncomputable def M.thr{α:Type}(x:Xc):M α:=λΓ=>.ex x Γ
def tX(G:List D->Option Rx)(fs:γn):M RV:=M.bind fs λrvs=>M.bind θD λds=>match G ds with
 |some (.ok r)=>if rvs.any m8&& !jy r then M.bind δh λds'=>match G ds' with
  |some (.ok r)=>M.pure r.rv
  |_=>M.st
   else M.pure r.rv
 |some (.ex x)=>M.bind δh λds'=>match G ds' with
  |some (.ex x)=>M.thr x
  |_=>M.st
 |none=>M.st
theorem Vh(hp:∀t,PA X es t->PE X e0 (vD (qP G) [] EE t))(ha:δk):VE X EE ios e0 (tX G fs):=by
 obtain⟨t,h1,h2⟩:=ha;refine⟨_,hp t h1,λσ H R Γ Q er w=>?_⟩;unfold tX at w;rw[aC]at w;refine h2 σ H R Γ _ er (a6 w (λrvs ai w xs H1 R1 p1 hx=>?_) λ_ _ z=>z);show qP G (xs++[]) H1 Q (EE σ);rw[qbk];rw[aC]at w;obtain⟨ds,q,w⟩:=Ep w;obtain⟨ds',pk,e⟩:=xJ (K:=λds' _=>ds'=ds) (E:=λ_ _=>False) p1.er hx (by rw[q];exact rfl);subst e;cases hG:G ds' with
 |none=>rw[hG]at w;exact False.elim w
 |some rx =>
   rw[hG]at w;cases rx with
   |ex x =>
     have w:cz (M.bind δh (λds'=>match G ds' with
      |some (.ex x)=>M.thr x
      |_=>M.st) ai) _ _:=w
     rw[aC]at w;obtain⟨lP,ao,R2,p2,s2,r2,w⟩:=nL er p1 hx w;refine⟨R2,lP,p2.er.sub,r2,?_⟩;cases oU:G lP with
     |none=>rw[oU]at w;exact False.elim w
     |some ry =>
       rw[oU]at w;cases ry with
       |ok r=>exact False.elim w
       |ex y=>exact λe H' R' al xr=>w e H' R' ζq (xr.back p2.since)
   |ok r =>
     dsimp only at w;by_cases hv:rvs.any m8=true
     .by_cases jz:jy r=true
      .rw[hv,jz]at w;have w:∀x H' R',bf ios R H σ Γ R' H' ai->gP R' H H' σ x r.rv->Q x H':=w;refine⟨lent ζv R1 H1,ds',Eo p1.er.sub,Pks.lent p1.er hx pk q,?_⟩;rw[hG];intro x H' R' al ra;exact w x H' _ (p1.al (Bj p1.er al).1) (Li er p1 al jz ra)
      .have jz:jy r=false:=by cases z:jy r<;>simp_all
       rw[hv,jz]at w
       have w:cz (M.bind δh (λds'=>match G ds' with
        |some (.ok r)=>M.pure r.rv
        |_=>M.st) ai) _ _:=w
       rw[aC]at w;obtain⟨lP,ao,R2,p2,s2,r2,w⟩:=nL er p1 hx w;refine⟨R2,lP,p2.er.sub,r2,?_⟩;cases oU:G lP with
       |none=>rw[oU]at w;exact False.elim w
       |some r' =>
         rw[oU]at w;cases r' with
         |ex y=>exact False.elim w
         |ok r'=>exact λx H' R' al ra=>w x H' R' ζq (ra.rv ηn)
     .have hv:rvs.any m8=false:=by cases z:rvs.any m8<;>simp_all
      rw[hv]at w;have w:∀x H' R',bf ios R H σ Γ R' H' ai->gP R' H H' σ x r.rv->Q x H':=w;refine⟨R1,ds',p1.er.sub,Lh hx hv q,?_⟩;rw[hG];exact λx H' R' al ra=>w x H' R' (p1.al al) θL
def qf(P:Program)(w:World)(mg:M2)(base:Heap)(x:Str)(k:Nat)(ps:v6)(sp:Sp):Prop:=∃f fd,bz P w KC.K mg base ηT k f fd ps sp/\mg x=some γ7/\W.keepIn KC.K γ7=true/\Binds KC.K fd ps []
theorem E9{G:List D->Option Rx}{x:Str}{k:Nat}{ps:v6}{p0:Pos}(hX:ζh)(C:qf X.prog X.w X.mg X.base x k ps (qP G))(hr:γX)(hg:ζD)(ha:VA X EE ios (e::es) fs)(hK:X.K=KC.K:=by rfl)(hdb:(x == ("__debug__":Str))=false:=by decide)
 (he:starEach (e::es) X.env=(false,eval e X.env)::starEach es X.env:=by rfl) (hpl:(backTo pos γc).any (·.1)=false:=by rfl):VE X EE ios (.Call θz (e::es) [] pos) (tX G fs):=by obtain⟨f,fd,F,hm,hk,hb⟩:=C;rw[<-hK]at F hk hb;exact Vh (λt h=>LX F hr hg hm hk hb .nil hX h hdb he hpl) ha
theorem LY(A0:At mg x st)(S:ζJ)
 (bd:∀(kV doc pm:Value) (an:γ8) (cdv ct:Value) (us:v4),us.length=ps.length->bindArgs δF ⟨us,[]⟩=pure εX)
 (hb:∀(fa:Addr) (cdv:Value) (A:Around) (outer:δq) (s:Shared) (H:Hp) (E:XK),az k δz->b7 δB (λ_=>E) [] ηv bm)
 (h:∀ds r,G ds=some r->ds.length=ps.length/\m_ ηW=some r):qf P w mg base x (k+1) ps (qP G):=
 let ⟨f,fd,F,hm,hk⟩:=A0
 ⟨f,fd,Vg F S (hb f) h,hm,hk,F.binds bd⟩
noncomputable def my(n:Nat)(N:v6)(bm:M Fl):List D->Option Rx:=λds=>if ds.length=n then m_ ηW else none
theorem E_(h:my n N bm ds=some r):ds.length=n/\m_ ηW=some r:=by
 unfold my at h;split at h
 .rename_i c;exact⟨c,h⟩
 .cases h
end
section
variable{X:Cx}{EE:bw}{ios:zzd}{e a b c:Expr}{es:zza}{f g:M RV}{fs:γn}{p:δN}{s s':M Fl}{st:Stmt}{sts jx:εb}{pos cpos p0:Pos}{x:Str}
theorem gc.len(h:gc R σ xs rvs):xs.length=rvs.length:=by
 induction h with
 |nil=>rfl
 |cons _ _ ih=>exact congrArg Nat.succ ih
theorem LZ{R H:Hp}{p:Addr}{o:HO}(s:ηZ)(hp:H p=none):Al R H R (upd H p o):=
 ⟨λb u e=>by rw[bh (iG ηz hp)];exact s _ _ e,ah.refl _,lJ hp,λ_ _ _ r=>r⟩
noncomputable def Bv(C:Cn)(fs:γn):M Fl:=M.bind fs λrvs=>if rvs.length<=1000 then M.thr ⟨C,[]⟩ else M.st
theorem Vi(hX:ζh)(M0:AN KC.K η)(Z:rG KC.K η)(hm:X.mg x=some ηa)(ha:VA X EE ios (e::es) fs)(hg:ζD:=by rfl)(hc:X.calm=true:=by rfl)(hK:X.K=KC.K:=by rfl)(hdb:(x == ("__debug__":Str))=false:=by decide)
 (he:starEach (e::es) X.env=(false,eval e X.env)::starEach es X.env:=by rfl) (hpl:(backTo cpos γc).any (·.1)=false:=by rfl):VS X EE ios (.Raise (some (.Call θz (e::es) [] cpos)) none pos) (Bv C fs):=by
 obtain⟨t,h1,h2⟩:=ha;refine⟨_,S6 hX hc (by rw[hK];exact M0) (by rw[hK];exact Z) hg hm h1 hdb he hpl,λσ H R Γ D er w=>?_⟩;unfold Bv at w;rw[aC]at w;refine h2 σ H R Γ _ er (a6 w (λrvs ai w xs H1 R1 p1 hx=>?_) λ_ _ z=>z.exp);split at w
 .rename_i hl;refine⟨by rw[hx.len];exact hl,λa na=>?_⟩;exact w a σ _ R1 (p1.al (LZ p1.er.sub na)).fW ⟨p1.er.sub.free na,p1.since _ na,.inl ⟨rfl,eC⟩⟩
 .exact False.elim w
def Fb(C:Addr)(y:Str):Sp:=λvs H Q _=>∃a v fr,vs=[.ref a,v]/\H a=some εW/\∀d,H d=none->d≠a->Q .ax (upd (upd H d (mN d [(y,v)])) a εM)
structure L0(P:Program)(w:World)(mg:M2)(base:Heap)(C:Cn)(ps:v6)(sp:Sp):Prop where
 ex:∃fI fd,XMk KC.K η fI/\bz P w KC.K mg base iZ 1 fI fd ps sp/\Binds KC.K fd ps []
 z:rG KC.K η
noncomputable def Bw(C:Cn)(ns:v6)(fs:γn):M Fl:=M.bind fs λrvs=>M.bind δh λds=>if ds.length=ns.length/\ds.length<=1000 then M.thr ⟨C,ns.zip ds⟩ else M.st
theorem Vj(hX:ζh)(I:L0 X.prog X.w X.mg X.base C ["self",y] (Fb η y))(hr:γX)(hk:2<=k)(hm:X.mg x=some ηa)(ha:VA X EE ios (e::es) fs)(hg:ζD:=by rfl)(hc:X.calm=true:=by rfl)(hK:X.K=KC.K:=by rfl)(hdb:(x == ("__debug__":Str))=false:=by decide)
 (he:starEach (e::es) X.env=(false,eval e X.env)::starEach es X.env:=by rfl) (hpl:(backTo cpos γc).any (·.1)=false:=by rfl):VS X EE ios (.Raise (some (.Call θz (e::es) [] cpos)) none pos) (Bw C [y] fs):=by
 obtain⟨t,h1,h2⟩:=ha;obtain⟨⟨fI,fd,i1,i2,i3⟩,z⟩:=I;refine⟨_,S4 hX hc (by rw[hK];exact i1) (by rw[hK];exact z) (by rw[hK];exact i2) (hr.mono hk) hg hm (by rw[hK];exact i3) .nil h1 hdb he hpl,λσ H R Γ D er w=>?_⟩;unfold Bw at w;rw[aC]at w;refine h2 σ H R Γ _ er (a6 w (λrvs ai w xs H1 R1 p1 hx=>?_) λ_ _ z=>z.exp);rw[aC]at w;obtain⟨ds,ao,R2,p2,s2,r2,w⟩:=nL er p1 hx w;split at w
 .rename_i hl;obtain⟨hl,hl2⟩:=hl
  match ds,hl with
  |[d],_ =>
    obtain⟨v,rfl,rv⟩:∃v,xs=[v]/\Rp R2 v d:=by cases r2 with|cons rv r=>cases r;exact⟨_,rfl,rv⟩
    refine⟨by simp,λa na=>?_⟩;refine⟨a,v,true,rfl,eC,λd' nd ne=>⟨rfl,some d',eC,?_⟩⟩;have Bx:H1 d'=none:=by rwa[bh ne]at nd
    have fa:R2 a=none:=p2.er.sub.free na;have fd':R2 d'=none:=p2.er.sub.free Bx;refine w a σ _ R2 (p2.al ⟨λb u q=>?_,ah.refl _,λb u q=>?_,λ_ _ _ r=>r⟩).fW ⟨fa,p2.since _ na,.inr ⟨d',[(y,v)],eC,?_,fd',p2.since _ Bx,rfl,.cons rv .nil⟩⟩
    .have q':=p2.er.sub _ _ q;rw[Au,bh (iG q' na),bh (iG q' Bx),bh (iG q' na)];exact q'
    .rw[Au,bh (iG q na),bh (iG q Bx),bh (iG q na)];exact q
    .rw[Au,bh ne,eC]
 .exact False.elim w
def Vk(EE:bw)(ios:zzd)(f:M Fl):TS:=λD σ H=>∃R Γ,ER ios R H σ Γ/\cz (f Γ) δO δg
theorem b7.pss(h:ζI):PSs X sts (Vk EE ios s):=let ⟨_,h1,h2⟩:=h;λpins s σ H D I ⟨R,Γ,er,w⟩=>h1 pins s σ H D I (h2 σ H R Γ D er w)
noncomputable def oW(x:Xc):D:=.ins x.C (x.fs.map (·.1)) (x.fs.map (·.2))
noncomputable def yf(mt:Cn->Bool)(i:Nat)(body suite:M Fl):M Fl:=λΓ=>match body Γ with
 |.ok fl Γ'=>.ok fl Γ'
 |.ex x Γ'=>if mt x.C then match suite (Γ'.set i (some (.ae,oW x))) with
  |.ok .nx tY=>.ok .nx (tY.set i none)
  |_=>.st
   else .st
 |.st=>.st
theorem br.ext1{R H R1 H1:Hp}{σ cR:St}{Γ ai:En}{a:Addr}(p:δn)(ra:R1 a=none)(h0:H a=none)(no:¬Ow cR ai a):br ios R H σ Γ (ext R1 H1 a) H1 cR ai:=by
 have rr:ah R1 (ext R1 H1 a):=u_ ra;refine⟨⟨zhE p.er.sub,p.er.len,λj t hj=>?_,p.er.dj⟩,⟨p.go.rr.trans rr,p.go.hh,λb o hb nb rb=>?_,p.go.oo,p.go.th⟩⟩
 .obtain⟨v,hv,s⟩:=p.er.sl j t hj;refine⟨v,hv,s.mono rr λho b ys eb hb rb=>⟨hb,?_⟩⟩;rw[pY]
  .exact rb
  .rintro rfl;subst eb;exact no ⟨j,t.1,t.2,hj,ho,hv⟩
 .rw[pY]
  .exact p.go.no b o hb nb rb
  .rintro rfl;rw[h0]at hb;cases hb
theorem Vl{σ:St}{Γ:En}{i:Nat}{b:Addr}(h:Ow (σ.set i none) θi b):Ow σ Γ b:=by
 obtain⟨j,k,d,h1,h2,h3⟩:=h;by_cases hj:j=i
 .subst hj;rw[List.getElem?_set]at h1;simp at h1
 .rw[qaj ζB]at h1 h3;exact⟨j,k,d,h1,h2,h3⟩
theorem br.unset(er:γw):br ios R H σ Γ R H (σ.set i none) θi:=by
 have ne:∀{j:Nat}{t:Kd×D},(Γ.set i none)[j]?=some (some t)->j≠i/\Γ[j]?=some (some t):=λ{j t} h=>by
  by_cases hj:j=i
  .subst hj;rw[List.getElem?_set]at h;simp at h
  .exact⟨hj,by rwa[qaj ζB]at h⟩
 refine⟨⟨er.sub,by rw[qaU,qaU];exact er.len,λj t hj=>?_,λj j' l l' d d' b q1 q2 q3 q4 q5 q6=>?_⟩,⟨ah.refl _,λ_ _ h _=>h,λ_ _ _ _ r=>r,λb z=>.inl (Vl z),λb o h=>⟨o,h⟩⟩⟩
 .obtain⟨n1,n2⟩:=ne hj;obtain⟨v,hv,s⟩:=er.sl j t n2;exact⟨v,by rw[qaj (qaR n1)];exact hv,s⟩
 .obtain⟨n1,n2⟩:=ne q1;obtain⟨m1,m2⟩:=ne q3;rw[qaj (qaR n1)]at q5;rw[qaj (qaR m1)]at q6;exact er.dj j j' l l' d d' b n2 q2 m2 q4 q5 q6
theorem caught{R H R1 H1:Hp}{σ cR:St}{Γ ai:En}{x:Xc}{e:Addr}(p:δn)(h:pZ R1 H H1 e x):∃R2,br ios R H σ Γ R2 H1 cR ai/\Rp R2 εJ (oW x):=by
 obtain⟨re,h0,h⟩:=h
 have no:∀b (o:HO),H1 b=some o->(∀xs,o≠.lst xs) -> ¬Ow cR ai b:=λb o hb hn z=>by obtain⟨_,xs,q⟩:=p.er.ow z;rw[hb]at q;cases q;exact hn xs rfl
 rcases h with ⟨hf,he⟩|⟨d,fs,he,hd,rd,d0,hn,hv⟩
 .refine⟨ext R1 H1 e,p.ext1 re h0 (no e _ he (by intro xs z;cases z)),?_⟩;unfold oW;rw[hf];exact .oH (by rw[qF];exact he)
 .have p2:=p.ext1 re h0 (no e _ he (by intro xs z;cases z));have s2:ah R1 (ext R1 H1 e):=u_ re;by_cases ed:d=e
  .subst ed;refine⟨_,p2,?_⟩;unfold oW;rw[<-hn];exact .exc (by rw[qF];exact he) (by rw[qF];exact hd) (hv.sm s2)
  .have L3:ext R1 H1 e d=none:=by rw[pY ed];exact rd
   have s3:ah (ext R1 H1 e) (ext (ext R1 H1 e) H1 d):=u_ L3;refine⟨_,p2.ext1 L3 d0 (no d _ hd (by intro xs z;cases z)),?_⟩;unfold oW;rw[<-hn];exact .exc (by rw[pY (qaR ed),qF];exact he) (by rw[qF];exact hd) (hv.sm (s2.trans s3))
theorem Vm{K:zze}{cs:v4}{i:Nat}{tb:bw->TS}{ts:TS}{mt:Cn->Bool}(hm:∀C,mt C=true->a8 K η cs=some true)(hb:∀sx,oK sx ios (tb sx) s)(hs:oK EN ios ts s'):oK EE ios (Kl K cs i tb ts) (yf mt i s s'):=by
 intro σ H R Γ D er w;unfold yf at w;refine hb _ σ H R Γ D er ?_;cases h:s Γ with
 |st=>rw[h]at w;exact w
 |ok fl Γ'=>rw[h]at w;exact w
 |ex x Γ' =>
   rw[h]at w;dsimp only at w;split at w
   .rename_i c;intro e cR H1 R1 p xr;refine⟨e,KC.cls x.C,rfl,rfl,hm _ c,?_⟩;obtain⟨R2,p2,rp⟩:=caught p xr;have p3:br ios R H σ Γ R2 H1 (cR.set i (some εJ)) (Γ'.set i (some (.ae,oW x))):=p2.trans (br.set (s:=(.ae,oW x)) p2.er (bf.refl p2.er) rp λz=>nomatch z);refine hs _ H1 R2 _ _ p3.er ?_;cases h2:s' (Γ'.set i (some (.ae,oW x))) with
    |st=>rw[h2]at w;exact w.elim
    |ex _ _=>rw[h2]at w;exact w.elim
    |ok fl ao =>
      rw[h2]at w;cases fl with
      |nx =>
        intro bF H4 R4 p4;exact w (bF.set i none) H4 R4 ((p3.trans p4).trans (br.unset p4.er))
      |brk=>exact w.elim
      |cont=>exact w.elim
      |ret _=>exact w.elim
   .exact w.elim
theorem Vn{i:Nat}{n:Str}{cs:v4}{k1 p1 hpos}{b0:Stmt}{suite:εb}{mt:Cn->Bool}(hN:X.N.Nodup)(hi:X.N[i]?=some n)(hl:X.env.scope.names.lookup n=some .local)(hes:PN X es cs)(hcs:cs.length<=1000)(hm:∀C,mt C=true->a8 KC.K η cs=some true)
 (hb:∀E' pn' sx,XOk θs sx->b7 θs sx ios sts s) (hs:∀a,b7 (X.hand γC λ_ _=>False) EN ios (b0::suite) s') (hst:X.stack=X.env::X.outer/\X.env.frame=some X.env.locals:=by exact⟨rfl,rfl⟩) (hK:X.K=KC.K:=by rfl) :
 VS X EE ios (.Try sts [.ExceptHandler (some (.Tuple es k1 p1)) (some n) (b0::suite) hpos] [] [] pos) (yf mt i s s'):=
 ⟨_,Tp hst hN hi hl hes hcs (λE' pn' sx ok=>(hb E' pn' sx ok).pss) (λa=>(hs a).pss),Vm (by rw[hK];exact hm) (λsx σ H R Γ D er w=>⟨R,Γ,er,w⟩) λσ H R Γ D er w=>⟨R,Γ,er,w⟩⟩
noncomputable def sub(C T:Cn):Bool:=C == T || (T == .PointError&&(match C with
 |.NoPoints|.NoBox|.NoAsks|.rJ|.oA|.oB|.oE|.rK|.NotServed|.rL=>true
 |_=>false))
noncomputable def yg(L:ζK)(s:Cn->Bool):D->Option RV
 |.dW _=>none
 |.obj _ _ _=>none
 |.ins C _ _=>if L.contains C then some (.val (.bl (s C))) else none
 |_=>some γe
noncomputable def vE(L:ζK)(s:Cn->Bool)(f:M RV):M RV:=M.bind (nK f) λx=>M.bind εu λd=>M.dH (yg L s d)
noncomputable abbrev yh(L:ζK)(T:Cn):D->Option RV:=yg L λC=>sub C T
noncomputable abbrev tZ(L:ζK)(T:Cn)(f:M RV):M RV:=vE L (λC=>sub C T) f
noncomputable def lQ:List String:=["NoneType","bool","int","str","list","tuple","dict"]
structure KitX(L:ζK)(T:Cn):Prop where
 own:∀C,L.contains C=true->W.kitOne KC.K ηa ηL=some (sub C T)/\XC KC.K η
 no:∀t∈lQ,W.kitOne KC.K (.type t) ηL=some false
theorem Vo(h:plain d=true):xN d∈lQ:=by cases d<;>first| (cases h;done)|simp[xN,lQ]
theorem L4{L:ζK}{s:Cn->Bool}{e0:Expr}{c:V}{cv:Value}(hcv:tq c=some cv)(own:∀C,L.contains C=true->W.kitOne KC.K ηa cv=some (s C)/\XC KC.K η)(no:∀t∈lQ,W.kitOne KC.K (.type t) cv=some false)(hp:∀t,PE X a t->PE X e0 (rC (λxs H Q=>∃x c t cv b,xs=[x,c]/\tq c=some cv/\xl X.K H x t/\W.kitOne X.K t cv=some b/\Q ε2 H) (l_ t (l_ (tC c) rB))))(ha:γs)(hK:X.K=KC.K:=by rfl):VE X EE ios e0 (vE L s f):=by
 obtain⟨t,h1,h2⟩:=ha;refine⟨_,hp t h1,λσ H R Γ Q er w=>?_⟩;unfold vE at w;rw[aC]at w;refine A3 h2 er (a6 w (λrx ai w x H1 R1 p1 hx=>?_) λ_ _ z=>z);rw[aC]at w;obtain⟨d,pd,w⟩:=mR (H:=H) p1.er hx.rv w;have hv:=pd.hv p1.er.sub;obtain⟨rv,hg,w⟩:=jW w;by_cases pl:plain d=true
 .have hg:rv=.val ζy:=by cases d<;>first| (cases pl;done)|exact(qaQ hg).symm
  subst hg;exact⟨x,c,_,cv,_,rfl,hcv,.inl (hv.ty pl),by rw[hK];exact no _ (Vo pl),w _ H1 R1 p1 εN⟩
 .cases d with
  |ins C ns vs =>
    unfold yg at hg;dsimp only at hg;split at hg
    .rename_i hc;cases hg;obtain⟨k1,k2⟩:=own C hc
     have ty:∃a,x=.ref a/\qD H1 a η:=by
      cases hv with
      |oH q=>exact⟨_,rfl,false,.inl q⟩
      |exc q q' _=>exact⟨_,rfl,false,.inr ⟨_,_,q,q'⟩⟩
     obtain⟨a',rfl,ea⟩:=ty;exact⟨.ref a',c,.ref η,cv,_,rfl,hcv,.inr ⟨a',KC.cls C,rfl,rfl,ea,by rw[hK];exact k2⟩,by rw[hK];exact k1,w _ H1 R1 p1 εN⟩
    .cases hg
  |dW _=>cases hg
  |obj _ _ _=>cases hg
  |_=>exact absurd rfl pl
theorem Vp(kit:KitX L T)(hp:∀t,PE X a t->PE X e0 (rC (λxs H Q=>∃x c t cv b,xs=[x,c]/\tq c=some cv/\xl X.K H x t/\W.kitOne X.K t cv=some b/\Q ε2 H) (l_ t (l_ (tC ηL) rB))))(ha:γs)(hK:X.K=KC.K:=by rfl):VE X EE ios e0 (tZ L T f):=L4 rfl kit.own kit.no hp ha hK
end
section
variable{X:Cx}{EE:bw}{ios:zzd}{e a b c:Expr}{es:zza}{f g:M RV}{fs:γn}{p:δN}{pos p0 p1 p2 pos':Pos}
def By(d:D)(lo hi:zzf):Option RV:=match d with
 |.tup xs=>if cd (HT.bB xs.length 0 lo=0/\HT.bB xs.length xs.length hi=xs.length) then none else some (.val (.tup (fq xs lo hi)))
 |d=>jw d lo hi
theorem Vq(ha:γs)(hl:VO X EE ios lo l)(hu:VO X EE ios hi u)(hK:X.K=KC.K:=by rfl):VE X EE ios (.Subscript a ζo pos) (i6 By f l u):=by
 obtain⟨t1,h1,h2⟩:=ha;obtain⟨t2,h3,h4⟩:=hl;obtain⟨t3,h5,h6⟩:=hu;refine⟨_,JC (md.or RZ) h1 h3 h5,Ea (λR H x d l u rv Q s pd hg w=>?_) h2 h4 h6⟩;unfold By at hg;split at hg
 .rename_i ds;split at hg
  .cases hg
  .rename_i c;cases hg;obtain⟨a,xs,rfl,h1,h2⟩:=pd.tup;exact .inr ⟨a,xs,rfl,iw.of θA,λz=>c (gf (by rw[<-h2.len];exact z)),λp hp=>let ⟨al,rv⟩:=A2 s hp (h2.cut l u);w _ _ _ al rv⟩
 .exact .inl (KZ hK R H x d l u rv Q s pd hg w)
noncomputable def Bz(L:ζK)(y:Str)(f:M RV):M RV:=M.bind f λx=>M.bind (mat x) λd=>match d with
 |.ins C ns vs=>if L.contains C then M.dH (((ns.zip vs).lookup y).map .val) else M.st
 |_=>M.st
theorem Fc:∀{fs:List (Str×V)}{vs:γd}{d:D},aH R (fs.map (·.2)) vs->((fs.map (·.1)).zip vs).lookup y=some d->∃v,fs.lookup y=some v/\Rp R v d
 |[],_,_,h,e=>by cases h;cases e
 | (n,v)::r,_,d,h,e=>by
   cases h with
   |cons a b =>
     rw[qav,List.zip_cons_cons,qbm]at e;rw[qbm];cases q:y == n with
     |true =>
       rw[q]at e;simp only at e;cases e;exact⟨v,rfl,a⟩
     |false =>
       rw[q]at e;exact Fc b e
theorem Vr{L:ζK}(hA:∀C,L.contains C=true->XC KC.K η/\bj KC.K η y)(ha:γR)(hb:attributeBase e y X.env εO=eval e X.env)(hK:X.K=KC.K:=by rfl):VE X EE ios θR (Bz L y f):=by
 obtain⟨t,h1,h2⟩:=ha;refine⟨_,SU h1 hb,λσ H R Γ Q er w=>?_⟩;unfold Bz at w;rw[aC]at w;refine h2 σ H R Γ _ er (a6 w (λrx ai w x H1 R1 p1 hx=>?_) λ_ _ z=>z);rw[aC]at w;obtain⟨d,ao,R2,p2,s2,r2,w⟩:=mS er p1 hx w;cases d with
 |ins C ns vs =>
   dsimp only at w;split at w
   .rename_i hc;obtain⟨rv,hg,w'⟩:=jW w;obtain⟨d,hd,rfl⟩:=qbi.mp hg;obtain⟨k1,k2⟩:=hA C hc;clear w;cases r2 with
    |oH q=>cases hd
    |exc q q' hv =>
      obtain⟨v,l1,l2⟩:=Fc hv hd;exact⟨_,_,_,_,_,v,rfl,p2.er.sub _ _ q,p2.er.sub _ _ q',by rw[hK];exact k1,by rw[hK];exact k2,l1,w' v H1 R2 p2 l2⟩
   .exact False.elim w
 |_=>exact False.elim w
end
end Dv
namespace Dv
open PySem L2 Ex
section
variable{Γ Γ':En}{f g:M RV}{fs:γn}{p:δN}{s s':M Fl}{d:D}{i:Nat}{x:Xc}{C T:Cn}{L:ζK}{y:Str}
@[simp] theorem L5{α:Type}:(M.thr x:M α) Γ=.ex x Γ:=(rfl)
@[simp] theorem BA:tX G fs Γ=M.bind fs (λrvs=>M.bind θD λds=>match G ds with
 |some (.ok r)=>if rvs.any m8&& !jy r then M.bind δh λds'=>match G ds' with
  |some (.ok r)=>M.pure r.rv
  |_=>M.st
   else M.pure r.rv
 |some (.ex x)=>M.bind δh λds'=>match G ds' with
  |some (.ex x)=>M.thr x
  |_=>M.st
 |none=>M.st) Γ:=(rfl)
@[simp] theorem yi:Bv C fs Γ=M.bind fs (λrvs=>if rvs.length<=1000 then M.thr ⟨C,[]⟩ else M.st) Γ:=(rfl)
@[simp] theorem BB:Bw C ns fs Γ=M.bind fs (λrvs=>M.bind δh λds=>if ds.length=ns.length/\ds.length<=1000 then M.thr ⟨C,ns.zip ds⟩ else M.st) Γ:=(rfl)
@[simp] theorem L6{mt:Cn->Bool}:yf mt i s s' Γ=match s Γ with
 |.ok fl Γ'=>.ok fl Γ'
 |.ex x Γ'=>if mt x.C then match s' (Γ'.set i (some (.ae,oW x))) with
  |.ok .nx tY=>.ok .nx (tY.set i none)
  |_=>.st
   else .st
 |.st=>.st:=(rfl)
@[simp] theorem Fe:Bz L y f Γ=M.bind f (λx=>M.bind (mat x) λd=>match d with
 |.ins C ns vs=>if L.contains C then M.dH (((ns.zip vs).lookup y).map .val) else M.st
 |_=>M.st) Γ:=(rfl)
@[simp] theorem Vs:m_ (.ok fl Γ)=(bC (.ok fl Γ)).map .ok:=(rfl)
end
end Dv
namespace L2
open PySem PySem.Spec PyProof.Rows Ex
section
variable{X:Cx}
theorem kb:aN X (.builtin "repr") (λxs H Q=>∃x:Str,xs=[.str x]/\(reprText x).length<=sizeLine/\Q θ9 H):=by intro pins s σ H xs us Q I r h;obtain⟨x,rfl,hx,q⟩:=h;obtain⟨u,rfl,ru⟩:=r.one;obtain⟨t,rfl⟩:=ru;exact PySem.P.repr_of_str ⟨.str (reprText x),H,I.kept (λ_ _ e=>e),⟨_,rfl⟩,q⟩ hx
end
section
variable{X:Cx}
theorem Inv.drawn(I:ε)(d:Drawn):Inv X pins σ H {s with drawn:=d}:=⟨I.ok,I.os,I.bare,I.base,I.loc,I.cell,I.free,I.bX,I.pin,I.hok,I.len⟩
noncomputable def L7(X:Cx)(p:Addr)(l:u8):HO:=.ext λh=>St.iF (X.w.params.followText "set-order") h p l
noncomputable def dd(ns:u8):u8:=ns.foldl step_dedup []
theorem Vt(calm:X.calm=true):aN X (.builtin "sorted") (λxs H Q=>∃(p:Addr) (l:u8),xs=[.ref p]/\H p=some (L7 X p l)/\l.length<64/\∀(q:Addr) (ns:u8),H q=none->ns.Perm l->ns.Pairwise (· <= ·)->Q (.ref q) (upd H q ηM)):=by
 intro pins s σ H xs us Q I r h;obtain⟨p,l,rfl,hp,hn,q⟩:=h;obtain⟨u,rfl,ru⟩:=r.one;cases ru;obtain⟨S,_⟩:=I.hok p _ hp;refine St.lC θZ S hn λh' d tk p' out e ns le k g ia pm pw=>?_;refine⟨.ref p',upd H p' ηM,(I.laid (t':=tk) (o:=.lst γD) k le ⟨?_,out.toList,e,Dk ia,by simpa using g⟩).drawn d,rfl,q _ ns (I.hok.fresh le) pm pw⟩;rw[qaf,pm.length_eq];have z:(64:Nat)<=sizeLine:=by decide
 omega
theorem ke:aN X (.builtin "repr") (λxs H Q=>∃b:Bool,xs=[.bl b]/\Q (.str (if b then "True" else "False")) H):=by intro pins s σ H xs us Q I r h;obtain⟨b,rfl,q⟩:=h;obtain⟨u,rfl,ru⟩:=r.one;cases ru;exact PySem.P.repr_of_bool ⟨.str _,H,I.kept (λ_ _ e=>e),⟨_,rfl⟩,q⟩
theorem L8(ns:u8):(dd ns).length<=ns.length:=by have:=St.n4 ns [];simpa [dd]using this
end
end L2
namespace St
open PySem PyProof.Rows
theorem Vu{s:Shared}(hS:iF B s.heap a l)(hn:l.length+1<scanBound)
 (h:∀h' tk,Heap.SameBut a s.heap h'->iF B h' a η6->Q .none {s with heap:=h',toks:=tk}):wpAny γ A (call (.builtin "set.add") [.ref a,.int k t]) Q E s:=by
 have hT:s.TypeIs γC "set":= by obtain⟨es,ep,t,e,_⟩:=hS;exact⟨_,e,rfl⟩
 refine qaZ F.slot_set_add hT F.entry_set_add ?_ (F.args_set_add_2 _ _);show wpAny _ _ (setAdd a (.int k t) >>= _) _ _ _;refine qaa ?_;unfold setAdd;refine qaV (qaa ?_);refine(intKind prog w).pyHash (k:=k) ζS ?_;exact add_int (s:={s with toks:=s.toks+1}) hS hn λb h' sb S'=>qac ⟨_,rfl,h h' _ sb S'⟩
end St
namespace Ex
open PySem PySem.Spec PyProof.Rows
noncomputable def Ff(el:Expr)(env:Env)(acc:Value):Sem Unit:=do let v <-eval el env;standAt el.pos;let _ <-call (.builtin "set.add") [acc,v]
theorem Vv(h0:codeAny γ A (.compLoop (.SetComp el [⟨tg,src,ifs,0⟩] sc pos) 0 it acc env) R s)
 (h:wpAny γ A (pyIter it) (λit' s'=>codeAny γ A (.compLoop (.SetComp el [⟨tg,src,ifs,0⟩] sc pos) 0 it' acc env) R s') (notedBy γ A env λx s'=>R (.error x) s') s) :
 codeAny γ A (.compStart (.SetComp el [⟨tg,src,ifs,0⟩] sc pos) 0 it acc env) R s:=by
 refine codeAny_of_tree (show wpAny _ _ ((compStart (.SetComp el [⟨tg,src,ifs,0⟩] sc pos) 0 it acc env).onRaise (λx=>do noteFrame x env;standAt theWindowsPlace)) _ _ s from wpAny_notedAt ?_);unfold compStart;refine(show wpAny _ _ (ask >>= _) _ _ s from qaa (qbu (wpAny_ite ?_)));split
 .first
   |exact qaa (qac (qac (And.intro rfl h0)))
   |exact qac (And.intro rfl h0)
 .refine qaa ?_;refine wpAny_rule (show wpAny _ _ (standAt src.pos >>= _) _ _ s from qaa (qbe (qaa ?_)));exact qaS h (λit' s' q=>qac (And.intro rfl q)) λ_ _ z=>z
theorem Vw{w:World}{s:Shared}(h:Q γj {s with heap:=s.heap.push (St.bK #[] 0 (.fresh 0 0 (!(w.params.followText "set-order"))))}):wpAny γ A (newSet (.type "set")) Q E s:=by unfold newSet setsByText;refine qaa (qaa ?_);refine qbu (qac ?_);dsimp only;simp only[newObj];exact qaa (wpAny_alloc (qac h))
end Ex
namespace L2
open PySem PySem.Spec PyProof.Rows Ex St
section
variable{X:Cx}{pins:W1}{σ:θP}{H:Hp}{s:Shared}
def nO(X:Cx):Obj:=bK #[] 0 (.fresh 0 0 (!(X.w.params.followText "set-order")))
noncomputable def yj(X:Cx)(D:Addr)(zs:εj):HO:=.ext λh=>dq (X.w.params.followText "set-order") h D zs
theorem Vx{H:Hp}{h:Heap}{D:Addr}{zs:εj}(S:dq (X.w.params.followText "set-order") h D zs):aJ X.prog X.w H h D (yj X D zs):=⟨S,(let ⟨_,_,_,e,_⟩:=S; ⟨_,e⟩),λh1 h2 x y=>x.at y⟩
theorem BC{c:Int×Int}(ok:δW)(e:H p=some (.tup [.int c.1,.int c.2])):ef h c p:=by
 obtain⟨_,its,rv,o,g,cl,n,d⟩:=ok p _ e;cases rv with
 |cons r1 rv =>
   cases rv with
   |cons r2 rv =>
     cases rv;obtain⟨t,rfl⟩:=r1;obtain⟨u,rfl⟩:=r2;exact⟨o,_,n,t,u,g,cl,d,rfl⟩
structure SK(X:Cx)(β:Type) where
 F:Addr->β->Heap->Prop
 e0:β
 AD:β->V->Hp->(β->Prop)->Prop
 nw:∀(D:Addr) (h:Heap),h.get? D=some (nO X)->F D e0 h
 st:∀(D:Addr) (b:β) (h1 h2:Heap),F D b h1->(∀o,h1.get? D=some o->h2.get? D=some o)->F D b h2
 ob:∀(D:Addr) (b:β) (h:Heap),F D b h->∃o,h.get? D=some o
 add:∀(D:Addr) (b:β) (y:V) (v:Value) (H:Hp) (s:Shared) (P:β->Prop) (Q:T0) (E:T0),dJ X.prog X.w H s.heap->RelV y v->F D b s.heap->AD b y H P ->
  (∀h' tk b',Heap.SameBut D s.heap h'->F D b' h'->P b'->Q .none {s with heap:=h',toks:=tk})->wpAny δ X.A (call (.builtin "set.add") [.ref D,v]) Q E s
noncomputable abbrev SK.O{β:Type}(S:SK X β)(D:Addr)(b:β):HO:=.ext (S.F D b)
theorem SK.ok{β:Type}(S:SK X β){b:β}(z:S.F D b h):aJ X.prog X.w H h D (S.O D b):=⟨z,S.ob D b h z,λh1 h2 x y=>S.st D b h1 h2 x y⟩
def L9{β:Type}(S:SK X β)(te:TE):xp β:=λσ H D ys K=>te σ H λy H6=>H6 D=some (S.O D ys)/\S.AD ys y H6 λys'=>K ys' (upd H6 D (S.O D ys'))
abbrev Vy{β:Type}(S:SK X β)(fr:zzc)(own:Nat)(wi:TI)(g:TG)(tc:TT)(te:TE):TE:=AV S.O S.e0 fr own wi g tc (λ_=>True) (L9 S te)
theorem Vz{β:Type}(S:SK X β){Y:Cx}{el:Expr}{te:TE}(hx:Y.xe=λ_ _=>False)(hp:Y.prog=X.prog/\Y.w=X.w/\Y.A=X.A)(he:PE Y el te):DG S.O Y (λ_=>True) (L9 S te) (Ff el Y.env):=by intro pins s σ H D ys K J _ q;unfold Ff;refine qaa (qaS (he pins s σ H _ J q) (λv s8 zq=>?_) λ_ _ z=>by rw[hx]at z;exact z);obtain⟨y,H8,J8,r8,e8,w8⟩:=zq;obtain⟨p1,p2,p3⟩:=hp;have ok:=J8.hok;rw[p1,p2]at ok;obtain⟨S8,_⟩:=ok _ _ e8;rw[p1,p2,p3];refine qaa (qbe (qaa (S.add _ ys y v H8 _ _ _ _ ok r8 S8 w8 λh' tk ys' sb S' hy=>qac ?_)));exact⟨_,ys',J8.write (t':=tk) (o:=S.O D ys') (by rw[e8];trivial) γM (λb u hb e=>(sb.2 b hb).trans e) (S.ob _ _ _ S') (by rw[p1,p2];exact S.ok S'),eC,hy⟩
theorem L_{elt tg iter:Expr}{ifs:zza}{scope:Scope}{pos:Pos}{Nc:v6}{own:Nat}{fr:zzc}{wi:TI}{g:TG}{tc:TT}{te:TE}{β:Type}(S:SK X β)(hc:X.calm=true)(B:γP)(hi:ηj)(hog:mO own g)
 (hg:∀cl C s3 H3 fp pn',PG (X.blk Nc scope cl C s3 H3 fp pn' λ_ _=>False) tg g) (ht:∀cl C s3 H3 fp pn',pX (X.blk Nc scope cl C s3 H3 fp pn' λ_ _=>False) ifs tc) (he:∀cl C s3 H3 fp pn',PE (X.blk Nc scope cl C s3 H3 fp pn' λ_ _=>False) elt te)
 (hs:∀x,foldedSetIterable iter X.env x=pure x:=by intro _;rfl):PE X (.SetComp elt [⟨tg,iter,ifs,0⟩] scope pos) (Vy S fr own wi g tc te):=by intro pins s σ H Q I h;show wpAny _ _ (comprehension (.SetComp elt [⟨tg,iter,ifs,0⟩] scope pos) scope X.env _ (newSet (.type "set")) false ηD) _ _ _;exact AX (o0:=nO X) (gs:=[]) (act:=Ff elt) (QQ:=EP X pins σ Q) hc B hi hog hg ht (λ_ _ _=>rfl) (λcl C s3 H3 fp pn'=>Vz S rfl ⟨rfl,rfl,rfl⟩ ζl) rfl (λ_ _ _=>⟨rfl,rfl⟩) rfl Vw (λe=>S.ok (S.nw _ _ e)) Vv hs I h λL C H3 s4 hn f tF q=>let ⟨m,hm⟩:=hn; ⟨m,hm,λh' sb=>⟨.ref L,H3,tF h' sb,rfl,q⟩⟩
noncomputable def Fg(hu:X.A.units+1<cLine):SK X εj where
 F:=λD zs h=>dq (X.w.params.followText "set-order") h D zs
 e0:=[]
 AD:=λys y H P=>ys.length<600/\∃(p:Addr) (c:Int×Int),y=.ref p/\H p=some (.tup [.int c.1,.int c.2])/\bU c/\(∀z∈ys,H z.2=some (.tup [.int z.1.1,.int z.1.2]))/\∀ys',((ys'=ys/\c∈ys.map (·.1))\/(ys'.Perm ((c,p)::ys)/\c∉ys.map (·.1)))->P ys'
 nw:=λD h e=>dq.fresh _ e
 st:=λD b h1 h2 x y=>x.at y
 ob:=λD b h z=>let ⟨_,_,_,e,_⟩:=z; ⟨_,e⟩
 add:=λD b y v H s P Q E ok r S ad q=>by obtain⟨hl,p,c,rfl,hp,sm,tz,k⟩:=ad;cases r;exact Ql hu S (λz hz=>BC ok (tz z hz)) (BC ok hp) sm hl λh' tk ys' sb S' hy=>q h' tk ys' sb S' (k ys' hy)
noncomputable def Fh:SK X (u8) where
 F:=λD l h=>iF (X.w.params.followText "set-order") h D l
 e0:=[]
 AD:=λl y H P=>l.length+1<scanBound/\∃k:Int,y=.int k/\P η6
 nw:=λD h e=>⟨#[],0,_,e,(λe he=>by simp at he),.nil,iE.fresh _,rfl⟩
 st:=λD b h1 h2 x y=>x.at y
 ob:=λD b h z=>let ⟨_,_,_,e,_⟩:=z; ⟨_,e⟩
 add:=λD b y v H s P Q E ok r S ad q=>by obtain⟨hl,k,rfl,hk⟩:=ad;obtain⟨t,rfl⟩:=r;exact Vu S hl λh' tk sb S'=>q h' tk _ sb S' hk
end
end L2
namespace So
open PySem PySem.W PyProof.Rows
noncomputable def Hs(n:Nat)(c:Nat->Nat->Bool){α:Type}:KasT α->(α->Prop)->Prop
 |.ret a,Q=>Q a
 |.ask i j k,Q=>i<n/\j<n/\Hs n c (k (c i j)) Q
theorem vG{α β:Type}{f:α->KasT β}{Q:β->Prop}:∀(t:KasT α),Hs n c t (λa=>Hs n c (f a) Q)->Hs n c (t.bind f) Q
 |.ret a,h=>h
 |.ask i j k,h=>⟨h.1,h.2.1,vG (k (c i j)) h.2.2⟩
theorem qQ{α:Type}{Q Q':α->Prop}(hq:∀a,Q a->Q' a):∀(t:KasT α),Hs n c t Q->Hs n c t Q'
 |.ret a,h=>hq a h
 |.ask i j k,h=>⟨h.1,h.2.1,qQ hq (k (c i j)) h.2.2⟩
theorem Ma(hc:∀i j C,i<n->j<n->C (c i j) s->cmp i j C s){α:Type}{Q:α->Shared->Prop}:∀(t:KasT α),Hs n c t (λa=>Q a s)->t.kasWp cmp Q s
 |.ret a,h=>h
 |.ask i j k,h=>hc i j _ h.1 h.2.1 (Ma hc (k (c i j)) h.2.2)
section
variable{n:Nat}{f:Nat->Int}
noncomputable def lt(f:Nat->Int)(i j:Nat):Bool:=decide (f i<f j)
structure Pm(n:Nat)(p:ζP):Prop where
 pm:p.toList.Perm (List.range n)
theorem Pm.size(h:Pm n p):p.size=n:=by have:=h.pm.length_eq;simpa using this
theorem Pm.at(h:Pm n p)(hi:i<n):p.getD i 0<n:=by
 have lt:i<p.size:=by rw[h.size];exact hi
 rw[qaw,qat lt];have:p[i]∈p.toList:=by simp
 simpa using h.pm.mem_iff.mp this
noncomputable def F(f:Nat->Int)(p:ζP)(i:Nat):Int:=f (p.getD i 0)
theorem Pm.inj(h:Pm n p)(hf:∀i j,i<n->j<n->f i=f j->i=j)(hi:i<n)(hj:j<n)(e:F f p i=F f p j):i=j:=by
 have e:=hf _ _ (h.at hi) (h.at hj) e;have l1:i<p.size:=by rw[h.size];exact hi
 have l2:j<p.size:=by rw[h.size];exact hj
 rw[qaw,qaw,qat l1,qat l2]at e;have nd:p.toList.Nodup:=h.pm.nodup_iff.mpr List.nodup_range;exact(List.getElem_inj (xs:=p.toList) (h₀:=by simpa using l1) (h₁:=by simpa using l2) nd).mp (by simpa using e)
def Sd(f:Nat->Int)(p:ζP)(k:Nat):Prop:=∀i j,i<=j->j<k->F f p i<=F f p j
def Ni(f:Nat->Int)(p:ζP)(k:Nat):Prop:=∀i j,i<=j->j<k->F f p j<=F f p i
theorem Sd.succ(h:Sd f p k)(hk:1<=k)(e:F f p (k-1)<=F f p k):Sd f p (k+1):=λi j hij hj=>by
 by_cases z:j<k
 .exact h i j hij z
 .have:j=k:=by omega
  subst this;by_cases y:i=j
  .subst y;exact qbL _
  .exact Int.le_trans (h i (j-1) (by omega) (by omega)) e
theorem Ni.succ(h:Ni f p k)(hk:1<=k)(e:F f p k<=F f p (k-1)):Ni f p (k+1):=λi j hij hj=>by
 by_cases z:j<k
 .exact h i j hij z
 .have:j=k:=by omega
  subst this;by_cases y:i=j
  .subst y;exact qbL _
  .exact Int.le_trans e (h i (j-1) (by omega) (by omega))
theorem Fi(hp:Pm n p):∀(g k:Nat),1<=k->k+g<=n->Sd f p k->Hs n (lt f) (kas_asc p g k) (λm=>k<=m/\m<=k+g/\Sd f p m/\(m=k+g\/F f p m<F f p (m-1)))
 |0,k,_,_,h=>⟨qam _,qam _,h,.inl rfl⟩
 |g+1,k,h1,h2,h=>by
   refine⟨hp.at (by omega),hp.at (by omega),?_⟩;by_cases z:F f p k<F f p (k-1)
   .have e:lt f ζG (p.getD (k-1) 0)=true:=qan z;rw[e];dsimp only;rw[if_pos rfl];exact⟨qam _,by omega,h,.inr z⟩
   .have e:lt f ζG (p.getD (k-1) 0)=false:=qau z;rw[e];dsimp only;rw[if_neg (by simp)];refine qQ (λm hm=>?_) _ (Fi hp g (k+1) (by omega) (by omega) (h.succ h1 (Int.not_lt.mp z)));exact⟨by omega,by omega,hm.2.2.1,hm.2.2.2.imp (λe=>by omega) id⟩
theorem Mb(hp:Pm n p)(hf:∀i j,i<n->j<n->f i=f j->i=j):∀(g k:Nat),1<=k->k+g<=n->Ni f p k->Hs n (lt f) (kas_desc g p k 0) (λr=>r.1=p/\r.2.2=0/\k<=r.2.1/\r.2.1<=k+g/\Ni f p r.2.1)
 |0,k,_,_,h=>⟨rfl,rfl,qam _,qam _,h⟩
 |g+1,k,h1,h2,h=>by
   refine⟨hp.at (by omega),hp.at (by omega),?_⟩;by_cases z:F f p k<F f p (k-1)
   .have e:lt f ζG (p.getD (k-1) 0)=true:=qan z;rw[e];dsimp only;rw[if_pos rfl,if_neg (by omega)];refine qQ (λr hr=>?_) _ (Mb hp hf g (k+1) (by omega) (by omega) (h.succ h1 (Int.le_of_lt z)));exact⟨hr.1,hr.2.1,by omega,by omega,hr.2.2.2.2⟩
   .have e:lt f ζG (p.getD (k-1) 0)=false:=qau z;rw[e];dsimp only;rw[if_neg (by simp)];refine⟨hp.at (by omega),hp.at (by omega),?_⟩
    have z2:F f p (k-1)<F f p k:=by
     rcases Int.lt_or_eq_of_le (Int.not_lt.mp z) with y|y
     .exact y
     .have:=hp.inj hf (by omega) (by omega) y;omega
    have e2:lt f (p.getD (k-1) 0) ζG=true:=qan z2;rw[e2];dsimp only;rw[if_pos rfl];exact⟨rfl,rfl,qam _,(show k<=k+(g+1) by omega),h⟩
theorem BD(h:p[i]?=q[j]?):F f p i=F f q j:=by unfold F;rw[qaw,qaw,h]
theorem Pm.rev(h:Pm n p)(i j:Nat):Pm n (kas_rev p i j):=⟨(Array.perm_iff_toList_perm.mp (mirror_perm p i j _)).trans h.pm⟩
theorem VB(h:Pm n p)(hk:k<=n)(d:Ni f p k):Sd f (kas_rev p 0 k) k:=λi j hij hj=>by
 have e:∀m,m<k->F f (kas_rev p 0 k) m=F f p (k-1-m):=λm hm=>BD (by unfold kas_rev;rw[getElem?_mirror_all (by rw[h.size];exact hk),qaF ⟨by omega,hm⟩];congr 1;omega)
 rw[e i (by omega),e j hj];exact d _ _ (by omega) (by omega)
theorem VC(hp:Pm n p)(hf:∀i j,i<n->j<n->f i=f j->i=j)(hn:2<=n):Hs n (lt f) (kas_count n p) (λr=>Pm n r.2/\1<=r.1/\r.1<=n/\Sd f r.2 r.1):=by
 unfold kas_count
 refine vG _ (qQ (λm hm=>?_) _ (Fi hp (n-1) 1 (by omega) (by omega) (λi j hij hj=>by
  have:i=j:=by omega
  subst this;exact qbL _)))
 obtain⟨m1,m2,m3,m4⟩:=hm;by_cases e:m=n
 .subst e;rw[qaF (by simp)];exact⟨hp,by omega,qam _,m3⟩
 .rw[qaC (by simpa using e)];by_cases g:m>1
  .rw[qaF g];refine⟨hp.at (by omega),hp.at (by omega),?_⟩
   have z:F f p 0<F f p (m-1):=by
    rcases Int.lt_or_eq_of_le (m3 0 (m-1) (by omega) (by omega)) with y|y
    .exact y
    .have:=hp.inj hf (by omega) (by omega) y;omega
   have e2:lt f (p.getD 0 0) (p.getD (m-1) 0)=true:=qan z;rw[e2];dsimp only;rw[if_pos rfl];exact⟨hp,by omega,by omega,m3⟩
  .rw[qaC g];have m1':m=1:=by omega
   subst m1'
   have z:F f p 1<F f p 0:=by
    rcases m4 with y|y
    .omega
    .exact y
   unfold kas_descPart
   refine vG _ (qQ (λr hr=>?_) _ (Mb hp hf (n-2) 2 (by omega) (by omega) (λi j hij hj=>by
    have:(i=j)\/(i=0/\j=1):=by omega
    rcases this with y|⟨y1,y2⟩
    .subst y;exact qbL _
    .subst y1;subst y2;exact Int.le_of_lt z)))
   obtain⟨r1,r2,r3,r4,r5⟩:=hr;rw[r2,qaC (by omega),r1];unfold kas_tail3;refine vG _ (qQ (λm' hm'=>?_) _ (Fi (hp.rev 0 r.2.1) (n-r.2.1) r.2.1 (by omega) (by omega) (VB hp (by omega) r5)));exact⟨hp.rev 0 r.2.1,by omega,by omega,hm'.2.2.1⟩
theorem Fj(hp:Pm n p)(hk:k<n)(s:Sd f p k):∀(g l r:Nat),r-l<=g->l<=r->r<=k->(∀i,i<l->F f p i<=F f p k)->(∀i,r<=i->i<k->F f p k<F f p i) ->
 Hs n (lt f) (kas_place p k g l r) (λl'=>l'<=k/\(∀i,i<l'->F f p i<=F f p k)/\∀i,l'<=i->i<k->F f p k<F f p i)
 |0,l,r,h1,h2,h3,h4,h5=>by
   have:l=r:=by omega
   subst this;exact⟨h3,h4,h5⟩
 |g+1,l,r,h1,h2,h3,h4,h5=>by
   unfold kas_place;by_cases z:l ≥ r
   .rw[qaF z];have:l=r:=by omega
    subst this;exact⟨h3,h4,h5⟩
   .rw[qaC z];refine⟨hp.at hk,hp.at (by omega),?_⟩;by_cases y:F f p k<F f p ((l+r)/2)
    .have e:lt f ζG (p.getD ((l+r)/2) 0)=true:=qan y;rw[e];dsimp only;rw[if_pos rfl];exact Fj hp hk s g l ((l+r)/2) (by omega) (by omega) (by omega) h4 λi hi hik=>Int.lt_of_lt_of_le y (s _ _ hi hik)
    .have e:lt f ζG (p.getD ((l+r)/2) 0)=false:=qau y;rw[e];dsimp only;rw[if_neg (by simp)];exact Fj hp hk s g ((l+r)/2+1) r (by omega) (by omega) h3 (λi hi=>Int.le_trans (s i ((l+r)/2) (by omega) (by omega)) (Int.not_lt.mp y)) h5
theorem Pm.VD(h:Pm n p)(i j:Nat):Pm n (bubble p i j):=⟨(Array.perm_iff_toList_perm.mp (bubble_perm p i j)).trans h.pm⟩
theorem VF(h:Pm n p)(hk:k<n)(hl:l<=k)(s:Sd f p k)(h1:∀i,i<l->F f p i<=F f p k)(h2:∀i,l<=i->i<k->F f p k<F f p i):Sd f (bubble p k (k-l)) (k+1):=by
 have e:∀m,F f (bubble p k (k-l)) m=if m=l then F f p k else if l<m/\m<=k then F f p (m-1) else F f p m:=λm=>by
  have q:=getElem?_bubble (xs:=p) (src:=k) (by rw[h.size];exact hk) (k-l) (by omega) m;rw[show k-(k-l)=l by omega]at q;split
  .rename_i c;rw[qaF c]at q;exact BD q
  .rename_i c;rw[qaC c]at q;split
   .rename_i d;rw[qaF d]at q;exact BD q
   .rename_i d;rw[qaC d]at q;exact BD q
 intro i j hij hj;rw[e i,e j]
 repeat' split
 all_goals first
  |exact qbL _
  | (exfalso;omega)
  |exact s _ _ (by omega) (by omega)
  |exact h1 _ (by omega)
  |exact Int.le_of_lt (h2 _ (by omega) (by omega))
theorem Md(hf:∀i j,i<n->j<n->f i=f j->i=j):∀(g:Nat) (p:ζP) (k:Nat),Pm n p->k+g=n->Sd f p k->Hs n (lt f) (kas_bin g p k) (λp'=>Pm n p'/\Sd f p' n)
 |0,p,k,hp,h,s=>by
   have:k=n:=by omega
   subst this;exact⟨hp,s⟩
 |g+1,p,k,hp,h,s=>by unfold kas_bin;refine vG _ (qQ (λl hl=>?_) _ (Fj hp (by omega) s k 0 k (by omega) (by omega) γO (λi hi=>absurd hi (qbI _)) (λi h1 h2=>by omega)));exact Md hf g _ (k+1) (hp.VD _ _) (by omega) (VF hp (by omega) hl.1 s hl.2.1 hl.2.2)
theorem VG(hf:∀i j,i<n->j<n->f i=f j->i=j)(hn:2<=n):Hs n (lt f) (kas_sort n) (λp=>Pm n p/\Sd f p n):=by
 unfold kas_sort;refine vG _ (qQ (λr hr=>?_) _ (VC ⟨by simp⟩ hf hn));obtain⟨r1,r2,r3,r4⟩:=hr;by_cases z:r.1<n
 .rw[qaF z,show max r.1 1=r.1 by omega];exact Md hf (n-r.1) r.2 r.1 r1 (by omega) r4
 .rw[qaC z];have:r.1=n:=by omega
  rw[this]at r4;exact⟨r1,r4⟩
end
end So
namespace So
open PySem PySem.W PyProof.Rows St
theorem Me{α β:Type}(f:α->β):∀{zs:ζi}{vs:List β},vs.Perm (zs.map f)->∃zs':List α,vs=zs'.map f/\zs'.Perm zs
 |[],vs,h=>⟨[],by simpa using h,.nil⟩
 |z::r,vs,h=>by
   have hm:f z∈vs:=h.mem_iff.mpr (by simp);obtain⟨a,b,rfl⟩:=List.append_of_mem hm
   have h':(a++b).Perm (r.map f):=by have:=List.perm_middle.symm.trans h;exact(List.perm_cons (f z)).mp this
   obtain⟨zs',e,pm⟩:=Me f h';refine⟨zs'.take a.length++z::zs'.drop a.length,?_,?_⟩
   .rw[qbJ,qav,List.map_take,List.map_drop,<-e];simp
   .refine List.perm_middle.trans ?_;rw[qbc];exact List.Perm.cons z pm
section
variable{prog:Program}{w:World}{A:Around}{E:T0}{s:Shared}{a p q:Addr}
noncomputable def enc(z:Int×Int):Int:=31*z.1+z.2
theorem VH(hy:bU y)(hz:bU z):enc y<enc z ↔ y.1<z.1\/y.1=z.1/\y.2<z.2:=by obtain⟨⟨a1,a2⟩,a3,a4⟩:=hy;obtain⟨⟨b1,b2⟩,b3,b4⟩:=hz;unfold enc;omega
theorem Fm(hy:bU y)(hz:bU z)(e:enc y=enc z):y=z:=by obtain⟨⟨a1,a2⟩,a3,a4⟩:=hy;obtain⟨⟨b1,b2⟩,b3,b4⟩:=hz;unfold enc at e;exact Prod.ext (by omega) (by omega)
theorem VL(hy:ef s.heap y p)(hz:ef s.heap z q)(sy:bU y)(sz:bU z)(h:Q (decide (enc y<enc z)) s):wpAny γ A (keyLt' (tuples' true) γJ (.ref q)) Q E s:=by
 obtain⟨o1,i1,n1,t1,u1,g1,c1,d1,e1⟩:=hy;obtain⟨o2,i2,n2,t2,u2,g2,c2,d2,e2⟩:=hz;refine kat_lt g1 d1 g2 d2 ?_;rw[e1,e2];have el:=VH sy sz;refine kat_cons (wpAny_eqBool_int ?_);refine kat_go (λc=>?_) λc=>?_
 .have c:=qaI c;refine kat_yes (kat_cons (wpAny_eqBool_int ?_));refine kat_go (λc'=>?_) λc'=>?_
  .have c':=qaI c';refine kat_yes (kat_nil ?_);have z1:i1.size=2:=by have:=congrArg List.length e1;simpa using this
   have z2:i2.size=2:=by have:=congrArg List.length e2;simpa using this
   rw[z1,z2];have:¬enc y<enc z:=λz=>by rcases el.mp z with z|z<;>omega
   rw[qau this]at h;exact h
  .have c':=of_decide_eq_false c';refine kat_no (kat_one _ _ (PyProof.Rows.lt_int ?_));have:decide (y.2<z.2)=decide (enc y<enc z):=decide_eq_decide.mpr ⟨λz=>el.mpr (.inr ⟨c,z⟩),λz=>by rcases el.mp z with z|z;exact absurd c (Int.ne_of_lt z);exact z.2⟩;show Q (decide (y.2<z.2)) s;rw[this];exact h
 .have c:=of_decide_eq_false c;refine kat_no ?_;show wpAny _ _ (keyLt' oneType' _ _) _ _ _;refine kat_lt_int ?_;have:decide (y.1<z.1)=decide (enc y<enc z):=decide_eq_decide.mpr ⟨λz=>el.mpr (.inl z),λz=>by rcases el.mp z with z|z;exact z;exact absurd z.1 c⟩;rw[this];exact h
theorem ef.ref(x:ef h z p):∃o xs n t,h.get? p=some o/\o.cls=.type "tuple" /\ o.data=.seq xs n/\xs[0]?=some (.int z.1 t):=by obtain⟨o,i,n,t,u,g,c,d,e⟩:=x;exact⟨o,i,n,t,g,c,d,by rw[<-qaM,e];rfl⟩
noncomputable def refs(zs:εj):v4:=zs.map λz=>.ref z.2
theorem Mf:∀(zs:εj),(∀z∈zs,ef h z.1 z.2)->∃fs,KatTups h (refs zs) fs/\fs.length=zs.length/\∀v∈fs,∃k t,v=.int k t
 |[],_=>⟨[],trivial,rfl,λv hv=>(nomatch hv)⟩
 |z::r,h0=>by
   obtain⟨fs,a,b,c⟩:=Mf r λy hy=>h0 y (.tail _ hy);obtain⟨o,xs,n,t,g,cl,d,e⟩:=ef.ref (h0 z ζc)
   exact⟨.int z.1.1 t::fs,KatTups.cons g cl d e a,by simp[b],λv hv=>by
    rcases qak.mp hv with q|q
    .exact⟨_,_,q⟩
    .exact c v q⟩
theorem VM(k:Int)(t:Tok):Looks M h (typeOf (.int k t)) (.type "int"):=λA Q E s _ q=>wpAny_typeOf (typeIs_int s k t) q
theorem Fn{zs:εj}(h:i<zs.length):(refs zs).getD i Value.none=.ref zs[i].2:=by unfold refs;rw[qa1,qaB,qah h];rfl
theorem VN{n:Nat}{zs:εj}{P:PySem.Fin->Shared->Prop}(ho:s.heap.get? a=some (seqObj "list" (refs zs).toArray n))(hz:∀z∈zs,ef s.heap z.1 z.2)(sm:∀z∈zs,bU z.1)(nd:(zs.map (·.1)).Nodup)(hl:zs.length<64)
 (h:∀zs',zs'.Perm zs->zs'.Pairwise (λy z=>enc y.1<=enc z.1)->P (.done (.ret .none)) {s with heap:=sortedHeap s.heap a (refs zs) (refs zs').toArray}):wpAny γ A (Builtin.«list.sort» ⟨[.ref a],[]⟩) P E s:=by
 have ha:a<s.heap.objs.size:=qai ho;have rl:(refs zs).length=zs.length:=by simp[refs]
 have big:(64:Nat)<=sizeLine:=by decide
 rw[list_sort_plain];refine qaa (listItems_at ho rfl ?_);refine qaa (listUpdate_at ho rfl ?_ (by rw[qaG,rl];omega) (qaW _));obtain⟨e1,ho1⟩:∃e1,(s.heap.update a (Obj.mapSeq λ_=>(#[]:zzh))).get? a=some (seqObj "list" #[] e1):=⟨_,get?_update_seq ho λ_ => #[]⟩;refine qaa (seqEpoch_at ho1 rfl ?_);refine qaa (wpAny_newTuple ?_ (by show(refs zs).length<=_;rw[rl];omega));refine qaa (wpAny_newList ?_ (qaW _));refine qaV ?_;generalize hH:((s.heap.update a (Obj.mapSeq λ_=>(#[]:zzh))).push (seqObj "tuple" (refs zs).toArray 0)).push (seqObj "list" #[] 0)=H;show wpAny γ A _ P E {s with heap:=H}
 have ho6:H.get? a=some (seqObj "list" #[] e1):=by rw[<-hH,Heap.get?_push_ne _ _ _ (by rw[size_push',Heap.size_update];exact qal (qbH ha)),Heap.get?_push_ne _ _ _ (by rw[Heap.size_update];exact qal ha)];exact ho1
 have Fo:∀z∈zs,ef H z.1 z.2:=λz Mg=>(hz z Mg).at λo e=>by
  have ne:z.2≠a:=λq=>by obtain⟨o',xs,n',t,g,cl,_⟩:=ef.ref (hz z Mg);rw[q,ho]at g;have g:=qaQ g;rw[<-g]at cl;exact absurd cl (show(Value.type "list")≠.type "tuple" by decide)
  rw[<-hH];exact qab _ (qab _ ((qaA _ _ (qaR ne)).trans e))
 have fin:∀(zs':εj) (st:SortSt),zs'.Perm zs->zs'.Pairwise (λy z=>enc y.1<=enc z.1)->(arrOf st).map (·.2)=(refs zs').toArray->failedOf st=none->wpAny γ A (do
  let touched:=(<-seqEpoch a) != e1
  Builtin.List.listUpdate γC λ_=>(arrOf st).map (·.2)
  if let some e:=failedOf st then rule "list.sort.comparison-raised";throw e
  if touched then rule "list.sort.modified";raiseError "ValueError" "list modified during sort"
  ret .none) P E {s with heap:=H}:=λzs' st pm pw har hf=>by refine qaa (seqEpoch_at (s:={s with heap:=H}) ho6 rfl ?_);rw[har];refine qaa (listUpdate_at (s:={s with heap:=H}) ho6 rfl ?_ (qaW _) (by show(refs zs').toArray.size<=_;have:=pm.length_eq;simp[refs];omega));rw[hf];simp only[bne_self_eq_false,Bool.false_eq_true,if_false];refine qac ?_;have:=h zs' pm pw;unfold sortedHeap at this;rw[hH]at this;exact this
 dsimp only;have sz:(refs zs).toArray.size=zs.length:=by rw[qaG,rl]
 have snd:((refs zs).toArray.zip (refs zs).toArray).map (·.2)=(refs zs).toArray:=by apply Array.toList_inj.mp;simp[Array.toList_zip,List.map_snd_zip]
 by_cases h2:(refs zs).toArray.size<2
 .rw[qaF h2,qaF h2];refine qaa (qac ?_);rw[StateT.run_pure];refine qaa (qac ?_);dsimp only;refine fin zs (SortSt.mk' general' ((refs zs).toArray.zip (refs zs).toArray) #[] 7 none) (.refl _) ?_ snd rfl;rw[sz]at h2
  match zs,h2 with
  |[],_=>exact .nil
  |[z],_=>simp
  |_::_::_,h2=>exact absurd h2 (by simp only[List.length_cons];omega)
 .rw[qaC h2,qaC h2];rw[sz]at h2;have h2':2<=zs.length:=by omega
  obtain⟨fs,kt,fl,fi⟩:=Mf zs Fo;refine qaa (kat_kind (s:={s with heap:=H}) (T:=.type "int") kt (by omega) (λv hv=>by obtain⟨k,t,rfl⟩:=fi v hv;exact VM k t) (by decide) ?_);have tt:(Value.type "int" != Value.type "tuple")=true:=by decide
  rw[tt];generalize hf:(λi:Nat=>enc ((zs.map (·.1)).getD i (0,0)))=f
  have yk:∀i (hi:i<zs.length),f i=enc zs[i].1:=λi hi=>by rw[<-hf];simp only[List.getD_eq_getElem?_getD,List.getElem?_map,List.getElem?_eq_getElem hi];rfl
  have Fp:∀i j,i<zs.length->j<zs.length->f i=f j->i=j:=λi j hi hj e=>by rw[yk i hi,yk j hj]at e;have e:=Fm (sm _ (qaY hi)) (sm _ (qaY hj)) e;exact(List.getElem_inj (xs:=zs.map (·.1)) (h₀:=by simpa using hi) (h₁:=by simpa using hj) nd).mp (by simpa using e)
  refine qaa (qaS (kat_run (s:={s with heap:=H}) (ks:=refs zs) (vs:=refs zs) (Q:=λst' s'=>∃p:Array Nat,s'={s with heap:=H}/\Pm zs.length p/\Sd f p zs.length/\(arrOf st').map (·.2)=(p.toList.map λi=>(refs zs).getD i Value.none).toArray/\failedOf st'=none) rfl (by omega) (by omega) (G:=λp s'=>s'={s with heap:=H}/\Pm zs.length p/\Sd f p zs.length) (λp st' s' hp har hfl hg=>⟨p,hg.1,hg.2.1,hg.2.2,kat_snds rfl har,hfl⟩) ?_) ?_ λ_ _ z=>z)
  rotate_left
  .rintro⟨⟨⟩,st'⟩ s' ⟨p,rfl,pm,sd,har,hfl⟩;have pin:∀i∈p.toList,i<zs.length:=λi hi=>by simpa using pm.pm.mem_iff.mp hi
   have mp:(p.toList.map λi=>(refs zs).getD i Value.none)=refs (p.toList.filterMap λi=>zs[i]?):=by
    have:∀(l:zzc),(∀i∈l,i<zs.length)->(l.map λi=>(refs zs).getD i Value.none)=refs (l.filterMap λi=>zs[i]?):=λl=>by
     induction l with
     |nil=>intro _;rfl
     |cons i r ih =>
       intro hi;rw[qav,List.filterMap_cons_some (qah (hi i ζc)),ih λk hk=>hi k (.tail _ hk),Fn (hi i ζc)];rfl
    exact this _ pin
   rw[mp]at har;refine fin _ st' ?_ ?_ har hfl
   .have:=pm.pm.filterMap (λi=>zs[i]?);rwa[List.filterMap_getElem?_range_length]at this
   .have len:(p.toList.filterMap λi=>zs[i]?).length=zs.length:=by have:=(pm.pm.filterMap (λi=>zs[i]?)).length_eq;rwa[List.filterMap_getElem?_range_length]at this
    have at':∀(l:zzc),(∀i∈l,i<zs.length)->∀k (hk:k<(l.filterMap λi=>zs[i]?).length) (hk':k<l.length),enc (l.filterMap λi=>zs[i]?)[k].1=f l[k]:=λl=>by
     induction l with
     |nil=>intro _ k hk hk';simp at hk'
     |cons i r ih =>
       intro hi k hk hk';have hr:=ih λm hm=>hi m (.tail _ hm);have e:=List.filterMap_cons_some (f:=λi=>zs[i]?) (l:=r) (qah (hi i ζc));simp only[e]at hk ⊢;cases k with
       |zero=>rw[List.getElem_cons_zero,List.getElem_cons_zero,yk i (hi i ζc)]
       |succ k =>
         rw[List.getElem_cons_succ,List.getElem_cons_succ];exact hr k (by simpa using hk) (by simpa using hk')
    rw[qbj]
    intro i j hi hj hij
    have ps:p.size=zs.length:=pm.size
    rw[at' _ pin i hi (by rw[qaz];omega),at' _ pin j hj (by rw[qaz];omega)]
    have:=sd i j (by omega) (by omega)
    unfold F at this
    rw[qaw,qaw,qat (by omega:i<p.size),qat (by omega:j<p.size)]at this
    exact this
  .rw[rl];refine Ma (n:=zs.length) (c:=lt f) (s:={s with heap:=H}) (λi j C hi hj hc=>?_) _ (qQ (λp hp=>⟨rfl,hp.1,hp.2⟩) _ (VG Fp h2'));show wpAny _ _ (keyLt' (tuples' true) ((refs zs).getD i Value.none) ((refs zs).getD j Value.none)) _ _ _;rw[Fn hi,Fn hj];refine VL (s:={s with heap:=H}) (Fo _ (qaY hi)) (Fo _ (qaY hj)) (sm _ (qaY hi)) (sm _ (qaY hj)) ?_;have:lt f i j=decide (enc zs[i].1<enc zs[j].1):=by unfold lt;rw[yk i hi,yk j hj]
   rw[<-this];exact hc
end
section
variable{prog:Program}{w:World}{A:Around}{E:T0}{s:Shared}{a:Addr}
theorem VP{zs:εj}{Q:T0}(hh:A.handled=none)(hS:dq (w.params.followText "set-order") s.heap a zs)(hz:∀z∈zs,ef s.heap z.1 z.2)(h64:zs.length<64)
 (h:∀(h':Heap) (d:Drawn) (tk:Nat) (p:Addr) (e:Nat) (zs':εj),s.heap.objs.size<=p->(∀b o,s.heap.get? b=some o->h'.get? b=some o)->h'.get? p=some {cls:=.type "list",dict:=none,data:=.seq (refs zs').toArray e,slots:= #[]}->zs'.Perm zs->zs'.Pairwise (λy z=>enc y.1<=enc z.1)->Q γJ {s with heap:=h',drawn:=d,toks:=tk}) :
 wpAny γ A (call (.builtin "sorted") [.ref a]) Q E s:=by
 obtain⟨es,ep,t,ha,T,nf⟩:=hS;have big:(64:Nat)<=sizeLine:=by decide
 have len:=T.len;refine Calls.call_function_entry kind_sorted plain_sorted entry_sorted (args_sorted1 _) (show wpAny _ _ (checkCount "sorted" 1 1 1 >>= _) _ _ _ from qaa (qac ?_));refine qaa (H_ hh ha T.hon T.fits (by omega) λvs h1 d tk le k1 pv=>?_)
 have em:es.toList.map (·.2)=refs zs:=by rw[T.el,qbN];unfold refs;exact List.map_congr_left λz _=>by rw[Function.comp_apply,wL]
 rw[em]at pv;obtain⟨nc,rfl,i7⟩:=Me (λz:Z=>Value.ref z.2) pv;have l1:=i7.length_eq;have vl:(nc.map λz:Z=>Value.ref z.2).length=nc.length:=by simp
 refine qaa (wpAny_newList ?_ (by rw[vl];omega));show wpAny _ _ _ _ _ {s with heap:=h1.push (seqObj "list" (refs nc).toArray 0),drawn:=d,toks:=tk};have hoL:(h1.push (seqObj "list" (refs nc).toArray 0)).get? h1.objs.size=some (seqObj "list" (refs nc).toArray 0):=qao _ rfl;refine qaa (qaV (qaZ slot_list_sort ⟨_,hoL,rfl⟩ entry_list_sort (VN (s:={s with heap:=h1.push (seqObj "list" (refs nc).toArray 0),drawn:=d,toks:=tk}) hoL (λz hz1=>(hz z (i7.mem_iff.mp hz1)).at λo e=>qab _ (k1 _ _ e)) (λz hz1=>T.sm z (i7.mem_iff.mp hz1)) ((i7.map _).nodup_iff.mpr T.nd) (by omega) λzs' pm pw=>⟨_,rfl,?_⟩) (args_list_sort _)));obtain⟨e,ge⟩:=Ia hoL (refs zs').toArray;exact qac ⟨_,rfl,h _ d tk h1.objs.size e zs' le (λb o z=>Ib (qal (qai (k1 b o z))) (qab _ (k1 b o z))) ge (pm.trans i7) pw⟩
end
end So
namespace L2
open PySem PySem.Spec PyProof.Rows Ex St So
section
variable{X:Cx}
def BE(X:Cx)(xs:γB)(H:Hp)(Q:VK):Prop:=∃(p:Addr) (zs:εj),xs=[.ref p]/\H p=some (yj X p zs)/\(∀z∈zs,H z.2=some (.tup [.int z.1.1,.int z.1.2]))/\zs.length<64 /\
 ∀(q:Addr) (zs':εj),H q=none->zs'.Perm zs->zs'.Pairwise (λy z=>enc y.1<=enc z.1)->Q (.ref q) (upd H q (.lst (zs'.map λz=>V.ref z.2)))
theorem Mh:∀zs:List Z,Vals (zs.map λz=>V.ref z.2) (refs zs)
 |[]=>.nil
 |z::r=>.cons rfl (Mh r)
theorem Mi(calm:X.calm=true):aN X (.builtin "sorted") (BE X):=by
 intro pins s σ H xs us Q I r h;obtain⟨p,zs,rfl,hp,ht,hn,q⟩:=h;obtain⟨u,rfl,ru⟩:=r.one;cases ru;obtain⟨S,_⟩:=I.hok p _ hp;refine VP θZ S (λz hz=>BC I.hok (ht z hz)) hn λh' d tk p' e zs' le k g pm pw=>?_;refine⟨.ref p',upd H p' (.lst (zs'.map λz=>V.ref z.2)),(I.laid (t':=tk) (o:=.lst (zs'.map λz=>V.ref z.2)) k le ⟨?_,refs zs',e,Mh zs',g⟩).drawn d,rfl,q _ zs' (I.hok.fresh le) pm pw⟩;rw[qaf,pm.length_eq];have z:(64:Nat)<=sizeLine:=by decide
 omega
end
end L2
namespace Dv
open PySem L2 Ex St So
variable[KC]
noncomputable def pD(c:Int×Int):D:=.tup [.int c.1,.int c.2]
noncomputable def asP:List D->Option (P3)
 |[]=>some []
 |.tup [.int i,.int j]::r=>if decide (0<=i)&&decide (i<=30)&&decide (0<=j)&&decide (j<=30) then (asP r).map ((i,j) :: ·) else none
 |_=>none
omit [KC] in
theorem yl(h:asP (d::r)=some cs):∃c cs',d=pD c/\bU c/\asP r=some cs'/\cs=c::cs':=by
 unfold asP at h;split at h
 .cases ‹d::r=[]›
 .rename_i i j r' e;cases e;split at h
  .rename_i c;simp only[Bool.and_eq_true,decide_eq_true_eq]at c;cases q:asP r with
   |none=>rw[q]at h;cases h
   |some cs'=>rw[q]at h;cases h;exact⟨(i,j),cs',rfl,⟨⟨c.1.1.1,c.1.1.2⟩,c.1.2,c.2⟩,rfl,rfl⟩
  .cases h
 .cases h
omit [KC] in
theorem Fq:∀{a b:γd}{cs:P3},asP (a++b)=some cs->∃c1 c2,asP a=some c1/\asP b=some c2/\cs=c1++c2
 |[],b,cs,h=>⟨[],cs,rfl,h,rfl⟩
 |d::a,b,cs,h=>by obtain⟨c,cs',rfl,sm,h',rfl⟩:=yl (r:=a++b) h;obtain⟨c1,c2,e1,e2,rfl⟩:=Fq h';refine⟨c::c1,c2,?_,e2,rfl⟩;show(if decide (0<=c.1)&&decide (c.1<=30)&&decide (0<=c.2)&&decide (c.2<=30) then (asP a).map (c :: ·) else none)=_;rw[qaF (by simp only[Bool.and_eq_true,decide_eq_true_eq];exact⟨⟨⟨sm.1.1,sm.1.2⟩,sm.2.1⟩,sm.2.2⟩),e1];rfl
omit [KC] in
theorem VQ{K:Type}[BEq K][LawfulBEq K](σ:List K)(v x:K):x∈PyProof.Rows.step_dedup σ v ↔ x∈σ\/x=v:=by
 unfold PyProof.Rows.step_dedup;split
 .rename_i h;rw[List.any_eq_true]at h;obtain⟨y,hy,e⟩:=h;have e:y=v:=by simpa using e
  subst e;exact⟨.inl,λz=>z.elim id λe=>by rw[e];exact hy⟩
 .simp
omit [KC] in
theorem VR{K:Type}[BEq K][LawfulBEq K]{σ:List K}(h:σ.Nodup)(v:K):(PyProof.Rows.step_dedup σ v).Nodup:=by
 unfold PyProof.Rows.step_dedup;split
 .exact h
 .rename_i q;rw[List.nodup_append];refine⟨h,by simp,λa ha b hb e=>?_⟩;rw[qaD]at hb;subst hb;subst e;exact q (List.any_eq_true.mpr ⟨a,ha,by simp⟩)
omit [KC] in
theorem ym{K:Type}[BEq K][LawfulBEq K]:∀(ns σ:List K),σ.Nodup->(ns.foldl PyProof.Rows.step_dedup σ).Nodup/\∀x,x∈ns.foldl PyProof.Rows.step_dedup σ ↔ x∈σ\/x∈ns
 |[],σ,h=>⟨h,λx=>by simp⟩
 |v::r,σ,h=>by obtain⟨a,b⟩:=ym r _ (VR h v);refine⟨a,λx=>?_⟩;rw[List.foldl_cons,b x,VQ,qak,or_assoc]
noncomputable def yn(cs:P3):P3:=cs.foldl PyProof.Rows.step_dedup []
def aE(cs:P3):P3:=(yn cs).mergeSort λa b=>decide (enc a<=enc b)
omit [KC] in
theorem Ft(cs:P3):(aE cs).Perm (yn cs):=List.mergeSort_perm ..
omit [KC] in
theorem au:c∈aE cs ↔ c∈cs:=by rw[(Ft cs).mem_iff];have:=(ym cs [] qbG).2 c;simpa [yn]using this
omit [KC] in
theorem BF(cs:P3):(aE cs).Nodup:=(Ft cs).nodup_iff.mpr (ym cs [] qbG).1
omit [KC] in
theorem Fu(cs:P3):(aE cs).Pairwise λa b=>enc a<=enc b:=by
 have h:=List.pairwise_mergeSort (le:=λa b:Int×Int=>decide (enc a<=enc b)) (λa b c h1 h2=>qan ιt) (λa b=>by
  rcases Int.le_total (enc a) (enc b) with h|h
  .rw[qan h];rfl
  .rw[qan h,Bool.or_true]) (yn cs)
 exact h.imp λh=>qaI h
omit [KC] in
theorem yo{cs l:P3}(sm:∀c∈cs,bU c)(nd:l.Nodup)(pw:l.Pairwise λa b=>enc a<=enc b)(hm:∀c,c∈l ↔ c∈cs):l=aE cs:=by
 have pm:l.Perm γ2:=(List.perm_ext_iff_of_nodup nd (BF cs)).mpr λc=>by rw[hm c,au]
 refine List.Perm.eq_of_pairwise (le:=λa b=>enc a<=enc b) (λa b ha hb h1 h2=>?_) pw (Fu cs) pm;exact Fm (sm a ((hm a).mp ha)) (sm b (au.mp hb)) (Int.le_antisymm h1 h2)
omit [KC] in
theorem Fv:∀{ds:γd}{cs:P3},asP ds=some cs->∀c∈cs,bU c
 |[],cs,h=>by cases h;intro c hc;cases hc
 |d::r,cs,h=>by
   obtain⟨c,cs',rfl,sm,h',rfl⟩:=yl h;intro x hx;rcases qak.mp hx with e|e
   .rw[e];exact sm
   .exact Fv h' x e
noncomputable def Fw(out:List D->Option RV)(items:M γd)(fr:zzc)(own:Nat)(m:D->M Unit)(p:δN)(f:M RV):M RV:=M.bind items λds=>if ds.length<64 then M.bind ζT λys=>M.dH (out ys) else M.st
def vH(ys:γd):Option RV:=(asP ys).map λcs=>.new (.lst ((aE cs).map pD))
def outI(ys:γd):Option RV:=(iA ys).bind λns=>if (dd ns).length<64 then some (.new (.lst ((fA (dd ns)).map D.int))) else none
abbrev Mj:=Fw vH
abbrev Ml:=Fw outI
section
variable{X:Cx}{EE:bw}{ios:zzd}{p:δN}{f:M RV}
omit [KC] in
theorem Mm[KC](h:Rp R x (pD c)):∃a,x=.ref a/\R a=some (.tup [.int c.1,.int c.2]):=by
 unfold pD at h;cases h with
 |tup e hs =>
   cases hs with
   |cons h1 hs =>
     cases hs with
     |cons h2 hs =>
       cases hs;cases h1;cases h2;exact⟨_,rfl,e⟩
theorem Fx:∀(zs:εj),(∀z∈zs,R z.2=some (.tup [.int z.1.1,.int z.1.2]))->aH R (zs.map λz=>V.ref z.2) ((zs.map (·.1)).map pD)
 |[],_=>.nil
 |z::r,h=>.cons (.tup (h z ζc) (.cons δY (.cons δY .nil))) (Fx r λy hy=>h y (.tail _ hy))
def BG(zs:εj)(ys:γd)(R:Hp):Prop:=(∀c1,asP ys=some c1->∀c,c∈zs.map (·.1) ↔ c∈c1)/\(zs.map (·.1)).Nodup/\(∀z∈zs,R z.2=some (.tup [.int z.1.1,.int z.1.2]))/\zs.length<=ys.length
omit [KC] in
theorem Mn(h:vH ys=some rv):∃cs,asP ys=some cs/\rv=.new (.lst ((aE cs).map pD)):=by unfold vH at h;obtain⟨cs,h1,h2⟩:=qbi.mp h;exact⟨cs,h1,h2.symm⟩
theorem VU(b:εj)(ys:γd)(dy:D)(zr:γd)(rv:RV)(y:V)(R H:Hp)(P:List Z->Prop)(hinv:BG b ys R)(hl:ys.length<64)(hout:vH (ys++dy::zr)=some rv)(ry:Rp R y dy)(sub:ηZ)(k:∀b',BG b' (ys++[dy]) R->P b'):(Fg (X:=X) hu).AD b y H P:=by
 obtain⟨cs,hcs,_⟩:=Mn hout;obtain⟨hkeys,hnd,hzs,VV⟩:=hinv;obtain⟨c1,c2,q1,q2,_⟩:=Fq hcs;obtain⟨c,c3,rfl,sm,q3,_⟩:=yl q2;obtain⟨pa,rfl,hpa⟩:=Mm ry;have kz:=hkeys c1 q1;refine⟨by omega,pa,c,rfl,sub _ _ hpa,sm,λz hz=>sub _ _ (hzs z hz),λzs' Fy=>k zs' ?_⟩
 have ap:∀c1',asP (ys++[pD c])=some c1'->∀x,x∈c1' ↔ x∈c1\/x=c:=λc1' h x=>by
  obtain⟨d1,d2,r1,r2,rfl⟩:=Fq h;rw[q1]at r1;cases r1;obtain⟨c',c4,e,_,e4,rfl⟩:=yl r2;cases e4
  have:c=c':=by
   unfold pD at e;injection e with e
   injection e with e5 e6
   injection e5 with e5
   injection e6 with e6
   injection e6 with e6
   exact Prod.ext e5 e6
  subst this;simp
 rcases Fy with ⟨rfl,hin⟩|⟨pm,t4⟩
 .exact⟨λc1' h x=>Iff.trans ⟨λh=>.inl ((kz x).mp h),λh=>h.elim (kz x).mpr λe=>by rw[e];exact hin⟩ (ap c1' h x).symm,hnd,hzs,by rw[qaq];simp;omega⟩
 .have i7:=pm.map (·.1);refine⟨λc1' h x=>Iff.trans ?_ (ap c1' h x).symm,i7.nodup_iff.mpr (qbd.mpr ⟨t4,hnd⟩),λz hz=>?_,by rw[pm.length_eq,qaN,qaq];simp;omega⟩
  .rw[i7.mem_iff,qav,qak,kz x];exact Or.comm
  .rcases qak.mp ιf with e|e
   .rw[e];exact hpa
   .exact hzs z e
theorem VX(b:εj)(ys:γd)(R H:Hp)(A:Addr)(Q:VK)(rv:RV)(hinv:BG b ys R)(sub:ηZ)(hA:H A=some ((Fg (X:=X) hu).O A b))(hl:ys.length<64)(hout:vH ys=some rv)(w:∀z H' R',Al R H R' H'->i5 R' H H' z rv->Q z H'):BE X [.ref A] H Q:=by
 obtain⟨cs,hcs,rfl⟩:=Mn hout;obtain⟨hkeys,hnd,hzs,VV⟩:=hinv;refine⟨A,b,rfl,hA,λz hz=>sub _ _ (hzs z hz),by omega,λq zs' hq pm pw=>?_⟩;have Fz:(zs'.map (·.1)).Nodup:=(pm.map _).nodup_iff.mpr hnd;have ez:zs'.map (·.1)=aE cs:=yo (Fv hcs) Fz (List.pairwise_map.mpr pw) λc=>by rw[(pm.map _).mem_iff];exact hkeys cs hcs c
 obtain⟨al,rv⟩:=nJ sub hq (Fx zs' λz hz=>hzs z ιf);rw[ez]at rv;exact w _ _ _ al rv
def BH(X:Cx)(xs:γB)(H:Hp)(Q:VK):Prop:=∃(p:Addr) (l:u8),xs=[.ref p]/\H p=some (L7 X p l)/\l.length<64/\∀(q:Addr) (ns:u8),H q=none->ns.Perm l->ns.Pairwise (· <= ·)->Q (.ref q) (upd H q ηM)
def BI(l:u8)(ys:γd)(_:Hp):Prop:=∃ns,iA ys=some ns/\l=dd ns
omit [KC] in
theorem Mp:∀{a b:γd}{cs:u8},iA (a++b)=some cs->∃c1 c2,iA a=some c1/\iA b=some c2/\cs=c1++c2
 |[],b,cs,h=>⟨[],cs,rfl,h,rfl⟩
 |d::a,b,cs,h=>by
   have e:=nN h;cases cs with
   |nil=>cases e
   |cons i r =>
     rw[List.cons_append,qav]at e;injection e with e1 e2
     subst e1;have h':iA (a++b)=some r:=by rw[e2,vj]
     obtain⟨c1,c2,q1,q2,rfl⟩:=Mp h';exact⟨i::c1,c2,by show(iA a).map (i :: ·)=_;rw[q1];rfl,q2,rfl⟩
omit [KC] in
theorem Mq(h:outI ys=some rv):∃ns,iA ys=some ns/\(dd ns).length<64/\rv=.new (.lst ((fA (dd ns)).map D.int)):=by
 unfold outI at h;obtain⟨cs,h1,h2⟩:=Option.bind_eq_some_iff.mp h;split at h2
 .rename_i z;cases h2;exact⟨cs,h1,z,rfl⟩
 .cases h2
theorem stepI(b:u8)(ys:γd)(dy:D)(zr:γd)(rv:RV)(y:V)(R H:Hp)(P:u8->Prop)(hinv:BI b ys R)(hl:ys.length<64)(hout:outI (ys++dy::zr)=some rv)(ry:Rp R y dy)(sub:ηZ)(k:∀b',BI b' (ys++[dy]) R->P b'):(Fh (X:=X)).AD b y H P:=by
 obtain⟨cs,hcs,_,_⟩:=Mq hout;obtain⟨ns,hns,rfl⟩:=hinv;obtain⟨c1,c2,q1,q2,_⟩:=Mp hcs;have e:=nN q2;cases c2 with
 |nil=>cases e
 |cons i r =>
   injection e with e1 e2
   subst e1;cases ry;have len:ns.length=ys.length:=by rw[nN hns,qaf]
   refine⟨by have:=L8 ns;have:(258:Nat)<=scanBound-2:=(by decide);omega,i,rfl,k _ ⟨ns++[i],?_,?_⟩⟩
   .rw[nN hns,show ns.map D.int++[D.int i]=(ns++[i]).map D.int by simp,vj]
   .unfold dd;rw[List.foldl_append];rfl
theorem VZ(b:u8)(ys:γd)(R H:Hp)(A:Addr)(Q:VK)(rv:RV)(hinv:BI b ys R)(sub:ηZ)(hA:H A=some ((Fh (X:=X)).O A b))(hl:ys.length<64)(hout:outI ys=some rv)(w:∀z H' R',Al R H R' H'->i5 R' H H' z rv->Q z H') :
 BH X [.ref A] H Q:=by
 obtain⟨cs,hcs,V0,rfl⟩:=Mq hout;obtain⟨ns,hns,rfl⟩:=hinv;rw[hcs]at hns;cases hns;have len:cs.length=ys.length:=by rw[nN hcs,qaf]
 refine⟨A,dd cs,rfl,hA,V0,λq ns' hq pm pw=>?_⟩;have e:ns'=fA (dd cs):=KW (pm.trans (bA _).symm) pw (D8 _);obtain⟨al,rv⟩:=nJ sub hq (aH.ints (R:=R) (fA (dd cs)));rw[e];exact w _ _ _ al rv
theorem V1{elt tg iter:Expr}{ifs:zza}{pos pos' p0:Pos}{k:Nat}{scope:Scope}{Nc:v6}{own:Nat}{fr:zzc}{gt:TG}{items:M γd}{m:D->M Unit}(hl:X.mg "sorted" = none)(FA:Gl X "sorted")(hr0:γX)(hc:X.calm=true)(B:γP)(hn:fr.Nodup)(hi:δH)(hog:mO own gt)
 (hg:∀cl C s3 H3 fp pn',PG ζ tg gt) (hr:ζe) (hk:nQ own m) (ht:∀cl C s3 H3 fp pn',qM ζ EN ios ifs p) (he:∀cl C s3 H3 fp pn',VE ζ EN ios elt f)
 (hs:∀x,foldedSetIterable iter X.env x=pure x:=by intro _;rfl) (hst:starEach [.SetComp elt [⟨tg,iter,ifs,0⟩] scope pos] X.env=[(false,eval (.SetComp elt [⟨tg,iter,ifs,0⟩] scope pos) X.env)]:=by rfl):VE X EE ios (.Call (.Name "sorted" p0) [.SetComp elt [⟨tg,iter,ifs,0⟩] scope pos] [] pos') (Mj items fr own m p f):=
 let ⟨_,h1,h2⟩:=hi
 ⟨_,rD (Mi hc) FA hl (by decide +kernel) (jU (L_ (Fg (by have:=hr0.un;omega)) hc B h1 hog hg ht (λcl C s3 H3 fp pn'=>(he cl C s3 H3 fp pn').pe) hs) oh (hs:=hst)) (he:=hst) (hpl:=rfl),Ef (e0:=([]:List Z)) (rS:=λx=>BE X [x]) BG (λb ys R R' h q=>⟨h.1,h.2.1,λz hz=>q _ _ (h.2.2.1 z hz),h.2.2.2⟩) (λR=>⟨λc1 h c=>by cases h;exact Iff.rfl,qbG,(λz hz=>nomatch hz),qam _⟩) (λ_ _ _ _ _=>trivial) VU (Lb (rS:=λx=>BE X [x]) VX) hn h2 hr hk (λσ H R Γ Q er w=>⟨R,Γ,er,w⟩) (λσ H R Γ Q er w=>⟨R,Γ,er,w⟩)⟩
theorem V2{elt tg iter:Expr}{ifs:zza}{pos pos' p0:Pos}{k:Nat}{scope:Scope}{Nc:v6}{own:Nat}{fr:zzc}{gt:TG}{items:M γd}{m:D->M Unit}(hl:X.mg "sorted" = none)(FA:Gl X "sorted")(hr0:γX)(hc:X.calm=true)(B:γP)(hn:fr.Nodup)(hi:δH)(hog:mO own gt)
 (hg:∀cl C s3 H3 fp pn',PG ζ tg gt) (hr:ζe) (hk:nQ own m) (ht:∀cl C s3 H3 fp pn',qM ζ EN ios ifs p) (he:∀cl C s3 H3 fp pn',VE ζ EN ios elt f)
 (hs:∀x,foldedSetIterable iter X.env x=pure x:=by intro _;rfl) (hst:starEach [.SetComp elt [⟨tg,iter,ifs,0⟩] scope pos] X.env=[(false,eval (.SetComp elt [⟨tg,iter,ifs,0⟩] scope pos) X.env)]:=by rfl):VE X EE ios (.Call (.Name "sorted" p0) [.SetComp elt [⟨tg,iter,ifs,0⟩] scope pos] [] pos') (Ml items fr own m p f):=
 let ⟨_,h1,h2⟩:=hi
 ⟨_,rD (show aN X (.builtin "sorted") (BH X) from Vt hc) FA hl (by decide +kernel) (jU (L_ Fh hc B h1 hog hg ht (λcl C s3 H3 fp pn'=>(he cl C s3 H3 fp pn').pe) hs) oh (hs:=hst)) (he:=hst) (hpl:=rfl),Ef (rS:=λx=>BH X [x]) BI (λb ys R R' h _=>h) (λR=>⟨[],rfl,rfl⟩) (λ_ _ _ _ _=>trivial) stepI (Lb (rS:=λx=>BH X [x]) VZ) hn h2 hr hk (λσ H R Γ Q er w=>⟨R,Γ,er,w⟩) (λσ H R Γ Q er w=>⟨R,Γ,er,w⟩)⟩
end
end Dv
namespace L2
open PySem PySem.Spec PyProof.Rows Ex
section
variable{X:Cx}{EE:bw}{k:Nat}{f C:Addr}{fd:FuncData}{ps:v6}{sp:Sp}{cS:γB}{ds:v4}{x:Str}{p pos:Pos}{e:Expr}{es:zza}{t:TA}
theorem V3{pins:W1}{σ:St}{H:Hp}{s:Shared}{Q:VK}{us:v4}{vs:γB}(M:Mk X.K C f)(F:δG)(hr:az (k+1) X.A)(hb:δa)(hd:ε5)(hX:ζh)(I:ε)(r:Vals vs us)
 (h:∀x dx,H x=none->H dx=none->dx≠x->sp (.ref x::(vs++cS)) (upd εe x (.ins C dx [])) (λv H2=>v=.ax/\Q δX H2) (EE σ)):wpAny δ X.A (call γf us) γL X.xe s:=by
 have hq:=h (s.heap.objs.size+1) s.heap.objs.size (I.hok.fresh (Nat.le_succ _)) ζx (qal (qa3 _));have I2:=Inv.made (C:=C) I;have r2:Vals (V.ref (s.heap.objs.size+1)::(vs++cS)) (Value.ref (s.heap.objs.size+1)::(us++ds)):=.cons rfl (r.append hd)
 have hl:(Value.ref (s.heap.objs.size+1)::us++ds).length=ps.length:=by have e:=r2.length;rw[F.len _ _ _ _ hq]at e;exact e.symm
 refine wpAny_call (Rw (f:=f) I.bV M.makes M.init (qa7.mp M.fn) (codeAny_mono (F.run _ X.stack _ _ ⟨Value.ref (s.heap.objs.size+1)::us,[]⟩ (Value.ref (s.heap.objs.size+1)::(us++ds)) _ _ (EE σ) (hr.make C us [])
  (I2.env0.make C us []) (hb _ (Value.ref (s.heap.objs.size+1)::us) I2.bV hl) r2 hq) λr s' hq'=>?_))
 cases r with
 |error e=>exact Kg hX I2 hq'
 |ok fl =>
   cases fl with
   |ret u =>
     obtain⟨v,H',I3,rv,ev,q3⟩:=I2.after hq';subst ev;exact⟨rv,⟨V.ref (s.heap.objs.size+1),H',I3,rfl,q3⟩⟩
   |next=>exact False.elim hq'
   |brk=>exact False.elim hq'
   |cont=>exact False.elim hq'
def Made(C:Addr)(sp si:Sp):Prop:=∀vs H Q E,sp vs H Q E->∀x dx,H x=none->H dx=none->dx≠x->si (.ref x::vs) (upd εe x (.ins C dx [])) (λv H2=>v=.ax/\Q δX H2) E
theorem V4(M:Mk X.K C f)(F:bz X.prog X.w X.K X.mg X.base (ix X.prog X.w) k f fd ps si)(hr:az (k+1) X.A)(hg:ζD)(hm:X.mg x=some γf)(hb:δa)(hd:ε5)(hX:ζh)(hsp:Made C sp si)
 (ha:PA X (e::es) t) (hdb:(x == ("__debug__":Str))=false:=by decide) (he:starEach (e::es) X.env=(false,eval e X.env)::starEach es X.env:=by rfl) (hpl:(backTo pos γc).any (·.1)=false:=by rfl) :
 PE X (.Call δx (e::es) [] pos) (vD sp cS EE t):=by intro pins s σ H Q I h;refine qbr (uS I hg hm ?_ hdb);refine W.callWith_K (h₀:=X.base) I.ok.mod.qs M.kp (aK γV λus s1 zq=>?_) he hpl;obtain⟨vs,H1,I1,r,q⟩:=zq;refine⟨I1.bV,?_⟩;exact V3 M F hr hb hd hX I1 r (hsp _ _ _ _ q)
end
end L2
namespace Dv
open PySem L2 Ex
variable[KC]
section
variable{X:Cx}{EE:bw}{ios:zzd}
structure BJ(x:Addr)(R H R' H':Hp):Prop where
 sub:ah R' H'
 rr:ah R R'
 hh:∀b o,b≠x->H b=some o->H' b=some o
 no:∀b o,b≠x->H b=some o->R b=none->R' b=none
def FC(j:Nat)(ios:zzd)(R H:Hp)(σ:St)(Γ:En)(D:Ends):Fl->En->Prop:=λfl Γ'=>∀aB H' R',br ios R H σ Γ R' H' aB Γ'->aB[j]?=σ[j]? -> match fl with
 |.nx=>D.nx aB H'
 |.brk=>D.bk aB H'
 |.cont=>D.ct aB H'
 |.ret rv=>∀x,gP R' H H' aB x rv->D.rt x H'
def Mr(j:Nat)(EE:bw)(ios:zzd)(t:TS)(f:M Fl):Prop:=∀σ H R Γ D,ER ios R H σ Γ->cz (f Γ) (FC j ios R H σ Γ D) δg->t D σ H
def VJ(j:Nat)(X:Cx)(EE:bw)(ios:zzd)(st:Stmt)(f:M Fl):Prop:=∃t,PS X st t/\Mr j EE ios t f
def BK(j:Nat)(X:Cx)(EE:bw)(ios:zzd)(st:εb)(f:M Fl):Prop:=∃t,PSs X st t/\Mr j EE ios t f
section
variable{X:Cx}{EE:bw}{ios:zzd}{e c:Expr}{f:M RV}{p:δN}{s s':M Fl}{st:Stmt}{sts jx:εb}{pos:Pos}{j:Nat}
theorem V5:BK j X EE ios [] (M.pure .nx):=⟨_,IQ,λσ H R Γ D er w=>w σ H R θq rfl⟩
theorem V6(h:VJ j X EE ios st s):BK j X EE ios [st] s:=let ⟨_,h1,h2⟩:=h; ⟨_,wX h1,h2⟩
theorem V7(h:γR)(hs:swapsWith e none pos.line X.env=pure false:=by rfl):VJ j X EE ios (.Expr e pos) (k9 f):=by obtain⟨t,h1,h2⟩:=h;refine⟨_,CU h1 hs,λσ H R Γ D er w=>?_⟩;unfold k9 at w;rw[aC]at w;exact h2 σ H R Γ _ er (a6 w (λrv ai w x H1 R1 p1 hx=>w σ H1 R1 p1.fW rfl) λ_ _ z=>z.exp)
theorem V8(hc:ηg)(h:BK j X EE ios sts s)(h':BK j X EE ios jx s'):VJ j X EE ios (.If c sts jx pos) (cW p s s'):=by
 obtain⟨_,h0,h0'⟩:=hc;obtain⟨t,h1,h2⟩:=h;obtain⟨u,h3,h4⟩:=h';refine⟨_,IT h0 h1 h3,λσ H R Γ D er w=>?_⟩;unfold cW at w;rw[aC]at w;refine h0' σ H R Γ _ er (a6 w (λb ai w H1 R1 p1=>?_) λ_ _ z=>z.exp)
 have go:∀fl ao,FC j ios R H σ Γ D fl ao->FC j ios R1 H1 σ ai D fl ao:=λfl ao w fk H2 R2 p2 q2=>by
  have:=w fk H2 R2 (p1.fW.trans p2) q2;cases fl with
  |nx=>exact this
  |brk=>exact this
  |cont=>exact this
  |ret rv=>exact λx hx=>this x (xQ p1.fW.back hx)
 cases b with
 |true=>exact qC (h2 σ H1 R1 ai D p1.er (a6 w go λ_ _ z=>iM.trans p1.fW z))
 |false=>exact qB (h4 σ H1 R1 ai D p1.er (a6 w go λ_ _ z=>iM.trans p1.fW z))
theorem V9(hij:i≠j)(hN:X.N.Nodup)(hi:X.N[i]?=some x)(hx:εa)(he:γR)(hs:swapsWith e ζE pos.line X.env=pure false:=by rfl)(hf:X.fn x=true\/X.env.scope.names.lookup x=some .local:=by first|exact .inl rfl|exact .inr rfl|assumption) :
 VJ j X EE ios (.Assign [.Name x pos'] e pos) (bN i f):=by
 obtain⟨t,h1,h2⟩:=he;refine⟨_,IU hN hi hx h1 hs hf,λσ H R Γ D er w=>?_⟩;unfold bN at w;rw[aC]at w;refine h2 σ H R Γ _ er (a6 w (λrv ai w x H1 R1 p1 hx=>?_) λ_ _ z=>z.exp);show D.nx θT H1;have k:∀v,(σ.set i δQ)[j]?=σ[j]?:= λv=>qaj hij;rw[aC]at w;cases rv with
 |val d=>exact w _ H1 R1 (br.set er p1 (s:=(.ae,d)) hx λz=>by cases z) (k _)
 |new d =>
   obtain⟨h1,a,h2,h3⟩:=hx;exact w _ H1 R1 (br.set er p1 (s:=(.own,d)) h1 λ_ b eb=>by rw[h2]at eb;cases eb;exact h3) (k _)
 |var j =>
   rw[aC]at w;obtain⟨d,ao,R2,p2,_,r2,w⟩:=mS er p1 hx w;exact w _ H1 R2 (br.set er p2 (s:=(.ae,d)) r2 λz=>by cases z) (k _)
end
section
variable{X:Cx}{EE:bw}{ios:zzd}{k:Nat}{f:Addr}{fd:FuncData}{ps:v6}{C:Cn}{fl x:Str}{p pos apos:Pos}{e o:Expr}{es:zza}{fs:γn}{fo:M RV}{G:List D->Option Rx}{Gp:List D->Option Rt}
def oX(C:Cn)(y:Str)(f:M RV):M RV:=M.bind f λrv=>M.bind εF λd=>match d with
 |.obj C' ns vs=>if cd (C'=C) then M.dH (((ns.zip vs).lookup y).map .val) else M.st
 |_=>M.st
theorem V_(hcl:jq X.K η)(hna:bj X.K η y)(ha:VE X EE ios e fo)(hb:attributeBase e y X.env εO=eval e X.env):VE X EE ios θR (oX C y fo):=by
 obtain⟨t,h1,h2⟩:=ha;refine⟨_,RC h1 hb,λσ H R Γ Q er w=>?_⟩;unfold oX at w;rw[aC]at w;refine h2 σ H R Γ _ er (a6 w (λrx ai w1 x H1 R1 p1 hx=>?_) λ_ _ z=>z);clear w;rw[aC]at w1;obtain⟨d,ao,R2,p2,s2,r2,w2⟩:=mS er p1 hx w1;clear w1;cases d with
 |obj C' ns vs =>
   dsimp only at w2;split at w2
   .rename_i hc;have hc:=mV hc;subst hc;obtain⟨rv,hg,w'⟩:=jW w2;obtain⟨d,hd,rfl⟩:=qbi.mp hg;clear w2;cases r2 with
    |obj q hv =>
      obtain⟨v,l1,l2⟩:=Fc hv hd;exact⟨_,_,_,_,v,rfl,p2.er.sub _ _ q,hcl,hna,l1,w' v H1 R2 p2 l2⟩
   .exact False.elim w2
 |_=>exact False.elim w2
def nU(C:Cn)(m:Str)(G:List D->Option Rt)(f:M RV):M RV:=M.bind f λrv=>M.bind εF λd=>match d with
 |.obj C' ns vs=>if cd (C'=C/\m∉ns) then M.dH ((G [.obj C' ns vs]).map Rt.rv) else M.st
 |_=>M.st
theorem Wa(hcl:jq X.K η)(hm:Meth X.K η m f)(F:ηr)(hr:γX)(hb:Binds X.K fd ps [])(ha:θh)
 (ht:eval (.Call γE [] [] pos) X.env=(do
  let ov <-eval o X.env
  standAt apos.atName
  let (f,first) <-holding [ov] εg
  callWith pos f first (backTo pos (starEach [] X.env)) (backToKw pos (keywordEach [] X.env))):=by rfl):VE X EE ios (.Call γE [] [] pos) (nU C m Gp fo):=by
 obtain⟨t,h1,h2⟩:=ha
 refine⟨_,RM h1 hcl hm F hr hb .nil Dn ht,λσ H R Γ Q er w=>?_⟩
 unfold nU at w
 rw[aC]at w
 refine h2 σ H R Γ _ er (a6 w (λrx ai w1 x H1 R1 p1 hx=>?_) λ_ _ z=>z)
 clear w
 rw[aC]at w1
 obtain⟨d,ao,R2,p2,s2,r2,w2⟩:=mS er p1 hx w1
 clear w1
 cases d with
 |obj C' ns vs =>
   dsimp only at w2
   split at w2
   .rename_i hc
    obtain⟨hc,hn⟩:=mV hc
    subst hc
    obtain⟨rv,hg,w'⟩:=jW w2
    obtain⟨r,hG,rfl⟩:=qbi.mp hg
    clear w2
    have r3:=r2
    cases r2 with
    |obj q hv =>
      refine⟨_,_,_,rfl,p2.er.sub _ _ q,?_,R2,[_],p2.er.sub,.cons r3 .nil,?_⟩
      .rw[List.lookup_eq_none_iff]
       intro z hz
       rw[bne_iff_ne]
       intro e
       exact hn (qaE.mpr ⟨z,hz,e.symm⟩)
      .rw[hG]
       exact λz H' R' al ra=>w' z H' R' ζq (ra.rv ηn)
   .exact False.elim w2
 |_=>exact False.elim w2
end
end
end Dv
namespace L2
open PySem PySem.Spec PyProof.Rows Ex
section
variable{X:Cx}{pins:W1}{σ:St}{H:Hp}{s:Shared}{A:Around}{E:T0}{Q:T0}{b:Bool}
theorem Wb{its:v4}(I:ε)(rx:RelV x u)(ty:eE X.K H x t)(ht:IsTup s.heap tp its.toArray)(e:W.kitAny X.K t its=some b)(h:∀tk,Q (.bool b) {s with toks:=tk}) :
 wpAny δ A (call (.builtin "isinstance") [u,.ref tp]) Q E s:=by
 obtain⟨ob,g1,g2,n,g3⟩:=ht;obtain⟨oc,od,oda,osl⟩:=ob;dsimp only at g2 g3;subst g2 g3;cases ty with
 |ax=>cases (show u=Value.none from rx);exact W.kia_tup W.kitx_none I.bV True.intro g1 e (λz=>nomatch z) h
 |bl y=>cases (show u=Value.bool y from rx);exact W.kia_tup W.kitx_bool I.bV True.intro g1 e (λz=>nomatch z) h
 |int i=>obtain⟨t,q⟩:=(show ∃t,u=Value.int i t from rx);cases q;exact W.kia_tup W.kitx_int I.bV True.intro g1 e (λz=>nomatch z) h
 |str y=>obtain⟨t,q⟩:=(show ∃t,u=Value.str y t from rx);cases q;exact W.kia_tup W.kitx_str I.bV True.intro g1 e (λz=>nomatch z) h
 |flt y=>obtain⟨t,q⟩:=(show ∃t,u=Value.float y t from rx);cases q;exact W.kia_tup W.kitx_float I.bV True.intro g1 e (λz=>nomatch z) h
 | @lst a xs ea =>
   cases (show u=Value.ref a from rx);obtain⟨_,_,n,_,h1⟩:=(show aJ X.prog X.w H s.heap a γo from I.hok a _ ea);exact W.kia_tup W.kitx_list I.bV ⟨_,h1,rfl⟩ g1 e (λz=>nomatch z) h
 | @ae a ob xs ea =>
   cases (show u=Value.ref a from rx);obtain⟨_,_,_,n,_,h1⟩:=(show aJ X.prog X.w H s.heap a (.ae ob γo) from I.hok a _ ea);exact W.kia_tup W.kitx_list I.bV ⟨_,h1,rfl⟩ g1 e (λz=>nomatch z) h
 | @tup a xs ea =>
   cases (show u=Value.ref a from rx);obtain⟨_,_,_,p⟩:=(show aJ X.prog X.w H s.heap a γN from I.hok a _ ea);obtain⟨o,h1,h2,_⟩:=p;exact W.kia_tup W.kitx_tuple I.bV ⟨o,h1,h2⟩ g1 e (λz=>nomatch z) h
 | @dK a kvs ea =>
   cases (show u=Value.ref a from rx);obtain⟨_,_,vs,_,p⟩:=(show aJ X.prog X.w H s.heap a (.dK kvs) from I.hok a _ ea);obtain⟨o,es,ep,h1,h2,_⟩:=p;exact W.kia_tup W.kitx_dict I.bV ⟨o,h1,h2.1⟩ g1 e (λz=>nomatch z) h
 | @dT a kvs ea =>
   cases (show u=Value.ref a from rx);obtain⟨_,_,xs,_,o,es,ep,h1,h2,_⟩:=(show aJ X.prog X.w H s.heap a (.dT kvs) from I.hok a _ ea);exact W.kia_tup W.kitx_dict I.bV ⟨o,h1,h2.1⟩ g1 e (λz=>nomatch z) h
 | @ins a C dx fs ea cl ha hn htk hm =>
   cases (show u=Value.ref a from rx);obtain⟨mA,O,_⟩:=xf I.hok ea;obtain⟨od,J,_⟩:=O.look;exact W.kia_tup θa I.bV J g1 e (λz=>nomatch z) h
def Ms(K:zze):List V->Hp->VK->Prop:=λxs H Q=>∃x p T U t b,xs=[x,.ref p]/\H p=some (.tup [.ty T,.ty U])/\eE K H x t/\W.kitAny K t [.type T,.type U]=some b/\Q ε2 H
theorem Wc:aN X (.builtin "isinstance") (Ms X.K):=by intro pins s σ H xs us Q I r h;obtain⟨x,p,T,U,t,b,rfl,hp,ty,e,q⟩:=h;obtain⟨u,u2,rfl,rx,rc⟩:=Vals.two r;obtain rfl:u2=Value.ref p:=rc;obtain⟨_,its,rv,ht⟩:=(show aJ X.prog X.w H s.heap p (.tup [.ty T,.ty U]) from I.hok p _ hp);obtain⟨v1,v2,rfl,r1,r2⟩:=Vals.two rv;obtain rfl:v1=Value.type T:=r1;obtain rfl:v2=Value.type U:=r2;exact Wb I rx ty ht e λtk=>⟨.bl b,H,I.tok _,rfl,q⟩
def Mt(K:zze):R2:=λx y H Q=>∃p xs d ds,y=.ref p/\b8 K H p xs/\bQ H x d/\cB H xs ds/\SeqAt.shaped d=true/\ds.all SeqAt.shaped=true/\Q (.bl (ds.any λe=>PyData.eqv e d)) H
theorem bQ.one(h:bQ H x d)(h':bQ H x e):d=e:=by
 refine bQ.rec (motive_1:=λx d _=>∀e,bQ H x e->d=e) (motive_2:=λxs ds _=>∀es,cB H xs es->ds=es) (λ_ h=>?_) (λb _ h=>?_) (λi _ h=>?_) (λx _ h=>?_) (λh1 _ ih _ h=>?_) (λh1 _ ih _ h=>?_) (λ_ h=>?_) (λ_ _ a b _ h=>?_) h e h'
 iterate 4 cases h;rfl
 .cases h with
  |lst h2 b=>rw[h1]at h2;cases h2;rw[ih _ b]
  |tup h2 b=>rw[h1]at h2;cases h2
 .cases h with
  |tup h2 b=>rw[h1]at h2;cases h2;rw[ih _ b]
  |lst h2 b=>rw[h1]at h2;cases h2
 .cases h;rfl
 .cases h with|cons c d=>rw[a _ c,b _ d]
open Classical in
def nh(H:Hp)(d:PyData)(u:Value):Bool:=decide (∃x e,RelV x u/\bQ H x e/\PyData.eqv e d=true)
open Classical in
theorem Mu(r:RelV x u)(h:bQ H x e):nh H d u=PyData.eqv e d:=by
 unfold nh;cases q:PyData.eqv e d with
 |true=>exact qan ⟨x,e,r,h,q⟩
 |false =>
   refine qau ?_;rintro⟨y,e',ry,he,q'⟩;have:=ry.inj r;subst this;rw[he.one h,q]at q';cases q'
theorem FD(r:ε4)(k:cB H xs ds):us.any ηo=ds.any λe=>PyData.eqv e d:=by
 induction r generalizing ds with
 |nil=>cases k;rfl
 |cons r t ih=>cases k with|cons a b=>rw[List.any_cons,List.any_cons,Mu r a,ih b]
theorem FE{s:Shared}{A:Around}(ok:dJ P w H s.heap)(hv:Reads s.heap v d as)(sd:SeqAt.shaped d=true)(hu:A.units+64<cLine)(r:ε4)(k:cB H xs ds)(f:ds.all SeqAt.shaped=true):∀u∈us,SeqAt.EqAt A s u v (nh H d u):=by
 induction r generalizing ds with
 |nil=>nofun
 |cons r t ih =>
   cases k with
   |cons a b =>
     rw[qbO,qay]at f;refine List.forall_mem_cons.mpr ⟨?_,ih b f.2⟩;rw[Mu r a];obtain⟨bs,rb⟩:=a.reads ok r;exact SeqAt.eqAt_reads _ _ A s _ _ _ _ rb hv (SeqAt.canLay_of_shaped f.1) (SeqAt.canLay_of_shaped sd) (by have:=SeqAt.depth_of_shaped sd;omega)
theorem Wd(hr:γX):b_ X (compareOp .In) (Mt X.K):=by
 intro pins s σ H x y v u Q I rx ry h;obtain⟨p,xs,d,ds,rfl,hq,dx,sA,sd,yq,q⟩:=h;cases ry;obtain⟨its,r,pl,hz⟩:=I.list hq;obtain⟨as,rv⟩:=dx.reads I.hok rx;have hu:X.A.in1.units+64<cLine:=by have:=hr.un;show X.A.units+1+64<_;omega
 refine SeqAt.in_listAt ηo pl.isList (λw hw=>FE I.hok rv sd hu r sA yq w (by simpa using hw)) ⟨.bl _,H,I,rfl,?_⟩;rw[show its.toArray.any ηo=its.any ηo by simp,FD r sA];exact q
end
end L2
namespace Dv
open PySem L2 Ex
variable[KC]
section
variable{X:Cx}{EE:bw}{ios:zzd}{a o c:Expr}{f fo:M RV}{p:δN}{es:zza}{fs:γn}
omit [KC] in
theorem We[KC](K:zze)(d:D)(hd:plain d=true):W.kitAny K (.type (xN d)) [.type "list",.type "tuple"]=some (k7 .list d || k7 .tuple d):=by cases d<;>first|kernel_rfl|cases hd
def FG:D->Option RV
 |.dW _=>none
 |.ins _ _ _=>none
 |.obj _ _ _=>none
 |d=>some (.val (.bl (k7 .list d || k7 .tuple d)))
def BL(f:M RV):M RV:=M.bind (nK f) λx=>M.bind εu λd=>M.dH (FG d)
theorem Wf(hp:∀t,PE X a t->PE X e0 (rC (Ms X.K) (l_ t (l_ (Jo (l_ (tC (.ty "list")) (l_ (tC (.ty "tuple")) rB))) rB))))(ha:γs):VE X EE ios e0 (BL f):=by
 obtain⟨t,h1,h2⟩:=ha;refine⟨_,hp t h1,λσ H R Γ Q er w=>?_⟩;unfold BL at w;rw[aC]at w;refine A3 h2 er (a6 w (λrx ai w x H1 R1 p1 hx=>?_) λ_ _ z=>z);rw[aC]at w;obtain⟨d,pd,w⟩:=mR (H:=H) p1.er hx.rv w;obtain⟨rv,hg,w⟩:=jW w;have ns:plain d=true:=by cases d<;>first|rfl|cases hg
 have hg:rv=.val (.bl (k7 .list d || k7 .tuple d)):=by cases d<;>first| (cases hg;done)|exact(qaQ hg).symm
 subst hg;refine⟨by show 2<=sizeLine;decide +kernel,λq hq=>?_⟩;have al:Al R1 H1 R1 (upd H1 q (.tup [.ty "list",.ty "tuple"])):=⟨λb o z=>by rw[bh (λe=>by rw[e,p1.er.sub.free hq]at z;cases z)];exact p1.er.sub b o z,ah.refl _,lJ hq,λ_ _ _ h=>h⟩;have hv:=(pd.hv p1.er.sub).sm (H':=upd H1 q (.tup [.ty "list",.ty "tuple"])) (lJ hq);have ty:=hv.ty (K:=X.K) ns;exact⟨x,q,_,_,_,_,rfl,eC,ty,We X.K d ns,w _ _ R1 (p1.al al) εN⟩
def Mv(K:zze):R2:=λx y H Q=>Mt K x y H Q\/Df K false x y H Q
omit [KC] in
theorem FH(hr:γX):b_ X (compareOp .In) (Mv X.K):=(Wd hr).or JN
def vJ(d e:D):Option RV:=match e with
 |.lst xs=>if cV d&&xs.all cV then some (.val (.bl (xs.any λe=>eqB e d))) else none
 |_=>xI false d e
omit [KC] in
theorem FI[KC](h:δs):ds.all cV=true->cB R xs (ds.map D.py):=
 h.ind (n:=λxs ds=>ds.all cV=true->cB R xs (ds.map D.py)) (λ_=>.nil) λa _ ih z=>by rw[qbO,qay]at z;exact .cons (a.dat (rQ z.1)) (ih z.2)
theorem FJ:dI (Mv K) vJ:=by
 intro R H x y d e rv Q s px py hg q;unfold vJ at hg;split at hg
 .rename_i ds;split at hg
  .rename_i c;rw[qay]at c;cases hg;obtain⟨p,xs,rfl,h1,h2⟩:=py.lst s;refine .inl ⟨p,xs,d.py,ds.map D.py,rfl,b8.of h1,(px.hv s).dat (rQ c.1),FI (h2.sm s) c.2,c.1,?_,?_⟩
   .rw[List.all_map];exact c.2
   .rw[List.any_map];exact q _ H R γi εN
  .cases hg
 .exact .inr (KP R H x y _ _ rv Q s px py hg q)
def lh(C:Cn)(m:Str)(G:List D->Option Rt)(f:M RV)(fs:γn):M RV:=M.bind f λrv=>M.bind εF λd=>match d with
 |.obj C' ns vs=>if cd (C'=C/\m∉ns) then M.bind fs λrvs=>M.bind δh λds=>M.dH ((G (.obj C' ns vs::ds)).map Rt.rv) else M.st
 |_=>M.st
theorem Wg{m:Str}{pl:Sem Bool}{C:Cn}{f:Addr}{fd:FuncData}{ps:v6}{k:Nat}{e:Expr}{Gp:List D->Option Rt}{pos apos:Pos}(hcl:jq X.K η)(hm:Meth X.K η m f)(F:ηr)(hr:γX)(hb:Binds X.K fd ps [])(ha:θh)(hs:VA X EE ios (e::es) fs)
 (hst:starEach (e::es) X.env=(false,eval e X.env)::starEach es X.env:=by rfl) (hpl:(backTo pos γc).any (·.1)=false:=by rfl)
 (ht:eval (.Call γE (e::es) [] pos) X.env=(do
  let ov <-eval o X.env
  standAt apos.atName
  let (f,first) <-holding [ov] εg
  callWith pos f first (backTo pos (starEach (e::es) X.env)) (backToKw pos (keywordEach [] X.env))):=by rfl):VE X EE ios (.Call γE (e::es) [] pos) (lh C m Gp fo fs):=by
 obtain⟨t,h1,h2⟩:=ha
 obtain⟨u,h3,h4⟩:=hs
 refine⟨_,RL h1 hcl hm F hr hb .nil Dn h3 hst hpl ht,λσ H R Γ Q er w=>?_⟩
 unfold lh at w
 rw[aC]at w
 refine h2 σ H R Γ _ er (a6 w (λrx ai w1 x H1 R1 p1 hx=>?_) λ_ _ z=>z)
 clear w
 rw[aC]at w1
 obtain⟨d,ao,R2,p2,s2,r2,w2⟩:=mS er p1 hx w1
 clear w1
 cases d with
 |obj C' ns vs =>
   dsimp only at w2
   split at w2
   .rename_i hc
    obtain⟨hc,hn⟩:=mV hc
    subst hc
    rw[aC]at w2
    have r3:=r2
    cases r2 with
    |obj q hv =>
      refine⟨_,_,_,rfl,p2.er.sub _ _ q,?_,?_⟩
      .rw[List.lookup_eq_none_iff]
       intro z hz
       rw[bne_iff_ne]
       intro e
       exact hn (qaE.mpr ⟨z,hz,e.symm⟩)
      .refine h4 σ H1 R2 ao _ p2.er (a6 w2 (λrvs oI w3 xs H3 R3 p3 hxs=>?_) λ_ _ z=>gb.trans p2 z)
       rw[aC]at w3
       obtain⟨ds,mU,R4,p4,s4,r4,w4⟩:=nL p2.er p3 hxs w3
       obtain⟨rv,hg,w5⟩:=jW w4
       obtain⟨r,hG,rfl⟩:=qbi.mp hg
       have p24:=p2.trans p4
       show bb Gp (_::(xs++[])) H3 Q E0
       rw[qbk]
       refine⟨R4,_::ds,p4.er.sub,.cons (r3.sm p4.go.rr) r4,?_⟩
       rw[hG]
       exact λz H' R' al ra=>w5 z H' R' (p24.al al) (ra.rv (p24.back er))
   .exact False.elim w2
 |_=>exact False.elim w2
end
def kf(H R':Hp)(x:V)(r:Rt):Prop:=∃C fl a dx b xs ds,x=.ref a/\r=.val (.obj C [fl] [.lst ds])/\R' a=some (.ins η dx [(fl,.ref b)])/\R' b=some γo/\H a=none/\H b=none/\aH R' xs ds/\j_ ds=true
theorem kf.rp(h:kf H R' x r):gP R' H0 H' σ x r.rv:=by obtain⟨C,fl,a,dx,b,xs,ds,rfl,rfl,h1,h2,_,_,h3,_⟩:=h;exact Rp.obj (fs:=[(fl,.ref b)]) h1 (.cons (.lst h2 h3) .nil)
theorem kf.back(b:∀a,H a=none->H0 a=none)(h:kf H R' x r):kf H0 R' x r:=by obtain⟨C,fl,a,dx,b',xs,ds,h0,h1,h2,h3,h4,h5,h6⟩:=h;exact⟨C,fl,a,dx,b',xs,ds,h0,h1,h2,h3,b _ h4,b _ h5,h6⟩
def qg(G:List D->Option Rx):Sp:=λvs H Q E=>∃R ds,ah R H/\aH R vs ds/\match G ds with
 |some (.ok r)=>∀x H' R',Al R H R' H'->kf H R' x r->Q x H'
 |some (.ex x)=>∀e H' R',Al R H R' H'->pZ R' H H' e x->E ηc εQ H'
 |none=>False
def FK(C:Cn)(fl:Str)(G:List D->Option Rx):Sp:=λvs H Q E=>∃x dx vs' R ds,vs=.ref x::vs'/\H x=some (.ins η dx [])/\R x=none/\ah R H/\aH R vs' ds/\(match G ds with
 |some (.ok r)=>∃es,r=.val (.obj C [fl] [.lst es])/\j_ es=true/\∀H' R' b xs,BJ x R H R' H'->R' x=some (.ins η dx [(fl,.ref b)])->R' b=some γo->H b=none->aH R' xs es->Q .ax H'
 |some (.ex xc)=>∀e H' R',BJ x R H R' H'->pZ R' H H' e xc->E (.ref (KC.cls xc.C)) εQ H'
 |none=>False)
theorem Wh(hG:∀ds r,G ds=some (.ok r)->∃es,r=.val (.obj C [fl] [.lst es])/\j_ es=true):Made η (qg G) (FK C fl G):=by
 intro vs H Q E h x dx hx hdx ne;obtain⟨R,ds,s,rp,k⟩:=h;have ex:upd εe x (.ins η dx []) x=some (.ins η dx []):=eC
 have old:∀b o,H b=some o->upd εe x (.ins η dx []) b=some o:=λb o h=>by rw[bh (λz=>by rw[z,hx]at h;cases h),bh (λz=>by rw[z,hdx]at h;cases h)];exact h
 have back:∀a,upd εe x (.ins η dx []) a=none->H a=none:=λa ha=>by
  cases q:H a with
  |none=>rfl
  |some o=>rw[old a o q]at ha;cases ha
 have rx:R x=none:=s.free hx;have yr:∀{R' H'},BJ x R (upd εe x (.ins η dx [])) R' H'->Al R H R' H':=λal=>⟨al.sub,al.rr,λb o h=>al.hh b o (λz=>by rw[z,hx]at h;cases h) (old b o h),λb o h r=>al.no b o (λz=>by rw[z,hx]at h;cases h) (old b o h) r⟩;refine⟨x,dx,vs,R,ds,rfl,ex,rx,λb o h=>old b o (s b o h),rp,?_⟩;cases q:G ds with
 |none=>rw[q]at k;exact k
 |some r =>
   rw[q]at k;cases r with
   |ok r =>
     obtain⟨es,rfl,jz⟩:=hG ds r q;exact⟨es,rfl,jz,λH' R' b xs al h1 h2 h3 h4=>⟨rfl,k _ H' R' (yr al) ⟨C,fl,x,dx,b,xs,es,rfl,rfl,h1,h2,hx,back b h3,h4,jz⟩⟩⟩
   |ex xc =>
     intro e H' R' al xr;exact k e H' R' (yr al) (pZ.back back xr)
def sC(s1 s2:M Fl)(fe:M RV):M γd:=M.bind s1 λl1=>match l1 with
 |.nx=>M.bind s2 λl2=>match l2 with
   |.nx=>M.bind fe λrv=>match rv with
     |.new (.lst es)=>if j_ es=true then M.pure es else M.st
     |_=>M.st
   |_=>M.st
 |_=>M.st
noncomputable def yt(C:Cn)(fl:Str):Res γd->Option Rx
 |.ok es _=>some (.ok (.val (.obj C [fl] [.lst es])))
 |.ex x _=>some (.ex x)
 |.st=>none
theorem Wi{P:Program}{w:World}{K:zze}{mg:M2}{base:Heap}{name qual:Str}{fa:Addr}{params:Arguments}{body:εb}{scope:Scope}{dV kV doc pm cdv ct oc:Value}{an od:γ8}{osl:ηk}{N ps:v6}{k:Nat}{C:Cn}{fl:Str}{G:List D->Option Rx}{s1 s2:M Fl}{fe:M RV}{st1 st2:Stmt}{self:Str}{p0 p1 p2:Pos}{e:Expr}
 (lk:K.lookup fa=some ⟨oc,od,.func γQ,osl⟩) (hcd:W.codeIn K cdv qual=true) (S:ag N ps scope) (hbody:body=[st1,st2,.Assign [.Attribute ζd fl p1] e p2]) (hcl:jq K η) (hna:bj K η fl)
 (hb:∀(A:Around) (outer:δq) (s:Shared) (H:Hp) (E:XK),az k (A.deeper (PyProof.Rows.envOfC qual scope s.heap.objs.size fa cdv))->let X:=iY ηT P w K mg base N qual scope fa cdv A outer s H E
  VJ 0 X (λ_=>E) [] st1 s1/\VJ 0 X (λ_=>E) [] st2 s2/\VE X (λ_=>E) [] e fe/\PE X ζd (uR 0)/\swapsWith e (some (.Attribute ζd fl p1)) p2.line X.env=pure false)
 (h:∀ds r,G ds=some r->ds.length+1=ps.length/\ds.length<N.length/\yt C fl (sC s1 s2 fe (none::(gam N.tail ds)))=some r):bz P w K mg base ηT (k+1) fa γQ ps (FK C fl G):=by
 refine AG lk hcd S (λvs H Q E q=>?_) λA outer s H vs Q E hr q=>?_
 .obtain⟨x,dx,vs',R,ds,rfl,_,_,_,h2,h3⟩:=q;cases e:G ds with
  |none=>rw[e]at h3;exact h3.elim
  |some r=>rw[qaN,h2.len];exact(h ds r e).1
 .obtain⟨x,dx,vs',R,ds,rfl,hx,Wj,h1,h2,h3⟩:=q;cases eG:G ds with
  |none=>rw[eG]at h3;exact h3.elim
  |some r =>
    rw[eG]at h3;obtain⟨⟨t1,a1,a2⟩,⟨t2,b1,b2⟩,⟨t3,c1,c2⟩,hv,hsw⟩:=hb A outer s H E hr;obtain⟨hl1,hl2,fin⟩:=h ds r eG;have hn0:N≠[]:=λz=>by rw[z]at hl2;simp at hl2
    obtain⟨n0,N',rfl⟩:=qbg hn0
    have Wk:ER [] R H (L2.start (n0::N') (.ref x::vs')) (none::gam N' ds):=by
     have er:=Bh (N:=N') h1 h2
     have es:L2.start (n0::N') (.ref x::vs')=some δX::L2.start N' vs':=by unfold L2.start;simp
     rw[es];refine⟨er.sub,by simp[er.len],λi sl q=>?_,λi j k l d e b q1 q2 q3 q4 q5 q6=>?_⟩
     .cases i with
      |zero=>simp at q
      |succ i=>simpa using er.sl i sl (by simpa using q)
     .cases i with
      |zero=>simp at q1
      |succ i =>
        cases j with
        |zero=>simp at q3
        |succ j=>rw[er.dj i j k l d e b (by simpa using q1) q2 (by simpa using q3) q4 (by simpa using q5) (by simpa using q6)]
    have qR:∀b,¬Ow (L2.start (n0::N') (.ref x::vs')) (none::gam N' ds) b:=λb=>by
     rintro⟨i,k,d,q1,q2,_⟩;cases i with
     |zero=>simp at q1
     |succ i =>
       obtain⟨_,_,z⟩:=Bg (N:=N') (by simpa using q1);cases z;cases q2
    have qS:∀{R' H':Hp}{aB:St}{Γ':En},br [] R H (L2.start (n0::N') (.ref x::vs')) (none::gam N' ds) R' H' aB Γ'->BJ x R H R' H'/\H' x=some (.ins η dx [])/\R' x=none:=λp =>
     ⟨⟨p.er.sub,p.go.rr,λb o _ h=>p.go.hh b o h (qR b),λb o _ h r=>p.go.no b o h (qR b) r⟩,p.go.hh x _ hx (qR x),p.go.no x _ hx (qR x) Wj⟩
    rw[hbody];refine⟨_,wW a1 (wW b1 (wX (RD hv c1 hsw))),?_⟩;have s0:(L2.start (n0::N') (.ref x::vs'))[0]?=some (some δX):=Lf rfl;have fin:yt C fl (sC s1 s2 fe (none::gam N' ds))=some r:=fin;unfold sC M.bind at fin;show t1 _ _ _;refine a2 _ H R _ _ Wk ?_;cases q1:s1 (none::gam N' ds) with
    |st=>rw[q1]at fin;cases fin
    |ex xc Γ' =>
      rw[q1]at fin;cases fin;exact λe aB H' R' p qx=>h3 e H' R' (qS p).1 qx
    |ok f1 ai =>
      rw[q1]at fin;refine oN λcR H1 R1 p1 k1=>?_;cases f1 with
      |brk=>cases fin
      |cont=>cases fin
      |ret rv=>cases fin
      |nx =>
        dsimp only at fin ⊢;show t2 _ _ _;refine b2 _ H1 R1 _ _ p1.er ?_;cases q2:s2 ai with
        |st=>rw[q2]at fin;cases fin
        |ex xc Γ' =>
          rw[q2]at fin;cases fin;exact λe aB H' R' p qx=>h3 e H' R' (qS (p1.trans p)).1 (qx.back p1.back)
        |ok f2 ao =>
          rw[q2]at fin;refine oN λfk H2 R2 p2 k2=>?_;cases f2 with
          |brk=>cases fin
          |cont=>cases fin
          |ret rv=>cases fin
          |nx =>
            dsimp only at fin ⊢;have jZ:=p1.trans p2;have k12:fk[0]?=some (some δX):=by rw[k2,k1];exact s0
            refine c2 fk H2 R2 ao _ p2.er ?_;cases q3:fe ao with
            |st=>rw[q3]at fin;cases fin
            |ex xc Γ' =>
              rw[q3]at fin;cases fin;exact λe H' R' p qx=>h3 e H' R' (qS (jZ.trans p.fW)).1 (qx.back jZ.back)
            |ok rv oI =>
              rw[q3]at fin;dsimp only at fin;refine oN λy H3 R3 p3 hy=>?_;cases rv with
              |val d=>cases fin
              |var i=>cases fin
              |new d =>
                cases d with
                |lst es =>
                  dsimp only at fin;by_cases jz:j_ es=true
                  .rw[qaF jz]at fin;cases fin;obtain⟨⟨b,ys,lP,rfl,r1,r2,r3,r4⟩,b',eb,hf⟩:=hy;cases eb;cases r3;obtain⟨BM,Wl,Wm⟩:=qS (jZ.trans p3.fW);have BN:H b=none:=jZ.back b hf;have hbx:b≠x:=λz=>by rw[z,hx]at BN;cases BN
                   refine⟨.ref x,k12,x,KC.cls C,dx,[],rfl,Wl,hcl,hna,by simp,?_⟩;obtain⟨es',ee,_,h3⟩:=h3;cases ee;have re:ah R3 ιi:=u_ r1;have Wn:ext R3 H3 b x=none:=by rw[pY (qaR hbx)];exact Wm
                   have r':ah ιi (upd ιi x (.ins η dx [(fl,.ref b)])):=lJ Wn;refine h3 _ (upd ιi x (.ins η dx [(fl,.ref b)])) b ys ⟨λc o hc=>?_,(BM.rr.trans re).trans r',λc o hc ho=>by rw[bh hc];exact BM.hh c o hc ho,λc o hc ho hr=>?_⟩ eC ?_ BN (r4.sm (re.trans r'))
                   .by_cases z:c=x
                    .subst z;rw[eC]at hc ⊢;exact hc
                    .rw[bh z]at hc ⊢;exact zhE BM.sub c o hc
                   .rw[bh hc,pY]
                    .exact BM.no c o hc ho hr
                    .rintro rfl;rw[BN]at ho;cases ho
                   .rw[bh hbx,qF];exact r2
                  .rw[qaC jz]at fin;cases fin
                |_=>cases fin
def nV(G:List D->Option Rx)(fs:γn):M RV:=M.bind fs λrvs=>M.bind θD λds=>match G ds with
 |some (.ok r)=>M.pure r.rv
 |some (.ex x)=>M.bind δh λds'=>match G ds' with
  |some (.ex x)=>M.thr x
  |_=>M.st
 |none=>M.st
section
variable{X:Cx}{EE:bw}{ios:zzd}{e:Expr}{es:zza}{fs:γn}{G:List D->Option Rx}{t:TA}
theorem Mw(h2:xt EE ios t fs)(er:γw)
 (w:cz (nV G fs Γ) (λrv Γ'=>∀x H' R' r,rv=Rt.rv r->bf ios R H σ Γ R' H' Γ'->kf H R' x r->Q x H') γU):vD (qg G) [] EE t σ H Q:=by
 unfold nV at w;rw[aC]at w;refine h2 σ H R Γ _ er (a6 w (λrvs ai w xs H1 R1 p1 hx=>?_) λ_ _ z=>z);show qg G (xs++[]) H1 Q (EE σ);rw[qbk];rw[aC]at w;obtain⟨ds,q,w⟩:=Ep w;obtain⟨ds',pk,e⟩:=xJ (K:=λds' _=>ds'=ds) (E:=λ_ _=>False) p1.er hx (by rw[q];exact rfl);subst e;cases hG:G ds' with
 |none=>rw[hG]at w;exact False.elim w
 |some rx =>
   rw[hG]at w;cases rx with
   |ex x =>
     have w:cz (M.bind δh (λds'=>match G ds' with
      |some (.ex x)=>M.thr x
      |_=>M.st) ai) _ _:=w
     rw[aC]at w;obtain⟨lP,ao,R2,p2,s2,r2,w⟩:=nL er p1 hx w;refine⟨R2,lP,p2.er.sub,r2,?_⟩;cases oU:G lP with
     |none=>rw[oU]at w;exact False.elim w
     |some ry =>
       rw[oU]at w;cases ry with
       |ok r=>exact False.elim w
       |ex y=>exact λe H' R' al xr=>w e H' R' ζq (xr.back p2.since)
   |ok r =>
     have w:∀x H' R' r',r.rv=Rt.rv r'->bf ios R H σ Γ R' H' ai->kf H R' x r'->Q x H':=w;refine⟨lent ζv R1 H1,ds',Eo p1.er.sub,Pks.lent p1.er hx pk q,?_⟩;rw[hG];intro x H' R' al ra;have ow:∀b,Ow σ ai b->R1 b=none/\∃xs,H1 b=some γo:=λb z=>p1.er.ow z;obtain⟨al',tup⟩:=Bj p1.er al;refine w x H' _ r rfl (p1.al al') ?_;obtain⟨C,fl,a,dx,b,xs',lP,rfl,rfl,h1,h3,h4,h5,h6,h7⟩:=ra;have nw:∀c,H1 c=none -> ¬Ow σ ai c:=λc hc z=>by obtain⟨_,zs,hz⟩:=ow c z;rw[hc]at hz;cases hz
     exact⟨C,fl,a,dx,b,xs',lP,rfl,rfl,by rw[tW (nw a h4)];exact h1,by rw[tW (nw b h5)];exact h3,p1.back er a h4,p1.back er b h5,h6.less tup h7,h7⟩
def VY(X:Cx)(EE:bw)(ios:zzd)(e:Expr)(G:List D->Option Rx)(fs:γn):Prop:=∃t,PE X e (vD (qg G) [] EE t)/\xt EE ios t fs
theorem VY.ve(h:VY X EE ios e G fs):VE X EE ios e (nV G fs):=by obtain⟨t,h1,h2⟩:=h;exact⟨_,h1,λσ H R Γ Q er w=>Mw h2 er (a6 w (λrv Γ' w x H' R' r e p so=>by subst e;exact w x H' R' p so.rp) λ_ _ z=>z)⟩
theorem Wo{x:Str}{k:Nat}{ps:v6}{p0 pos:Pos}(hX:ζh)(C:qf X.prog X.w X.mg X.base x k ps (qg G))(hr:γX)(hg:ζD)(ha:VA X EE ios (e::es) fs)(hK:X.K=KC.K:=by rfl)(hdb:(x == ("__debug__":Str))=false:=by decide)
 (he:starEach (e::es) X.env=(false,eval e X.env)::starEach es X.env:=by rfl) (hpl:(backTo pos γc).any (·.1)=false:=by rfl):VY X EE ios (.Call θz (e::es) [] pos) G fs:=by obtain⟨f,fd,F,hm,hk,hb⟩:=C;rw[<-hK]at F hk hb;obtain⟨t,h1,h2⟩:=ha;exact⟨t,LX F hr hg hm hk hb .nil hX h1 hdb he hpl,h2⟩
def KBd(K:zze)(fd:FuncData)(ps:v6):Prop:=∀(s:Shared) (a:Value) (us:v4),K.In s.heap->us.length=ps.length->BindsTo s fd ⟨[a],ps.zip us⟩ ((("self":Str)::ps).zip (a::us))
def BO(P:Program)(w:World)(mg:M2)(base:Heap)(x:Str)(k:Nat)(ps:v6)(cS:γB)(C:Cn)(fl:Str)(G:List D->Option Rx):Prop:=mg x=some ηa/\(∀ds r,G ds=some (.ok r)->∃es,r=.val (.obj C [fl] [.lst es])/\j_ es=true)/\∃f fd,Mk KC.K η f/\bz P w KC.K mg base ηT k f fd ("self" :: ps) (FK C fl G)/\Binds KC.K fd ("self" :: ps) []/\(∃dd,Binds KC.K fd ("self" :: ps) dd/\Vals cS dd)/\KBd KC.K fd ps
theorem BP{x fl:Str}{k:Nat}{ps:v6}{p0 pos:Pos}{cS:γB}{C:Cn}(hX:ζh)(Mc:BO X.prog X.w X.mg X.base x k ps cS C fl G)(hr:az (k+1) X.A)(hg:ζD)(ha:VA X EE ios (e::es) fs)(hK:X.K=KC.K:=by rfl)(hdb:(x == ("__debug__":Str))=false:=by decide)
 (he:starEach (e::es) X.env=(false,eval e X.env)::starEach es X.env:=by rfl) (hpl:(backTo pos γc).any (·.1)=false:=by rfl):VY X EE ios (.Call θz (e::es) [] pos) G fs:=by obtain⟨hm,hG,f,fd,Mo,F,hb,_⟩:=Mc;rw[<-hK]at F hb Mo;obtain⟨t,h1,h2⟩:=ha;exact⟨t,V4 Mo F hr hg hm hb .nil hX (Wh hG) h1 hdb he hpl,h2⟩
end
theorem Wq(F:θ3)(S:ζJ)(hbd:af st=[st1,.Return εQ pos])
 (hb:∀(cdv:Value) (A:Around) (outer:δq) (s:Shared) (H:Hp) (E:XK),az k γr->VS δC (λ_=>E) [] st1 s1/\VY δC (λ_=>E) [] e G1 fs)
 (h:∀ds r,G ds=some r->ds.length=ps.length/\m_ (aP s1 (bR (nV G1 fs)) δv)=some r) (hn:∀Γ rv Γ',s1 Γ≠.ok ζ9 Γ'):bz P w K mg base ηT (k+1) fa fd ps (qg G):=by
 obtain⟨oc,od,kV,doc,pm,an,cdv,ct,osl,rfl,lk,hcd⟩:=F.ex;refine AG lk hcd S (λvs H Q E q=>?_) λA outer s H vs Q E hr q=>?_
 .obtain⟨R,ds,_,h2,h3⟩:=q;cases e:G ds with
  |none=>rw[e]at h3;exact h3.elim
  |some r=>rw[h2.len];exact(h ds r e).1
 .obtain⟨R,ds,h1,h2,h3⟩:=q;cases eG:G ds with
  |none=>rw[eG]at h3;exact h3.elim
  |some r =>
    rw[eG]at h3;obtain⟨⟨t1,a1,a2⟩,t,c1,c2⟩:=hb cdv A outer s H E hr;rw[hbd];refine⟨_,wW a1 (wX (IS c1)),?_⟩;show t1 _ _ _;refine a2 _ H R _ _ (Bh h1 h2) ?_;have fin:=(h ds r eG).2;unfold aP M.bind at fin;cases q1:s1 δv with
    |st=>rw[q1]at fin;cases fin
    |ex xc Γ' =>
      rw[q1]at fin;cases fin;exact λe aB H' R' p qx=>h3 e H' R' p.al qx
    |ok f1 ai =>
      rw[q1]at fin;refine oN λcR H1 R1 p1=>?_;cases f1 with
      |brk=>cases fin
      |cont=>cases fin
      |ret rv=>exact absurd q1 (hn _ _ _)
      |nx =>
        dsimp only at fin ⊢;show vD (qg G1) [] (λ_=>E) t _ _ _;refine Mw c2 p1.er ?_;unfold bR M.bind at fin;cases q2:nV G1 fs ai with
        |st=>rw[q2]at fin;cases fin
        |ex xc Γ' =>
          rw[q2]at fin;cases fin;exact λe H' R' p qx=>h3 e H' R' (p1.trans p.fW).al (qx.back p1.back)
        |ok rv ao =>
          rw[q2]at fin;refine oN λx H' R' r' er p so=>?_;subst er;have fin:(bC (.ok (.ret r'.rv) ao)).map Rx.ok=some r:=fin;have:bC (.ok (.ret r'.rv) ao)=some r':=by cases r'<;>rfl
          rw[this]at fin;cases fin;exact h3 x H' R' (p1.trans p.fW).al (so.back p1.back)
def qT(C:Cn)(m qual:Str)(st:Stmt):Prop:=∃f fd,mM KC.K m qual st f fd/\Meth KC.K η m f
def kg(P:Program)(w:World)(mg:M2)(base:Heap)(C:Cn)(m:Str)(k:Nat)(ps:v6)(sp:Sp):Prop:=∃f fd,Meth KC.K η m f/\bz P w KC.K mg base iZ k f fd ps sp/\Binds KC.K fd ps []
section
variable{P:Program}{w:World}{mg:M2}{base:Heap}{k:Nat}{N ps:v6}{C:Cn}{m qual fl:Str}{st:Stmt}
theorem t6(A0:qT C m qual st)(S:ζJ)
 (bd:∀(kV doc pm:Value) (an:γ8) (cdv ct:Value) (us:v4),us.length=ps.length->bindArgs (W.fnOf m qual (bq st) ηv γZ .none kV doc pm an cdv ct) ⟨us,[]⟩=pure εX)
 (hb:∀(fa:Addr) (cdv:Value) (A:Around) (outer:δq) (s:Shared) (H:Hp) (E:XK),az k γr->b7 (iY iZ P w KC.K mg base N qual γZ fa cdv A outer s H E).qu EN [] ηv bm)
 (h:∀ds r,G ds=some r->ds.length=ps.length/\bC ηW=some r):kg P w mg base C m (k+1) ps δL:=
 let ⟨f,fd,F,hm⟩:=A0
 ⟨f,fd,hm,Em F S (hb f) h,F.binds bd⟩
def Mx(C:Cn)(qual:Str)(st:Stmt)(ps:v6):Prop:=∃(fa:Addr) (dV kV doc pm cdv ct oc:Value) (an od:γ8) (osl:ηk),KC.K.lookup fa=some ⟨oc,od,.func (W.fnOf "__init__" qual (bq st) ηv γZ dV kV doc pm an cdv ct),osl⟩/\W.codeIn KC.K cdv qual=true/\Mk KC.K η fa /\
 Binds KC.K (W.fnOf "__init__" qual (bq st) ηv γZ dV kV doc pm an cdv ct) ("self" :: ps) []/\Binds KC.K (W.fnOf "__init__" qual (bq st) ηv γZ dV kV doc pm an cdv ct) ("self" :: ps) [.none]/\KBd KC.K (W.fnOf "__init__" qual (bq st) ηv γZ dV kV doc pm an cdv ct) ps
def runN(C:Cn)(fl:Str)(n:Nat)(N:v6)(s1 s2:M Fl)(fe:M RV):List D->Option Rx:=λds=>if ds.length=n then yt C fl (sC s1 s2 fe (none::gam N ds)) else none
theorem My(h:runN C fl n N s1 s2 fe ds=some r):ds.length=n/\yt C fl (sC s1 s2 fe (none::gam N ds))=some r:=by
 unfold runN at h;split at h
 .rename_i c;exact⟨c,h⟩
 .cases h
omit [KC] in
theorem t9{α β:Type}{f:M α}{g:α->M β}{b:β}(h:M.bind f g Γ=.ok b Γ'):∃a ai,f Γ=.ok a ai/\g a ai=.ok b Γ':=by
 unfold M.bind at h;cases q:f Γ with
 |ok a ai=>rw[q]at h;exact⟨a,ai,rfl,h⟩
 |ex x ai=>rw[q]at h;cases h
 |st=>rw[q]at h;cases h
theorem Wr(ds:γd)(r:Rt)(h:runN C fl n N s1 s2 fe ds=some (.ok r)):∃es,r=.val (.obj C [fl] [.lst es])/\j_ es=true:=by
 have h:=(My h).2;cases q:sC s1 s2 fe (none::gam N ds) with
 |st=>rw[q]at h;cases h
 |ex x Γ=>rw[q]at h;cases h
 |ok es Γ =>
   rw[q]at h;cases h;refine⟨es,rfl,?_⟩;unfold sC at q;obtain⟨l1,ai,_,q⟩:=t9 q;cases l1 with
   |nx =>
     obtain⟨l2,ao,_,q⟩:=t9 q;cases l2 with
     |nx =>
       obtain⟨rv,oI,_,q⟩:=t9 q;cases rv with
       |new d =>
         cases d with
         |lst zs =>
           dsimp only at q;split at q
           .rename_i hm;cases q;exact hm
           .cases q
         |_=>cases q
       |_=>cases q
     |_=>cases q
   |_=>cases q
theorem Ws(A0:Mx C qual st ps)(hm:mg x=some ηa)(S:ag ("self" :: N) ("self" :: ps) γZ)(hbd:af st=[st1,st2,.Assign [.Attribute ζd fl p1] e p2])(hcl:jq KC.K η)(hna:bj KC.K η fl)(hn:ps.length=n)(hN:n<N.length+1)
 (hb:∀(fa:Addr) (cdv:Value) (A:Around) (outer:δq) (s:Shared) (H:Hp) (E:XK),az k γr->let X:=iY ηT P w KC.K mg base ("self" :: N) qual γZ fa cdv A outer s H E
  VJ 0 X (λ_=>E) [] st1 s1/\VJ 0 X (λ_=>E) [] st2 s2/\VE X (λ_=>E) [] e fe/\PE X ζd (uR 0)/\swapsWith e (some (.Attribute ζd fl p1)) p2.line X.env=pure false):BO P w mg base x (k+1) ps [.ax] C fl (runN C fl n N s1 s2 fe):=by
 obtain⟨fa,dV,kV,doc,pm,cdv,ct,oc,an,od,osl,lk,hcd,Mo,b0,b1,b2⟩:=A0
 refine⟨hm,Wr,fa,_,Mo,Wi lk hcd S hbd hcl hna (hb fa cdv) (λds r q=>?_),b0,⟨[.none],b1,.cons rfl .nil⟩,b2⟩
 obtain⟨h1,h2⟩:=My q
 exact⟨by rw[qaN,hn,h1],by rw[h1];exact hN,h2⟩
theorem Wu(A0:At mg x st)(S:ζJ)(hbd:af st=[st1,.Return εQ pos])(hn:ps.length=n)
 (bd:∀(kV doc pm:Value) (an:γ8) (cdv ct:Value) (us:v4),us.length=ps.length->bindArgs δF ⟨us,[]⟩=pure εX)
 (hb:∀(fa:Addr) (cdv:Value) (A:Around) (outer:δq) (s:Shared) (H:Hp) (E:XK),az k δz->VS δB (λ_=>E) [] st1 s1/\VY δB (λ_=>E) [] e G1 fs)
 (hr:∀Γ rv Γ',s1 Γ≠.ok ζ9 Γ'):qf P w mg base x (k+1) ps (qg (my n N (aP s1 (bR (nV G1 fs))))):=by obtain⟨f,fd,F,hm,hk⟩:=A0;refine⟨f,fd,Wq F S hbd (hb f) (λds r q=>?_) hr,hm,hk,F.binds bd⟩;rw[hn];exact E_ q
theorem Wv(Γ:En)(rv:RV)(Γ':En):k9 f Γ≠.ok ζ9 Γ':=by unfold k9;intro h;obtain⟨_,_,_,h⟩:=t9 h;cases h
end
section
variable{X:Cx}{EE:bw}{ios:zzd}{k:Nat}{ps:v6}{C:Cn}{m:Str}{pos apos:Pos}{e o:Expr}{es:zza}{fs:γn}{fo:M RV}{Gp:List D->Option Rt}
theorem sD{pl:Sem Bool}(hcl:jq KC.K η)(Mc:θg)(hr:γX)(ha:θh)(hK:X.K=KC.K:=by rfl)
 (ht:eval (.Call γE [] [] pos) X.env=(do
  let ov <-eval o X.env
  standAt apos.atName
  let (f,first) <-holding [ov] εg
  callWith pos f first (backTo pos (starEach [] X.env)) (backToKw pos (keywordEach [] X.env))):=by rfl):VE X EE ios (.Call γE [] [] pos) (nU C m Gp fo):=by
 obtain⟨f,fd,hm,F,hb⟩:=Mc
 rw[<-hK]at hcl hm F hb
 exact Wa hcl hm F hr hb ha ht
theorem qU{pl:Sem Bool}(hcl:jq KC.K η)(Mc:θg)(hr:γX)(ha:θh)(hs:VA X EE ios (e::es) fs)(hK:X.K=KC.K:=by rfl)
 (hst:starEach (e::es) X.env=(false,eval e X.env)::starEach es X.env:=by rfl) (hpl:(backTo pos γc).any (·.1)=false:=by rfl)
 (ht:eval (.Call γE (e::es) [] pos) X.env=(do
  let ov <-eval o X.env
  standAt apos.atName
  let (f,first) <-holding [ov] εg
  callWith pos f first (backTo pos (starEach (e::es) X.env)) (backToKw pos (keywordEach [] X.env))):=by rfl):VE X EE ios (.Call γE (e::es) [] pos) (lh C m Gp fo fs):=by
 obtain⟨f,fd,hm,F,hb⟩:=Mc
 rw[<-hK]at hcl hm F hb
 exact Wg hcl hm F hr hb ha hs hst hpl ht
theorem t_(hcl:jq KC.K η)(hna:bj KC.K η y)(ha:VE X EE ios e fo)(hb:attributeBase e y X.env εO=eval e X.env:=by rfl)(hK:X.K=KC.K:=by rfl):VE X EE ios θR (oX C y fo):=by rw[<-hK]at hcl hna;exact V_ hcl hna ha hb
end
end Dv
namespace Dv
open PySem L2 Ex
section
variable{Γ:En}{f fo:M RV}{fs:γn}{G:List D->Option Rt}{GX:List D->Option Rx}{C:Cn}{m y:Str}
@[simp] theorem FL:nU C m G f Γ=M.bind f (λrv=>M.bind εF λd=>match d with
 |.obj C' ns vs=>if cd (C'=C/\m∉ns) then M.dH ((G [.obj C' ns vs]).map Rt.rv) else M.st
 |_=>M.st) Γ:=(rfl)
@[simp] theorem FN:lh C m G f fs Γ=M.bind f (λrv=>M.bind εF λd=>match d with
 |.obj C' ns vs=>if cd (C'=C/\m∉ns) then M.bind fs λrvs=>M.bind δh λds=>M.dH ((G (.obj C' ns vs::ds)).map Rt.rv) else M.st
 |_=>M.st) Γ:=(rfl)
@[simp] theorem FO:oX C y f Γ=M.bind f (λrv=>M.bind εF λd=>match d with
 |.obj C' ns vs=>if cd (C'=C) then M.dH (((ns.zip vs).lookup y).map .val) else M.st
 |_=>M.st) Γ:=(rfl)
@[simp] theorem BQ:nV GX fs Γ=M.bind fs (λrvs=>M.bind θD λds=>match GX ds with
 |some (.ok r)=>M.pure r.rv
 |some (.ex x)=>M.bind δh λds'=>match GX ds' with
  |some (.ex x)=>M.thr x
  |_=>M.st
 |none=>M.st) Γ:=(rfl)
@[simp] theorem BR:BL f Γ=M.bind (nK f) (λx=>M.bind εu λd=>M.dH (FG d)) Γ:=(rfl)
@[simp] theorem BS:FG γo=some γa:=(rfl)
@[simp] theorem Mz:Fw out items fr own t p f Γ=M.bind items (λds=>if ds.length<64 then M.bind (dD fr own t p f ds) λys=>M.dH (out ys) else M.st) Γ:=(rfl)
@[simp] theorem FP:vH ys=(asP ys).map λcs=>.new (.lst ((aE cs).map pD)):=(rfl)
@[simp] theorem FQ:outI ys=(iA ys).bind λns=>if (dd ns).length<64 then some (.new (.lst ((fA (dd ns)).map D.int))) else none:=(rfl)
@[simp] theorem MA:cd (¬("points":Str) = "held")=true:=gf (by decide +kernel)
@[simp] theorem MB:cd (¬("has":Str) = "held")=true:=gf (by decide +kernel)
@[simp] theorem MC:cd True=true:=gf trivial
end
noncomputable def FR(sc:Scope)(y:Str):Bool:=match sc.names.lookup y with
 |some .local=>true
 |some .cell=>true
 |_=>false
theorem bS(h:FR sc y=true):Loc sc y:=by
 unfold FR at h;split at h
 .rename_i e;exact .inl e
 .rename_i e;exact .inr e
 .cases h
end Dv
namespace L2
open PySem PySem.Spec PyProof.Rows Ex
mutual
inductive eK(H:Hp):V->PyData->Prop
 |ax:eK H .ax .none
 |bl (b:Bool):eK H (.bl b) (.bool b)
 |int (i:Int):eK H (.int i) (.int i)
 |str (x:Str):eK H (.str x) (.str x)
 |lst {a:Addr}{xs:γB}{ds:θe}:H a=some (.lst xs)->i8 H xs ds->eK H (.ref a) (.list ds)
 |tup {a:Addr}{xs:γB}{ds:θe}:H a=some (.tup xs)->i8 H xs ds->eK H (.ref a) (.tuple ds)
 |i4 {a:Addr}:H a=some (.dK [])->eK H (.ref a) (.dict [])
inductive i8(H:Hp):List V->List PyData->Prop
 |nil:i8 H [] []
 |cons {x:V}{d:PyData}{xs:γB}{ds:θe}:eK H x d->i8 H xs ds->i8 H (x::xs) (d::ds)
end
def FT(K:zze):Prop:=∃o,K.lookup sysModules=some o/\o.cls=.type "dict"
theorem eK.reads(ok:δW)(hs:∀o,h.get? sysModules=some o->o.cls=.type "dict")(D:eK H x d)(r:RelV x u):∃as,Reads h u d as/\sysModules∉as:=by
 refine eK.rec (motive_1:=λx d _=>∀u,RelV x u->∃as,Reads h u d as/\sysModules∉as) (motive_2:=λxs ds _=>∀us,Vals xs us->∃as,ReadsAll h us ds as/\sysModules∉as) (λ_ r=>?_) (λb _ r=>?_) (λi _ r=>?_) (λx _ r=>?_) (λe _ ih _ r=>?_) (λe _ ih _ r=>?_) (λe _ r=>?_) (λ_ r=>?_) (λ_ _ a b _ r=>?_) D u r
 .cases r;exact⟨_,.none,by simp⟩
 .cases r;exact⟨_,.bool b,by simp⟩
 .obtain⟨t,rfl⟩:=r;exact⟨_,.int i t,by simp⟩
 .obtain⟨t,rfl⟩:=r;exact⟨_,.str x t,by simp⟩
 .cases r;obtain⟨_,its,n,rv,q⟩:=ok _ _ e;obtain⟨as,R,ns⟩:=ih _ rv;refine⟨_,.list q rfl rfl R,λz=>?_⟩;rcases qak.mp z with z|z
  .exact absurd (show Value.type "list" = Value.type "dict" from hs _ (z ▸ q)) (by decide)
  .exact ns z
 .cases r;obtain⟨_,its,rv,o,q,c,n,d⟩:=ok _ _ e;obtain⟨as,R,ns⟩:=ih _ rv;exact⟨_,.tuple q c d R,ns⟩
 .cases r;obtain⟨R,nb⟩:=Vc ok e;exact⟨_,R,λz=>nb (qaD.mp z).symm⟩
 .cases r;exact⟨_,.nil,by simp⟩
 .cases r with
  |cons r1 r2 =>
    obtain⟨_,R1,n1⟩:=a _ r1;obtain⟨_,R2,n2⟩:=b _ r2;exact⟨_,.cons R1 R2,λz=>(qaH.1 z).elim n1 n2⟩
section
variable{X:Cx}
theorem Ww(hr:γX)(sm:FT X.K):aN X (.builtin "repr") (λxs H Q=>∃(a:Addr) (d:PyData),xs=[.ref a]/\eK H γC d/\d.showable=true/\d.depth<=50/\d.shown.length<=sizeLine/\Q (.str d.shown) H):=by intro pins s σ H xs us Q I r h;obtain⟨a,d,rfl,D,sh,dp,sz,q⟩:=h;obtain⟨u,rfl,ru⟩:=r.one;cases ru;obtain⟨o,so,sc⟩:=sm;obtain⟨as,R,ns⟩:=D.reads I.hok (λo' e=>by rw[I.bV _ _ so]at e;cases e;exact sc) (u:=.ref a) rfl;have un:=hr.units;exact repr_of_reads' R sh (λ_=>ns) hr.gd (by omega) (λ_ _ z=>z) (λh' u tk kp=>⟨.str d.shown,H,I.kept kp,⟨u,rfl⟩,q⟩) sz
theorem Wx:aN X (.builtin "repr") (λxs H Q=>xs=[.ax]/\Q (.str "None") H):=by intro pins s σ H xs us Q I r h;obtain⟨rfl,q⟩:=h;obtain⟨u,rfl,ru⟩:=r.one;cases ru;exact PySem.P.repr_of_none ⟨.str _,H,I.kept (λ_ _ e=>e),⟨_,rfl⟩,q⟩
end
end L2
namespace Dv
open PySem L2 Ex
variable[KC]
mutual
noncomputable def qV:D->Bool
 |.ax=>true
 |.bl _=>true
 |.int _=>true
 |.str _=>true
 |.lst xs=>vK xs
 |.tup xs=>vK xs
 |.i4 [] []=>true
 |_=>false
noncomputable def vK:List D->Bool
 |[]=>true
 |x::r=>qV x&&vK r
end
theorem Rp.yu{H:Hp}:(∀{x d},Rp H x d->qV d=true->eK H x d.py)/\∀{xs ds},aH H xs ds->vK ds=true->i8 H xs (D.iJ ds):=by
 refine Rp.ind (m:=λx d=>qV d=true->eK H x d.py) (λ_=>.ax) (λb _=>.bl b) (λi _=>.int i) (λx _=>.str x) (λe h p=>.lst e (h (by simpa [qV]using p))) (λe h p=>.tup e (h (by simpa [qV]using p))) (λe _=>.i4 e) ?_ ?_ ?_ ?_ (λ_=>.nil) (λa b p=>?_)
 iterate 4 simp[qV]
 have p:=Bool.and_eq_true_iff.mp (show(qV _&&vK _)=true from by simpa only [vK]using p);exact .cons (a p.1) (b p.2)
theorem Rp.FU:Rp H x d->qV d=true->eK H x d.py:=Rp.yu.1
noncomputable def vL:D->Bool
 |.lst _=>true
 |.tup _=>true
 |.i4 _ _=>true
 |_=>false
def ua(d:D):Bool:=qV d&&d.py.showable&&decide (d.py.depth<=50)&&decide (d.py.shown.length<=sizeLine)
def ub:List D->Option RV
 |[.str x]=>if cd ((reprText x).length<=sizeLine) then some (.val θ9) else none
 |[.int i]=>if cd (i.natAbs.log2<1920) then some (.val θ8) else none
 |[.bl b]=>some (.val (.str (if b then "True" else "False")))
 |[.ax]=>some (.val (.str "None"))
 |[d]=>if vL d&&ua d then some (.val (.str d.py.shown)) else none
 |_=>none
def MD(xs:γB)(H:Hp)(Q:VK):Prop:=(∃(a:Addr) (d:PyData),xs=[.ref a]/\eK H γC d/\d.showable=true/\d.depth<=50/\d.shown.length<=sizeLine/\Q (.str d.shown) H) \/
 (∃i:Int,xs=[.int i]/\i.natAbs.log2<1920/\Q θ8 H) \/
 (∃x:Str,xs=[.str x]/\(reprText x).length<=sizeLine/\Q θ9 H) \/
 (∃b:Bool,xs=[.bl b]/\Q (.str (if b then "True" else "False")) H)\/(xs=[.ax]/\Q (.str "None") H)
omit [KC] in
theorem ME{X:Cx}(hr:γX)(sm:FT X.K):aN X (.builtin "repr") MD:=(Ww hr sm).or (ka.or (kb.or (ke.or Wx)))
theorem MF:mW MD ub:=by
 intro R H xs ds rv Q s px hg q;unfold ub at hg;split at hg
 .rename_i x;split at hg
  .rename_i c;cases hg;obtain⟨x,rfl,p⟩:=px.one;have e:=p.str;subst e;exact .inr (.inr (.inl ⟨_,rfl,mV c,q _ H R γi ιq⟩))
  .cases hg
 .rename_i i;split at hg
  .rename_i c;cases hg;obtain⟨x,rfl,p⟩:=px.one;have e:=p.int;subst e;exact .inr (.inl ⟨_,rfl,mV c,q _ H R γi ιq⟩)
  .cases hg
 .rename_i b;cases hg;obtain⟨x,rfl,p⟩:=px.one;have e:=p.bl;subst e;exact .inr (.inr (.inr (.inl ⟨_,rfl,q _ H R γi ιq⟩)))
 .cases hg;obtain⟨x,rfl,p⟩:=px.one;have hv:=p.hv s;cases hv;exact .inr (.inr (.inr (.inr ⟨rfl,q _ H R γi ιq⟩)))
 .rename_i d _ _ _ _;obtain⟨x,rfl,p⟩:=px.one;split at hg
  .rename_i c;cases hg;rw[qay]at c;obtain⟨c1,c0⟩:=c;unfold ua at c0;simp only[Bool.and_eq_true,decide_eq_true_eq]at c0;obtain⟨⟨⟨c2,c3⟩,c5⟩,c6⟩:=c0;have hv:=p.hv s;have D:=hv.FU c2;have:∃a,x=.ref a:=by cases hv<;>first|exact⟨_,rfl⟩|cases c1
   obtain⟨a,rfl⟩:=this;exact .inl ⟨a,d.py,rfl,D,c3,c5,c6,q _ H R γi ιq⟩
  .cases hg
 .cases hg
end Dv
namespace St
open PySem PyProof.Rows PySem.Spec
section
variable{prog:Program}{w:World}{A:Around}{E:T0}{s:Shared}
def BU(cs:εj)(i:Nat)(zs:εj):Prop:=(∀c,c∈zs.map (·.1) ↔ c∈(cs.take i).map (·.1))/\(∀z∈zs,z∈cs)/\zs.length<=i/\(zs.map (·.1)).Nodup
theorem Wy(W:Walks prog w A.in1 I fp wr n P Wt)(hSf:S∉fp)(hu:A.units+1<cLine)(cs:εj)(hl:cs.length=n)
 (hv:∀i v,P i v->∃z,cs[i]?=some z/\v=.ref z.2) (hn:n<600) (sm:∀z∈cs,bU z.1) (MG:∀z∈cs,z.2∉S::wr):∀(k i:Nat) (s:Shared) (zs:εj),n-i=k->i<=n->Wt i s.heap->(∀z∈cs,ef s.heap z.1 z.2)->dq B s.heap S zs->BU cs i zs ->
  (∀h' tk zs',(∀b o,b∉S::wr->s.heap.get? b=some o->h'.get? b=some o)->dq B h' S zs'->BU cs n zs'->R (.ok (.ret .none)) {s with heap:=h',toks:=tk}) ->
  codeAny γ A (.builtin "set.update.loop" ⟨[.ref S,.ref I],[]⟩) R s:=by
 have hSw:S∉wr:=λz=>hSf (W.sub _ z)
 intro k
 induction k with
 |zero =>
   intro i s zs hk hi st hP hS hT hR
   obtain rfl:i=n:=by omega
   refine qbK PyProof.Rows.F.entry_set_update_loop ?_
   rw[qbs qbl _]
   show wpAny _ _ (pyNext δ7 >>= _) _ _ _
   refine qaa (W.done s _ _ st λh' tk hk=>?_)
   show  wpAny _ _ (ret Value.none) _ _ _
   exact qac (hR h' tk zs (λb o hb e=>hk b o (λz=>hb (.tail _ z)) e) (hS.at λo e=>hk _ _ hSw e) hT)
 |succ k ih =>
   intro i s zs hk hi st hP hS hT hR
   have lt:i<n:=by omega
   refine qbK PyProof.Rows.F.entry_set_update_loop ?_
   rw[qbs qbl _]
   show wpAny _ _ (pyNext δ7 >>= _) _ _ _
   refine qaa (W.item i s _ _ lt st λv h1 Wz hv1 st1 hk1=>?_)
   obtain⟨z,hz,rfl⟩:=hv i v hv1
   have FV:z∈cs:=qba hz
   have hS1:dq B h1 S zs:=hS.at λo e=>hk1 _ _ hSw e
   have BV:∀z∈cs,ef h1 z.1 z.2:=λy hy=>(hP y hy).at λo e=>hk1 _ _ (λq=>MG y hy (.tail _ q)) e
   have e1:cs.take (i+1)=cs.take i++[z]:=by obtain⟨h1,h2⟩:=qad.mp hz;rw[List.take_succ_eq_append_getElem h1,h2]
   show wpAny _ _ (holding [Value.ref z.2] (setAdd S (.ref z.2)) >>= _) _ _ _
   refine qaa (qaV ?_)
   refine IB (s:={s with heap:=h1,toks:=Wz}) hu hS1 (λy hy=>BV y (hT.2.1 y hy)) (BV z FV) (sm z FV) (by have:=hT.2.2.1;omega) (λhin tk=>?_) λt4 h2 tk zs' sb S2 pm=>?_
   .refine qac ⟨plainId_quiet qbl _,ih (i+1) _ zs (by omega) lt st1 BV hS1 ⟨λc=>?_,hT.2.1,by have:=hT.2.2.1;omega,hT.2.2.2⟩ λh3 tk3 FW hk3 S3 T3=>?_⟩
    .rw[e1,qbJ,qaH,hT.1 c]
     constructor
     .exact .inl
     .rintro(q|q)
      .exact q
      .simp at q;rw[q];exact(hT.1 _).mp hin
    .exact hR h3 tk3 FW (λb o hb e=>hk3 b o hb (hk1 b o (λz=>hb (.tail _ z)) e)) S3 T3
   .have i7:=pm.map (·.1)
    refine qac ⟨plainId_quiet qbl _,ih (i+1) _ zs' (by omega) lt (W.frame _ _ _ st1 λb hb o e=>?_) (λy hy=>(BV y hy).at λo e=>?_) S2 ⟨λc=>?_,λy hy=>?_,?_,?_⟩ λh3 tk3 FW hk3 S3 T3=>?_⟩
    .rw[sb.2 b λz=>hSf (by rw[<-z];exact hb)];exact e
    .rw[sb.2 y.2 λq=>MG y hy (by rw[q];exact qag)];exact e
    .rw[i7.mem_iff,e1,qbJ,qaH,qav,qak,hT.1 c]
     simp[or_comm]
    .rcases qak.mp (pm.mem_iff.mp hy) with e|e
     .rw[e];exact FV
     .exact hT.2.1 y e
    .rw[pm.length_eq,qaN];have:=hT.2.2.1;omega
    .exact i7.nodup_iff.mpr (qbd.mpr ⟨t4,hT.2.2.2⟩)
    .refine hR h3 tk3 FW (λb o hb e=>hk3 b o hb ?_) S3 T3
     rw[sb.2 b λz=>hb (by rw[z];exact qag)]
     exact hk1 b o (λz=>hb (.tail _ z)) e
theorem ni{cs:εj}(hh:A.handled=none)(hu:A.units+10<cLine)(hl:s.heap.IsList l items)(hi:items.toList=cs.map λz=>Value.ref z.2)(hP:∀z∈cs,ef s.heap z.1 z.2)(sm:∀z∈cs,bU z.1)(hn:cs.length<600)
 (h:∀(h':Heap) (tk:Nat) (zs:εj),dq (w.params.followText "set-order") h' s.heap.objs.size zs->BU cs cs.length zs->(∀b o,s.heap.get? b=some o->h'.get? b=some o)->Q γj {s with heap:=h',toks:=tk}) :
 wpAny γ A (call (.type "set") [.ref l]) Q E s:=by
 have len:cs.length=items.size:=by have:=congrArg List.length hi;simpa using this.symm
 refine Ph rfl ?_;generalize w.params.followText "set-order" = B at h ⊢;obtain⟨⟨cl,di,da,sl⟩,g,rfl,n,rfl⟩:=hl;have new:(s.heap.push (bK #[] 0 (.fresh 0 0 (!B)))).get? s.heap.objs.size=some (bK #[] 0 (.fresh 0 0 (!B))):=qao _ rfl;generalize hH:s.heap.push (bK #[] 0 (.fresh 0 0 (!B)))=H at new ⊢;have up:∀b o,s.heap.get? b=some o->H.get? b=some o:=λb o e=>by rw[<-hH];exact qab _ e
 have sz:H.objs.size=s.heap.objs.size+1:=by rw[<-hH];exact Heap.size_push ..
 have gl:=up _ _ g;have lt:l<s.heap.objs.size:=qai g;have il:H.IsList l items:=⟨_,gl,rfl,n,rfl⟩;have no:=F.sub_list_set;have no2:=F.sub_list_frozenset;have no3:(Value.type "list" == Value.type "dict")=false:=by decide
 have new':=new;unfold bK at new;unfold Builtin.«set.__init__» noKeywords;unfold Builtin.Frozenset.updateFrom;generalize WA:pyIter=PI;wp_walk;rw[<-WA];refine PySem.wpAny_pyIter_list (s:={s with heap:=H}) il ?_;refine qaa ?_;have WB:∀z∈cs,z.2<s.heap.objs.size:=λz hz=>by obtain⟨o,_,_,_,_,e,_⟩:=hP z hz;exact qai e
 refine wpAny_runValue (Wy (Walks.list (by simp[hh]) H.objs.size l (qal (by rw[sz];exact qbH lt)) items) (S:=s.heap.objs.size) (B:=B) (λz=>?_) (by simp[Around.in1];omega) cs len (λi v hv=>?_) (by omega) sm (λz hz q=>?_) (items.size-0) 0 _ [] rfl (qaW _)
  ⟨⟨_,qao _ rfl,rfl,rfl⟩,il.push _⟩ (λz hz=>(hP z hz).at λo e=>qab _ (up _ _ e)) (dq.fresh B (qab _ new')) ⟨λc=>by simp,(λz hz=>nomatch hz),qam _,qbG⟩ λh' tk zs hk S' T'=>?_)
 .rcases qak.mp z with z|z
  .rw[sz]at z;exact absurd z (qal (qa3 _))
  .exact absurd (qaD.mp z) (Nat.ne_of_gt lt)
 .have hv:items.toList[i]?=some v:=by rw[qaM];exact hv
  rw[hi,qaB]at hv;cases q:cs[i]? with
  |none=>rw[q]at hv;cases hv
  |some z=>rw[q]at hv;cases hv;exact⟨z,rfl,rfl⟩
 .have:=WB z hz;rcases qak.mp q with q|q
  .exact absurd q (qal this)
  .rw[qaD,sz]at q;exact absurd q (qal (qbH this))
 .show wpAny _ _ _ _ _ _;refine qac (show wpAny _ _ (ret Value.none) _ _ _ from qac ⟨rfl,h h' tk zs S' (by rw[len];exact T') λb o e=>hk b o (λz=>?_) (qab _ (up b o e))⟩);have bl:=qai e;rcases qak.mp z with z|z
  .exact absurd z (qal bl)
  .rw[qaD,sz]at z;exact absurd z (qal (qbH bl))
end
end St
namespace L2
open PySem PySem.Spec PyProof.Rows Ex St So
section
variable{X:Cx}
theorem WC(hr:γX)(calm:X.calm=true):aN X (.type "set") (λxs H Q=>∃(p:Addr) (cs:εj),xs=[.ref p]/\b8 X.K H p (cs.map λz=>V.ref z.2)/\(∀z∈cs,H z.2=some (.tup [.int z.1.1,.int z.1.2]))/\(∀z∈cs,bU z.1)/\cs.length<600 /\
 ∀l zs,H l=none->BU cs cs.length zs->Q ιr (upd H l (yj X l zs))):=by
 intro pins s σ H xs us Q I r h;obtain⟨p,cs,rfl,hS,ht,sm,hn,q⟩:=h;obtain⟨u,rfl,ru⟩:=r.one;cases ru;obtain⟨its,rv,pl,hz⟩:=I.list hS
 have e:its=cs.map λz=>Value.ref z.2:=by
  clear hS hz pl q hn;induction cs generalizing its with
  |nil=>cases rv;rfl
  |cons z r ih =>
    cases rv with
    |cons a b =>
      cases a;rw[qav,ih (λy hy=>ht y (.tail _ hy)) (λy hy=>sm y (.tail _ hy)) _ b]
 have hu:=hr.un;refine St.ni θZ (by omega) pl.isList (by simpa using e) (λz hz=>BC I.hok (ht z hz)) sm hn λh' tk zs S T k=>?_;exact⟨.ref s.heap.objs.size,_,I.laid (t':=tk) (o:=yj X s.heap.objs.size zs) k γO (Vx S),rfl,q _ zs ζx T⟩
end
end L2
namespace Dv
open PySem L2 Ex St So
variable[KC]
def yv:List D->Option RV
 |[.lst ds]=>(asP ds).bind λcs=>if cs.length<64 then some (.new (.lst ((aE cs).map pD))) else none
 |_=>none
theorem WD(r:aH R ys ds)(h:asP ds=some cs):∃zs:List Z,ys=(zs.map λz=>V.ref z.2)/\zs.map (·.1)=cs/\(∀z∈zs,R z.2=some (.tup [.int z.1.1,.int z.1.2]))/\∀z∈zs,bU z.1:=by
 induction ys generalizing ds cs with
 |nil=>cases r;cases h;exact⟨[],rfl,rfl,nofun,nofun⟩
 |cons y ys ih =>
   cases r with
   |cons a b =>
     obtain⟨c,cs',rfl,sm,h',rfl⟩:=yl h;obtain⟨zs,e1,e2,e3,e4⟩:=ih b h';obtain⟨p,rfl,hp⟩:=Mm a;exact⟨(c,p)::zs,by rw[qav,e1],by rw[qav,e2],List.forall_mem_cons.mpr ⟨hp,e3⟩,List.forall_mem_cons.mpr ⟨sm,e4⟩⟩
section
variable{X:Cx}{EE:bw}{ios:zzd}{e:Expr}{fs:γn}{pos p0 p1 p2:Pos}
theorem MH(hr0:γX)(hl:X.mg "sorted" = none)(hg:Gl X "sorted")(hr:X.mg "set" = none)(hg':Gl X "set")(hc:X.calm=true)(ha:VA X EE ios [e] fs)(hs:starEach [.Call (.Name "set" p1) [e] [] p2] X.env=[(false,eval (.Call (.Name "set" p1) [e] [] p2) X.env)]:=by rfl)
 (he:starEach [e] X.env=[(false,eval e X.env)]:=by rfl):VE X EE ios (.Call (.Name "sorted" p0) [.Call (.Name "set" p1) [e] [] p2] [] pos) (cN yv fs):=by
 obtain⟨t,h1,h2⟩:=ha;refine⟨_,rD (Mi hc) hg hl (by decide +kernel) (jU (uZ (WC hr0 hc) hg' hr (by decide +kernel) h1 (he:=he) (hpl:=rfl)) oh (hs:=hs)) (he:=hs) (hpl:=rfl),λσ H R Γ Q er w=>?_⟩;unfold cN at w;rw[aC]at w;refine h2 σ H R Γ _ er (a6 w (λrvs ai w xs H1 R1 p1 hx=>?_) λ_ _ z=>z);rw[aC]at w;obtain⟨ds,pd,w⟩:=xJ p1.er hx w;obtain⟨rv,hg,w⟩:=jW w;unfold yv at hg;split at hg
 .rename_i l;cases h:asP l with
  |none=>rw[h]at hg;cases hg
  |some cs =>
    rw[h]at hg;have hg:(if cs.length<64 then some (RV.new (.lst ((aE cs).map pD))) else none)=some rv:=hg;split at hg
    .rename_i c;cases hg;obtain⟨x,rfl,p⟩:=pd.one;obtain⟨a,ys,rfl,g1,g2⟩:=p.lst p1.er.sub;obtain⟨zs,rfl,e2,e3,e4⟩:=WD g2 h;have zl:zs.length=cs.length:=by rw[<-e2,qaf]
     refine⟨a,zs,rfl,b8.of g1,λz hz=>p1.er.sub _ _ (e3 z hz),e4,by omega,λl ws hl T=>?_⟩;have qS:Al R1 H1 R1 (upd H1 l (yj X l ws)):=LZ p1.er.sub hl;refine⟨l,ws,rfl,eC,λz hz=>qS.sub _ _ (e3 z (T.2.1 z hz)),by have:=T.2.2.1;omega,λq ws' hq pm pw=>?_⟩;have Fz:(ws'.map (·.1)).Nodup:=(pm.map _).nodup_iff.mpr T.2.2.2;have ez:ws'.map (·.1)=aE cs:=yo (Fv h) Fz (List.pairwise_map.mpr pw) λc=>by rw[(pm.map _).mem_iff,T.1 c,List.take_length,e2]
     obtain⟨al,rv⟩:=nJ qS.sub hq (Fx ws' λz hz=>e3 z (T.2.1 z ιf));rw[ez]at rv;exact w _ _ _ ((p1.al qS).al al) (rv.rv ((p1.al qS).back er))
    .cases hg
 .cases hg
end
end Dv
namespace Dv
open PySem L2 Ex
variable[KC]
section
variable{X:Cx}{EE:bw}{ios:zzd}{R H R0 H0 R1 H1:Hp}{σ oY:St}{Γ fw ai:En}
theorem br.oZ(s:br ios R0 H0 oY fw R H σ Γ)(h0:H0 p=none)(hR:R p=none)(nO:¬Ow σ Γ p):br ios R0 H0 oY fw R (upd H p o) σ Γ:=by
 have up:∀b,b≠p->upd H p o b=H b:=λb hb=>bh hb;refine⟨⟨λb u q=>?_,s.er.len,λj t hj=>?_,s.er.dj⟩,⟨s.go.rr,λb u q n=>?_,s.go.no,s.go.oo,λb u q=>?_⟩⟩
 .rw[up b (λz=>by rw[z,hR]at q;cases q)];exact s.er.sub b u q
 .obtain⟨v,hv,q⟩:=s.er.sl j t hj;refine⟨v,hv,q.mono ηY λho b zs eb hb rb=>⟨?_,rb⟩⟩;rw[up b]
  .exact hb
  .rintro rfl;subst eb;exact nO ⟨j,t.1,t.2,hj,ho,hv⟩
 .rw[up b (λz=>by rw[z,h0]at q;cases q)];exact s.go.hh b u q n
 .by_cases hb:b=p
  .subst hb;exact⟨_,eC⟩
  .rw[up b hb];exact s.go.th b u q
end
end Dv
namespace L2
open PySem PySem.Spec PyProof.Rows Ex
noncomputable abbrev two(el tg src:Expr)(ifs:zza)(gK bu:Expr)(cA:zza)(sc:Scope)(pos:Pos):Expr:=.ListComp el [⟨tg,src,ifs,0⟩,⟨gK,bu,cA,0⟩] sc pos
noncomputable def yw(e bu:Expr)(env:Env)(acc:Value):Sem Unit:=do
 let x <-eval bu env
 standAt bu.pos
 let x <-foldedSetIterable bu env x
 let _ <-runOwn (.compStart e 1 (<-holding [x] (pyIter x)) acc env) env
theorem WE(el tg src:Expr)(ifs:zza)(gK bu:Expr)(cA:zza)(sc:Scope)(pos:Pos)(it acc:Value)(env:Env):compTurn γu 0 it acc env=turnOf γu 0 tg src.pos ifs (yw γu bu env acc) it acc env:=by unfold compTurn turnOf yw;simp only[List.getElem?_cons_zero,List.getElem?_cons_succ,bne_self_eq_false,Bool.false_eq_true,if_false,bind_assoc,pure_bind,Nat.zero_add];rfl
theorem WG
 (h0:codeAny γ A (.compLoop γu 1 it acc env) R s)
 (h:wpAny γ A (pyIter it) (λit' s'=>codeAny γ A (.compLoop γu 1 it' acc env) R s') (notedBy γ A env λx s'=>R (.error x) s') s) :
 codeAny γ A (.compStart γu 1 it acc env) R s:=by
 refine codeAny_of_tree (show wpAny _ _ ((compStart γu 1 it acc env).onRaise (λx=>do noteFrame x env;standAt theWindowsPlace)) _ _ s from wpAny_notedAt ?_);unfold compStart;refine(show wpAny _ _ (ask >>= _) _ _ s from qaa (qbu (wpAny_ite ?_)));split
 .first
   |exact qaa (qac (qac (And.intro rfl h0)))
   |exact qac (And.intro rfl h0)
 .refine qaa ?_;refine wpAny_rule (show wpAny _ _ (standAt bu.pos >>= _) _ _ s from qaa (qbe (qaa ?_)));exact qaS h (λit' s' q=>qac (And.intro rfl q)) λ_ _ z=>z
def FX(lo hi:Nat)(g:TG):Prop:=∀(x:V) (σ:St) (H:Hp) (Q:St->Hp->Prop),g x σ H Q->g x σ H λaB H'=>Q aB H'/\∀k,(k<lo\/hi<=k)->aB[k]?=σ[k]?
theorem WH{lo hi i:Nat}(h1:lo<=i)(h2:i<hi):FX lo hi (kW i):=λx σ H Q q=>⟨q,λk hk=>qaj (by omega)⟩
def BW(lo hi:Nat)(wi:TI)(g:TG)(tc:TT)(L:List V->Prop)(te:AU):AU:=λσ H D ys K=>(∀k v,lo<=k->k<hi->σ[k]?≠some δQ)/\wi σ H λJ H1=>H1 D=some γ3/\∃W:Nat->Nat->List V->Hp->Prop,(∃m,W 0 m ys H1) /\
 ∀i m ys H2,H2 D=some γ3->W i m ys H2->(J.stop i H2/\K ys H2)\/(J.go i H2/\L ys/\∀x H3,J.sY i H2 x H3->g x σ H3 λbF H4=>tc bF H4 λb H5 =>
  if b=true then te bF H5 D ys (λys' H6=>∃m',m'<m/\W (i+1) m' ys' H6) else H5 D=some γ3/\∃m',m'<m/\W (i+1) m' ys H5)
theorem WI{Y:Cx}{el tg src gK bu:Expr}{ifs cA:zza}{sc:Scope}{pos:Pos}{lo hi:Nat}{wi:TI}{g:TG}{tc:TT}{L:List V->Prop}{te:AU}(hx:Y.xe=λ_ _=>False)(hc:Y.calm=true)(hi':PI Y gK bu wi)(hog:FX lo hi g)(hg:PG Y gK g)(ht:pX Y cA tc)(ha:DH Y L te (emit el Y.env))
 (hs:∀x,foldedSetIterable bu Y.env x=pure x):DH Y (λ_=>True) (BW lo hi wi g tc L te) (yw γu bu Y.env):=by
 intro pins s σ H D ys K I _ q;obtain⟨m5,q⟩:=q;unfold yw;have lift:∀{α:Type}{m:Sem α}{Q':α->Shared->Prop}{E':T0}{s':Shared},wpAny εv Y.A m Q' Y.xe s'->wpAny εv Y.A m Q' E' s':=λh=>qaS h (λ_ _ z=>z) λ_ _ z=>by rw[hx]at z;exact z.elim
 refine qaa (lift (aK (hi' pins s σ H _ I q) λxv s1 h1=>?_));refine qaa (qbe ?_);rw[hs];refine qaa (qac ?_);refine qaa (qaV (lift (aK h1 λitv s2 h2=>?_)));obtain⟨it,fp,tn,J,H2,rfl,I2,T,st2,f2,e2,W,⟨m0,w0⟩,turn⟩:=h2;refine qaa (wpAny_runOwn ?_);have stat:∀{H':Hp},(∀b∈fp,H' b=none)->∀b∈fp,l9 Y pins H' b:=λhn b hb=>⟨hn b hb,(f2 b hb).2⟩
 have loop:codeAny εv Y.A (.compLoop γu 1 ηK ζZ Y.env) (λr s'=>match r with|.ok f=>wpAny εv Y.A (pure ():Sem Unit) (λ_ s'=>∃H' ys',Inv Y pins σ H' s'/\H' D=some θH/\K ys' H') (λ_ _=>False) s'|.error e=>cameBackBy εv Y.A Y.env (λ_ _=>False) e s') s2:=by
  refine Kq (tg:=gK) (p:=bu.pos) (ifs:=cA) (act:=emit el Y.env ζZ) rfl (λn s'=>∃i ys H',Inv Y pins σ H' s'/\tn i s'.heap/\(∀b∈fp,H' b=none)/\H' D=some γ3/\W i n ys H') m0 ⟨0,ys,H2,I2,st2,λb hb=>(f2 b hb).1,e2,w0⟩ ?_;rintro n s3 ⟨i,ys,H3,J3,st3,rA,e3,w3⟩;rcases turn i n ys H3 e3 w3 with ⟨stop,qn⟩|⟨go,hlen,step⟩
  .refine lift (aK (T.done Y rfl rfl rfl hc i pins s3 σ H3 _ J3 (stat rA) st3 stop) λr s4 zq=>?_);obtain⟨hr,J4⟩:=zq;subst hr;exact qac ⟨H3,ys,J4,e3,qn⟩
  .refine lift (aK (T.item Y rfl rfl rfl hc i pins s3 σ H3 _ J3 (stat rA) st3 go) λr s4 zq=>?_);obtain⟨u,hr,h4⟩:=zq;subst hr;refine lift (aK h4 λ_ s5 zq=>?_);obtain⟨x,H5,J5,r5,y5,oa,w_⟩:=zq;have DM:=J5.pinned (stat w_) (T.obj _ _ oa);refine lift (aK (hg _ s5 σ H5 x u _ DM r5 (hog _ _ _ _ (step x H5 y5))) λ_ s6 zq=>?_);obtain⟨gV,H6,J6,q6,tE⟩:=zq;refine lift (aK (ht _ s6 gV H6 _ J6 q6) λb s7 zq=>?_);obtain⟨H7,J7,q7⟩:=zq
   have back:∀{H8:Hp}{s8:Shared}{ys':γB}{m':Nat},Inv Y (pins++uV fp s5.heap) gV H8 s8->H8 D=some θH->m'<n->W (i+1) m' ys' H8 ->
    ∃m,m<n/\∃i ys H',Inv Y pins σ H' s8/\tn i s8.heap/\(∀b∈fp,H' b=none)/\H' D=some γ3/\W i m ys H':=λ{H8 s8 ys' m'} J8 e8 hm w8=>by
    refine⟨m',hm,i+1,ys',H8,?_,T.keep _ _ _ oa λb hb o e=>(J8.pin (b,o) δE).1,λb hb=>?_,e8,w8⟩
    .refine(Inv.dU J8).weak ?_ λj v' z=>?_
     .rw[J3.len];exact J8.len.symm
     .by_cases hj:j<lo\/hi<=j
      .rw[tE j hj];exact z
      .exact absurd z (m5 j v' (by omega) (by omega))
    .obtain⟨o,e,d⟩:=T.obj _ _ oa b hb;exact(J8.pin (b,o) δE).2.1
   cases b with
   |false =>
     obtain⟨e7,m',hm,w7⟩:=(show H7 D=some γ3/\∃m',m'<n/\W (i+1) m' ys H7 from by simpa using q7);exact back J7 e7 hm w7
   |true =>
     have DN:te gV H7 D ys (λys' H6=>∃m',m'<n/\W (i+1) m' ys' H6):=by simpa using q7
     refine qaS (ha _ s7 gV H7 D ys _ J7 hlen DN) (λv s8 ⟨H8,ys',J8,e8,m',hm,w8⟩=>back J8 e8 hm w8) λ_ _ z=>z.elim
 refine codeAny_mono (WG loop (T.self _ _ _ _ _ st2 loop)) λr s' z=>?_;cases r with
 |ok f=>exact z
 |error e=>exact z
theorem WJ{X:Cx}{el tg src gK bu:Expr}{ifs cA:zza}{scope:Scope}{pos:Pos}{Nc:v6}{own lo hi:Nat}{fr:zzc}{wi BX:TI}{g g1:TG}{tc BY:TT}{te:TE}(hc:X.calm=true)(B:γP)(h1:PI X tg src wi)(hog:mO own g)(FY:FX lo hi g1)
 (hg:∀cl C s3 H3 fp pn',PG (X.blk Nc scope cl C s3 H3 fp pn' λ_ _=>False) tg g) (ht:∀cl C s3 H3 fp pn',pX (X.blk Nc scope cl C s3 H3 fp pn' λ_ _=>False) ifs tc)
 (h2:∀cl C s3 H3 fp pn',PI (X.blk Nc scope cl C s3 H3 fp pn' λ_ _=>False) gK bu BX) (hg1:∀cl C s3 H3 fp pn',PG (X.blk Nc scope cl C s3 H3 fp pn' λ_ _=>False) gK g1) (ht1:∀cl C s3 H3 fp pn',pX (X.blk Nc scope cl C s3 H3 fp pn' λ_ _=>False) cA BY)
 (he:∀cl C s3 H3 fp pn',PE (X.blk Nc scope cl C s3 H3 fp pn' λ_ _=>False) el te)
 (hs:∀x,foldedSetIterable src X.env x=pure x:=by intro _;rfl) (hs1:∀env x,foldedSetIterable bu env x=pure x:=by intro _ _;rfl):PE X (.ListComp el [⟨tg,src,ifs,0⟩,⟨gK,bu,cA,0⟩] scope pos) (AW fr own wi g tc (λ_=>True) (BW lo hi BX g1 BY tw (u7 te))):=by intro pins s σ H Q I h;show wpAny _ _ (comprehension (.ListComp el [⟨tg,src,ifs,0⟩,⟨gK,bu,cA,0⟩] scope pos) scope X.env _ (newList []) false (eval src X.env)) _ _ _;exact AX (o0:=lO) (act:=λenv acc=>yw (two el tg src ifs gK bu cA scope pos) bu env acc) (QQ:=EP X pins σ Q) hc B h1 hog hg ht (λ_ _ _=>WE _ _ _ _ _ _ _ _ _ _ _ _) (λcl C s3 H3 fp pn'=>WI rfl hc (h2 cl C s3 H3 fp pn') FY (hg1 cl C s3 H3 fp pn') (ht1 cl C s3 H3 fp pn') (DI rfl ζl) λx=>hs1 _ x) rfl (λ_ _ _=>⟨rfl,rfl⟩) rfl qaJ DJ codeAny_compStart_list hs I h λL C H3 s4 hn f tF q=>let ⟨m,hm⟩:=hn; ⟨m,hm,λh' sb=>⟨.ref L,H3,tF h' sb,rfl,q⟩⟩
end L2
namespace Dv
open PySem L2 Ex
variable[KC]
section
variable{X:Cx}{EE:bw}{ios:zzd}{R H R1 H1 R2 H2:Hp}{σ cR fk:St}{Γ ai ao:En}{A:Addr}
structure fC(A:Addr)(ios:zzd)(R H:Hp)(σ:St)(Γ:En)(R' H':Hp)(aB:St)(Γ':En):Prop where
 er:ER ios R' H' aB Γ'
 rr:ah R R'
 hh:∀b o,b≠A->H b=some o -> ¬Ow σ Γ b->H' b=some o
 no:∀b o,b≠A->H b=some o -> ¬Ow σ Γ b->R b=none->R' b=none
 oo:∀b,Ow aB Γ' b->Ow σ Γ b\/H b=none
 th:∀b o,H b=some o->∃o',H' b=some o'
theorem br.toA(s:δn):fC A ios R H σ Γ R1 H1 cR ai:=⟨s.er,s.go.rr,λb o _ h n=>s.go.hh b o h n,λb o _ h n r=>s.go.no b o h n r,s.go.oo,s.go.th⟩
theorem fC.trans(a:ζN)(b:br ios R1 H1 cR ai R2 H2 fk ao):fC A ios R H σ Γ R2 H2 fk ao:=by
 have nO:∀b o,H b=some o -> ¬Ow σ Γ b -> ¬Ow cR ai b:=λb o h n z=>(a.oo b z).elim n λq=>by rw[h]at q;cases q
 refine⟨b.er,a.rr.trans b.go.rr,λc o hc h n=>b.go.hh c o (a.hh c o hc h n) (nO c o h n),λc o hc h n r=>b.go.no c o (a.hh c o hc h n) (nO c o h n) (a.no c o hc h n r),λc z=>?_,λc o h=>let ⟨o1,h1⟩:=a.th c o h;b.go.th c o1 h1⟩;rcases b.go.oo c z with q|q
 .exact a.oo c q
 .cases e:H c with
  |none=>exact .inr rfl
  |some o =>
    obtain⟨o',h'⟩:=a.th c o e;rw[h']at q;cases q
theorem ER.oZ(er:γw)(hR:R A=none)(nO:¬Ow σ Γ A):ER ios R (upd H A o) σ Γ:=by
 refine⟨λb u q=>?_,er.len,λj t hj=>?_,er.dj⟩
 .rw[bh (λz=>by rw[z,hR]at q;cases q)];exact er.sub b u q
 .obtain⟨v,hv,q⟩:=er.sl j t hj;refine⟨v,hv,q.mono ηY λho b zs eb hb rb=>⟨?_,rb⟩⟩;rw[bh]
  .exact hb
  .rintro rfl;subst eb;exact nO ⟨j,t.1,t.2,hj,ho,hv⟩
theorem fC.oZ(s:ζN)(hR:R1 A=none)(nO:¬Ow cR ai A):fC A ios R H σ Γ R1 (upd H1 A o) cR ai:=by
 refine⟨s.er.oZ hR nO,s.rr,λb u hb q n=>by rw[bh hb];exact s.hh b u hb q n,s.no,s.oo,λb u q=>?_⟩;by_cases hb:b=A
 .subst hb;exact⟨_,eC⟩
 .rw[bh hb];exact s.th b u q
theorem fC.fix(s:ζN)(h:H1 A=some o)(hR:R1 A=none)(h0:∃u,H A=some u):br ios R (upd H A o) σ Γ R1 H1 cR ai:=by
 obtain⟨u0,h0⟩:=h0;refine⟨s.er,⟨s.rr,λb u q n=>?_,λb u q n r=>?_,λb z=>?_,λb u q=>?_⟩⟩
 .by_cases hb:b=A
  .subst hb;rw[eC]at q;cases q;exact h
  .rw[bh hb]at q;exact s.hh b u hb q n
 .by_cases hb:b=A
  .subst hb;exact hR
  .rw[bh hb]at q;exact s.no b u hb q n r
 .rcases s.oo b z with q|q
  .exact .inl q
  .refine .inr ?_;rw[bh (λe=>by rw[e,h0]at q;cases q)];exact q
 .by_cases hb:b=A
  .subst hb;exact⟨_,h⟩
  .rw[bh hb]at q;exact s.th b u q
theorem FZ(h:Ow σ θi b):Ow (σ.set i x) Γ b:=by
 obtain⟨j,k,d,h1,h2,h3⟩:=h;by_cases hj:j=i
 .subst hj;have l1:j<Γ.length:=by have:=(qad.mp h1).1;rwa[qaU]at this
  rw[qap l1]at h1;cases h1
 .rw[qaj ζB]at h1;exact⟨j,k,d,h1,h2,by rw[qaj ζB];exact h3⟩
theorem br.forget(er:ER ios R H (σ.set i x) Γ):br ios R H (σ.set i x) Γ R H σ θi:=by
 have at':∀{j:Nat}{t:Kd×D},(Γ.set i none)[j]?=some (some t)->j≠i/\Γ[j]?=some (some t):=λ{j t} h=>by
  by_cases hj:j=i
  .subst hj;have l1:j<Γ.length:=by have:=(qad.mp h).1;rwa[qaU]at this
   rw[qap l1]at h;cases h
  .rw[qaj ζB]at h;exact⟨hj,h⟩
 have sg:∀{j:Nat},j≠i->(σ.set i x)[j]?=σ[j]?:= λ{j} h=>qaj (qaR h);refine⟨⟨er.sub,by have:=er.len;rw[qaU]at this ⊢;exact this,λj t hj=>?_,λj j' l l' d d' b q1 q2 q3 q4 q5 q6=>?_⟩,⟨ah.refl _,λ_ _ h _=>h,λ_ _ _ _ z=>z,λb z=>.inl (FZ z),λb o h=>⟨o,h⟩⟩⟩
 .obtain⟨n,h⟩:=at' hj;obtain⟨v,hv,q⟩:=er.sl j t h;exact⟨v,by rw[<-sg n];exact hv,q⟩
 .obtain⟨n1,h1⟩:=at' q1;obtain⟨n2,h2⟩:=at' q3;exact er.dj j j' l l' d d' b h1 q2 h2 q4 (by rw[sg n1];exact q5) (by rw[sg n2];exact q6)
section
variable{el tg src gK bu:Expr}{ifs cA:zza}{pos:Pos}{p p1:δN}{f:M RV}{m m1:D->M Unit}{items cf:M γd}{fr:zzc}{own own0 i1:Nat}
noncomputable def mz(i1:Nat)(m1:D->M Unit)(p1:δN)(f:M RV):List D->M γd
 |[]=>M.pure []
 |d::r=>λΓ=>match nR m1 p1 f d Γ with
   |.ok y ai=>match mz i1 m1 p1 f r (ai.set i1 none) with
     |.ok ys Γ'=>.ok (y.toList++ys) Γ'
     |_=>.st
   |_=>.st
noncomputable def uc(m:D->M Unit)(p:δN)(cf:M γd)(inn:List D->M γd)(d:D):M γd:=M.bind ηA λ_=>M.bind p λb=>if b then M.bind cf inn else M.pure []
noncomputable def mB(fr:zzc)(own:Nat)(em:D->M γd):List D->M γd
 |[]=>M.pure []
 |d::r=>λΓ=>match em d δS with
   |.ok ys bW=>match mB fr own em r (aW fr own Γ bW) with
     |.ok zs Γ'=>.ok (ys++zs) Γ'
     |_=>.st
   |_=>.st
noncomputable def yx(items:M γd)(fr:zzc)(own:Nat)(em:D->M γd):M RV:=M.bind items λds=>M.bind (mB fr own em ds) λys=>if ys.length<sizeLine then M.pure (.new γ3) else M.st
theorem WK:∀(ds:γd) (Γ:En) (x:Xc) (Γ':En),mB fr own em ds Γ≠.ex x Γ'
 |[],_,_,_=>λh=>by cases h
 |d::r,Γ,x,Γ'=>λh=>by
   unfold mB at h;split at h
   .split at h<;>cases h
   .cases h
theorem WL(hi:tU EN ios wi cf)(hi1:i1<own)(hc:jX EN ios tc p1)(he:ιb)
 (s:fC A ios R3 H3 oY fw R6 H6 bF oR) (sh:∀b,Ow bF oR b->Ow oY fw b) (m5:bF[i1]?=some none) (hA:H6 A=some γ3) (hR:R6 A=none) (nO:¬Ow oY fw A) (hys:aH R6 ys gR) (hrun:M.bind cf ζR oR=.ok zs bW) (hlen:gR.length+zs.length<sizeLine)
 (k:∀ys' R' H',fC A ios R3 H3 oY fw R' H' bF bW->(∀b,Ow bF bW b->Ow oY fw b)->R' A=none->H' A=some θH->aH R' ys' (gR++zs)->K ys' H'):BW i1 (i1+1) wi (kW i1) tc tw (u7 te) bF H6 A ys K:=by
 refine⟨λk v h1 h2 z=>?_,?_⟩
 .obtain rfl:k=i1:=by omega
  rw[m5]at z;cases z
 have WM:i1<bF.length:=(qad.mp m5).1
 have yy:∀v:Option V,(bF.set i1 v).set i1 none=bF:=λv=>by rw[List.set_set];have:=qad.mp m5;rw[<-this.2,qbB]
 obtain⟨kh,La,q7,hrun⟩:=t9 hrun;refine hi bF H6 R6 oR _ s.er ?_;rw[q7];refine oN λJ H7 R7 p7 hJ=>?_;have s7:=s.trans p7.fW;have MI:¬Ow bF oR A:=λz=>nO (sh A z);have Ek:H7 A=some γ3:=p7.go.hh _ _ hA MI;have WN:R7 A=none:=p7.go.no _ _ hA MI hR
 refine⟨Ek,λi n ud H8=>n=kh.length-i/\i<=kh.length/\∃R8 iB nc zr,fC A ios R3 H3 oY fw R8 H8 bF iB/\(∀b,Ow bF iB b->Ow oY fw b)/\ah R7 R8/\R8 A=none/\mz i1 (gN i1) p1 f (kh.drop i) iB=.ok zr bW/\nc++zr=zs/\aH R8 ud (gR++nc),
  ⟨kh.length,rfl,qaW _,R7,La,[],zs,s7,λb z=>sh b (p7.sh b z),ah.refl _,WN,hrun,rfl,by rw[qbk];exact hys.sm p7.go.rr⟩,?_⟩
 rintro i n ud H8 yz ⟨rfl,hi',R8,iB,nc,zr,s8,sq,F0,yA,bP,hzs,qW⟩;obtain⟨go,stop⟩:=hJ i H8 R8 F0 s8.er.sub;have El:¬Ow bF iB A:=λz=>nO (sq A z);by_cases hlt:i<kh.length
 .have hd:kh[i]?=some kh[i]:=qah hlt;obtain⟨g1,g2⟩:=go _ hd;rw[qby hlt]at bP;refine .inr ⟨g1,?_,λx H9 hx=>?_⟩
  .show ud.length<sizeLine;rw[qW.len,qaq];have:nc.length<=zs.length:=by rw[<-hzs,qaq];omega
   omega
  obtain⟨R9,al,rx⟩:=g2 x H9 hx;unfold mz at bP
  have run:cz (nR (gN i1) p1 f kh[i] iB) (λy ue=>∃fX,mz i1 (gN i1) p1 f (kh.drop (i+1)) (ue.set i1 none)=.ok fX bW/\y.toList++fX=zr) xR:=by
   cases q:nR (gN i1) p1 f kh[i] iB with
   |ok y ue =>
     rw[q]at bP;dsimp only at bP;cases q':mz i1 (gN i1) p1 f (kh.drop (i+1)) (ue.set i1 none) with
     |ok fX Γ'=>rw[q']at bP;cases bP;exact⟨fX,q',rfl⟩
     |ex _ _=>rw[q']at bP;cases bP
     |st=>rw[q']at bP;cases bP
   |ex _ _=>rw[q]at bP;cases bP
   |st=>rw[q]at bP;cases bP
  have F1:ER ios R9 H9 bF iB:=s8.er.al al;have s9:fC A ios R3 H3 oY fw R9 H9 bF iB:=s8.trans ⟨F1,al.go⟩;have MJ:H9 A=some (.lst ud):=al.hh _ _ yz;have WO:R9 A=none:=al.no _ _ yz yA;have ps:br ios R9 H9 bF iB R9 H9 ε8 (iB.set i1 (some (.ae,kh[i]))):=br.set F1 (bf.refl F1) (s:=(.ae,kh[i])) rx λz=>by cases z
  have F5:∀b,Ow ε8 (iB.set i1 (some (.ae,kh[i]))) b->Ow bF iB b:=λb z=>(K2 z).elim id λq=>by cases q.1
  unfold nR at run;rw[aC]at run;have run:=sf (a:=()) (Γ:=iB.set i1 (some (.ae,kh[i]))) (vo run);rw[aC]at run;show tc ε8 H9 _;refine hc _ H9 R9 _ _ ps.er (a6 run (λb uf run H10 vM qh=>?_) λ_ _ z=>z.elim);have yB:=ps.trans qh.fW;have ug:¬Ow ε8 (iB.set i1 (some (.ae,kh[i]))) A:=λz=>El (F5 A z);have uh:H10 A=some (.lst ud):=qh.go.hh _ _ MJ ug;have yC:vM A=none:=qh.go.no _ _ MJ ug WO;have ui:ah R8 vM:=al.rr.trans qh.go.rr;cases b with
  |false =>
    simp only[Bool.false_eq_true,if_false]at run ⊢;obtain⟨fX,e1,e2⟩:=sf run;have pf:br ios vM H10 _ _ vM H10 bF (uf.set i1 none):=br.forget qh.er;refine⟨uh,_,Nat.sub_lt_sub_left hlt (qa3 i),rfl,hlt,vM,_,nc,fX,s9.trans (yB.trans pf),λb z=>sq b (F5 b (qh.sh b (FZ z))),F0.trans ui,yC,e1,by rw[<-hzs,<-e2];rfl,qW.sm ui⟩
  |true =>
    simp only[if_true]at run ⊢;rw[aC]at run;show te ε8 H10 _;refine he _ H10 vM uf _ qh.er (a6 run (λrv WQ run y F6 R11 WR hy=>?_) λ_ _ z=>z.elim);rw[aC]at run;obtain⟨dy,yD,yE,jZ,_,ry,run⟩:=mS qh.er WR hy run;obtain⟨fX,e1,e2⟩:=sf run;have e2:dy::fX=zr:=e2;have yF:¬Ow ε8 uf A:=λz=>ug (qh.sh A z);have F7:F6 A=some (.lst ud):=jZ.go.hh _ _ uh yF;have yG:yE A=none:=jZ.go.no _ _ uh yF yC;have pf:br ios yE F6 _ _ yE F6 bF (yD.set i1 none):=br.forget jZ.er;have s12:=s9.trans ((yB.trans jZ.fW).trans pf);have yH:∀b,Ow bF (yD.set i1 none) b->Ow oY fw b:=λb z=>sq b (F5 b (qh.sh b (jZ.sh b (FZ z))));have yI:ah R8 yE:=ui.trans jZ.go.rr;refine⟨F7,_,Nat.sub_lt_sub_left hlt (qa3 i),rfl,hlt,yE,_,nc++[dy],fX,s12.oZ yG (λz=>nO (yH A z)),yH,F0.trans yI,yG,e1,by rw[<-hzs,<-e2];simp,?_⟩;rw[<-List.append_assoc];exact(qW.sm yI).app (.cons ry .nil)
 .have e:kh.drop i=[]:=List.drop_eq_nil_of_le (by omega);rw[e]at bP;have bP:Res.ok [] iB=Res.ok zr bW:=bP;cases bP;rw[qbk]at hzs;subst hzs;exact .inl ⟨stop (by omega),k ud R8 H8 s8 sq yA yz qW⟩
theorem WS(hn:fr.Nodup)(h01:own0<=i1)(hi1:i1<own)(hi:ηw)(hg:j8 ios own0 gt m)(hk:nQ own0 m)(hc:jX EN ios tc p)(hin:tU EN ios BX cf)(hc1:jX EN ios BY p1)(he:ιb) :
 iy EE ios (AW fr own wi gt tc (λ_=>True) (BW i1 (i1+1) BX (kW i1) BY tw (u7 te))) ιc:=by
 intro σ H R Γ Q er w;unfold yx at w;rw[aC]at w;refine hi σ H R Γ _ er (a6 w (λds ai w J H1 R1 pp hJ=>?_) λ_ _ z=>z);rw[aC]at w;generalize hem:uc m p cf ζR=em at w;cases hall:mB fr own em ds ai with
 |ex _ _=>exact absurd hall (WK _ _ _ _)
 |st=>rw[hall]at w;exact False.elim w
 |ok sj qJ =>
 rw[hall]at w;have w:=sf w;split at w
 .rename_i hsz;have w:∀x H' R',bf ios R H σ Γ R' H' qJ->gP R' H H' σ x (.new (.lst sj))->Q x H':=w;intro A hA;have Eh:R1 A=none:=pp.er.sub.free hA;have Ei:Al R1 H1 R1 (upd H1 A (.lst [])):=⟨pp.er.sub.trans (lJ hA),ah.refl _,lJ hA,λ_ _ _ z=>z⟩;have F8:H A=none:=pp.back er A hA
  have xW:¬Ow σ Γ A:=λz=>by obtain⟨_,xs,q⟩:=er.ow z;rw[F8]at q;cases q
  refine⟨λi n ys H2=>n=ds.length-i/\i<=ds.length/\∃R2 ao gR zr,bf ios R H σ Γ R2 H2 ao/\ah R1 R2/\R2 A=none/\mB fr own em (ds.drop i) ao=.ok zr qJ/\gR++zr=sj/\aH R2 ys gR,
   ⟨ds.length,rfl,qaW _,R1,ai,[],sj,pp.al Ei,ah.refl _,Eh,hall,rfl,.nil⟩,?_⟩
  rintro i n ys H2 tV ⟨rfl,hi',R2,ao,gR,zr,p2,s2,oO,hL,hys,hrs⟩;obtain⟨go,stop⟩:=hJ i H2 R2 s2 p2.er.sub;by_cases hlt:i<ds.length
  .have hd:ds[i]?=some ds[i]:=qah hlt;obtain⟨g1,g2⟩:=go _ hd;rw[qby hlt]at hL;refine .inr ⟨g1,trivial,λx H3 hx=>?_⟩;obtain⟨R3,al,rx⟩:=g2 x H3 hx;unfold mB at hL;have p3:bf ios R H σ Γ R3 H3 ao:=p2.al al;have sk:H3 A=some γ3:=al.hh _ _ tV;have oP:R3 A=none:=al.no _ _ tV oO;have Ej:ER ios R3 H3 γq γz:=p3.er.blk hn;have j9:¬Ow γq γz A:=λz=>xW (p3.sh A z.blk);have WT:¬Ow σ ao A:=λz=>xW (p3.sh A z)
   obtain⟨zs,bW,fX,q1,q2,q3⟩:∃zs bW fX,em ds[i] γz=.ok zs bW/\mB fr own em (ds.drop (i+1)) ζU=.ok fX qJ/\zs++fX=zr:=by
    cases q:em ds[i] γz with
    |ok zs bW =>
      rw[q]at hL;dsimp only at hL;cases q':mB fr own em (ds.drop (i+1)) ζU with
      |ok fX Γ'=>rw[q']at hL;cases hL;exact⟨zs,bW,fX,rfl,q',rfl⟩
      |ex _ _=>rw[q']at hL;cases hL
      |st=>rw[q']at hL;cases hL
    |ex _ _=>rw[q]at hL;cases hL
    |st=>rw[q]at hL;cases hL
   have back:∀{ys':γB}{R8 H8:Hp}{bF:St},fC A ios R3 H3 γq γz R8 H8 bF bW->(∀k,own<=k->bF[k]?=(ar fr own σ)[k]?)->(∀b,Ow bF bW b->Ow γq γz b)->R8 A=none->H8 A=some θH->aH R8 ys' (gR++zs) ->
    ∃m',m'<ds.length-i/\(m'=ds.length-(i+1)/\i+1<=ds.length/\∃R2 ao gR zr,bf ios R H σ Γ R2 H8 ao/\ah R1 R2/\R2 A=none/\mB fr own em (ds.drop (i+1)) ao=.ok zr qJ/\gR++zr=sj/\aH R2 ys' gR):=λ{ys' R8 H8 bF} s8 keep sq yA yz F9=>by
    have MK:bf ios R H σ Γ R3 (upd H3 A θH) ao:=by have sp:br ios R H σ Γ R3 (upd H3 A θH) σ ao:=p3.fW.oZ F8 oP WT;exact⟨sp.er,sp.go,p3.sh⟩
    have pu:=bf.aW MK.er hn (s8.fix yz yA ⟨_,sk⟩) keep sq;exact⟨_,Nat.sub_lt_sub_left hlt (qa3 i),rfl,hlt,R8,_,gR++zs,fX,MK.trans pu,(s2.trans al.rr).trans s8.rr,yA,q2,by rw[List.append_assoc,q3];exact hys,F9⟩
   rw[<-hem]at q1;unfold uc at q1;obtain⟨u,mU,hm',q1⟩:=t9 q1
   have hm:m ds[i] γz=.ok () mU:=by
    unfold mv at hm';cases z:m ds[i] γz with
    |ok a Γ'=>rw[z]at hm';cases hm';rfl
    |ex _ _=>rw[z]at hm';cases hm'
    |st=>rw[z]at hm';cases hm'
   obtain⟨k1,k2⟩:=hk _ _ _ hm;refine hg γq H3 R3 γz x _ _ Ej rx ?_;rw[hm];refine oN λbF H4 R4 p4 keep s4=>?_
   have oQ:∀b,Ow bF mU b->Ow γq γz b:=by
    rintro b ⟨j,k,d,h1,h2,h3⟩;by_cases hj:own0<=j
    .rw[k1 j hj]at h1;rw[keep j hj]at h3;exact⟨j,k,d,h1,h2,h3⟩
    .rcases k2 j (k,d) (by omega) h1 with z|z
     .unfold bL at z;rw[Bc (by omega)]at z;cases z
     .cases z;cases h2
   obtain⟨b,oR,q6,q1⟩:=t9 q1;refine hc bF H4 R4 mU _ p4.er ?_;rw[q6];refine oN λH6 R6 p6=>?_;have p46:=p4.trans p6.fW;have xX:∀b,Ow bF oR b->Ow γq γz b:=λb z=>oQ b (p6.sh b z);have xY:H6 A=some γ3:=p46.go.hh _ _ sk j9;have qK:R6 A=none:=p46.go.no _ _ sk j9 oP;have ML:ah R2 R6:=al.rr.trans p46.go.rr;have kp:∀k,own<=k->bF[k]?=(ar fr own σ)[k]?:= λk hk'=>keep k (by omega);cases b with
   |false =>
     simp only[Bool.false_eq_true,if_false]at q1 ⊢;cases q1;exact⟨xY,back p46.toA kp xX qK xY (by rw[qbk];exact hrs.sm ML)⟩
   |true =>
     simp only[if_true]at q1 ⊢
     have m5:bF[i1]?=some none:=by rw[keep i1 h01];unfold ar;rw[Bc hi1]
     refine WL hin hi1 hc1 he p46.toA xX m5 xY qK j9 (hrs.sm ML) q1 ?_ λys' R' H' s' sh' hR' hA' hr'=>back s' kp sh' hR' hA' hr';have:gR.length+zs.length<=sj.length:=by rw[<-hys,<-q3,qaq,qaq];omega
     omega
  .have e:ds.drop i=[]:=List.drop_eq_nil_of_le (by omega);rw[e]at hL;have hL:Res.ok [] ao=Res.ok zr qJ:=hL;cases hL;rw[qbk]at hys;subst hys;exact .inl ⟨stop (by omega),w _ H2 R2 p2 ⟨⟨A,ys,gR,rfl,oO,tV,rfl,hrs⟩,A,rfl,F8⟩⟩
 .exact False.elim w
def WU(EE:bw)(ios:zzd)(f:M γd):TI:=λσ H Rk=>∃R Γ,ER ios R H σ Γ/\cz (f Γ) (λitems Γ'=>∀J H' R',bf ios R H σ Γ R' H' Γ'->vq J R' items->Rk J H') γU
theorem VI.pi(h:VI Y EE ios tg src items):PI Y tg src (WU EE ios items):=let ⟨_,h1,h2⟩:=h;λpins s σ H Rk I ⟨R,Γ,er,w⟩=>h1 pins s σ H Rk I (h2 σ H R Γ Rk er w)
theorem WV(hc:X.calm=true)(B:γP)(hn:fr.Nodup)(h01:own0<=i1)(hi1:i1<own)(hi:VI X EE ios tg src items)(hog:mO own gt)
 (hg:∀cl C s3 H3 fp pn',PG ζ tg gt) (hr:j8 ios own0 gt m) (hk:nQ own0 m) (ht:∀cl C s3 H3 fp pn',qM ζ EN ios ifs p)
 (hin:∀cl C s3 H3 fp pn',VI ζ EN ios gK bu cf) (hg1:∀cl C s3 H3 fp pn',PG ζ gK (kW i1)) (ht1:∀cl C s3 H3 fp pn',qM ζ EN ios cA p1)
 (he:∀cl C s3 H3 fp pn',VE ζ EN ios el f)
 (hs:∀x,foldedSetIterable src X.env x=pure x:=by intro _;rfl) (hs1:∀env x,foldedSetIterable bu env x=pure x:=by intro _ _;rfl):VE X EE ios (.ListComp el [⟨tg,src,ifs,0⟩,⟨gK,bu,cA,0⟩] scope pos) ιc:=
 let ⟨_,h1,h2⟩:=hi
 ⟨_,WJ hc B h1 hog (WH γO (qa3 _)) hg ht (λcl C s3 H3 fp pn'=>(hin cl C s3 H3 fp pn').pi) hg1 ht1 (λcl C s3 H3 fp pn'=>(he cl C s3 H3 fp pn').pe) hs hs1,WS hn h01 hi1 h2 hr hk (λσ H R Γ Q er w=>⟨R,Γ,er,w⟩) (λσ H R Γ Q er w=>⟨R,Γ,er,w⟩) (λσ H R Γ Q er w=>⟨R,Γ,er,w⟩) (λσ H R Γ Q er w=>⟨R,Γ,er,w⟩)⟩
end
end
end Dv
namespace Ex
open PySem PySem.Spec PyProof.Rows
noncomputable def bO(vs:zzh)(c:Nat):Obj:={cls:=.type "list",dict:=none,data:=.seq vs c,slots:= #[]}
section
variable{prog:Program}{w:World}{A:Around}{R:Result->Shared->Prop}{I:Addr}{fp wr:zzd}{n:Nat}{P:Nat->Value->Prop}{St:Nat->Heap->Prop}
theorem F_(mx:Bool):entryFor table (cond mx "max.loop" "min.loop")=some (cond mx Builtin.«max.loop» Builtin.«min.loop»):=by cases mx;exact PySem.F.entry_min_loop;exact PySem.F.entry_max_loop
theorem vN(mx:Bool):plainId (cond mx "max.loop" "min.loop")=true:=by cases mx;exact PySem.F.plain_min_loop;exact PySem.F.plain_max_loop
theorem WW(mx:Bool):entryFor table (cond mx "max" "min")=some (cond mx Builtin.«max» Builtin.«min»):=by cases mx;exact PySem.F.entry_min;exact PySem.F.entry_max
theorem WX(mx:Bool):plainId (cond mx "max" "min")=true:=by cases mx;exact PySem.F.plain_min;exact PySem.F.plain_max
theorem WY(mx:Bool):builtinKind (cond mx "max" "min")=none:=by cases mx;exact PySem.F.kind_min;exact PySem.F.kind_max
theorem nM:(toString "max" ++ toString ".loop":String) = "max.loop":= by decide
theorem nI:(toString "min" ++ toString ".loop":String) = "min.loop":= by decide
theorem WZ(mx:Bool)(W:Walks prog w A.in1 I fp wr n P St)(bt:Nat->Nat->Bool)(hcmp:θw)(S:Addr)(hSf:S∉fp)(kw:List (Str×Value)):∀(k j:Nat) (s:Shared) (vb:Value) (c:Nat),n-(j+1)=k->j+1<=n->St (j+1) s.heap->P (argBest bt j) vb->s.heap.get? S=some (bO #[vb,vb] c) ->
 (∀v h' tk,P (argBest bt (n-1)) v->(∀b o,b∉wr->b≠S->s.heap.get? b=some o->h'.get? b=some o)->R (.ok (.ret v)) {s with heap:=h',toks:=tk})->codeAny γ A (.builtin (cond mx "max.loop" "min.loop") ⟨[.ref I,.none,.ref S],kw⟩) R s:=by
 have hSw:S∉wr:=λz=>hSf (W.sub _ z);have qL:=plainId_quiet (vN mx);cases mx
 all_goals
  intro k
  induction k with
  |zero =>
    intro j s vb c hk hj st pb hS hR;obtain rfl:n=j+1:=by omega
    refine qbK (F_ _) ?_;rw[qbs (vN _) _];show wpAny _ A.in1 (seqItems? (Value.ref S) >>= _) _ _ s;refine qaa (wpAny_seqItems hS rfl (show wpAny _ A.in1 (tryCatch ζk _ >>= _) _ _ s from qaa (wpAny_tryCatch (W.done s _ _ st λh1 tk k1=>?_))));have S1:=k1 S _ hSw hS;refine(show wpAny _ A.in1 (updateSeq S (λ_ => #[]) >>= _) _ _ _ from qaa (wpAny_updateSeq S1 rfl (qaa (wpAny_letGo (qac (hR vb _ tk pb λb o hb hn e=>?_))))));rw[qaA _ _ (qaR hn)];exact k1 b o hb e
  |succ k ih =>
    intro j s vb c hk hj st pb hS hR;have lt:j+1<n:=by omega
    refine qbK (F_ _) ?_;rw[qbs (vN _) _];show wpAny _ A.in1 (seqItems? (Value.ref S) >>= _) _ _ s;refine qaa (wpAny_seqItems hS rfl (show wpAny _ A.in1 (tryCatch ζk _ >>= _) _ _ s from qaa (wpAny_tryCatch (W.item (j+1) s _ _ lt st λv h1 tk pv st1 k1=>?_))));have S1:=k1 S _ hSw hS;refine(show wpAny _ A.in1 (tryCatch (holding [v,v] (richCompare _ v vb >>= _)) _ >>= _) _ _ _ from qaa (wpAny_tryCatch (qaV (qaa (hcmp (j+1) (argBest bt j) v vb _ _ _ pv pb ?_)))));refine qaa (qaV (qbn (qaa (wpAny_letGo (qac ?_)))));cases hb:bt (j+1) (argBest bt j) with
    |true =>
      rw[qaF rfl];refine qaa (wpAny_updateSeq S1 rfl (qaa (wpAny_letGo ?_)))
      first|rw[nM]|rw[nI]
      refine qac ⟨qL _,ih (j+1) _ v _ (by omega) lt (W.frame _ _ _ st1 λb hf o e=>?_) (by unfold argBest;rw[hb,if_pos rfl];exact pv) (qbz _ S1 rfl) λv2 h2 tk2 p2 k2=>hR v2 h2 tk2 p2 λb o hw hn e=>k2 b o hw hn ?_⟩
      .rw[qaA _ _ (λz:S=b=>hSf (by rw[z];exact hf))];exact e
      .rw[qaA _ _ (qaR hn)];exact k1 b o hw e
    |false =>
      rw[qaC qas];refine qaa (wpAny_letGo ?_)
      first|rw[nM]|rw[nI]
      exact qac ⟨qL _,ih (j+1) _ vb c (by omega) lt st1 (by unfold argBest;rw[hb,if_neg Bool.false_ne_true];exact pb) S1 λv2 h2 tk2 p2 k2=>hR v2 h2 tk2 p2 λb o hw hn e=>k2 b o hw hn (k1 b o hw e)⟩
theorem W0(mx:Bool)(W:Walks prog w A.in1 I fp wr n P St)(bt:Nat->Nat->Bool)(hcmp:θw)(S:Addr)(hSf:S∉fp)(y:Str)(d:Value){s:Shared}{c:Nat}(st:St 0 s.heap)(hS:s.heap.get? S=some (bO #[] c))
 (hR:∀v h' tk,(0<n->P (argBest bt (n-1)) v)->(n=0->v=d)->(∀b o,b∉wr->b≠S->s.heap.get? b=some o->h'.get? b=some o)->R (.ok (.ret v)) {s with heap:=h',toks:=tk}):codeAny γ A (.builtin (cond mx "max.loop" "min.loop") ⟨[.ref I,.none,.ref S],[(y,d)]⟩) R s:=by
 have hSw:S∉wr:=λz=>hSf (W.sub _ z);have qL:=plainId_quiet (vN mx);cases mx
 all_goals
  refine qbK (F_ _) ?_
  rw[qbs (vN _) _]
  show wpAny _ A.in1 (seqItems? (Value.ref S) >>= _) _ _ s
  refine qaa (wpAny_seqItems hS rfl ?_)
  rcases Nat.eq_zero_or_pos n with rfl|hn
  .refine(show wpAny _ A.in1 (tryCatch ζk _ >>= _) _ _ s from qaa (wpAny_tryCatch (W.done s _ _ st λh1 tk k1=>?_)))
   exact(show wpAny _ A.in1 (rule _ >>= λ_=>ret d) _ _ _ from qaa (wpAny_rule (qac (hR d h1 tk (λz=>absurd z θm) (λ_=>rfl) λb o hb _ e=>k1 b o hb e))))
  .refine(show wpAny _ A.in1 (tryCatch ζk _ >>= _) _ _ s from qaa (wpAny_tryCatch (W.item 0 s _ _ hn st λv h1 tk pv st1 k1=>?_)))
   have S1:=k1 S _ hSw hS
   refine(show wpAny _ A.in1 (updateSeq S (λ_ => #[v,v]) >>= _) _ _ _ from qaa (wpAny_updateSeq S1 rfl ?_))
   first|rw[nM]|rw[nI]
   refine qac ⟨qL _,WZ _ W bt hcmp S hSf _ _ 0 _ v _ rfl hn (W.frame _ _ _ st1 λb hf o e=>?_) pv (qbz _ S1 rfl) λv2 h2 tk2 p2 k2=>hR v2 h2 tk2 (λ_=>p2) (λz=>absurd hn (by rw[z];exact qa2 _)) λb o hw hn' e=>k2 b o hw hn' ?_⟩
   .rw[qaA _ _ (λz:S=b=>hSf (by rw[z];exact hf))];exact e
   .rw[qaA _ _ (qaR hn')];exact k1 b o hw e
theorem qX(mx:Bool){l:Addr}{xs:Array (Int×Tok)}{d:Value}{E:T0}{s:Shared}{Q:T0}(hh:A.handled=none)(hl:s.heap.IsList l (intItems xs))
 (h:∀v h' tk,(0<xs.size->(intItems xs)[argBest (λi j=>cond mx (decide (numAt xs i>numAt xs j)) (decide (numAt xs i<numAt xs j))) (xs.size-1)]?=some v)->(xs.size=0->v=d)->(∀b o,s.heap.get? b=some o->h'.get? b=some o)->Q v {s with heap:=h',toks:=tk}) :
 wpAny γ A (call (.builtin (cond mx "max" "min")) [.ref l] [("default",d)]) Q E s:=by
 have qL:=plainId_quiet (vN mx);have hc:CmpOf prog w A.in1 (cond mx .Gt .Lt) (λi v=>(intItems xs)[i]?=some v) (λi j=>cond mx (decide (numAt xs i>numAt xs j)) (decide (numAt xs i<numAt xs j))):=by cases mx;exact CmpOf.ints_lt (numAt xs) (λ_ _=>intItems_at);exact CmpOf.ints_gt (numAt xs) (λ_ _=>intItems_at)
 have ok:argsOk (cond mx "max" "min") ⟨[.ref l],[("default",d)]⟩:=by unfold argsOk;cases mx<;>kernel_rfl
 refine wpAny_call (qbD (WX mx) (WW mx) ?_)
 have body:wpAny γ A.in1 ((cond mx Builtin.«max» Builtin.«min») ⟨[.ref l],[("default",d)]⟩) (λfin s'=>match fin with
  |.done f=>(match (Except.ok f:Result) with|.ok (.ret v)=>Q v s'|.ok _=>False|.error e=>E e s')
  |.again c'=>c'.quiet=true/\codeAny γ A c' (λr s'=>match r with|.ok (.ret v)=>Q v s'|.ok _=>False|.error e=>E e s') s') E s:=by
  cases mx
  all_goals
   refine(show wpAny _ A.in1 (Builtin.Builtins.bindParams _ ["key","default"] 0 ⟨[],[("default",d)]⟩ >>= _) _ _ s from qaa (wpAny_of_eq (show Builtin.Builtins.bindParams _ ["key","default"] 0 ⟨[],[("default",d)]⟩=pure [none,some d] from rfl) ?_))
   refine qaa (qac (qaa (iter_intList hl λs2 e st fp lI=>?_)))
   subst e
   refine qaa (qaJ ?_)
   first|rw[nM]|rw[nI]
   refine qac ⟨qL _,W0 _ (W:=Walks.list (A:=A.in1) hh _ l lI (intItems xs)) _ hc _ (λz=>absurd (fp _ z) θm) "default" d (Walks.frame (Walks.list (prog:=prog) (w:=w) (A:=A.in1) hh _ l lI (intItems xs)) _ _ _ st λb _ o e=>qab _ e) (qao _ rfl) λv h2 tk p0 p1 k2=>?_⟩
   have sz:(intItems xs).size=xs.size:=by simp[intItems]
   rw[sz]at p0 p1
   exact h v h2 tk p0 p1 (old_kept λb o hb e=>k2 b o hb (λz=>by rw[z]at e;exact absurd ζ1 θm) ιe)
 simp only[checkBuiltinCall,WY];cases sg:Manifest.signature? (cond mx "max" "min") with
 |none=>exact qac body
 |some sig =>
   have ok':Bind.checkArgs (cond mx "max" "min") sig ⟨[.ref l],[("default",d)]⟩=pure ():=by simpa only [argsOk,sg]using ok
   simp only[ok'];exact qac body
end
end Ex
namespace L2
open PySem PySem.Spec PyProof.Rows Ex
section
variable{X:Cx}{e e2:Expr}{te Ga:TE}{p pos kp:Pos}
def BZ(mx:Bool):R2:=λx y H Q=>∃(p:Addr) (ns:u8) (i:Int),x=.ref p/\y=.int i/\H p=some ηM/\(ns=[]->Q γT H)/\∀M∈ns,(∀a∈ns,cond mx (a<=M) (M<=a))->Q (.int M) H
theorem MM(mx:Bool)(calm:X.calm=true)(hg:Gl X (cond mx "max" "min"))(hm:X.mg (cond mx "max" "min")=none)(ha:ζO)(hd:PE X e2 Ga)(hs:starEach [e] X.env=[(false,eval e X.env)]:=by rfl)(hw:keywordEach [⟨some "default",e2,kp⟩] X.env=[(some (Str.ofString "default"),eval e2 X.env)]:=by rfl) :
 PE X (.Call (.Name (cond mx "max" "min") p) [e] [⟨some "default",e2,kp⟩] pos) (uX (BZ mx) te Ga):=by
 intro pins s σ H Q I h;refine qbr (sV I hg hm (show bootBuiltins (cond mx "max" "min")=some (.builtin (cond mx "max" "min")) by cases mx<;>decide +kernel) ?_ (by cases mx<;>decide) (by cases mx<;>decide));refine callWith_kw (aK ((jU ha oh hs) pos pins s σ H (λvs H1=>match vs with|[x]=>Ga σ H1 λy H2=>(BZ mx) x y H2 Q|_=>False) I h) λus s1 zq=>?_) (by rw[hs];rfl) (by rw[hs];rfl) (by rw[hw];rfl) (by rw[hw];rfl);obtain⟨vs,H1,I1,r1,q1⟩:=zq;rw[hw]
 match vs,q1 with
 |[x],q1 =>
   obtain⟨u,rfl,ru⟩:=r1.one;refine(show wpAny _ _ (evalAll [(do let v <-eval e2 X.env;standAt pos;pure v)]) _ _ _ from evalAll_cons (qaa (aK (hd pins s1 σ H1 _ I1 q1) λd s2 zq=>?_)));obtain⟨y,H2,I2,ry,q2⟩:=zq;refine qaa (qbe (qac (evalAll_nil ?_)));obtain⟨p,ns,i,rfl,rfl,hH,k0,k1⟩:=q2;cases ru;obtain⟨t,rfl⟩:=ry;obtain⟨z,its,n,rv,hl,eo⟩:=I2.bc hH;obtain⟨ps,e1,rfl⟩:=Kt rv;refine(show wpAny _ _ (call (.builtin (cond mx "max" "min")) [Value.ref p] [(Str.ofString "default",Value.int i t)]) _ _ _ from Ex.qX mx (xs:=ps) (I2.ok.hd calm) ⟨_,eo,rfl,_,by rw[e1]⟩ λv h' tk p0 p1 kp=>?_);by_cases hz:ps.size=0
   .rw[p1 hz];exact⟨.int i,H2,I2.kept kp,⟨t,rfl⟩,k0 (by rw[List.map_eq_nil_iff];exact List.eq_nil_of_length_eq_zero (by simpa using hz))⟩
   .obtain⟨tk2,rfl⟩:=intItems_at (p0 (Nat.pos_of_ne_zero hz))
    have B:argBest (λi j=>cond mx (decide (numAt ps i>numAt ps j)) (decide (numAt ps i<numAt ps j))) (ps.size-1)<=ps.size-1/\∀j,j<=ps.size-1->cond mx (numAt ps j<=numAt ps (argBest (λi j=>cond mx (decide (numAt ps i>numAt ps j)) (decide (numAt ps i<numAt ps j))) (ps.size-1))) (numAt ps (argBest (λi j=>cond mx (decide (numAt ps i>numAt ps j)) (decide (numAt ps i<numAt ps j))) (ps.size-1))<=numAt ps j):=by
     cases mx
     .exact argBest_lt (numAt ps) (ps.size-1)
     .exact argBest_gt (numAt ps) (ps.size-1)
    refine⟨.int _,H2,I2.kept kp,⟨tk2,rfl⟩,k1 _ ?_ λa ha=>?_⟩
    .rw[numAt_eq];refine PySem.getD_mem ?_;rw[qaf,qaz];have:=B.1;omega
    .obtain⟨j,lt,rfl⟩:=mem_getD ha;rw[qaf,qaz]at lt;have:=B.2 j (by omega);rwa[numAt_eq ps j]at this
abbrev W2:=BZ true
abbrev W3:=BZ false
def Gb(K:zze):R2:=λx y H Q=>∃p xs d ds,y=.ref p/\b8 K H p xs/\bQ H x d/\cB H xs ds/\SeqAt.shaped d=true/\ds.all SeqAt.shaped=true/\Q (.bl (!ds.any λe=>PyData.eqv e d)) H
theorem Gd(hr:γX):b_ X ηq (Gb X.K):=by
 intro pins s σ H x y v u Q I rx ry h;obtain⟨p,xs,d,ds,rfl,hq,dx,sA,sd,yq,q⟩:=h;cases ry;obtain⟨its,r,pl,hz⟩:=I.list hq;obtain⟨as,rv⟩:=dx.reads I.hok rx;have hu:X.A.in1.units+64<cLine:=by have:=hr.un;show X.A.units+1+64<_;omega
 refine SeqAt.notIn_listAt ηo pl.isList (λw hw=>FE I.hok rv sd hu r sA yq w (by simpa using hw)) ⟨.bl _,H,I,rfl,?_⟩;rw[show its.toArray.any ηo=its.any ηo by simp,FD r sA];exact q
end
end L2
namespace Dv
open PySem L2 Ex
variable[KC]
section
variable{X:Cx}{EE:bw}{ios:zzd}{e e2:Expr}{f g:M RV}{p pos kp:Pos}
def o3(mx:u8->Int)(d e:D):Option RV:=match d,e with
 |.lst ds,.int i=>match iA ds with
   |some []=>some (.val γT)
   |some ns=>some (.val (.int (mx ns)))
   |none=>none
 |_,_=>none
theorem W4:dI W2 (o3 fZ):=by
 intro R H x y d e rv Q s px py hg q;unfold o3 at hg;split at hg
 .split at hg
  .rename_i h;cases hg;obtain⟨a,ys,rfl,h1,h2⟩:=px.lst s;rw[nN h]at h2;rw[h2.cU]at h1;exact⟨a,[],_,rfl,py.int,h1,λ_=>q _ H R γi δY,λM hM=>nomatch hM⟩
  .rename_i ns hne h;cases hg;obtain⟨a,ys,rfl,h1,h2⟩:=px.lst s;rw[nN h]at h2;rw[h2.cU]at h1;refine⟨a,ns,_,rfl,py.int,h1,λz=>absurd z hne,λM hM hle=>?_⟩;obtain⟨m1,m2⟩:=Et (ns:=ns) hne;rw[show M=fZ ns from Int.le_antisymm (m2 M hM) (hle _ m1)];exact q _ H R γi δY
  .cases hg
 .cases hg
theorem W5:dI W3 (o3 mw):=by
 intro R H x y d e rv Q s px py hg q;unfold o3 at hg;split at hg
 .split at hg
  .rename_i h;cases hg;obtain⟨a,ys,rfl,h1,h2⟩:=px.lst s;rw[nN h]at h2;rw[h2.cU]at h1;exact⟨a,[],_,rfl,py.int,h1,λ_=>q _ H R γi δY,λM hM=>nomatch hM⟩
  .rename_i ns hne h;cases hg;obtain⟨a,ys,rfl,h1,h2⟩:=px.lst s;rw[nN h]at h2;rw[h2.cU]at h1;refine⟨a,ns,_,rfl,py.int,h1,λz=>absurd z hne,λM hM hle=>?_⟩;obtain⟨m1,m2⟩:=Lj (ns:=ns) hne;rw[show M=mw ns from Int.le_antisymm (hle _ m1) (m2 M hM)];exact q _ H R γi δY
  .cases hg
 .cases hg
theorem W6(calm:X.calm=true)(hg:Gl X "max")(hm:X.mg "max" = none)(ha:γR)(hb:VE X EE ios e2 g)(hs:starEach [e] X.env=[(false,eval e X.env)]:=by rfl)(hw:keywordEach [⟨some "default",e2,kp⟩] X.env=[(some (Str.ofString "default"),eval e2 X.env)]:=by rfl) :
 VE X EE ios (.Call (.Name "max" p) [e] [⟨some "default",e2,kp⟩] pos) (op2 (o3 fZ) f g):=
 let ⟨_,h1,h2⟩:=ha;let ⟨_,h3,h4⟩:=hb; ⟨_,MM true calm hg hm h1 h3 hs hw,vc W4 h2 h4⟩
theorem W7(calm:X.calm=true)(hg:Gl X "min")(hm:X.mg "min" = none)(ha:γR)(hb:VE X EE ios e2 g)(hs:starEach [e] X.env=[(false,eval e X.env)]:=by rfl)(hw:keywordEach [⟨some "default",e2,kp⟩] X.env=[(some (Str.ofString "default"),eval e2 X.env)]:=by rfl) :
 VE X EE ios (.Call (.Name "min" p) [e] [⟨some "default",e2,kp⟩] pos) (op2 (o3 mw) f g):=
 let ⟨_,h1,h2⟩:=ha;let ⟨_,h3,h4⟩:=hb; ⟨_,MM false calm hg hm h1 h3 hs hw,vc W5 h2 h4⟩
def qi(d e:D):Option RV:=match e with
 |.lst xs=>if cV d&&xs.all cV then some (.val (.bl (!xs.any λe=>eqB e d))) else none
 |_=>none
theorem Ge:dI (Gb K) qi:=by
 intro R H x y d e rv Q s px py hg q;unfold qi at hg;split at hg
 .rename_i ds;split at hg
  .rename_i c;rw[qay]at c;cases hg;obtain⟨p,xs,rfl,h1,h2⟩:=py.lst s;refine⟨p,xs,d.py,ds.map D.py,rfl,b8.of h1,(px.hv s).dat (rQ c.1),FI (h2.sm s) c.2,c.1,?_,?_⟩
   .rw[List.all_map];exact c.2
   .rw[List.any_map];exact q _ H R γi εN
  .cases hg
 .cases hg
noncomputable def B0(ds es:γd):Option (List D×D):=match es with
 |[.lst zs]=>if ds.length+zs.length<=sizeLine then some (ds++zs,.ax) else none
 |_=>none
theorem W8:A8 JS B0:=by
 intro R H p xs ds ys es ds' res Q s hr hp hx hy hg q;unfold B0 at hg;split at hg
 .split at hg
  .rename_i c;cases hg;cases hy with
   |cons h1 h2 =>
     cases h2;cases h1 with
     |lst e hz=>exact⟨p,_,xs,_,rfl,rfl,hp,s _ _ e,by rw[hx.len,hz.len];exact c,q _ _ (hx.app hz) .ax⟩
  .cases hg
 .cases hg
end
end Dv
namespace Dv
open PySem L2 Ex
section
variable{Γ:En}{f:M RV}{p p1:δN}{m m1:D->M Unit}{items cf:M γd}{fr:zzc}{own i1:Nat}{d:D}
@[simp] theorem W9{ds zs:γd}(h:ds.length+zs.length<=sizeLine):B0 ds [.lst zs]=some (ds++zs,.ax):=by show(if _ then _ else _)=_;rw[qaF h]
@[simp] theorem B1:yx items fr own em Γ=M.bind items (λds=>M.bind (mB fr own em ds) λys=>if ys.length<sizeLine then M.pure (.new γ3) else M.st) Γ:=(rfl)
theorem W_:o3 mx (.lst ((n::r).map D.int)) γT=some (.val (.int (mx (n::r)))):=by show(match iA ((n::r).map D.int) with|some []=>_|some ns=>_|none=>_)=_;rw[vj]
end
end Dv
namespace L2
open PySem Ex
section
variable{X:Cx}
def MN(K:PySem.W.Frag):R2:=λx y H Q=>∃p xs d ds,y=.ref p/\iw K H p xs/\bQ H x d/\cB H xs ds/\SeqAt.shaped d=true/\ds.all SeqAt.shaped=true/\Q (.bl (!ds.any λe=>PyData.eqv e d)) H
theorem MO(hr:γX):b_ X ηq (MN X.K):=by
 intro pins s σ H x y v u Q I rx ry h;obtain⟨p,xs,d,ds,rfl,hq,dx,sA,sd,yq,q⟩:=h;cases ry;obtain⟨its,r,pl,hz⟩:=I.tuple hq;obtain⟨as,rv⟩:=dx.reads I.hok rx;have hu:X.A.in1.units+64<cLine:=by have:=hr.un;show X.A.units+1+64<_;omega
 refine SeqAt.notIn_tupleAt ηo pl (λw hw=>FE I.hok rv sd hu r sA yq w (by simpa using hw)) ⟨.bl _,H,I,rfl,?_⟩;rw[show its.toArray.any ηo=its.any ηo by simp,FD r sA];exact q
end
end L2
namespace Dv
open PySem L2 Ex
variable[KC]
def vO(d e:D):Option RV:=match e with
 |.tup xs=>if cV d&&xs.all cV then some (.val (.bl (!xs.any λe=>eqB e d))) else none
 |_=>none
theorem MP:dI (MN K) vO:=by
 intro R H x y d e rv Q s px py hg q;unfold vO at hg;split at hg
 .rename_i ds;split at hg
  .rename_i c;rw[qay]at c;cases hg;obtain⟨p,xs,rfl,h1,h2⟩:=py.tup;refine⟨p,xs,d.py,ds.map D.py,rfl,iw.of θA,(px.hv s).dat (rQ c.1),FI (h2.sm s) c.2,c.1,?_,?_⟩
   .rw[List.all_map];exact c.2
   .rw[List.any_map];exact q _ H R γi εN
  .cases hg
 .cases hg
end Dv
namespace L2
open PySem PySem.W PyProof.Rows Ex
open PySem.SeqAt MeetsSeq
section
variable(l b:Addr)(its:zzh)(n:Nat)(dd de:γ8)(da:Data)(sl sm:ηk)
theorem MQ:isSubtype (.type "tuple") (.type "dict")=pure false:=by rw[isSubtype_type];kernel_rfl
theorem MR:isSubtype (.type "dict") (.type "tuple")=pure false:=by rw[isSubtype_type];kernel_rfl
noncomputable abbrev MS:Obj:={cls:=.type "dict",dict:=de,data:=da,slots:=sm}
noncomputable abbrev MT:Obj:={cls:=.type "tuple",dict:=dd,data:=.seq its n,slots:=sl}
theorem MU:Meets (Builtin.«dict.__eq__» ⟨[.ref l,.ref b],[]⟩) (λ_ R s=>s.heap.get? l=some (MS de da sm)/\s.heap.get? b=some (MT its n dd sl)/\R (.ok (.ret .notImplemented)) s):=
 .of_wp λprog w A R s h=>by obtain⟨hp,g,d,tk,os⟩:=s;obtain⟨hl,hb,h⟩:=h;have f1:=MQ;wp_walk using wpAny_loadPart' hl,wpAny_loadPart' hb;exact⟨_,rfl,h⟩
theorem MV:Meets (Builtin.«tuple.__eq__» ⟨[.ref l,.ref b],[]⟩) (λ_ R s=>s.heap.get? l=some (MT its n dd sl)/\s.heap.get? b=some (MS de da sm)/\R (.ok (.ret .notImplemented)) s):=
 .of_wp λprog w A R s h=>by obtain⟨hp,g,d,tk,os⟩:=s;obtain⟨hl,hb,h⟩:=h;have f1:=MR;wp_walk using wpAny_loadPart' hl,wpAny_loadPart' hb;exact⟨_,rfl,h⟩
end
variable{X:Cx}
def MW:R2:=λx y H Q=>∃a b xs,x=.ref a/\y=.ref b/\H a=some (.dK [])/\H b=some γN/\Q ζy H
theorem Xa(hr:γX):b_ X ζ2 MW:=by
 intro pins s σ H x y v u Q I rx ry h;obtain⟨a,b,xs,rfl,rfl,ha,hb,q⟩:=h;cases rx;cases ry;obtain⟨_,_,vs,_,⟨cls,de,da,sm⟩,es,ep,ho,ex,_⟩:=I.hok _ _ ha;obtain⟨_,its,_,tu⟩:=I.hok _ _ hb;obtain⟨⟨cls2,dd,data2,sl⟩,ho2,hc2,n,hd2⟩:=tu;have hc:=ex.1;simp only at hc hc2 hd2;subst hc hc2 hd2;have hne:a≠b:=λe=>by subst e;rw[ha]at hb;cases hb
 have hu:=hr.units
 exact(rc_eq_decline_or (k:=false) ⟨_,ho,rfl⟩ ⟨_,ho2,rfl⟩ (by decide) MQ F.slot_dict_eq F.slot_tuple_eq_refl
  (λ_ hq=>call_meets F.slot_dict_eq ⟨_,ho,rfl⟩ F.entry_dict_eq (F.args_dict_eq_2 _ _) (MU a b its.toArray n dd de da sl sm) ⟨ho,ho2,hq⟩)
  (λ_ hq=>call_meets F.slot_tuple_eq_refl ⟨_,ho2,rfl⟩ F.entry_tuple_eq (F.args_tuple_eq_2 _ _) (MV b a its.toArray n dd de da sl sm) ⟨ho2,ho,hq⟩)
  (λ_ hq=>wpAny_isSame_ref_other hne ho ho2 (by simp) hq) (.inr (by omega)) ⟨.bl _,H,I,rfl,q⟩)
end L2
namespace Dv
open PySem L2 Ex
variable[KC]
def yJ:D->D->Option RV
 |.i4 [] [],.tup _=>some γe
 |d,e=>eF d e
def MX:R2:=λx y H Q=>MW x y H Q\/DX x y H Q
omit [KC] in
theorem Xb{X:Cx}(hr:γX):b_ X ζ2 MX:=(Xa hr).or ε6
theorem Xd:dI MX yJ:=by
 intro R H x y d e rv Q s px py hg q;unfold yJ at hg;split at hg
 .cases hg;obtain⟨b,xs,rfl,hb,_⟩:=py.tup;have ha:=px.hv s;cases ha with
  |oG e=>exact .inl ⟨_,_,_,rfl,rfl,e,s _ _ hb,q _ H R γi εN⟩
 .exact .inr (k5 R H x y _ _ rv Q s px py hg q)
section
variable{X:Cx}{EE:bw}{ios:zzd}{e a:Expr}{es:zza}{f:M RV}{fs:γn}{x:Str}{p p' pos pos':Pos}
theorem vn(i:Nat)(hN:X.N[i]?=some x:=by rfl)(hv:wR X.env.scope x:=by first|exact Or.inl rfl|exact Or.inr (Or.inl rfl)|exact Or.inr (Or.inr rfl))(hd:(x == ("__debug__":Str))=false:=by decide)(hcd:(x == ("__classdict__":Str))=false:=by decide):VE X EE ios εh (Zj i):=TZ (II hN hv hd hcd)
theorem vS(i:Nat)(hN:X.N.Nodup)(he:γR)(hi:X.N[i]?=some x:=by rfl)(hx:εa:=by exact bS rfl)(hs:swapsWith e ζE pos.line X.env=pure false:=by rfl)(hf:X.fn x=true\/X.env.scope.names.lookup x=some .local:=by first|exact .inl rfl|exact .inr rfl|assumption):VS X EE ios (.Assign [.Name x pos'] e pos) (bN i f):=Ut hN hi hx he hs hf
theorem vB{id:String}{r:List V->Hp->VK->Prop}{g:List D->Option RV}(hc:aN X εK r)(hv:mW r g)(hm:X.mg x=none)(ha:VA X EE ios (e::es) fs)(hg:ζD:=by rfl)(hb:bootBuiltins x=some εK:=by first|exact PySem.boot_len|decide +kernel)(hn:x≠"__name__":= by decide)(hdb:(x == ("__debug__":Str))=false:=by decide)
 (he:starEach (e::es) X.env=(false,eval e X.env)::starEach es X.env:=by rfl) (hpl:(backTo pos γc).any (·.1)=false:=by rfl):VE X EE ios (.Call δx (e::es) [] pos) (cN g fs):=vh (λ_ h=>rD hc hg hm hb h hn hdb he hpl) hv ha
theorem vI(kit:KitX L T)(hm:X.mg "isinstance" = none)(hy:X.mg y=some ηL)(ha:γs)(hg:Gl X "isinstance":= by rfl)(hg':Gl X y:=by rfl)(hd:(y == ("__debug__":Str))=false:=by decide)(hK:X.K=KC.K:=by rfl)
 (h1:starEach [a,.Name y p'] X.env=(false,eval a X.env)::starEach [.Name y p'] X.env:=by rfl) (h2:starEach [.Name y p'] X.env=(false,eval (.Name y p') X.env)::starEach [] X.env:=by rfl) (hpl:(backTo pos (starEach [.Name y p'] X.env)).any (·.1)=false:=by rfl):VE X EE ios (.Call (.Name "isinstance" p) [a,.Name y p'] [] pos) (tZ L T f):=
 Vp kit (λ_ h=>rD Dy hg hm (by decide +kernel) (jU h (jU (IK (v:=.ref (KC.cls T)) hg' hy rfl hd) oh h2) h1) (by decide) (by decide) h1 hpl) ha hK
theorem vT(T:Ty)(hm:X.mg "isinstance" = none)(hy:X.mg y=none)(ha:γs)(hT:bootBuiltins y=some (.type T.nm):=by decide +kernel)(hg:Gl X "isinstance":= by rfl)(hg':Gl X y:=by rfl)(hn:y≠"__name__":= by decide)(hd:(y == ("__debug__":Str))=false:=by decide)
 (h1:starEach [a,.Name y p'] X.env=(false,eval a X.env)::starEach [.Name y p'] X.env:=by rfl) (h2:starEach [.Name y p'] X.env=(false,eval (.Name y p') X.env)::starEach [] X.env:=by rfl) (hpl:(backTo pos (starEach [.Name y p'] X.env)).any (·.1)=false:=by rfl):VE X EE ios (.Call (.Name "isinstance" p) [a,.Name y p'] [] pos) (qH T f):=
 Um (λ_ h=>rD Dy hg hm (by decide +kernel) (jU h (jU (wV (v:=.ty T.nm) hg' hy hT rfl hn hd) oh h2) h1) (by decide) (by decide) h1 hpl) ha
theorem uj(h:1<own:=by decide):mO own (wZ K 2 (sW (kW 0) (sW (kW 1) wY))):=TB (Ko (by omega) (Ko h Tz))
theorem jA{own:Nat}{K:zze}(i j:Nat)(h:i<own:=by decide)(h':j<own:=by decide):j8 ios own (wZ K 2 (sW (kW i) (sW (kW j) wY))) (gT 2 (a7 (gN i) (a7 (gN j) cX))):=Uv (K4 (mq h) (K4 (mq h') Uu))
theorem uk(h:1<own:=by decide):nQ own ι:=UJ (K_ (vx (by omega)) (K_ (vx h) UI))
end
theorem mC{p:v4->Prop}(h:∀a,p [a])(us:v4)(e:us.length=1):p us:=by rcases us with _|⟨a,_|_⟩<;>simp at e;exact h a
theorem lq{p:v4->Prop}(h:∀a b,p [a,b])(us:v4)(e:us.length=2):p us:=by rcases us with _|⟨a,us⟩<;>simp at e;exact mC (p:=λus=>p (a::us)) (h a) us e
theorem sE{p:v4->Prop}(h:∀a b c,p [a,b,c])(us:v4)(e:us.length=3):p us:=by rcases us with _|⟨a,us⟩<;>simp at e;exact lq (p:=λus=>p (a::us)) (h a) us e
theorem Xe{p:v4->Prop}(h:∀a b c d,p [a,b,c,d])(us:v4)(e:us.length=4):p us:=by rcases us with _|⟨a,us⟩<;>simp at e;exact sE (p:=λus=>p (a::us)) (h a) us e
theorem dP{N ps:v6}{sc:Scope}(a:sc.kind=.function:=by rfl)(b:sc.isCoroutine=false:=by rfl)(c:sc.isGenerator=false:=by rfl)(d:N.Nodup:=by decide +kernel)(e:N.take ps.length=ps:=by rfl)(f:∀x∈ps,sc.names.lookup x=some .local\/sc.names.lookup x=some .cell:=by decide +kernel)(g:∀y∈sc.names,y.2≠.free:=by decide +kernel):ag N ps sc:=⟨a,b,c,d,e,f,g⟩
end Dv
namespace Dv
open PySem L2 Ex
noncomputable def Gf:Cn->Bool
 |.NoPoint|.ju=>true
 |_=>false
section
variable[KC]{X:Cx}{EE:bw}{ios:zzd}{a:Expr}{f:M RV}
structure um(L:ζK)(B:String)(s:Cn->Bool):Prop where
 own:∀C,L.contains C=true->W.kitOne KC.K ηa ζb=some (s C)/\XC KC.K η
 no:∀t∈lQ,W.kitOne KC.K (.type t) ζb=some false
def MY(K:zze)(cls:Cn->Addr)(L:ζK)(B:String)(s:Cn->Bool):Bool:=L.all (λC=>W.kitOne K (.ref (cls C)) ζb == some (s C))&&lQ.all (λt=>W.kitOne K (.type t) ζb == some false)
theorem Xg(h:MY KC.K KC.cls L B s=true)(hx:∀C,L.contains C=true->XC KC.K η):um L B s:=by unfold MY at h;rw[qay,qaP,qaP]at h;exact⟨λC hc=>⟨qa7.mp (h.1 C δM),hx C hc⟩,λt ht=>qa7.mp (h.2 t ht)⟩
theorem Xh(kit:um L B s)(hp:∀t,PE X a t->PE X e0 (rC (λxs H Q=>∃x c t cv b,xs=[x,c]/\tq c=some cv/\xl X.K H x t/\W.kitOne X.K t cv=some b/\Q ε2 H) (l_ t (l_ (tC (.ty B)) rB))))(ha:γs)(hK:X.K=KC.K:=by rfl):VE X EE ios e0 (vE L s f):=L4 rfl kit.own kit.no hp ha hK
end
end Dv
namespace L2
open PySem PySem.Spec PyProof.Rows HT
section
variable{prog:Program}{w:World}{A:Around}{E:T0}{s:Shared}
theorem Xi(hs:s.heap.IsSliceOf sl .none .none (.int (-1) tk))(h:Q (1, -1,2) s):wpAny γ A (Builtin.Slice.sliceApplied θx (pure (2:Int))) Q E s:=by obtain⟨os,hos,hcs,hds⟩:=id hs;unfold Builtin.Slice.sliceApplied Builtin.Slice.sliceFields;refine qaa (qaa (wpAny_field hos hds (x:=.none) rfl (qaa (wpAny_field hos hds (x:=.none) rfl (qaa (wpAny_field hos hds (x:=.int (-1) tk) rfl (qac ?_)))))));refine qaa (slicePart_int ?_);show wpAny _ _ (if ((-1:Int) == 0)=true then _ else _) _ _ s;rw[qaC (by decide)];refine qaa (slicePart_none (qaa (slicePart_none (qaa (qac ?_)))));exact qac h
theorem Xj(ht:IsTup s.heap t #[x,y])(hs:s.heap.IsSliceOf sl .none .none (.int (-1) tk))
 (h:Q γj {s with heap:=s.heap.push {cls:=.type "tuple",data:=.seq #[y,x]} }):wpAny γ A (getItem (.ref t) θx) Q E s:=by
 obtain⟨os,hos,hcs,hds⟩:=id hs;have hTs:s.TypeIs θx "slice":= ⟨os,hos,hcs⟩;have fv:sizeOk (.seq #[y,x]):=by show 2<=sizeLine;decide
 unfold getItem
 try with_reducible refine qaV ?_
 first|refine qaa (qac ?_)|skip
 refine qaa (wpAny_sequenceKey ht.typeIs (by decide) ?_)
 refine qaa (qbp (name:=Str.ofString "__getitem__") ht.typeIs qbf
  (qaZ qbf ht.typeIs entry_tuple_getitem ?_ (args_tuple_getitem _ _)))
 show wpAny _ _ (Builtin.Tuple.tupleItemsOf (.ref t) >>= _) _ _ s;refine qaa (tupleItemsOf_ ht ?_);refine qaa (wpAny_typeOf hTs ?_);rw[qaF (by decide)];refine qaa (Xi hs ?_);show wpAny _ _ (if ((1:Int) == 0&&(-1:Int) == 1&&(2:Nat) == 2)=true then _ else _) _ _ s;rw[qaC (by decide)]
 first
  |exact qaa (m:=Builtin.Tuple.tupleExact _) (qaJ (qac ⟨_,rfl,qac h⟩) fv)
  |exact qaa (m:=Builtin.Tuple.tupleExact _) (qaJ (qaa (qac (qac ⟨_,rfl,qac h⟩))) fv)
  |exact qaa (qaa (m:=Builtin.Tuple.tupleExact _) (qaJ (qac (qac ⟨_,rfl,qac h⟩)) fv))
  |exact qaa (qaa (m:=Builtin.Tuple.tupleExact _) (qaJ (qac ⟨_,rfl,qac h⟩) fv))
end
variable{X:Cx}
def Xk(K:PySem.W.Frag)(te:TE):TE:=λσ H Q=>te σ H λx H1=>∃a y z,x=.ref a/\iw K H1 a [y,z]/\∀p,H1 p=none->Q γJ (upd H1 p (.tup [z,y]))
theorem Xl(he:ζO)(hse:PE X se (tC (.int (-1)))):PE X (.Subscript e ζA pos) (Xk X.K te):=by intro pins s σ H Q I h;refine Subscript_ (aK γF λv s1 zq=>?_);obtain⟨x,H1,I1,r1,q1⟩:=zq;refine wpAny_Slice (aK (Dc pins s1 σ H1 (λo H'=>o=none/\H'=H1) I1 ⟨rfl,rfl⟩) λvl s2 zq=>?_);obtain⟨l,H2,I2,pl,el,eH⟩:=zq;subst el eH;refine aK (Dc pins s2 σ H2 (λo H'=>o=none/\H'=H2) I2 ⟨rfl,rfl⟩) λvu s3 zq=>?_;obtain⟨u,H3,I3,pu,eu,eH⟩:=zq;subst eu eH;rw[evalPart_some];refine aK (hse pins s3 σ H3 (λx H'=>x=.int (-1)/\H'=H3) I3 ⟨rfl,rfl⟩) λvs s4 zq=>?_;obtain⟨y,H4,I4,r4,ey,eH⟩:=zq;subst ey eH;obtain⟨t,rfl⟩:=r4;cases pl;cases pu;obtain⟨a,y1,y2,rfl,hx,q⟩:=q1;cases r1;have I5:Inv X pins σ H4 {s4 with heap:=s4.heap.push {cls:=.type "slice",data:=.fields #[.none,.none,.int (-1) t]} }:=I4.kept (t':=s4.toks) λb ob q=>qab _ q;obtain⟨its,r,ht,hz⟩:=I5.tuple hx;obtain⟨u1,u2,rfl,r1,r2⟩:=vals2 r;show wpAny δ X.A (subscriptTail e ζA γC (.ref s4.heap.objs.size)) γL X.xe {s4 with heap:=s4.heap.push {cls:=.type "slice",data:=.fields #[.none,.none,.int (-1) t]} };refine tail_any (ops:=[.ref a,.ref s4.heap.objs.size]) ht.typeIs qbf.lookup ?_ (by with_unfolding_all rfl);refine Xj ht (Heap.IsSliceOf.new ..) ?_;refine⟨.ref _,_,I5.laid (t':=s4.toks) (o:=.tup [y2,y1]) (λb ob q=>qab _ q) γO ?_,rfl,q _ (I5.hok.fresh γO)⟩;exact⟨by show 2<=sizeLine;decide,_,.cons r2 (.cons r1 .nil),IsTup.new _ _⟩
end L2
namespace Dv
open PySem L2 Ex
noncomputable def B2:D->Option RV
 |.tup [a,b]=>some (.val (.tup [b,a]))
 |_=>none
def B3(f:M RV):M RV:=M.bind f λx=>M.bind εu λd=>M.dH (B2 d)
section
variable[KC]{X:Cx}{EE:bw}{ios:zzd}{a:Expr}{f:M RV}{pos p2:Pos}
theorem Xm(ha:γs)(hse:PE X se (tC (.int (-1)))):VE X EE ios (.Subscript a ζA pos) (B3 f):=by
 obtain⟨t1,h1,h2⟩:=ha;refine⟨_,Xl h1 hse,λσ H R Γ Q er w=>?_⟩;unfold B3 at w;rw[aC]at w;refine h2 σ H R Γ _ er (a6 w (λrx ai w x H1 R1 p1 hx=>?_) λ_ _ z=>z);rw[aC]at w;obtain⟨d,pd,w⟩:=mR p1.er hx w;obtain⟨rv,hg,w⟩:=jW w;unfold B2 at hg;split at hg
 .cases hg;obtain⟨a,xs,rfl,h1,h2⟩:=pd.tup;cases h2 with
  |cons ra h2 =>
    cases h2 with
    |cons rb h2 =>
      cases h2;refine⟨a,_,_,rfl,iw.of (p1.er.sub _ _ h1),λp hp=>?_⟩;obtain⟨al,rv⟩:=A2 p1.er.sub hp (.cons rb (.cons ra .nil));exact w _ _ _ (p1.al al) (rv.rv (p1.back er))
 .cases hg
end
end Dv
namespace L2
open PySem PySem.W PyProof.Rows Ex
open PySem.SeqAt MeetsSeq
variable{X:Cx}
theorem Xn(r:ε4)(h:u∈us):∃v∈xs,RelV v u:=by
 induction r with
 |nil=>cases h
 |cons r t ih =>
   rcases qak.mp h with rfl|h
   .exact⟨_,qag ..,r⟩
   .obtain⟨v,h1,h2⟩:=ih h;exact⟨v,qae _ h1,h2⟩
def MZ(K:PySem.W.Frag):R2:=λx y H Q=>∃a p xs,x=.ref a/\y=.ref p/\H a=some (.dK [])/\b8 K H p xs/\(∀v∈xs,∃b zs,v=.ref b/\H b=some (.tup zs))/\Q θJ H
theorem Xo(hr:γX):b_ X ηq (MZ X.K):=by
 intro pins s σ H x y v u Q I rx ry h;obtain⟨a,p,xs,rfl,rfl,ha,hq,hx,q⟩:=h;cases rx;cases ry;obtain⟨its,r,pl,hz⟩:=I.list hq;have hu:X.A.in1.units+64<cLine:=by have:=hr.un;show X.A.units+1+64<_;omega
 refine SeqAt.notIn_listAt (λ_=>false) pl.isList (λw hw=>?_) ⟨.bl true,H,I,(show Value.bool (!its.toArray.any λ_=>false)=Value.bool true by simp),q⟩;obtain⟨v,hv,rv⟩:=Xn r (by simpa using hw);obtain⟨b,zs,rfl,hb⟩:=hx v hv;cases rv;obtain⟨_,_,vs,_,⟨cls,de,da,sm⟩,es,ep,ho,ex,_⟩:=I.hok _ _ ha;obtain⟨_,jts,_,tu⟩:=I.hok _ _ hb;obtain⟨⟨cls2,dd,data2,sl⟩,ho2,hc2,n,hd2⟩:=tu;have hc:=ex.1;simp only at hc hc2 hd2;subst hc hc2 hd2;have hne:b≠a:=λe=>by subst e;rw[ha]at hb;cases hb
 refine EqAt.of_refs hne λprog w E Q' hq'=>?_
 exact rc_eq_decline_or (k:=false) ⟨_,ho2,rfl⟩ ⟨_,ho,rfl⟩ (by decide) MR F.slot_tuple_eq F.slot_dict_eq_refl
  (λ_ hq=>call_meets F.slot_tuple_eq ⟨_,ho2,rfl⟩ F.entry_tuple_eq (F.args_tuple_eq_2 _ _) (MV b a jts.toArray n dd de da sl sm) ⟨ho2,ho,hq⟩)
  (λ_ hq=>call_meets F.slot_dict_eq_refl ⟨_,ho,rfl⟩ F.entry_dict_eq (F.args_dict_eq_2 _ _) (MU a b jts.toArray n dd de da sl sm) ⟨ho,ho2,hq⟩)
  (λ_ hq=>wpAny_isSame_ref_other' hne ho2 ho (by simp) hq) (.inr (by omega)) hq'
end L2
namespace Dv
open PySem L2 Ex
variable[KC]
noncomputable def B4:D->Bool
 |.tup _=>true
 |_=>false
def yK:D->D->Option RV
 |.i4 [] [],.lst xs=>if xs.all B4 then some γa else none
 |d,e=>qi d e
def M1(K:zze):R2:=λx y H Q=>MZ K x y H Q\/Gb K x y H Q
omit [KC] in
theorem Xp{X:Cx}(hr:γX):b_ X ηq (M1 X.K):=(Xo hr).or (Gd hr)
theorem Xq(r:δs):ds.all B4=true->∀v∈xs,∃b zs,v=.ref b/\R b=some (.tup zs):=
 r.ind (n:=λxs ds=>ds.all B4=true->∀v∈xs,∃b zs,v=.ref b/\R b=some (.tup zs)) nofun λa _ ih h=>by rw[qbO,qay]at h;refine List.forall_mem_cons.mpr ⟨?_,ih h.2⟩;cases a<;>first|exact⟨_,_,rfl, ‹_›⟩|cases h.1
theorem Xr:dI (M1 K) yK:=by
 intro R H x y d e rv Q s px py hg q;unfold yK at hg;split at hg
 .rename_i ds;split at hg
  .rename_i c;cases hg;obtain⟨p,xs,rfl,h1,h2⟩:=py.lst s;have ha:=px.hv s;cases ha with
   |oG e=>exact .inl ⟨_,p,xs,rfl,rfl,e,b8.of h1,Xq (h2.sm s) c,q _ H R γi εN⟩
  .cases hg
 .exact .inr (Ge R H x y _ _ rv Q s px py hg q)
end Dv
namespace Dv
open PySem L2 Ex
variable[KC]{X:Cx}{EE:bw}{ios:zzd}{tg iter:Expr}{sts:εb}{s:M Fl}{pos:Pos}
theorem vF(hi:δH)(hr:j8 ios n gt m)(hb:ζI)(hp:εH)(hg:PG X tg gt)(hc:X.calm=true:=by rfl)
 (hs:∀x,foldedSetIterable iter X.env x=pure x:=by intro _;rfl):VS X EE ios (.For tg iter sts [] pos) (forM items m s):=
 UC hi hr hb λ_ _ h1 h2=>Q_ hp hc h1 hg h2 (hs:=hs)
end Dv
namespace Dv
open PySem L2 Ex
section
variable[KC]{X:Cx}{EE:bw}{ios:zzd}{iter elt:Expr}{ifs:zza}{p:δN}{f:M RV}{pos px:Pos}{scope:Scope}{fr:zzc}{x:Str}{items:M γd}
noncomputable def vP(N:v6)(x:Str)(fr:zzc):v6:=x::fr.map λj=>N.getD j x
theorem nj(hi:VI X EE ios (.Name x px) iter items)(ht:∀{cl C s3 H3 fp pn'},qM ηP EN ios ifs p)(he:∀{cl C s3 H3 fp pn'},VE ηP EN ios elt f)
 (hb:(Es X.env.scope scope X.N (vP X.N x fr) 1 fr&&decide (vP X.N x fr).Nodup&&decide fr.Nodup&&X.calm)=true:=by kernel_rfl)
 (hl:∀{cl C s3 H3 fp pn'},FR (iC X (vP X.N x fr) scope cl C s3 H3 fp pn').env.scope x=true/\(iC X (vP X.N x fr) scope cl C s3 H3 fp pn').env.scope.names.lookup x=some .local:=by intros;exact⟨rfl,rfl⟩) (hs:∀x,foldedSetIterable iter X.env x=pure x:=by intro _;rfl):VE X EE ios (.ListComp elt [⟨.Name x px,iter,ifs,0⟩] scope pos) (gI items fr 1 δ0 p f):=by simp only[Bool.and_eq_true,decide_eq_true_eq]at hb;obtain⟨⟨⟨h1,h2⟩,h4⟩,h5⟩:=hb;exact vy h5 (oV rfl rfl h1) h4 hi (AS (by decide)) (λ_ _ _ _ _ _=>b9 (i:=0) h2 rfl (bS hl.1) (.inr hl.2)) (mq (by decide)) (vx (by decide)) (λ_ _ _ _ _ _=>ht) (λ_ _ _ _ _ _=>he) (hs:=hs)
end
end Dv
namespace cZ
open PySem L2 Ex Dv
noncomputable abbrev kI(i:Int):M RV:=M.pure (.val γT)
noncomputable abbrev kS(x:Str):M RV:=M.pure (.val θG)
noncomputable abbrev kB(b:Bool):M RV:=M.pure θF
noncomputable abbrev kN:M RV:=M.pure δw
noncomputable abbrev m0:M θt:=M.pure []
noncomputable abbrev mX:M Fl:=M.pure .nx
noncomputable def yL:Nat:=100000
noncomputable def iN:List Cn:=[.NoPoints,.NoBox,.NoAsks,.NotServed,.NoPoint,.TooMany]
noncomputable def B5:Cn->Bool:=λC=>([.NoAsks,.NotServed,.NoPoint]:List Cn).contains C
def Gg:M Fl:=
 (bR (gI (et (Mj (et γb) [] 2 ι γp ηE)) [] 2 ι γp ηE))
def vQ:List D->Option Rt:=ba 1 ["points"] Gg
def Gh:M Fl:=
 (bR (j4 (qH .int γb) (j4 (xy (ft (M.bind (qH .bool γb) aM))) (jO j6 j6 δK γb (kI 30)))))
def qj:List D->Option Rt:=ba 1 ["thing"] Gh
def Gi:M Fl:=
 (bR (j4 (qH .tuple γb) (j4 (op2 eF εA (kI 2)) (j4 (cb qj (ZY η7 m0)) (cb qj (ZY (op2 bx γb δm) m0))))))
def nq:List D->Option Rt:=ba 1 ["thing"] Gi
def Gj:M Fl:=
 (cW (ft (M.bind (cb nq δd) aM)) M.st mX)
def Gk:M Fl:=
 (aP (cW (orM (ft (M.bind (BL γb) aM)) (M.bind (op2 rW εA (kI 200)) aM)) M.st mX) (forM (qI γv) (gT 2 γ4) Gj))
def uo:List D->Option Rt:=ba 1 ["thing","number","point"] Gk
def Gm:M Fl:=
 (cW (M.bind (op2 vg γl kN) aM) (bN 1 (bc m0)) mX)
def Gn:M Fl:=
 (k9 (cb uo δc))
def Gq:M RV:=
 (cb vQ δc)
def qY:List D->Option Rx:=runN .Points "held" 1 ["points"] Gm Gn Gq
def B6:M Fl:=
 (bR (j4 (cb nq δc) (op2 vJ γl (oX .Points "held" γb))))
def mD:List D->Option Rt:=ba 2 ["self","point"] B6
def Gr:M Fl:=
 (aP (cW (ft (M.bind (lh .Points "has" mD γb δc) aM)) M.st mX) (bR (nV qY (ZY (gI (et (oX .Points "held" γb)) [1] 1 δ0 ζY γb) m0))))
def uq:List D->Option Rt:=ba 2 ["self","point"] Gr
def Gs:M Fl:=
 (bR (cN tR (ZY (oX .Points "held" γb) m0)))
def qk:List D->Option Rt:=ba 1 ["self"] Gs
def yM:M Fl:=
 (aP (bN 2 (op2 bx (bc (ZY δm (ZY (kI 2) (ZY (kI 3) (ZY (kI 4) (ZY (kI 6) (ZY (kI 10) (ZY (kI 31) m0)))))))) η7)) (aP (bN 3 (op2 j7 (op2 bx γb δm) (op2 tO (kI 32) γI))) (aP (bN 4 (op2 eg δm (op2 j7 (op2 bx γb (kI 2)) γl))) (aP (bN 5 (gI (Ba (ZY δ9 m0)) [3,0,2] 1 δ0 γp ζC)) (aP (cW (M.bind (op2 eF (op2 bx γb (kI 3)) δK) aM) (bN 5 (cN vk εp)) mX) (aP (cW (M.bind (op2 eF (op2 bx γb (kI 3)) δm) aM) (bN 5 (op2 eg (i6 (xM 2) (cN vk εp) δb δb) (i6 (xM 2) (cN vk εp) ζ5 δb))) mX) (bR η9)))))))
def sF:List D->Option Rt:=ba 2 ["_law_d","_law_most","_law_span","_law_begin","_law_many","_law_asks_here"] yM
def Gu:M Fl:=
 (aP εi (bR (op2 eF (op2 bx γb δu) γI)))
def sG:List D->Option Rt:=ba 2 ["asks","point","key","moment"] Gu
def Gv:M Fl:=
 (bR (Ml (et (oX .Points "held" γb)) [] 2 ι γp γl))
def vR:List D->Option Rt:=ba 1 ["self"] Gv
def B7:M Fl:=
 (aP ηf (bR (gI (et (oX .Points "held" γb)) [1] 2 ι (M.bind (op2 eF γl γI) aM) γb)))
def sH:List D->Option Rt:=ba 2 ["self","moment"] B7
def ql:M Fl:=
 (aP (cW (M.bind (op2 jP (Zj 7) δu) aM) (M.pure .cont) mX) (aP (cW (andM (M.bind (op2 rW (Zj 7) δu) aM) (M.bind (op2 (xI false) γI (Zj 8)) aM)) (M.pure .brk) mX) (aP (bN 9 (i6 jw (gI (et (Zj 8)) [4,2] 1 δ0 δl γb) (M.bind (op1 r9 δm) jQ) δb)) (aP (bN 10 (i6 jw (gI (et (Zj 8)) [2,5] 1 δ0 δl γb) δb ζ5)) (aP (cW (M.bind (op2 rW (Zj 7) δu) aM) (k9 (tS 6 B0 (ZY (gI (et (op2 eg (Zj 9) (Zj 10))) [7] 1 δ0 γp (dC (ZY γb δc))) m0))) mX) (aP (bN 4 (op2 (o3 fZ) (Zj 9) δ9)) (bN 5 (op2 (o3 mw) (Zj 10) η9))))))))
def Gw:M Fl:=
 (aP εi (aP (qd (gT 2 (a7 (gN 4) (a7 (gN 5) cX))) (dC (ZY (op1 r9 δm) (ZY (op2 eg (kI 30) δm) m0)))) (aP (bN 6 (bc m0)) (aP (forM (et γb) θC ql) (bR ηF)))))
def vU:List D->Option Rt:=ba 2 ["rows","one","key","start","low","high","found","moment","keys","lesser","greater"] Gw
def Gx:M Fl:=
 (aP (bN 1 (gI (et (nU .Points "all_moments" vR γb)) [0] 1 δ0 γp (dC (ZY γb (ZY (lh .Points "keys_at" sH γl γv) m0))))) (bR (yx (et (nU .Points "points" qk γb)) [1] 2 (uc δ0 γp (et (cb vU (ZY γI γv))) (mz 1 (gN 1) γp (dC (ZY γb δc)))))))
def yN:List D->Option Rt:=ba 1 ["points","rows"] Gx
def Gy:M Fl:=
 (bR (op2 eF (cb yN γv) (bc m0)))
def yO:List D->Option Rt:=ba 1 ["points"] Gy
def Gz:M Fl:=
 (aP (cW (orM (ft (M.bind (qH .list γb) aM)) (ft (M.bind (jO j6 j6 δm εA (kI 31)) aM))) M.st mX) (forM (qI γv) (gT 2 γ4) (cW (ft (M.bind (cb qj δd) aM)) M.st mX)))
def yP:List D->Option Rt:=ba 1 ["thing","number","key"] Gz
def GA:M Fl:=
 (k9 (cb yP γv))
def GB:M θt:=
 (ZY (gI (qI γv) [] 2 ι γp ηE) m0)
def M3:M Fl:=aP GA (bR (nV qY GB))
def yQ:List D->Option Rx:=my 1 ["asks"] M3
def B8:M Fl:=
 (aP (bN 2 (nU .Points "points" qk (nV yQ γv))) (aP (cW (ft (M.bind (cN vi (ZY (gI (et γI) [1] 1 δ0 γp (lh .Points "has" mD γl γv)) m0)) aM)) δp mX) (bR (j4 (op2 jP (cN Bk (ZY (nU .Points "all_moments" vR γl) m0)) εA) (cb yO δc)))))
def vV:List D->Option Rt:=ba 2 ["asks","points","asked"] B8
def B9:M Fl:=
 (cW (ft (M.bind (cb vV (ZY γb δc)) aM)) (Bv .NotServed (ZY (kS "the Points do not serve the asks") m0)) mX)
def nr:List D->Option Rx:=my 2 ["asks","points"] B9
def B_:M Fl:=
 (aP ηf (bR (gI (et (oX .Points "held" γb)) [1] 2 ι (M.bind (op2 eF γb γI) aM) γl)))
def ur:List D->Option Rt:=ba 2 ["self","key"] B_
def GC:M Fl:=
 (bR (op2 eg (i6 jw (gI (et γb) [1] 1 δ0 (M.bind (op2 jP γb γl) aM) γb) (M.bind (op1 r9 δm) jQ) δb) (i6 jw (gI (et γb) [1] 1 δ0 (M.bind (op2 rW γb γl) aM) γb) δb ζ5)))
def uu:List D->Option Rt:=ba 2 ["places","place"] GC
def GD:M Fl:=
 (bR (j4 (cb nq γv) (j4 (cb nq δc) (j4 (op2 iz η7 εm) (op2 iz (op2 bx γb δm) εS)))))
def yR:List D->Option Rt:=ba 2 ["one","other"] GD
def GF:M Fl:=
 (aP (qd (gT 2 (a7 (gN 3) (a7 (gN 4) cX))) γb) (bR (j4 (xA (jO j6 j6 εm δu εU) (jO j6 j6 εU δu εm)) (xA (jO j6 j6 εS δ9 εT) (jO j6 j6 εT δ9 εS)))))
def vW:List D->Option Rt:=ba 3 ["point","one","other","key","moment"] GF
def GG:M Fl:=
 (aP (cW (ft (M.bind (cb yR ηs) aM)) M.st mX) (bR (gI (et (nU .Points "points" qk γb)) [1,2] 1 δ0 (andM (M.bind (cb vW (ZY γb ηs)) aM) (M.bind (op2 vO γb (dC ηs)) aM)) γb)))
def vX:List D->Option Rt:=ba 3 ["points","one","other"] GG
def vY:M Fl:=
 (aP (bN 6 (dC (ZY (dC (ZY δ9 ζu)) (ZY (dC (ZY γI εp)) m0)))) (cW (M.bind (op2 eF (cb vX (ZY γb (ZY (op2 bx ηF δK) (ZY (op2 bx ηF δm) m0)))) (bc δc)) aM) (bR (xB (M.bind (op2 jP δu η9) aM) ηF (B3 ηF))) mX))
def Ca:M Fl:=
 (forM (et (cb uu (ZY (lh .Points "moments_of" ur γb δd) ζu))) (gN 5) vY)
def GH:M Fl:=
 (aP εi (aP (forM (et (cb uu (ZY (lh .Points "keys_at" sH γb ζu) δd))) (gN 4) Ca) (bR kN)))
def uv:List D->Option Rt:=ba 2 ["points","point","key","moment","beside","along","pair"] GH
def uw:M Fl:=
 (aP (k9 (tX nr (ZY γb δc))) (aP (cW (ft (M.bind (lh .Points "has" mD γl δd) aM)) (Bw .NoPoint ["point"] δd) mX) (aP (cW (M.bind (cb sG (ZY γb δd)) aM) (bR (dC (ZY (kS "ask") m0))) mX) (aP (bN 3 (cb uv ηs)) (bR (xB (M.bind (op2 vg δu kN) aM) kN (dC (ZY (kS "needed") (ZY (op2 bx δu δK) (ZY (op2 bx δu δm) m0))))))))))
def iD:List D->Option Rx:=my 3 ["asks","points","point","pair"] uw
def Cb:M Fl:=
 (aP (bN 3 kN) (aP (yf B5 4 (k9 (tX iD (ZY γb ηs))) (bN 3 δ9)) (bR δu)))
def o4:List D->Option Rt:=ba 3 ["_law_asks_here","_law_points","_law_point","_law_found","_law_e"] Cb
def turn:M Fl:=
 (cW (andM (M.bind δ9 aM) (M.bind (op2 rW δu δK) aM)) (aP (k9 (tS 6 vm (ZY (op2 j7 δu (Zj 8)) m0))) (bN 3 (op2 A1 δu (Zj 8)))) (aP (bN 5 (op2 j7 (op2 xH (op2 eg η9 (op2 vf (kI 104729) (op2 eg (Zj 7) δm))) (kI 2)) (kI 2147483587))) (k9 (tS 6 vm (ZY (op2 j7 (op2 A1 η9 (kI 16)) (Zj 8)) m0)))))
def GI:M Fl:=
 (aP (bN 3 (cN A4 γv)) (aP (bN 4 (op2 KI δu (op2 xH (kI 10) (kI 18)))) (aP (bN 5 (op2 eg (op2 j7 δu (kI 2147483647)) (op2 vf (kI 7919) γl))) (aP (bN 6 (bc m0)) (aP (forM (qI δd) θC turn) (bR ηF))))))
def ux:List D->Option Rt:=ba 3 ["_law_cell","_law_turn","_law_sizes","_law_number","_law_wide","_law_seed","_law_found","_law_k","_law_size"] GI
def qZ:M Fl:=
 (cW (andM (M.bind (jO j6 j6 δu (Zj 7) δ9) aM) (andM (M.bind (jO j6 j6 η9 (Zj 8) ηF) aM) (M.bind (op2 vO (dC (ZY (Zj 7) (ZY (Zj 8) m0))) (dC ηs)) aM))) δp mX)
def yS:M Fl:=
 (aP (cW (orM (M.bind (op2 eF εm εU) aM) (M.bind (op2 eF εS εT) aM)) δp mX) (aP (yd 3 4 (ZY (cN rZ (ZY εm (ZY εU m0))) (ZY (cN rY (ZY εm (ZY εU m0))) m0))) (aP (yd 5 6 (ZY (cN rZ (ZY εS (ZY εT m0))) (ZY (cN rY (ZY εS (ZY εT m0))) m0))) (aP (forM (et γb) θC qZ) θX))))
def o5:List D->Option Rt:=ba 3 ["_law_spots","_law_one","_law_other","_law_low","_law_high","_law_begin","_law_end","_law_key","_law_moment"] yS
def qm:M Fl:=
 (cW (andM (M.bind (op2 eF δ9 (bc m0)) aM) (M.bind (cb o5 (ZY γl (ZY δu εp))) aM)) (bN 4 (bc (ZY (dC (ZY (op2 bx δu δK) (ZY (op2 bx η9 δm) m0))) m0))) mX)
def uy:M RV:=
 (gI (et δ9) [1] 1 δ0 εw γb)
def vZ:M Fl:=
 (aP (bN 3 (op2 bx γl γI)) (aP (bN 4 (bc m0)) (aP (forM (et (i6 jw γl δb (M.bind γI jQ))) (gN 5) qm) (aP (bN 1 (op2 eg γl uy)) (bN 2 (op2 eg γI (cN xK (ZY (op2 eF δ9 (bc m0)) m0))))))))
def yT:M Bool:=
 (M.bind (op2 jP γI (cN jv δc)) aM)
def GJ:M Fl:=
 (aP (bN 1 (cN tR γv)) (aP (bN 2 δK) (aP (m6 yT vZ yL) (bR γl))))
def yU:List D->Option Rt:=ba 1 ["_law_spots","_law_found","_law_begun","_law_one","_law_more","_law_other"] GJ
def yV:M Fl:=
 (aP (bN 5 (op2 bx (bc (ZY (op2 bx γb (op2 j7 (op2 bx γl δ9) εA)) (ZY (op2 bx γl δ9) m0))) (cN xK (ZY (op2 eF (op2 j7 (op2 bx γl δ9) (kI 5)) δK) m0)))) (k9 (tS 3 vm (ZY (dC (ZY η9 (ZY (op2 j7 (op2 bx γl (op2 eg δ9 δm)) εA) m0))) m0))))
def GK:M Fl:=
 (aP (bN 2 (gI (qI γv) [] 2 ι γp ηE)) (aP (bN 3 (bc m0)) (aP (forM (zrk (ZY δK (ZY (op2 tO (cN jv δc) δm) (ZY (kI 2) m0)))) (gN 4) yV) (bR (cb yU (ZY (op2 eg γI (gI (et (cN yv ζu)) [2] 1 δ0 εw γb)) m0))))))
def v3:List D->Option Rt:=ba 2 ["_law_asks_here","_law_digits_here","_law_points","_law_more","_law_k","_law_key"] GK
def Cc:M Fl:=
 (cW (M.bind (cN A5 (ZY (gI (et (i6 jw γb δb (M.bind γl jQ))) [0,2] 1 δ0 γp (cb o5 (ZY γl (ZY γI γv)))) m0)) aM) δp mX)
def GL:M Fl:=
 (aP (forM (qI γv) (gT 2 γ4) Cc) θX)
def v5:List D->Option Rt:=ba 1 ["_law_spots","_law_k","_law_one"] GL
def yW:M Fl:=
 (aP (bN 4 (tX iD (ZY γb (ZY γI ζu)))) (aP (cW (andM (M.bind (op2 jP (op2 bx δu δm) εA) aM) (M.bind (op2 eF (op2 bx γb (op2 bx δu δm)) (op2 bx δu δK)) aM)) (bR (op2 eF δ9 (dC (ZY (kS "ask") m0)))) mX) (aP (bN 5 (gI (et γl) [3] 1 δ0 ζY γb)) (aP (cW (M.bind (op2 vg δ9 kN) aM) (bR (cb v5 εp)) mX) (aP (cW (orM (ft (M.bind (qH .tuple δ9) aM)) (orM (M.bind (op2 iz (cN jv (ZY δ9 m0)) (kI 3)) aM) (M.bind (op2 iz (op2 bx δ9 δK) (kS "needed")) aM))) δp mX) (aP (qd (gT 2 (a7 (gN 6) (a7 (gN 7) cX))) (i6 By δ9 ζ5 δb)) (bR (j4 (op2 vJ ηF η9) (j4 (op2 vJ (Zj 7) η9) (j4 (cb o5 (ZY η9 (ZY ηF (ZY (Zj 7) m0)))) (xy (ft (M.bind (cb o5 (ZY γl (ZY ηF (ZY (Zj 7) m0)))) aM)))))))))))))
def o6:List D->Option Rt:=ba 4 ["_law_asks_here","_law_spots","_law_points","_law_point","_law_found","_law_rest","_law_one","_law_other"] yW
def GN:M Fl:=
 (aP (k9 (cb uo δc)) (aP (bN 2 (cb vQ (ZY (op2 eg (oX .Points "held" γb) (cN tR δc)) m0))) (aP (cW (M.bind (op2 rW (cN jv δd) (kI 200)) aM) M.st mX) (bR (nV qY δd)))))
def v7:List D->Option Rt:=ba 2 ["self","points","together"] GN
def yX:M Fl:=
 (aP (bN 4 (cb o4 (ZY γb (ZY γI ζu)))) (cW (orM (M.bind (op2 yK δu γl) aM) (M.bind (op2 yJ δu (dC (ZY (kB true) (ZY δK m0)))) aM)) (aP (cW (orM (ft (M.bind (tZ iN .NoPoint δ9) aM)) (orM (M.bind (op2 iz (cN ub (ZY (Bz iN "point" δ9) m0)) (cN ub ζu)) aM) (ft (M.bind (vE iN Gf δ9) aM)))) δp mX) (cW θ6 δp mX)) mX))
def GO:M Fl:=
 (aP (bN 4 (cb o4 (ZY γb (ZY ηF (ZY kN m0))))) (cW (orM (ft (M.bind (tZ iN .NotServed δ9) aM)) (ft θ6)) δp mX))
def GP:M γd:=
 (et (bc (ZY kN (ZY (dC (ZY (kI 31) (ZY δK m0))) (ZY (dC (ZY (kB true) (ZY δK m0))) (ZY (bc (ZY δK (ZY δK m0))) (ZY (kS "0") (ZY (dC (ZY (op2 bx εm δK) m0)) (ZY (dC (ZY (kI 30) (ZY (kI 30) m0))) (ZY (M.pure (.val (.i4 [] []))) m0))))))))))
def GQ:M γd:=
 (et (bc (ZY (lh .Points "less" uq γI εp) (ZY (lh .Points "more" v7 γI (ZY (bc (ZY (dC (ZY η7 (ZY εA m0))) m0)) m0)) m0))))
def GS:M Fl:=
 (aP (forM GP (gN 3) yX) (aP (bN 5 (dC (ZY (op2 bx γb (op1 r9 δm)) (ZY (op2 tO εA δm) m0)))) (aP (forM GQ (gN 6) GO) θX)))
def yY:List D->Option Rt:=ba 3 ["_law_asks_here","_law_spots","_law_points","_law_thing","_law_e","_law_ask","_law_less"] GS
def w2:M Fl:=
 (bN 2 (i6 jw (op2 eg (i6 jw γb (M.bind γl jQ) (M.bind (op2 eg γl (kI 2)) jQ)) (bc (ZY δm (ZY (kI 2) m0)))) δb (M.bind (kI 2) jQ)))
def w3:M Fl:=
 (bN 3 (cb sF (ZY (cb ux (ZY εU (ZY γl (ZY (op2 eg (bc (ZY (kI 7) (ZY (kI 31) (ZY (kI 5) (ZY (kI 3) m0))))) (op2 vC (bc (ZY (kI 31) m0)) (kI 5))) m0)))) (ZY (kI 5) m0))))
def w4:M Fl:=
 (bN 4 (cb ux (ZY εT (ZY (op2 eg γl δm) (ZY (op2 eg (bc (ZY (kI 4) m0)) (op2 vC (bc (ZY (kI 31) (ZY (kI 5) m0))) (kI 3))) m0)))))
def w5:M Fl:=
 (bN 5 (cN yv (ZY (cb v3 (ZY δu (ZY (i6 jw δ9 ζ5 (M.bind (op2 eg δm (op2 vf (kI 2) (op2 bx δ9 δK))) jQ)) m0))) m0)))
def w6:M Fl:=
 (bN 6 (nV qY εp))
def w7:M Fl:=
 (bN 7 (nU .Points "points" qk ηF))
def w8:M Fl:=
 (cW (ft (M.bind (cN vi (ZY (gI (et (i6 jw η9 δb (M.bind (kI 20) jQ))) [3,5,6] 1 δ0 γp θE) m0)) aM)) δp mX)
def w9:M Fl:=
 (cW (orM (ft (M.bind (cb yY (ZY δu (ZY η9 (ZY ηF m0)))) aM)) (M.bind (op2 iz (nU .Points "points" qk ηF) (Zj 7)) aM)) δp mX)
def w10:M Fl:=
 (aP (bN 9 (lh .Points "less" uq ηF (ZY (Zj 8) m0))) (cW (andM (ft (M.bind (cb v5 (ZY (nU .Points "points" qk (Zj 9)) m0)) aM)) (ft (M.bind (tZ iN .NotServed (cb o4 (ZY δu (ZY (Zj 9) (ZY (Zj 8) m0))))) aM))) δp mX))
def w11:M Fl:=
 (forM (et (i6 jw η9 δb (M.bind (kI 6) jQ))) (gN 8) w10)
def wB:M Fl:=
 (aP w2 (aP w3 (aP w4 (aP w5 (aP w6 (aP w7 (aP w8 (aP w9 w11))))))))
def GU:M Fl:=
 (aP (forM (zrk (ZY δK (ZY (cN rY (ZY δm (ZY (cN rZ (ZY εA (ZY (kI 6) m0))) m0))) (ZY (kI 2) m0)))) (gN 1) wB) θX)
def yZ:List D->Option Rt:=ba 1 ["_law_script","_law_at","_law_cells","_law_asks_here","_law_d","_law_spots","_law_points","_law_kept","_law_spot","_law_less"] GU
end cZ
namespace Tr
open PySem L2 Ex Dv
inductive T where
 |nil|node (k:Int) (l r:T)
 deriving DecidableEq
noncomputable abbrev aw(ns:u8):D:=.lst εn
theorem line:20000<=sizeLine:=by decide
theorem Xs(h:∀d∈ds,d.canLay0=true):PyData.canLayAll0 ds=true:=by
 induction ds with
 |nil=>rfl
 |cons d r ih=>simp[PyData.canLayAll0,h d (by simp),ih λx hx=>h x (by simp[hx])]
theorem Xt(h:∀d∈ds,d.depth<=n):PyData.depthAll ds<=n:=by
 induction ds with
 |nil=>simp[PyData.depthAll]
 |cons d r ih=>have:=h d (by simp);have:=ih λx hx=>h x (by simp[hx]);simp[PyData.depthAll];omega
theorem M4(h:cV d=true):eqB d d=true:=SeqAt.eqv_refl _ (SeqAt.canLay_of_shaped h)
theorem M5(h:∀x,d≠.str x):eF d e=tM d e:=by
 unfold eF;split
 .exact absurd rfl (h _)
 .rfl
theorem M6(h:∀x,d≠.str x):iz d e=tN d e:=by
 unfold iz;split
 .exact absurd rfl (h _)
 .rfl
theorem GV(h:cV d=true):eF d d=some γa:=by
 unfold eF;split
 .simp
 .unfold tM;rw[h,M4 h];rfl
theorem GW(h:cV d=true):iz d d=some γe:=by
 unfold iz;split
 .simp
 .unfold tN;rw[h,M4 h];rfl
theorem Xu(x:Str):iz θG θG=some γe:=by show some (RV.val (.bl (!decide (x=x))))=_;simp
theorem Xv(ns:u8):j_ εn=true:=by
 induction ns with
 |nil=>rfl
 |cons t r ih=>simp[j_,qN,ih]
@[simp] theorem Cd{ns:u8}:jy (.new (.lst εn))=true:=Xv ns
@[simp] theorem y0:jy (.val θI)=true:=rfl
@[simp] theorem Ce:jy (.val (.bl n))=true:=rfl
@[simp] theorem y_:jy δw=true:=rfl
end Tr
namespace cZ
open PySem L2 Ex Dv Tr St So
theorem Xw{p:Prop}(h:¬p):cd p=false:=by cases q:cd p with|false=>rfl|true=>exact absurd (mV q) h
theorem za(i:Int):qj [.int i]=some (.val (.bl (decide (0<=i)&&decide (i<=30)))):=by by_cases h:0<=i<;>by_cases h':i<=30<;>simp[qj,Gh,ba,bC,gam,k7,h,h']
theorem ki(i j:Int):eF γT ηu=some (.val (.bl (decide (i=j)))):=by
 have:eqB γT ηu=decide (i=j):=by show(i == j)=_;by_cases h:i=j<;>simp[h]
 rw[M5 (by intro x z;cases z)];unfold tM;rw[this];rfl
theorem v8{α:Type}(xs:ζi)(n:Nat):fq xs none (some (n:Int))=xs.take n:=by unfold fq;rw[HT.jr];simp[HT.bB]
theorem lr(a b:D):L2.dn [a,b] 0=some a:=rfl
theorem lR(a b:D):L2.dn [a,b] 1=some b:=rfl
theorem M7(i j:Int):iz γT ηu=some (.val (.bl (!decide (i=j)))):=by
 have:eqB γT ηu=decide (i=j):=by show(i == j)=_;by_cases h:i=j<;>simp[h]
 rw[M6 (λ_=>by simp)];unfold tN;rw[this];rfl
theorem sI(h:s Γ=.ok .nx ai)(h':s' ai=r):aP s s' Γ=r:=by rw[UW,h];exact h'
noncomputable def uz(i:Nat)(ds:γd):List D:=(ds.zipIdx i).map λp=>D.tup [.int p.2,p.1]
theorem GY(i:Nat)(d:D)(r:γd):uz i (d::r)=.tup [.int i,d]::uz (i+1) r:=rfl
theorem GZ(ds:γd):lN ds=uz 0 ds:=rfl
noncomputable def v9:D->D
 |.tup [a,b]=>.tup [b,a]
 |d=>d
theorem M8(h:∀d∈ds,∃a b,d=.tup [a,b]):dD [] 2 ι γp (dC (ZY γl (ZY γb (M.pure [])))) ds Γ=.ok (ds.map v9) Γ:=by
 have ln:=line;have l2:2<=sizeLine:=by omega
 refine su v9 λd hd=>?_;obtain⟨a,b,rfl⟩:=h d hd;refine⟨[some (.ae,a),some (.ae,b)],?_,rfl⟩;simp[bL,v9,l2]
theorem G0:∀{cs:P3},(∀c∈cs,bU c)->asP (cs.map pD)=some cs
 |[],_=>rfl
 |c::r,h=>by obtain⟨⟨h1,h2⟩,h3,h4⟩:=h c (qag ..);rw[qav];show(if decide (0<=c.1)&&decide (c.1<=30)&&decide (0<=c.2)&&decide (c.2<=30) then (asP (r.map pD)).map (c :: ·) else none)=_;rw[qaF (by simp only[Bool.and_eq_true,decide_eq_true_eq];exact⟨⟨⟨h1,h2⟩,h3⟩,h4⟩),G0 λx hx=>h x θB];rfl
abbrev sw(cs:P3):List D:=(cs.map pD).map v9
theorem gY(cs:P3):(sw cs).length=cs.length:=by simp
theorem gZ(c:Int×Int)(r:P3):sw (c::r)=.tup [.int c.2,.int c.1]::sw r:=rfl
theorem M9:∀cs:P3,(sw cs).map v9=cs.map pD
 |[]=>rfl
 |c::r=>by rw[gZ,qav,qav,M9 r];rfl
theorem Xx(cs:P3):∀d∈cs.map pD,∃a b,d=D.tup [a,b]:=λd hd=>by obtain⟨c,_,rfl⟩:=qaE.mp hd;exact⟨_,_,rfl⟩
theorem lu(h:d∈sw cs):∃c∈cs,d=.tup [.int c.2,.int c.1]:=by obtain⟨e,he,rfl⟩:=qaE.mp h;obtain⟨c,hc,rfl⟩:=qaE.mp he;exact⟨c,hc,rfl⟩
theorem Xy(cs:P3):∀d∈sw cs,∃a b,d=D.tup [a,b]:=λd hd=>by obtain⟨c,_,rfl⟩:=lu hd;exact⟨_,_,rfl⟩
theorem v_(cs:P3):(aE cs).length<=cs.length:=by
 rw[(Ft cs).length_eq]
 have go:∀(l σ:P3),(l.foldl PyProof.Rows.step_dedup σ).length<=σ.length+l.length:=by
  intro l;induction l with
  |nil=>intro σ;simp
  |cons c r ih =>
    intro σ;rw[List.foldl_cons];refine qaO (ih _) ?_;unfold PyProof.Rows.step_dedup;split<;>simp<;>omega
 have:=go cs [];simpa [yn]using this
theorem Xz(sm:∀c∈cs,bU c):aE γ2=aE cs:=
 (yo (cs:=aE cs) (l:=aE cs) (λc hc=>sm c (au.mp hc)) (BF cs) (Fu cs) λc=>Iff.rfl).symm
theorem XA:dD [] 2 ι γp (dC (ZY γl (ZY γb (M.pure [])))) θ Γ=.ok (cs.map pD) Γ:=by have z:=M8 (Γ:=Γ) (Xy cs);rw[M9]at z;exact z
theorem M_{cs:P3}:dD [] 2 ι γp (dC (ZY γl (ZY γb (M.pure [])))) (cs.map pD) Γ=.ok θ Γ:=M8 (Xx cs)
theorem order_eq(sm:∀c∈cs,bU c)(hl:cs.length<64):vQ [.lst θ]=some (.new (.lst γm)):=by
 have ln:=line;have l1:(sw cs).length<64:=by rw[gY];exact hl
 have l2:((aE cs).map pD).length<sizeLine:=by rw[qaf];have:=v_ cs;omega
 have e1:=λΓ=>XA (cs:=cs) (Γ:=Γ);have e2:=λΓ=>M_ (cs:=aE cs) (Γ:=Γ);have e3:=G0 sm;generalize hS:sw cs=S at *;generalize hT:sw γ2=T at *;generalize hP:cs.map pD=P at *;generalize hQ:(aE cs).map pD=Q at *;simp[vQ,Gg,ba,bC,gam,l1,e1,e3,hQ,l2,e2]
theorem XD(k i:Int):nq [.tup [.int k,.int i]]=some (.val (.bl ((decide (0<=k)&&decide (k<=30))&&(decide (0<=i)&&decide (i<=30))))):=by have q:eF (.int 2) (.int 2)=some γa:=GV (by decide);have k1:=za k;have k2:=za i;generalize (decide (0<=k)&&decide (k<=30))=b1 at *;generalize (decide (0<=i)&&decide (i<=30))=b2 at *;cases b1<;>cases b2<;>simp[nq,Gi,ba,bC,gam,k7,q,lr,lR,k1,k2]
theorem zb(h:bU c):nq [.tup [.int c.2,.int c.1]]=some γa:=by obtain⟨⟨h1,h2⟩,h3,h4⟩:=h;rw[XD];simp[h1,h2,h3,h4]
theorem Na:∀(ds:γd) (i:Nat) (x1 x2:Sl),(∀d∈ds,nq [d]=some γa) ->
 ∃y1 y2,gX (gT 2 γ4) Gj (uz i ds) [x0,x1,x2]=.ok .nx [x0,y1,y2]
 |[],i,x1,x2,_=>⟨x1,x2,rfl⟩
 |d::r,i,x1,x2,h=>by obtain⟨y1,y2,ih⟩:=Na (x0:=x0) r (i+1) (some (.ae,.int i)) (some (.ae,d)) λb hb=>h b (qae _ hb);refine⟨y1,y2,?_⟩;rw[GY,k_];rw[<-ih];simp[Gj,h d (List.mem_cons_self ..)]
theorem Nb{ds:γd}(hl:ds.length<=200)(h:∀d∈ds,nq [d]=some γa):uo [.lst ds]=some δw:=by
 obtain⟨y1,y2,hy⟩:=Na (x0:=some (.ae,.lst ds)) ds 0 none none h;have h1:¬(200<(ds.length:Int)):=by omega
 unfold uo Gk;simp[ba,bC,gam,h1,GZ,hy]
noncomputable abbrev pO(ds:γd):D:=.obj .Points ["held"] [.lst ds]
theorem zc:∀cs:P3,j_ θ=true
 |[]=>rfl
 |c::r=>zc r
theorem Cf(sm:∀c∈cs,bU c)(hl:cs.length<=63):qY [.lst θ]=some (.ok (.val (pO γm))):=by have e1:=order_eq sm (by omega);have e2:=Nb (ds:=sw cs) (by rw[gY];omega) (λd hd=>by obtain⟨c,hc,rfl⟩:=lu hd;exact zb (sm c hc));have e3:=zc γ2;generalize sw cs=S at *;generalize sw γ2=T at *;simp[qY,Dv.runN,sC,Gm,Gn,Gq,gam,e1,e2,e3,yt,isNone]
theorem sJ:cd True=true:=gf trivial
theorem wa(ds:γd):qk [pO ds]=some (.new εl):=by simp[qk,Gs,ba,bC,gam,sJ]
theorem wb(k i:Int):cV (.tup [.int k,.int i])=true:=by unfold cV SeqAt.shaped;simp[D.py,D.iJ,PyData.canLay0,PyData.canLayAll0,PyData.depth,PyData.depthAll]
theorem Cg(k i k' i':Int):eqB (.tup [.int k,.int i]) (.tup [.int k',.int i'])=(decide (k=k')&&decide (i=i')):=by show PyData.eqv _ _=_;simp[D.py,D.iJ,PyData.eqv,PyData.eqvAll];rw[qa4];simp
theorem Nd(cs:P3)(k i:Int):(sw cs).any (λe=>eqB e (.tup [.int k,.int i]))=decide ((i,k)∈cs):=by
 induction cs with
 |nil=>simp
 |cons c r ih =>
   rw[gZ,List.any_cons,ih,Cg];rw[qa4];simp[Prod.ext_iff];constructor
   .rintro(⟨a,b⟩|h)
    .exact .inl ⟨b.symm,a.symm⟩
    .exact .inr h
   .rintro(⟨a,b⟩|h)
    .exact .inl ⟨b.symm,a.symm⟩
    .exact .inr h
theorem Ci(cs:P3):(sw cs).all cV=true:=by rw[qaP];intro d hd;obtain⟨c,_,rfl⟩:=lu hd;exact wb _ _
theorem G2(cs:P3)(k i:Int):vJ (.tup [.int k,.int i]) δ3=some (.val (.bl (decide ((i,k)∈cs)))):=by show(if cV (.tup [.int k,.int i])&&(sw cs).all cV then some (RV.val (.bl ((sw cs).any λe=>eqB e (.tup [.int k,.int i])))) else none)=_;rw[wb,Ci,Nd];rfl
theorem has_eq(h:bU (i,k)):mD [pO θ,.tup [.int k,.int i]]=some (.val (.bl (decide ((i,k)∈cs)))):=by have e1:=zb h;have e2:=G2 cs k i;simp only at e1;generalize sw cs=S at *;simp[mD,B6,ba,bC,gam,e1,e2,sJ]
theorem XE(h:nq [d]=some γe):mD [pO ds,d]=some γe:=by simp[mD,B6,ba,bC,gam,h,sJ]
end cZ
namespace Dv
open PySem L2 Ex
section
variable{Γ:En}{f:M RV}{p:δN}{fr:zzc}{own i1:Nat}
theorem Nf(F:D->D):∀{ds:γd},(∀e∈ds,∃ai,nR (gN i1) p f e Γ=.ok (some (F e)) ai/\ai.set i1 none=Γ)->mz i1 (gN i1) p f ds Γ=.ok (ds.map F) Γ
 |[],_=>rfl
 |d::r,h=>by obtain⟨ai,h1,h2⟩:=h d (qag ..);have ih:=Nf F λe he=>h e (qae _ he);unfold mz;rw[h1];simp only[h2,ih];rfl
theorem Ng(F:D->List D):∀{ds:γd},(∀d∈ds,∃bW,em d δS=.ok (F d) bW/\aW fr own Γ bW=Γ)->mB fr own em ds Γ=.ok (ds.flatMap F) Γ
 |[],_=>rfl
 |d::r,h=>by obtain⟨ai,h1,h2⟩:=h d (qag ..);have ih:=Ng F λe he=>h e (qae _ he);unfold mB;rw[h1];simp only[h2,ih];rfl
@[simp] theorem G3:uc m p cf inn d Γ=M.bind ηA (λ_=>M.bind p λb=>if b then M.bind cf inn else M.pure []) Γ:=(rfl)
end
end Dv
namespace Bp
open PySem Dv St So
noncomputable abbrev C:=Int×Int
noncomputable def aZ(cs:γh)(m:Int):u8:=(cs.filter λc=>c.1 == m).map (·.2)
theorem a9:k∈aZ cs m ↔ (m,k)∈cs:=by
 unfold aZ;rw[qaE];constructor
 .rintro⟨c,hc,rfl⟩;rw[qaL]at hc;have:=eq_of_beq hc.2;rw[<-this];exact hc.1
 .intro h;exact⟨(m,k),qaL.mpr ⟨h,by simp⟩,rfl⟩
def ins(a b c:C):Prop:=(a.2<=c.2/\c.2<=b.2\/b.2<=c.2/\c.2<=a.2)/\(a.1<=c.1/\c.1<=b.1\/b.1<=c.1/\c.1<=a.1)
instance(a b c:C):Decidable (ins a b c):=by unfold ins;infer_instance
noncomputable def third(cs:γh)(a b:C):List C:=cs.filter λc=>decide (c≠a/\c≠b/\ins a b c)
noncomputable def bo(cs:γh)(a b:C):Bool:=decide (a.2≠b.2/\a.1≠b.1)&&(third cs a b).isEmpty
theorem aT:bo cs a b=true ↔ (a.2≠b.2/\a.1≠b.1)/\∀c∈cs,c≠a->c≠b -> ¬ins a b c:=by
 unfold bo third;rw[qay,qa6,List.isEmpty_iff,qbM];constructor
 .rintro⟨h1,h2⟩;exact⟨h1,λc hc n1 n2 z=>h2 c hc (qan ⟨n1,n2,z⟩)⟩
 .rintro⟨h1,h2⟩;exact⟨h1,λc hc z=>by obtain⟨n1,n2,z⟩:=qaI z;exact h2 c hc n1 n2 z⟩
noncomputable def after(cs:γh):List C->List (C×C)
 |[]=>[]
 |a::r=>(r.filter εB).map (λb=>(a,b))++after cs r
noncomputable def bare(cs:γh):List (C×C):=after cs cs
noncomputable def nW(xs:u8):u8:=xs.drop (xs.length-1)
def lesser(ks:u8)(low key:Int):u8:=nW (ks.filter λn=>decide (low<n)&&decide (n<key))
noncomputable def greater(ks:u8)(key high:Int):u8:=(ks.filter λn=>decide (key<n)&&decide (n<high)).take 1
def lb(cs:γh)(start key:Int):Int->Int->u8->List C
 |_,_,[]=>[]
 |low,high,m::r =>
   if m<start then lb cs start key low high r
   else if start<m/\key∈aZ cs m then []
   else (if start<m then (lesser γW low key++greater γW key high).map λn=>(m,n) else [])++lb cs start key ((lesser γW low key).headD low) ((greater γW key high).headD high) r
theorem Nh{xs:u8}(pw:xs.Pairwise (· < ·)):k∈nW xs ↔ k∈xs/\∀n∈xs,n<=k:=by
 unfold nW;induction xs with
 |nil=>simp
 |cons x r ih =>
   cases r with
   |nil=>simp;intro h;omega
   |cons y r =>
     rw[qbh]at pw;have e:(x::y::r).drop ((x::y::r).length-1)=(y::r).drop ((y::r).length-1):=by simp
     rw[e,ih pw.2];constructor
     .rintro⟨h1,h2⟩;refine⟨qae _ h1,λn hn=>?_⟩;rcases qak.mp hn with rfl|hn
      .exact Int.le_of_lt (pw.1 _ h1)
      .exact h2 n hn
     .rintro⟨h1,h2⟩;rcases qak.mp h1 with rfl|h1
      .have:=pw.1 y (qag ..);have:=h2 y (by simp);omega
      .exact⟨h1,λn hn=>h2 n (qae _ hn)⟩
theorem Nj{xs:u8}(pw:xs.Pairwise (· < ·)):k∈xs.take 1 ↔ k∈xs/\∀n∈xs,k<=n:=by
 cases xs with
 |nil=>simp
 |cons x r =>
   rw[qbh]at pw;simp only[List.take_succ_cons,List.take_zero,List.mem_singleton];constructor
   .rintro rfl;refine⟨qag ..,λn hn=>?_⟩;rcases qak.mp hn with rfl|hn
    .exact qbL _
    .exact Int.le_of_lt (pw.1 n hn)
   .rintro⟨h1,h2⟩;rcases qak.mp h1 with h|h
    .exact h
    .have:=pw.1 k h;have:=h2 x (qag ..);omega
theorem Nk{xs:u8}(h:xs.length<=1):xs=[]/\xs.headD d=d\/xs=[xs.headD d]:=by
 match xs,h with
 |[],_=>exact .inl ⟨rfl,rfl⟩
 |[x],_=>exact .inr rfl
theorem ze(xs:u8):(nW xs).length<=1:=by unfold nW;rw[List.length_drop];omega
theorem zf(xs:u8):(xs.take 1).length<=1:=by rw[qbv];omega
structure Cs(cs:γh):Prop where
 sm:∀c∈cs,bU c
 pw:cs.Pairwise λa b=>enc a<enc b
theorem zg(S:Cs cs)(m:Int):(aZ cs m).Pairwise (· < ·):=by unfold aZ;rw[List.pairwise_map];have:=S.pw.filter (λc=>c.1 == m);refine List.Pairwise.imp_of_mem (λ{a b} ha hb h=>?_) this;have e1:=eq_of_beq (qaL.mp ha).2;have e2:=eq_of_beq (qaL.mp hb).2;have h:31*a.1+a.2<31*b.1+b.2:=h;omega
theorem zh(S:Cs cs):k∈lesser γW low key ↔ ((m,k)∈cs/\low<k/\k<key)/\∀n,(m,n)∈cs->low<n->n<key->n<=k:=by unfold lesser;rw[Nh ((zg S m).filter _),qaL,a9,qay,qa6,qa6];refine and_congr Iff.rfl ⟨λh n h1 h2 h3=>h n (qaL.mpr ⟨a9.mpr h1,by simp[h2,h3]⟩),λh n hn=>?_⟩;rw[qaL,a9,qay,qa6,qa6]at hn;exact h n hn.1 hn.2.1 hn.2.2
theorem zi(S:Cs cs):k∈greater γW key high ↔ ((m,k)∈cs/\key<k/\k<high)/\∀n,(m,n)∈cs->key<n->n<high->k<=n:=by unfold greater;rw[Nj ((zg S m).filter _),qaL,a9,qay,qa6,qa6];refine and_congr Iff.rfl ⟨λh n h1 h2 h3=>h n (qaL.mpr ⟨a9.mpr h1,by simp[h2,h3]⟩),λh n hn=>?_⟩;rw[qaL,a9,qay,qa6,qa6]at hn;exact h n hn.1 hn.2.1 hn.2.2
structure Iv(cs:γh)(start key low high:Int)(ms:u8):Prop where
 l1:∀m k,(m,k)∈cs->start<=m->m∉ms->k<key->k<=low
 l2:low<key/\(low = -1\/∃m,(m,low)∈cs/\start<=m/\m∉ms)
 h1:∀m k,(m,k)∈cs->start<=m->m∉ms->key<k->high<=k
 h2:key<high/\(high=31\/∃m,(m,high)∈cs/\start<=m/\m∉ms)
 no:∀m,(m,key)∈cs->start<m->m∉ms->False
 up:ms.Pairwise (· < ·)
 cv:∀m k,(m,k)∈cs->m∉ms->∀m'∈ms,m<m'
theorem Iv.skip{cs:γh}{start key low high m:Int}{r:u8}(I:Iv cs start key low high (m::r))(h:m<start):Iv cs start key low high r:=by
 have nin:∀{x:Int},start<=x->x∉r->x∉m::r:=λhx hr z=>by
  rcases qak.mp z with e|e
  .omega
  .exact hr e
 have up:=qbh.mp I.up;refine⟨λx k hx hs hr=>I.l1 x k hx hs (nin hs hr),⟨I.l2.1,I.l2.2.imp id λ⟨x,a,b,c⟩=>⟨x,a,b,λz=>c (qae _ z)⟩⟩,λx k hx hs hr=>I.h1 x k hx hs (nin hs hr),⟨I.h2.1,I.h2.2.imp id λ⟨x,a,b,c⟩=>⟨x,a,b,λz=>c (qae _ z)⟩⟩,λx hx hs hr=>I.no x hx hs (nin (by omega) hr),up.2,λx k hx hr x' hx'=>?_⟩;by_cases e:x=m
 .rw[e];exact up.1 x' hx'
 .exact I.cv x k hx (λz=>(qak.mp z).elim e hr) x' (qae _ hx')
theorem Iv.step{cs:γh}(S:Cs cs){start key low high m:Int}{r:u8}(I:Iv cs start key low high (m::r))(h:start<=m)(hk:¬(start<m/\key∈aZ cs m)):Iv cs start key ((lesser γW low key).headD low) ((greater γW key high).headD high) r:=by
 have up:=qbh.mp I.up;have mr:m∉r:=λz=>Int.lt_irrefl _ (up.1 m z)
 have sp:∀{x:Int},x∉r->x∉m::r\/x=m:=λ{x} hr=>by
  by_cases e:x=m
  .exact .inr e
  .exact .inl λz=>(qak.mp z).elim e hr
 have lo:((lesser γW low key).headD low=low/\∀n,(m,n)∈cs->low<n -> ¬n<key)\/((lesser γW low key).headD low)∈lesser γW low key:=by
  rcases Nk (d:=low) (ze ((aZ cs m).filter λn=>decide (low<n)&&decide (n<key))) with ⟨e,e2⟩|e
  .refine .inl ⟨e2,λn hn h1 h2=>?_⟩
   have ne:(aZ cs m).filter (λn=>decide (low<n)&&decide (n<key))≠[]:=λz=>by have:n∈(aZ cs m).filter (λn=>decide (low<n)&&decide (n<key)):=qaL.mpr ⟨a9.mpr hn,by simp[h1,h2]⟩;rw[z]at this;cases this
   unfold nW at e;rw[List.drop_eq_nil_iff]at e;have:=List.length_pos_iff.mpr ne;omega
  .refine .inr ?_;have e:lesser γW low key=[(lesser γW low key).headD low]:=e;rw[e];simp
 have hg:((greater γW key high).headD high=high/\∀n,(m,n)∈cs->key<n -> ¬n<high)\/((greater γW key high).headD high)∈greater γW key high:=by
  rcases Nk (d:=high) (zf ((aZ cs m).filter λn=>decide (key<n)&&decide (n<high))) with ⟨e,e2⟩|e
  .refine .inl ⟨e2,λn hn h1 h2=>?_⟩;have:n∈(aZ cs m).filter (λn=>decide (key<n)&&decide (n<high)):=qaL.mpr ⟨a9.mpr hn,by simp[h1,h2]⟩;cases q:(aZ cs m).filter (λn=>decide (key<n)&&decide (n<high)) with
   |nil=>rw[q]at this;cases this
   |cons a b=>rw[q]at e;cases e
  .refine .inr ?_;have e:greater γW key high=[(greater γW key high).headD high]:=e;rw[e];simp
 have XF:low<=(lesser γW low key).headD low:=by
  rcases lo with ⟨e,_⟩|e
  .rw[e];exact qbL _
  .have:=((zh S).mp e).1;omega
 have hle:(greater γW key high).headD high<=high:=by
  rcases hg with ⟨e,_⟩|e
  .rw[e];exact qbL _
  .have:=((zi S).mp e).1;omega
 refine⟨λx k hx hs hr hkk=>?_,?_,λx k hx hs hr hkk=>?_,?_,λx hx hs hr=>?_,up.2,λx k hx hr x' hx'=>?_⟩
 .rcases sp hr with z|rfl
  .exact Int.le_trans (I.l1 x k hx hs z hkk) XF
  .by_cases q:low<k
   .rcases lo with ⟨_,n⟩|e
    .exact absurd hkk (n k hx q)
    .exact((zh S).mp e).2 k hx q hkk
   .omega
 .rcases lo with ⟨e,_⟩|e
  .rw[e];exact⟨I.l2.1,I.l2.2.imp id λ⟨x,a,b,c⟩=>⟨x,a,b,λz=>c (qae _ z)⟩⟩
  .have q:=((zh S).mp e).1;exact⟨q.2.2,.inr ⟨m,q.1,h,mr⟩⟩
 .rcases sp hr with z|rfl
  .exact Int.le_trans hle (I.h1 x k hx hs z hkk)
  .by_cases q:k<high
   .rcases hg with ⟨_,n⟩|e
    .exact absurd q (n k hx hkk)
    .exact((zi S).mp e).2 k hx hkk q
   .omega
 .rcases hg with ⟨e,_⟩|e
  .rw[e];exact⟨I.h2.1,I.h2.2.imp id λ⟨x,a,b,c⟩=>⟨x,a,b,λz=>c (qae _ z)⟩⟩
  .have q:=((zi S).mp e).1;exact⟨q.2.1,.inr ⟨m,q.1,h,mr⟩⟩
 .rcases sp hr with z|rfl
  .exact I.no x hx hs z
  .exact hk ⟨hs,a9.mpr hx⟩
 .by_cases e:x=m
  .rw[e];exact up.1 x' hx'
  .exact I.cv x k hx (λz=>(qak.mp z).elim e hr) x' (qae _ hx')
def Fd(cs:γh)(start key m k:Int):Prop:=start<m/\(m,k)∈cs/\k≠key/\∀c∈cs,c≠(start,key)->c≠(m,k) -> ¬ins (start,key) (m,k) c
theorem uA{start key m k:Int}(h:start<m){c:C}:ins (start,key) (m,k) c ↔ (key<=c.2/\c.2<=k\/k<=c.2/\c.2<=key)/\start<=c.1/\c.1<=m:=by unfold ins;refine and_congr Iff.rfl ?_;dsimp only;omega
theorem Nl{cs:γh}(S:Cs cs){start key low high m k:Int}{r:u8}(I:Iv cs start key low high (m::r))(h:start<m)(hk:¬key∈aZ cs m):k∈lesser γW low key++greater γW key high ↔ Fd cs start key m k:=by
 rw[qaH,zh S,zi S];have nk:(m,key)∉cs:=λz=>hk (a9.mpr z)
 have old:∀x n,(x,n)∈cs->x≠m->x<=m->x∉m::r:=λx n hx h1 h2 z=>by
  rcases qak.mp z with e|e
  .exact h1 e
  .have:=(qbh.mp I.up).1 x e;omega
 constructor
 .rintro(⟨⟨h1,h2,h3⟩,h4⟩|⟨⟨h1,h2,h3⟩,h4⟩)
  .refine⟨h,h1,by omega,λc hc n1 n2 z=>?_⟩;rw[uA h]at z;obtain⟨x,n⟩:=c;dsimp only at z;by_cases e:x=m
   .subst e;by_cases e2:n=key
    .rw[e2]at hc;exact nk hc
    .have:=h4 n hc (by omega) (by omega);exact n2 (by rw[show n=k by omega])
   .have o:=old x n hc e (by omega);by_cases e2:n=key
    .subst e2;by_cases e3:x=start
     .exact n1 (by rw[e3])
     .exact I.no x hc (by omega) o
    .have:=I.l1 x n hc (by omega) o (by omega);omega
  .refine⟨h,h1,by omega,λc hc n1 n2 z=>?_⟩;rw[uA h]at z;obtain⟨x,n⟩:=c;dsimp only at z;by_cases e:x=m
   .subst e;by_cases e2:n=key
    .rw[e2]at hc;exact nk hc
    .have:=h4 n hc (by omega) (by omega);exact n2 (by rw[show n=k by omega])
   .have o:=old x n hc e (by omega);by_cases e2:n=key
    .subst e2;by_cases e3:x=start
     .exact n1 (by rw[e3])
     .exact I.no x hc (by omega) o
    .have:=I.h1 x n hc (by omega) o (by omega);omega
 .rintro⟨_,h1,h2,h3⟩;have sm:=S.sm _ h1;have b1:0<=k:=sm.2.1;have b2:k<=30:=sm.2.2;by_cases e:k<key
  .refine .inl ⟨⟨h1,?_,e⟩,λn hn q1 q2=>?_⟩
   .rcases I.l2.2 with z|⟨x,hx,hs,hr⟩
    .omega
    .apply qa9;intro q;have xm:x<m:=I.cv x low hx hr m (qag ..);refine h3 (x,low) hx (λz=>?_) (λz=>?_) ((uA h).mpr ⟨.inr ⟨by show k<=low;omega,by have:=I.l2.1;show low<=key;omega⟩,hs,by show x<=m;omega⟩)
     .have:=I.l2.1;have:=congrArg Prod.snd z;simp at this;omega
     .have:=congrArg Prod.fst z;simp at this;omega
   .apply qa9;intro q;refine h3 (m,n) hn (λz=>?_) (λz=>?_) ((uA h).mpr ⟨.inr ⟨by show k<=n;omega,by show n<=key;omega⟩,by show start<=m;omega,qbL _⟩)
    .have:=congrArg Prod.snd z;simp at this;omega
    .have:=congrArg Prod.snd z;simp at this;omega
  .refine .inr ⟨⟨h1,by omega,?_⟩,λn hn q1 q2=>?_⟩
   .rcases I.h2.2 with z|⟨x,hx,hs,hr⟩
    .omega
    .apply qa9;intro q;have xm:x<m:=I.cv x high hx hr m (qag ..);refine h3 (x,high) hx (λz=>?_) (λz=>?_) ((uA h).mpr ⟨.inl ⟨by have:=I.h2.1;show key<=high;omega,by show high<=k;omega⟩,hs,by show x<=m;omega⟩)
     .have:=I.h2.1;have:=congrArg Prod.snd z;simp at this;omega
     .have:=congrArg Prod.fst z;simp at this;omega
   .apply qa9;intro q;refine h3 (m,n) hn (λz=>?_) (λz=>?_) ((uA h).mpr ⟨.inl ⟨by show key<=n;omega,by show n<=k;omega⟩,by show start<=m;omega,qbL _⟩)
    .have:=congrArg Prod.snd z;simp at this;omega
    .have:=congrArg Prod.snd z;simp at this;omega
theorem Cj{cs:γh}(S:Cs cs){start key:Int}:∀{ms:u8}{low high:Int},Iv cs start key low high ms->∀m k,(m,k)∈lb cs start key low high ms ↔ m∈ms/\Fd cs start key m k
 |[],low,high,_,m,k=>by unfold lb;simp
 |m0::r,low,high,I,m,k=>by
   have up:=(qbh.mp I.up).1;unfold lb;by_cases h0:m0<start
   .rw[qaF h0,Cj S (I.skip h0)];constructor
    .rintro⟨a,b⟩;exact⟨qae _ a,b⟩
    .rintro⟨a,b⟩;rcases qak.mp a with rfl|a
     .have:=b.1;omega
     .exact⟨a,b⟩
   .rw[qaC h0];by_cases hb:start<m0/\key∈aZ cs m0
    .rw[qaF hb];constructor
     .intro z;cases z
     .rintro⟨a,b1,b2,b3,b4⟩;exfalso
      have hm:m0<=m:=by
       rcases qak.mp a with rfl|a
       .exact qbL _
       .have:=up m a;omega
      refine b4 (m0,key) (a9.mp hb.2) (λz=>?_) (λz=>?_) ((uA b1).mpr ⟨?_,by show start<=m0;omega,hm⟩)
      .have:=congrArg Prod.fst z;simp at this;omega
      .have:=congrArg Prod.snd z;simp at this;exact b3 this.symm
      .show key<=key/\key<=k\/k<=key/\key<=key;omega
    .rw[qaC hb,qaH,Cj S (I.step S (by omega) hb)]
     have G4:(m,k)∈(if start<m0 then (lesser (aZ cs m0) low key++greater (aZ cs m0) key high).map (λn=>(m0,n)) else []) ↔ m=m0/\Fd cs start key m k:=by
      by_cases hs:start<m0
      .rw[qaF hs,qaE];have rm:=λn=>Nl S (k:=n) I hs (λz=>hb ⟨hs,z⟩);constructor
       .rintro⟨n,hn,e⟩;cases e;exact⟨rfl,(rm k).mp hn⟩
       .rintro⟨rfl,hf⟩;exact⟨k,(rm k).mpr hf,rfl⟩
      .rw[qaC hs];constructor
       .intro z;cases z
       .rintro⟨rfl,hf⟩;exact absurd hf.1 hs
     rw[G4,qak];constructor
     .rintro(⟨a,b⟩|⟨a,b⟩)
      .exact⟨.inl a,b⟩
      .exact⟨.inr a,b⟩
     .rintro⟨a|a,b⟩
      .exact .inl ⟨a,b⟩
      .exact .inr ⟨a,b⟩
theorem XG(S:Cs cs):((lesser γW low key++greater γW key high).map λn=>(m,n)).Pairwise λa b=>enc a<enc b:=by
 have one:∀{xs:u8},xs.length<=1->xs.Pairwise (· < ·):=λ{xs} h=>by
  match xs,h with
  |[],_=>exact .nil
  |[x],_=>exact List.pairwise_singleton _ _
 rw[List.pairwise_map]
 have:(lesser γW low key++greater γW key high).Pairwise (· < ·):=by rw[List.pairwise_append];refine⟨one (ze _),one (zf _),λa ha b hb=>?_⟩;have:=((zh S).mp ha).1;have:=((zi S).mp hb).1;omega
 exact this.imp λh=>by show 31*m+_<31*m+_;omega
theorem G5{cs:γh}(S:Cs cs){start key:Int}:∀{ms:u8}{low high:Int},Iv cs start key low high ms->(lb cs start key low high ms).Pairwise λa b=>enc a<enc b
 |[],low,high,_=>.nil
 |m0::r,low,high,I=>by
   have up:=(qbh.mp I.up).1;unfold lb;by_cases h0:m0<start
   .rw[qaF h0];exact G5 S (I.skip h0)
   .rw[qaC h0];by_cases hb:start<m0/\key∈aZ cs m0
    .rw[qaF hb];exact .nil
    .rw[qaC hb,List.pairwise_append];have I':=I.step S (by omega) hb;refine⟨?_,G5 S I',λa ha b hb'=>?_⟩
     .split
      .exact XG S
      .exact .nil
     .split at ha
      .rename_i hs;obtain⟨n,hn,rfl⟩:=qaE.mp ha;obtain⟨b1,b2⟩:=b;obtain⟨q1,q2⟩:=(Cj S I' b1 b2).mp hb';have f:=(Nl S I hs (λz=>hb ⟨hs,z⟩)).mp hn;obtain⟨u1,u2⟩:=(S.sm _ f.2.1).2;obtain⟨u3,u4⟩:=(S.sm _ q2.2.1).2;have:=up b1 q1;dsimp only at u1 u2 u3 u4;show 31*m0+n<31*b1+b2;omega
      .cases ha
abbrev eL(cs:γh):u8:=Dv.fA (L2.dd (cs.map (·.1)))
theorem cn:m∈eL cs ↔ ∃k,(m,k)∈cs:=by unfold eL;rw[(bA _).mem_iff];have:=(ym (cs.map (·.1)) [] qbG).2 m;unfold L2.dd;rw[this];simp
theorem XH(cs:γh):(eL cs).Pairwise (· < ·):=by
 have h1:=D8 (L2.dd (cs.map (·.1)));have h3:(L2.dd (cs.map (·.1))).Nodup:=by unfold L2.dd;exact(ym _ [] qbG).1
 have h2:(eL cs).Nodup:=(bA _).nodup_iff.mpr h3;exact(h1.and h2).imp λ⟨a,b⟩=>by omega
theorem XI{cs:γh}{start key:Int}(hk:0<=key/\key<=30):Iv cs start key (-1) 31 ηV:=
 ⟨λm k hm _ hr=>absurd (cn.mpr ⟨k,hm⟩) hr,⟨by omega,.inl rfl⟩,λm k hm _ hr=>absurd (cn.mpr ⟨k,hm⟩) hr,⟨by omega,.inl rfl⟩,λm hm _ hr=>absurd (cn.mpr ⟨key,hm⟩) hr,XH cs,λm k hm hr=>absurd (cn.mpr ⟨k,hm⟩) hr⟩
theorem Cs.fA(S:Cs l):aE l=l:=(yo (cs:=l) (l:=l) S.sm (S.pw.imp λh e=>by rw[e]at h;exact Int.lt_irrefl _ h) (S.pw.imp λh=>Int.le_of_lt h) λc=>Iff.rfl).symm
theorem XJ{cs pre r:γh}{a:C}(S:Cs cs)(e:cs=pre++a::r):lb cs a.1 a.2 (-1) 31 ηV=r.filter εB:=by
 have ha:a∈cs:=by rw[e];simp
 have sa:=S.sm a ha;have I:=XI (cs:=cs) (start:=a.1) (key:=a.2) sa.2;have pw:=S.pw;rw[e,List.pairwise_append,qbh]at pw
 have uB:∀b:C,b∈r ↔ b∈cs/\enc a<enc b:=λb=>by
  constructor
  .intro h;exact⟨by rw[e];simp[h],pw.2.1.1 b h⟩
  .rintro⟨h1,h2⟩;rw[e]at h1;rcases qaH.mp h1 with z|z
   .have:=pw.2.2 b z a (qag ..);omega
   .rcases qak.mp z with rfl|z
    .omega
    .exact z
 have mm:∀b:C,b∈lb cs a.1 a.2 (-1) 31 ηV ↔ b∈r.filter εB:=λb=>by
  obtain⟨m,k⟩:=b;rw[Cj S I,qaL,uB,aT];constructor
  .rintro⟨_,h1,h2,h3,h4⟩;obtain⟨u1,u2⟩:=(S.sm _ h2).2;obtain⟨u3,u4⟩:=sa.2;dsimp only at u1 u2;refine⟨⟨h2,?_⟩,⟨λz=>h3 z.symm,λz=>?_⟩,h4⟩
   .show 31*a.1+a.2<31*m+k;omega
   .have z:a.1=m:=z;omega
  .rintro⟨⟨h1,h2⟩,⟨h3,h4⟩,h5⟩;obtain⟨u1,u2⟩:=(S.sm _ h1).2;obtain⟨u3,u4⟩:=sa.2;dsimp only at u1 u2;have h2:31*a.1+a.2<31*m+k:=h2;have h4:a.1≠m:=h4;have h3:a.2≠k:=h3;exact⟨cn.mpr ⟨k,h1⟩,by omega,h1,λz=>h3 z.symm,h5⟩
 have S1:Cs (lb cs a.1 a.2 (-1) 31 ηV):=⟨λc hc=>S.sm c ((uB c).mp (qaL.mp ((mm c).mp hc)).1).1,G5 S I⟩;have S2:Cs (r.filter εB):=⟨λc hc=>S.sm c ((uB c).mp (qaL.mp hc).1).1,pw.2.1.2.filter _⟩;rw[<-S2.fA];exact yo S2.sm (S1.pw.imp λh e=>by rw[e]at h;exact Int.lt_irrefl _ h) (S1.pw.imp λh=>Int.le_of_lt h) mm
end Bp
namespace cZ
open PySem L2 Ex Dv Tr St So Bp
noncomputable def fK(m:Int):D->Option D
 |.tup [a,.int i]=>if i=m then some a else none
 |_=>none
theorem Nn(m:Int):∀cs:P3,(sw cs).filterMap (fK m)=(aZ cs m).map D.int
 |[]=>rfl
 |c::r=>by rw[gZ,qaK];rw[show fK m (.tup [.int c.2,.int c.1])=if c.1=m then some (D.int c.2) else none from rfl];have ih:=Nn m r;unfold aZ at ih ⊢;rw[qbt,ih];by_cases h:c.1=m<;>simp[h]
theorem XM{cs:P3}(sm:∀c∈cs,bU c){m:Int}(h:¬(0<=m/\m<=30)):aZ cs m=[]:=by unfold aZ;rw[List.map_eq_nil_iff,qbM];intro c hc z;have:=(sm c hc).1;simp at z;rw[z]at this;exact h this
theorem XN(cs:P3)(m:Int):(aZ cs m).length<=cs.length:=by unfold aZ;rw[qaf];exact List.length_filter_le ..
theorem XO:dD [1] 2 ι (M.bind (op2 eF γl γI) aM) γb θ [x0,some (.ae,.int m)]=.ok ((aZ cs m).map D.int) [x0,some (.ae,.int m)]:=by rw[<-Nn];refine qe (fK m) θ λd hd=>?_;obtain⟨c,hc,rfl⟩:=lu hd;refine⟨[some (.ae,.int c.2),some (.ae,.int c.1),some (.ae,.int m)],?_,rfl⟩;have e:=ki c.1 m;by_cases h:c.1=m<;>simp[bL,ki,h,fK]
theorem Np(sm:∀c∈cs,bU c)(hl:cs.length<64)(m:Int):sH [pO θ,.int m]=some (.new (aw γW)):=by
 have ln:=line;have k:=za m;have l0:0<=sizeLine:=qaW _;have l1:(sw cs).length<sizeLine:=by rw[gY];omega
 have e1:=λx0=>XO (cs:=cs) (m:=m) (x0:=x0);have no:=λh=>XM sm (m:=m) h;generalize sw cs=S at *;by_cases h:0<=m/\m<=30
 .simp[sH,B7,ba,bC,gam,k,h,sJ,l1,e1]
 .have h2:(decide (0<=m)&&decide (m<=30))=false:=by rw[Bool.eq_false_iff];intro z;simp at z;exact h z
  rw[h2]at k
  rw[no h]
  simp[sH,B7,ba,bC,gam,k,l0]
theorem XQ:dD [] 2 ι γp γl θ Γ=.ok ((cs.map (·.1)).map D.int) Γ:=by
 have e:(sw cs).map (λd=>match d with|.tup [_,a]=>a|d=>d)=(cs.map (·.1)).map D.int:=by
  induction cs with
  |nil=>rfl
  |cons c r ih=>rw[gZ,qav,ih];rfl
 rw[<-e];refine su _ λd hd=>?_;obtain⟨c,hc,rfl⟩:=lu hd;exact⟨[some (.ae,.int c.2),some (.ae,.int c.1)],by simp[bL],rfl⟩
theorem Nq{cs:P3}(hl:cs.length<64):vR [pO θ]=some (.new (aw (fA (dd (cs.map (·.1)))))):=by
 have l1:(sw cs).length<64:=by rw[gY];omega
 have e1:=λΓ=>XQ (cs:=cs) (Γ:=Γ);have e2:=vj (cs.map (·.1))
 have l2:(dd (cs.map (·.1))).length<64:=by have:=n4 (cs.map (·.1)) [];rw[qaf]at this;exact Nat.lt_of_le_of_lt this (by simpa using hl)
 generalize sw cs=S at *;generalize cs.map (·.1)=ks at *;generalize ks.map D.int=P at *;simp[vR,Gv,ba,bC,gam,sJ,l1,e1,e2,l2]
theorem Nr(xs:γd):fq xs (some (-1)) none=xs.drop (xs.length-1):=by
 unfold fq
 have e:HT.bB xs.length 0 (some (-1))=xs.length-1:=by simp only[HT.bB];rw[qaF (by omega)];omega
 rw[e];simp[HT.bB];rw[List.take_of_length_le (by rw[List.length_drop];omega)]
theorem Nu{ks:u8}{a b:Int}{i j:Nat}{Γ:En}(hi:Γ[i]?=some (some (.ae,.int a)))(hj:Γ[j]?=some (some (.ae,.int b)))(hne:i≠j):dD [i,j] 1 δ0 δl γb δo Γ=.ok ((ks.filter λn=>decide (a<n)&&decide (n<b)).map D.int) Γ:=by
 have e:(ks.filter λn=>decide (a<n)&&decide (n<b)).map D.int=(ks.map D.int).filterMap λd=>match d with|.int n=>if (decide (a<n)&&decide (n<b))=true then some θI else none|_=>none:=by
  induction ks with
  |nil=>rfl
  |cons n r ih =>
    rw[qav,qaK,qbt,<-ih];by_cases h:(decide (a<n)&&decide (n<b))=true
    .simp only[h,if_true,List.map_cons]
    .simp only[h,if_false];rfl
 rw[e];refine qe _ _ λd hd=>?_;obtain⟨n,_,rfl⟩:=qaE.mp hd;have li:=(qad.mp hi).1;have lj:=(qad.mp hj).1;refine⟨[some (.ae,.int n),some (.ae,.int a),some (.ae,.int b)],?_,?_⟩
 .by_cases h1:a<n<;>by_cases h2:n<b<;>simp[bL,hi,hj,h1,h2]
 .show((Γ.set i (some (.ae,.int a))).set j (some (.ae,.int b)))=Γ
  have s1:Γ.set i (some (.ae,.int a))=Γ:=by have:=(qad.mp hi).2;rw[<-this,qbB]
  rw[s1];have:=(qad.mp hj).2;rw[<-this,qbB]
def kj(cs:γh)(m:Int):D:=.tup [.int m,aw δy]
abbrev fE(x0 x1:Sl)(key start low high:Int)(fd:γh)(x7 x8 x9 x10:Sl):En:=[x0,x1,some (.ae,.int key),some (.ae,.int start),some (.ae,.int low),some (.ae,.int high),some (.own,.lst (sw fd)),x7,x8,x9,x10]
theorem inF(ks:u8)(k:Int):xI false (.int k) (aw ks)=some (.val (.bl (decide (k∈ks)))):=by
 have h1:∀l:u8,(l.map D.int).all rX=true:=λl=>by induction l with|nil=>rfl|cons a r ih=>exact ih
 have h2:∀l:u8,(l.map D.int).any (λe=>tQ e (.int k))=decide (k∈l):=λl=>by
  induction l with
  |nil=>simp
  |cons a r ih =>
    rw[qav,List.any_cons,ih];show(a == k || _)=_;by_cases e:a=k
    .subst e;simp
    .have e':¬k=a:=λz=>e z.symm;simp[e,e']
 show(if rX (.int k)&&(ks.map D.int).all rX then some (RV.val (.bl ((ks.map D.int).any λe=>tQ e (.int k)))) else none)=_;rw[h1,h2];rfl
theorem Nv(h:∀n,mx [n]=n){l:u8}(hl:l.length<=1):o3 mx (aw l) (.int d)=some (.val (.int (l.headD d))):=by
 match l,hl with
 |[],_=>rfl
 |[n],_ =>
   show o3 mx (.lst ([n].map D.int)) (.int d)=_;rw[W_,h];rfl
theorem XR{l:u8}{x0 x1:Sl}{key start low high m:Int}{fd:γh}{x8 x9 x10:Sl}:dD [7] 1 δ0 γp (dC (ZY γb (ZY γl (M.pure [])))) (l.map D.int) (fE x0 x1 key start low high fd (some (.ae,.int m)) x8 x9 x10)=.ok (sw (l.map λn=>(m,n))) (fE x0 x1 key start low high fd (some (.ae,.int m)) x8 x9 x10):=by
 have ln:=line;have l2:2<=sizeLine:=by omega
 have e:sw (l.map λn=>(m,n))=(l.map D.int).map λd=>.tup [d,.int m]:=by
  induction l with
  |nil=>rfl
  |cons n r ih=>rw[qav,qav,qav,<-ih];rfl
 rw[e];refine su _ λd hd=>⟨[some (.ae,d),some (.ae,.int m)],?_,rfl⟩;simp[bL,l2]
theorem wc(a b:γh):sw (a++b)=sw a++sw b:=by simp[sw]
section
variable{cs:γh}{x0 x1 x7 x8 x9 x10:Sl}{key start low high m:Int}{fd:γh}
theorem XS(h:m<start):ql (fE x0 x1 key start low high fd (some (.ae,.int m)) x8 x9 x10)=.ok .cont (fE x0 x1 key start low high fd (some (.ae,.int m)) x8 x9 x10):=by generalize sw fd=T;simp[ql,h]
theorem XU(h:¬m<start)(h1:start<m)(h2:key∈ks):ql (fE x0 x1 key start low high fd (some (.ae,.int m)) (some (.ae,aw ks)) x9 x10)=.ok .brk (fE x0 x1 key start low high fd (some (.ae,.int m)) (some (.ae,aw ks)) x9 x10):=by have e:=inF ks key;rw[qan h2]at e;generalize sw fd=T;simp[ql,h,h1,e]
theorem XW{ks:u8}(h:¬m<start)(h1:¬(start<m/\key∈ks))(hl:fd.length+2<=19000)(hk:ks.length<19000) :
 ql (fE x0 x1 key start low high fd (some (.ae,.int m)) (some (.ae,aw ks)) x9 x10)=.ok .nx (fE x0 x1 key start ((lesser ks low key).headD low) ((greater ks key high).headD high) (fd++if start<m then (lesser ks low key++greater ks key high).map (λn=>(m,n)) else []) (some (.ae,.int m)) (some (.ae,aw ks)) (some (.own,aw (lesser ks low key))) (some (.own,aw (greater ks key high)))):=by
 have ln:=line;have e1:=inF ks key;have hk':(ks.map D.int).length<sizeLine:=by rw[qaf];omega
 have L1:=ze (ks.filter λn=>decide (low<n)&&decide (n<key));have L2:=zf (ks.filter λn=>decide (key<n)&&decide (n<high))
 have c1:fq ((ks.filter λn=>decide (low<n)&&decide (n<key)).map D.int) (some (-1)) none=(lesser ks low key).map D.int:=by rw[Nr];unfold lesser nW;rw[qaf,List.map_drop]
 have c2:fq ((ks.filter λn=>decide (key<n)&&decide (n<high)).map D.int) none εR=(greater ks key high).map D.int:=by have:=v8 ((ks.filter λn=>decide (key<n)&&decide (n<high)).map D.int) 1;unfold greater;rw[List.map_take];exact this
 have f1:dD [4,2] 1 δ0 δl γb δo (fE x0 x1 key start low high fd (some (.ae,.int m)) (some (.ae,aw ks)) x9 x10)=_:=Nu (a:=low) (b:=key) rfl rfl (by decide);have f2:dD [2,5] 1 δ0 δl γb δo (fE x0 x1 key start low high fd (some (.ae,.int m)) (some (.ae,aw ks)) (some (.own,aw (lesser ks low key))) x10)=_:=Nu (a:=key) (b:=high) rfl rfl (by decide);have g1:(lesser ks low key).length<=1:=L1;have g2:(greater ks key high).length<=1:=L2;have nl:=λx9 x10=>XR (l:=lesser ks low key++greater ks key high) (x0:=x0) (x1:=x1) (key:=key) (start:=start) (low:=low) (high:=high) (m:=m) (fd:=fd) (x8:=some (.ae,aw ks)) (x9:=x9) (x10:=x10);rw[qbJ]at nl;have d1:=Nv (mx:=fZ) (λn=>by simp[fZ]) g1 (d:=low);have d2:=Nv (mx:=mw) (λn=>by simp[mw]) g2 (d:=high)
 have sN:(sw ((lesser ks low key++greater ks key high).map λn=>(m,n))).length<=2:=by rw[gY,qaf,qaq];omega
 have a1:((lesser ks low key).map D.int).length+((greater ks key high).map D.int).length<=sizeLine:=by rw[qaf,qaf];omega
 have a3:((lesser ks low key).map D.int++(greater ks key high).map D.int).length<sizeLine:=by rw[qaq];rw[qaf,qaf]at a1 ⊢;omega
 have a2:(sw fd).length+(sw ((lesser ks low key++greater ks key high).map λn=>(m,n))).length<=sizeLine:=by rw[gY];omega
 have hk3:ks.length<sizeLine:=by omega
 have b3:(lesser ks low key).length+(greater ks key high).length<sizeLine:=by omega
 have hb:¬start<m\/key∉ks:=by
  by_cases q:start<m
  .exact .inr λz=>h1 ⟨q,z⟩
  .exact .inl q
 have ap:=wc fd ((lesser ks low key++greater ks key high).map λn=>(m,n));unfold fE at f1 f2 nl ⊢;generalize lesser ks low key=LS at *;generalize greater ks key high=GR at *;have hd1:∀d:Int,LS.headD d=LS.headD d:=λ_=>rfl;by_cases hs:start<m
 .have hk2:key∉ks:=hb.resolve_left (λz=>z hs);rw[qau hk2]at e1;simp only[hs,if_true];rw[ap];generalize sw ((LS++GR).map λn=>(m,n))=NW at *;generalize sw fd=T at *;have x1':=qO a1;have x2':=W9 a2;simp[ql,h,hs,e1,hk3,f1,c1,f2,c2,x1',b3,nl,x2',d1,d2]
 .simp only[hs,if_false,List.append_nil];generalize sw fd=T at *;simp[ql,h,hs,hk3,f1,c1,f2,c2,d1,d2]
end
theorem G6{cs:γh}(hk:∀m,(Bp.aZ cs m).length<19000){x0 x1:Sl}{key start:Int}:∀(ms:u8) (low high:Int) (fd:γh) (x7 x8 x9 x10:Sl),fd.length+2*ms.length+2<=19000 ->
 ∃(l h:Int) (y7 y8 y9 y10:Sl),gX θC ql εV ηC=.ok .nx (fE x0 x1 key start l h (fd++lb cs start key low high ms) y7 y8 y9 y10)
 |[],low,high,fd,x7,x8,x9,x10,_=>⟨low,high,x7,x8,x9,x10,by rw[List.map_nil,LF];unfold lb;rw[List.append_nil]⟩
 |m::r,low,high,fd,x7,x8,x9,x10,hl=>by
   rw[qaN]at hl
   have st:mv (gT 2 γK (kj cs m)) ηC=.ok () (fE x0 x1 key start low high fd (some (.ae,.int m)) (some (.ae,aw δy)) x9 x10):=by generalize sw fd=T;unfold kj;generalize aw δy=K;simp
   rw[qav,k_,st];unfold lb;by_cases h0:m<start
   .obtain⟨l,h,y7,y8,y9,y10,ih⟩:=G6 hk (x0:=x0) (x1:=x1) (key:=key) (start:=start) r low high fd (some (.ae,.int m)) (some (.ae,aw δy)) x9 x10 (by omega);rw[qaF h0];refine⟨l,h,y7,y8,y9,y10,?_⟩;dsimp only;rw[XS h0];exact ih
   .rw[qaC h0];by_cases hb:start<m/\key∈Bp.aZ cs m
    .rw[qaF hb];refine⟨low,high,some (.ae,.int m),some (.ae,aw δy),x9,x10,?_⟩;dsimp only;rw[XU h0 hb.1 hb.2,qbk]
    .rw[qaC hb];have sp:=XW (x0:=x0) (x1:=x1) (low:=low) (high:=high) (fd:=fd) (x9:=x9) (x10:=x10) h0 hb (by omega) (hk m);have g1:(lesser δy low key).length<=1:=ze _;have g2:(greater δy key high).length<=1:=zf _
     obtain⟨l,h,y7,y8,y9,y10,ih⟩:=G6 hk (x0:=x0) (x1:=x1) (key:=key) (start:=start) r ((lesser δy low key).headD low) ((greater δy key high).headD high) (fd++if start<m then (lesser δy low key++greater δy key high).map (λn=>(m,n)) else []) (some (.ae,.int m)) (some (.ae,aw δy)) (some (.own,aw (lesser δy low key))) (some (.own,aw (greater δy key high))) (by
      rw[qaq];split
      .rw[qaf,qaq];omega
      .simp;omega)
     refine⟨l,h,y7,y8,y9,y10,?_⟩;dsimp only;rw[sp];rw[List.append_assoc]at ih;exact ih
theorem XX{cs:γh}(hk:∀m,(Bp.aZ cs m).length<19000){ms:u8}(hm:ms.length<5000)(start key:Int):vU [.lst εV,.tup [.int key,.int start]]=some (.new (.lst (sw (lb cs start key (-1) 31 ms)))):=by
 have ln:=line;have l0:0<=sizeLine:=qaW _;have l2:2<=sizeLine:=by omega
 obtain⟨l,h,y7,y8,y9,y10,e⟩:=G6 hk (x0:=some (.ae,.lst εV)) (x1:=some (.ae,.tup [.int key,.int start])) (key:=key) (start:=start) ms (-1) 31 [] none none none none (by simp;omega);rw[List.nil_append]at e;unfold vU;unfold Gw;generalize hT:sw (lb cs start key (-1) 31 ms)=T at *;have e:gX θC ql εV [some (.ae,.lst εV),some (.ae,.tup [.int key,.int start]),some (.ae,.int key),some (.ae,.int start),some (.ae,.int (-1)),some (.ae,.int 31),some (.own,.lst []),none,none,none,none]=.ok .nx [some (.ae,.lst εV),some (.ae,.tup [.int key,.int start]),some (.ae,.int key),some (.ae,.int start),some (.ae,.int l),some (.ae,.int h),some (.own,.lst T),y7,y8,y9,y10]:=by rw[<-hT];exact e
 generalize ms.map (kj cs)=RW at *;simp[ba,bC,gam,l0,l2,e]
noncomputable abbrev pt(c:C):D:=.tup [.int c.2,.int c.1]
noncomputable abbrev pr(ab:C×C):D:=.tup [pt ab.1,pt ab.2]
theorem zj(cs:γh):sw cs=cs.map pt:=by simp[sw,pD,v9,List.map_map]
theorem XY:cd ((Cn.Points:Cn)=.Points/\("keys_at":Str)∉[("held":Str)])=true:=gf ⟨rfl,by decide +kernel⟩
theorem XZ:cd (¬("keys_at":Str) = "held")=true:=gf (by decide +kernel)
theorem X0:cd ((Cn.Points:Cn)=.Points/\("all_moments":Str)∉[("held":Str)])=true:=gf ⟨rfl,by decide +kernel⟩
theorem X1:cd (¬("all_moments":Str) = "held")=true:=gf (by decide +kernel)
theorem Nw(cs:γh)(m:Int):(Bp.aZ cs m).length<=cs.length:=XN cs m
theorem X2(cs:γh):(eL cs).length<=cs.length:=by unfold eL;rw[(bA _).length_eq];have:=L8 (cs.map (·.1));rwa[qaf]at this
theorem Nx(cs:γh):∀r:List C,(after cs r).length<=r.length*r.length
 |[]=>by simp[after]
 |a::r=>by unfold after;rw[qaq,qaf];have h1:=List.length_filter_le εB r;have h2:=Nx cs r;rw[qaN,Nat.add_mul,Nat.mul_add];omega
theorem Ny{cs:γh}(hl:cs.length<64):(bare cs).length<5000:=by have h1:=Nx cs cs;have h2:cs.length*cs.length<=63*63:=Nat.mul_le_mul (by omega) (by omega);unfold bare;omega
def Nz(cs:γh):D->List D
 |.tup [.int k,.int m]=>(sw (lb cs m k (-1) 31 ηV)).map λo=>.tup [.tup [.int k,.int m],o]
 |_=>[]
theorem NA(S:ηx):∀{pre r:γh},cs=pre++r->(sw r).flatMap (Nz cs)=(after cs r).map pr
 |_,[],_=>rfl
 |pre,a::r,e=>by have ih:=NA S (pre:=pre++[a]) (r:=r) (by rw[e];simp);rw[gZ,List.flatMap_cons,ih,show after cs (a::r)=(r.filter εB).map (λb=>(a,b))++after cs r from rfl,qbJ];congr 1;have le:=XJ S e;show(sw (lb cs a.1 a.2 (-1) 31 ηV)).map _=_;rw[le,zj,qbN,qbN];rfl
theorem X3(S:ηx)(hl:cs.length<64):yN [pO θ]=some (.new (.lst ((bare cs).map pr))):=by
 have ln:=line;have l2:2<=sizeLine:=by omega
 have e1:=Nq hl;have e2:=λm=>Np S.sm hl m;have ml:=X2 cs
 have e3:dD [0] 1 δ0 γp (dC (ZY γb (ZY (lh .Points "keys_at" sH γl (ZY γb (M.pure []))) (M.pure [])))) ((eL cs).map D.int) [some (.ae,pO θ),none]=.ok ((eL cs).map (kj cs)) [some (.ae,pO θ),none]:=by
  have q:(eL cs).map (kj cs)=((eL cs).map D.int).map λd=>match d with|.int m=>kj cs m|d=>d:=by rw[qbN];rfl
  rw[q];refine su _ λd hd=>?_;obtain⟨m,_,rfl⟩:=qaE.mp hd;refine⟨[some (.ae,.int m),some (.ae,pO θ)],?_,rfl⟩;have e2:=e2 m;show _=Res.ok (some (D.tup [.int m,aw δy])) _;generalize sw cs=T at *;generalize Bp.aZ cs m=K at *;simp[bL,XY,XZ,e2,l2]
 have l1:((eL cs).map D.int).length<sizeLine:=by rw[qaf];omega
 have l1':(eL cs).length<sizeLine:=by omega
 have e4:=wa θ
 have e5:mB [1] 2 (uc δ0 γp (et (cb vU (ZY γI (ZY γb (M.pure []))))) (mz 1 (gN 1) γp (dC (ZY γb (ZY γl (M.pure [])))))) θ [some (.ae,pO θ),some (.own,.lst ((eL cs).map (kj cs)))]=.ok ((bare cs).map pr) [some (.ae,pO θ),some (.own,.lst ((eL cs).map (kj cs)))]:=by unfold bare;rw[<-NA S (pre:=[]) rfl];refine Ng (Nz cs) λd hd=>?_;obtain⟨c,hc,rfl⟩:=lu hd;have le:=XX (cs:=cs) (λm=>by have:=Nw cs m;omega) (ms:=eL cs) (by omega) c.1 c.2;have im:jy (.new (.lst (sw (lb cs c.1 c.2 (-1) 31 ηV))))=true:=zc _;have inn:∀T RW,mz 1 (gN 1) γp (dC (ZY γb (ZY γl (M.pure [])))) T [some (.ae,.tup [.int c.2,.int c.1]),none,RW]=.ok (T.map λo=>D.tup [.tup [.int c.2,.int c.1],o]) [some (.ae,.tup [.int c.2,.int c.1]),none,RW]:=λT RW=>Nf _ λo ho=>⟨[some (.ae,.tup [.int c.2,.int c.1]),some (.ae,o),RW],by simp[l2],rfl⟩;refine⟨[some (.ae,.tup [.int c.2,.int c.1]),none,some (.own,.lst ((eL cs).map (kj cs)))],?_,rfl⟩;show _=Res.ok ((sw (lb cs c.1 c.2 (-1) 31 ηV)).map λo=>D.tup [.tup [.int c.2,.int c.1],o]) _;generalize sw (lb cs c.1 c.2 (-1) 31 ηV)=L at *;generalize (eL cs).map (kj cs)=RW at *;simp[bL,le,im,inn]
 have l6:((bare cs).map pr).length<sizeLine:=by rw[qaf];have:=Ny hl;omega
 have l6':(bare cs).length<sizeLine:=by have:=Ny hl;omega
 generalize hB:(bare cs).map pr=B at *;generalize sw cs=T at *;generalize (eL cs).map (kj cs)=RW at *;simp[yN,Gx,ba,bC,gam,X0,X1,e1,l1',e3,e4,e5,l6]
theorem X4(a b:C):iz (pt a) (pt b)=some (.val (.bl (decide (a≠b)))):=by
 rw[M6 (λ_=>by simp)];unfold tN;rw[wb,wb,Cg]
 have:(!(decide (a.2=b.2)&&decide (a.1=b.1)))=decide (a≠b):=by rw[qa4];simp[Prod.ext_iff];exact Or.comm
 rw[<-this];rfl
theorem NB(hn:n<=50)(h:∀d∈ds,d.py.canLay0=true/\d.py.depth<=n):cV εl=true/\(D.lst ds).py.canLay0=true/\(D.lst ds).py.depth<=n+1:=by
 have e0:(D.lst ds).py=.list (ds.map λd=>d.py):=by show PyData.list (D.iJ ds)=_;congr 1;induction ds with|nil=>rfl|cons a r ih=>simp[D.iJ,ih λd hd=>h d (List.mem_cons_of_mem _ hd)]
 have h1:PyData.canLayAll0 (ds.map λd=>d.py)=true:=Xs λx hx=>by obtain⟨d,hd,rfl⟩:=qaE.mp hx;exact(h d hd).1
 have h2:PyData.depthAll (ds.map λd=>d.py)<=n:=Xt λx hx=>by obtain⟨d,hd,rfl⟩:=qaE.mp hx;exact(h d hd).2
 refine⟨?_,?_,?_⟩
 .unfold cV SeqAt.shaped;rw[e0];simp[PyData.canLay0,PyData.depth,h1];omega
 .rw[e0];simp[PyData.canLay0,h1]
 .rw[e0];simp[PyData.depth];omega
theorem uC(cs:γh):cV δ3=true:=(NB (n:=1) (by omega) λd hd=>by obtain⟨c,hc,rfl⟩:=lu hd;constructor<;>simp[D.py,D.iJ,PyData.canLay0,PyData.canLayAll0,PyData.depth,PyData.depthAll]).1
theorem X5(l:List (C×C)):cV (.lst (l.map pr))=true:=(NB (n:=2) (by omega) λd hd=>by obtain⟨c,hc,rfl⟩:=qaE.mp hd;constructor<;>simp[D.py,D.iJ,PyData.canLay0,PyData.canLayAll0,PyData.depth,PyData.depthAll]).1
theorem zk(h:cV εl=true):eF εl (.lst [])=some (.val (.bl ds.isEmpty)):=by
 rw[M5 (by intro x z;cases z)];unfold tM;have h0:cV (.lst [])=true:=by decide
 rw[h,h0]
 have:eqB εl (.lst [])=ds.isEmpty:=by
  cases ds with
  |nil=>rfl
  |cons a r=>rfl
 rw[this];rfl
theorem X6(S:ηx)(hl:cs.length<64):yO [pO θ]=some (.val (.bl (bare cs).isEmpty)):=by
 have l0:0<=sizeLine:=qaW _;have e1:=X3 S hl;have e2:=zk (X5 (bare cs));have e3:((bare cs).map pr).isEmpty=(bare cs).isEmpty:=by cases bare cs<;>rfl
 rw[e3]at e2;generalize (bare cs).isEmpty=Q at *;generalize (bare cs).map pr=B at *;generalize sw cs=T at *;simp[yO,Gy,ba,bC,gam,l0,e1,e2]
end cZ
namespace Bp
open PySem Dv St So
theorem Cs.lS{cs:γh}(sm:∀c∈cs,bU c):Cs γ2:=by
 refine⟨λc hc=>sm c (au.mp hc),?_⟩;have h:=(Fu cs).and (BF cs);refine List.Pairwise.imp_of_mem (λ{a b} ha hb ⟨h1,h2⟩=>?_) h;rcases Int.lt_or_eq_of_le h1 with z|z
 .exact z
 .exact absurd (Fm (sm a (au.mp ha)) (sm b (au.mp hb)) z) h2
theorem NC(h:bo cs a b=true):(b.1,a.2)∉cs/\(a.1,b.2)∉cs:=by
 obtain⟨⟨h1,h2⟩,h3⟩:=aT.mp h;constructor
 .intro z;refine h3 _ z (λe=>h2 (congrArg Prod.fst e).symm) (λe=>h1 (show((b.1,a.2):C).2=b.2 by rw[e])) ?_;unfold ins;dsimp only;omega
 .intro z;refine h3 _ z (λe=>h1 (congrArg Prod.snd e).symm) (λe=>h2 (show((a.1,b.2):C).1=b.1 by rw[e])) ?_;unfold ins;dsimp only;omega
end Bp
namespace cZ
open PySem L2 Ex Dv Tr St So Bp
noncomputable def prs(i:Nat)(ks:u8):List C:=(ks.zipIdx i).map λp=>((p.2:Int),p.1)
theorem we(i:Nat)(k:Int)(r:u8):prs i (k::r)=((i:Int),k)::prs (i+1) r:=rfl
theorem G7:∀(i:Nat) (ks:u8),uz i δo=(prs i ks).map pD
 |_,[]=>rfl
 |i,k::r=>by rw[qav,GY,we,qav,G7 (i+1) r];rfl
theorem Ck(i:Nat)(ks:u8):(prs i ks).length=ks.length:=by simp[prs]
theorem Cm:∀{i:Nat}{ks:u8}{c:C},c∈prs i ks->(i:Int)<=c.1/\c.1<i+ks.length/\c.2∈ks
 |i,k::r,c,h=>by
   rw[we]at h;rcases qak.mp h with rfl|h
   .refine⟨qbL _,?_,qag ..⟩;show(i:Int)<i+((r.length+1:Nat):Int);omega
   .obtain⟨h1,h2,h3⟩:=Cm h;refine⟨by omega,?_,qae _ h3⟩;show c.1<i+((r.length+1:Nat):Int);omega
theorem ND{ks:u8}:dD [] 2 ι γp (dC (ZY γl (ZY γb (M.pure [])))) (lN δo) Γ=.ok (sw εE) Γ:=by rw[GZ,G7];exact M_
theorem NF(ks:u8):(lN δo).length=ks.length:=by rw[GZ,G7,qaf,Ck]
structure Ak(ks:u8):Prop where
 one:1<=ks.length
 most:ks.length<=31
 key:∀a∈ks,0<=a/\a<=30
theorem NG{ds:γd}{i:Nat}{x:D}(h:(lN ds)[i]?=some x):∃d,ds[i]?=some d/\x=.tup [.int i,d]:=by
 unfold lN at h;rw[qaB,List.getElem?_zipIdx]at h;cases e:ds[i]? with
 |none=>rw[e]at h;cases h
 |some d =>
   rw[e]at h;cases h;exact⟨d,rfl,by simp⟩
theorem X7{as:u8}(A:Ak as):yP [aw as]=some δw:=by
 obtain⟨Γ',hl,y1,y2,rfl⟩:=Bu (m:=gT 2 γ4) (s:=cW (ft (M.bind (cb qj (ZY γI (M.pure []))) aM)) M.st (M.pure .nx))
  (λ_ Γ=>∃y1 y2:Sl,Γ=[some (.ae,aw as),y1,y2]) (ds:=lN (as.map D.int)) (Γ:=[some (.ae,aw as),none,none]) ⟨none,none,rfl⟩ (by
   rintro i d Γ hd ⟨y1,y2,rfl⟩;obtain⟨e,he,rfl⟩:=NG hd;rw[qaB]at he;cases q:as[i]? with
   |none=>rw[q]at he;cases he
   |some a =>
     rw[q]at he;cases he;obtain⟨k1,k2⟩:=A.key a (qba q);refine⟨[some (.ae,aw as),some (.ae,.int i),some (.ae,.int a)],_,by simp,.inl ?_,some (.ae,.int i),some (.ae,.int a),rfl⟩;simp[za,k1,k2])
 have h1:(1:Int)<=as.length:=by have:=A.one;omega
 have h2:(as.length:Int)<=31:=by have:=A.most;omega
 simp[yP,Gz,ba,bC,gam,k7,h1,h2,hl]
theorem NH(A:Ak ks):∀c∈prs 0 ks,bU c:=λc hc=>by obtain⟨h1,h2,h3⟩:=Cm hc;have:=A.most;exact⟨⟨by omega,by omega⟩,A.key _ h3⟩
def own(ks:u8):List C:=aE εE
theorem X8(ks:u8):(own ks).length<=ks.length:=by have:=v_ εE;rw[Ck]at this;exact this
theorem X9(A:Ak ks):Bp.Cs (own ks):=Cs.lS (NH A)
theorem X_(A:Ak ks):yQ [aw ks]=some (.ok (.val (pO (sw (own ks))))):=by
 have ln:=line;have e1:=X7 A;have e2:=Cf (NH A) (by rw[Ck];have:=A.most;omega);have e3:(lN δo).length<sizeLine:=by rw[NF];have:=A.most;omega
 have e4:∀Γ,_:=λΓ=>ND (ks:=ks) (Γ:=Γ);unfold own;generalize sw (aE εE)=S at *;generalize sw εE=T at *;simp[yQ,M3,GA,GB,my,bC,gam,e1,e3,e4,e2]
def uD(ks:u8)(cs:γh):Bool:=(own ks).all λc=>decide (c∈cs)
noncomputable def zo(ks:u8)(cs:γh):Bool:=cs.all λc=>decide (c.1<ks.length)
def mE(ks:u8)(cs:γh):Bool:=zo ks cs&&(uD ks cs&&(bare cs).isEmpty)
theorem NI:cd (¬("all_moments":Str) = "held")=true:=gf (by decide +kernel)
theorem uE:cd (¬("points":Str) = "held")=true:=gf (by decide +kernel)
theorem wg:cd (¬("has":Str) = "held")=true:=gf (by decide +kernel)
theorem Yb{os cs:γh}(sm:∀c∈os,bU c){x0 x2:Sl}:dD [1] 1 δ0 γp (lh .Points "has" mD γl (ZY γb (M.pure []))) (sw os) [x0,some (.ae,pO θ),x2]=.ok ((os.map λc=>decide (c∈cs)).map D.bl) [x0,some (.ae,pO θ),x2]:=by
 have e:(sw os).map (λd=>match d with|.tup [.int a,.int b]=>D.bl (decide ((b,a)∈cs))|d=>d)=(os.map λc=>decide (c∈cs)).map D.bl:=by
  clear sm;induction os with
  |nil=>rfl
  |cons c r ih=>rw[gZ,qav,ih];rfl
 rw[<-e];refine su _ λd hd=>?_;obtain⟨c,hc,rfl⟩:=lu hd;have hh:=has_eq (cs:=cs) (k:=c.2) (i:=c.1) (sm c hc);refine⟨[some (.ae,.tup [.int c.2,.int c.1]),some (.ae,pO θ)],?_,rfl⟩;generalize sw cs=T at *;simp[bL,hh,wg]
theorem NJ:∀{ns:u8},ns≠[]->fZ ns∈ns/\∀a∈ns,a<=fZ ns
 |[],h=>absurd rfl h
 |[n],_=>⟨by simp[fZ],λa ha=>by simp at ha;simp[fZ,ha]⟩
 |n::m::r,_=>by
   obtain⟨h1,h2⟩:=NJ (ns:=m::r) (by simp);have e:fZ (n::m::r)=max n (fZ (m::r)):=rfl;rw[e];refine⟨?_,λa ha=>?_⟩
   .by_cases q:n<=fZ (m::r)
    .rw[Int.max_eq_right q];exact qae _ h1
    .rw[Int.max_eq_left (by omega)];exact qag ..
   .rcases qak.1 ha with rfl|ha
    .omega
    .have:=h2 a ha;omega
theorem Yc{cs:γh}{n:Nat}(h:cs≠[]):decide (fZ ηV<(n:Int))=cs.all λc=>decide (c.1<(n:Int)):=by
 obtain⟨a,r,rfl⟩:=qbg h;have ne:eL (a::r)≠[]:=List.ne_nil_of_mem (cn.mpr ⟨a.2,qag ..⟩);obtain⟨h1,h2⟩:=NJ ne;by_cases q:fZ (eL (a::r))<(n:Int)
 .rw[qan q];symm;rw[qaP];intro c hc;have:=h2 c.1 (cn.mpr ⟨c.2,hc⟩);exact qan (by omega)
 .rw[qau q];symm;rw[Bool.eq_false_iff];intro z;rw[qaP]at z;obtain⟨k,hk⟩:=cn.mp h1;exact q (qaI (z _ hk))
theorem Yd(os cs:γh):(os.map λc=>decide (c∈cs)).all id=os.all λc=>decide (c∈cs):=by rw[List.all_map];rfl
theorem Ye(A:Ak ks):own ks≠[]:=by obtain⟨k,r,rfl⟩:=List.exists_cons_of_length_pos (show 0<ks.length from A.one);exact List.ne_nil_of_mem (a:=((0:Int),k)) (au.mpr (by rw[we];exact qag ..))
theorem Yg(h:ns≠[]):Bk [aw ns]=some (.val (.int (fZ ns))):=by obtain⟨a,r,rfl⟩:=qbg h;show(match iA ((a::r).map D.int) with|some (n::r)=>some (RV.val (.int (fZ (n::r))))|_=>none)=_;rw[vj]
theorem NK{ks:u8}(A:Ak ks){cs:γh}(S:ηx)(hl:cs.length<=60):vV [aw ks,pO θ]=some (.val (.bl (mE ks cs))):=by
 have ln:=line;have e1:=X_ A;have e2:=wa (sw (own ks));have e3:=λx0 x2=>Yb (os:=own ks) (cs:=cs) (X9 A).sm (x0:=x0) (x2:=x2)
 have e4:vi [.lst (((own ks).map λc=>decide (c∈cs)).map D.bl)]=some (.val (.bl (uD ks cs))):=by show(mY (((own ks).map λc=>decide (c∈cs)).map D.bl)).map (λbs=>RV.val ζz)=_;rw[D7,Option.map_some,Yd];rfl
 have e5:(sw (own ks)).length<sizeLine:=by rw[gY];have:=X8 ks;have:=A.most;omega
 have e6:=Nq (cs:=cs) (by omega);have e7:=X6 S (by omega);unfold mE;cases q:uD ks cs with
 |false =>
   rw[q]at e4;generalize sw (own ks)=T at *;generalize ((own ks).map λc=>decide (c∈cs)).map D.bl=B at *;generalize sw cs=U at *;simp[vV,B8,ba,bC,gam,e1,e2,e3,e4,e5,uE,NI]
 |true =>
   rw[q]at e4
   have ne:cs≠[]:=by obtain⟨a,r,ha⟩:=qbg (Ye A);unfold uD at q;rw[qaP]at q;exact List.ne_nil_of_mem (qaI (q a (by rw[ha];exact qag ..)))
   have nm:eL cs≠[]:=by obtain⟨a,r,rfl⟩:=qbg ne;exact List.ne_nil_of_mem (cn.mpr ⟨a.2,qag ..⟩)
   have e8:=Yg nm;have e9:=Yc (n:=ks.length) ne;unfold zo;rw[<-e9];generalize fZ ηV=mx at *;generalize hQ:(bare cs).isEmpty=Q at *;unfold eL at e8;generalize Dv.fA (dd (cs.map (·.1)))=ms at *;generalize sw (own ks)=T at *;generalize ((own ks).map λc=>decide (c∈cs)).map D.bl=B at *;generalize sw cs=U at *;by_cases h:mx<(ks.length:Int)<;>simp[vV,B8,ba,bC,gam,e1,e2,e3,e4,e5,e6,e7,e8,h,uE,NI]
end cZ
namespace Bp
open PySem Dv St So
noncomputable def rest(cs:γh)(p:C):List C:=cs.filter λc=>decide (c≠p)
theorem aY:c∈rest cs p ↔ c∈cs/\c≠p:=by unfold rest;simp
def Filled(cs:γh):Prop:=∀a∈cs,∀b∈cs,bo cs a b=false
theorem NL(F:Filled cs)(ha:a∈cs)(hb:b∈cs)(h2:a.2≠b.2)(h1:a.1≠b.1):∃c∈cs,c≠a/\c≠b/\ins a b c:=by have h:=F a ha b hb;apply qa9;intro z;have:=aT.mpr ⟨⟨h2,h1⟩,λc hc n1 n2 n3=>z ⟨c,hc,n1,n2,n3⟩⟩;rw[h]at this;cases this
theorem NM{a b p c:Int}(h:a<=p/\p<=b\/b<=p/\p<=a)(i:a<=c/\c<=p\/p<=c/\c<=a):a<=c/\c<=b\/b<=c/\c<=a:=by omega
theorem NN{a b p:Int}(h:a<=p/\p<=b\/b<=p/\p<=a)(i:a<=b/\b<=p\/p<=b/\b<=a):b=p:=by omega
theorem Yh{a b p c:C}(h:ins a b p)(i:ins a p c):ins a b c:=⟨NM h.1 i.1,NM h.2 i.2⟩
theorem Yi{a b p:C}(h:ins a b p)(i:ins a p b):b=p:=Prod.ext (NN h.2 i.2) (NN h.1 i.1)
theorem jB:ins a b c ↔ ins b a c:=by unfold ins;omega
theorem Yj(F:Filled cs)(hp:p∈cs)(ha:a∈rest cs p)(hb:b∈rest cs p)(h:bo γ5 a b=true):ins a b p/\(p=(a.1,b.2)\/p=(b.1,a.2)):=by
 obtain⟨⟨h2,h1⟩,no⟩:=aT.mp h;obtain⟨ma,ap⟩:=aY.mp ha;obtain⟨mb,bp⟩:=aY.mp hb;have no:∀c∈cs,c≠p->c≠a->c≠b -> ¬ins a b c:=λc hc n=>no c (aY.mpr ⟨hc,n⟩)
 have ip:ins a b p:=by
  obtain⟨c,hc,n1,n2,i⟩:=NL F ma mb h2 h1;by_cases e:c=p
  .exact e ▸ i
  .exact absurd i (no c hc e n1 n2)
 have go:∀{x y:C},x∈cs->ins x y p->y≠p->(∀c∈cs,c≠p->c≠x->c≠y -> ¬ins x y c)->x.2=p.2\/x.1=p.1:=λ{x y} hx i yp no=>by apply qa9;intro z;obtain⟨c,hc,n1,n2,k⟩:=NL F hx hp (λe=>z (.inl e)) (λe=>z (.inr e));exact no c hc n2 n1 (λe=>yp (Yi i (e ▸ k))) (Yh i k)
 refine⟨ip,?_⟩;have la:=go ma ip bp no;have lb:=go mb (jB.mp ip) ap λc hc n1 n2 n3 i=>no c hc n1 n3 n2 (jB.mp i);rcases la with la|la<;>rcases lb with lb|lb
 .exact absurd (la.trans lb.symm) h2
 .exact .inr (Prod.ext lb.symm la.symm)
 .exact .inl (Prod.ext la.symm lb.symm)
 .exact absurd (la.trans lb.symm) h1
def near(xs:u8)(x:Int):u8:=nW (xs.filter λn=>decide (n<x))++(xs.filter λn=>decide (n>x)).take 1
theorem wj{xs:u8}(pw:xs.Pairwise (· < ·)):k∈near xs x ↔ k∈xs/\k≠x/\∀n∈xs,¬(k<n/\n<x\/x<n/\n<k):=by
 unfold near;rw[qaH,Nh (pw.filter _),Nj (pw.filter _)];simp only[List.mem_filter,decide_eq_true_eq,gt_iff_lt];constructor
 .rintro(⟨⟨h,l⟩,no⟩|⟨⟨h,l⟩,no⟩)
  .refine⟨h,by omega,λn hn z=>?_⟩;have:=no n;rcases z with z|z
   .have:=this ⟨hn,z.2⟩;omega
   .omega
  .refine⟨h,by omega,λn hn z=>?_⟩;have:=no n;rcases z with z|z
   .omega
   .have:=this ⟨hn,z.1⟩;omega
 .rintro⟨h,ne,no⟩;by_cases l:k<x
  .exact .inl ⟨⟨h,l⟩,λn hn=>by have:=no n hn.1;omega⟩
  .exact .inr ⟨⟨h,by omega⟩,λn hn=>by have:=no n hn.1;omega⟩
noncomputable def eA(cs:γh)(k:Int):u8:=(cs.filter λc=>c.2 == k).map (·.1)
theorem gS:m∈eA cs k ↔ (m,k)∈cs:=by
 unfold eA;simp only[List.mem_map,List.mem_filter,beq_iff_eq];constructor
 .rintro⟨⟨a,b⟩,⟨h,rfl⟩,rfl⟩;exact h
 .intro h;exact⟨(m,k),⟨h,rfl⟩,rfl⟩
theorem NO{cs:γh}(nd:cs.Nodup)(hp:p∈cs)(ap:a≠p)(bp:b≠p):third cs a b=[p] ↔ ins a b p/\∀c∈cs,c≠a->c≠b->c≠p -> ¬ins a b c:=by
 have m:∀c,c∈third cs a b ↔ c∈cs/\c≠a/\c≠b/\ins a b c:=λc=>by unfold third;simp
 constructor
 .intro h;have q:p∈third cs a b:=by rw[h];exact qag ..
  refine⟨((m p).mp q).2.2.2,λc hc n1 n2 n3 i=>n3 ?_⟩;have:=(m c).mpr ⟨hc,n1,n2,i⟩;rw[h]at this;simpa using this
 .rintro⟨i,no⟩;have NP:(third cs a b).Nodup:=nd.filter _;have q:p∈third cs a b:=(m p).mpr ⟨hp,ap.symm,bp.symm,i⟩
  have al:∀c∈third cs a b,c=p:=λc hc=>by obtain⟨h,n1,n2,i⟩:=(m c).mp hc;apply qa9;intro n;exact no c h n1 n2 n i
  cases e:third cs a b with
  |nil=>rw[e]at q;cases q
  |cons x r =>
    rw[e]at al NP;have hx:=al x (qag ..);subst hx;cases r with
    |nil=>rfl
    |cons y r =>
      have:=al y (qae _ (qag ..));subst this;simp at NP
theorem Co(h:bo cs a b=true):bo cs b a=true:=by obtain⟨⟨h2,h1⟩,no⟩:=aT.mp h;exact aT.mpr ⟨⟨h2.symm,h1.symm⟩,λc hc n1 n2 i=>no c hc n2 n1 (jB.mp i)⟩
theorem Yk{cs:γh}(nd:cs.Nodup)(hp:p∈cs)(hk:k≠p.2)(hm:m≠p.1)(h:third cs (p.1,k) (m,p.2)=[p]):bo γ5 (p.1,k) (m,p.2)=true/\bo cs (p.1,k) (m,p.2)=false:=by
 obtain⟨p1,p2⟩:=p;have e:=(NO (a:=(p1,k)) (b:=(m,p2)) nd hp (by simpa using hk) (by simpa using hm)).mp h;refine⟨aT.mpr ⟨⟨hk,λz=>hm z.symm⟩,λc hc n1 n2=>?_⟩,?_⟩
 .obtain⟨hc,n⟩:=aY.mp hc;exact e.2 c hc n1 n2 n
 .cases q:bo cs (p1,k) (m,p2) with
  |false=>rfl
  |true=>exact absurd e.1 ((aT.mp q).2 _ hp (by simpa using hk.symm) (by simpa using hm.symm))
theorem need_of(S:Cs cs)(nd:cs.Nodup)(F:Filled cs)(hp:p∈cs)(pw:(eA cs p.2).Pairwise (· < ·))(ha:a∈rest cs p)(hb:b∈rest cs p)(h:bo γ5 a b=true):∃k∈near (aZ cs p.1) p.2,∃m∈near (eA cs p.2) p.1,third cs (p.1,k) (m,p.2)=[p]:=by
 have main:∀{a b:C},a∈rest cs p->b∈rest cs p->bo γ5 a b=true->ins a b p->p=(a.1,b.2)->∃k∈near (aZ cs p.1) p.2,∃m∈near (eA cs p.2) p.1,third cs (p.1,k) (m,p.2)=[p]:=by
  rintro⟨a1,a2⟩ ⟨b1,b2⟩ ha hb h i rfl;obtain⟨⟨h2,h1⟩,no⟩:=aT.mp h;obtain⟨ma,ap⟩:=aY.mp ha;obtain⟨mb,bp⟩:=aY.mp hb;simp only[ne_eq]at h1 h2;have no:∀c∈cs,c≠(a1,b2)->c≠(a1,a2)->c≠(b1,b2) -> ¬ins (a1,a2) (b1,b2) c:=λc hc n=>no c (aY.mpr ⟨hc,n⟩);refine⟨a2,(wj (zg S a1)).mpr ⟨a9.mpr ma,h2,λn hn z=>?_⟩,b1,(wj pw).mpr ⟨gS.mpr mb,λz=>h1 z.symm,λn hn z=>?_⟩,?_⟩
  .refine no (a1,n) (a9.mp hn) (λe=>?_) (λe=>?_) (λe=>h1 (Prod.mk.inj e).1) (by unfold ins;simp only at z ⊢;omega)
   .have:=(Prod.mk.inj e).2;simp only at z;omega
   .have:=(Prod.mk.inj e).2;simp only at z;omega
  .refine no (n,b2) (gS.mp hn) (λe=>?_) (λe=>h2 (Prod.mk.inj e).2.symm) (λe=>?_) (by unfold ins;simp only at z ⊢;omega)
   .have:=(Prod.mk.inj e).1;simp only at z;omega
   .have:=(Prod.mk.inj e).1;simp only at z;omega
  .exact(NO nd hp ap bp).mpr ⟨i,λc hc n1 n2 n=>no c hc n n1 n2⟩
 obtain⟨i,e|e⟩:=Yj F hp ha hb h
 .exact main ha hb h i e
 .exact main hb ha (Co h) (jB.mp i) e
end Bp
namespace cZ
open PySem L2 Ex Dv Tr St So Bp
noncomputable def fM(k:Int):D->Option D
 |.tup [.int i,a]=>if i=k then some a else none
 |_=>none
theorem NQ(k:Int):∀cs:P3,(sw cs).filterMap (fM k)=(eA cs k).map D.int
 |[]=>rfl
 |c::r=>by rw[gZ,qaK];rw[show fM k (.tup [.int c.2,.int c.1])=if c.2=k then some (D.int c.1) else none from rfl];have ih:=NQ k r;unfold eA at ih ⊢;rw[qbt,ih];by_cases h:c.2=k<;>simp[h]
theorem Yl{cs:P3}(sm:∀c∈cs,bU c){m:Int}(h:¬(0<=m/\m<=30)):eA cs m=[]:=by unfold eA;rw[List.map_eq_nil_iff,qbM];intro c hc z;have:=(sm c hc).2;simp at z;rw[z]at this;exact h this
theorem Ym(cs:P3)(m:Int):(eA cs m).length<=cs.length:=by unfold eA;rw[qaf];exact List.length_filter_le ..
theorem Yn:dD [1] 2 ι (M.bind (op2 eF γb γI) aM) γl θ [x0,some (.ae,.int m)]=.ok ((eA cs m).map D.int) [x0,some (.ae,.int m)]:=by rw[<-NQ];refine qe (fM m) θ λd hd=>?_;obtain⟨c,hc,rfl⟩:=lu hd;refine⟨[some (.ae,.int c.2),some (.ae,.int c.1),some (.ae,.int m)],?_,rfl⟩;have e:=ki c.2 m;by_cases h:c.2=m<;>simp[bL,ki,h,fM]
theorem mo_eq(sm:∀c∈cs,bU c)(hl:cs.length<64)(m:Int):ur [pO θ,.int m]=some (.new (aw (eA cs m))):=by
 have ln:=line;have k:=za m;have l0:0<=sizeLine:=qaW _;have l1:(sw cs).length<sizeLine:=by rw[gY];omega
 have e1:=λx0=>Yn (cs:=cs) (m:=m) (x0:=x0);have no:=λh=>Yl sm (m:=m) h;generalize sw cs=S at *;by_cases h:0<=m/\m<=30
 .simp[ur,B_,ba,bC,gam,k,h,sJ,l1,e1]
 .have h2:(decide (0<=m)&&decide (m<=30))=false:=by rw[Bool.eq_false_iff];intro z;simp at z;exact h z
  rw[h2]at k
  rw[no h]
  simp[ur,B_,ba,bC,gam,k,l0]
theorem NR{ks:u8}(ho:∀n,o θI (.int x)=some (.val (.bl (q n))))(hi:Γ[1]?=some (some (.ae,.int x))):dD [1] 1 δ0 (M.bind (op2 o γb γl) aM) γb δo Γ=.ok ((ks.filter q).map D.int) Γ:=by
 have e:(ks.filter q).map D.int=(ks.map D.int).filterMap λd=>match d with|.int n=>if q n=true then some θI else none|_=>none:=by
  induction ks with
  |nil=>rfl
  |cons n r ih =>
    rw[qav,qaK,qbt,<-ih];by_cases h:q n=true
    .simp only[h,if_true,List.map_cons]
    .simp only[h,if_false];rfl
 rw[e];refine qe _ _ λd hd=>?_;obtain⟨n,_,rfl⟩:=qaE.mp hd;have li:=(qad.mp hi).1;have hn:=ho n;refine⟨[some (.ae,.int n),some (.ae,.int x)],?_,?_⟩
 .cases h:q n<;>rw[h]at hn<;>simp[bL,hi,hn,h]
 .show Γ.set 1 (some (.ae,.int x))=Γ;have:=(qad.mp hi).2;rw[<-this,qbB]
theorem NS{ks:u8}(hl:ks.length<1000)(x:Int):uu [aw ks,.int x]=some (.new (aw (near ks x))):=by
 have ln:=line;have l1:(ks.map D.int).length<sizeLine:=by rw[qaf];omega
 have e1:=λx0=>NR (q:=λn=>decide (n<x)) (o:=jP) (ks:=ks) (x:=x) (Γ:=[x0,some (.ae,.int x)]) (λn=>rfl) rfl;have e2:=λx0=>NR (q:=λn=>decide (n>x)) (o:=rW) (ks:=ks) (x:=x) (Γ:=[x0,some (.ae,.int x)]) (λn=>rfl) rfl
 have c1:jw (.lst ((ks.filter λn=>decide (n<x)).map D.int)) (some (-1)) none=some (.new (.lst ((nW (ks.filter λn=>decide (n<x))).map D.int))):=by show some (RV.new (.lst (fq _ (some (-1)) none)))=_;rw[Nr,nW,List.map_drop,qaf]
 have c2:jw (.lst ((ks.filter λn=>decide (n>x)).map D.int)) none εR=some (.new (.lst (((ks.filter λn=>decide (n>x)).take 1).map D.int))):=by show some (RV.new (.lst (fq _ none (some ((1:Nat):Int)))))=_;rw[v8,List.map_take]
 have c3:eg (.lst ((nW (ks.filter λn=>decide (n<x))).map D.int)) (.lst (((ks.filter λn=>decide (n>x)).take 1).map D.int))=some (.new (aw (near ks x))):=by show(if _+_<=sizeLine then some (RV.new (.lst (_++_))) else none)=_;have h1:=ze (ks.filter λn=>decide (n<x));have h2:=zf (ks.filter λn=>decide (n>x));rw[qaF (by rw[qaf,qaf];omega),<-qbJ];rfl
 unfold aw;unfold aw at c3;generalize hN:(near ks x).map D.int=N at *;generalize ks.map D.int=K at *;generalize (ks.filter λn=>decide (n<x)).map D.int=P at *;generalize (ks.filter λn=>decide (n>x)).map D.int=Q at *;generalize (nW (ks.filter λn=>decide (n<x))).map D.int=P1 at *;generalize ((ks.filter λn=>decide (n>x)).take 1).map D.int=Q1 at *;simp[uu,GC,ba,bC,gam,l1,e1,e2,c1,c2,c3]
noncomputable def NT(a b:C):D->Option D
 |.tup [.int k,.int m]=>if decide ((m,k)≠a/\(m,k)≠b/\Bp.ins a b (m,k))=true then some (.tup [.int k,.int m]) else none
 |_=>none
theorem NU(a b c:C):NT a b (.tup [.int c.2,.int c.1])=if decide (c≠a/\c≠b/\Bp.ins a b c)=true then some (.tup [.int c.2,.int c.1]) else none:=rfl
theorem Yo{a b:C}(ha:bU a)(hb:bU b):yR [pt a,pt b]=some (.val (.bl (!decide (a.2=b.2)&& !decide (a.1=b.1)))):=by have e1:=zb ha;have e2:=zb hb;have q1:=M7 a.2 b.2;have q2:=M7 a.1 b.1;generalize decide (a.2=b.2)=x at *;generalize decide (a.1=b.1)=y at *;cases x<;>cases y<;>simp[yR,GD,ba,bC,gam,e1,e2,lr,lR,q1,q2]
theorem Yp(c a b:C):vW [pt c,pt a,pt b]=some (.val (.bl (decide (Bp.ins a b c)))):=by
 have e:decide (Bp.ins a b c)=((decide (a.2<=c.2)&&decide (c.2<=b.2) || decide (b.2<=c.2)&&decide (c.2<=a.2))&&(decide (a.1<=c.1)&&decide (c.1<=b.1) || decide (b.1<=c.1)&&decide (c.1<=a.1))):=by rw[qa4];simp only[Bool.and_eq_true,Bool.or_eq_true,decide_eq_true_eq];rfl
 rw[e];by_cases h1:a.2<=c.2<;>by_cases h2:c.2<=b.2<;>by_cases h3:b.2<=c.2<;>by_cases h4:c.2<=a.2<;>by_cases h5:a.1<=c.1<;>by_cases h6:c.1<=b.1<;>by_cases h7:b.1<=c.1<;>by_cases h8:c.1<=a.1<;>simp[vW,GF,ba,bC,gam,lr,lR,h1,h2,h3,h4,h5,h6,h7,h8]
theorem NV(c a b:C):vO (pt c) (.tup [pt a,pt b])=some (.val (.bl (decide (c≠a/\c≠b)))):=by
 show(if cV (pt c)&& [pt a,pt b].all cV then some (RV.val (.bl (![pt a,pt b].any λe=>eqB e (pt c)))) else none)=_;have o:∀c:C,cV (pt c)=true:=λc=>wb _ _
 have e:∀x y:C,eqB (pt x) (pt y)=decide (y=x):=λx y=>by
  rw[Cg,qa4];simp only[Bool.and_eq_true,decide_eq_true_eq,Prod.ext_iff];constructor
  .rintro⟨a,b⟩;exact⟨b.symm,a.symm⟩
  .rintro⟨a,b⟩;exact⟨b.symm,a.symm⟩
 simp only[List.all_cons,List.all_nil,List.any_cons,List.any_nil,o,e,Bool.and_self,if_true];by_cases h1:c=a<;>by_cases h2:c=b<;>simp[h1,h2]
theorem Yq{cs:γh}{a b:C}{x0:Sl}:dD [1,2] 1 δ0 (andM (M.bind (cb vW (ZY γb (ZY γl (ZY γI (M.pure []))))) aM) (M.bind (op2 vO γb (dC (ZY γl (ZY γI (M.pure []))))) aM)) γb θ [x0,some (.ae,pt a),some (.ae,pt b)]=.ok (sw θU) [x0,some (.ae,pt a),some (.ae,pt b)]:=by
 have ln:=line;have l2:2<=sizeLine:=by omega
 have e:sw θU=(sw cs).filterMap (NT a b):=by
  unfold third;induction cs with
  |nil=>rfl
  |cons c r ih =>
    rw[qbt,gZ,qaK,NU];by_cases h:decide (c≠a/\c≠b/\Bp.ins a b c)=true
    .rw[qaF h,qaF h,gZ,ih]
    .rw[qaC h,qaC h,ih]
 rw[e];refine qe _ _ λd hd=>?_;obtain⟨c,hc,rfl⟩:=lu hd;refine⟨[some (.ae,pt c),some (.ae,pt a),some (.ae,pt b)],?_,rfl⟩;have e1:=Yp c a b;have e2:=NV c a b;rw[NU];by_cases h1:Bp.ins a b c<;>by_cases h2:c≠a/\c≠b
 .rw[qaF (qan ⟨h2.1,h2.2,h1⟩)];rw[qan h1]at e1;rw[qan h2]at e2;simp[bL,e1,e2,l2]
 .rw[qaC (λz=>h2 (let z:=qaI z; ⟨z.1,z.2.1⟩))];rw[qan h1]at e1;rw[qau h2]at e2;simp[bL,e1,e2,l2]
 .rw[qaC (λz=>h1 (qaI z).2.2)];rw[qau h1]at e1;simp[bL,e1]
 .rw[qaC (λz=>h1 (qaI z).2.2)];rw[qau h1]at e1;simp[bL,e1]
theorem Yr{cs:γh}(hl:cs.length<64){a b:C}(ha:bU a)(hb:bU b)(h1:a.2≠b.2)(h2:a.1≠b.1):vX [pO θ,pt a,pt b]=some (.new (.lst (sw θU))):=by
 have ln:=line;have e1:=Yo ha hb;rw[qau h1,qau h2]at e1;have e2:=wa θ;have e3:=λx0=>Yq (cs:=cs) (a:=a) (b:=b) (x0:=x0);have e4:(sw cs).length<sizeLine:=by rw[gY];omega
 generalize sw θU=T at *;generalize sw cs=S at *;simp[vX,GG,ba,bC,gam,e1,e2,e3,e4,uE]
theorem Ys(A:Ak ks)(S:ηx)(hl:cs.length<=60)(h:mE ks cs=true):nr [aw ks,pO θ]=some ηd:=by have e:=NK A S hl;rw[h]at e;generalize sw cs=B at *;generalize aw ks=K at *;simp[nr,B9,my,m_,bC,gam,e]
theorem G8(A:Ak ks)(S:ηx)(hl:cs.length<=60)(h:mE ks cs=false):nr [aw ks,pO θ]=some (.ex ⟨.NotServed,[]⟩):=by have e:=NK A S hl;rw[h]at e;generalize sw cs=B at *;generalize aw ks=K at *;simp[nr,B9,my,m_,bC,gam,e]
theorem Yt{ks:u8}{c:C}(h:0<=c.1)(h2:c.1<ks.length):∃k,ks[c.1.toNat]?=some k/\sG [aw ks,pt c]=some (.val (.bl (decide (k=c.2)))):=by
 have hl:c.1.toNat<ks.length:=by omega
 refine⟨ks[c.1.toNat],qah hl,?_⟩
 have e1:bx (aw ks) (.int c.1)=some (.val (.int ks[c.1.toNat])):=by show(dn δo c.1).map RV.val=_;unfold dn;rw[show mL (ks.map D.int).length c.1=some c.1.toNat by unfold mL;rw[if_pos h,if_pos (by rw[List.length_map];exact h2)]];simp[List.getElem?_eq_getElem hl]
 have e2:=ki ks[c.1.toNat] c.2;generalize aw ks=K at *;generalize decide (ks[c.1.toNat]=c.2)=b at *;simp[sG,Gu,ba,bC,gam,e1,e2]
end cZ
namespace Bp
open PySem Dv St So
theorem G9(S:Cs cs)(k:Int):(eA cs k).Pairwise (· < ·):=by unfold eA;rw[List.pairwise_map];have:=S.pw.filter (λc=>c.2 == k);refine List.Pairwise.imp_of_mem (λ{a b} ha hb h=>?_) this;have e1:=eq_of_beq (qaL.mp ha).2;have e2:=eq_of_beq (qaL.mp hb).2;have h:31*a.1+a.2<31*b.1+b.2:=h;omega
theorem Cs.nd(S:Cs cs):cs.Nodup:=S.pw.imp λh e=>by rw[e]at h;exact Int.lt_irrefl _ h
theorem G_(h:∀c,c∈cs ↔ c∈ds)(a b:C):bo cs a b=bo ds a b:=by rw[qa4,aT,aT];simp only[h]
theorem Filled.ext(h:∀c,c∈cs ↔ c∈ds)(F:Filled cs):Filled ds:=λa ha b hb=>by rw[<-G_ h];exact F a ((h a).mpr ha) b ((h b).mpr hb)
theorem Ha(cs:γh)(a:C):bo cs a a=false:=by
 cases h:bo cs a a with
 |false=>rfl
 |true=>exact absurd rfl (aT.mp h).1.1
theorem Cp(cs:γh)(a b:C):bo cs a b=bo cs b a:=by rw[qa4];exact⟨Co,Co⟩
noncomputable def lx:List C->List C->List C->Bool
 |_,_,[]=>true
 |cs,pre,a::r => !(pre.any λb=>bo cs a b)&&lx cs (pre++[a]) r
theorem Hb:∀{r pre:γh},(∀a∈pre,∀b∈pre,bo cs a b=false)->(lx cs pre r=true ↔ ∀a∈pre++r,∀b∈pre++r,bo cs a b=false)
 |[],pre,h=>by simpa [lx]using h
 |a::r,pre,h=>by
   have key:lx cs pre (a::r)=true ↔ (∀b∈pre,bo cs a b=false)/\lx cs (pre++[a]) r=true:=by show(!(pre.any λb=>bo cs a b)&&lx cs (pre++[a]) r)=true ↔ _;rw[qay,Bool.not_eq_true',List.any_eq_false];simp
   rw[key];have e:pre++a::r=pre++[a]++r:=by simp
   rw[e];constructor
   .rintro⟨h1,h2⟩;refine(Hb (λx hx y hy=>?_)).mp h2;rcases qaH.mp hx with u|u<;>rcases qaH.mp hy with v|v
    .exact h x u y v
    .rw[qaD.mp v,Cp];exact h1 x u
    .rw[qaD.mp u];exact h1 y v
    .rw[qaD.mp u,qaD.mp v];exact Ha _ _
   .intro h1;refine⟨λb hb=>h1 a (by simp) b (by simp[hb]),(Hb (λx hx y hy=>h1 x ?_ y ?_)).mpr h1⟩
    .exact qaT _ hx
    .exact qaT _ hy
theorem g8:lx cs [] cs=true ↔ Filled cs:=by rw[Hb (by simp)];rfl
theorem NX(F:Filled cs):∀{r:γh},(∀a∈r,a∈cs)->after cs r=[]
 |[],_=>rfl
 |a::r,h=>by show(r.filter εB).map _++after cs r=[];rw[NX F (r:=r) λx hx=>h x θB];rw[show r.filter εB=[] from qbM.mpr λx hx=>by rw[F a (h a (qag ..)) x (h x θB)];simp];rfl
theorem Yu(F:Filled cs):bare cs=[]:=NX F λ_ h=>h
theorem NY:∀{r:γh},after cs r=[]->∀a∈r,∀b∈r,bo cs a b=false
 |[],_,a,ha=>by cases ha
 |c::r,h,a,ha=>by
   intro b hb;have h:(r.filter (bo cs c)).map (λd=>(c,d))++after cs r=[]:=h;obtain⟨h1,h2⟩:=List.append_eq_nil_iff.mp h;have h1:=qbM.mp (List.map_eq_nil_iff.mp h1);have h1:∀x∈r,bo cs c x=false:=λx hx=>by simpa using h1 x hx
   rcases qak.mp ha with u|u<;>rcases qak.mp hb with v|v
   .rw[u,v];exact Ha _ _
   .rw[u];exact h1 b v
   .rw[v,Cp];exact h1 a u
   .exact NY h2 a u b v
theorem Yv(h:bare cs=[]):Filled cs:=NY h
theorem Yw(h:bo cs a b=false)(s:∀c∈cs,c∈ds):bo ds a b=false:=by
 cases q:bo ds a b with
 |false=>rfl
 |true =>
   obtain⟨h1,h2⟩:=aT.mp q;rw[aT.mpr ⟨h1,λc hc=>h2 c (s c hc)⟩]at h;cases h
theorem Hc:∀{l g:γh},l.Nodup->(∀c∈l,c∈g)->l.length<=g.length
 |[],_,_,_=>qaW _
 |a::r,g,nd,h=>by obtain⟨h1,h2⟩:=qbd.mp nd;have ha:=h a (qag ..);have:=Hc (l:=r) (g:=g.erase a) h2 λc hc=>(List.mem_erase_of_ne (show c≠a from λe=>h1 (e ▸ hc))).mpr (h c (qae _ hc));have e:=List.length_erase_of_mem ha;have:=List.length_pos_of_mem ha;rw[qaN];omega
structure Cl(g c0 cs:γh)(n:Nat):Prop where
 nd:cs.Nodup
 sub:∀c∈cs,c∈g
 le:n<=cs.length
 ok:∀a∈cs.take n,∀b∈cs.take n,bo cs a b=false
 has:∀c∈c0,c∈cs
theorem Cl.len(H:Cl g c0 cs n):cs.length<=g.length:=Hc H.nd H.sub
theorem Cl.next(H:Cl g c0 cs n)(ha:cs[n]?=some a)(h:∀b∈cs.take n,bo cs a b=false):Cl g c0 cs (n+1):=by
 have e:cs.take (n+1)=cs.take n++[a]:=by rw[List.take_add_one,ha];rfl
 refine⟨H.nd,H.sub,(qad.mp ha).1,?_,H.has⟩;rw[e];intro x hx y hy;rcases qaH.mp hx with u|u<;>rcases qaH.mp hy with v|v
 .exact H.ok x u y v
 .rw[qaD.mp v,Cp];exact h x u
 .rw[qaD.mp u];exact h y v
 .rw[qaD.mp u,qaD.mp v];exact Ha _ _
theorem Cl.more(H:Cl g c0 cs n)(hg:∀a∈g,∀b∈g,(b.1,a.2)∈g)(ha:a∈cs)(hb:b∈cs)(h:bo cs a b=true):Cl g c0 (cs++[(b.1,a.2)]) n:=by
 obtain⟨no,_⟩:=NC h;have e:(cs++[(b.1,a.2)]).take n=cs.take n:=List.take_append_of_le_length H.le;refine⟨?_,λc hc=>?_,by rw[qaq];have:=H.le;omega,?_,λc hc=>qaT _ (H.has c hc)⟩
 .rw[List.nodup_append];refine⟨H.nd,by simp,λx hx y hy=>?_⟩;rw[qaD.mp hy];intro z;exact no (z ▸ hx)
 .rcases qaH.mp hc with hc|hc
  .exact H.sub c hc
  .rw[qaD.mp hc];exact hg a (H.sub a ha) b (H.sub b hb)
 .rw[e];intro x hx y hy;exact Yw (H.ok x hx y hy) λc hc=>qaT _ hc
theorem Cl.filled(H:Cl g c0 cs cs.length):Filled cs:=λa ha b hb=>H.ok a (by simpa using ha) b (by simpa using hb)
end Bp
namespace cZ
open PySem L2 Ex Dv Tr St So Bp
noncomputable abbrev bE(x0:Sl)(a b:C)(lo hi be en:Int)(x7 x8:Sl):En:=[x0,some (.ae,pt a),some (.ae,pt b),some (.ae,.int lo),some (.ae,.int hi),some (.ae,.int be),some (.ae,.int en),x7,x8]
theorem Yx(hI:ins a b c ↔ (lo<=c.2/\c.2<=hi)/\be<=c.1/\c.1<=en):qZ (bE x0 a b lo hi be en (some (.ae,.int c.2)) (some (.ae,.int c.1)))=.ok (if c≠a/\c≠b/\ins a b c then .ret γe else .nx) (bE x0 a b lo hi be en (some (.ae,.int c.2)) (some (.ae,.int c.1))):=by
 have ln:=line;have l2:2<=sizeLine:=by omega
 have n:=NV c a b;unfold bE;by_cases h1:lo<=c.2
 .by_cases h2:c.2<=hi
  .by_cases h3:be<=c.1
   .by_cases h4:c.1<=en
    .have i:ins a b c:=hI.mpr ⟨⟨h1,h2⟩,h3,h4⟩;by_cases q:c≠a/\c≠b
     .rw[qan q]at n;rw[qaF ⟨q.1,q.2,i⟩];simp[qZ,h1,h2,h3,h4,l2,n]
     .rw[qau q]at n;rw[qaC (λz=>q ⟨z.1,z.2.1⟩)];simp[qZ,h1,h2,h3,h4,l2,n]
    .rw[qaC (λz=>h4 (hI.mp z.2.2).2.2)];simp[qZ,h1,h2,h3,h4]
   .rw[qaC (λz=>h3 (hI.mp z.2.2).2.1)];simp[qZ,h1,h2,h3]
  .rw[qaC (λz=>h2 (hI.mp z.2.2).1.2)];simp[qZ,h1,h2]
 .rw[qaC (λz=>h1 (hI.mp z.2.2).1.1)];simp[qZ,h1]
theorem Yy(c:C)(r:γh)(a b:C):third (c::r) a b=if c≠a/\c≠b/\ins a b c then c::third r a b else third r a b:=by unfold third;rw[qbt];by_cases h:c≠a/\c≠b/\ins a b c<;>simp[h]
theorem NZ(hI:∀c:C,ins a b c ↔ (lo<=c.2/\c.2<=hi)/\be<=c.1/\c.1<=en):∀(r:γh) (x7 x8:Sl),∃y7 y8,gX θC qZ (sw r) (bE x0 a b lo hi be en x7 x8)=.ok (if (third r a b).isEmpty then .nx else .ret γe) (bE x0 a b lo hi be en y7 y8)
 |[],x7,x8=>⟨x7,x8,rfl⟩
 |c::r,x7,x8=>by
   have e:=Yx (x0:=x0) (hI c);have g:gT 2 γK (.tup [.int c.2,.int c.1]) (bE x0 a b lo hi be en x7 x8)=.ok () (bE x0 a b lo hi be en (some (.ae,.int c.2)) (some (.ae,.int c.1))):=rfl;obtain⟨z7,z8,ih⟩:=NZ (x0:=x0) hI r (some (.ae,.int c.2)) (some (.ae,.int c.1));rw[Yy];by_cases q:c≠a/\c≠b/\ins a b c
   .rw[qaF q]at e;refine⟨some (.ae,.int c.2),some (.ae,.int c.1),?_⟩;rw[gZ,k_,m9,g];simp only[e];rw[qaF q];rfl
   .rw[qaC q]at e;refine⟨z7,z8,?_⟩;rw[gZ,k_,m9,g];simp only[e];rw[qaC q];exact ih
theorem Cq(cs:γh)(a b:C):o5 [.lst θ,pt a,pt b]=some (.val (.bl (bo cs a b))):=by
 have q1:=ki a.2 b.2;have q2:=ki a.1 b.1;by_cases h2:a.2=b.2
 .have:bo cs a b=false:=by unfold bo;simp[h2]
  rw[this];rw[qan h2]at q1;unfold o5;unfold yS;generalize sw cs=B at *;simp[ba,bC,gam,lr,lR,q1]
 by_cases h1:a.1=b.1
 .have:bo cs a b=false:=by unfold bo;simp[h1]
  rw[this];rw[qan h1]at q2;rw[qau h2]at q1;unfold o5;unfold yS;generalize sw cs=B at *;simp[ba,bC,gam,lr,lR,q1,q2]
 have ei:bo cs a b=(third cs a b).isEmpty:=by unfold bo;simp[h1,h2]
 rw[ei];rw[qau h2]at q1;rw[qau h1]at q2
 have hI:∀c:C,ins a b c ↔ ((if b.2<a.2 then b.2 else a.2)<=c.2/\c.2<=(if b.2>a.2 then b.2 else a.2))/\(if b.1<a.1 then b.1 else a.1)<=c.1/\c.1<=(if b.1>a.1 then b.1 else a.1):=λc=>by unfold Bp.ins;split<;>split<;>split<;>split<;>omega
 have hm1:rZ [.int a.2,.int b.2]=some (.val (.int (if b.2<a.2 then b.2 else a.2))):=rfl;have hm2:rY [.int a.2,.int b.2]=some (.val (.int (if b.2>a.2 then b.2 else a.2))):=rfl;have Yz:rZ [.int a.1,.int b.1]=some (.val (.int (if b.1<a.1 then b.1 else a.1))):=rfl;have YA:rY [.int a.1,.int b.1]=some (.val (.int (if b.1>a.1 then b.1 else a.1))):=rfl;generalize (if b.2<a.2 then b.2 else a.2)=lo at *;generalize (if b.2>a.2 then b.2 else a.2)=hi at *;generalize (if b.1<a.1 then b.1 else a.1)=be at *;generalize (if b.1>a.1 then b.1 else a.1)=en at *;obtain⟨y7,y8,e⟩:=NZ (x0:=some (.ae,.lst θ)) hI cs none none;unfold bE at e;unfold o5;unfold yS;generalize sw cs=B at *;cases hq:(third cs a b).isEmpty<;>rw[hq]at e<;>simp[-U6, -U5,ba,bC,gam,lr,lR,q1,q2,hm1,hm2,Yz,YA,e]
noncomputable def fR(p:C):D->Option D
 |.tup [.int a,.int b]=>if decide ((b,a)≠p)=true then some (.tup [.int a,.int b]) else none
 |_=>none
theorem N0(p:C):∀cs:List C,(sw cs).filterMap (fR p)=sw γ5
 |[]=>rfl
 |c::r=>by
   rw[gZ,qaK,N0 p r];rw[show fR p (.tup [.int c.2,.int c.1])=if decide (c≠p)=true then some (.tup [.int c.2,.int c.1]) else none from rfl];unfold Bp.rest;rw[qbt];by_cases q:decide (c≠p)=true
   .rw[qaF q,qaF q];rfl
   .rw[qaC q,qaC q]
theorem He{cs:γh}{p:C}{j:Nat}{Γ:En}(hj:Γ[j]?=some (some (.ae,pt p))):dD [j] 1 δ0 ζY γb θ Γ=.ok (sw γ5) Γ:=by
 rw[<-N0];refine qe (fR p) θ λd hd=>?_;obtain⟨c,hc,rfl⟩:=lu hd;have e:=X4 c p;refine⟨[some (.ae,.tup [.int c.2,.int c.1]),some (.ae,pt p)],?_,?_⟩
 .rw[show fR p (.tup [.int c.2,.int c.1])=if decide (c≠p)=true then some (.tup [.int c.2,.int c.1]) else none from rfl];cases q:decide (c≠p)<;>rw[q]at e<;>simp[bL,hj,e]
 .show Γ.set j (some (.ae,pt p))=Γ;have:=(qad.mp hj).2;rw[<-this,qbB]
theorem Hf(S:ηx)(p:C):Bp.Cs γ5:=⟨λc hc=>S.sm c (aY.mp hc).1,S.pw.filter _⟩
theorem Cr(cs:γh)(p:C):(rest cs p).length<=cs.length:=List.length_filter_le ..
theorem N1(S:ηx)(hl:cs.length<=60)(hp:p∈cs):uq [pO θ,pt p]=some (.val (pO (sw γ5))):=by
 have ln:=line;have e1:=has_eq (cs:=cs) (k:=p.2) (i:=p.1) (S.sm p hp);rw[qan (show(p.1,p.2)∈cs from hp)]at e1;have e2:=λx0=>He (cs:=cs) (p:=p) (j:=1) (Γ:=[x0,some (.ae,pt p)]) rfl;have F:=Hf S p;have e3:=Cf (cs:=rest cs p) F.sm (by have:=Cr cs p;omega);rw[F.fA]at e3;have e4:(sw cs).length<sizeLine:=by rw[gY];omega
 generalize sw γ5=R at *;generalize sw cs=T at *;simp[uq,Gr,ba,bC,gam,e1,e2,e3,e4,wg,sJ]
theorem YB{cs:γh}(S:ηx)(hl:cs.length<=59){p:C}(hp:bU p):v7 [pO θ,.lst [pt p]]=some (.val (pO (sw (aE (cs++[p]))))):=by
 have ln:=line;have zt:∀c∈cs++[p],bU c:=λc hc=>(qaH.mp hc).elim (S.sm c) (λh=>by rw[qaD.mp h];exact hp);have e1:uo [.lst [pt p]]=some δw:=Nb (ds:=[pt p]) (by simp) λd hd=>by rw[List.mem_singleton.mp hd];exact zb hp
 have l2:(aE (cs++[p])).length<=60:=by have:=v_ (cs++[p]);rw[qaq]at this;simp at this;omega
 have e2:eg δ3 (.lst [pt p])=some (.new (.lst (sw (cs++[p])))):=by rw[wc];exact qO (by rw[gY];simp;omega)
 have e3:=order_eq zt (by rw[qaq];simp;omega);have h1:¬(200<((sw (aE (cs++[p]))).length:Int)):=by rw[gY];omega
 have e5:=Cf (cs:=aE (cs++[p])) (λc hc=>zt c (au.mp hc)) (by omega);rw[Xz zt]at e5;have im:jy (.new (.lst (sw (aE (cs++[p])))))=true:=zc _;generalize sw (aE (cs++[p]))=S at *;generalize sw (cs++[p])=U at *;generalize sw cs=T at *;simp[v7,GN,ba,bC,gam,e1,e2,e3,e5,h1,sJ,im]
theorem YC{cs pre:γh}{a:C}{x1:Sl}:dD [0,2] 1 δ0 γp (cb o5 (ZY γl (ZY γI γv))) (sw pre) [some (.ae,.lst θ),x1,some (.ae,pt a)]=.ok ((pre.map εB).map D.bl) [some (.ae,.lst θ),x1,some (.ae,pt a)]:=by
 have e:(sw pre).map (λd=>match d with|.tup [.int k,.int m]=>D.bl (bo cs a (m,k))|d=>d)=(pre.map εB).map D.bl:=by
  induction pre with
  |nil=>rfl
  |cons c r ih=>rw[gZ,qav,ih];rfl
 rw[<-e];refine su _ λd hd=>?_;obtain⟨c,hc,rfl⟩:=lu hd;have hh:=Cq cs a c;refine⟨[some (.ae,pt c),some (.ae,.lst θ),some (.ae,pt a)],?_,rfl⟩;generalize sw cs=T at *;simp[bL,hh]
theorem YD{cs pre:γh}(hp:cs.take i=pre)(hl:cs.length<=60):Cc [some (.ae,.lst θ),some (.ae,.int i),some (.ae,pt a)]=.ok (if pre.any (λb=>bo cs a b) then .ret γe else .nx) [some (.ae,.lst θ),some (.ae,.int i),some (.ae,pt a)]:=by
 have ln:=line;have e1:fq θ none (some (i:Int))=sw pre:=by rw[v8,<-hp];simp[sw,List.map_take]
 have e2:=YC (cs:=cs) (pre:=pre) (a:=a) (x1:=some (.ae,.int i))
 have e3:A5 [.lst ((pre.map εB).map D.bl)]=some (.val (.bl (pre.any λb=>bo cs a b))):=by show(mY ((pre.map εB).map D.bl)).map (λbs=>RV.val ηO)=_;rw[D7,Option.map_some,List.any_map];rfl
 have e4:(sw pre).length<sizeLine:=by rw[gY,<-hp,qbv];omega
 generalize (pre.any λb=>bo cs a b)=Q at *;generalize (pre.map εB).map D.bl=V at *;generalize sw pre=U at *;generalize sw cs=T at *;cases Q<;>simp[Cc,e1,e2,e3,e4]
theorem N2{cs:γh}(hl:cs.length<=60):∀(r pre:γh) (x1 x2:Sl),cs=pre++r->∃y1 y2,gX (gT 2 γ4) Cc (uz pre.length (sw r)) [some (.ae,.lst θ),x1,x2]=.ok (if lx cs pre r then .nx else .ret γe) [some (.ae,.lst θ),y1,y2]
 |[],pre,x1,x2,_=>⟨x1,x2,rfl⟩
 |a::r,pre,x1,x2,hc=>by
   have e:=YD (cs:=cs) (i:=pre.length) (a:=a) (pre:=pre) (by rw[hc,List.take_left'];rfl) hl;have g:gT 2 γ4 (.tup [.int pre.length,pt a]) [some (.ae,.lst θ),x1,x2]=.ok () [some (.ae,.lst θ),some (.ae,.int pre.length),some (.ae,pt a)]:=rfl;obtain⟨z1,z2,ih⟩:=N2 hl r (pre++[a]) (some (.ae,.int pre.length)) (some (.ae,pt a)) (by rw[hc];simp);rw[show(pre++[a]).length=pre.length+1 by simp]at ih;rw[show lx cs pre (a::r)=(!(pre.any λb=>bo cs a b)&&lx cs (pre++[a]) r) from rfl];rw[gZ,GY,k_,m9,g];cases q:pre.any (λb=>bo cs a b) with
   |true =>
     rw[q]at e;refine⟨some (.ae,.int pre.length),some (.ae,pt a),?_⟩;simp only[e];rfl
   |false =>
     rw[q]at e;refine⟨z1,z2,?_⟩;simp only[e];exact ih
theorem N3{cs:γh}(hl:cs.length<=60):v5 [.lst θ]=some (.val (.bl (lx cs [] cs))):=by obtain⟨y1,y2,e⟩:=N2 hl cs [] none none rfl;rw[show uz ([]:List C).length θ=lN θ from rfl]at e;unfold v5;unfold GL;generalize lx cs [] cs=Q at *;generalize sw cs=T at *;cases Q<;>simp[ba,bC,gam,e]
theorem Ct(cs:γh)(c:C):qi (pt c) δ3=some (.val (.bl (decide (c∉cs)))):=by show(if cV (pt c)&&(sw cs).all cV then some (RV.val (.bl (!(sw cs).any λe=>eqB e (pt c)))) else none)=_;rw[wb,Ci,Nd];show some (RV.val (D.bl (!decide (c∈cs))))=_;by_cases h:c∈cs<;>simp[h]
abbrev cE(x0:Sl)(cs:γh)(n:Nat)(a:C)(mo:γh)(x5:Sl):En:=[x0,some (.own,.lst θ),some (.ae,.int n),some (.ae,pt a),some (.own,.lst (sw mo)),x5]
section
variable{x0:Sl}{cs:γh}{n:Nat}{a:C}
theorem YE(h:mo≠[]):qm (cE x0 cs n a mo (some (.ae,pt b)))=.ok .nx (cE x0 cs n a mo (some (.ae,pt b))):=by
 have l0:0<=sizeLine:=qaW _;have e:=zk (uC mo);have e3:(sw mo).isEmpty=false:=by cases mo with|nil=>exact absurd rfl h|cons a r=>rfl
 rw[e3]at e;unfold cE;generalize sw mo=B at *;generalize sw cs=T at *;simp[qm,l0,e]
theorem YF:qm (cE x0 cs n a [] (some (.ae,pt b)))=.ok .nx (cE x0 cs n a (if bo cs a b then [(b.1,a.2)] else []) (some (.ae,pt b))):=by
 have ln:=line;have l0:0<=sizeLine:=qaW _;have l1:1<=sizeLine:=by omega
 have l2:2<=sizeLine:=by omega
 have e:eF (.lst []) (.lst [])=some γa:=zk (uC []);have e2:=Cq cs a b;unfold cE;cases q:bo cs a b<;>rw[q]at e2
 .show qm [x0,some (.own,.lst θ),some (.ae,.int n),some (.ae,pt a),some (.own,.lst []),some (.ae,pt b)]=.ok .nx [x0,some (.own,.lst θ),some (.ae,.int n),some (.ae,pt a),some (.own,.lst []),some (.ae,pt b)];generalize sw cs=T at *;simp[qm,l0,e,e2]
 .show qm [x0,some (.own,.lst θ),some (.ae,.int n),some (.ae,pt a),some (.own,.lst []),some (.ae,pt b)]=.ok .nx [x0,some (.own,.lst θ),some (.ae,.int n),some (.ae,pt a),some (.own,.lst [.tup [.int a.2,.int b.1]]),some (.ae,pt b)];generalize sw cs=T at *;simp[qm,l0,l1,l2,e,e2,lr,lR]
theorem Hg:gN 5 (pt c) (cE x0 cs n a mo x5)=.ok () (cE x0 cs n a mo (some (.ae,pt c))):=rfl
theorem N4(h:mo≠[]):∀(r:γh) (x5:Sl),∃y5,gX (gN 5) qm (sw r) (cE x0 cs n a mo x5)=.ok .nx (cE x0 cs n a mo y5)
 |[],x5=>⟨x5,rfl⟩
 |b::r,x5=>by obtain⟨y5,ih⟩:=N4 h r (some (.ae,pt b));refine⟨y5,?_⟩;rw[gZ,k_,m9,Hg];simp only[YE (b:=b) h];exact ih
theorem N5:∀(r:γh) (x5:Sl),∃mo y5,gX (gN 5) qm (sw r) (cE x0 cs n a [] x5)=.ok .nx (cE x0 cs n a mo y5)/\(mo=[]/\(∀b∈r,bo cs a b=false)\/∃b∈r,bo cs a b=true/\mo=[(b.1,a.2)])
 |[],x5=>⟨[],x5,rfl,.inl ⟨rfl,λb hb=>by cases hb⟩⟩
 |b::r,x5=>by
   have e:=YF (x0:=x0) (cs:=cs) (n:=n) (a:=a) (b:=b);cases q:bo cs a b with
   |true =>
     rw[q]at e;obtain⟨y5,ih⟩:=N4 (x0:=x0) (cs:=cs) (n:=n) (a:=a) (mo:=[(b.1,a.2)]) (by simp) r (some (.ae,pt b));refine⟨[(b.1,a.2)],y5,?_,.inr ⟨b,qag ..,q,rfl⟩⟩;rw[gZ,k_,m9,Hg];simp only[e];exact ih
   |false =>
     rw[q]at e;obtain⟨mo,y5,ih,h⟩:=N5 r (some (.ae,pt b));refine⟨mo,y5,?_,?_⟩
     .rw[gZ,k_,m9,Hg];simp only[e];exact ih
     .rcases h with ⟨h1,h2⟩|⟨c,h1,h2,h3⟩
      .exact .inl ⟨h1,λx hx=>(qak.mp hx).elim (λz=>z ▸ q) (h2 x)⟩
      .exact .inr ⟨c,qae _ h1,h2,h3⟩
abbrev cF(x0:Sl)(cs:γh)(n:Nat)(a:C)(mo:γh)(x5:Sl):En:=[x0,some (.own,.lst θ),some (.ae,.int n),some (.ae,pt a),some (.ae,.lst (sw mo)),x5]
theorem YG:uy (cE x0 cs n a [] y5)=.ok (.new (.lst [])) (cF x0 cs n a [] y5):=by
 have l0:0<sizeLine:=by have:=line;omega
 unfold cE cF;generalize sw cs=T at *;show uy [x0,some (.own,.lst T),some (.ae,.int n),some (.ae,pt a),some (.own,.lst []),y5]=.ok (.new (.lst [])) [x0,some (.own,.lst T),some (.ae,.int n),some (.ae,pt a),some (.ae,.lst []),y5];simp[uy,l0,dD]
theorem YH(h:p∉cs):uy (cE x0 cs n a [p] y5)=.ok (.new (.lst [pt p])) (cF x0 cs n a [p] y5):=by
 have l1:1<sizeLine:=by have:=line;omega
 have e:=Ct cs p;rw[qan h]at e;unfold cE cF;generalize sw cs=T at *;show uy [x0,some (.own,.lst T),some (.ae,.int n),some (.ae,pt a),some (.own,.lst [pt p]),y5]=.ok (.new (.lst [pt p])) [x0,some (.own,.lst T),some (.ae,.int n),some (.ae,pt a),some (.ae,.lst [pt p]),y5]
 have l:dD [1] 1 δ0 εw γb [pt p] [x0,some (.own,.lst T),some (.ae,.int n),some (.ae,pt a),some (.ae,.lst [pt p]),y5]=.ok [pt p] [x0,some (.own,.lst T),some (.ae,.int n),some (.ae,pt a),some (.ae,.lst [pt p]),y5]:=by
  have:=qe (fr:=[1]) (own:=1) (m:=gN 0) (p:=M.bind (op2 qi γb γl) aM) (f:=Zj 0) (Γ:=[x0,some (.own,.lst T),some (.ae,.int n),some (.ae,pt a),some (.ae,.lst [pt p]),y5]) (λd=>some d) [pt p] (λd hd=>by rw[qaD.mp hd];refine⟨[some (.ae,pt p),some (.own,.lst T)],?_,rfl⟩;simp[bL,e])
  exact this
 simp[uy,l1,l]
theorem YI(hl:cs.length<=100)(ha:cs[n]?=some a):∃(cs':γh) (n':Nat) (y3 y4 y5:Sl),vZ [x0,some (.own,.lst θ),some (.ae,.int n),x3,x4,x5]=.ok .nx [x0,some (.own,.lst (sw cs')),some (.ae,.int n'),y3,y4,y5]/\(cs'=cs/\n'=n+1/\(∀b∈cs.take n,bo cs a b=false)\/n'=n/\∃b∈cs.take n,bo cs a b=true/\cs'=cs++[(b.1,a.2)]):=by
 have ln:=line;have l0:0<=sizeLine:=qaW _;have e1:L2.dn θ (n:Int)=some (pt a):=De (by rw[zj,qaB,ha];rfl);have e2:fq θ none (some (n:Int))=sw θ5:=by rw[v8];simp[sw,List.map_take]
 obtain⟨mo,y5,e3,h⟩:=N5 (x0:=x0) (cs:=cs) (n:=n) (a:=a) θ5 x5;rcases h with ⟨rfl,h⟩|⟨b,hb,h,rfl⟩
 .refine⟨cs,n+1,some (.ae,pt a),some (.ae,.lst []),y5,?_,.inl ⟨rfl,rfl,h⟩⟩;have e4:=YG (x0:=x0) (cs:=cs) (n:=n) (a:=a) (y5:=y5);have e5:eg δ3 (.lst [])=some (.new δ3):=by rw[qO (by rw[gY];simp;omega)];simp
  have e6:eF (.lst []) (.lst [])=some γa:=zk (uC []);have c:((n+1:Nat):Int)=(n:Int)+1:=by omega
  rw[c];unfold cE cF at *;rw[show sw ([]:List C)=[] from rfl]at *;generalize sw θ5=U at *;generalize sw cs=T at *;simp[vZ,e1,e2,e3,e4,e5,e6,l0]
 .refine⟨cs++[(b.1,a.2)],n,some (.ae,pt a),some (.ae,.lst [pt (b.1,a.2)]),y5,?_,.inr ⟨rfl,b,hb,h,rfl⟩⟩;have e4:=YH (x0:=x0) (cs:=cs) (n:=n) (a:=a) (y5:=y5) (NC h).1;have e5:eg δ3 (.lst [pt (b.1,a.2)])=some (.new (.lst (sw (cs++[(b.1,a.2)])))):=by rw[wc];exact qO (by rw[gY];simp;omega)
  have e6:eF (.lst [pt (b.1,a.2)]) (.lst [])=some γe:=zk (uC [(b.1,a.2)]);unfold cE cF at *;rw[show sw ([(b.1,a.2)]:List C)=[pt (b.1,a.2)] from rfl,show sw ([]:List C)=[] from rfl]at *;generalize sw (cs++[(b.1,a.2)])=V at *;generalize sw θ5=U at *;generalize sw cs=T at *;simp[vZ,e1,e2,e3,e4,e5,e6,l0]
theorem YJ:yT [x0,some (.own,.lst θ),some (.ae,.int n),x3,x4,x5]=.ok (decide (n<cs.length)) [x0,some (.own,.lst θ),some (.ae,.int n),x3,x4,x5]:=by
 have e:(decide (n<cs.length))=decide ((n:Int)<((sw cs).length:Int)):=by rw[gY,qa4];simp
 rw[e];generalize sw cs=T at *;simp[yT]
end
theorem YK:tR [.lst ds]=some (.new εl):=rfl
theorem closed_eq{g c0:γh}(hg:∀a∈g,∀b∈g,(b.1,a.2)∈g)(lg:g.length<=50)(nd:c0.Nodup)(sub:∀c∈c0,c∈g):∃cs,yU [.lst θ2]=some (.new δ3)/\Filled cs/\cs.Nodup/\(∀c∈cs,c∈g)/\∀c∈c0,c∈cs:=by
 have H0:Cl g c0 c0 0:=⟨nd,sub,qaW _,λa ha=>by simp at ha,λc h=>h⟩
 obtain⟨Γ',hw,cs,n,y3,y4,y5,rfl,H,hn⟩:=U8 (p:=yT) (s:=vZ)
  (λm Γ=>∃cs n x3 x4 x5,Γ=[some (.ae,.lst θ2),some (.own,.lst θ),some (.ae,.int (n:Nat)),x3,x4,x5]/\Cl g c0 cs n/\m+cs.length+n=100)
  (λΓ=>∃cs n x3 x4 x5,Γ=[some (.ae,.lst θ2),some (.own,.lst θ),some (.ae,.int (n:Nat)),x3,x4,x5]/\Cl g c0 cs n/\n=cs.length)
  (by
   rintro m Γ ⟨cs,n,x3,x4,x5,rfl,H,hm⟩;have hp:=YJ (x0:=some (.ae,.lst θ2)) (cs:=cs) (n:=n) (x3:=x3) (x4:=x4) (x5:=x5);have lc:=H.len;by_cases q:n<cs.length
   .rw[qan q]at hp;have mm:1<=m:=by omega
    obtain⟨cs',n',y3,y4,y5,e,h⟩:=YI (x0:=some (.ae,.lst θ2)) (cs:=cs) (n:=n) (a:=cs[n]) (by omega) (qah q) (x3:=x3) (x4:=x4) (x5:=x5);rcases h with ⟨rfl,rfl,h⟩|⟨rfl,b,hb,h,rfl⟩
    .exact .inr ⟨_,_,m-1,hp,e,by have:=H.le;omega,_,_,y3,y4,y5,rfl,H.next (qah q) h,by have:=H.le;omega⟩
    .have H':=H.more hg (qaY q) (List.mem_of_mem_take hb) h;have l':=H'.len;rw[qaq]at l';simp at l';exact .inr ⟨_,_,m-1,hp,e,by omega,_,_,y3,y4,y5,rfl,H',by rw[qaq];simp;omega⟩
   .rw[qau q]at hp;exact .inl ⟨_,hp,cs,n,x3,x4,x5,rfl,H,by have:=H.le;omega⟩) yL (100-c0.length) [some (.ae,.lst θ2),some (.own,.lst θ2),some (.ae,.int (0:Nat)),none,none,none] (by unfold yL;omega) ⟨c0,0,none,none,none,rfl,H0,by have:=H0.len;omega⟩
 subst hn;refine⟨cs,?_,H.filled,H.nd,H.sub,H.has⟩;have hw:m6 yT vZ yL [some (.ae,.lst θ2),some (.own,.lst θ2),some (.ae,.int 0),none,none,none]=_:=hw;unfold yU;unfold GJ;generalize sw cs=T at *;generalize sw c0=U at *;simp[ba,bC,gam,hw,YK]
noncomputable def gA(as:u8)(i:Int):Int:=as.getD i.toNat 0
theorem mF{as:u8}{i:Int}(h:0<=i)(h':i<as.length):L2.dn (as.map D.int) i=some (.int (gA as i)):=by
 have e:as[i.toNat]?=some (gA as i):=by unfold gA;rw[qa1,qah (by omega)];rfl
 have q:(as.map D.int)[i.toNat]?=some (.int (gA as i)):=by rw[qaB,e];rfl
 have z:=De q;rwa[Int.toNat_of_nonneg h]at z
theorem N6{ns:u8}(h:ns.length<64):vk [aw ns]=some (.new (aw (Dv.fA ns))):=by show(iA εn).bind _=_;rw[vj];show(if ns.length<64 then _ else _)=_;rw[qaF h]
theorem YL{i:Int}(h:i.natAbs<2 ^ 64):xH γT (.int 2)=some (.val (.int (i ^ 2))):=by show(if cd ((0:Int)<=2/\(2:Int)<=1000000/\i.natAbs<2 ^ 64)=true then some (RV.val (.int (i ^ (2:Int).toNat))) else none)=_;rw[qaF (gf ⟨by decide,by decide,h⟩)];rfl
structure Fits(F sizes:u8):Prop where
 at_:∀(j:Nat) (x:Int),F[j]?=some x->∃z,sizes[j]?=some z/\0<=x/\x<z
theorem Fits.snoc{F sizes:u8}{x z:Int}(h:Fits F sizes)(hz:sizes[F.length]?=some z)(h0:0<=x)(h1:x<z):Fits (F++[x]) sizes:=⟨λj y e=>by
 by_cases hj:j<F.length
 .rw[qa8 hj]at e;exact h.at_ j y e
 .rw[qbw (by omega)]at e
  have:j-F.length=0:=by
   by_cases q:j-F.length=0
   .exact q
   .rw[List.getElem?_eq_none (by simp;omega)]at e;cases e
  rw[this]at e;cases e;have:j=F.length:=by omega
  subst this;exact⟨z,hz,h0,h1⟩⟩
theorem YM{d0 d1 d2:Sl}{n s:Int}{w:Bool}{F:u8}{i:Nat}{z:Int}(hi:i<100)(hF:F.length<1000)(hs:0<=s/\s<4294967296)(hz:0<z/\z<1000) :
 ∃(n' s' x:Int),turn [d0,d1,d2,some (.ae,.int n),some (.ae,.bl w),some (.ae,.int s),some (.own,aw F),some (.ae,.int i),some (.ae,.int z)]=.ok .nx [d0,d1,d2,some (.ae,.int n'),some (.ae,.bl w),some (.ae,.int s'),some (.own,aw (F++[x])),some (.ae,.int i),some (.ae,.int z)]/\(0<=s'/\s'<4294967296)/\0<=x/\x<z:=by
 have ln:=line;have sz:F.length<sizeLine:=by omega
 by_cases hw:w=true/\0<n
 .obtain⟨rfl,hn⟩:=hw;refine⟨n/z,s,n % z,?_,hs,qbq _ (by omega),qbb _ hz.1⟩;have z2:z<1073741824:=by omega
  simp[turn,hn,hz.1,z2,sz]
 .have m1:tP 104729 ((i:Int)+1)=true:=E7 (by omega);have p1:(s+104729*((i:Int)+1)).natAbs<2 ^ 64:=by omega
  have p2:=YL p1;generalize hq:(s+104729*((i:Int)+1)) ^ 2=q at p2;have r1:0<=q % 2147483587:=qbq _ (by decide);have r2:q % 2147483587<2147483587:=qbb _ (by decide);refine⟨n,q % 2147483587,q % 2147483587/16 % z,?_,⟨r1,by omega⟩,qbq _ (by omega),qbb _ hz.1⟩;cases w with
  |false=>simp[turn,m1,p2,hz.1,sz]
  |true =>
    have hn:¬0<n:=λh=>hw ⟨rfl,h⟩;simp[turn,hn,m1,p2,hz.1,sz]
theorem N7(c:Int)(t:Nat)(ht:t<100)(sizes:u8)(hl:sizes.length<100)(hz:∀z∈sizes,0<z/\z<1000) :
 ∃F,ux [.int c,.int t,aw sizes]=some (.new (aw F))/\F.length=sizes.length/\Fits F sizes:=by
 have ln:=line;have s0:0<=sizeLine:=by omega
 generalize ha:(if c<0 then -c else c)=n;have m1:tP 7919 (t:Int)=true:=E7 (by omega);have q1:0<=n % 2147483647:=qbq _ (by decide);have q2:n % 2147483647<2147483647:=qbb _ (by decide)
 obtain⟨Γ',hlp,n',s',F,t7,t8,rfl,hs',hF,hfit⟩:=Bu (m:=gT 2 γK) (s:=turn)
  (λi Γ=>∃(n s:Int) (F:u8) (t7 t8:Sl),Γ=[some (.ae,.int c),some (.ae,.int t),some (.ae,aw sizes),some (.ae,.int n),some (.ae,.bl (decide (vA<=(if c<0 then -c else c)))),some (.ae,.int s),some (.own,aw F),t7,t8]/\(0<=s/\s<4294967296)/\F.length=i/\Fits F sizes)
  (ds:=lN (sizes.map D.int)) (Γ:=[some (.ae,.int c),some (.ae,.int t),some (.ae,aw sizes),some (.ae,.int n),some (.ae,.bl (decide (vA<=(if c<0 then -c else c)))),some (.ae,.int (n % 2147483647+7919*t)),some (.own,.lst []),none,none])
  ⟨n,n % 2147483647+7919*t,[],none,none,rfl,⟨by omega,by omega⟩,rfl,⟨λj x e=>by simp at e⟩⟩ (by
   rintro i d Γ hd ⟨n,s,F,t7,t8,rfl,hs,hF,hfit⟩;obtain⟨e,he,rfl⟩:=NG hd;rw[qaB]at he;cases q:sizes[i]? with
   |none=>rw[q]at he;cases he
   |some z =>
     rw[q]at he;cases he;have hi:i<sizes.length:=(qad.mp q).1;obtain⟨n',s',x,h1,h2,h3,h4⟩:=YM (d0:=some (.ae,.int c)) (d1:=some (.ae,.int t)) (d2:=some (.ae,aw sizes)) (n:=n) (s:=s) (w:=decide (vA<=(if c<0 then -c else c))) (F:=F) (i:=i) (z:=z) (by omega) (by omega) hs (hz z (qba q));refine⟨_,_,by simp,.inl h1,n',s',F++[x],_,_,rfl,h2,by simp[hF],hfit.snoc (by rw[hF];exact q) h3 h4⟩)
 refine⟨F,?_,by simpa [lN]using hF,hfit⟩;unfold ux GI;simp only[ha]at hlp;simp[ba,bC,gam,ha,U1,m1,s0,hlp]
theorem YN:∀n:Nat,n<=31->(sliceRange (sliceBounds none none ηm n).1 (sliceBounds none none ηm n).2.1 (sliceBounds none none ηm n).2.2).length+(sliceRange (sliceBounds εR none ηm n).1 (sliceBounds εR none ηm n).2.1 (sliceBounds εR none ηm n).2.2).length<=n:=by decide +kernel
theorem YO:∀n:Nat,n<=31->1<=n->0∈sliceRange (sliceBounds none none ηm n).1 (sliceBounds none none ηm n).2.1 (sliceBounds none none ηm n).2.2:=by decide +kernel
theorem N8{α:Type}{xs:ζi}{lo hi:zzf}{st:Int}:(gQ xs lo hi st).length<=(sliceRange (sliceBounds lo hi εy xs.length).1 (sliceBounds lo hi εy xs.length).2.1 (sliceBounds lo hi εy xs.length).2.2).length:=List.length_filterMap_le ..
theorem YQ{xs:u8}(h1:1<=xs.length)(h2:xs.length<=31):1<=(gQ xs none none 2).length+(gQ xs εR none 2).length/\(gQ xs none none 2).length+(gQ xs εR none 2).length<=xs.length:=by have a:=N8 (xs:=xs) (lo:=none) (hi:=none) (st:=2);have b:=N8 (xs:=xs) (lo:=some 1) (hi:=none) (st:=2);have c:=YN xs.length h2;refine⟨?_,by omega⟩;have z:=YO xs.length h2 h1;have m:xs[0]∈gQ xs none none 2:=List.mem_filterMap.mpr ⟨0,z,qah h1⟩;have:=List.length_pos_of_mem m;omega
theorem N9{xs:u8}{lo hi:zzf}{st y:Int}(h:y∈gQ xs lo hi st):y∈xs:=by obtain⟨i,_,e⟩:=List.mem_filterMap.mp h;exact qba e
theorem YR(xs:u8)(lo hi:zzf)(st:Int):gQ (xs.map D.int) lo hi st=(gQ xs lo hi st).map D.int:=by unfold gQ;rw[qaf,List.map_filterMap];congr 1;funext i;rw[qaB]
theorem N_{xs:u8}{lo hi:zzf}{st:Int}(h:st≠0)(hl:(gQ xs lo hi st).length<=sizeLine):xM st (aw xs) lo hi=some (.new (aw (gQ xs lo hi st))):=by show(if st≠0/\(gQ (xs.map D.int) lo hi st).length<=sizeLine then some (RV.new (.lst (gQ (xs.map D.int) lo hi st))) else none)=_;rw[YR,qaf,qaF ⟨h,hl⟩]
theorem YS(h:0<=i)(h':i<7):∃sp:Int,L2.dn [D.int 1,.int 2,.int 3,.int 4,.int 6,.int 10,.int 31] i=some (.int sp)/\1<=sp/\sp<=31:=by
 have:i=0\/i=1\/i=2\/i=3\/i=4\/i=5\/i=6:=by omega
 rcases this with rfl|rfl|rfl|rfl|rfl|rfl|rfl
 .exact⟨1,rfl,by decide,by decide⟩
 .exact⟨2,rfl,by decide,by decide⟩
 .exact⟨3,rfl,by decide,by decide⟩
 .exact⟨4,rfl,by decide,by decide⟩
 .exact⟨6,rfl,by decide,by decide⟩
 .exact⟨10,rfl,by decide,by decide⟩
 .exact⟨31,rfl,by decide,by decide⟩
theorem YT{F:u8}{most:Nat}(hm:1<=most)(hm':most<=31)(hl:F.length=4+most)(h0:0<=gA F 0/\gA F 0<7):∃as,sF [aw F,.int most]=some (.new (aw as))/\Ak as/\as.length<=most:=by
 have ln:=line;have s7:7<=sizeLine:=by omega
 have a0:=mF (as:=F) (i:=0) (by omega) (by omega);have a1:=mF (as:=F) (i:=1) (by omega) (by omega);have a2:=mF (as:=F) (i:=2) (by omega) (by omega);have a3:=mF (as:=F) (i:=3) (by omega) (by omega);obtain⟨sp,e1,g1,g2⟩:=YS h0.1 h0.2;have c1:0<32-sp:=by omega
 have c2:0<(most:Int):=by omega
 generalize hb:gA F 1 % (32-sp)=bg;have b1:0<=bg/\bg<32-sp:=by rw[<-hb];exact⟨qbq _ (by omega),qbb _ c1⟩
 generalize hn:gA F 2 % (most:Int)=mn;have n1:0<=mn/\mn<most:=by rw[<-hn];exact⟨qbq _ (by omega),qbb _ c2⟩
 have sm:small (1+mn)=true:=U7 (by omega);have Hh:j7 (.int (gA F 1)) (.int (32-sp))=some (.val (.int bg)):=by rw[Bt c1,hb]
 have Hi:j7 (.int (gA F 2)) (.int most)=some (.val (.int mn)):=by rw[Bt c2,hn]
 have so:∀i j:Int,tO γT ηu=some (.val (.int (i-j))):=λ_ _=>rfl;let B:u8:=(List.range (1+mn).toNat).map λ(k:Nat)=>bg+gA F (4+k) % sp;have lB:B.length=(1+mn).toNat:=by simp[B]
 have kB:∀a∈B,0<=a/\a<=30:=by intro a ha;obtain⟨k,_,rfl⟩:=qaE.mp ha;have:=qbq (gA F (4+k)) (by omega:sp≠0);have:=qbb (gA F (4+k)) (by omega:0<sp);omega
 have AB:Ak B:=⟨by omega,by omega,kB⟩
 have lc:∀t5:Sl,dD [3,0,2] 1 δ0 γp ζC (nP 0 (1+mn).toNat) [some (.ae,aw F),some (.ae,.int most),some (.ae,.int sp),some (.ae,.int bg),some (.ae,.int (1+mn)),t5]=.ok (B.map D.int) [some (.ae,aw F),some (.ae,.int most),some (.ae,.int sp),some (.ae,.int bg),some (.ae,.int (1+mn)),t5]:=by
  intro t5;rw[su (λd=>match d with|.int k=>.int (bg+gA F (4+k) % sp)|d=>d) (λd hd=>?_)]
  .congr 1;simp[nP,B]
  .obtain⟨k,hk,rfl⟩:=qaE.mp hd;have hk:=qbF.mp hk;have ak:=mF (as:=F) (i:=4+(0+(k:Int))) (by omega) (by omega);have gs:0<sp:=by omega
   rw[Int.zero_add]at ak;refine⟨[some (.ae,.int (0+(k:Int))),some (.ae,.int bg),some (.ae,aw F),some (.ae,.int sp)],?_,rfl⟩;rw[Int.zero_add];simp[bL,ak,gs]
 have ul:(nP 0 (1+mn).toNat).length<sizeLine:=by simp[nP];omega
 have sB:=N6 (ns:=B) (by omega);have As:Ak θv:=⟨by rw[(Dv.bA B).length_eq];exact AB.one,by rw[(Dv.bA B).length_eq];exact AB.most,λa ha=>kB a ((Dv.bA B).mem_iff.mp ha)⟩;have sS:=N6 (ns:=Dv.fA B) (by have:=As.most;omega)
 clear_value B
 by_cases q0:gA F 3=0
 .refine⟨Dv.fA B,?_,As,by rw[(Dv.bA B).length_eq];omega⟩;have z0:=ki (gA F 3) 0;have z1:=ki (gA F 3) 1;rw[q0]at z0 z1;simp at z0 z1;simp[sF,yM,ba,bC,gam,a0,a1,a2,a3,e1,Hh,Hi,so,sm,s7,lc,ul,q0,z0,z1,sB]
 .by_cases q1:gA F 3=1
  .have pe:=YQ As.one As.most;have mo:=As.most;have p1:=N_ (xs:=Dv.fA B) (lo:=none) (hi:=none) (st:=2) (by decide) (by omega);have p2:=N_ (xs:=Dv.fA B) (lo:=some 1) (hi:=none) (st:=2) (by decide) (by omega);refine⟨gQ θv none none 2++gQ θv εR none 2,?_,⟨by rw[qaq];exact pe.1,by rw[qaq];have:=As.most;omega,λa ha=>?_⟩,by rw[qaq];have:=(Dv.bA B).length_eq;omega⟩
   .have z0:=ki (gA F 3) 0;have z1:=ki (gA F 3) 1;rw[q1]at z0 z1;simp at z0 z1;have sl:(gQ θv none none 2).length+(gQ θv εR none 2).length<=sizeLine:=by omega
    generalize gQ θv none none 2=P1 at p1 sl;generalize gQ θv εR none 2=P2 at p2 sl;simp[sF,yM,ba,bC,gam,a0,a1,a2,a3,e1,Hh,Hi,so,sm,s7,lc,ul,q1,z0,z1,sB,p1,p2,sl]
   .exact As.key a ((qaH.1 ha).elim N9 N9)
  .refine⟨B,?_,AB,by omega⟩;have z0:=ki (gA F 3) 0;have z1:=ki (gA F 3) 1;simp[q0,q1]at z0 z1;simp[sF,yM,ba,bC,gam,a0,a1,a2,a3,e1,Hh,Hi,so,sm,s7,lc,ul,z0,z1,sB]
@[simp] theorem Cu{fs:γn}{Γ:En}:zrk fs Γ=M.bind fs (λrvs=>match rvs with
 |[.val (.int i),.val (.int j),.val (.int c)]=>if cd (c≠0/\c.natAbs<1073741824/\Builtin.Range.small i j c=true/\0<=Builtin.Range.rangeSize i j c) then M.pure (oM i c (Builtin.Range.rangeSize i j c).toNat) else M.st
 |_=>M.st) Γ:=(rfl)
theorem Oa{lo c:Int}{n i:Nat}{d:D}(h:(oM lo c n)[i]?=some d):i<n/\d=.int (lo+(i:Int)*c):=by
 unfold oM at h;rw[qaB]at h;cases e:(List.range n)[i]? with
 |none=>rw[e]at h;cases h
 |some k =>
   rw[e]at h;cases h;obtain⟨h1,h2⟩:=qad.mp e;rw[qbC]at h2;subst h2;exact⟨by simpa using h1,rfl⟩
theorem Ob{as:u8}{i:Int}(h:0<=i)(h':i<as.length):gA as i∈as:=by unfold gA;rw[qa1,qah (by omega)];exact qaY _
structure Dg(F:u8)(n:Nat):Prop where
 len:F.length=2*n
 few:n<=3
 key:∀i:Nat,i<n->0<=gA F ((i:Int)*2)/\gA F ((i:Int)*2)<=30
theorem YU{ks F:u8}{n:Nat}(A:Ak ks)(G:Dg F n){i:Nat}(hi:i<n){x2 x5:Sl}{mr:γh}(hm:mr.length<=10):∃c:C,yV [some (.ae,aw ks),some (.ae,aw F),x2,some (.own,.lst (sw mr)),some (.ae,.int ((i:Int)*2)),x5]=.ok .nx [some (.ae,aw ks),some (.ae,aw F),x2,some (.own,.lst (sw (mr++[c]))),some (.ae,.int ((i:Int)*2)),some (.ae,.int c.2)]/\(0<=c.1/\c.1<ks.length)/\0<=c.2/\c.2<=30:=by
 have ln:=line;have hl:=G.len;have a0:=mF (as:=F) (i:=(i:Int)*2) (by omega) (by omega);have a1:=mF (as:=F) (i:=(i:Int)*2+1) (by omega) (by omega);obtain⟨g1,g2⟩:=G.key i hi;have c0:0<(ks.length:Int):=by have:=A.one;omega
 have l2:2<=sizeLine:=by omega
 generalize gA F ((i:Int)*2)=x at *;generalize gA F ((i:Int)*2+1)=y at *;generalize hm1:x % (ks.length:Int)=m1;have b1:0<=m1/\m1<ks.length:=by rw[<-hm1];exact⟨qbq _ (by omega),qbb _ c0⟩
 generalize hm2:y % (ks.length:Int)=m2;have b2:0<=m2/\m2<ks.length:=by rw[<-hm2];exact⟨qbq _ (by omega),qbb _ c0⟩
 have o1:j7 (.int x) (.int ks.length)=some (.val (.int m1)):=by rw[Bt c0,hm1]
 have o2:j7 (.int y) (.int ks.length)=some (.val (.int m2)):=by rw[Bt c0,hm2]
 have u1:=mF (as:=ks) b1.1 b1.2;have k1:=A.key _ (Ob b1.1 b1.2);have e5:=ki (x % 5) 0;generalize gA ks m1=w at *;have sl:(sw mr).length<sizeLine:=by rw[gY];omega
 have ea:sw (mr++[(m2,w)])=sw mr++[.tup [.int w,.int m2]]:=wc mr [(m2,w)];have eb:sw (mr++[(m2,x)])=sw mr++[.tup [.int x,.int m2]]:=wc mr [(m2,x)];by_cases q:x % 5=0
 .rw[qan q]at e5;refine⟨(m2,x),?_,b2,g1,g2⟩;rw[eb];generalize sw mr=T at *;simp[yV,a0,a1,o1,o2,u1,e5,l2,sl,lR]
 .rw[qau q]at e5;refine⟨(m2,w),?_,b2,k1⟩;rw[ea];generalize sw mr=T at *;simp[yV,a0,a1,o1,o2,u1,e5,l2,sl,lr]
noncomputable def nX(c:C):C:=(c.2,c.1)
theorem YV(l:γh):sw (l.map nX)=l.map pD:=by rw[zj,qbN];rfl
theorem YW(l:γh):(l.map nX).map pD=sw l:=by rw[zj,qbN];rfl
def lT(l:γh):List C:=(aE (l.map nX)).map nX
theorem YX{a b:C}(h:nX a=nX b):a=b:=by unfold nX at h;exact Prod.ext (Prod.mk.inj h).2 (Prod.mk.inj h).1
theorem fD{l:γh}{c:C}:c∈lT l ↔ c∈l:=by
 unfold lT;constructor
 .intro h;obtain⟨x,hx,rfl⟩:=qaE.mp h;obtain⟨y,hy,rfl⟩:=qaE.mp (au.mp hx);exact hy
 .intro h;exact qaE.mpr ⟨nX c,au.mpr (qaE.mpr ⟨c,h,rfl⟩),rfl⟩
theorem Oc(l:γh):(lT l).Nodup:=by unfold lT;have:=BF (l.map nX);exact List.pairwise_map.mpr (this.imp λh e=>h (YX e))
theorem Hj(l:γh):(lT l).length<=l.length:=by unfold lT;rw[qaf];have:=v_ (l.map nX);rw[qaf]at this;exact this
theorem Od{l:γh}(sm:∀c∈l,bU c)(hl:l.length<64):yv [.lst (sw l)]=some (.new (.lst (sw (lT l)))):=by unfold lT;rw[YV,<-YW];show(asP ((l.map nX).map pD)).bind _=_;rw[G0 (λc hc=>by obtain⟨x,hx,rfl⟩:=qaE.mp hc;exact⟨(sm x hx).2,(sm x hx).1⟩)];show(if (l.map nX).length<64 then _ else _)=_;rw[qaF (by rw[qaf];exact hl)]
noncomputable def fN(ps:γh):D->Option D
 |.tup [.int a,.int b]=>if decide ((b,a)∉ps)=true then some (.tup [.int a,.int b]) else none
 |_=>none
theorem Oe(ps:γh):∀cs:List C,(sw cs).filterMap (fN ps)=sw (cs.filter λc=>decide (c∉ps))
 |[]=>rfl
 |c::r=>by
   rw[gZ,qaK,Oe ps r];rw[show fN ps (.tup [.int c.2,.int c.1])=if decide (c∉ps)=true then some (.tup [.int c.2,.int c.1]) else none from rfl];rw[qbt];by_cases q:decide (c∉ps)=true
   .rw[qaF q,qaF q];rfl
   .rw[qaC q,qaC q]
theorem YY{cs ps:γh}{j:Nat}{kd:Kd}{Γ:En}(hk:kd=.own\/kd=.ae)(hj:Γ[j]?=some (some (kd,.lst (sw ps)))):dD [j] 1 δ0 εw γb θ Γ=.ok (sw (cs.filter λc=>decide (c∉ps))) Γ:=by
 rw[<-Oe];refine qe (fN ps) θ λd hd=>?_;obtain⟨c,hc,rfl⟩:=lu hd;have e:=Ct ps c;refine⟨[some (.ae,.tup [.int c.2,.int c.1]),some (kd,.lst (sw ps))],?_,?_⟩
 .rw[show fN ps (.tup [.int c.2,.int c.1])=if decide (c∉ps)=true then some (.tup [.int c.2,.int c.1]) else none from rfl];generalize sw ps=T at *;cases q:decide (c∉ps)<;>rw[q]at e<;>rcases hk with rfl|rfl<;>simp[bL,hj,e]
 .show Γ.set j (some (kd,.lst (sw ps)))=Γ;have:=(qad.mp hj).2;rw[<-this,qbB]
noncomputable def wk(n:Nat)(K:u8):List C:=(List.range n).flatMap λ(m:Nat)=>K.map λk=>((m:Int),k)
theorem dr{n:Nat}{K:u8}{c:C}:c∈wk n K ↔ (0<=c.1/\c.1<n)/\c.2∈K:=by
 unfold wk;rw[List.mem_flatMap];constructor
 .rintro⟨m,hm,h⟩;obtain⟨k,hk,rfl⟩:=qaE.mp h;have:=qbF.mp hm;exact⟨⟨by simp,by simpa using this⟩,hk⟩
 .rintro⟨⟨h1,h2⟩,h3⟩;refine⟨c.1.toNat,qbF.mpr (by omega),qaE.mpr ⟨c.2,h3,?_⟩⟩;rw[Int.toNat_of_nonneg h1]
theorem YZ(n:Nat)(K:u8):(wk n K).length=n*K.length:=by
 unfold wk;induction n with
 |zero=>simp
 |succ n ih=>rw[List.range_succ,List.flatMap_append,qaq,ih,Nat.succ_mul];simp
theorem Of:∀(i:Nat) (ks:u8),(prs i ks).Nodup
 |_,[]=>qbG
 |i,k::r=>by rw[we,qbd];refine⟨λh=>?_,Of (i+1) r⟩;have:=(Cm h).1;simp only at this;omega
structure Fs(ks:u8)(cs:γh):Prop where
 lx:Filled cs
 nd:cs.Nodup
 sm:∀c∈cs,bU c
 lt:∀c∈cs,c.1<ks.length
 few:cs.length<=40
 has:∀c∈prs 0 ks,c∈cs
theorem Y0{ks F:u8}{n:Nat}(A:Ak ks)(hk:ks.length<=5)(G:Dg F n):∃cs,v3 [aw ks,aw F]=some (.new δ3)/\Fs ks cs:=by
 have ln:=line;have s0:0<=sizeLine:=by omega
 have hl:=G.len;have hf:=G.few;have hrn:∀n:Nat,n<=3->(Builtin.Range.small 0 (2*(n:Int)-1) 2=true/\0<=Builtin.Range.rangeSize 0 (2*(n:Int)-1) 2)/\(Builtin.Range.rangeSize 0 (2*(n:Int)-1) 2).toNat=n:=by decide +kernel
 obtain⟨r1,r2⟩:=hrn n hf;have r1:=gf r1
 obtain⟨Γ',hlp,mr,y4,y5,rfl,hm,hc⟩:=Bu (m:=gN 4) (s:=yV)
  (λi Γ=>∃(mr:γh) (y4 y5:Sl),Γ=[some (.ae,aw ks),some (.ae,aw F),some (.own,.lst (sw εE)),some (.own,.lst (sw mr)),y4,y5]/\mr.length=i/\∀c∈mr,(0<=c.1/\c.1<ks.length)/\0<=c.2/\c.2<=30)
  (ds:=oM 0 2 n) (Γ:=[some (.ae,aw ks),some (.ae,aw F),some (.own,.lst (sw εE)),some (.own,.lst []),none,none])
  ⟨[],none,none,rfl,rfl,λc h=>by cases h⟩ (by
   rintro i d Γ hd ⟨mr,y4,y5,rfl,hm,hc⟩;obtain⟨hi,rfl⟩:=Oa hd;rw[Int.zero_add];obtain⟨c,e,h1,h2⟩:=YU A G hi (x2:=some (.own,.lst (sw εE))) (x5:=y5) (mr:=mr) (by omega);refine⟨_,_,rfl,.inl e,mr++[c],_,_,rfl,by simp[hm],λx hx=>?_⟩;rcases qaH.mp hx with hx|hx
   .exact hc x hx
   .rw[qaD.mp hx];exact⟨h1,h2⟩)
 rw[show(oM 0 2 n).length=n by simp[oM]]at hm
 have Y1:∀c∈mr,bU c:=λc h=>by obtain⟨⟨h1,h2⟩,h3⟩:=hc c h;exact⟨⟨h1,by omega⟩,h3⟩
 have e1:=λΓ=>ND (ks:=ks) (Γ:=Γ);have e2:=Od Y1 (by omega);have e3:=λΓ hj=>YY (cs:=lT mr) (ps:=prs 0 ks) (j:=2) (kd:=.own) (Γ:=Γ) γM hj;have e3:=e3 [some (.ae,aw ks),some (.ae,aw F),some (.own,.lst (sw εE)),some (.own,.lst (sw mr)),y4,y5] rfl;generalize hex:((lT mr).filter λc=>decide (c∉prs 0 ks))=ex at *;have lex:ex.length<=3:=by rw[<-hex];have:=List.length_filter_le (λc=>decide (c∉prs 0 ks)) (lT mr);have:=Hj mr;omega
 have Hk:∀c∈ex,c∈mr/\c∉prs 0 ks:=λc h=>by rw[<-hex]at h;obtain⟨h1,h2⟩:=qaL.mp h;exact⟨fD.mp h1,qaI h2⟩
 have Y2:ex.Nodup:=by rw[<-hex];exact(Oc mr).filter _
 have e4:eg (.lst (sw εE)) (.lst (sw ex))=some (.new (.lst (sw (prs 0 ks++ex)))):=by rw[wc];exact qO (by rw[gY,gY,Ck];omega)
 have e5:(sw (lT mr)).length<sizeLine:=by rw[gY];have:=Hj mr;omega
 have e6:(lN δo).length<sizeLine:=by rw[NF];omega
 have lg:(wk ks.length (ks++mr.map (·.2))).length<=40:=by rw[YZ,qaq,qaf];exact qaO (Nat.mul_le_mul hk (show ks.length+mr.length<=8 by omega)) (by decide)
 obtain⟨cs,e7,f1,f2,f3,f4⟩:=closed_eq (g:=wk ks.length (ks++mr.map (·.2))) (c0:=prs 0 ks++ex) (λa ha b hb=>dr.mpr ⟨(dr.mp hb).1,(dr.mp ha).2⟩) (by omega) (by
  rw[List.nodup_append];exact⟨Of 0 ks,Y2,λa ha b hb z=>(Hk b hb).2 (z ▸ ha)⟩) (λc h=>by
  rcases qaH.mp h with h|h
  .obtain⟨h1,h2,h3⟩:=Cm h;exact dr.mpr ⟨⟨by omega,by omega⟩,qaT _ h3⟩
  .exact dr.mpr ⟨(hc c (Hk c h).1).1,qax _ (qaE.mpr ⟨c,(Hk c h).1,rfl⟩)⟩)
 refine⟨cs,?_,f1,f2,λc h=>?_,λc h=>(dr.mp (f3 c h)).1.2,qaO (Hc f2 f3) lg,λc h=>f4 c (qaT _ h)⟩
 .have so:tO (.int (F.length:Nat)) (.int 1)=some (.val (.int (2*(n:Int)-1))):=by rw[hl];show some (RV.val (D.int (((2*n:Nat):Int)-1)))=_;congr
  unfold v3
  unfold GK
  generalize sw cs=W at *
  generalize sw (prs 0 ks++ex)=V at *
  generalize sw (lT mr)=U at *
  generalize sw εE=T at *
  generalize sw mr=R at *
  generalize sw ex=Q at *
  simp[ba,bC,gam,s0,e1,e2,e3,e4,e5,e6,e7,so,r1,r2,hlp]
 .obtain⟨⟨h1,h2⟩,h3⟩:=dr.mp (f3 c h);refine⟨⟨h1,by omega⟩,?_⟩;rcases qaH.mp h3 with h3|h3
  .exact A.key _ h3
  .obtain⟨x,hx,e⟩:=qaE.mp h3;rw[<-e];exact(hc x hx).2
theorem Og:∀cs ds:List C,PyData.eqvAll (D.iJ θ) (D.iJ (sw ds))=decide (cs=ds)
 |[],[]=>by decide +kernel
 |[],d::ds=>by rw[gZ];simp[D.iJ,PyData.eqvAll]
 |c::cs,[]=>by rw[gZ];simp[D.iJ,PyData.eqvAll]
 |c::cs,d::ds=>by rw[gZ,gZ,D.iJ,D.iJ,PyData.eqvAll,Og cs ds];have:=Cg c.2 c.1 d.2 d.1;unfold eqB at this;rw[this,qa4];obtain⟨c1,c2⟩:=c;obtain⟨d1,d2⟩:=d;simp;exact λ_=>And.comm
theorem Y3(cs ds:γh):eqB δ3 θ0=decide (cs=ds):=by show PyData.eqv _ _=_;simp only[D.py,PyData.eqv];exact Og cs ds
theorem Y4(cs ds:γh):eF δ3 θ0=some (.val (.bl (decide (cs=ds)))):=by show(if cV δ3&&cV θ0 then some (RV.val (.bl (eqB δ3 θ0))) else none)=_;rw[uC,uC,Y3];rfl
section
variable{Γ:En}{f:M RV}
@[simp] theorem Oh:B3 f Γ=M.bind f (λx=>M.bind εu λd=>M.dH (B2 d)) Γ:=(rfl)
end
noncomputable def o7(p:C)(k m:Int):D:=if p.1<m then pr ((p.1,k),(m,p.2)) else pr ((m,p.2),(p.1,k))
noncomputable def nY(cs:γh)(p:C)(k:Int):u8->Option D
 |[]=>none
 |m::r=>if third cs (p.1,k) (m,p.2)=[p] then some (o7 p k m) else nY cs p k r
abbrev nE(cs:γh)(p:C)(x4 x5 x6:Sl):En:=[some (.ae,pO θ),some (.ae,pt p),some (.ae,.int p.2),some (.ae,.int p.1),x4,x5,x6]
theorem Y5{cs:γh}(hl:cs.length<64){p:C}(hp:bU p){k m:Int}(hk:0<=k/\k<=30)(hm:0<=m/\m<=30)(nk:k≠p.2)(nm:m≠p.1){x6:Sl}:∃y6,vY (nE cs p (some (.ae,.int k)) (some (.ae,.int m)) x6)=.ok (if third cs (p.1,k) (m,p.2)=[p] then .ret (.val (o7 p k m)) else .nx) (nE cs p (some (.ae,.int k)) (some (.ae,.int m)) y6):=by
 have ln:=line;have l1:1<=sizeLine:=by omega
 have l2:2<=sizeLine:=by omega
 have e1:vX [pO θ,.tup [.int k,.int p.1],.tup [.int p.2,.int m]]=some (.new (.lst (sw (third cs (p.1,k) (m,p.2))))):=Yr hl (a:=(p.1,k)) (b:=(m,p.2)) ⟨hp.1,hk⟩ ⟨hm,hp.2⟩ nk (λz=>nm z.symm);have e2:=Y4 (third cs (p.1,k) (m,p.2)) [p];refine⟨some (.ae,pr ((p.1,k),(m,p.2))),?_⟩;unfold nE;by_cases h:third cs (p.1,k) (m,p.2)=[p]
 .rw[qan h]at e2;rw[qaF h];have e3:sw [p]=[pt p]:=rfl;rw[e3]at e2;generalize sw (third cs (p.1,k) (m,p.2))=T at *;generalize sw cs=B at *;by_cases q:p.1<m
  .rw[show o7 p k m=pr ((p.1,k),(m,p.2)) from qaF q];simp[vY,e1,e2,l1,l2,lr,lR,q]
  .rw[show o7 p k m=pr ((m,p.2),(p.1,k)) from qaC q];simp[vY,e1,e2,l1,l2,lr,lR,q,B2]
 .rw[qau h]at e2;rw[qaC h];have e3:sw [p]=[pt p]:=rfl;rw[e3]at e2;generalize sw (third cs (p.1,k) (m,p.2))=T at *;generalize sw cs=B at *;simp[vY,e1,e2,l1,l2,lr,lR]
noncomputable def wo:Option D->Fl
 |none=>.nx
 |some d=>.ret εI
theorem Oi{cs:γh}(hl:cs.length<64){p:C}(hp:bU p){k:Int}(hk:0<=k/\k<=30)(nk:k≠p.2):∀(ms:u8) (x5 x6:Sl),(∀m∈ms,(0<=m/\m<=30)/\m≠p.1)->∃y5 y6,gX (gN 5) vY (ms.map D.int) (nE cs p (some (.ae,.int k)) x5 x6)=.ok (wo (nY cs p k ms)) (nE cs p (some (.ae,.int k)) y5 y6)
 |[],x5,x6,_=>⟨x5,x6,rfl⟩
 |m::r,x5,x6,h=>by
   obtain⟨hm,nm⟩:=h m (qag ..);obtain⟨y6,e⟩:=Y5 hl hp hk hm nk nm (x6:=x6);have g:gN 5 (.int m) (nE cs p (some (.ae,.int k)) x5 x6)=.ok () (nE cs p (some (.ae,.int k)) (some (.ae,.int m)) x6):=rfl;obtain⟨z5,z6,ih⟩:=Oi hl hp hk nk r (some (.ae,.int m)) y6 λn hn=>h n (qae _ hn);by_cases q:third cs (p.1,k) (m,p.2)=[p]
   .rw[qaF q]at e;refine⟨some (.ae,.int m),y6,?_⟩;rw[qav,k_,m9,g];simp only[e];rw[show nY cs p k (m::r)=some (o7 p k m) from qaF q];rfl
   .rw[qaC q]at e;refine⟨z5,z6,?_⟩;rw[qav,k_,m9,g];simp only[e];rw[show nY cs p k (m::r)=nY cs p k r from qaC q];exact ih
noncomputable def mG(cs:γh)(p:C)(ms:u8):u8->Option D
 |[]=>none
 |k::r=>match nY cs p k ms with
   |some d=>some d
   |none=>mG cs p ms r
theorem Y6:cd (¬("moments_of":Str) = "held")=true:=gf (by decide +kernel)
theorem Y7{cs:γh}(hl:cs.length<64)(sm:∀c∈cs,bU c){p:C}(hp:bU p){k:Int}(hk:0<=k/\k<=30)(nk:k≠p.2)(pw:(eA cs p.2).Pairwise (· < ·)){x5 x6:Sl}:∃y5 y6,Ca (nE cs p (some (.ae,.int k)) x5 x6)=.ok (wo (nY cs p k (near (eA cs p.2) p.1))) (nE cs p (some (.ae,.int k)) y5 y6):=by
 obtain⟨y5,y6,e⟩:=Oi hl hp hk nk (near (eA cs p.2) p.1) x5 x6 λm hm=>by obtain⟨h1,h2,_⟩:=(wj pw).mp hm;exact⟨(sm _ (gS.mp h1)).1,h2⟩
 refine⟨y5,y6,?_⟩;have e1:=mo_eq sm hl p.2;have ll:=Ym cs p.2;have e2:=NS (ks:=eA cs p.2) (by omega) p.1;have c:=Y6
 have it:et (cb uu (ZY (lh .Points "moments_of" ur γb δd) ζu)) (nE cs p (some (.ae,.int k)) x5 x6)=.ok ((near (eA cs p.2) p.1).map D.int) (nE cs p (some (.ae,.int k)) x5 x6):=by unfold nE;have e3:aw (near (eA cs p.2) p.1)=.lst ((near (eA cs p.2) p.1).map D.int):=rfl;rw[e3]at e2;generalize (near (eA cs p.2) p.1).map D.int=N at *;generalize aw (eA cs p.2)=K at *;generalize sw cs=B at *;simp[e1,e2,c]
 unfold Ca;rw[U0];simp only[US,it];exact e
theorem Oj{cs:γh}(hl:cs.length<64)(sm:∀c∈cs,bU c){p:C}(hp:bU p)(pw:(eA cs p.2).Pairwise (· < ·)):∀(ks:u8) (x4 x5 x6:Sl),(∀k∈ks,(0<=k/\k<=30)/\k≠p.2)->∃y4 y5 y6,gX (gN 4) Ca δo (nE cs p x4 x5 x6)=.ok (wo (mG cs p (near (eA cs p.2) p.1) ks)) (nE cs p y4 y5 y6)
 |[],x4,x5,x6,_=>⟨x4,x5,x6,rfl⟩
 |k::r,x4,x5,x6,h=>by
   obtain⟨hk,nk⟩:=h k (qag ..);obtain⟨y5,y6,e⟩:=Y7 hl sm hp hk nk pw (x5:=x5) (x6:=x6);have g:gN 4 (.int k) (nE cs p x4 x5 x6)=.ok () (nE cs p (some (.ae,.int k)) x5 x6):=rfl;obtain⟨z4,z5,z6,ih⟩:=Oj hl sm hp pw r (some (.ae,.int k)) y5 y6 λn hn=>h n (qae _ hn);cases q:nY cs p k (near (eA cs p.2) p.1) with
   |some d =>
     rw[q]at e;refine⟨some (.ae,.int k),y5,y6,?_⟩;rw[qav,k_,m9,g];simp only[e,wo];rw[show mG cs p (near (eA cs p.2) p.1) (k::r)=some d by unfold mG;rw[q]]
   |none =>
     rw[q]at e;refine⟨z4,z5,z6,?_⟩;rw[qav,k_,m9,g];simp only[e,wo];rw[show mG cs p (near (eA cs p.2) p.1) (k::r)=mG cs p (near (eA cs p.2) p.1) r by rw[mG,q]];exact ih
theorem Y8:cd (¬("keys_at":Str) = "held")=true:=gf (by decide +kernel)
noncomputable def Ol:Option D->D
 |none=>.ax
 |some d=>d
theorem Y9{cs:γh}(hl:cs.length<64)(S:ηx){p:C}(hp:bU p)(pw:(eA cs p.2).Pairwise (· < ·)):uv [pO θ,pt p]=some (.val (Ol (mG cs p (near (eA cs p.2) p.1) (near (Bp.aZ cs p.1) p.2)))):=by
 obtain⟨y4,y5,y6,e⟩:=Oj hl S.sm hp pw (near (Bp.aZ cs p.1) p.2) none none none λk hk=>by obtain⟨h1,h2,_⟩:=(wj (zg S p.1)).mp hk;exact⟨(S.sm _ (a9.mp h1)).2,h2⟩
 have e1:=Np S.sm hl p.1;have ll:=Nw cs p.1;have e2:=NS (ks:=Bp.aZ cs p.1) (by omega) p.2;have c:=Y8;have e3:aw (near (Bp.aZ cs p.1) p.2)=.lst ((near (Bp.aZ cs p.1) p.2).map D.int):=rfl;rw[e3]at e2;generalize mG cs p (near (eA cs p.2) p.1) (near (Bp.aZ cs p.1) p.2)=o at *;generalize (near (Bp.aZ cs p.1) p.2).map D.int=N at *;generalize aw (Bp.aZ cs p.1)=K at *;unfold nE at e;unfold uv;unfold GH;generalize sw cs=B at *;cases o<;>simp[ba,bC,gam,e1,e2,c,e,wo,Ol]
section
variable{K P d:D}
theorem Hl(h:nr [K,P]=some (.ex x)):iD [K,P,d]=some (.ex x):=by simp[iD,uw,my,m_,bC,gam,h]
theorem Om(h:nr [K,pO B]=some ηd)(h2:mD [pO B,d]=some γe):iD [K,pO B,d]=some (.ex ⟨.NoPoint,[("point",d)]⟩):=by have c:=wg;simp[iD,uw,my,m_,bC,gam,h,h2,c]
theorem Y_(h:nr [K,pO B]=some ηd)(h2:mD [pO B,d]=some γa)(h3:sG [K,d]=some γa):iD [K,pO B,d]=some (.ok (.val (.tup [.str "ask"]))):=by
 have c:=wg;have l1:1<=sizeLine:=by have:=line;omega
 simp[iD,uw,my,m_,bC,gam,h,h2,h3,c,l1]
theorem Za(h:nr [K,pO B]=some ηd)(h2:mD [pO B,d]=some γa)(h3:sG [K,d]=some γe)(h4:uv [pO B,d]=some δw):iD [K,pO B,d]=some ηd:=by have c:=wg;simp[iD,uw,my,m_,bC,gam,h,h2,h3,h4,c]
theorem Oo(h:nr [K,pO B]=some ηd)(h2:mD [pO B,d]=some γa)(h3:sG [K,d]=some γe)(h4:uv [pO B,d]=some (.val (.tup [x,y]))):iD [K,pO B,d]=some (.ok (.val (.tup [.str "needed",x,y]))):=by
 have c:=wg;have l3:3<=sizeLine:=by have:=line;omega
 simp[iD,uw,my,m_,bC,gam,h,h2,h3,h4,c,l3,lr,lR]
end
theorem Oq:∀{ms:u8},nY cs p k ms=none->∀m∈ms,third cs (p.1,k) (m,p.2)≠[p]
 |[],_,m,hm=>by cases hm
 |n::r,h,m,hm=>by
   unfold nY at h;split at h
   .cases h
   .rename_i q;rcases qak.mp hm with e|e
    .rw[e];exact q
    .exact Oq h m e
theorem Ot:∀{ms:u8},nY cs p k ms=some d->∃m∈ms,third cs (p.1,k) (m,p.2)=[p]/\d=o7 p k m
 |[],h=>by cases h
 |n::r,h=>by
   unfold nY at h;split at h
   .rename_i q;cases h;exact⟨n,qag ..,q,rfl⟩
   .obtain⟨m,h1,h2⟩:=Ot h;exact⟨m,qae _ h1,h2⟩
theorem Ou:∀{ks:u8},mG cs p ms ks=none->∀k∈ks,∀m∈ms,third cs (p.1,k) (m,p.2)≠[p]
 |[],_,k,hk=>by cases hk
 |n::r,h,k,hk=>by
   unfold mG at h;split at h
   .cases h
   .rename_i q;rcases qak.mp hk with e|e
    .rw[e];exact Oq q
    .exact Ou h k e
theorem Ov:∀{ks:u8},mG cs p ms ks=some d->∃k∈ks,∃m∈ms,third cs (p.1,k) (m,p.2)=[p]/\d=o7 p k m
 |[],h=>by cases h
 |n::r,h=>by
   unfold mG at h;split at h
   .rename_i q;cases h;exact⟨n,qag ..,Ot q⟩
   .obtain⟨k,h1,h2⟩:=Ov h;exact⟨k,qae _ h1,h2⟩
section
variable{ks:u8}{cs:γh}(A:Ak ks)(F:ζ7)
include A F
theorem Fs.cs':Bp.Cs γ2:=Cs.lS F.sm
theorem Fs.len':(aE cs).length<=40:=qaO (v_ cs) F.few
theorem Fs.zu:Filled γ2:=F.lx.ext λc=>au.symm
theorem Fs.mE:mE ks γ2=true:=by unfold cZ.mE zo uD own;rw[qay,qay];refine⟨qaP.mpr λc hc=>qan (F.lt c (au.mp hc)),qaP.mpr λc hc=>qan (au.mpr (F.has c (au.mp hc))),?_⟩;rw[Yu (Fs.zu A F)];rfl
theorem Fs.served:nr [aw ks,pO γm]=some ηd:=Ys A (Fs.cs' A F) (by have:=Fs.len' A F;omega) (Fs.mE A F)
theorem Zb(hp:p∈cs):(gA ks p.1=p.2/\iD [aw ks,pO γm,pt p]=some (.ok (.val (.tup [.str "ask"]))))\/(gA ks p.1≠p.2/\(iD [aw ks,pO γm,pt p]=some ηd/\Filled γ5\/∃a b:C,a∈rest cs p/\b∈rest cs p/\bo γ5 a b=true/\bo cs a b=false/\iD [aw ks,pO γm,pt p]=some (.ok (.val (.tup [.str "needed",pt a,pt b]))))):=by
 have S:=Fs.cs' A F;have hl:=Fs.len' A F;have hd:p∈aE cs:=au.mpr hp;have sv:=Fs.served A F;have hs:=has_eq (cs:=aE cs) (k:=p.2) (i:=p.1) (F.sm p hp);rw[qan (show(p.1,p.2)∈aE cs from hd)]at hs;obtain⟨k,hk,ia⟩:=Yt (ks:=ks) (c:=p) (F.sm p hp).1.1 (F.lt p hp);have hg:gA ks p.1=k:=by unfold gA;rw[List.getD_eq_getElem?_getD,hk];rfl
 rw[hg];have ext:∀c,c∈rest γ2 p ↔ c∈rest cs p:=λc=>by rw[aY,aY,au]
 by_cases q:k=p.2
 .rw[qan q]at ia;exact .inl ⟨q,Y_ sv hs ia⟩
 .rw[qau q]at ia;refine .inr ⟨q,?_⟩;have ne:=Y9 (by omega) S (F.sm p hp) (G9 S p.2);cases h:mG γ2 p (near (eA γ2 p.2) p.1) (near (Bp.aZ γ2 p.1) p.2) with
  |none =>
    rw[h]at ne;refine .inl ⟨Za sv hs ia ne,Filled.ext ext λa ha b hb=>?_⟩;cases z:bo (rest γ2 p) a b with
    |false=>rfl
    |true =>
      obtain⟨k,hk,m,hm,e⟩:=Bp.need_of S S.nd (Fs.zu A F) hd (G9 S p.2) ha hb z;exact absurd e (Ou h k hk m hm)
  |some d =>
    rw[h]at ne;obtain⟨k,hk,m,hm,e,rfl⟩:=Ov h;obtain⟨k1,k2,_⟩:=(wj (zg S p.1)).mp hk;obtain⟨m1,m2,_⟩:=(wj (G9 S p.2)).mp hm;obtain⟨b1,b2⟩:=Yk S.nd hd k2 m2 e;have ra:(p.1,k)∈rest cs p:=aY.mpr ⟨au.mp (a9.mp k1),λz=>k2 (by rw[<-z])⟩;have rb:(m,p.2)∈rest cs p:=aY.mpr ⟨au.mp (gS.mp m1),λz=>m2 (by rw[<-z])⟩;rw[G_ ext]at b1;rw[G_ (λc=>au)]at b2;refine .inr ?_;by_cases o:p.1<m
    .refine⟨(p.1,k),(m,p.2),ra,rb,b1,b2,Oo sv hs ia ?_⟩;rw[ne];show some (Rt.val (o7 p k m))=_;rw[o7,qaF o]
    .refine⟨(m,p.2),(p.1,k),rb,ra,Co b1,by rw[Cp];exact b2,Oo sv hs ia ?_⟩;rw[ne];show some (Rt.val (o7 p k m))=_;rw[o7,qaC o]
end
section
variable{ks:u8}{cs:γh}{p:C}{P:D}
theorem Zc:eF (.tup [.str "ask"]) (.tup [.str "ask"])=some γa:=GV (by decide +kernel)
theorem Zd(h0:0<=p.1)(h1:p.1<ks.length)(q:gA ks p.1=p.2)(n:iD [aw ks,P,pt p]=some (.ok (.val (.tup [.str "ask"])))):o6 [aw ks,.lst θ,P,pt p]=some γa:=by
 have l1:1<=sizeLine:=by have:=line;omega
 have a:=mF h0 h1;have e:=ki (gA ks p.1) p.2;rw[qan q]at e;have e2:=Zc;generalize sw cs=T at *;simp[o6,yW,ba,bC,gam,n,a,e,e2,h1,lr,lR,l1]
theorem Ze(h0:0<=p.1)(h1:p.1<ks.length)(hl:cs.length<=60)(q:gA ks p.1≠p.2)(n:iD [aw ks,P,pt p]=some ηd)(F:Filled γ5):o6 [aw ks,.lst θ,P,pt p]=some γa:=by
 have ln:=line;have a:=mF h0 h1;have e:=ki (gA ks p.1) p.2;rw[qau q]at e;have f:=N3 (cs:=rest cs p) (by have:=Cr cs p;omega);rw[g8.mpr F]at f;have r:=He (cs:=cs) (p:=p) (j:=3) (Γ:=[some (.ae,aw ks),some (.ae,.lst θ),some (.ae,P),some (.ae,pt p),some (.ae,.ax),none,none,none]) rfl;have l:=show(sw cs).length<sizeLine by rw[gY];omega
 generalize sw γ5=U at *;generalize sw cs=T at *;simp[o6,yW,ba,bC,gam,n,a,e,f,r,l,h1,lr,lR]
theorem Zf(h0:0<=p.1)(h1:p.1<ks.length)(hl:cs.length<=60)(q:gA ks p.1≠p.2)(ha:a∈rest cs p)(hb:b∈rest cs p)(b1:bo γ5 a b=true)(b2:bo cs a b=false)(n:iD [aw ks,P,pt p]=some (.ok (.val (.tup [.str "needed",pt a,pt b])))):o6 [aw ks,.lst θ,P,pt p]=some γa:=by
 have ln:=line;have at_:=mF h0 h1;have e:=ki (gA ks p.1) p.2;rw[qau q]at e;have r:=He (cs:=cs) (p:=p) (j:=3) (Γ:=[some (.ae,aw ks),some (.ae,.lst θ),some (.ae,P),some (.ae,pt p),some (.ae,.tup [.str "needed",pt a,pt b]),none,none,none]) rfl;have l:=show(sw cs).length<sizeLine by rw[gY];omega
 have i1:=G2 γ5 a.2 a.1;rw[qan (show(a.1,a.2)∈rest cs p from ha)]at i1;have i2:=G2 γ5 b.2 b.1;rw[qan (show(b.1,b.2)∈rest cs p from hb)]at i2;have c1:=Cq γ5 a b;rw[b1]at c1;have c2:=Cq cs a b;rw[b2]at c2;have e3:iz (.int 3) (.int 3)=some γe:=GW (by decide);have e4:iz (.str "needed") (.str "needed")=some γe:=GW (by decide +kernel);have a0:L2.dn [D.str "needed",pt a,pt b] 0=some (.str "needed"):=rfl
 have ct:By (.tup [D.str "needed",pt a,pt b]) εR none=some (.val (.tup [pt a,pt b])):=by show(if cd (HT.bB 3 0 εR=0/\HT.bB 3 3 none=3) then none else some (RV.val (.tup (fq [D.str "needed",pt a,pt b] εR none))))=_;rw[Xw (by decide)];rfl
 generalize sw γ5=U at *;generalize sw cs=T at *;simp[o6,yW,ba,bC,gam,n,at_,e,r,l,h1,lr,lR,i1,i2,c1,c2,e3,e4,a0,k7,ct]
end
theorem Zg(A:Ak ks)(F:ζ7)(hp:p∈cs):o6 [aw ks,.lst θ,pO γm,pt p]=some γa:=by
 have h0:=(F.sm p hp).1.1;have h1:=F.lt p hp;have hl:cs.length<=60:=by have:=F.few;omega
 rcases Zb A F hp with ⟨q,n⟩|⟨q,⟨n,f⟩|⟨a,b,ha,hb,b1,b2,n⟩⟩
 .exact Zd h0 h1 q n
 .exact Ze h0 h1 hl q n f
 .exact Zf h0 h1 hl q ha hb b1 b2 n
section
variable{K P d:D}
theorem Zh:B5 .NotServed=true:=rfl
theorem Zi:B5 .NoPoint=true:=rfl
theorem Hm(h:iD [K,P,d]=some (.ex ⟨.NotServed,[]⟩)):o4 [K,P,d]=some (.val (.ins .NotServed [] [])):=by have e:oW ⟨.NotServed,[]⟩=.ins .NotServed [] []:=rfl;simp[o4,Cb,ba,bC,gam,h,Zh,e]
theorem Ox(h:iD [K,P,d]=some (.ex ⟨.NoPoint,[("point",d)]⟩)):o4 [K,P,d]=some (.val (.ins .NoPoint ["point"] [d])):=by have e:oW ⟨.NoPoint,[("point",d)]⟩=.ins .NoPoint ["point"] [d]:=rfl;simp[o4,Cb,ba,bC,gam,h,Zi,e]
end
@[simp] theorem Hn:vE L s f Γ=M.bind (nK f) (λx=>M.bind εu λd=>M.dH (yg L s d)) Γ:=(rfl)
structure Nt(K P:D)(T:γd)(d:D):Prop where
 c:o4 [K,P,d]=some (.val (.ins .NoPoint ["point"] [d]))
 z:∃t,ub [d]=some (.val (.str t))
 n:∃b,yK d (.lst T)=some θF/\(b=true\/yJ d (.tup [.bl true,.int 0])=some γa)
section
variable{K P d:D}{T:γd}{x3 x4 x5 x6:Sl}
theorem Zk(h:Nt K P T d):yX [some (.ae,K),some (.ae,.lst T),some (.ae,P),some (.ae,d),x4,x5,x6]=.ok .nx [some (.ae,K),some (.ae,.lst T),some (.ae,P),some (.ae,d),some (.ae,.ins .NoPoint ["point"] [d]),x5,x6]:=by
 have l2:2<=sizeLine:=by have:=line;omega
 obtain⟨c,⟨t,z⟩,b,n,e⟩:=h;have ct:Cn.NoPoint∈iN:=by decide
 have i1:yh iN .NoPoint (.ins .NoPoint ["point"] [d])=some γa:=rfl;have i2:yh iN .PointError (.ins .NoPoint ["point"] [d])=some γe:=rfl;have i3:yg iN Gf (.ins .NoPoint ["point"] [d])=some γa:=rfl;have ne:iz (.str t) (.str t)=some γe:=Xu t;have f:(([(("point":Str),d)]:List (Str×D)).lookup ("point":Str)).map RV.val=some εI:=rfl;cases b with
 |true=>simp[yX,c,n,z,ct,i1,i2,i3,ne,f]
 |false =>
   rcases e with e|e
   .cases e
   .simp[yX,c,n,z,ct,i1,i2,i3,ne,f,e,l2]
theorem Oy:∀(ds:γd) (x3 x4:Sl),(∀d∈ds,Nt K P T d)->∃y3 y4,gX (gN 3) yX ds [some (.ae,K),some (.ae,.lst T),some (.ae,P),x3,x4,x5,x6]=.ok .nx [some (.ae,K),some (.ae,.lst T),some (.ae,P),y3,y4,x5,x6]
 |[],x3,x4,_=>⟨x3,x4,rfl⟩
 |d::r,x3,x4,h=>by have e:=Zk (x4:=x4) (x5:=x5) (x6:=x6) (h d (qag ..));obtain⟨y3,y4,ih⟩:=Oy r (some (.ae,d)) (some (.ae,.ins .NoPoint ["point"] [d])) λx hx=>h x θB;refine⟨y3,y4,?_⟩;rw[k_,m9,show gN 3 d [some (.ae,K),some (.ae,.lst T),some (.ae,P),x3,x4,x5,x6]=.ok () [some (.ae,K),some (.ae,.lst T),some (.ae,P),some (.ae,d),x4,x5,x6] from rfl];simp only[e];exact ih
theorem Oz(c:o4 [K,p,.ax]=some (.val (.ins .NotServed [] []))):GO [some (.ae,K),x3,x4,x5,x6,some (.ae,d),some (.ae,p)]=.ok .nx [some (.ae,K),x3,x4,x5,some (.ae,.ins .NotServed [] []),some (.ae,d),some (.ae,p)]:=by have i1:yh iN .NotServed (.ins .NotServed [] [])=some γa:=rfl;have i2:yh iN .PointError (.ins .NotServed [] [])=some γa:=rfl;simp[GO,c,i1,i2]
end
theorem Cv{cs:γh}{d:D}(hd:cV d=true)(he:∀c∈cs,eqB (pt c) d=false):qi d δ3=some γa:=by
 show(if cV d&&(sw cs).all cV then some (RV.val (.bl (!(sw cs).any λe=>eqB e d))) else none)=_;rw[hd,Ci]
 have:((sw cs).any λe=>eqB e d)=false:=by rw[List.any_eq_false];intro e h;obtain⟨c,hc,rfl⟩:=lu h;rw[he c hc];simp
 rw[this];rfl
theorem wq(h:(vL d&&ua d)=true)(e:∀x,d≠.str x):∃t,ub [d]=some (.val (.str t)):=by
 cases d with
 |str x=>exact absurd rfl (e x)
 |ax=>cases h
 |bl b=>cases h
 |int i=>cases h
 |lst ds=>exact⟨_,by show(if (vL εl&&ua εl)=true then some (RV.val (.str (D.lst ds).py.shown)) else none)=_;rw[qaF h]⟩
 |tup ds=>exact⟨_,by show(if (vL ηI&&ua ηI)=true then some (RV.val (.str (D.tup ds).py.shown)) else none)=_;rw[qaF h]⟩
 |i4 a b=>exact⟨_,by show(if (vL (.i4 a b)&&ua (.i4 a b))=true then some (RV.val (.str (D.i4 a b).py.shown)) else none)=_;rw[qaF h]⟩
 |dW ns=>cases h
 |ins C a b=>cases h
 |obj C a b=>cases h
theorem Zl:∀k:Fin 31,(vL (.tup [.int (k.1:Int)])&&ua (.tup [.int (k.1:Int)]))=true:=by decide +kernel
section
variable{ks:u8}{cs:γh}(A:Ak ks)(F:ζ7)
include A F
theorem uF(hp:nq [d]=some γe)(hz:∃t,ub [d]=some (.val (.str t)))(hn:∃b,yK d δ3=some θF/\(b=true\/yJ d (.tup [.bl true,.int 0])=some γa)):Nt (aw ks) (pO γm) θ d:=
 ⟨Ox (Om (Fs.served A F) (XE hp)),hz,hn⟩
theorem Zm(hk:ks.length<=5)(h0:c0∈cs):∀d∈[D.ax,.tup [.int 31,.int 0],.tup [.bl true,.int 0],.lst [.int 0,.int 0],.str "0",.tup [.int c0.2],.tup [.int 30,.int 30],.i4 [] []],Nt (aw ks) (pO γm) θ d:=by
 intro d hd;simp only[List.mem_cons,List.not_mem_nil,or_false]at hd;rcases hd with rfl|rfl|rfl|rfl|rfl|rfl|rfl|rfl
 .exact uF A F (by kernel_rfl) ⟨_,rfl⟩ ⟨true,Cv (d:=.ax) (by decide +kernel) (λc _=>rfl),.inl rfl⟩
 .refine uF A F (by kernel_rfl) (wq (by decide +kernel) (λx=>by simp)) ⟨true,?_,.inl rfl⟩;have:=Ct cs (0,31);rw[qan (show((0,31):C)∉cs from λh=>by have:=(F.sm _ h).2.2;simp at this)]at this;exact this
 .refine uF A F (by kernel_rfl) (wq (by decide +kernel) (λx=>by simp)) ⟨!(sw cs).any λe=>eqB e (.tup [.bl true,.int 0]),?_,.inr (show eF (.tup [.bl true,.int 0]) (.tup [.bl true,.int 0])=_ from GV (by decide +kernel))⟩;show(if cV (.tup [.bl true,.int 0])&&(sw cs).all cV then some (RV.val (.bl (!(sw cs).any λe=>eqB e (.tup [.bl true,.int 0])))) else none)=_;rw[show cV (.tup [.bl true,.int 0])=true by decide +kernel,Ci];rfl
 .exact uF A F (by kernel_rfl) (wq (by decide +kernel) (λx=>by simp)) ⟨true,Cv (d:=.lst [.int 0,.int 0]) (by decide +kernel) (λc _=>rfl),.inl rfl⟩
 .refine uF A F (by kernel_rfl) ⟨reprText "0",?_⟩ ⟨true,Cv (d:=.str "0") (by decide +kernel) (λc _=>rfl),.inl rfl⟩;show(if cd ((reprText "0").length<=sizeLine) then some (RV.val (.str (reprText "0"))) else none)=_;rw[qaF (gf (qaO (show(reprText "0").length<=20000 by decide +kernel) line))]
 .obtain⟨k1,k2⟩:=(F.sm c0 h0).2;have z:=Zl ⟨c0.2.toNat,by omega⟩;simp only[Int.toNat_of_nonneg k1]at z;refine uF A F (by kernel_rfl) (wq z (λx=>by simp)) ⟨true,Cv (d:=.tup [.int c0.2]) ?_ (λc _=>?_),.inl rfl⟩
  .unfold cV SeqAt.shaped;simp[D.py,D.iJ,PyData.canLay0,PyData.canLayAll0,PyData.depth,PyData.depthAll]
  .show PyData.eqv _ _=_;simp[D.py,D.iJ,PyData.eqv,PyData.eqvAll]
 .have no:((30,30):C)∉cs:=λh=>by have:=F.lt _ h;simp at this;omega
  have hs:=has_eq (cs:=aE cs) (k:=30) (i:=30) (by exact⟨⟨by decide,by decide⟩,by decide,by decide⟩);rw[qau (show((30,30):C)∉aE cs from λh=>no (au.mp h))]at hs;refine⟨Ox (Om (Fs.served A F) hs),wq (by decide +kernel) (λx=>by simp),true,?_,.inl rfl⟩;have:=Ct cs (30,30);rw[qan no]at this;exact this
 .refine uF A F (by kernel_rfl) (wq (by decide +kernel) (λx=>by simp)) ⟨true,?_,.inl rfl⟩;show(if (sw cs).all B4 then some (RV.val θJ) else none)=_;rw[qaF (qaP.mpr λd hd=>by obtain⟨c,_,rfl⟩:=lu hd;rfl)]
end
theorem OA:∀{ks:u8}{i j:Nat}{k:Int},ks[j]?=some k->(((i+j:Nat):Int),k)∈prs i ks
 |[],_,_,_,h=>by simp at h
 |a::r,i,0,k,h=>by simp at h;rw[h,we];exact qag ..
 |a::r,i,j+1,k,h=>by have:=OA (i:=i+1) (j:=j) (ks:=r) (by simpa using h);rw[we];rw[show i+1+j=i+(j+1) by omega]at this;exact qae _ this
theorem Ho:cd (¬("less":Str) = "held")=true:=gf (by decide +kernel)
theorem Zn:cd (¬("more":Str) = "held")=true:=gf (by decide +kernel)
theorem Zo{ks:u8}(h:1<=ks.length):L2.dn δo (-1)=some (.int (gA ks (ks.length-1))):=by
 have e:=mF (as:=ks) (i:=(ks.length:Int)-1) (by omega) (by omega);rw[<-e];unfold L2.dn
 have:∀n:Nat,1<=n->L2.mL n (-1)=L2.mL n ((n:Int)-1):=λn hn=>by unfold L2.mL;rw[qaC (by decide),qaF (by omega),qaF (by omega),qaF (by omega)];congr 2
 rw[qaf,this _ h]
theorem Zp{ks:u8}{T:γd}{P:D}{c0:C}{x3 x4 x5 x6:Sl}(h:L2.dn T 0=some (pt c0)):GP [some (.ae,aw ks),some (.ae,.lst T),some (.ae,P),x3,x4,x5,x6]=.ok [D.ax,.tup [.int 31,.int 0],.tup [.bl true,.int 0],.lst [.int 0,.int 0],.str "0",.tup [.int c0.2],.tup [.int 30,.int 30],.i4 [] []] [some (.ae,aw ks),some (.ae,.lst T),some (.ae,P),x3,x4,x5,x6]:=by
 have ln:=line;have l1:1<=sizeLine:=by omega
 have l2:2<=sizeLine:=by omega
 have l8:8<=sizeLine:=by omega
 simp[GP,h,l1,l2,l8,lr]
theorem Zq{ks:u8}{ds:γd}{a:C}{U V:γd}{x1 x3 x4 x6:Sl}(h:1<=ks.length)(e1:uq [pO ds,pt a]=some (.val (pO U)))(e2:v7 [pO ds,.lst [.tup [.int (gA ks 0),.int ks.length]]]=some (.val (pO V))):GQ [some (.ae,aw ks),x1,some (.ae,pO ds),x3,x4,some (.ae,pt a),x6]=.ok [pO U,pO V] [some (.ae,aw ks),x1,some (.ae,pO ds),x3,x4,some (.ae,pt a),x6]:=by
 have ln:=line;have l1:1<=sizeLine:=by omega
 have l2:2<=sizeLine:=by omega
 have a0:=mF (as:=ks) (i:=0) (by omega) (by omega);simp[GQ,e1,e2,l1,l2,a0,Ho,Zn]
theorem refused{ks:u8}{cs:γh}(A:Ak ks)(hk:ks.length<=5)(F:ζ7):yY [aw ks,.lst θ,pO γm]=some γa:=by
 have ln:=line;have l2:2<=sizeLine:=by omega
 have S:=Fs.cs' A F;have hl:=Fs.len' A F;have one:=A.one
 have mH:(((0+(ks.length-1):Nat):Int),gA ks (ks.length-1))∈prs 0 ks:=OA (by unfold gA;rw[qa1,show((ks.length:Int)-1).toNat=ks.length-1 by omega,qah (by omega)];rfl)
 rw[show((0+(ks.length-1):Nat):Int)=(ks.length:Int)-1 by omega]at mH;have ma:(((ks.length:Int)-1,gA ks (ks.length-1)):C)∈aE cs:=au.mpr (F.has _ mH);have aL:=Zo one;have g0:=A.key _ (Ob (as:=ks) (i:=0) (by omega) (by omega));obtain⟨c0,r,hc⟩:=qbg (List.ne_nil_of_mem (F.has _ mH));have h0:c0∈cs:=by rw[hc];exact qag ..
 have at0:L2.dn θ ((0:Nat):Int)=some (pt c0):=De (by rw[hc];rfl);obtain⟨y3,y4,lp⟩:=Oy (K:=aw ks) (P:=pO γm) (T:=sw cs) (x5:=none) (x6:=none) _ none none (Zm A F hk h0);have e1:=Zp (ks:=ks) (P:=pO γm) (x3:=none) (x4:=none) (x5:=none) (x6:=none) at0;have L:=N1 S (by omega) ma;have SL:=Hf S ((ks.length:Int)-1,gA ks (ks.length-1));have ll:=Cr γ2 ((ks.length:Int)-1,gA ks (ks.length-1))
 have u1:mE ks (rest γ2 ((ks.length:Int)-1,gA ks (ks.length-1)))=false:=by
  unfold mE
  have:uD ks (rest γ2 ((ks.length:Int)-1,gA ks (ks.length-1)))=false:=by unfold uD;rw[Bool.eq_false_iff];intro z;rw[qaP]at z;exact(aY.mp (qaI (z _ (au.mpr mH)))).2 rfl
  rw[this];simp
 have c1:=Hm (Hl (d:=.ax) (G8 A SL (by omega) u1));have OB:bU ((ks.length:Int),gA ks 0):=⟨⟨by omega,by omega⟩,g0⟩;have Mo:=YB S (by omega) OB;have zt:∀c∈aE cs++[((ks.length:Int),gA ks 0)],bU c:=λc hc=>(qaH.mp hc).elim (S.sm c) (λh=>by rw[qaD.mp h];exact OB);have SM:Bp.Cs (aE (aE cs++[((ks.length:Int),gA ks 0)])):=Cs.lS zt;have lm:(aE (aE cs++[((ks.length:Int),gA ks 0)])).length<=60:=by have:=v_ (aE cs++[((ks.length:Int),gA ks 0)]);rw[qaq]at this;simp at this;omega
 have u2:mE ks (aE (aE cs++[((ks.length:Int),gA ks 0)]))=false:=by
  unfold mE
  have:zo ks (aE (aE cs++[((ks.length:Int),gA ks 0)]))=false:=by unfold zo;rw[Bool.eq_false_iff];intro z;rw[qaP]at z;have:=qaI (z _ (au.mpr (qax _ (qaD.mpr rfl))));simp at this
  rw[this];rfl
 have c2:=Hm (Hl (d:=.ax) (G8 A SM lm u2));have e2:=λy3 y4=>Zq (x1:=some (.ae,.lst θ)) (x3:=y3) (x4:=y4) (x6:=none) one L Mo;have Hq:tO (.int (ks.length:Nat)) (.int 1)=some (.val (.int ((ks.length:Int)-1))):=rfl;have ng:r9 (.int 1)=some (.val (.int (-1))):=rfl;generalize sw (aE (aE cs++[((ks.length:Int),gA ks 0)]))=V at *;generalize sw (rest γ2 ((ks.length:Int)-1,gA ks (ks.length-1)))=U at *;have q1:=λy3 y4=>Oz (x3:=some (.ae,.lst θ)) (x4:=some (.ae,pO γm)) (x5:=y3) (x6:=y4) (d:=pt ((ks.length:Int)-1,gA ks (ks.length-1))) c1;have q2:=λy3 y4=>Oz (x3:=some (.ae,.lst θ)) (x4:=some (.ae,pO γm)) (x5:=y3) (x6:=y4) (d:=pt ((ks.length:Int)-1,gA ks (ks.length-1))) c2;unfold yY;unfold GS;generalize sw γ2=W at *;generalize sw cs=T at *;simp[ba,bC,gam,e1,lp,aL,Hq,ng,l2,e2,q1,q2,k_,LF]
theorem Zr(L:u8):∃c0 c1:Int,(L.map D.int++[D.int 1,D.int 2]).take 2=[D.int c0,D.int c1]:=by
 match L with
 |[]=>exact⟨1,2,rfl⟩
 |[a]=>exact⟨a,1,rfl⟩
 |a::b::_=>exact⟨a,b,rfl⟩
theorem Zs:vC (.lst [.int 31]) (.int 5)=some (.new (aw [31,31,31,31,31])):=by show(if cd _=true then some (RV.new (.lst (List.replicate (5:Int).toNat [D.int 31]).flatten)) else none)=_;rw[qaF (gf ⟨by decide,by decide,by have:=line;simp;omega⟩)];rfl
theorem rep3:vC (.lst [.int 31,.int 5]) (.int 3)=some (.new (aw [31,5,31,5,31,5])):=by show(if cd _=true then some (RV.new (.lst (List.replicate (3:Int).toNat [D.int 31,.int 5]).flatten)) else none)=_;rw[qaF (gf ⟨by decide,by decide,by have:=line;simp;omega⟩)];rfl
theorem Hr{F:u8}(h:j<F.length):F[j]?=some (gA F j):=by unfold gA;rw[qa1,Int.toNat_natCast,qah h];rfl
section
variable{ns:u8}{i:Int}{x0 x1 x2 x3 x4 x5 x6 x7 x8 x9:Sl}
theorem Zt(hn:ns.length<=63):∃c0 c1,∀{x2 x3 x4 x5 x6 x7 x8 x9:Sl},w2 [some (.ae,.dW ns),some (.ae,.int i),x2,x3,x4,x5,x6,x7,x8,x9]=.ok .nx [some (.ae,.dW ns),some (.ae,.int i),some (.own,aw [c0,c1]),x3,x4,x5,x6,x7,x8,x9]:=by
 have ln:=line;have cl:(fq ns (some i) (some (i+2))).length<=ns.length:=by unfold fq;rw[List.length_take,List.length_drop];omega
 generalize hL:fq ns (some i) (some (i+2))=L at cl;obtain⟨c0,c1,h⟩:=Zr L;refine⟨c0,c1,?_⟩;have s2:2<=sizeLine:=by omega
 have sl:L.length+2<=sizeLine:=by omega
 have c2:fq (L.map D.int++[D.int 1,D.int 2]) none ηm=[D.int c0,D.int c1]:=by rw[<-h];exact v8 _ 2
 simp[w2,s2,hL,sl,c2]
theorem Zu(c0 c1:Int){k:Nat}(hk:k<90):∃ks,(∀{x0 x3 x4 x5 x6 x7 x8 x9:Sl},w3 [x0,some (.ae,.int k),some (.own,aw [c0,c1]),x3,x4,x5,x6,x7,x8,x9]=.ok .nx [x0,some (.ae,.int k),some (.own,aw [c0,c1]),some (.own,aw ks),x4,x5,x6,x7,x8,x9])/\Ak ks/\ks.length<=5:=by
 have ln:=line;obtain⟨F,hF,hl,hf⟩:=N7 c0 k (by omega) [7,31,5,3,31,31,31,31,31] (by decide) (by decide);obtain⟨z,hz,g1,g2⟩:=hf.at_ 0 (gA F 0) (Hr (j:=0) (by rw[hl];decide));have:z=7:=by simpa using hz.symm
 subst this;obtain⟨ks,h,A,h5⟩:=YT (F:=F) (most:=5) (by decide) (by decide) (by rw[hl];rfl) ⟨g1,g2⟩;have a0:L2.dn [D.int c0,D.int c1] 0=some (.int c0):=rfl;have s1:1<=sizeLine:=by omega
 have s4:4<=sizeLine:=by omega
 have r:=Zs;have a:eg (.lst [.int 7,.int 31,.int 5,.int 3]) (aw [31,31,31,31,31])=some (.new (aw [7,31,5,3,31,31,31,31,31])):=qO (by simp;omega);have h:sF [aw F,.int 5]=_:=h;refine⟨ks,?_,A,h5⟩;generalize aw [7,31,5,3,31,31,31,31,31]=Y at *;generalize aw [31,31,31,31,31]=Z at *;generalize aw F=W at *;simp[-qO,w3,a0,s1,s4,r,a,hF,h]
theorem Zv(c0 c1:Int){k:Nat}(hk:k<90):∃F,(∀{x0 x3 x4 x5 x6 x7 x8 x9:Sl},w4 [x0,some (.ae,.int k),some (.own,aw [c0,c1]),x3,x4,x5,x6,x7,x8,x9]=.ok .nx [x0,some (.ae,.int k),some (.own,aw [c0,c1]),x3,some (.own,aw F),x5,x6,x7,x8,x9])/\F.length=7/\Fits F [4,31,5,31,5,31,5]:=by
 have ln:=line;obtain⟨F,hF,hl,hf⟩:=N7 c1 (k+1) (by omega) [4,31,5,31,5,31,5] (by decide) (by decide);have a1:L2.dn [D.int c0,D.int c1] 1=some (.int c1):=rfl;have s1:1<=sizeLine:=by omega
 have s2:2<=sizeLine:=by omega
 have r:=rep3;have a:eg (.lst [.int 4]) (aw [31,5,31,5,31,5])=some (.new (aw [4,31,5,31,5,31,5])):=qO (by simp;omega);refine⟨F,?_,hl,hf⟩;have hF:ux [.int c1,.int ((k:Int)+1),aw [4,31,5,31,5,31,5]]=_:=hF;generalize aw [4,31,5,31,5,31,5]=Y at *;generalize aw [31,5,31,5,31,5]=Z at *;generalize aw F=W at *;simp[-qO,w4,a1,s1,s2,r,a,hF]
theorem Zw{F:u8}(hl:F.length=7)(hf:Fits F [4,31,5,31,5,31,5]):∃n:Nat,gA F 0=n/\n<=3/\Dg ((F.drop 1).take (2*n)) n:=by
 obtain⟨z,hz,g1,g2⟩:=hf.at_ 0 (gA F 0) (Hr (j:=0) (by omega));have:z=4:=by simpa using hz.symm
 subst this;refine⟨(gA F 0).toNat,by omega,by omega,?_,by omega,λi hi=>?_⟩
 .rw[qbv,List.length_drop,hl];omega
 .have e:gA ((F.drop 1).take (2*(gA F 0).toNat)) ((i:Int)*2)=gA F ((2*i+1:Nat):Int):=by show List.getD _ _ _=List.getD _ _ _;rw[qa1,qa1,show((i:Int)*2).toNat=2*i by omega,Int.toNat_natCast,List.getElem?_take_of_lt (by omega),List.getElem?_drop,Nat.add_comm]
  rw[e]
  obtain⟨z,hz,k1,k2⟩:=hf.at_ (2*i+1) (gA F ((2*i+1:Nat):Int)) (Hr (by omega))
  have:i=0\/i=1\/i=2:=by omega
  rcases this with rfl|rfl|rfl<;>(have:z=31:=by simpa using hz.symm)<;>subst this<;>exact⟨k1,by omega⟩
theorem Zx{ks F:u8}(A:Ak ks)(h5:ks.length<=5)(hl:F.length=7)(hf:Fits F [4,31,5,31,5,31,5]):∃cs,(∀{x0 x1 x2 x5 x6 x7 x8 x9:Sl},w5 [x0,x1,x2,some (.own,aw ks),some (.own,aw F),x5,x6,x7,x8,x9]=.ok .nx [x0,x1,x2,some (.own,aw ks),some (.own,aw F),some (.own,.lst θ),x6,x7,x8,x9])/\Fs ks cs:=by
 obtain⟨n,g0,hn,G⟩:=Zw hl hf;obtain⟨cs,e,S⟩:=Y0 A h5 G;have a0:=mF (as:=F) (i:=0) (by omega) (by omega);rw[g0]at a0
 have c:fq (F.map D.int) εR (some (1+2*(n:Int)))=((F.drop 1).take (2*n)).map D.int:=by rw[show(1:Int)+2*(n:Int)=((1+2*n:Nat):Int) by omega,show(1:Int)=((1:Nat):Int) from rfl];unfold fq;rw[HT.jr,HT.jr];simp only[List.length_map,hl,List.map_take,List.map_drop];rw[show min 1 7=1 from rfl,show min (1+2*n) 7-1=2*n by omega]
 have m1:tP 2 (n:Int)=true:=E7 (by decide);have im:jy (.new δ3)=true:=zc cs;have ss:=Od S.sm (by have:=S.few;omega);have e:v3 [aw ks,.lst (((F.drop 1).take (2*n)).map D.int)]=_:=e;refine⟨lT cs,?_,S.lx.ext λc=>fD.symm,Oc cs,λc h=>S.sm c (fD.mp h),λc h=>S.lt c (fD.mp h),qaO (Hj cs) S.few,λc h=>fD.mpr (S.has c h)⟩;generalize sw (lT cs)=U at *;generalize sw cs=T at *;generalize ((F.drop 1).take (2*n)).map D.int=V at *;simp[w5,a0,c,m1,e,ss,im]
variable{ks:u8}{cs:γh}
theorem Zy(S:ζ7):w6 [x0,x1,x2,x3,x4,some (.own,.lst θ),x6,x7,x8,x9]=.ok .nx [x0,x1,x2,x3,x4,some (.own,.lst θ),some (.ae,pO γm),x7,x8,x9]:=by have e:=Cf S.sm (by have:=S.few;omega);generalize sw γ2=U at *;generalize sw cs=T at *;simp[w6,e]
theorem Zz:w7 [x0,x1,x2,x3,x4,x5,some (.ae,pO U),x7,x8,x9]=.ok .nx [x0,x1,x2,x3,x4,x5,some (.ae,pO U),some (.own,.lst U),x8,x9]:=by have e:=wa U;simp[w7,e,uE]
theorem ZA(A:Ak ks)(S:ζ7){r:γh}(hr:∀c∈r,c∈cs){x7 x8 x9:Sl}:dD [3,5,6] 1 δ0 γp θE (sw r) [x0,x1,x2,some (.own,aw ks),x4,some (.own,.lst θ),some (.ae,pO γm),x7,x8,x9]=.ok ((r.map λ_=>true).map D.bl) [x0,x1,x2,some (.own,aw ks),x4,some (.own,.lst θ),some (.ae,pO γm),x7,x8,x9]:=by
 have e:(sw r).map (λ_=>D.bl true)=(r.map λ_=>true).map D.bl:=by rw[zj,qbN,qbN];rfl
 rw[<-e];refine su _ λd hd=>?_;obtain⟨c,hc,rfl⟩:=lu hd;have hh:=Zg A S (hr c hc);refine⟨[some (.ae,pt c),some (.own,aw ks),some (.own,.lst θ),some (.ae,pO γm)],?_,rfl⟩;generalize sw γ2=U at *;generalize sw cs=T at *;simp[bL,hh]
theorem OC(n:Nat):fq θ none (some (n:Int))=sw θ5:=by rw[v8];simp[sw,List.map_take]
theorem ZC(A:Ak ks)(S:ζ7):w8 [x0,x1,x2,some (.own,aw ks),x4,some (.own,.lst θ),some (.ae,pO γm),x7,x8,x9]=.ok .nx [x0,x1,x2,some (.own,aw ks),x4,some (.own,.lst θ),some (.ae,pO γm),x7,x8,x9]:=by
 have ln:=line;have e1:=ZA (x0:=x0) (x1:=x1) (x2:=x2) (x4:=x4) (x7:=x7) (x8:=x8) (x9:=x9) A S (r:=cs.take 20) λc h=>List.mem_of_mem_take h;have c:fq θ none (some 20)=sw (cs.take 20):=OC 20;have l:(sw (cs.take 20)).length<sizeLine:=by rw[gY,qbv];omega
 have a:vi [.lst (((cs.take 20).map λ_=>true).map D.bl)]=some γa:=by show(mY (((cs.take 20).map λ_=>true).map D.bl)).map (λbs=>RV.val ζz)=_;rw[D7,Option.map_some,List.all_map,show(cs.take 20).all (id ∘ λ_=>true)=true from qaP.mpr (λ_ _=>rfl)]
 generalize ((cs.take 20).map λ_=>true).map D.bl=V at *;generalize sw (cs.take 20)=R at *;generalize sw γ2=U at *;generalize sw cs=T at *;simp[w8,c,l,e1,a]
theorem ZD(A:Ak ks)(h5:ks.length<=5)(S:ζ7):w9 [x0,x1,x2,some (.own,aw ks),x4,some (.own,.lst θ),some (.ae,pO γm),some (.own,.lst γm),x8,x9]=.ok .nx [x0,x1,x2,some (.own,aw ks),x4,some (.own,.lst θ),some (.ae,pO γm),some (.own,.lst γm),x8,x9]:=by have e:=refused A h5 S;have p:=wa γm;have n:iz (.lst γm) (.lst γm)=some γe:=GW (uC _);generalize sw γ2=U at *;generalize sw cs=T at *;simp[w9,e,p,n,uE]
theorem ZE(A:Ak ks)(S:ζ7)(hc:c∈cs)(hk:kd=.own\/kd=.ae):∃zv y9,(zv=.own\/zv=.ae)/\w10 [x0,x1,x2,some (kd,aw ks),x4,x5,some (.ae,pO γm),x7,some (.ae,pt c),x9]=.ok .nx [x0,x1,x2,some (zv,aw ks),x4,x5,some (.ae,pO γm),x7,some (.ae,pt c),y9]:=by
 have C:=Fs.cs' A S;have hl:=Fs.len' A S;have L:=N1 C (by omega) (au.mpr hc);have SL:=Hf C c;have ll:=Cr γ2 c;have f:=N3 (cs:=rest γ2 c) (by omega);have p:=wa (sw εz);cases q:lx εz [] εz with
 |true =>
   rw[q]at f;refine⟨kd,some (.ae,pO (sw εz)),hk,?_⟩;generalize sw εz=R at *;generalize sw γ2=U at *;rcases hk with rfl|rfl<;>simp[w10,L,f,p,uE,Ho]
 |false =>
   rw[q]at f
   have u:mE ks εz=false:=by
    unfold mE
    have:(bare εz).isEmpty=false:=by rw[Bool.eq_false_iff];intro z;rw[g8.mpr (Yv (List.isEmpty_iff.mp z))]at q;cases q
    rw[this];simp
   have cu:=Hm (Hl (d:=pt c) (G8 A SL (by omega) u));have im:jy (.val (.ins .NotServed [] []))=false:=rfl;have i1:yh iN .NotServed (.ins .NotServed [] [])=some γa:=rfl;refine⟨.ae,some (.ae,pO (sw εz)),.inr rfl,?_⟩;generalize sw εz=R at *;generalize sw γ2=U at *;rcases hk with rfl|rfl<;>simp[w10,L,f,p,cu,i1,im,uE,Ho]
theorem OD(A:Ak ks)(S:ζ7):∀(r:γh) (kd:Kd) (x8 x9:Sl),(∀c∈r,c∈cs)->(kd=.own\/kd=.ae)->∃y3 y8 y9,gX (gN 8) w10 (sw r) [x0,x1,x2,some (kd,aw ks),x4,x5,some (.ae,pO γm),x7,x8,x9]=.ok .nx [x0,x1,x2,y3,x4,x5,some (.ae,pO γm),x7,y8,y9]
 |[],kd,x8,x9,_,_=>⟨_,x8,x9,rfl⟩
 |c::r,kd,x8,x9,h,hk=>by obtain⟨zv,z9,hk',e⟩:=ZE (x0:=x0) (x1:=x1) (x2:=x2) (x4:=x4) (x5:=x5) (x7:=x7) (x9:=x9) A S (h c (qag ..)) hk;obtain⟨y3,y8,y9,ih⟩:=OD A S r zv (some (.ae,pt c)) z9 (λb hb=>h b (qae _ hb)) hk';refine⟨y3,y8,y9,?_⟩;rw[gZ,k_,m9,show gN 8 (.tup [.int c.2,.int c.1]) [x0,x1,x2,some (kd,aw ks),x4,x5,some (.ae,pO γm),x7,x8,x9]=.ok () [x0,x1,x2,some (kd,aw ks),x4,x5,some (.ae,pO γm),x7,some (.ae,pt c),x9] from rfl];simp only[e];exact ih
theorem ZF(A:Ak ks)(S:ζ7):∃y3 y8 y9,w11 [x0,x1,x2,some (.own,aw ks),x4,some (.own,.lst θ),some (.ae,pO γm),x7,x8,x9]=.ok .nx [x0,x1,x2,y3,x4,some (.own,.lst θ),some (.ae,pO γm),x7,y8,y9]:=by obtain⟨y3,y8,y9,e⟩:=OD (x0:=x0) (x1:=x1) (x2:=x2) (x4:=x4) (x5:=some (.own,.lst θ)) (x7:=x7) A S (cs.take 6) .own x8 x9 (λc h=>List.mem_of_mem_take h) γM;have c:fq θ none (some 6)=sw (cs.take 6):=OC 6;refine⟨y3,y8,y9,?_⟩;generalize sw (cs.take 6)=R at *;generalize sw γ2=U at *;generalize sw cs=T at *;simp[w11,c,e]
theorem ZG(hn:ns.length<=63){k:Nat}(hk:k<90):∃(y2 y3 y4 y5 y6 y7 y8 y9:Sl),wB [some (.ae,.dW ns),some (.ae,.int k),x2,x3,x4,x5,x6,x7,x8,x9]=.ok .nx [some (.ae,.dW ns),some (.ae,.int k),y2,y3,y4,y5,y6,y7,y8,y9]:=by obtain⟨c0,c1,h2⟩:=Zt (i:=k) hn;obtain⟨ks,h3,A,h5⟩:=Zu c0 c1 hk;obtain⟨F,h4,f1,f2⟩:=Zv c0 c1 hk;obtain⟨cs,ZH,S⟩:=Zx A h5 f1 f2;obtain⟨y3,y8,y9,h11⟩:=ZF A S (x0:=some (.ae,.dW ns)) (x1:=some (.ae,.int k)) (x2:=some (.own,aw [c0,c1])) (x4:=some (.own,aw F)) (x7:=some (.own,.lst γm)) (x8:=x8) (x9:=x9);exact⟨_,_,_,_,_,_,_,_,sI h2 (sI h3 (sI h4 (sI ZH (sI (Zy S) (sI Zz (sI (ZC A S) (sI (ZD A h5 S) h11)))))))⟩
end
theorem ZI(ns:u8)(h:ns.length<=63):yZ [.dW ns]=some γa:=by
 generalize hn:(if (6:Int)<(ns.length:Int) then (6:Int) else (ns.length:Int))=n1;generalize hn2:(if n1>1 then n1 else 1)=n2;have b1:0<=n1/\n1<=6:=by rw[<-hn];split<;>omega
 have b2:1<=n2/\n2<=6:=by rw[<-hn2];split<;>omega
 have rg:∀n:Nat,n<=6->((Builtin.Range.small 0 (n:Int) 2=true/\0<=Builtin.Range.rangeSize 0 (n:Int) 2)/\(Builtin.Range.rangeSize 0 (n:Int) 2).toNat<=8):=by decide +kernel
 have rg:=rg n2.toNat (by omega);rw[Int.toNat_of_nonneg (by omega)]at rg;obtain⟨r1,r2⟩:=rg;have r24:cd (Builtin.Range.small 0 n2 2=true/\0<=Builtin.Range.rangeSize 0 n2 2)=true:=gf r1
 obtain⟨Γ',hl,y1,y2,y3,y4,y5,y6,y7,y8,y9,rfl⟩:=Bu (m:=gN 1) (s:=wB)
  (λ_ Γ=>∃(y1 y2 y3 y4 y5 y6 y7 y8 y9:Sl),Γ=[some (.ae,.dW ns),y1,y2,y3,y4,y5,y6,y7,y8,y9])
  (ds:=oM 0 2 (Builtin.Range.rangeSize 0 n2 2).toNat) (Γ:=[some (.ae,.dW ns),none,none,none,none,none,none,none,none,none])
  ⟨none,none,none,none,none,none,none,none,none,rfl⟩ (by
   rintro i d Γ hd ⟨y1,y2,y3,y4,y5,y6,y7,y8,y9,rfl⟩;obtain⟨hi,rfl⟩:=Oa hd;obtain⟨z2,z3,z4,z5,z6,z7,z8,z9,hz⟩:=ZG (ns:=ns) h (k:=i*2) (by omega) (x2:=y2) (x3:=y3) (x4:=y4) (x5:=y5) (x6:=y6) (x7:=y7) (x8:=y8) (x9:=y9);have ei:(0:Int)+(i:Int)*2=((i*2:Nat):Int):=by omega
   rw[ei];exact⟨_,_,rfl,.inl hz,_,z2,z3,z4,z5,z6,z7,z8,z9,rfl⟩)
 unfold yZ;unfold GU;simp[ba,bC,gam,hn,hn2,r24,hl]
end cZ
namespace Hd
open PySem PySem.W PyProof.Rows
noncomputable def zw(tb:String->Option Builtin)(p:Program)(w:World)(m:Nat)(an:zzb):Nat->SharedT->Thread->Option SharedT
 |0,_,_=>none
 |k+1,x,y=>match through y with
   |true=>some x
   |false=>match stepOk m an y with
     |false=>none
     |true=>match stepT (denote tb) p w x y with
       |some (x',y')=>zw tb p w m an k x' y'
       |none=>none
theorem OE:∀{k:Nat}{x r:SharedT}{y:Thread},zw tb p w m an k x y=some r->topRun tb p w m an k x.abs y=some r.abs
 |0,_,_,_,h=>by cases h
 |k+1,x,r,y,h=>by
   unfold zw at h;unfold topRun;cases c1:through y with
   |true=>rw[c1]at h;cases h;rfl
   |false =>
     rw[c1]at h;cases c2:stepOk m an y with
     |false=>rw[c2]at h;cases h
     |true =>
       rw[c2]at h;cases c3:stepT (denote tb) p w x y with
       |none=>rw[c3]at h;cases h
       |some z=>obtain⟨x2,y2⟩:=z;rw[c3]at h;rw[stepT_spec c3];exact OE h
noncomputable def zx(tb:String->Option Builtin)(p:Program)(w:World)(m:Nat)(an:zzb):Nat->SharedT->Thread->Option SharedT
 |0,_,_=>none
 |k+1,x,y=>match through y with
   |true=>some x
   |false=>match Fast.tw6613529449190102663 m an y with
     |false=>none
     |true=>match Fast.tw10156331382660048174 (Fast.tw11892475500146522536 tb) p w x y with
       |some (x',y')=>zx tb p w m an k x' y'
       |none=>none
theorem OF:∀(k:Nat) (x:SharedT) (y:Thread),zw tb p w m an k x y=zx tb p w m an k x y
 |0,_,_=>rfl
 |k+1,x,y=>by
   unfold zw zx;rw[<-Fast.te6613529449190102663,<-Fast.te10156331382660048174,<-Fast.te11892475500146522536];split
   .rfl
   .split
    .rfl
    .split
     .exact OF k _ _
     .rfl
noncomputable def Ht(P:Params)(os:OsState):SharedT:=
 ⟨(.node (boot_o_0 P) (.node (boot_o_1 P) (.node (boot_o_3 P) (.node (boot_o_7 P) .nil .nil) .nil) (.node (boot_o_5 P) (.node (boot_o_9 P) .nil .nil) .nil)) (.node (boot_o_2 P) (.node (boot_o_4 P) (.node (boot_o_8 P) .nil .nil) .nil) (.node (boot_o_6 P) (.node (boot_o_10 P) .nil .nil) .nil))),11,(boot_heap P).life,Array.mk [],boot_drawn,boot_toks,os⟩
theorem ZJ(P:Params)(os:OsState):(Ht P os).abs=⟨boot_heap P,Array.mk [],boot_drawn,boot_toks,os⟩:=by kernel_rfl
theorem ZK{p r:Program}{keep:zzc}{R:WRecords}{K:Params->Frag}{as:zzd}{N:Nat}(ep:p=r)(e0:opening p=plainProg p.main.scope.names)(hN:Nat.ble 600 N=true)(f:∀s,fenceModules? p s=some s)
 (run:∀(w:World) (os:OsState),(zx Fast.tw14364793385576792824 r w 11 (some (.ref 6)) N (Ht w.params os) (topStub r)).map (λs=>((staticsOk (importedModules r.main.body) δ6 s.abs.heap&&namesBound r s.abs.heap&&gensDone s.abs&&laidKept δ6 s.abs.heap),
  Fast.tw4187177175401517315 (view r keep) [] (importedModules r.main.body) (λs=>xlAt (view r keep) [] s&&recOk R s) true s.abs,as.map s.abs.heap.get?))=some (true,openGood (view r keep) [],(K w.params).map λx=>some x.2)) :
 LeftO p (view p keep) [] (λs=>xlAt (view p keep) [] s&&recOk R s) (λs=>as.map s.heap.get?) (λw=>(K w.params).map λx=>some x.2) N:=by
 subst ep;intro w;obtain⟨⟨h,gs,d,k,os⟩,e,e'⟩:=qbi.mp (boot_open e0 hN f w);obtain⟨rfl,rfl,rfl,rfl⟩:h=boot_heap w.params/\gs=Array.mk []/\d=boot_drawn/\k=boot_toks:=by simpa using e'
 obtain⟨s,h1,h2⟩:=qbi.mp (run w os);rw[<-Fast.te14364793385576792824,<-OF]at h1;have h1:=OE h1;rw[ZJ]at h1;rw[<-Fast.te4187177175401517315]at h2;obtain⟨l1,l2,l3⟩:_/\_/\_:=by simpa only [Prod.mk.injEq]using h2
 have z:((boot_heap w.params).isNs mainGlobals&&(Array.mk []:Array GenState).size == 0,(boot_heap w.params).objs.size,(boot_heap w.params).nsMap mainGlobals "__annotations__")=(true,11,some (.ref 6)):=by kernel_rfl
 obtain⟨z1,z2,z3⟩:_/\_/\_:=by simpa only [Prod.mk.injEq]using z
 have t:topFrom treeTable p w N ⟨boot_heap w.params,Array.mk [],boot_drawn,boot_toks,os⟩=some s.abs:=by unfold topFrom;dsimp only;rw[z1,z2,z3,h1];show(match staticsOk (importedModules p.main.body) δ6 s.abs.heap&&namesBound p s.abs.heap&&gensDone s.abs&&laidKept δ6 s.abs.heap with|true=>_|false=>_)=_;rw[l1]
 unfold openEnds;rw[e];show((topFrom treeTable p w N _).map _)=_;rw[t];exact congrArg some (Prod.ext l2 (by exact l3))
noncomputable abbrev vS(s:Str)(t:Tok):Value:=.str s t
noncomputable abbrev vI(i:Int)(t:Tok):Value:=.int i t
noncomputable abbrev de(s:Str)(t:Tok)(v:Value):Str×Tok×Value:=(s,t,v)
noncomputable abbrev dO(P:Params)(l:List (Str×Tok×Value))(n:Nat):Obj:={cls:=.type "dict",data:=.dict (l.map λx=>⟨PyData.keyHash P x.1,.str x.1 x.2.1,x.2.2⟩).toArray n}
noncomputable abbrev dN(P:Params)(l:List (Str×Tok×Value))(n:Nat):Obj:={cls:=.none,data:=.dict (l.map λx=>⟨PyData.keyHash P x.1,.str x.1 x.2.1,x.2.2⟩).toArray n}
abbrev fO(x q:Str)(st:Stmt)(dV pm:Value)(cd:Addr):Obj:={cls:=.type "function",data:=.func (fnOf x q (L2.bq st) (L2.af st) (L2.aa st) dV .none .none pm none (.ref cd) .none)}
noncomputable abbrev kO(x q:Str)(t:Tok)(a b:Int)(l:v4):Obj:={cls:=.type "code",data:=.fields (.str x t :: .str q (t+1) :: .str "/claim/cut.py" (t+2) :: .int a 0 :: .int b 0::l).toArray}
noncomputable abbrev cO(x:Str)(bs mr:v4)(ns:Addr)(sb:v4)(sl:ηk):Obj:={cls:=.type "type",data:=.cls {name:=x,bases:=bs,mro:=mr,ns:=ns,qualname:=x,subclasses:=sb},slots:=sl}
noncomputable def rf:Nat->Value
 |0=>.none
 |n=>.ref n
def kP(x q:Str)(t:Tok)(a b:Int)(r:Nat)(m:zzc)(e:Nat):Obj:=kO x q t a b ([vI 0 0,vI 0 0,vI 3 0,.ref r,.bool true,vI 181 0,.ref (r+1)]++m.map rf++[vI e 0,vI a 0,vS "/claim/cut.py" (e+1)])
def fQ(x:Str)(st:Stmt)(pm:Value)(cd:Addr):Obj:=fO x x st .none pm cd
def xD(P:Params)(pm:Value)(t:Tok)(l:Int)(i:List (Str×Tok×Value))(u:Tok)(r:Addr):Obj:=dO P ([de "__module__" t pm,de "__firstlineno__" (t+4) (vI l (t+3))]++i++[de "__static_attributes__" u (.ref r),de "__doc__" (u+1) .none]) 2
def xC(x:Str)(b:Value)(m:v4)(n:String)(a ns r:Addr)(t u:Tok):Obj:=cO x [b] ([.ref a,b]++m++[.type "Exception",.type "BaseException",.type "object"]) ns [] #[some (.ref r),none,some (vS x t),some (vS x u),some (.builtin (n ++ ".__new__")),some εd]
end Hd
namespace cZ
open PySem L2 Ex Dv
noncomputable abbrev jR:v6:=["points"]
noncomputable abbrev o8:v6:=["self"]
noncomputable abbrev ln2:v6:=["self","moment"]
noncomputable abbrev wt:v6:=["self","key"]
noncomputable abbrev sL:v6:=["self","points"]
noncomputable abbrev Hu:v6:=["_law_asks_here","_law_points","_law_point"]
noncomputable abbrev Hv:v6:=["_law_asks_here","_law_spots","_law_points","_law_point"]
noncomputable abbrev Hw:v6:=["_law_asks_here","_law_spots","_law_points"]
noncomputable abbrev zy:v6:=["one","other"]
noncomputable abbrev ly:v6:=["thing"]
noncomputable abbrev ln10:v6:=["asks","points"]
noncomputable abbrev zz:v6:=["places","place"]
noncomputable abbrev zA:v6:=["points","one","other"]
noncomputable abbrev wu:v6:=["moment","key"]
noncomputable abbrev wx:v6:=["key","moment"]
noncomputable abbrev Hx:v6:=["_law_d","_law_most","_law_span","_law_begin","_law_many","_law_asks_here"]
noncomputable abbrev OG:v6:=["_law_k","_law_begin","_law_d","_law_span"]
noncomputable abbrev Hy:v6:=["key","at","moment"]
noncomputable abbrev OH:v6:=["rows","one","key","start","low","high","found","moment","keys","lesser","greater"]
noncomputable abbrev Hz:v6:=["one","other","rows"]
noncomputable abbrev HA:v6:=["other","moment","key"]
noncomputable abbrev OI:v6:=["points","point","key","moment","beside","along","pair"]
noncomputable abbrev OJ:v6:=["_law_asks_here","_law_points","_law_point","_law_found","_law_e"]
noncomputable abbrev OK:v6:=["_law_cell","_law_turn","_law_sizes","_law_number","_law_wide","_law_seed","_law_found","_law_k","_law_size"]
noncomputable abbrev OL:v6:=["_law_spots","_law_one","_law_other","_law_low","_law_high","_law_begin","_law_end","_law_key","_law_moment"]
noncomputable abbrev OM:v6:=["_law_spots","_law_found","_law_begun","_law_one","_law_more","_law_other"]
noncomputable abbrev HB:v6:=["_law_asks_here","_law_digits_here","_law_points","_law_more","_law_k","_law_key"]
noncomputable abbrev HC:v6:=["_law_moment","_law_key"]
noncomputable abbrev HD:v6:=["_law_asks_here","_law_spots","_law_points","_law_point","_law_found","_law_rest","_law_one","_law_other"]
noncomputable abbrev ON:v6:=["_law_asks_here","_law_spots","_law_points","_law_thing","_law_e","_law_ask","_law_less"]
noncomputable abbrev OO:v6:=["_law_script","_law_at","_law_cells","_law_asks_here","_law_d","_law_spots","_law_points","_law_kept","_law_spot","_law_less"]
variable[KC]
noncomputable def top(i:Nat):Stmt:=PySem.Challenge.pw_thirdpoint_k50_what_needs_a_point.main.body.getD i (.Pass ⟨0,0,0,0⟩)
structure Nm(mg:M2):Prop where
 lU:mg "KeyError" = none
 zB:mg "abs" = none
 sM:mg "all" = none
 zC:mg "any" = none
 uG:mg "bool" = none
 bD:mg "enumerate" = none
 o9:mg "int" = none
 aA:mg "isinstance" = none
 cD:mg "len" = none
 g9:mg "list" = none
 km:mg "max" = none
 mI:mg "min" = none
 jC:mg "range" = none
 o_:mg "repr" = none
 sO:mg "set" = none
 cq:mg "sorted" = none
 jD:mg "tuple" = none
 g_:∃t,mg "LAST_KEY" = some (.int 30 t)
 kn:∃t,mg "MOST_ASKS" = some (.int 31 t)
 eR:∃t,mg "MOST_POINTS" = some (.int 200 t)
 ph:mg "NoAsks" = some (.ref (KC.cls .NoAsks))
 gg:mg "NoPoint" = some (.ref (KC.cls .NoPoint))
 cG:mg "NotServed" = some (.ref ζ6)
 fF:mg "PointError" = some (.ref (KC.cls .PointError))
 pj:mg "Points" = some (.ref (KC.cls .Points))
 nu:∀(P:Program) (w:World) (base:Heap),L0 P w mg base .NoPoint ["self","point"] (Fb (KC.cls .NoPoint) "point")
 ko:AN KC.K ζ6
 cH:rG KC.K ζ6
 nv:KitX iN .NoPoint
 gB:KitX iN .NotServed
 fG:KitX iN .PointError
 cw:∀C,B5 C=true->a8 KC.K η [.ref (KC.cls .NoAsks),.ref ζ6,.ref (KC.cls .NoPoint)]=some true
 q8:∀C,iN.contains C=true->XC KC.K η/\bj KC.K η "point"
 zD:FT KC.K
 aj:jq KC.K (KC.cls .Points)
 kq:um iN "KeyError" Gf
 cI:bj KC.K (KC.cls .Points) "held"
noncomputable abbrev uH:Stmt:=top 15
noncomputable abbrev zE:Stmt:=top 12
noncomputable abbrev zF:Stmt:=top 13
noncomputable abbrev zG:Stmt:=top 14
noncomputable abbrev q9:Stmt:=(L2.inClass εt 0)
noncomputable abbrev zH:Stmt:=(L2.inClass εt 2)
noncomputable abbrev zI:Stmt:=(L2.inClass εt 8)
noncomputable abbrev zJ:Stmt:=(L2.inClass εt 1)
noncomputable abbrev wy:Stmt:=top 37
noncomputable abbrev zK:Stmt:=top 33
noncomputable abbrev wz:Stmt:=(L2.inClass εt 6)
noncomputable abbrev wA:Stmt:=(L2.inClass εt 3)
noncomputable abbrev zL:Stmt:=top 21
noncomputable abbrev wC:Stmt:=top 22
noncomputable abbrev zM:Stmt:=top 23
noncomputable abbrev zN:Stmt:=top 26
noncomputable abbrev sP:Stmt:=top 27
noncomputable abbrev zP:Stmt:=top 28
noncomputable abbrev zQ:Stmt:=top 29
noncomputable abbrev wD:Stmt:=(L2.inClass εt 4)
noncomputable abbrev zR:Stmt:=top 31
noncomputable abbrev zS:Stmt:=top 18
noncomputable abbrev zT:Stmt:=top 19
noncomputable abbrev zU:Stmt:=top 20
noncomputable abbrev zV:Stmt:=top 32
noncomputable abbrev zW:Stmt:=top 34
noncomputable abbrev zX:Stmt:=top 42
noncomputable abbrev zY:Stmt:=top 36
noncomputable abbrev zZ:Stmt:=top 38
noncomputable abbrev z_:Stmt:=top 40
noncomputable abbrev wF:Stmt:=top 41
noncomputable abbrev Aa:Stmt:=top 39
noncomputable abbrev wG:Stmt:=top 43
noncomputable abbrev Ab:Stmt:=(L2.inClass εt 7)
noncomputable abbrev Ac:Stmt:=top 44
noncomputable abbrev uI:Stmt:=top 45
noncomputable def OP:Stmt->Expr
 |.Assign _ e _=>e
 |.Return (some e) _=>e
 |_=>.Constant .none 0 ⟨0,0,0,0⟩
abbrev OQ:Stmt:=(af q9).getD 0 (.Pass ⟨0,0,0,0⟩)
abbrev OR:Stmt:=(af q9).getD 1 (.Pass ⟨0,0,0,0⟩)
abbrev OS:Expr:=OP ((af q9).getD 2 (.Pass ⟨0,0,0,0⟩))
abbrev OT:Stmt:=(af sP).getD 0 (.Pass ⟨0,0,0,0⟩)
abbrev OU:Expr:=OP ((af sP).getD 1 (.Pass ⟨0,0,0,0⟩))
section
variable{P:Program}{w:World}{mg:M2}{base:Heap}{fa:Addr}{cdv:Value}{A:Around}{outer:δq}{s:Shared}{H:Hp}{E:XK}{k:Nat}{ios:zzd}
abbrev dQ(k:Nat)(A:Around)(s:Shared)(fa:Addr)(cdv:Value)(q:Str)(st:Stmt):Prop:=az k (A.deeper (PyProof.Rows.envOfC q γZ s.heap.objs.size fa cdv))
abbrev eS(P:Program)(w:World)(mg:M2)(base:Heap)(fa:Addr)(cdv:Value)(A:Around)(outer:δq)(s:Shared)(H:Hp)(E:XK)(N:v6)(q:Str)(st:Stmt):Cx:=(iY iZ P w KC.K mg base N q γZ fa cdv A outer s H E).qu
abbrev uJ(P:Program)(w:World)(mg:M2)(base:Heap)(fa:Addr)(cdv:Value)(A:Around)(outer:δq)(s:Shared)(H:Hp)(E:XK)(N:v6)(q:Str)(st:Stmt):Cx:=iY ηT P w KC.K mg base N q γZ fa cdv A outer s H E
variable(P)(w)(mg)(base)
abbrev ZL(k:Nat)(G:List D->Option Rx):Prop:=BO P w mg base "Points" k jR [.ax] .Points "held" G
abbrev ZM(k:Nat)(G:List D->Option Rt):Prop:=kg P w mg base .Points "all_moments" k o8 δL
abbrev ZN(k:Nat)(G:List D->Option Rt):Prop:=kg P w mg base .Points "has" k ["self","point"] δL
abbrev ZO(k:Nat)(G:List D->Option Rt):Prop:=kg P w mg base .Points "keys_at" k ln2 δL
abbrev ZP(k:Nat)(G:List D->Option Rt):Prop:=kg P w mg base .Points "less" k ["self","point"] δL
abbrev ZQ(k:Nat)(G:List D->Option Rt):Prop:=kg P w mg base .Points "moments_of" k wt δL
abbrev ZR(k:Nat)(G:List D->Option Rt):Prop:=kg P w mg base .Points "more" k sL δL
abbrev ZT(k:Nat)(G:List D->Option Rt):Prop:=kg P w mg base .Points "points" k o8 δL
abbrev ZU(k:Nat)(G:List D->Option Rt):Prop:=cc P w mg base "_law_asks" k ["_law_d","_law_most"] δL
abbrev ZV(k:Nat)(G:List D->Option Rt):Prop:=cc P w mg base "_law_bare" k ["_law_spots","_law_one","_law_other"] δL
abbrev ZW(k:Nat)(G:List D->Option Rt):Prop:=cc P w mg base "_law_caught" k Hu δL
abbrev ZX(k:Nat)(G:List D->Option Rt):Prop:=cc P w mg base "_law_closed" k ["_law_spots"] δL
abbrev ZZ(k:Nat)(G:List D->Option Rt):Prop:=cc P w mg base "_law_digits" k ["_law_cell","_law_turn","_law_sizes"] δL
abbrev Z0(k:Nat)(G:List D->Option Rt):Prop:=cc P w mg base "_law_drawn_set" k ["_law_asks_here","_law_digits_here"] δL
abbrev Z1(k:Nat)(G:List D->Option Rt):Prop:=cc P w mg base "_law_filled" k ["_law_spots"] δL
abbrev Z2(k:Nat)(G:List D->Option Rt):Prop:=cc P w mg base "_law_need_right" k Hv δL
abbrev Z3(k:Nat)(G:List D->Option Rt):Prop:=cc P w mg base "_law_refused_right" k Hw δL
abbrev Z4(k:Nat)(G:List D->Option Rt):Prop:=cc P w mg base "bare_pairs" k jR δL
abbrev Z5(k:Nat)(G:List D->Option Rt):Prop:=cc P w mg base "have_box" k zy δL
abbrev Z6(k:Nat)(G:List D->Option Rt):Prop:=cc P w mg base "in_box" k ["point","one","other"] δL
abbrev Z7(k:Nat)(G:List D->Option Rt):Prop:=cc P w mg base "in_order" k jR δL
abbrev Z8(k:Nat)(G:List D->Option Rt):Prop:=cc P w mg base "is_ask" k ["asks","point"] δL
abbrev Z9(k:Nat)(G:List D->Option Rt):Prop:=cc P w mg base "is_filled" k jR δL
abbrev Z_(k:Nat)(G:List D->Option Rt):Prop:=cc P w mg base "is_key" k ly δL
abbrev znn(k:Nat)(G:List D->Option Rt):Prop:=cc P w mg base "is_point" k ly δL
abbrev zjX(k:Nat)(G:List D->Option Rt):Prop:=cc P w mg base "later_bare" k ["rows","one"] δL
abbrev zhV(k:Nat)(G:List D->Option Rt):Prop:=cc P w mg base "look_at_asks" k ly δL
abbrev zgF(k:Nat)(G:List D->Option Rt):Prop:=cc P w mg base "look_at_points" k ly δL
abbrev zgM(k:Nat)(G:List D->Option Rx):Prop:=qf P w mg base "look_at_served" k ln10 (qP G)
abbrev zoC(k:Nat)(G:List D->Option Rt):Prop:=cc P w mg base "nearest" k zz δL
abbrev zpl(k:Nat)(G:List D->Option Rx):Prop:=qf P w mg base "need_of" k ["asks","points","point"] (qP G)
abbrev zh2(k:Nat)(G:List D->Option Rt):Prop:=cc P w mg base "needing_pair" k ["points","point"] δL
abbrev zli(k:Nat)(G:List D->Option Rx):Prop:=qf P w mg base "points_of" k ["asks"] (qg G)
abbrev zry(k:Nat)(G:List D->Option Rt):Prop:=cc P w mg base "serves" k ln10 δL
abbrev zqH(k:Nat)(G:List D->Option Rt):Prop:=cc P w mg base "thirds" k zA δL
variable{P}{w}{mg}{base}
variable{kr bY fH c7 eT cm eU dE gC gD eV eW eX c8 eY cJ bZ fJ hU ku hV kA gE kC hW fL dX c9 c_ i9 i_ dY gF kD kE:Nat}
variable(fP:ZL P w mg base kr qY)(fS:kr+1<=k)
variable(b5:ZM P w mg base bY vR)(b6:bY<=k)
variable(dv:ZN P w mg base fH mD)(dw:fH<=k)
variable(dc:ZO P w mg base c7 sH)(df:c7<=k)
variable(eZ:ZP P w mg base eT uq)(e_:eT<=k)
variable(eM:ZQ P w mg base cm ur)(eO:cm<=k)
variable(iO:ZR P w mg base eU v7)(iP:eU<=k)
variable(aQ:ZT P w mg base dE qk)(aR:dE<=k)
variable(kF:ZU P w mg base gC sF)(kG:gC<=k)
variable(cK:ZV P w mg base gD o5)(cL:gD<=k)
variable(cP:ZW P w mg base eV o4)(cQ:eV<=k)
variable(iQ:ZX P w mg base eW yU)(iR:eW<=k)
variable(fb:ZZ P w mg base eX ux)(fc:eX<=k)
variable(gh:Z0 P w mg base c8 v3)(gi:c8<=k)
variable(fg:Z1 P w mg base eY v5)(fh:eY<=k)
variable(fT:Z2 P w mg base cJ o6)(fU:cJ<=k)
variable(dZ:Z3 P w mg base bZ yY)(d5:bZ<=k)
variable(jE:Z4 P w mg base fJ yN)(jF:fJ<=k)
variable(lV:Z5 P w mg base hU yR)(lW:hU<=k)
variable(pq:Z6 P w mg base ku vW)(pz:ku<=k)
variable(hZ:Z7 P w mg base hV vQ)(h_:hV<=k)
variable(pB:Z8 P w mg base kA sG)(pC:kA<=k)
variable(kH:Z9 P w mg base gE yO)(kJ:gE<=k)
variable(d6:Z_ P w mg base kC qj)(d7:kC<=k)
variable(dz:znn P w mg base hW nq)(dA:hW<=k)
variable(jG:zjX P w mg base fL vU)(jH:fL<=k)
variable(ib:zhV P w mg base dX yP)(ic:dX<=k)
variable(dg:zgF P w mg base c9 uo)(dh:c9<=k)
variable(gj:zgM P w mg base c_ nr)(gk:c_<=k)
variable(ja:zoC P w mg base i9 uu)(jb:i9<=k)
variable(jc:zpl P w mg base i_ iD)(jd:i_<=k)
variable(ie:zh2 P w mg base dY uv)(ig:dY<=k)
variable(kK:zli P w mg base gF yQ)(kL:gF<=k)
variable(pE:zry P w mg base kD vV)(pF:kD<=k)
variable(pG:zqH P w mg base kE vX)(pH:kE<=k)
theorem zlK:ag jR jR (aa uH):=dP
def zlH(M:Nm mg)  (hr:dQ k A s fa cdv "in_order" uH) :
 b7 (eS P w mg base fa cdv A outer s H E jR "in_order" uH) EN ios (af uH) (Gg ):=
 (aV (cp (vy rfl (oV (Nc:=wu) (own:=2) (fr:=[]) (sc:=aa uH) (N:=jR) rfl rfl (by decide +kernel)) (by decide) (fB (V1 M.cq rfl hr rfl (oV (Nc:=wx) (own:=2) (fr:=[]) (sc:=aa uH) (N:=jR) rfl rfl (by decide +kernel)) (by decide) (fB γA) uj (λ_ _ _ _ _ _=>(jo rfl (dB (b9 (i:=0) (show(wx:v6).Nodup by decide +kernel) rfl γt) (dB (b9 (i:=1) (show(wx:v6).Nodup by decide +kernel) rfl γt) jn)))) δ2 uk (λ_ _ _ _ _ _=>m7) (λ_ _ _ _ _ _=>ηB))) uj (λ_ _ _ _ _ _=>(jo rfl (dB (b9 (i:=0) (show(wu:v6).Nodup by decide +kernel) rfl γt) (dB (b9 (i:=1) (show(wu:v6).Nodup by decide +kernel) rfl γt) jn)))) δ2 uk (λ_ _ _ _ _ _=>m7) (λ_ _ _ _ _ _=>ηB))))
theorem zoI:ag ly ly (aa zE):=dP
def zoK(M:Nm mg)  (hr:dQ k A s fa cdv "is_key" zE) :
 b7 (eS P w mg base fa cdv A outer s H E ly "is_key" zE) EN ios (af zE) (Gh ):=
 (aV (cp (mh (vT .int M.aA M.o9 γA) (mh (KA (vT .bool M.aA M.uG γA)) (qG (xw kY kY k6 k6 aD γA (yb M.g_ rfl)))))))
theorem zlp:ag ly ly (aa zF):=dP
def zlo(M:Nm mg)  (hr:dQ k A s fa cdv "is_point" zF) :
 b7 (eS P w mg base fa cdv A outer s H E ly "is_point" zF) EN ios (af zF) (Gi ):=
 (aV (cp (mh (vT .tuple M.aA M.jD γA) (mh (mT ε6 k5 γ0 aD δr) (mh (cY d6 θo rfl (ZS εC aq)) (qG (cY d6 θo rfl (ZS εC aq))))))))
theorem bH:ag ["thing","number","point"] ly (aa zG):=dP
def zfX(M:Nm mg)  (hr:dQ k A s fa cdv "look_at_points" zG) :
 b7 (eS P w mg base fa cdv A outer s H E ["thing","number","point"] "look_at_points" zG) EN ios (af zG) (Gk ):=
 (aX (eh (lL (p9 (iI (gy (Wf (λ_ ha=>rD Wc rfl M.aA (by decide +kernel) (jU ha (jU (Jp (jU (wV (v:=.ty "list") (u:=.type "list") rfl M.g9 (by decide +kernel) rfl) (jU (wV (v:=.ty "tuple") (u:=.type "tuple") rfl M.jD (by decide +kernel) rfl) oh))) oh))) γA))) (rN (dM uY vd γ0 (yb M.eR rfl) δr))))
  (aV tT)
  eI)
  (aV (vF (n:=3) (vt (λ_ ha=>u9 rfl M.bD ha) γk) δ2
  (aV (eh (iI (gy (cY dz (hr.mono dA) rfl γS)))
  (aV tT)
  eI)) qaX (jo rfl (dB (b9 (i:=1) bH.nd rfl γt) (dB (b9 (i:=2) bH.nd rfl γt) jn))))))
theorem je:ag sL sL (aa q9):=dP
def zo3(M:Nm mg)  (hr:dQ k A s fa cdv "Points.__init__" q9) (hk2:2<=k) :
 VJ 0 (uJ P w mg base fa cdv A outer s H E sL "Points.__init__" q9) (λ_=>E) ios OQ (Gm )/\VJ 0 (uJ P w mg base fa cdv A outer s H E sL "Points.__init__" q9) (λ_=>E) ios OR (Gn )/\VE (uJ P w mg base fa cdv A outer s H E sL "Points.__init__" q9) (λ_=>E) ios OS (Gq ):=
 ⟨(V8 (dM C4 D2 γx rM δr) (V6 (V9 (i:=1) (by decide) je.nd rfl γt θp)) V5),
   (V7 (cY dg (hr.mono dh) rfl δe)),
   (cY hZ (hr.mono h_) rfl δe)⟩
theorem ziX:ag ["self","point"] ["self","point"] (aa zH):=dP
def ziQ(M:Nm mg)  (hr:dQ k A s fa cdv "Points.has" zH) :
 b7 (eS P w mg base fa cdv A outer s H E ["self","point"] "Points.has" zH) EN ios (af zH) (B6 ):=
 (aV (cp (mh (cY dz (hr.mono dA) rfl δe) (qG (mT (FH hr) FJ γx δ1 rfl)))))
theorem ziB:ag ["self","point"] ["self","point"] (aa zI):=dP
def ziq(M:Nm mg)  (hr:dQ k A s fa cdv "Points.less" zI) :
 b7 (eS P w mg base fa cdv A outer s H E ["self","point"] "Points.less" zI) EN ios (af zI) (Gr ):=
 (aX (eh (iI (gy (qU M.aj dv (hr.mono dw) γA δe)))
  (aV tT)
  eI)
  (aV (cp (VY.ve (BP ye fP (hr.mono fS) rfl (ZS (nj (fB δ1) (oS (dM (rR hr) rT γA γx δr)) γA) aq))))))
theorem zg1:ag o8 o8 (aa zJ):=dP
def zgz(M:Nm mg)  (hr:dQ k A s fa cdv "Points.points" zJ) :
 b7 (eS P w mg base fa cdv A outer s H E o8 "Points.points" zJ) EN ios (af zJ) (Gs ):=
 (aV (cp (vh (λ_ ha=>uZ Dh rfl M.g9 (by decide +kernel) ha) D5 (ZS δ1 aq))))
theorem a_:ag Hx ["_law_d","_law_most"] (aa wy):=dP
def zkN(M:Nm mg)  (hr:dQ k A s fa cdv "_law_asks" wy) :
 b7 (eS P w mg base fa cdv A outer s H E Hx "_law_asks" wy) EN ios (af wy) (yM ):=
 (aX (vS 2 a_.nd (bG (gW (ZS aD (ZS aD (ZS aD (ZS aD (ZS aD ζ4)))))) εC))
  (aX (vS 3 a_.nd (cM pT qa εC (cM C2 DZ aD δ5)))
  (aX (vS 4 a_.nd (cM iK iL aD (cM pT qa εC γx)))
  (aX (Le (i:=5) a_.nd rfl γt rfl (oV (Nc:=OG) (own:=1) (fr:=[3,0,2]) (sc:=aa wy) (N:=Hx) rfl rfl (by decide +kernel)) (by decide) (Uy (λ_ ha=>Q8 rfl M.jC ha) (ZS δ8 aq)) (AS (by decide)) (λ_ _ _ _ _ _=>(b9 (i:=0) (show(OG:v6).Nodup by decide +kernel) rfl γt)) (mq (by decide)) (vx (by decide)) (λ_ _ _ _ _ _=>m7) (λ_ _ _ _ _ _=>(cM iK iL γx (cM pT qa (bG δ5 (cM iK iL aD γA)) δJ))))
  (aX (eh (dM ε6 k5 εC aD δr)
  (aV (vS 5 a_.nd θ1))
  eI)
  (aX (eh (dM ε6 k5 εC aD δr)
  (aV (vS 5 a_.nd (cM iK iL (K0 θ1 mZ mZ Ay) (K0 θ1 (lM aD) mZ Ay))))
  eI)
  (aV (cp η3))))))))
theorem gm:ag ["asks","point","key","moment"] ["asks","point"] (aa zK):=dP
def zpx(M:Nm mg)  (hr:dQ k A s fa cdv "is_ask" zK) :
 b7 (eS P w mg base fa cdv A outer s H E ["asks","point","key","moment"] "is_ask" zK) EN ios (af zK) (Gu ):=
 (aX (vp (n:=4) γx δ2 (λ_ h=>uU h (jo rfl (dB (b9 (i:=2) gm.nd rfl γt) (dB (b9 (i:=3) gm.nd rfl γt) jn)))))
  (aV (cp (mT ε6 k5 (bG γA δJ) δ5 δr))))
theorem zex:ag o8 o8 (aa wz):=dP
def zew(M:Nm mg)  (hr:dQ k A s fa cdv "Points.all_moments" wz) :
 b7 (eS P w mg base fa cdv A outer s H E o8 "Points.all_moments" wz) EN ios (af wz) (Gv ):=
 (aV (cp (V2 M.cq rfl hr rfl (oV (Nc:=wx) (own:=2) (fr:=[]) (sc:=aa wz) (N:=o8) rfl rfl (by decide +kernel)) (by decide) (fB δ1) uj (λ_ _ _ _ _ _=>(jo rfl (dB (b9 (i:=0) (show(wx:v6).Nodup by decide +kernel) rfl γt) (dB (b9 (i:=1) (show(wx:v6).Nodup by decide +kernel) rfl γt) jn)))) δ2 uk (λ_ _ _ _ _ _=>m7) (λ_ _ _ _ _ _=>γx))))
theorem zf4:ag ln2 ln2 (aa wA):=dP
def zf8(M:Nm mg)  (hr:dQ k A s fa cdv "Points.keys_at" wA) :
 b7 (eS P w mg base fa cdv A outer s H E ln2 "Points.keys_at" wA) EN ios (af wA) (B7 ):=
 (aX (eh (iI (gy (cY d6 θo rfl δe)))
  (aV (cp θp))
  eI)
  (aV (cp (vy rfl (oV (Nc:=Hy) (own:=2) (fr:=[1]) (sc:=aa wA) (N:=ln2) rfl rfl (by decide +kernel)) (by decide) (fB δ1) uj (λ_ _ _ _ _ _=>(jo rfl (dB (b9 (i:=0) (show(Hy:v6).Nodup by decide +kernel) rfl γt) (dB (b9 (i:=1) (show(Hy:v6).Nodup by decide +kernel) rfl γt) jn)))) δ2 uk (λ_ _ _ _ _ _=>oS (dM ε6 k5 γx δ5 δr)) (λ_ _ _ _ _ _=>γA)))))
theorem av:ag OH ["rows","one"] (aa zL):=dP
def ziV(M:Nm mg)  (hr:dQ k A s fa cdv "later_bare" zL) :
 b7 (eS P w mg base fa cdv A outer s H E OH "later_bare" zL) EN ios (af zL) (Gw ):=
 (aX (vp (n:=11) γx δ2 (λ_ h=>uU h (jo rfl (dB (b9 (i:=2) av.nd rfl γt) (dB (b9 (i:=3) av.nd rfl γt) jn)))))
  (aX (vp (n:=11) (gz (ZS (A6 aD) (ZS (cM iK iL (yb M.g_ rfl) aD) aq))) δ2 (λ_ h=>uU h (jo rfl (dB (b9 (i:=4) av.nd rfl γt) (dB (b9 (i:=5) av.nd rfl γt) jn)))))
  (aX (vS 6 av.nd θp)
  (aX (vF (n:=11) (fB γA) δ2
  (aX (eh (dM pU p_ (vn 7) δJ δr)
  (aV Us)
  eI)
  (aX (eh (lL (rO (dM uY vd (vn 7) δJ δr) (tL (dM JN KP δ5 (vn 8) rfl))))
  (aV Ur)
  eI)
  (aX (vS 9 av.nd (oJ ζQ (lM (A6 aD)) mZ))
  (aX (vS 10 av.nd (oJ ζQ mZ (lM aD)))
  (aX (eh (dM uY vd (vn 7) δJ δr)
  (aV (r_ (A9 (λ_ ha=>AH PySem.F.plainAttrs_list PySem.F.slot_list_extend PySem.F.type_list_extend Sn (pv 6) ha) W8 (ZS (nj (fB (cM iK iL (vn 9) (vn 10))) m7 (gz (ZS γA δe))) aq))))
  eI)
  (aX (vS 4 av.nd (W6 rfl rfl M.km (vn 9) δ8))
  (aV (vS 5 av.nd (W7 rfl rfl M.mI (vn 10) η3))))))))) qaX (jo rfl (dB (b9 (i:=7) av.nd rfl γt) (dB (b9 (i:=8) av.nd rfl γt) jn))))
  (aV (cp ηy))))))
theorem fj:ag ["points","rows"] jR (aa wC):=dP
def zi2(M:Nm mg)  (hr:dQ k A s fa cdv "bare_pairs" wC) :
 b7 (eS P w mg base fa cdv A outer s H E ["points","rows"] "bare_pairs" wC) EN ios (af wC) (Gx ):=
 (aX (vS 1 fj.nd (nj (fB (sD M.aj b5 (hr.mono b6) γA)) m7 (gz (ZS γA (ZS (qU M.aj dc (hr.mono df) γx γk) aq)))))
  (aV (cp (WV (i1:=1) (own0:=1) rfl (oV (Nc:=Hz) (own:=2) (fr:=[1]) (sc:=aa wC) (N:=["points","rows"]) rfl rfl (by decide +kernel)) (by decide) (by decide) (by decide) (fB (sD M.aj aQ ηp γA)) (AS (by decide)) (λ_ _ _ _ _ _=>(b9 (i:=0) (show(Hz:v6).Nodup by decide +kernel) rfl γt)) (mq (by decide)) (vx (by decide)) (λ_ _ _ _ _ _=>m7) (λ_ _ _ _ _ _=>(fB (cY jG (hr.mono jH) rfl (ZS δ5 γk)))) (λ_ _ _ _ _ _=>(b9 (i:=1) (show(Hz:v6).Nodup by decide +kernel) rfl γt)) (λ_ _ _ _ _ _=>m7) (λ_ _ _ _ _ _=>(gz (ZS γA δe)))))))
theorem zkx:ag jR jR (aa zM):=dP
def zkt(M:Nm mg)  (hr:dQ k A s fa cdv "is_filled" zM) :
 b7 (eS P w mg base fa cdv A outer s H E jR "is_filled" zM) EN ios (af zM) (Gy ):=
 (aV (cp (mT ε6 k5 (cY jE (hr.mono jF) rfl γk) θp δr)))
theorem cj:ag ["thing","number","key"] ly (aa zN):=dP
def zhr(M:Nm mg)  (hr:dQ k A s fa cdv "look_at_asks" zN) :
 b7 (eS P w mg base fa cdv A outer s H E ["thing","number","key"] "look_at_asks" zN) EN ios (af zN) (Gz ):=
 (aX (eh (lL (p9 (iI (gy (vT .list M.aA M.g9 γA))) (rN (iI (xx kY kY k6 k6 aD γ0 (yb M.kn rfl))))))
  (aV tT)
  eI)
  (aV (vF (n:=3) (vt (λ_ ha=>u9 rfl M.bD ha) γk) δ2
  (aV (eh (iI (gy (cY d6 θo rfl γS)))
  (aV tT)
  eI)) qaX (jo rfl (dB (b9 (i:=1) cj.nd rfl γt) (dB (b9 (i:=2) cj.nd rfl γt) jn))))))
theorem zkw:ag ["asks"] ["asks"] (aa sP):=dP
def zjP(M:Nm mg)  (hr:dQ k A s fa cdv "points_of" sP) (hk2:2<=k) :
 VS (uJ P w mg base fa cdv A outer s H E ["asks"] "points_of" sP) (λ_=>E) ios OT (GA )/\VY (uJ P w mg base fa cdv A outer s H E ["asks"] "points_of" sP) (λ_=>E) ios OU qY (GB ):=
 ⟨(r_ (cY ib (hr.mono ic) rfl γk)),
   (BP AK fP (hr.mono fS) rfl (ZS (vy rfl (oV (Nc:=wu) (own:=2) (fr:=[]) (sc:=aa sP) (N:=["asks"]) rfl rfl (by decide +kernel)) (by decide) (vt (λ_ ha=>u9 rfl M.bD ha) γk) uj (λ_ _ _ _ _ _=>(jo rfl (dB (b9 (i:=0) (show(wu:v6).Nodup by decide +kernel) rfl γt) (dB (b9 (i:=1) (show(wu:v6).Nodup by decide +kernel) rfl γt) jn)))) δ2 uk (λ_ _ _ _ _ _=>m7) (λ_ _ _ _ _ _=>ηB)) aq))⟩
theorem jf:ag ["asks","points","asked"] ln10 (aa zP):=dP
def zps(M:Nm mg)  (hr:dQ k A s fa cdv "serves" zP) :
 b7 (eS P w mg base fa cdv A outer s H E ["asks","points","asked"] "serves" zP) EN ios (af zP) (B8 ):=
 (aX (vS 2 jf.nd (sD M.aj aQ ηp (VY.ve (Wo ye kK (hr.mono kL) rfl γk))))
  (aX (eh (iI (gy (vB (Kr rfl) KU M.sM (ZS (nj (fB δ5) m7 (qU M.aj dv (hr.mono dw) γx γk)) aq))))
  (aV ζr)
  eI)
  (aV (cp (mh (mT pU p_ (vB (TR rfl) UR M.km (ZS (sD M.aj b5 (hr.mono b6) γx) aq)) γ0 δr) (qG (cY kH (hr.mono kJ) rfl δe)))))))
theorem zge:ag ln10 ln10 (aa zQ):=dP
def zfW(M:Nm mg)  (hr:dQ k A s fa cdv "look_at_served" zQ) (hk2:2<=k) :
 b7 (uJ P w mg base fa cdv A outer s H E ln10 "look_at_served" zQ) (λ_=>E) ios (af zQ) (B9 ):=
 (aV (eh (iI (gy (cY pE (hr.mono pF) rfl (ZS γA δe))))
  (aV (Vi AK M.ko M.cH M.cG (ZS va aq)))
  eI))
theorem zeX:ag wt wt (aa wD):=dP
def zeW(M:Nm mg)  (hr:dQ k A s fa cdv "Points.moments_of" wD) :
 b7 (eS P w mg base fa cdv A outer s H E wt "Points.moments_of" wD) EN ios (af wD) (B_ ):=
 (aX (eh (iI (gy (cY d6 θo rfl δe)))
  (aV (cp θp))
  eI)
  (aV (cp (vy rfl (oV (Nc:=HA) (own:=2) (fr:=[1]) (sc:=aa wD) (N:=wt) rfl rfl (by decide +kernel)) (by decide) (fB δ1) uj (λ_ _ _ _ _ _=>(jo rfl (dB (b9 (i:=0) (show(HA:v6).Nodup by decide +kernel) rfl γt) (dB (b9 (i:=1) (show(HA:v6).Nodup by decide +kernel) rfl γt) jn)))) δ2 uk (λ_ _ _ _ _ _=>oS (dM ε6 k5 γA δ5 δr)) (λ_ _ _ _ _ _=>γx)))))
theorem zmw:ag zz zz (aa zR):=dP
def zm6(M:Nm mg)  (hr:dQ k A s fa cdv "nearest" zR) :
 b7 (eS P w mg base fa cdv A outer s H E zz "nearest" zR) EN ios (af zR) (GC ):=
 (aV (cp (cM iK iL (oJ (nj (fB γA) (oS (dM pU p_ γA γx δr)) γA) (lM (A6 aD)) mZ) (oJ (nj (fB γA) (oS (dM uY vd γA γx δr)) γA) mZ (lM aD)))))
theorem zlJ:ag zy zy (aa zS):=dP
def zk8(M:Nm mg)  (hr:dQ k A s fa cdv "have_box" zS) :
 b7 (eS P w mg base fa cdv A outer s H E zy "have_box" zS) EN ios (af zS) (GD ):=
 (aV (cp (mh (cY dz (hr.mono dA) rfl γk) (mh (cY dz (hr.mono dA) rfl δe) (mh (mT (rR hr) rT εC ε0 δr) (qG (mT (rR hr) rT εC ε0 δr)))))))
theorem gn:ag ["point","one","other","key","moment"] ["point","one","other"] (aa zT):=dP
def zoD(M:Nm mg)  (hr:dQ k A s fa cdv "in_box" zT) :
 b7 (eS P w mg base fa cdv A outer s H E ["point","one","other","key","moment"] "in_box" zT) EN ios (af zT) (GF ):=
 (aX (vp (n:=5) γA δ2 (λ_ h=>uU h (jo rfl (dB (b9 (i:=3) gn.nd rfl γt) (dB (b9 (i:=4) gn.nd rfl γt) jn)))))
  (aV (cp (mh (Kz (xw kY kY k6 k6 ε0 δJ ζt) (qG (xw kY kY k6 k6 ζt δJ ε0))) (qG (Kz (xw kY kY k6 k6 ε0 δ8 ζt) (qG (xw kY kY k6 k6 ζt δ8 ε0))))))))
theorem zpb:ag zA zA (aa zU):=dP
def zpa(M:Nm mg)  (hr:dQ k A s fa cdv "thirds" zU) :
 b7 (eS P w mg base fa cdv A outer s H E zA "thirds" zU) EN ios (af zU) (GG ):=
 (aX (eh (iI (gy (cY lV (hr.mono lW) rfl ηt)))
  (aV tT)
  eI)
  (aV (cp (nj (fB (sD M.aj aQ ηp γA)) (oS (lL (rO (gy (cY pq (hr.mono pz) rfl (ZS γA ηt))) (tL (dM (MO hr) MP γA (gz ηt) rfl))))) γA))))
theorem aS:ag OI ["points","point"] (aa zV):=dP
def zhn(M:Nm mg)  (hr:dQ k A s fa cdv "needing_pair" zV) :
 b7 (eS P w mg base fa cdv A outer s H E OI "needing_pair" zV) EN ios (af zV) (GH ):=
 (aX (vp (n:=7) γx δ2 (λ_ h=>uU h (jo rfl (dB (b9 (i:=2) aS.nd rfl γt) (dB (b9 (i:=3) aS.nd rfl γt) jn)))))
  (aX (vF (n:=7) (fB (cY ja (hr.mono jb) rfl (ZS (qU M.aj dc (hr.mono df) γA ζ3) γS))) (mq (by decide))
  (aV (vF (n:=7) (fB (cY ja (hr.mono jb) rfl (ZS (qU M.aj eM (hr.mono eO) γA γS) ζ3))) (mq (by decide))
  (aX (vS 6 aS.nd (gz (ZS (gz (ZS δ8 ζ3)) (ZS (gz (ZS δ5 εq)) aq))))
  (aV (eh (dM ε6 k5 (cY pG (hr.mono pH) rfl (ZS γA (ZS (bG ηy aD) (ZS (bG ηy aD) aq)))) (gW δe) δr)
  (aV (cp (KD (dM pU p_ δJ η3 δr) ηy (Xm ηy UQ))))
  eI))) qaX (b9 (i:=5) aS.nd rfl γt))) qaX (b9 (i:=4) aS.nd rfl γt))
  (aV (cp rM))))
theorem ij:ag ["asks","points","point","pair"] ["asks","points","point"] (aa zW):=dP
def zmt(M:Nm mg)  (hr:dQ k A s fa cdv "need_of" zW) (hk2:2<=k) :
 b7 (uJ P w mg base fa cdv A outer s H E ["asks","points","point","pair"] "need_of" zW) (λ_=>E) ios (af zW) (uw ):=
 (aX (r_ (E9 AK gj (hr.mono gk) rfl (ZS γA δe)))
  (aX (eh (iI (gy (qU M.aj dv (hr.mono dw) γx γS)))
  (aV (Vj AK (M.nu _ _ _) hr (by omega) M.gg γS))
  eI)
  (aX (eh (gy (cY pB (hr.mono pC) rfl (ZS γA γS)))
  (aV (cp (gz (ZS va aq))))
  eI)
  (aX (vS 3 ij.nd (cY ie (hr.mono ig) rfl ηt))
  (aV (cp (KD (dM C4 D2 δJ rM δr) rM (gz (ZS va (ZS ηX (ZS ηX aq)))))))))))
theorem bI:ag OJ Hu (aa zX):=dP
def zhH(M:Nm mg)  (hr:dQ k A s fa cdv "_law_caught" zX) :
 b7 (eS P w mg base fa cdv A outer s H E OJ "_law_caught" zX) EN ios (af zX) (Cb ):=
 (aX (vS 3 bI.nd rM)
  (aX (Vn (i:=4) bI.nd rfl rfl (DB rfl M.ph (DB rfl M.cG (DB rfl M.gg To))) (by simp) M.cw (λE0 pn0 EE0 ok =>
  (aV (r_ (E9 ok jc (hr.mono jd) rfl (ZS γA ηt))))) (λa0 =>
  (aV (vS 3 bI.nd δ8))))
  (aV (cp δJ))))
theorem aF:ag OK ["_law_cell","_law_turn","_law_sizes"] (aa zY):=dP
def ziI(M:Nm mg)  (hr:dQ k A s fa cdv "_law_digits" zY) :
 b7 (eS P w mg base fa cdv A outer s H E OK "_law_digits" zY) EN ios (af zY) (GI ):=
 (aX (vS 3 aF.nd (vB Rq Ug M.zB γk))
  (aX (vS 4 aF.nd (mT Rh Ub δJ (cM Ja KL aD aD) δr))
  (aX (vS 5 aF.nd (cM iK iL (cM pT qa δJ aD) (cM C3 D0 aD γx)))
  (aX (vS 6 aF.nd θp)
  (aX (vF (n:=9) (vt (λ_ ha=>u9 rfl M.bD ha) γS) δ2
  (aV (eh (lL (rO (gy δ8) (tL (dM uY vd δJ aD δr))))
  (aX (r_ (A9 (λ_ ha=>AH PySem.F.plainAttrs_list PySem.F.slot_list_append PySem.F.type_list_append AI (pv 6) ha) Eb (ZS (cM pT qa δJ (vn 8)) aq)))
  (aV (vS 3 aF.nd (cM I_ KJ δJ (vn 8)))))
  (aX (vS 5 aF.nd (cM pT qa (cM Ja KL (cM iK iL η3 (cM C3 D0 aD (cM iK iL (vn 7) aD))) aD) aD))
  (aV (r_ (A9 (λ_ ha=>AH PySem.F.plainAttrs_list PySem.F.slot_list_append PySem.F.type_list_append AI (pv 6) ha) Eb (ZS (cM pT qa (cM I_ KJ η3 aD) (vn 8)) aq))))))) qaX (jo rfl (dB (b9 (i:=7) aF.nd rfl γt) (dB (b9 (i:=8) aF.nd rfl γt) jn))))
  (aV (cp ηy)))))))
theorem bJ:ag OL ["_law_spots","_law_one","_law_other"] (aa zZ):=dP
def zkG(M:Nm mg)  (hr:dQ k A s fa cdv "_law_bare" zZ) :
 b7 (eS P w mg base fa cdv A outer s H E OL "_law_bare" zZ) EN ios (af zZ) (yS ):=
 (aX (eh (lL (p9 (dM ε6 k5 ε0 ζt δr) (rN (dM ε6 k5 ε0 ζt δr))))
  (aV ζr)
  eI)
  (aX (LU (i:=3) (j:=4) rfl bJ.nd rfl rfl (by decide) rfl rfl γ9 rfl)
  (aX (LU (i:=5) (j:=6) rfl bJ.nd rfl rfl (by decide) rfl rfl γ9 rfl)
  (aX (vF (n:=9) (fB γA) δ2
  (aV (eh (lL (rO (xx kY kY k6 k6 δJ (vn 7) δ8) (rO (xx kY kY k6 k6 η3 (vn 8) ηy) (tL (dM (MO hr) MP (gz (ZS (vn 7) (ZS (vn 8) aq))) (gz ηt) rfl)))))
  (aV ζr)
  eI)) qaX (jo rfl (dB (b9 (i:=7) bJ.nd rfl γt) (dB (b9 (i:=8) bJ.nd rfl γt) jn))))
  (aV ζr)))))
theorem aG:ag OM ["_law_spots"] (aa z_):=dP
def zhN(M:Nm mg)  (hr:dQ k A s fa cdv "_law_closed" z_) :
 b7 (eS P w mg base fa cdv A outer s H E OM "_law_closed" z_) EN ios (af z_) (GJ ):=
 (aX (vS 1 aG.nd (vh (λ_ ha=>uZ Dh rfl M.g9 (by decide +kernel) ha) D5 γk))
  (aX (vS 2 aG.nd aD)
  (aX (UE (n:=yL) (dM pU p_ δ5 (vB mi mj M.cD δe) δr)
  (aX (vS 3 aG.nd (bG γx δ5))
  (aX (vS 4 aG.nd θp)
  (aX (vF (n:=6) (fB (oJ γx mZ (lM δ5))) (mq (by decide))
  (aV (eh (lL (rO (dM ε6 k5 δ8 θp δr) (tL (gy (cY cK (hr.mono cL) rfl (ZS γx (ZS δJ εq)))))))
  (aV (vS 4 aG.nd (gW (ZS (gz (ZS ηX (ZS (bG η3 aD) aq))) aq))))
  eI)) qaX (b9 (i:=5) aG.nd rfl γt))
  (aX (vS 1 aG.nd (cM iK iL γx (nj (fB δ8) ιs γA)))
  (aV (vS 2 aG.nd (cM iK iL δ5 (vh (λ_ ha=>uZ Jj rfl M.o9 (by decide +kernel) ha) KS (ZS (mT ε6 k5 δ8 θp δr) aq))))))))))
  (aV (cp γx)))))
theorem aU:ag HB ["_law_asks_here","_law_digits_here"] (aa wF):=dP
def zfY(M:Nm mg)  (hr:dQ k A s fa cdv "_law_drawn_set" wF) :
 b7 (eS P w mg base fa cdv A outer s H E HB "_law_drawn_set" wF) EN ios (af wF) (GK ):=
 (aX (vS 2 aU.nd (vy rfl (oV (Nc:=HC) (own:=2) (fr:=[]) (sc:=aa wF) (N:=HB) rfl rfl (by decide +kernel)) (by decide) (vt (λ_ ha=>u9 rfl M.bD ha) γk) uj (λ_ _ _ _ _ _=>(jo rfl (dB (b9 (i:=0) (show(HC:v6).Nodup by decide +kernel) rfl γt) (dB (b9 (i:=1) (show(HC:v6).Nodup by decide +kernel) rfl γt) jn)))) δ2 uk (λ_ _ _ _ _ _=>m7) (λ_ _ _ _ _ _=>ηB)))
  (aX (vS 3 aU.nd θp)
  (aX (vF (n:=6) (K6 (λ_ ha=>Kv rfl M.jC ha) (ZS aD (ZS (cM C2 DZ (vB mi mj M.cD δe) aD) δU))) (mq (by decide))
  (aX (vS 5 aU.nd (bG (gW (ZS (bG γA (cM pT qa (bG γx δ8) γ0)) (ZS (bG γx δ8) aq))) (vh (λ_ ha=>uZ Jj rfl M.o9 (by decide +kernel) ha) KS (ZS (mT ε6 k5 (cM pT qa (bG γx δ8) aD) aD δr) aq))))
  (aV (r_ (A9 (λ_ ha=>AH PySem.F.plainAttrs_list PySem.F.slot_list_append PySem.F.type_list_append AI (pv 3) ha) Eb (ZS (gz (ZS η3 (ZS (cM pT qa (bG γx (cM iK iL δ8 aD)) γ0) aq))) aq))))) qaX (b9 (i:=4) aU.nd rfl γt))
  (aV (cp (cY iQ (hr.mono iR) rfl (ZS (cM iK iL δ5 (nj (fB (MH hr M.cq rfl M.sO rfl rfl ζ3)) ιs γA)) aq)))))))
theorem cx:ag ["_law_spots","_law_k","_law_one"] ["_law_spots"] (aa Aa):=dP
def zh0(M:Nm mg)  (hr:dQ k A s fa cdv "_law_filled" Aa) :
 b7 (eS P w mg base fa cdv A outer s H E ["_law_spots","_law_k","_law_one"] "_law_filled" Aa) EN ios (af Aa) (GL ):=
 (aX (vF (n:=3) (vt (λ_ ha=>u9 rfl M.bD ha) γk) δ2
  (aV (eh (gy (vB (TL rfl) Uh M.zC (ZS (nj (fB (oJ γA mZ (lM γx))) m7 (cY cK (hr.mono cL) rfl (ZS γx (ZS δ5 γk)))) aq)))
  (aV ζr)
  eI)) qaX (jo rfl (dB (b9 (i:=1) cx.nd rfl γt) (dB (b9 (i:=2) cx.nd rfl γt) jn))))
  (aV ζr))
theorem aO:ag HD Hv (aa wG):=dP
def zfF(M:Nm mg)  (hr:dQ k A s fa cdv "_law_need_right" wG) :
 b7 (eS P w mg base fa cdv A outer s H E HD "_law_need_right" wG) EN ios (af wG) (yW ):=
 (aX (vS 4 aO.nd (E9 ye jc (hr.mono jd) rfl (ZS γA (ZS δ5 ζ3))))
  (aX (eh (lL (rO (dM pU p_ ηX γ0 δr) (tL (dM ε6 k5 (bG γA ηX) ηX δr))))
  (aV (cp (mT ε6 k5 δ8 (gz (ZS va aq)) δr)))
  eI)
  (aX (Le (i:=5) aO.nd rfl γt rfl (oV (Nc:=["_law_spot","_law_point"]) (own:=1) (fr:=[3]) (sc:=aa wG) (N:=HD) rfl rfl (by decide +kernel)) (by decide) (fB γx) (AS (by decide)) (λ_ _ _ _ _ _=>(b9 (i:=0) (show(["_law_spot","_law_point"]:v6).Nodup by decide +kernel) rfl γt)) (mq (by decide)) (vx (by decide)) (λ_ _ _ _ _ _=>oS (dM (rR hr) rT γA γx δr)) (λ_ _ _ _ _ _=>γA))
  (aX (eh (dM C4 D2 δ8 rM δr)
  (aV (cp (cY fg (hr.mono fh) rfl εq)))
  eI)
  (aX (eh (lL (p9 (iI (gy (vT .tuple M.aA M.jD δ8))) (p9 (dM (rR hr) rT (vB mi mj M.cD (ZS δ8 aq)) aD δr) (rN (dM (rR hr) rT (bG δ8 aD) va δr)))))
  (aV ζr)
  eI)
  (aX (vp (n:=8) (Vq δ8 (lM aD) mZ) δ2 (λ_ h=>uU h (jo rfl (dB (b9 (i:=6) aO.nd rfl γt) (dB (b9 (i:=7) aO.nd rfl γt) jn)))))
  (aV (cp (mh (mT (FH hr) FJ ηy η3 rfl) (mh (mT (FH hr) FJ (vn 7) η3 rfl) (mh (cY cK (hr.mono cL) rfl (ZS η3 (ZS ηy (ZS (vn 7) aq)))) (qG (KA (cY cK (hr.mono cL) rfl (ZS γx (ZS ηy (ZS (vn 7) aq)))))))))))))))))
theorem d8:ag ["self","points","together"] sL (aa Ab):=dP
def zik(M:Nm mg)  (hr:dQ k A s fa cdv "Points.more" Ab) :
 b7 (eS P w mg base fa cdv A outer s H E ["self","points","together"] "Points.more" Ab) EN ios (af Ab) (GN ):=
 (aX (r_ (cY dg (hr.mono dh) rfl δe))
  (aX (vS 2 d8.nd (cY hZ (hr.mono h_) rfl (ZS (cM iK iL δ1 (vh (λ_ ha=>uZ Dh rfl M.g9 (by decide +kernel) ha) D5 δe)) aq)))
  (aX (eh (dM uY vd (vB mi mj M.cD γS) (yb M.eR rfl) δr)
  (aV tT)
  eI)
  (aV (cp (VY.ve (BP ye fP (hr.mono fS) rfl γS)))))))
theorem ay:ag ON Hw (aa Ac):=dP
def zeA(M:Nm mg)  (hr:dQ k A s fa cdv "_law_refused_right" Ac) :
 b7 (eS P w mg base fa cdv A outer s H E ON "_law_refused_right" Ac) EN ios (af Ac) (GS ):=
 (aX (vF (n:=7) (fB (gW (ZS rM (ZS (gz ζ4) (ZS (gz (ZS jY δU)) (ZS (gW ζ4) (ZS va (ZS (gz (ZS (bG ε0 aD) aq)) (ZS (gz ζ4) (ZS Vb aq)))))))))) (mq (by decide))
  (aX (vS 4 ay.nd (cY cP (hr.mono cQ) rfl (ZS γA (ZS δ5 ζ3))))
  (aV (eh (lL (p9 (dM (Xp hr) Xr δJ γx rfl) (rN (dM (Xb hr) Xd δJ (gz (ZS jY δU)) δr))))
  (aX (eh (lL (p9 (iI (gy (vI M.nv M.aA M.gg δ8))) (p9 (dM (rR hr) rT (vB (ME hr M.zD) MF M.o_ (ZS (Vr M.q8 δ8 rfl) aq)) (vB (ME hr M.zD) MF M.o_ ζ3) δr) (rN (iI (gy (Xh M.kq (λ_ ha=>rD Dy rfl M.aA (by decide +kernel) (jU ha (jU (wV (v:=.ty "KeyError") (u:=.type "KeyError") rfl M.lU (by decide +kernel) rfl) oh))) δ8)))))))
  (aV ζr)
  eI)
  (aV (eh (gy (vI M.fG M.aA M.fF δ8))
  (aV ζr)
  eI)))
  eI))) qaX (b9 (i:=3) ay.nd rfl γt))
  (aX (vS 5 ay.nd (gz (ZS (bG γA (A6 aD)) (ZS (cM C2 DZ γ0 aD) aq))))
  (aX (vF (n:=7) (fB (gW (ZS (qU M.aj eZ (hr.mono e_) δ5 εq) (ZS (qU M.aj iO (hr.mono iP) δ5 (ZS (gW (ZS (gz (ZS εC (ZS γ0 aq))) aq)) aq)) aq)))) (mq (by decide))
  (aX (vS 4 ay.nd (cY cP (hr.mono cQ) rfl (ZS γA (ZS ηy (ZS rM aq)))))
  (aV (eh (lL (p9 (iI (gy (vI M.gB M.aA M.cG δ8))) (rN (iI (gy (vI M.fG M.aA M.fF δ8))))))
  (aV ζr)
  eI))) qaX (b9 (i:=6) ay.nd rfl γt))
  (aV ζr))))
theorem cy:ag OO ["_law_script"] (aa uI):=dP
def OV(M:Nm mg)  (hr:dQ k A s fa cdv "law" uI) :
 b7 (eS P w mg base fa cdv A outer s H E OO "law" uI) EN ios (af uI) (GU ):=
 (aX (vF (n:=10) (K6 (λ_ ha=>Kv rfl M.jC ha) (ZS aD (ZS (vB (C7 rfl) D3 M.km (ZS aD (ZS (vB (C8 rfl) D4 M.mI (ZS γ0 δU)) aq))) δU))) (mq (by decide))
  (aX (vS 2 cy.nd (oJ (cM iK iL (oJ γA (lM γx) (lM (cM iK iL γx aD))) (gW ζ4)) mZ (lM aD)))
  (aX (vS 3 cy.nd (cY kF (hr.mono kG) rfl (ZS (cY fb (hr.mono fc) rfl (ZS ζt (ZS γx (ZS (cM iK iL (gW (ZS aD (ZS aD ζ4))) (cM JV LR (gW δU) aD)) aq)))) δU)))
  (aX (vS 4 cy.nd (cY fb (hr.mono fc) rfl (ZS ζt (ZS (cM iK iL γx aD) (ZS (cM iK iL (gW δU) (cM JV LR (gW ζ4) aD)) aq)))))
  (aX (vS 5 cy.nd (MH hr M.cq rfl M.sO rfl rfl (ZS (cY gh (hr.mono gi) rfl (ZS δJ (ZS (oJ δ8 (lM aD) (lM (cM iK iL aD (cM C3 D0 aD (bG δ8 aD))))) aq))) aq)))
  (aX (vS 6 cy.nd (VY.ve (BP ye fP (hr.mono fS) rfl εq)))
  (aX (vS 7 cy.nd (sD M.aj aQ ηp ηy))
  (aX (eh (iI (gy (vB (Kr rfl) KU M.sM (ZS (nj (fB (oJ η3 mZ (lM aD))) m7 (cY fT (hr.mono fU) rfl (ZS γx (ZS δ5 (ZS δJ γk))))) aq))))
  (aV ζr)
  eI)
  (aX (eh (lL (p9 (iI (gy (cY dZ (hr.mono d5) rfl (ZS δJ (ZS η3 (ZS ηy aq)))))) (rN (dM (rR hr) rT (sD M.aj aQ ηp ηy) (vn 7) δr))))
  (aV ζr)
  eI)
  (aV (vF (n:=10) (fB (oJ η3 mZ (lM aD))) (mq (by decide))
  (aX (vS 9 cy.nd (qU M.aj eZ (hr.mono e_) ηy (ZS (vn 8) aq)))
  (aV (eh (lL (rO (iI (gy (cY fg (hr.mono fh) rfl (ZS (sD M.aj aQ ηp (vn 9)) aq)))) (tL (iI (gy (vI M.gB M.aA M.cG (cY cP (hr.mono cQ) rfl (ZS δJ (ZS (vn 9) (ZS (vn 8) aq))))))))))
  (aV ζr)
  eI))) qaX (b9 (i:=8) cy.nd rfl γt))))))))))) qaX (b9 (i:=1) cy.nd rfl γt))
  (aV ζr))
end
end cZ
namespace cZ
open PySem L2 Ex Dv
section
variable[KC]{P:Program}{w:World}{mg:M2}{base:Heap}
structure dF(mg:M2):Prop where
 lX:At mg "in_order" uH
 pI:At mg "is_key" zE
 lY:At mg "is_point" zF
 gp:At mg "look_at_points" zG
 pJ:Mx .Points "Points.__init__" q9 jR
 jI:qT .Points "has" "Points.has" zH
 iS:qT .Points "less" "Points.less" zI
 gL:qT .Points "points" "Points.points" zJ
 kM:At mg "_law_asks" wy
 pK:At mg "is_ask" zK
 d9:qT .Points "all_moments" "Points.all_moments" wz
 gq:qT .Points "keys_at" "Points.keys_at" wA
 jJ:At mg "later_bare" zL
 jK:At mg "bare_pairs" wC
 kQ:At mg "is_filled" zM
 ik:At mg "look_at_asks" zN
 kR:At mg "points_of" sP
 pL:At mg "serves" zP
 gr:At mg "look_at_served" zQ
 eP:qT .Points "moments_of" "Points.moments_of" wD
 ny:At mg "nearest" zR
 lZ:At mg "have_box" zS
 pM:At mg "in_box" zT
 pN:At mg "thirds" zU
 iq:At mg "needing_pair" zV
 nA:At mg "need_of" zW
 iT:At mg "_law_caught" zX
 iU:At mg "_law_digits" zY
 kT:At mg "_law_bare" zZ
 iV:At mg "_law_closed" z_
 gu:At mg "_law_drawn_set" wF
 iW:At mg "_law_filled" Aa
 fV:At mg "_law_need_right" wG
 iX:qT .Points "more" "Points.more" Ab
 d_:At mg "_law_refused_right" Ac
 Ad:At mg "law" uI
theorem OW(T:dF mg)(M:Nm mg):cc P w mg base "in_order" 1 jR (bb vQ):=
 gJ (k:=0) T.lX zlK (λ_ _ _ _ _ _=>mC λ_=>rfl) (λ_ _ _ _ _ _ _ hr=>zlH  M hr) (λ_ _ h=>eJ h)
theorem Cw(T:dF mg)(M:Nm mg):cc P w mg base "is_key" 1 ly (bb qj):=
 gJ (k:=0) T.pI zoI (λ_ _ _ _ _ _=>mC λ_=>rfl) (λ_ _ _ _ _ _ _ hr=>zoK  M hr) (λ_ _ h=>eJ h)
theorem HE(T:dF mg)(M:Nm mg):cc P w mg base "is_point" 2 ly (bb nq):=
 gJ (k:=1) T.lY zlp (λ_ _ _ _ _ _=>mC λ_=>rfl) (λ_ _ _ _ _ _ _ hr=>zlo (Cw T M) (by omega) M hr) (λ_ _ h=>eJ h)
theorem OX(T:dF mg)(M:Nm mg):cc P w mg base "look_at_points" 3 ly (bb uo):=
 gJ (k:=2) T.gp bH (λ_ _ _ _ _ _=>mC λ_=>rfl) (λ_ _ _ _ _ _ _ hr=>zfX (HE T M) (by omega) M hr) (λ_ _ h=>eJ h)
theorem Ae(T:dF mg)(M:Nm mg):BO P w mg base "Points" 4 jR [.ax] .Points "held" qY:=
 Ws (k:=3) (st1:=OQ) (st2:=OR) (e:=OS) T.pJ M.pj je rfl M.aj M.cI rfl (by decide) (λ_ _ _ _ _ _ _ hr=>let ⟨h1,h2,h3⟩:=zo3 (OW T M) (by omega) (OX T M) (by omega) M hr (by omega); ⟨h1,h2,h3,pv 0,rfl⟩)
theorem HF(T:dF mg)(M:Nm mg):kg P w mg base .Points "has" 3 ["self","point"] (bb mD):=
 t6 (k:=2) T.jI ziX (λ_ _ _ _ _ _=>lq λ_ _=>rfl) (λ_ _ _ _ _ _ _ hr=>ziQ (HE T M) (by omega) M hr) (λ_ _ h=>eJ h)
theorem HG(T:dF mg)(M:Nm mg):kg P w mg base .Points "less" 6 ["self","point"] (bb uq):=
 t6 (k:=5) T.iS ziB (λ_ _ _ _ _ _=>lq λ_ _=>rfl) (λ_ _ _ _ _ _ _ hr=>ziq (Ae T M) (by omega) (HF T M) (by omega) M hr) (λ_ _ h=>eJ h)
theorem Af(T:dF mg)(M:Nm mg):kg P w mg base .Points "points" 1 o8 (bb qk):=
 t6 (k:=0) T.gL zg1 (λ_ _ _ _ _ _=>mC λ_=>rfl) (λ_ _ _ _ _ _ _ hr=>zgz  M hr) (λ_ _ h=>eJ h)
theorem OY(T:dF mg)(M:Nm mg):cc P w mg base "_law_asks" 1 ["_law_d","_law_most"] (bb sF):=
 gJ (k:=0) T.kM a_ (λ_ _ _ _ _ _=>lq λ_ _=>rfl) (λ_ _ _ _ _ _ _ hr=>zkN  M hr) (λ_ _ h=>eJ h)
theorem znd(T:dF mg)(M:Nm mg):cc P w mg base "is_ask" 1 ["asks","point"] (bb sG):=
 gJ (k:=0) T.pK gm (λ_ _ _ _ _ _=>lq λ_ _=>rfl) (λ_ _ _ _ _ _ _ hr=>zpx  M hr) (λ_ _ h=>eJ h)
theorem OZ(T:dF mg)(M:Nm mg):kg P w mg base .Points "all_moments" 1 o8 (bb vR):=
 t6 (k:=0) T.d9 zex (λ_ _ _ _ _ _=>mC λ_=>rfl) (λ_ _ _ _ _ _ _ hr=>zew  M hr) (λ_ _ h=>eJ h)
theorem O0(T:dF mg)(M:Nm mg):kg P w mg base .Points "keys_at" 2 ln2 (bb sH):=
 t6 (k:=1) T.gq zf4 (λ_ _ _ _ _ _=>lq λ_ _=>rfl) (λ_ _ _ _ _ _ _ hr=>zf8 (Cw T M) (by omega) M hr) (λ_ _ h=>eJ h)
theorem zie(T:dF mg)(M:Nm mg):cc P w mg base "later_bare" 1 ["rows","one"] (bb vU):=
 gJ (k:=0) T.jJ av (λ_ _ _ _ _ _=>lq λ_ _=>rfl) (λ_ _ _ _ _ _ _ hr=>ziV  M hr) (λ_ _ h=>eJ h)
theorem zh5(T:dF mg)(M:Nm mg):cc P w mg base "bare_pairs" 3 jR (bb yN):=
 gJ (k:=2) T.jK fj (λ_ _ _ _ _ _=>mC λ_=>rfl) (λ_ _ _ _ _ _ _ hr=>zi2 (OZ T M) (by omega) (O0 T M) (by omega) (Af T M) (by omega) (zie T M) (by omega) M hr) (λ_ _ h=>eJ h)
theorem ziW(T:dF mg)(M:Nm mg):cc P w mg base "is_filled" 4 jR (bb yO):=
 gJ (k:=3) T.kQ zkx (λ_ _ _ _ _ _=>mC λ_=>rfl) (λ_ _ _ _ _ _ _ hr=>zkt (zh5 T M) (by omega) M hr) (λ_ _ h=>eJ h)
theorem zgB(T:dF mg)(M:Nm mg):cc P w mg base "look_at_asks" 2 ly (bb yP):=
 gJ (k:=1) T.ik cj (λ_ _ _ _ _ _=>mC λ_=>rfl) (λ_ _ _ _ _ _ _ hr=>zhr (Cw T M) (by omega) M hr) (λ_ _ h=>eJ h)
theorem ziY(T:dF mg)(M:Nm mg):qf P w mg base "points_of" 6 ["asks"] (qg yQ):=
 Wu (k:=5) (st1:=OT) (e:=OU) T.kR zkw rfl rfl (λ_ _ _ _ _ _=>mC λ_=>rfl) (λ_ _ _ _ _ _ _ hr=>zjP (Ae T M) (by omega) (zgB T M) (by omega) M hr (by omega)) Wv
theorem zm2(T:dF mg)(M:Nm mg):cc P w mg base "serves" 7 ln10 (bb vV):=
 gJ (k:=6) T.pL jf (λ_ _ _ _ _ _=>lq λ_ _=>rfl) (λ_ _ _ _ _ _ _ hr=>zps (OZ T M) (by omega) (HF T M) (by omega) (Af T M) (by omega) (ziW T M) (by omega) (ziY T M) (by omega) M hr) (λ_ _ h=>eJ h)
theorem zfI(T:dF mg)(M:Nm mg):qf P w mg base "look_at_served" 8 ln10 (qP nr):=
 LY (k:=7) T.gr zge (λ_ _ _ _ _ _=>lq λ_ _=>rfl) (λ_ _ _ _ _ _ _ hr=>zfW (zm2 T M) (by omega) M hr (by omega)) (λ_ _ h=>E_ h)
theorem zey(T:dF mg)(M:Nm mg):kg P w mg base .Points "moments_of" 2 wt (bb ur):=
 t6 (k:=1) T.eP zeX (λ_ _ _ _ _ _=>lq λ_ _=>rfl) (λ_ _ _ _ _ _ _ hr=>zeW (Cw T M) (by omega) M hr) (λ_ _ h=>eJ h)
theorem zkW(T:dF mg)(M:Nm mg):cc P w mg base "nearest" 1 zz (bb uu):=
 gJ (k:=0) T.ny zmw (λ_ _ _ _ _ _=>lq λ_ _=>rfl) (λ_ _ _ _ _ _ _ hr=>zm6  M hr) (λ_ _ h=>eJ h)
theorem zkL(T:dF mg)(M:Nm mg):cc P w mg base "have_box" 3 zy (bb yR):=
 gJ (k:=2) T.lZ zlJ (λ_ _ _ _ _ _=>lq λ_ _=>rfl) (λ_ _ _ _ _ _ _ hr=>zk8 (HE T M) (by omega) M hr) (λ_ _ h=>eJ h)
theorem zmv(T:dF mg)(M:Nm mg):cc P w mg base "in_box" 1 ["point","one","other"] (bb vW):=
 gJ (k:=0) T.pM gn (λ_ _ _ _ _ _=>sE λ_ _ _=>rfl) (λ_ _ _ _ _ _ _ hr=>zoD  M hr) (λ_ _ h=>eJ h)
theorem znp(T:dF mg)(M:Nm mg):cc P w mg base "thirds" 4 zA (bb vX):=
 gJ (k:=3) T.pN zpb (λ_ _ _ _ _ _=>sE λ_ _ _=>rfl) (λ_ _ _ _ _ _ _ hr=>zpa (Af T M) (by omega) (zkL T M) (by omega) (zmv T M) (by omega) M hr) (λ_ _ h=>eJ h)
theorem zgy(T:dF mg)(M:Nm mg):cc P w mg base "needing_pair" 5 ["points","point"] (bb uv):=
 gJ (k:=4) T.iq aS (λ_ _ _ _ _ _=>lq λ_ _=>rfl) (λ_ _ _ _ _ _ _ hr=>zhn (O0 T M) (by omega) (zey T M) (by omega) (zkW T M) (by omega) (znp T M) (by omega) M hr) (λ_ _ h=>eJ h)
theorem O3(T:dF mg)(M:Nm mg):qf P w mg base "need_of" 9 ["asks","points","point"] (qP iD):=
 LY (k:=8) T.nA ij (λ_ _ _ _ _ _=>sE λ_ _ _=>rfl) (λ_ _ _ _ _ _ _ hr=>zmt (HF T M) (by omega) (znd T M) (by omega) (zfI T M) (by omega) (zgy T M) (by omega) M hr (by omega)) (λ_ _ h=>E_ h)
theorem HH(T:dF mg)(M:Nm mg):cc P w mg base "_law_caught" 10 Hu (bb o4):=
 gJ (k:=9) T.iT bI (λ_ _ _ _ _ _=>sE λ_ _ _=>rfl) (λ_ _ _ _ _ _ _ hr=>zhH (O3 T M) (by omega) M hr) (λ_ _ h=>eJ h)
theorem O4(T:dF mg)(M:Nm mg):cc P w mg base "_law_digits" 1 ["_law_cell","_law_turn","_law_sizes"] (bb ux):=
 gJ (k:=0) T.iU aF (λ_ _ _ _ _ _=>sE λ_ _ _=>rfl) (λ_ _ _ _ _ _ _ hr=>ziI  M hr) (λ_ _ h=>eJ h)
theorem HI(T:dF mg)(M:Nm mg):cc P w mg base "_law_bare" 1 ["_law_spots","_law_one","_law_other"] (bb o5):=
 gJ (k:=0) T.kT bJ (λ_ _ _ _ _ _=>sE λ_ _ _=>rfl) (λ_ _ _ _ _ _ _ hr=>zkG  M hr) (λ_ _ h=>eJ h)
theorem zhg(T:dF mg)(M:Nm mg):cc P w mg base "_law_closed" 2 ["_law_spots"] (bb yU):=
 gJ (k:=1) T.iV aG (λ_ _ _ _ _ _=>mC λ_=>rfl) (λ_ _ _ _ _ _ _ hr=>zhN (HI T M) (by omega) M hr) (λ_ _ h=>eJ h)
theorem O5(T:dF mg)(M:Nm mg):cc P w mg base "_law_drawn_set" 3 ["_law_asks_here","_law_digits_here"] (bb v3):=
 gJ (k:=2) T.gu aU (λ_ _ _ _ _ _=>lq λ_ _=>rfl) (λ_ _ _ _ _ _ _ hr=>zfY (zhg T M) (by omega) M hr) (λ_ _ h=>eJ h)
theorem HJ(T:dF mg)(M:Nm mg):cc P w mg base "_law_filled" 2 ["_law_spots"] (bb v5):=
 gJ (k:=1) T.iW cx (λ_ _ _ _ _ _=>mC λ_=>rfl) (λ_ _ _ _ _ _ _ hr=>zh0 (HI T M) (by omega) M hr) (λ_ _ h=>eJ h)
theorem O6(T:dF mg)(M:Nm mg):cc P w mg base "_law_need_right" 10 Hv (bb o6):=
 gJ (k:=9) T.fV aO (λ_ _ _ _ _ _=>Xe λ_ _ _ _=>rfl) (λ_ _ _ _ _ _ _ hr=>zfF (HI T M) (by omega) (HJ T M) (by omega) (O3 T M) (by omega) M hr) (λ_ _ h=>eJ h)
theorem zhm(T:dF mg)(M:Nm mg):kg P w mg base .Points "more" 6 sL (bb v7):=
 t6 (k:=5) T.iX d8 (λ_ _ _ _ _ _=>lq λ_ _=>rfl) (λ_ _ _ _ _ _ _ hr=>zik (Ae T M) (by omega) (OW T M) (by omega) (OX T M) (by omega) M hr) (λ_ _ h=>eJ h)
theorem O7(T:dF mg)(M:Nm mg):cc P w mg base "_law_refused_right" 11 Hw (bb yY):=
 gJ (k:=10) T.d_ ay (λ_ _ _ _ _ _=>sE λ_ _ _=>rfl) (λ_ _ _ _ _ _ _ hr=>zeA (HG T M) (by omega) (zhm T M) (by omega) (HH T M) (by omega) M hr) (λ_ _ h=>eJ h)
theorem Cy(T:dF mg)(M:Nm mg):cc P w mg base "law" 12 ["_law_script"] (bb yZ):=
 gJ (k:=11) T.Ad cy (λ_ _ _ _ _ _=>mC λ_=>rfl) (λ_ _ _ _ _ _ _ hr=>OV (Ae T M) (by omega) (HG T M) (by omega) (Af T M) (by omega) (OY T M) (by omega) (HH T M) (by omega) (O4 T M) (by omega) (O5 T M) (by omega) (HJ T M) (by omega) (O6 T M) (by omega) (O7 T M) (by omega) M hr) (λ_ _ h=>eJ h)
theorem zwr(T:dF mg)(M:Nm mg){f:Addr}{fd:FuncData}(U:mM KC.K "law" "law" uI f fd):bz P w KC.K mg base iZ 12 f fd ["_law_script"] (bb yZ):=
 Em (k:=11) U cy (λ_ _ _ _ _ _ hr=>OV (Ae T M) (by omega) (HG T M) (by omega) (Af T M) (by omega) (OY T M) (by omega) (HH T M) (by omega) (O4 T M) (by omega) (O5 T M) (by omega) (HJ T M) (by omega) (O6 T M) (by omega) (O7 T M) (by omega) M hr) (λ_ _ h=>eJ h)
end
end cZ
namespace cZ
open PySem PySem.W PyProof.Rows Hd
def xE(x:Str):=xC x (.ref 31) [(.type "ValueError")] "ValueError"
abbrev pm0:Value:=vS "law_thirdpoint_k50_what_needs_a_point" 627
abbrev i7:Value:=vS "thirdpoint.asks" 553
abbrev l5:Value:=vS "thirdpoint.boxes" 507
abbrev q_:Value:=vS "thirdpoint.errors" 194
abbrev pm4:Value:=vS "thirdpoint.points" 365
abbrev pm5:Value:=vS "thirdpoint.sparing" 586
def KK(P:Params):Frag:=[
 (1,dO P [de "builtins" 162 (.ref 4),de "__main__" 163 (.ref 5)] 2),
 (2,dN P [de "type.__subclasses__.KeyError.0" 332 (vI 120 0),de "type.__subclasses__.KeyError.n" 333 (vI 1 0),de "type.__subclasses__.OverflowError.0" 361 (vI 140 0),de "type.__subclasses__.OverflowError.n" 362 (vI 1 0)] 4),
 (3,dO P [de "__name__" 165 pm0,de "__doc__" 166 .none,de "__package__" 167 .none,de "__loader__" 168 (.builtin "__main__.__loader__#opaque"),de "__spec__" 169 .none,de "__annotations__" 170 (.ref 6),de "__builtins__" 171 (.ref 4),de "__file__" 173 (vS "/claim/cut.py" 172),de "__cached__" 174 .none,de "_wall" 193 (.ref 21),de "PointError" 213 (.ref 31),de "NoPoints" 238 (.ref 51),de "NoBox" 265 (.ref 70),de "NoAsks" 290 (.ref 89),de "NotServed" 306 (.ref 101),de "NoPoint" 335 (.ref 120),de "TooMany" 364 (.ref 140),de "LAST_KEY" 368 (vI 30 367),de "MOST_POINTS" 370 (vI 200 369),de "is_key" 377 (.ref 150),de "is_point" 384 (.ref 157),de "look_at_points" 393 (.ref 164),de "in_order" 399 (.ref 169),de "Points" 506 (.ref 256),de "have_box" 516 (.ref 267),de "in_box" 527 (.ref 274),de "thirds" 533 (.ref 279),de "later_bare" 539 (.ref 284),de "bare_pairs" 545 (.ref 289),de "is_filled" 552 (.ref 296),de "MOST_ASKS" 556 (vI 31 555),de "look_at_asks" 565 (.ref 303),de "points_of" 571 (.ref 308),de "serves" 577 (.ref 313),de "look_at_served" 585 (.ref 320),de "nearest" 593 (.ref 325),de "needing_pair" 606 (.ref 332),de "is_ask" 616 (.ref 339),de "need_of" 626 (.ref 346),de "_law_digits" 643 (.ref 353),de "_law_asks" 649 (.ref 358),de "_law_bare" 664 (.ref 365),de "_law_filled" 670 (.ref 370),de "_law_closed" 676 (.ref 375),de "_law_drawn_set" 682 (.ref 380),de "_law_caught" 693 (.ref 387),de "_law_need_right" 699 (.ref 392),de "_law_refused_right" 712 (.ref 399),de "law" 718 (.ref 404)] 49),
 (30,dO P [de "__module__" 203 q_,de "__firstlineno__" 207 (vI 5 206),de "__static_attributes__" 208 (.ref 29),de "__weakref__" 210 (.ref 32),de "__doc__" 211 .none] 3),
 (31,cO "PointError" [(.type "ValueError")] [(.ref 31),(.type "ValueError"),(.type "Exception"),(.type "BaseException"),(.type "object")] 30 [(.ref 51),(.ref 70),(.ref 89),(.ref 101)] #[some (.ref 22),none,some (vS "PointError" 196),some (vS "PointError" 204),some (.builtin "ValueError.__new__"),some εd]),
 (50,xD P q_ 221 7 [de "__init__" 233 (.ref 48)] 235 49),
 (51,xE "NoPoints" 51 50 35 214 222),
 (69,xD P q_ 246 12 [de "__init__" 259 (.ref 67)] 262 68),
 (70,xE "NoBox" 70 69 54 239 247),
 (88,xD P q_ 273 18 [de "__init__" 285 (.ref 86)] 287 87),
 (89,xE "NoAsks" 89 88 73 266 274),
 (100,xD P q_ 298 23 [] 303 99),
 (101,xE "NotServed" 101 100 92 291 299),
 (116,kP "__init__" "NoPoint.__init__" 319 27 2 111 [0,113,114,115] 324),
 (117,fO "__init__" "NoPoint.__init__" ζm .none q_ 116),
 (119,dO P [de "__module__" 314 q_,de "__firstlineno__" 318 (vI 25 317),de "__init__" 326 (.ref 117),de "__static_attributes__" 328 (.ref 118),de "__weakref__" 330 (.ref 121),de "__doc__" 331 .none] 3),
 (120,xC "NoPoint" (.type "KeyError") [(.type "LookupError")] "LookupError" 120 119 104 307 315),
 (139,dO P [de "__module__" 343 q_,de "__firstlineno__" 347 (vI 30 346),de "__init__" 355 (.ref 137),de "__static_attributes__" 357 (.ref 138),de "__weakref__" 359 (.ref 141),de "__doc__" 360 .none] 3),
 (140,xC "TooMany" (.type "OverflowError") [(.type "ArithmeticError")] "OverflowError" 140 139 124 336 344),
 (149,kP "is_key" "is_key" 371 38 1 144 [0,146,147,148] 375),
 (150,fQ "is_key" (top 12) pm4 149),
 (156,kP "is_point" "is_point" 378 40 1 151 [0,153,154,155] 382),
 (157,fQ "is_point" (top 13) pm4 156),
 (163,kP "look_at_points" "look_at_points" 385 42 1 158 [0,160,161,162] 391),
 (164,fQ "look_at_points" (top 14) pm4 163),
 (168,kP "in_order" "in_order" 394 48 1 165 [0,0,0,167] 397),
 (169,fQ "in_order" (top 15) pm4 168),
 (177,{cls:=.type "tuple",data:=.seq #[.none]}),
 (183,kP "__init__" "Points.__init__" 412 52 2 178 [0,180,181,182] 417),
 (184,fO "__init__" "Points.__init__" (L2.inClass εt 0) (.ref 177) pm4 183),
 (190,kP "points" "Points.points" 420 58 1 185 [0,187,188,189] 424),
 (191,fO "points" "Points.points" (L2.inClass εt 1) .none pm4 190),
 (197,kP "has" "Points.has" 427 61 2 192 [0,194,195,196] 432),
 (198,fO "has" "Points.has" (L2.inClass εt 2) .none pm4 197),
 (202,kP "keys_at" "Points.keys_at" 435 64 2 199 [0,0,0,201] 438),
 (203,fO "keys_at" "Points.keys_at" (L2.inClass εt 3) .none pm4 202),
 (207,kP "moments_of" "Points.moments_of" 441 69 2 204 [0,0,0,206] 444),
 (208,fO "moments_of" "Points.moments_of" (L2.inClass εt 4) .none pm4 207),
 (219,kP "all_moments" "Points.all_moments" 454 77 1 216 [0,0,0,218] 457),
 (220,fO "all_moments" "Points.all_moments" (L2.inClass εt 6) .none pm4 219),
 (226,kP "more" "Points.more" 460 80 2 221 [0,223,224,225] 466),
 (227,fO "more" "Points.more" (L2.inClass εt 7) .none pm4 226),
 (231,kP "less" "Points.less" 469 87 2 228 [0,0,0,230] 472),
 (232,fO "less" "Points.less" (L2.inClass εt 8) .none pm4 231),
 (255,dO P [de "__module__" 407 pm4,de "__firstlineno__" 411 (vI 50 410),de "__init__" 419 (.ref 184),de "points" 426 (.ref 191),de "has" 434 (.ref 198),de "keys_at" 440 (.ref 203),de "moments_of" 446 (.ref 208),de "all_keys" 453 (.ref 215),de "all_moments" 459 (.ref 220),de "more" 468 (.ref 227),de "less" 474 (.ref 232),de "__eq__" 482 (.ref 239),de "__len__" 489 (.ref 246),de "__repr__" 496 (.ref 253),de "__static_attributes__" 498 (.ref 254),de "__dict__" 500 (.ref 257),de "__weakref__" 502 (.ref 258),de "__doc__" 503 .none,de "__hash__" 504 .none] 5),
 (256,cO "Points" [(.type "object")] [(.ref 256),(.type "object")] 255 [] #[none,none,some (vS "Points" 400),some (vS "Points" 408),some (.builtin "object.__new__"),some εd]),
 (266,kP "have_box" "have_box" 509 101 2 261 [0,263,264,265] 514),
 (267,fQ "have_box" (top 18) l5 266),
 (273,kP "in_box" "in_box" 517 103 3 268 [0,270,271,272] 525),
 (274,fQ "in_box" (top 19) l5 273),
 (278,kP "thirds" "thirds" 528 106 3 275 [0,0,0,277] 531),
 (279,fQ "thirds" (top 20) l5 278),
 (283,kP "later_bare" "later_bare" 534 110 2 280 [0,0,0,282] 537),
 (284,fQ "later_bare" (top 21) l5 283),
 (288,kP "bare_pairs" "bare_pairs" 540 126 1 285 [0,0,0,287] 543),
 (289,fQ "bare_pairs" (top 22) l5 288),
 (295,kP "is_filled" "is_filled" 546 129 1 290 [0,292,293,294] 550),
 (296,fQ "is_filled" (top 23) l5 295),
 (302,kP "look_at_asks" "look_at_asks" 557 133 1 297 [0,299,300,301] 563),
 (303,fQ "look_at_asks" (top 26) i7 302),
 (307,kP "points_of" "points_of" 566 139 1 304 [0,0,0,306] 569),
 (308,fQ "points_of" (top 27) i7 307),
 (312,kP "serves" "serves" 572 142 2 309 [0,0,0,311] 575),
 (313,fQ "serves" (top 28) i7 312),
 (319,kP "look_at_served" "look_at_served" 578 147 2 314 [0,316,317,318] 583),
 (320,fQ "look_at_served" (top 29) i7 319),
 (324,kP "nearest" "nearest" 588 151 2 321 [0,0,0,323] 591),
 (325,fQ "nearest" (top 31) pm5 324),
 (331,kP "needing_pair" "needing_pair" 594 153 2 326 [0,328,329,330] 604),
 (332,fQ "needing_pair" (top 32) pm5 331),
 (338,kP "is_ask" "is_ask" 607 161 2 333 [0,335,336,337] 614),
 (339,fQ "is_ask" (top 33) pm5 338),
 (345,kP "need_of" "need_of" 617 164 3 340 [0,342,343,344] 624),
 (346,fQ "need_of" (top 34) pm5 345),
 (352,kP "_law_digits" "_law_digits" 629 173 3 347 [0,349,350,351] 641),
 (353,fQ "_law_digits" (top 36) pm0 352),
 (357,kP "_law_asks" "_law_asks" 644 186 2 354 [0,0,0,356] 647),
 (358,fQ "_law_asks" (top 37) pm0 357),
 (364,kP "_law_bare" "_law_bare" 650 196 3 359 [0,361,362,363] 662),
 (365,fQ "_law_bare" (top 38) pm0 364),
 (369,kP "_law_filled" "_law_filled" 665 205 1 366 [0,0,0,368] 668),
 (370,fQ "_law_filled" (top 39) pm0 369),
 (374,kP "_law_closed" "_law_closed" 671 210 1 371 [0,0,0,373] 674),
 (375,fQ "_law_closed" (top 40) pm0 374),
 (379,kP "_law_drawn_set" "_law_drawn_set" 677 222 2 376 [0,0,0,378] 680),
 (380,fQ "_law_drawn_set" (top 41) pm0 379),
 (386,kP "_law_caught" "_law_caught" 683 229 3 381 [0,383,384,385] 691),
 (387,fQ "_law_caught" (top 42) pm0 386),
 (391,kP "_law_need_right" "_law_need_right" 694 236 4 388 [0,0,0,390] 697),
 (392,fQ "_law_need_right" (top 43) pm0 391),
 (398,kP "_law_refused_right" "_law_refused_right" 700 247 3 393 [0,395,396,397] 710),
 (399,fQ "_law_refused_right" (top 44) pm0 398),
 (403,kP "law" "law" 713 261 1 400 [0,0,0,402] 716),
 (404,fQ "law" (top 45) pm0 403)]
noncomputable def sQ:zzd:=[1,2,3,30,31,50,51,69,70,88,89,100,101,116,117,119,120,139,140,149,150,156,157,163,164,168,169,177,183,184,190,191,197,198,202,203,207,208,219,220,226,227,231,232,255,256,266,267,273,274,278,279,283,284,288,289,295,296,302,303,307,308,312,313,319,320,324,325,331,332,338,339,345,346,352,353,357,358,364,365,369,370,374,375,379,380,386,387,391,392,398,399,403,404]
theorem ir(P:Params):sQ=(KK P).map (·.1):=by kernel_rfl
noncomputable def jg:zzc:=[0,2,3,4,5,6,7,8,10,11,12,13,14,15,16,18,19,20,21,22,23,25,26,27,28,29,31,32,33,34,36,37,38,39,40,41,42,43,44,45]
set_option maxHeartbeats 0 in
theorem run(w:World)(os:OsState):(zx Fast.tw14364793385576792824 PySem.Challenge.pw_thirdpoint_k50_what_needs_a_point w 11 (some (.ref 6)) 6296 (Ht w.params os) (topStub PySem.Challenge.pw_thirdpoint_k50_what_needs_a_point)).map (λs=>((staticsOk εo δ6 s.abs.heap&&namesBound PySem.Challenge.pw_thirdpoint_k50_what_needs_a_point s.abs.heap&&gensDone s.abs&&laidKept δ6 s.abs.heap),
 Fast.tw4187177175401517315 γy [] εo (λs=>xlAt γy [] s&&recOk [] s) true s.abs,sQ.map s.abs.heap.get?))=some (true,openGood γy [],(KK w.params).map λx=>some x.2):=by kernel_rfl
theorem left:LeftO PySem.Challenge.pw_thirdpoint_k50_what_needs_a_point γy [] (λs=>xlAt γy [] s&&recOk [] s) (λs=>sQ.map s.heap.get?) (λw=>(KK w.params).map λx=>some x.2) 6296:=
 ZK rfl (by kernel_rfl) rfl (λ_=>by kernel_rfl) run
end cZ
namespace Xf
open PySem L2 Ex Dv
noncomputable abbrev O8:v4:=[.type "ValueError",.type "Exception",.type "BaseException",.type "object"]
noncomputable abbrev HK:v4:=[.type "KeyError",.type "LookupError",.type "Exception",.type "BaseException",.type "object"]
noncomputable abbrev O9:v4:=[.type "LookupError",.type "Exception",.type "BaseException",.type "object"]
noncomputable abbrev nP:v4:=[.type "IndexError",.type "LookupError",.type "Exception",.type "BaseException",.type "object"]
noncomputable abbrev O_:v4:=[.type "OverflowError",.type "ArithmeticError",.type "Exception",.type "BaseException",.type "object"]
theorem lA(self:Value):refuseLoop self "__setattr__" O8=pure ():=F.store_ValueError.passes self
theorem Pa(self:Value):refuseLoop self "__setattr__" HK=pure ():=by kernel_rfl
theorem zvE(self:Value):refuseLoop self "__setattr__" O9=pure ():=by kernel_rfl
theorem zv3(self:Value):refuseLoop self "__setattr__" nP=pure ():=by kernel_rfl
theorem zwJ(self:Value):refuseLoop self "__setattr__" O_=pure ():=by kernel_rfl
def rh:Cn->v4
 |.NoPoint|.ju=>HK
 |.oF=>O9
 |.lK=>nP
 |.TooMany=>O_
 |_=>O8
noncomputable def uK:Cn->String
 |.NoPoint|.ju|.oF => "LookupError.__new__"
 |.lK => "IndexError.__new__"
 |.TooMany => "OverflowError.__new__"
 |_ => "ValueError.__new__"
theorem zwd:∀(C:Cn) (self:Value),refuseLoop self "__setattr__" (rh C)=pure ()
 |.PointError,s=>lA s
 |.NoPoints,s=>lA s
 |.NoBox,s=>lA s
 |.NoAsks,s=>lA s
 |.rJ,s=>lA s
 |.oA,s=>lA s
 |.oB,s=>lA s
 |.oE,s=>lA s
 |.rK,s=>lA s
 |.NotServed,s=>lA s
 |.rL,s=>lA s
 |.NoPoint,s=>Pa s
 |.ju,s=>Pa s
 |.oF,s=>zvE s
 |.lK,s=>zv3 s
 |.TooMany,s=>zwJ s
 |.Points,s=>lA s
 |.tH,s=>lA s
 |.Search,s=>lA s
 |.tI,s=>lA s
 |.DU,s=>lA s
noncomputable def rj(K:zze)(C:Addr)(up:v4)(nw:String):Bool:=rH K C up nw&&(W.findIn K γf "__getattribute__" == some (some (.builtin "BaseException.__getattribute__")))&&(W.findIn K γf "__getattr__" == some none)&&
 (W.findIn K γf "__setattr__" == some (some (.builtin "object.__setattr__")))&&(W.mroIn K C (.type "BaseException") == some true)&&(W.mroIn K C (.type "object") == some true)&&(W.findIn K γf "__class__" == some (some (.builtin "object.__class__")))&&
 (W.specialIn K (.builtin "object.__class__") "__get__" == some (some (.builtin "getset_descriptor.__get__")))&&(W.takesIn K (.builtin "object.__class__") == some true)&&(W.kitCls K γf γf == some true)&&W.keepIn K γf
theorem zwP(ok:∀self,refuseLoop self "__setattr__" up=pure ())(h:rj K C up nw=true):rH K C up nw=true/\rG K C:=by unfold rj at h;simp only[Bool.and_eq_true,beq_iff_eq]at h;obtain⟨⟨⟨⟨⟨⟨⟨⟨⟨⟨a,b⟩,c⟩,d⟩,e⟩,f⟩,g⟩,i⟩,j⟩,k⟩,l⟩:=h;exact⟨a,Tb ok a b c d e f g i j k l⟩
variable[KC]
theorem jL{L:ζK}(h:L.all (λC=>rj KC.K η (rh C) (uK C))=true)(hc:L.contains C=true):rH KC.K η (rh C) (uK C)=true/\rG KC.K η:=
 zwP (zwd C) (qaP.mp h C δM)
def Pb(K:zze)(cls:Cn->Addr)(L:ζK)(T:Cn):Bool:=L.all (λC=>W.kitOne K (.ref (cls C)) (.ref (cls T)) == some (sub C T))&&lQ.all (λt=>W.kitOne K (.type t) (.ref (cls T)) == some false)
theorem uL(h:Pb KC.K KC.cls L T=true)(hx:∀C,L.contains C=true->XC KC.K η):KitX L T:=by unfold Pb at h;rw[qay,qaP,qaP]at h;exact⟨λC hc=>⟨qa7.mp (h.1 C δM),hx C hc⟩,λt ht=>qa7.mp (h.2 t ht)⟩
theorem Ag{L:ζK}(h:L.all (λC=>a8 KC.K η cs == some true)=true):∀C,L.contains C=true->a8 KC.K η cs=some true:=λC hc=>qa7.mp (qaP.mp h C δM)
theorem Ah{L:ζK}(h:L.all (λC=>W.findIn KC.K ηa y == some none)=true)(hx:∀C,L.contains C=true->XC KC.K η):∀C,L.contains C=true->XC KC.K η/\bj KC.K η y:=λC hc=>⟨hx C hc,qa7.mp (qaP.mp h C δM)⟩
theorem Ai:XB "KeyError" "KeyError.__init__" HK:=Sx
theorem jM(c:W.findCls K (.type "KeyError") (.type "type") "__init__" = some (.val (.builtin "KeyError.__init__"))):Dz K (.ty "KeyError") "KeyError" "KeyError.__init__":=
 ⟨.inr ⟨"KeyError",rfl,by kernel_rfl,by decide +kernel,c⟩,by decide +kernel,_,Ai⟩
theorem pP{K:zze}{x q:Str}{st:Stmt}{a cd:Addr}{pm:Value}(l:K.lookup a=some (Hd.fO x q st .none pm cd))(c:W.codeIn K (.ref cd) q=true)(k:W.keepIn K γC=true):∃fd,mM K x q st a fd:=⟨_,L2.ot l c k⟩
theorem bM{mg:M2}{x:Str}{st:Stmt}{a cd:Addr}{pm:Value}{h:Heap}(X:KC.K.In h)(G:h.Ns mainGlobals mg)(l:KC.K.lookup a=some (Hd.fO x x st .none pm cd):=by kernel_rfl)(c:W.codeIn KC.K (.ref cd) x=true:=by kernel_rfl)(k:W.keepIn KC.K γC=true:=by kernel_rfl)(n:W.nsIn KC.K mainGlobals x=some ιu:=by kernel_rfl):At mg x st:=
 let ⟨fd,U⟩:=pP l c k; ⟨a,fd,U,W.mg_of X G n,k⟩
structure XT(K:zze)(C:Addr)(B:String)(x:Str):Prop where
 xc:XC K C
 sub:W.mroIn K C ζb=some true
 no:bj K C x
end Xf
namespace Xf
open PySem L2 Ex Dv
theorem iu[KC]{C:Cn}{m q:Str}{st:Stmt}{a cd:Addr}{pm:Value}(l:KC.K.lookup a=some (Hd.fO m q st .none pm cd):=by kernel_rfl)(c:W.codeIn KC.K (.ref cd) q=true:=by kernel_rfl)(k:W.keepIn KC.K γC=true:=by kernel_rfl)(e:W.findIn KC.K ηa m=some ιu:=by kernel_rfl)(f:W.isFn KC.K γC=true:=by kernel_rfl):qT C m q st:=⟨a,_,L2.ot l c k,⟨e,f,k⟩⟩
end Xf
namespace cZ
open PySem L2 Ex Dv
noncomputable def zzv:Cn->Addr
 |.PointError=>31
 |.NoPoints=>51
 |.NoBox=>70
 |.NoAsks=>89
 |.NotServed=>101
 |.NoPoint=>120
 |.TooMany=>140
 |.Points=>256
 |_=>0
section
variable{P:Program}{w:World}{K:zze}{mg:M2}{base:Heap}
theorem zng:ag ["self","point"] ["self","point"] (aa ζm):=⟨rfl,rfl,rfl,by decide +kernel,rfl,by decide +kernel,by decide +kernel⟩
theorem zmy{f C:Addr}{fd:FuncData}{ini:String}(F:mM K "__init__" "NoPoint.__init__" ζm f fd)(T:Xf.XT K C "KeyError" "point")(Z:Dz K (.ty "KeyError") "KeyError" ini)(hm:mg "KeyError" = none):bz P w K mg base iZ 1 f fd ["self","point"] (Fb C "point"):=by
 refine F.ok zng (λvs H Q E h=>?_) (λcdv A outer s H vs Q E hr h=>?_)
 .obtain⟨a,v,fr,rfl,_⟩:=h;rfl
 .obtain⟨a,v,fr,rfl,ha,k⟩:=h;refine⟨_,wW (CU (Te (wV (v:=.ty "KeyError") (u:=.type "KeyError") rfl hm (by decide +kernel) rfl) Z (jU (pv 0) (jU IJ oh)))) (wX (SW (pv 0) (pv 1) rfl)),?_⟩;refine⟨_,rfl,a,C,fr,_,rfl,ha,T.xc,T.sub,by decide,?_⟩;exact⟨_,rfl,_,rfl,a,C,fr,rfl,T.xc,T.no,.inl ⟨ha,λd hd ne=>k d hd ne⟩⟩
end
def Cz(K:zze):Sp:=λvs H Q _=>∃(a:Addr) (ns:u8),vs=[.ref a]/\b8 K H a γD/\ns.length<=63/\∀H',Q θJ H'
theorem ztu[KC](vs:γB)(H:Hp)(Q:VK)(E:XK)(h:Cz KC.K vs H Q E):bb yZ vs H Q E:=by obtain⟨a,ns,rfl,hS,hl,hQ⟩:=h;refine⟨H,[.dW ns],λ_ _ z=>z,.cons (.dW hS) .nil,?_⟩;rw[ZI ns hl];intro x H' R' _ hx;cases hx;exact hQ H'
theorem all_mk{l:W.OpenLaw}{w:World}{h:Heap}{mg:M2}{fa:Addr}(X:(KK w.params).In h)(G:h.Ns mainGlobals mg)(hfa:mg "law" = some θy) :
 ∃fd:FuncData,(∀(s:Shared) (v:Value),BindsTo s fd ⟨[v],[]⟩ [("_law_script",v)])/\∀base:Heap,(KK w.params).In base->base.Ns mainGlobals mg->bz l.prog w ιm mg base iZ 12 fa fd ["_law_script"] (Cz ιm):=by
 letI:KC:=⟨KK w.params,zzv⟩
 have Pc:∀{n:Str} (_:W.nsIn ιm mainGlobals n=some none:=by kernel_rfl),mg n=none:=λz=>W.mg_none_of X G z;have Aj:∀{n:Str}{v:Value} (_:W.nsIn ιm mainGlobals n=some δQ:=by kernel_rfl),mg n=some v:=λz=>W.mg_of X G z;have cl:iN.all (λC=>Xf.rj KC.K η (Xf.rh C) (Xf.uK C))=true:=by kernel_rfl
 have xc:∀C,iN.contains C=true->XC KC.K η:=λC hc=>(Xf.jL cl hc).2.xc;have nB:=Xf.jM (K:=KK w.params) (by kernel_rfl);obtain⟨nC,jh⟩:=Xf.jL cl (C:=.NoPoint) (by decide);obtain⟨l4,ji⟩:=Xf.pP (K:=KK w.params) (x:= "__init__") (q:= "NoPoint.__init__") (st:=ζm) (a:=117) (cd:=116) (pm:=q_) (by kernel_rfl) (by kernel_rfl) (by kernel_rfl);obtain⟨kU,cH⟩:=Xf.jL cl (C:=.NotServed) (by decide)
 have M:Nm mg:=by
  constructor
  all_goals try first|exact Pc|exact Aj|exact Xf.uL (by kernel_rfl) xc|exact Xf.Ah (by kernel_rfl) xc|exact Xf.Ag (by kernel_rfl)
  .exact⟨367,Aj⟩
  .exact⟨555,Aj⟩
  .exact⟨369,Aj⟩
  .exact λP w2 base=>⟨⟨117,l4,S_ F.excBase_LookupError (by decide +kernel) Xf.Ai nC (by kernel_rfl) (by kernel_rfl),zmy ji ⟨jh.xc,by kernel_rfl,by show W.findIn _ _ _=_;kernel_rfl⟩ nB (Pc),ji.binds (ps:=["self","point"]) λ_ _ _ _ _ _=>lq λ_ _=>rfl⟩,jh⟩
  .exact Ta F.excBase_ValueError (by decide +kernel) (XB.of F.excBase_ValueError) kU cH.xc (by kernel_rfl) (by kernel_rfl)
  .exact cH
  .exact⟨_,(by kernel_rfl:KC.K.lookup 1=some (Hd.dO w.params [Hd.de "builtins" 162 (.ref 4),Hd.de "__main__" 163 (.ref 5)] 2)),rfl⟩
  .exact⟨by kernel_rfl,by kernel_rfl,by kernel_rfl,by kernel_rfl⟩
  .exact Xg (by kernel_rfl) xc
  .exact(by show W.findIn _ _ _=_;kernel_rfl)
 have T:dF mg:=⟨Xf.bM (a:=169) (cd:=168) (pm:=pm4) X G,
  Xf.bM (a:=150) (cd:=149) (pm:=pm4) X G,
  Xf.bM (a:=157) (cd:=156) (pm:=pm4) X G,
  Xf.bM (a:=164) (cd:=163) (pm:=pm4) X G,
  ⟨184,(.ref 177),.none,.none,pm4,.ref 183,.none,.type "function",none,none, #[],by kernel_rfl,by kernel_rfl,⟨by kernel_rfl,by kernel_rfl,by kernel_rfl,by kernel_rfl⟩,(λs us X hl=>by rcases us with _|⟨a,_|⟨b,_|_⟩⟩<;>simp at hl;exact W.kp_binds X λS=>by kernel_rfl),(λs us X hl=>by rcases us with _|⟨a,_|_⟩<;>simp at hl;exact W.kp_binds X λS=>by kernel_rfl),(λs a us X hl=>by rcases us with _|⟨b,_|_⟩<;>simp at hl;exact W.kp_binds X λS=>by kernel_rfl)⟩,
  Xf.iu (a:=198) (cd:=197) (pm:=pm4),
  Xf.iu (a:=232) (cd:=231) (pm:=pm4),
  Xf.iu (a:=191) (cd:=190) (pm:=pm4),
  Xf.bM (a:=358) (cd:=357) (pm:=pm0) X G,
  Xf.bM (a:=339) (cd:=338) (pm:=pm5) X G,
  Xf.iu (a:=220) (cd:=219) (pm:=pm4),
  Xf.iu (a:=203) (cd:=202) (pm:=pm4),
  Xf.bM (a:=284) (cd:=283) (pm:=l5) X G,
  Xf.bM (a:=289) (cd:=288) (pm:=l5) X G,
  Xf.bM (a:=296) (cd:=295) (pm:=l5) X G,
  Xf.bM (a:=303) (cd:=302) (pm:=i7) X G,
  Xf.bM (a:=308) (cd:=307) (pm:=i7) X G,
  Xf.bM (a:=313) (cd:=312) (pm:=i7) X G,
  Xf.bM (a:=320) (cd:=319) (pm:=i7) X G,
  Xf.iu (a:=208) (cd:=207) (pm:=pm4),
  Xf.bM (a:=325) (cd:=324) (pm:=pm5) X G,
  Xf.bM (a:=267) (cd:=266) (pm:=l5) X G,
  Xf.bM (a:=274) (cd:=273) (pm:=l5) X G,
  Xf.bM (a:=279) (cd:=278) (pm:=l5) X G,
  Xf.bM (a:=332) (cd:=331) (pm:=pm5) X G,
  Xf.bM (a:=346) (cd:=345) (pm:=pm5) X G,
  Xf.bM (a:=387) (cd:=386) (pm:=pm0) X G,
  Xf.bM (a:=353) (cd:=352) (pm:=pm0) X G,
  Xf.bM (a:=365) (cd:=364) (pm:=pm0) X G,
  Xf.bM (a:=375) (cd:=374) (pm:=pm0) X G,
  Xf.bM (a:=380) (cd:=379) (pm:=pm0) X G,
  Xf.bM (a:=370) (cd:=369) (pm:=pm0) X G,
  Xf.bM (a:=392) (cd:=391) (pm:=pm0) X G,
  Xf.iu (a:=227) (cd:=226) (pm:=pm4),
  Xf.bM (a:=399) (cd:=398) (pm:=pm0) X G,
  Xf.bM (a:=404) (cd:=403) (pm:=pm0) X G⟩
 obtain⟨d,U⟩:=Xf.pP (K:=KK w.params) (x:= "law") (q:= "law") (st:=uI) (a:=404) (cd:=403) (pm:=pm0) (by kernel_rfl) (by kernel_rfl) (by kernel_rfl);have e:mg "law" = some (.ref 404):=Aj (by kernel_rfl);rw[hfa]at e;cases e;refine⟨d,λs v=>?_,λbase _ _=>(zwr T M U).imp λvs H Q E q=>ztu vs H Q E q⟩;obtain⟨oc,od,kV,doc,pm,an,cdv,ct,osl,e,_,_⟩:=U.ex;rw[e];exact .of_eq rfl
end cZ
namespace cZ
open PySem L2 Ex
theorem walk{l:W.OpenLaw}{q:Program}{loose:v6}{XP:(M2)->Heap->Prop}{YP:World->Heap->Prop}{d:DefRec}{K:Params->zze}(hn:l.most=some 63)(hdf:d.params.defaults=[])
 (hY:∀(w:World) (h:Heap),YP w h->(K w.params).In h)
 (F:∀(w:World) (mg:M2) (fa:Addr) (h:Heap),(K w.params).In h->h.Ns mainGlobals mg->mg d.name=some θy ->
  ∃fd:FuncData,(∀(s:Shared) (u:Value),BindsTo s fd ⟨[u],[]⟩ [("_law_script",u)])/\∀base:Heap,(K w.params).In base->base.Ns mainGlobals mg->bz l.prog w θu mg base iZ 12 fa fd ["_law_script"] (Cz θu)) :
 W.WalkO q loose XP YP l.row.toRowW d [] (λf vs=>PySem.call f vs):=
 L2.qA (n:=63) (k:=12) (x:= "_law_script") (CX:=λ_=>iZ) (sp:=λw=>Cz θu) hn (by decide) hdf ⟨rfl,by decide,by decide,rfl⟩ hY F (λ_ _ a ns hl _ hS=>⟨a,ns,rfl,hS,hl,λ_=>rfl⟩) λ_ _ _ _ _ z=>z
end cZ
open PySem PySem.W PyProof.Rows
set_option maxRecDepth 100000 in
set_option maxHeartbeats 0 in
theorem PySem.Challenge.cw_thirdpoint_k50_what_needs_a_point_holds : PySem.Challenge.rw_thirdpoint_k50_what_needs_a_point.Holds := by
 refine holds_law (by kernel_rfl) λsaid=>?_;refine PySem.W.holds_open (q:=view PySem.Challenge.pw_thirdpoint_k50_what_needs_a_point cZ.jg) (Yf:=Hook.obs δ4) (Ya:=Hook.val δ4) (YP:=Hook.says δ4) cZ.left (Hook.of δ4) (Hook.keeps δ4) (λs e=>xl_of s (Bool.and_eq_true_iff.mp e).1) XL.keeps (by rfl) (by rfl) (by rfl) (λs e=>recFacts_of (Bool.and_eq_true_iff.mp e).2) (by rfl) (by kernel_rfl) (by kernel_rfl) ⟨rfl,rfl,rfl,rfl,rfl,by kernel_rfl⟩ ?hw ?hc
 case hw=>exact⟨[.list []],by kernel_rfl,by kernel_rfl⟩
 case hc=>exact cZ.walk (l:=PySem.Challenge.rw_thirdpoint_k50_what_needs_a_point) rfl rfl (λw h Y=>PySem.W.kIn_of Y) λw mg fa h KX G hmg=>cZ.all_mk KX G hmg
