import PyProof.Rows.All
import PyProof.ForAny
import PyProof.TupleKey
import Wide.All
import OpenK.AllK
import Wide.FinOn
import Lean
import PyProof.EqAt
import PyProof.EqKinds
import PyProof.TupleCall
import PyProof.ExcClass3
import PyProof.ExcArgsOwn
import PyProof.InstStoreFacts
import PyProof.NsDelKeeps
import PyProof.CompUse
import PyProof.ConsumeWalk
import PyProof.ReprRoads
import PyProof.ReprBulk
import PyProof.ZipIter
import PyProof.TupleIter
import PyProof.EqLayable
import PyProof.EnumMake
import PyProof.EnumFor
import PyProof.WalkInts
import PyProof.SeqI3
import PyProof.Rows.SeqJoint
import PyProof.Rows.SortWalk
import PyProof.Rows.Range3
import PyProof.Rows.SortRuns
import KE.KSortTup
import PyProof.StrCalls2
import PyProof.StrCalls5
import PyProof.SliceStr2
import PyProof.StrLoop
import PyProof.StrWalks
import PyProof.Truth
import PyProof.Rows.SeqMore
import KE.KIntText
import PyProof.StrLawsFrom
import PyProof.StrLawsTight
import PyProof.StrLawsIdx
import PyProof.P3Eq
import PySem.Challenge.RW_thirdpoint_k58_texts_of_none
set_option bootstrap.genMatcherCode false
set_option genSizeOf false
set_option Elab.async false
set_option compiler.extract_closed false
set_option linter.all false
set_option maxRecDepth 100000
set_option maxHeartbeats 8000000
set_option autoImplicit true
set_option relaxedAutoImplicit true
abbrev T0:=PySem.Value->PySem.Shared->Prop
abbrev W1:=List (PySem.Addr×PySem.Obj)
abbrev M2:=PySem.Str->Option PySem.Value
abbrev P3:=List (Int×Int)
abbrev v4:=List PySem.Value
abbrev v6:=List PySem.Str
abbrev u8:=List Int
abbrev zza:=List PySem.Expr
abbrev zzb:=Option PySem.Value
abbrev zzc:=List Nat
abbrev zzd:=List PySem.Addr
abbrev zze:=PySem.W.Frag
abbrev zzf:=Option Int
abbrev zzg:=Array (Int×PySem.Value)
abbrev zzh:=Array PySem.Value
open Lean in
def gkT:="δ Inv X pins σ H s\nε model prog w\nζ model X.prog X.w\nη Array Keyed\nθ KC.cls C\nι ZS 0\nγa vn 0\nγb .ref C\nγc upd H2 s2.heap.objs.size (O s2.heap.objs.size e0)\nγd .ref s.heap.objs.size\nγe List D\nγf Al.refl s\nγg M (List RV)\nγh .lst xs\nγi gT 2 (bD (gN 0) (bD (gN 1) fk))\nγj ZS 1\nγk ER ios R H σ Γ\nγl starEach es X.env\nγm ni X Nc scope cl C s3 H3 fp pn'\nγn M.pure true\nγo VE X EE ios a f\nγp Zj (vn 1) ai\nγq view PySem.Challenge.pw_thirdpoint_k58_texts_of_none jk\nγr ZY ι m0\nγs .val (.bl false)\nγt Zj γa ai\nγu bq _\nγv List V\nγw dc rfl\nγx A.deeper (PyProof.Rows.envOfC qual (aa st) s.heap.objs.size fa cdv)\nγy .val (.bl true)\nγz .ref a\nγA nj M A E s κ φ El\nγB ha pins s σ H _ I h\nγC envOfC qual scope s.heap.objs.size f cd\nγD arrOf st''\nγE aw fr own σ\nγF Option Nat\nγG ZY γj m0\nγH W.fnOf x x (aZ st) (af st) (aa st) .none kV doc pm an cdv ct\nγI qah _\nγJ .inl rfl\nγK .tup xs\nγL W.fnOf name qual params body scope dV kV doc pm an cdv ct\nγM M.bind (op2 aS γj (kI 1)) cM\nγN ns.map V.int\nγO .ref p\nγP vn 1\nγQ bD (gN 3) (bD (gN 4) fk)\nγR Zj aU ai\nγS M.pure none\nγT EP X pins σ Q\nγU d_ (ZY (op2 bZ γj (op2 aS (kI 4) (op2 qk (kI 2) ι))) (ZY (op2 nU (op2 bZ γj (op2 aS (kI 5) (op2 qk (kI 2) ι))) (op2 aS (kI 1) (op2 bZ γj (kI 3)))) m0))\nγV Zj (vn 2) ai\nγW ZY (ZS 2) m0\nγX VE X EE ios e f\nγY bt ios R H σ Γ R1 H1 ao\nγZ Binds X.K fd ps ds\nγ0 .ref f\nγ1 .int i\nγ2 gD EE ios R H σ Γ\nγ3 bT es ep t\nγ4 arrOf st'\nγ5 .val .aq\nγ6 ha pos pins s σ H _ I h\nγ7 ch c\nγ8 cL γa au\nγ9 qan (qao (qai e) I.ok.above)\nδa Option Addr\nδb he pins s σ H _ I h\nδc w.params.setOrder a ep\nδd .lst (ks.map D.int)\nδe cK X (compareOp op) r\nδf bB X.prog X.w X.K X.mg X.base CX k f fd ps sp\nδg W.fnOf x qual (aZ st) (af st) (aa st) .none kV doc pm an cdv ct\nδh VA X EE ios es fs\nδi vn 3\nδj ZS 3\nδk op2 bZ ι (kI 0)\nδl jv X scope Nc own fr\nδm fG rvs\nδn aL bg bh γP au\nδo kI 1\nδp .Name x p\nδq dU fr own aC\nδr nV (mJ iQ bO (hr.mono bP) rfl (Zj γa (Zj (vn 6) γR)))\nδs bB X.prog X.w X.K X.mg X.base (jS X.prog X.w) k f fd ps sp\nδt SetTable.below xs j\nδu List Env\nδv .ex (xN 0)\nδw Zj au ai\nδx k9 CX P w K mg base N qual scope f cdv A outer s H E\nδy aa st\nδz F.map D.int\nδA gam N ds\nδB cB ios R H σ Γ R1 H1 gM ao\nδC M Bool\nδD vB jT jU M.bU γt\nδE tl w\nδF some (.ref b)\nδG dZ P w H h\nδH .ref x\nδI .int _\nδJ ML φ a b out ia ib\nδK List Stmt\nδL K.In s.heap\nδM h_ hr\nδN bD (gN 1) (bD (gN 2) fk)\nδO qau.mp d\nδP qaf _ hx\nδQ Ow σ Γ\nδR some v\nδS ki EE ios R H σ Γ\nδT .Attribute o m apos\nδU aK R xs ds\nδV kHook dW.KK dW.tu dW.iH\nδW dU fr own Γ\nδX ZY (kI 0) m0\nδY VI X EE ios tg iter items\nδZ some x\nδ0 boot_heap w.params\nδ1 .ref I\nδ2 bC G\nδ3 aH k X.A\nδ4 Loc X.env.scope x\nδ5 List α\nδ6 eM gG ι (M.bind γj cM) γM\nδ7 W.instObj C s.heap.objs.size\nδ8 I.ok.hd hc\nδ9 .bool true\nεa upd H dx (.own x)\nεb p1.trans p2\nεc .val (.int xs.length)\nεd .str (toString i)\nεe .ref D\nεf qbH.mp h C (List.contains_iff_mem.mp hc)\nεg Vals dvs ds\nεh InstAt s.heap x ox C od\nεi .lst ys\nεj .Name x pos\nεk ts.map D.str\nεl ns.map D.int\nεm .ins C dx fs\nεn qan (qao (qai e) (I.ok.cab x c hfn hc))\nεo .str (Txt.join x ts)\nεp sw pts\nεq some k\nεr ho pins s2 σ H2 x y v u _ I2 r1 r2 q2\nεs ps.zip us\nεt importedModules PySem.Challenge.pw_thirdpoint_k58_texts_of_none.main.body\nεu ef cs\nεv I.base.keep b o e n hb hx\nεw .val (.str y)\nεx VE X EE ios b g\nεy KC.cls T\nεz .val d\nεA .str x\nεB .builtin id\nεC ix γa (dk γP) (dk δn)\nεD hb pins s1 σ H1 _ I1 q1\nεE sA ios R H σ Γ D\nεF dD C a (some d) fr\nεG List Keyed\nεH dv bW (hr.mono bX) rfl (Zj (vn 8) (Zj (vi δi (dk au) (dk au)) γR))\nεI qay _ (qay _ (AE hb e))\nεJ nV (mJ iQ a_ (hr.mono ba) rfl γt)\nεK eval e X.env\nεL Zj (vn 4) ai\nεM ZY (ZS 4) m0\nεN ZS 2\nεO SetTable.grown es1.size\nεP mat rv\nεQ dD C a none fr\nεR .ref e\nεS vB jT jU M.bU γV\nεT model P w\nεU excClassObj nm qn C N bs tl hd sn sub ab col dd j0 j1 j2 j3 j5 nw\nεV Zj γ8 ai\nεW PE X a ta\nεX Gl X x\nεY vn 2\nεZ bt.refl er\nε0 M.cq _ _ _\nε1 MH φ a b out na nb\nε2 qY φ El a b\nε3 jA (AZ (bw δM ic γ8 aU γu) (AY (bw (mC hr) mE γa aU γu)))\nε4 dQ es t B zs\nε5 some s\nε6 peek x\nε7 ny _ _\nε8 g i j\nε9 binaryOp .Add\nζa SetTable.turns M\nζb M.bind f aO\nζc .bl b\nζd .Name self p0\nζe A.deeper (PyProof.Rows.envOfC x δy s.heap.objs.size fa cdv)\nζf dS s.heap z p\nζg cK X (compareOp op') r'\nζh gN 0\nζi bw δM ic γa au γu\nζj bw δM ic γa aU γu\nζk List Z\nζl L2.inClass (top 5) 0\nζm .Slice lo hi none p2\nζn upd H a o\nζo p2.al al\nζp dv b8 (hr.mono b9) rfl (Zj (ix γa (dk δn) (dk εY)) ai)\nζq dD C a dd false\nζr cR ai\nζs cL γP au\nζt arrOf st\nζu ag.refl _\nζv aD m0\nζw Zj δi ai\nζx ZY δj m0\nζy Ow σ ao\nζz Nat.mod_lt _ (Nat.succ_pos M)\nζA .bl false\nζB .bl _\nζC some e\nζD rs.map D.str\nζE lent δQ R H\nζF Ri κ φ a0 rs rest st\nζG vn 5\nζH tl z\nζI some ks\nζJ some (.Name x pos')\nζK setNext a slot i ep\nζL eM gG ι γS (M.bind δj cM)\nζM ZS 5\nζN .tup ds\nζO .UnaryOp .Not a pos\nζP bB X.prog X.w X.K X.mg X.base (jS X.prog X.w) k f fd ps si\nζQ XOk X EE\nζR sw cs\nζS intKind_is _ _ _ _\nζT fm fr own m p f ds\nζU p9 (.ref T) i a es.size ep\nζV fs.lookup f\nζW op2 bZ ι δo\nζX cR (Zj (gj (Zj aU γV)) (Zj (gj (Zj aU δw)) ai))\nζY cL δi au\nζZ cD gO γr\nζ0 M.bind (op2 kh γj kN) aO\nζ1 Classical.propDecidable p\nζ2 .ref h1.objs.size\nζ3 .ref (KC.cls x.C)\nζ4 .lst ds\nζ5 .compLoop ce k it acc env\nζ6 Zj (aL bg bh (aL rO sH (cR γR) au) (cR γR)) ai\nζ7 mG ios own gt m\nζ8 bD (gN 7) (bD (gN 8) fk)\nζ9 ZY (op2 bZ ι (kI 2)) m0\nηa VT X EE ios a p\nηb SetTable.below t.place j\nηc PI X tg iter wi\nηd M.bind (op2 kh ι kN) aO\nηe List Cn\nηf p2.back er\nηg jS P w\nηh fH rvs\nηi M.bind (ZS 7) cM\nηj .str _\nηk .int n\nηl qai e\nηm mC hr\nηn f (.int i t) (.int j u)\nηo af st\nηp cw lU (ZY (eM gG ι γM (M.bind εN cM)) m0)\nηq s _ _ e\nηr kI 0\nηs eval iter X.env\nηt O s2.heap.objs.size ys\nηu I.hok.fresh γI\nηv I.base.free b o e n hx\nηw .ref θ\nηx .ref s2.heap.objs.size\nηy .head _\nηz .builtin initId\nηA .bl (bs.all id)\nηB ni X (vQ X.N x fr) scope cl C s3 H3 fp pn'\nηC bB X.prog X.w X.K X.mg X.base jt k fI fd ps sp\nηD t.advance p\nηE qa5 hj\nηF nw δE\nηG jE items fr own m p f\nηH eM gG ι (M.bind (op2 aS δj δo) cM) γS\nηI cC X EE ios sts s\nηJ bm δA\nηK aN (bS γP)\nηL PE X b tb\nηM Array γF\nηN .str z\nηO .int k tk\nηP tm M\nηQ t.probeStart h\nηR op2 bZ δj δo\nηS hs4.k.trans hk\nηT dD C a dd true\nηU bF (d_ (ZY kN (ZY (op2 aS γj δo) m0)))\nηV W.kitx_own (cl.get _) cl.hd ha hn htk hm\nηW jy EE ios t f\nηX he cl C s3 H3 fp pn'\nηY ah N ps δy\nηZ Un φ El a0\nη0 List.replicate 24 31\nη1 List PyData\nη2 HT.iP xs.length 0 lo\nη3 ExcBaseFacts D nw qK un\nη4 Array (zzb)\nη5 .int (Txt.count z y)\nη6 cL γP (aL bg bh au (aL w6 xH au γa))\nη7 w5 r ta tb\nη8 vn 4\nη9 start N vs\nθa qaZ _\nθb m5 d fs\nθc kt k\nθd bw mw mF γa e_ γu\nθe bw mw mF γP e_ γu\nθf ZS 4\nθg X.body E' pn'\nθh Str.join y ps\nθi K w.params\nθj D.dR ds\nθk .ref it\nθl .ref fa\nθm .int j\nθn vi δi (dk au) (dk (aL bg bh au ζY))\nθo qa5 hji\nθp bS (gj (Zj aU ζw))\nθq p1.al al\nθr gT 2 γQ\nθs KC.cls B\nθt KC.cls A\nθu .var i\nθv x.above y c (PySem.mem_of_lookup h)\nθw ra.rv (p1.back er)\nθx mU.extBut b o hb e\nθy ix γa k_ (dk δi)\nθz dv bQ (hr.mono bR) rfl (Zj γ8 γp)\nθA ag R H\nθB aL bg bh (vn 6) au\nθC VT X EE ios c p\nθD PE X e te\nθE Option α\nθF List (Option V)\nθG KC.cls .PointError\nθH Dv.a7 fr own aC yb\nθI .ret (.val (dE i))\nθJ .Attribute e y pos\nθK .Attribute e f pos\nθL σ.set i δZ\nθM tx t\nθN ks.map D.int\nθO hP z\nθP dD C a (some s2.heap.objs.size) fr\nθQ Vals xs us\nθR J.AQ I.ok.hd\nθS I.ok.hd calm\nθT .type (vk d)\nθU vB jT jU M.bU γp\nθV qbD _\nθW op2 aS (ZS 6) δo\nθX ix γa k_ (dk au)\nθY hashInt k\nθZ getMethod ov m pl\nθ0 dd ns\nθ1 cD gO γW\nθ2 ZY ι γG\nθ3 Im P w mg base aT pB\nθ4 ForInStep.yield r\nθ5 EE σ\nθ6 .str (reprText x)\nθ7 .candidate j i nx\nθ8 ix γa (dk (aL bg bh δi au)) k_\nθ9 eM gG ι γS (M.bind (kI 31) cM)\nιa typeIs_str _ _ _\nιb p9 (.int slot 0) i a es.size ep\nιc mk w\nιd lD s.heap x dx C mA\nιe k6.of (s _ _ h1)\nιf iT G\nιg ext R3 H3 b\nιh dZ X.prog X.w H' h'\nιi compareOp .NotEq\nιj List RV\nιk List Bool\nιl KK w.params\nιm I1.hok.fresh γI\nιn DZ r r' ta tb tc\nιo Ax b o e hx\nιp .type B\nιq .new d\nιr cR (Zj au (Zj au (Zj au δw)))\nιs aL qE qP ζs (aL bg bh δD au)\nιt List.getLast?_eq_none_iff.mp q\nιu Int.le_trans (qaC h1) (qaC h2)\nιv xs.map f"
open Lean in
def gkL(t:String):Syntax:=if t.startsWith "." then .node .none ``Parser.Term.dotIdent #[mkAtom ".",mkIdent (t.drop 1).toString.toName] else if t=="_" then .node .none ``Parser.Term.hole #[mkAtom "_"] else if t.isNat then Syntax.mkNumLit t else mkIdent t.toName
open Lean in
def gkM(x:List Syntax):Syntax:=match x.reverse with
|[]=>.missing
|[f]=>f
|f::a=>.node .none ``Parser.Term.app #[f,mkNullNode a.toArray]
open Lean in
def gkP(s:String):Syntax:=gkM (((((s.replace "(" "( ").replace ")" " )").splitOn " ").foldl (fun k t=>if t=="(" then []::k else if t==")" then match k with
|x::y::r=>(gkM x::y)::r
|_=>k else match k with
|x::r=>(gkL t::x)::r
|_=>k) [[]]).headD [])
open Lean in
def gkF(x:Name):Option Syntax:=match x with
|.str .anonymous s=>if s.front<'γ'||s.front>'ι' then none else ((gkT.splitOn "\n").find? (·.startsWith (s++" "))).map fun l=>gkP (l.drop (s.length+1)).toString
|_=>none
local macro_rules
|`($x:ident)=>match x.getId with
 |`ω=>`(by omega)
 |`ξ=>`(by decide)
 |n=>match gkF n with
  |some y=>pure y
  |none=>Lean.Macro.throwUnsupported
noncomputable section
noncomputable def qaa:=@PySem.wpAny_bind
noncomputable def qab:=@PySem.Heap.get?_push_of_some
noncomputable def qac:=@List.getElem?_eq_some_iff
noncomputable def qad:=@PySem.wpAny_pure
noncomputable def qae:=@List.getElem?_eq_getElem
noncomputable def qaf:=@List.mem_cons_of_mem
noncomputable def qag:=@List.length_map
noncomputable def qah:=@Nat.le_refl
noncomputable def qai:=@PySem.Heap.lt_size
noncomputable def qaj:=@List.mem_cons_self
noncomputable def qak:=@List.getElem?_set_ne
noncomputable def qal:=@PyProof.Rows.wpS_bind
noncomputable def qam:=@List.length_append
noncomputable def qan:=@Nat.ne_of_lt
noncomputable def qao:=@Nat.lt_of_lt_of_le
noncomputable def qap:=@Array.getElem?_eq_getElem
noncomputable def qaq:=@List.getElem?_set_self
noncomputable def qar:=@PySem.Heap.get?_push_size
noncomputable def qas:=@PyProof.Rows.wpS_pure
noncomputable def qat:=@Bool.false_ne_true
noncomputable def qau:=@beq_iff_eq
noncomputable def qav:=@List.mem_cons
noncomputable def qaw:=@Array.getElem?_toList
noncomputable def qax:=@if_neg
noncomputable def qay:=@List.mem_append_right
noncomputable def qaz:=@if_pos
noncomputable def qaA:=@Array.length_toList
noncomputable def qaB:=@List.mem_of_getElem?
noncomputable def qaC:=@of_decide_eq_true
def qaD:=@PySem.F.plainAttrs_str
noncomputable def qaE:=@List.getElem?_map
noncomputable def qaF:=@List.mem_map
noncomputable def qaG:=@List.drop_eq_nil_of_le
noncomputable def qaH:=@Option.some.inj
noncomputable def qaI:=@List.getElem?_append_right
noncomputable def qaJ:=@Nat.le_trans
noncomputable def qaK:=@List.mem_append
noncomputable def qaL:=@List.getElem?_append_left
noncomputable def qaM:=@Array.getElem?_eq_some_iff
noncomputable def qaN:=@decide_eq_true
noncomputable def qaO:=@List.take_append_drop
noncomputable def qaP:=@List.map_cons
noncomputable def qaQ:=@List.size_toArray
noncomputable def qaR:=@List.length_drop
noncomputable def qaS:=@Array.toList_append
noncomputable def qaT:=@List.mem_singleton
noncomputable def qaU:=@PySem.Heap.get?_update_other
noncomputable def qaV:=@List.append_assoc
noncomputable def qaW:=@List.length_cons
noncomputable def qaX:=@List.take_of_length_le
noncomputable def qaY:=@decide_eq_false
noncomputable def qaZ:=@Nat.zero_le
noncomputable def qa0:=@List.length_take
noncomputable def qa1:=@Bool.and_eq_true
noncomputable def qa2:=@Array.getD_eq_getD_getElem?
noncomputable def qa3:=@List.mem_append_left
noncomputable def qa4:=@List.pairwise_append
noncomputable def qa5:=@Ne.symm
noncomputable def qa6:=@PySem.wpAny_mono
noncomputable def qa7:=@List.pairwise_iff_getElem
noncomputable def qa8:=@List.drop_eq_getElem_cons
noncomputable def qa9:=@List.mem_iff_getElem?
def qba:=@PySem.F.slot_str_join
def qbb:=@PySem.F.type_str_join
noncomputable def qbc:=@List.length_set
noncomputable def qbd:=@PySem.PassesOwn.never
noncomputable def qbe:=@PySem.wpAny_setState_of
noncomputable def qbf:=@PyProof.Rows.wpS_forRange
noncomputable def qbg:=@List.replicate_succ
noncomputable def qbh:=@PySem.wpAny_holding
noncomputable def qbi:=@List.getElem?_drop
noncomputable def qbj:=@List.map_append
noncomputable def qbk:=@List.nodup_cons
noncomputable def qbl:=@PySem.wpAny_call_entry
noncomputable def qbm:=@List.lookup_cons
noncomputable def qbn:=@PySem.wpAny_newObj_type
noncomputable def qbo:=@List.map_map
noncomputable def qbp:=@List.length_eq_zero_iff
noncomputable def qbq:=@Nat.lt_irrefl
noncomputable def qbr:=@Int.emod_lt_of_pos
noncomputable def qbs:=@Int.emod_nonneg
noncomputable def qbt:=@PySem.wpAny_Call_Name_kw
noncomputable def qbu:=@decide_eq_false_iff_not
noncomputable def qbv:=@Array.perm_iff_toList_perm
noncomputable def qbw:=@Option.map_eq_some_iff
noncomputable def qbx:=@List.filterMap_cons
noncomputable def qby:=@PySem.wpAny_truthy_bool
noncomputable def qbz:=@PySem.wpAny_loadPart_at
noncomputable def qbA:=@List.mem_range
noncomputable def qbB:=@PySem.wpAny_standAt
noncomputable def qbC:=@List.all_cons
noncomputable def qbD:=@Nat.not_lt_zero
noncomputable def qbE:=@List.append_nil
noncomputable def qbF:=@List.length_replicate
noncomputable def qbG:=@PySem.wpAny_askSetting
noncomputable def qbH:=@List.all_eq_true
noncomputable def qbI:=@Array.toList_extract
noncomputable def qbJ:=@List.mem_of_mem_drop
noncomputable def qbK:=@List.mem_of_mem_take
noncomputable def qbL:=@List.getElem?_replicate
noncomputable def qbM:=@Nat.add_sub_cancel_left
def qbN:=@PySem.F.plainAttrs_list
noncomputable def qbO:=@List.take_sublist
noncomputable def qbP:=@List.flatten_cons
noncomputable def qbQ:=@List.drop_sublist
noncomputable def qbR:=@List.count_append
noncomputable def qbS:=@List.reverse_append
noncomputable def qbT:=@List.getElem_mem
noncomputable def qbU:=@Nat.lt_succ_self
noncomputable def qbV:=@List.mem_reverse
noncomputable def qbW:=@eq_false
namespace St
open PySem
noncomputable def nJ(xs:Array Nat):Prop:=xs.toList.Pairwise (· < ·)
def PL(xs:Array Nat)(j:Nat)(hr:nJ xs):∀(fuel lo hi:Nat),hi-lo<=fuel->lo<=hi->hi<=xs.size->(∀i,i<lo->xs.getD i j<j)->(∀i,hi<=i->i<xs.size->j<=xs.getD i j) ->
 let p:=SetTable.below.go xs j fuel lo hi
 p<=xs.size/\(∀i,i<p->xs.getD i j<j)/\∀i,p<=i->i<xs.size->j<=xs.getD i j:=by
 have mono:∀a b,a<=b->b<xs.size->xs.getD a j<=xs.getD b j:=λa b h hb=>by
  rcases Nat.lt_or_ge a b with h1|h1
  .have:=(qa7.mp hr) a b (by simpa using Nat.lt_trans h1 hb) (by simpa using hb) h1;simp only[Array.getElem_toList]at this;rw[qa2,qa2,qap hb,qap (Nat.lt_trans h1 hb)];exact Nat.le_of_lt this
  .have:a=b:=by omega
   subst this;exact qah _
 intro fuel;induction fuel with
 |zero =>
   intro lo hi h1 h2 h3 h4 h5;have:lo=hi:=by omega
   subst this;exact⟨h3,h4,h5⟩
 |succ f ih =>
   intro lo hi h1 h2 h3 h4 h5;dsimp only;unfold SetTable.below.go;by_cases c:lo<hi
   .rw[qaz c];dsimp only;by_cases c2:xs.getD ((lo+hi)/2) j<j
    .rw[qaz c2];exact ih _ _ ω ω h3 (λi hi'=>Nat.lt_of_le_of_lt (mono i _ ω ω) c2) h5
    .rw[qax c2];exact ih _ _ ω ω ω h4 (λi hi' hs=>qaJ (Nat.le_of_not_lt c2) (mono _ i hi' hs))
   .rw[qax c];have:lo=hi:=by omega
    subst this;exact⟨h3,h4,h5⟩
def Du(hr:nJ xs)(j:Nat):SetTable.below xs j<=xs.size/\(∀i,i<SetTable.below xs j->xs.getD i j<j)/\∀i,SetTable.below xs j<=i->i<xs.size->j<=xs.getD i j:=
 PL xs j hr xs.size 0 xs.size ω θa γI (λi h=>absurd h θV) (λi h1 h2=>absurd h2 (Nat.not_lt_of_le h1))
def nK{xs:Array Nat}(h:i<xs.size):xs.getD i j=xs[i]:=by rw[qa2,qap h];rfl
def Ir(hr:nJ xs)(hj:xs[SetTable.below xs j]?≠some j):nJ (SetTable.insertAt xs δt j):=by
 obtain⟨h1,h2,h3⟩:=Du hr j;have hr':=hr;unfold nJ at hr ⊢;rw[SetTable.toList_insertAt];have hs:(xs.toList.take δt++xs.toList.drop δt).Pairwise (· < ·):=by rw[qaO];exact hr
 rw[qa4]at hs ⊢
 have lo:∀a∈xs.toList.take δt,a<j:=λa ha=>by
  obtain⟨i,hi,rfl⟩:=List.mem_iff_getElem.mp ha;have hi':i<SetTable.below xs j/\i<xs.size:=by simp at hi;omega
  have:=h2 i hi'.1;rw[nK hi'.2]at this;simpa using this
 have hi:∀a∈xs.toList.drop δt,j<a:=λa ha=>by
  obtain⟨i,hi,rfl⟩:=List.mem_iff_getElem.mp ha;have hi':SetTable.below xs j+i<xs.size:=by simp at hi;omega
  have hb:SetTable.below xs j<xs.size:=by omega
  have l1:=h3 δt γI hb;rw[nK hb]at l1;have l2:xs[SetTable.below xs j]≠j:=λe=>hj (by rw[qap hb,e]);have l3:=h3 (SetTable.below xs j+i) (Nat.le_add_right _ _) hi';rw[nK hi']at l3;simp only[List.getElem_drop,Array.getElem_toList];rcases Nat.eq_zero_or_pos i with z|z
  .subst z;exact Nat.lt_of_le_of_ne l1 (qa5 l2)
  .have:=(qa7.mp hr) δt (SetTable.below xs j+i) (by simpa using hb) (by simpa using hi') ω;simp only[Array.getElem_toList]at this;omega
 refine⟨hs.1,List.pairwise_cons.mpr ⟨hi,hs.2.1⟩,λa ha b hb=>?_⟩;rcases qav.mp hb with rfl|hb
 .exact lo a ha
 .exact Nat.lt_trans (lo a ha) (hi b hb)
def PM(n:Nat):nJ (Array.range n):=by unfold nJ;simp only[Array.toList_range];exact List.pairwise_lt_range
def Dw(j:Nat):SetTable.has #[] j=false:=by unfold SetTable.has;simp
def Iu{t:SetTable}(hd:t.dummies=#[])(h:t.slot j=.empty):t.place[SetTable.below t.place j]?≠some j:=by unfold SetTable.slot at h;dsimp only at h;intro e;rw[e]at h;simp at h
def An{t:SetTable}(hd:t.dummies=#[])(j:Nat):t.slot j≠.dummy:=by
 unfold SetTable.slot;dsimp only;rw[hd,Dw];split
 .intro h;cases h
 .intro h;cases h
def Iv{t:SetTable}(hd:t.dummies=#[])(f:Nat->Int)(h:Int):∀(n:Nat) (p:SetTable.Probe) (j:Nat) (d:γF),p.dummy=none->SetTable.probe.go t f h n p=some (.empty j d)->d=none/\t.slot j=.empty:=by
 intro n;induction n with
 |zero=>intro p j d _ e;cases e
 |succ n ih =>
   intro p j d hp e;unfold SetTable.probe.go at e;split at e
   .rename_i q;cases e;exact⟨hp,q⟩
   .rename_i q;exact absurd q (An hd _)
   .rename_i i q;split at e
    .cases e
    .refine ih _ j d ?_ e;unfold SetTable.advance;split
     .exact hp
     .exact hp
structure iM(t:SetTable)(B:Bool):Prop where
 rise:nJ t.place
 ou:t.dummies=#[]
 led:t.led = !B
def iM.standIn(h:iM t B)(n:Nat):iM (t.standIn n) B:=⟨PM n,rfl,h.led⟩
def iM.orStandIn(h:iM t B)(n:Nat):iM (t.orStandIn n) B:=by
 unfold SetTable.orStandIn;split
 .exact h
 .exact h.standIn n
def iM.layNew(h:iM t B)(es:zzg)(k:Int)(x:Value):iM (layNew t es k x).2.1 B:=by
 unfold PySem.layNew;cases q:t.freeSlot k with
 |none=>exact h.standIn _
 |some r =>
   obtain⟨slot,wd⟩:=r;dsimp only;refine iM.orStandIn ?_ _
   have hs:t.slot slot=.empty:=by
    unfold SetTable.freeSlot SetTable.probe at q;split at q
    .rename_i j d e;obtain⟨rfl,hs⟩:=Iv h.ou _ _ _ _ _ _ rfl e;cases q;exact hs
    .cases q
   unfold SetTable.put;dsimp only;exact⟨Ir h.rise (Iu h.ou hs),by rw[h.ou,Dw];rfl,h.led⟩
def Iw(owner:ηM)(n:Nat):((((List.range n).filterMap λj=>(owner.getD j none).map (j, ·)).map (·.1)).toArray).toList.Pairwise (· < ·):=by
 have e:(((List.range n).filterMap λj=>(owner.getD j none).map (j, ·)).map (·.1))=(List.range n).filter λj=>(owner.getD j none).isSome:=by
  induction List.range n with
  |nil=>rfl
  |cons a r ih =>
    rw[qbx,List.filter_cons];cases q:owner.getD a none with
    |none=>simpa [q]using ih
    |some b=>simpa [q]using ih
 rw[e];exact List.Pairwise.sublist List.filter_sublist List.pairwise_lt_range
def iM.relayAll(h:iM t B)(es:zzg)(n:Nat):iM (relayAll t es n).2.1 B:=by
 unfold PySem.relayAll;split
 .rename_i t' order q;dsimp only;split
  .unfold SetTable.relaid SetTable.laid at q;cases r:SetTable.layClean (SetTable.sizeAbove n-1) (es.map (·.1)) with
   |none=>rw[r]at q;cases q
   |some owner =>
     rw[r]at q;cases q;exact⟨Iw owner _,rfl,h.led⟩
  .exact h.standIn _
 .exact h.standIn _
def iM.fresh(B:Bool):iM (.fresh 0 0 (!B)) B:=⟨List.Pairwise.nil,rfl,rfl⟩
end St
namespace St
open PySem PyProof.Rows
noncomputable def uX(e:Int×Value):Int:=match e.2 with
 |.int k _=>k
 |_=>0
noncomputable def Good(e:Int×Value):Prop:=∃k t,e=(hashInt k,.int k t)
noncomputable def bT(es:zzg)(ep:Nat)(t:SetTable):Obj:={cls:=.type "set",dict:=none,data:=.set es ep t,slots:= #[]}
def ij(B:Bool)(h:Heap)(a:Addr)(l:u8):Prop:=∃es ep t,h.get? a=some γ3/\(∀e∈es.toList,Good e)/\(es.toList.map uX).Perm l/\iM t B/\t.fits es.size=true
def ij.at{h h':Heap}(x:ij B h a l)(k:∀o,h.get? a=some o->h'.get? a=some o):ij B h' a l:=by obtain⟨es,ep,t,e,r⟩:=x;exact⟨es,ep,t,k _ e,r⟩
section
variable{prog:Program}{w:World}{A:Around}{E:T0}{s:Shared}
def PN(h:∀e∈l,Good e):ElemsOf (intKind prog w) l:=λe he=>by obtain⟨k,t,rfl⟩:=h e he;exact⟨⟨k,intKind_is _ _ _ _,rfl⟩,rfl⟩
def Iy(h:Good e)(k:Int):(intKind prog w).is k e.2=decide (uX e=k):=by obtain⟨k',t,rfl⟩:=h;rw[KeyKind.is_eq_decide (intKind_is prog w k' t) k];exact decide_eq_decide.mpr ⟨Eq.symm,Eq.symm⟩
def Ao{h:Heap}(e:h.get? a=some γ3):(h.update a (Obj.putSet es' t')).get? a=some (bT es' (ep+1) t'):=
 Heap.get?_update_self (Obj.putSet es' t') e rfl
def add_int(hS:ij B s.heap a l)(hn:l.length+1<scanBound)
 (h:∀(b:Bool) h',Heap.SameBut a s.heap h'->ij B h' a (step_dedup l k)->Q b {s with heap:=h'}):wpAny ε A (setAddHashed a ηO θY) Q E s:=by
 obtain⟨es,ep,t,ho,hg,hp,hh,hf⟩:=hS;have hel:ElemsOf (intKind prog w) es.toList:=PN hg;have hsz:es.size=l.length:=by rw[<-qaA,<-hp.length_eq,qag]
 have hb:es.size<scanBound:=by omega
 unfold  setAddHashed setAddHashedIn;refine qbh (qaa ?_);refine qbe ho rfl hf ?_;dsimp only;rw[byScan_of (knd:=intKind prog w) (x:=.int k tk) rfl hb hel,qaz rfl];refine qaa ?_;unfold setAddByScan;refine qaa (wpAny_rule (qaa ?_));refine wpAny_setScan_of (knd:=intKind prog w) (k:=k) ζS ho rfl hf hel ?_
 have hany:l.any (· == k)=true ↔ ∃e∈es.toList,uX e=k:=by
  rw[List.any_eq_true];constructor
  .rintro⟨y,hy,e⟩;rw[<-hp.mem_iff,qaF]at hy;obtain⟨e',he,rfl⟩:=hy;exact⟨e',he,by simpa using e⟩
  .rintro⟨e,he,hk⟩;exact⟨k,hp.mem_iff.mp (qaF.mpr ⟨e,he,hk⟩),by simp⟩
 cases hr:List.findIdx? (λe=>(intKind prog w).is k e.2) es.toList with
 |some j =>
   dsimp only;obtain⟨hj,hpj,_⟩:=List.findIdx?_eq_some_iff_getElem.mp hr;rw[Iy (hg _ (qbT hj))]at hpj;have hin:l.any (· == k)=true:=hany.mpr ⟨_,qbT hj,qaC hpj⟩;refine qad (qad ?_);have:=h false s.heap (Heap.SameBut.refl a s.heap) ⟨es,ep,t,ho,hg,by unfold step_dedup;rw[if_pos hin];exact hp,hh,hf⟩;exact this
 |none =>
   dsimp only
   have hnot:¬l.any (· == k)=true:=λz=>by obtain⟨e,he,hk⟩:=hany.mp z;have:=List.findIdx?_eq_none_iff.mp hr e he;rw[Iy (hg e he),qaN hk]at this;cases this
   have hperm:=layNew_perm t es θY ηO;have hfits:=layNew_fits t es θY ηO;have qy:=hh.layNew es θY ηO;generalize hL:layNew t es θY ηO=L at hperm hfits qy ⊢;obtain⟨es1,t1,wd,gv⟩:=L;dsimp only at hperm hfits qy ⊢;rw[Array.toList_push]at hperm
   have hg1:∀e∈es1.toList,Good e:=λe he=>by
    rcases qaK.mp (hperm.mem_iff.mp he) with q|q
    .exact hg e q
    .rw[qaT]at q;exact⟨k,tk,q⟩
   have hp1:(es1.toList.map uX).Perm (step_dedup l k):=by unfold step_dedup;rw[qax hnot];refine(hperm.map uX).trans ?_;rw[qbj];exact hp.append (List.Perm.refl _)
   have hsz1:es1.size=es.size+1:=by rw[<-qaA,hperm.length_eq,qam,qaA];rfl
   have g1:∀t2,(s.heap.update a (Obj.putSet es1 t2)).get? a=some (bT es1 (ep+1) t2):=λt2=>Ao ho;have mU:∀t2,Heap.SameBut a s.heap (s.heap.update a (Obj.putSet es1 t2)):=λt2=>Heap.SameBut.update s.heap a _
   have gw:∀{m:Sem Unit}{aF:Shared}{Q':Unit->Shared->Prop},(m=rule "set.scan.the-table-gave-way" \/ m=pure ())->Q' () aF->wpAny ε A m Q' E aF:=λ{m aF Q'} hm hq=>by
    rcases hm with rfl|rfl
    .exact wpAny_rule hq
    .exact qad hq
   refine qaa (gw (by cases gv;exact .inr rfl;exact .inl rfl) ?_);have hv:hashByValue 8 ηO=pure true:=hashByValue_scannable 8 (x:=.int k tk) rfl;rw[hv,ite_self];refine qaa (qad ?_);rw[qaz rfl];refine qaa (wpAny_storeSet_of ho rfl ?_ (fits_of_scanBound ω));split
   .have p2:=relayAll_perm t1 es1 εO;have fr:=relayAll_fits t1 es1 εO;have hr2:=qy.relayAll es1 εO;generalize relayAll t1 es1 εO=Rl at p2 fr hr2 ⊢;rcases Rl with ⟨es2,t3,g2⟩;dsimp only at p2 fr hr2 ⊢;refine qaa (gw (by cases g2;exact .inr rfl;exact .inl rfl) ?_);have z2:es2.size=es1.size:=by rw[<-qaA,p2.length_eq,qaA]
    refine qaa (wpAny_storeSet_of (g1 t1) rfl ?_ (fits_of_scanBound ω));exact qad (qad (h true _ ((mU t1).trans (Heap.SameBut.update _ a _)) ⟨es2,_,t3,Ao (g1 t1),λe he=>hg1 e (p2.mem_iff.mp he),(p2.map uX).trans hp1,hr2,fr⟩))
   .exact qad (qad (h true _ (mU t1) ⟨es1,_,t1,g1 t1,hg1,hp1,qy,hfits⟩))
end
end St
namespace St
open PySem PyProof.Rows PySem.Spec
section
variable{prog:Program}{w:World}{A:Around}{E:T0}{s:Shared}
def oy:∀(l σ:u8),(l.foldl step_dedup σ).length<=σ.length+l.length:=length_foldl_step_dedup_le
def zsV(l:u8)(k:Int):(l++[k]).foldl step_dedup []=step_dedup (l.foldl step_dedup []) k:=by rw[List.foldl_append];rfl
def PQ(W:Walks prog w A.in1 I fp wr n P Wt)(hSf:S∉fp)(ns:u8)(hl:ns.length=n)
 (hv:∀i v,P i v->∃t,v=.int (ns.getD i 0) t) (hn:n+1<scanBound):∀(k i:Nat) (s:Shared),n-i=k->i<=n->Wt i s.heap->ij B s.heap S ((ns.take i).foldl step_dedup []) ->
  (∀h' tk,(∀b o,b∉S::wr->s.heap.get? b=some o->h'.get? b=some o)->ij B h' S (ns.foldl step_dedup [])->R (.ok (.ret .none)) {s with heap:=h',toks:=tk}) ->
  codeAny ε A (.builtin "set.update.loop" ⟨[.ref S,.ref I],[]⟩) R s:=by
 have hSw:S∉wr:=λz=>hSf (W.sub _ z)
 intro k
 induction k with
 |zero =>
   intro i s hk hi st hS hR
   obtain rfl:i=n:=by omega
   refine codeAny_builtin PyProof.Rows.F.entry_set_update_loop ?_
   rw[Around.under_plainId PyProof.Rows.F.plain_set_update_loop _]
   show wpAny _ _ (pyNext δ1 >>= _) _ _ _
   refine qaa (W.done s _ _ st λh' tk hk=>?_)
   show  wpAny _ _ (ret Value.none) _ _ _
   rw[qaX (Nat.le_of_eq hl)]at hS
   exact qad (hR h' tk (λb o hb e=>hk b o (λz=>hb (.tail _ z)) e) (hS.at λo e=>hk _ _ hSw e))
 |succ k ih =>
   intro i s hk hi st hS hR
   have lt:i<n:=by omega
   refine codeAny_builtin PyProof.Rows.F.entry_set_update_loop ?_
   rw[Around.under_plainId PyProof.Rows.F.plain_set_update_loop _]
   show wpAny _ _ (pyNext δ1 >>= _) _ _ _
   refine qaa (W.item i s _ _ lt st λv h1 PR hP st1 hk1=>?_)
   obtain⟨t,rfl⟩:=hv i v hP
   have hS1:ij B h1 S ((ns.take i).foldl step_dedup []):=hS.at λo e=>hk1 _ _ hSw e
   show wpAny _ _ (holding [Value.int (ns.getD i 0) t] (setAdd S (.int (ns.getD i 0) t)) >>= _) _ _ _
   refine qaa (qbh ?_)
   unfold setAdd
   refine qbh (qaa ?_)
   refine(intKind prog w).pyHash (k:=ns.getD i 0) ζS ?_
   have room:((ns.take i).foldl step_dedup []).length+1<scanBound:=by have:=oy (ns.take i) [];rw[qa0]at this;simp only[List.length_nil]at this;omega
   refine add_int (s:={s with heap:=h1,toks:=PR+1}) hS1 room λb h2 sb S2=>?_
   have e1:ns.take (i+1)=ns.take i++[ns.getD i 0]:=by rw[List.take_succ_eq_append_getElem ω,List.getD_eq_getElem?_getD,qae ω];rfl
   refine qad ⟨plainId_quiet PyProof.Rows.F.plain_set_update_loop _,ih (i+1) _ ω lt (W.frame _ _ _ st1 λb hb o e=>?_) (by rw[e1,zsV];exact S2) λh3 tk3 hk3 S3=>?_⟩
   .rw[sb.2 b λz=>hSf (by rw[<-z];exact hb)];exact e
   .refine hR h3 tk3 (λb o hb e=>hk3 b o hb ?_) S3
    rw[sb.2 b λz=>hb (by rw[z];exact qaj)]
    exact hk1 b o (λz=>hb (.tail _ z)) e
def PU(a:Value)(h:Q₁ γd {s with heap:=s.heap.push (bT #[] 0 (.fresh 0 0 (!(w.params.followText "set-order"))))}) :
 codeAny ε A (.call (.builtin "set.__new__") ⟨[.type "set",a],[]⟩) (wants Q₁ E) s:=by
 have self:=sub_set_self
 refine codeAny_call_builtin F.plain_set_new F.entry_set_new (by rw[F.newCall_set_1 a];refine qad ?_;unfold Builtin.«set.__new__»;unfold Builtin.Frozenset.newClass;cases s;dsimp only;wp_walk;refine qbG ?_;refine qad ?_;refine qaa ?_;exact wpAny_alloc (qad (qad h)))
def Iz{Q₁:T0}{R:Result->Shared->Prop}(h:∀v s,Q₁ v s->R (.ok (.ret v)) s)(he:∀e s,E e s->R (.error e) s):∀r s,wants Q₁ E r s->R r s:=by
 intro r s hr;cases r with
 |error e=>exact he e s hr
 |ok f=>cases f<;>first|exact h _ _ hr|exact hr.elim
def PV{l:Addr}{Q:T0}{O:Obj}(hO:bT #[] 0 (.fresh 0 0 (!(w.params.followText "set-order")))=O)
 (h:wpAny ε A.in1.in1 (Builtin.«set.__init__» ⟨[.ref s.heap.objs.size,.ref l],[]⟩) (λfin s'=>match fin with
  |.done f=>wants (λr s2=>r=.none/\Q γd s2) E (.ok f) s'
  |.again c'=>c'.quiet=true/\codeAny ε A.in1 c' (wants (λr s2=>r=.none/\Q γd s2) E) s')
  (λe s'=>wants (λr s2=>r=.none/\Q γd s2) E (.error e) s') {s with heap:=s.heap.push O}):wpAny ε A (call (.type "set") [.ref l]) Q E s:=by
 obtain⟨f1,f2,⟨c,tl,f3⟩,f4,f5,f6,f7⟩:=F.called_set
 have f8:=F.typeCall_set_1 (.ref l)
 have f9:=f7.lookup
 have fa:=f7.bind γd
 have made:=PU (prog:=prog) (w:=w) (A:=A.in1) (E:=E) (s:=s) (.ref l) (Q₁:=λv s1=>v=.ref s.heap.objs.size/\s1={s with heap:=s.heap.push O}) ⟨rfl,by rw[hO]⟩
 have hT:Shared.TypeIs {s with heap:=s.heap.push O} γd "set":= ⟨O,qar _ (by rw[<-hO];rfl),by rw[<-hO];rfl⟩
 have ini:=codeAny_call_builtin f7.plain F.entry_set_init (check_set_init_1 (M:=model prog w) hT h)
 refine wpAny_call (codeAny_of_tree (show wpAny _ _ (callAny (.type "set") _) _ _ _ from qad ⟨Code.quiet_builtin _ (by decide +kernel),codeAny_builtin F.entry_type_call (by
  rw[Around.under_plain (weight_type_call_type "set" _ []) rfl]
  repeat (any_goals (first|wp_step|assumption))
  refine codeAny_mono made (Iz ?_ λ_ _ z=>z);rintro v s1 ⟨rfl,rfl⟩
  repeat (any_goals (first|wp_step|assumption))
  refine codeAny_mono ini (Iz ?_ λ_ _ z=>z);rintro v s2 ⟨rfl,q⟩
  repeat (any_goals (first|wp_step|assumption)))⟩))
def set_list(hh:A.handled=none)(hl:s.heap.IsList l items)(hi:IntsAre items.toList ns)(hn:items.size+1<scanBound)
 (h:∀(h':Heap) (tk:Nat),ij (w.params.followText "set-order") h' s.heap.objs.size (ns.foldl step_dedup [])->(∀b o,s.heap.get? b=some o->h'.get? b=some o)->Q γd {s with heap:=h',toks:=tk}) :
 wpAny ε A (call (.type "set") [.ref l]) Q E s:=by
 have len:ns.length=items.size:=by have:=IntsAre.length hi;simpa using this.symm
 refine PV rfl ?_;generalize w.params.followText "set-order" = B at h ⊢;obtain⟨⟨cl,di,da,sl⟩,g,rfl,n,rfl⟩:=hl;have new:(s.heap.push (bT #[] 0 (.fresh 0 0 (!B)))).get? s.heap.objs.size=some (bT #[] 0 (.fresh 0 0 (!B))):=qar _ rfl;generalize hH:s.heap.push (bT #[] 0 (.fresh 0 0 (!B)))=H at new ⊢;have up:∀b o,s.heap.get? b=some o->H.get? b=some o:=λb o e=>by rw[<-hH];exact qab _ e
 have sz:H.objs.size=s.heap.objs.size+1:=by rw[<-hH];exact Heap.size_push ..
 have gl:=up _ _ g;have lt:l<s.heap.objs.size:=qai g;have il:H.IsList l items:=⟨_,gl,rfl,n,rfl⟩;have no:=F.sub_list_set;have no2:=F.sub_list_frozenset;have no3:(Value.type "list" == Value.type "dict")=false:=by decide
 unfold bT at new;unfold Builtin.«set.__init__» noKeywords;unfold Builtin.Frozenset.updateFrom;generalize PX:pyIter=PI;wp_walk;rw[<-PX];refine PySem.wpAny_pyIter_list (s:={s with heap:=H}) il ?_;refine qaa ?_
 refine wpAny_runValue (PQ (Walks.list (by simp[hh]) H.objs.size l (qan (by rw[sz];exact Nat.lt_succ_of_lt lt)) items) (S:=s.heap.objs.size) (B:=B) (λz=>?_) ns len (λi v hv=>IntsAre.int_at hi i v (by rw[qaw];exact hv)) hn (items.size-0) 0 _ rfl θa
  ⟨⟨_,qar _ rfl,rfl,rfl⟩,il.push _⟩ ⟨#[],0,_,qab _ new,(λe he=>by simp at he),.nil,iM.fresh B,rfl⟩ λh' tk hk S'=>?_)
 .rcases qav.mp z with z|z
  .rw[sz]at z;exact absurd z (qan (qbU _))
  .exact absurd (qaT.mp z) (Nat.ne_of_gt lt)
 .show wpAny _ _ _ _ _ _;refine qad (show wpAny _ _ (ret Value.none) _ _ _ from qad ⟨rfl,h h' tk S' λb o e=>hk b o (λz=>?_) (qab _ (up b o e))⟩);have bl:=qai e;rcases qav.mp z with z|z
  .exact absurd z (qan bl)
  .rw[qaT,sz]at z;exact absurd z (qan (Nat.lt_succ_of_lt bl))
end
def bY:Slot "set_iterator" "__next__" "set_iterator.__next__":=
 .of (owner:= "set_iterator") (n:= "__next__") (by rw[typeLookup_type,builtinLookup_eq_fast];kernel_rfl) (by decide +kernel) (by decide +kernel) (by decide +kernel) (by first|exact .inl (by decide +kernel)|exact .inr (by decide +kernel)) (by rw[isSubtype_type];kernel_rfl)
def IA:Slot "set_iterator" "__iter__" "set_iterator.__iter__":=
 .of (owner:= "set_iterator") (n:= "__iter__") (by rw[typeLookup_type,builtinLookup_eq_fast];kernel_rfl) (by decide +kernel) (by decide +kernel) (by decide +kernel) (by first|exact .inl (by decide +kernel)|exact .inr (by decide +kernel)) (by rw[isSubtype_type];kernel_rfl)
def Ap:entryFor table "set_iterator.__next__" = some Builtin.«set_iterator.__next__»:= entryFor_of_tree (by kernel_rfl)
def PY:entryFor table "set_iterator.__iter__" = some Builtin.«dict_keyiterator.__iter__»:= entryFor_alias (id':= "dict_keyiterator.__iter__") (by kernel_rfl) rfl (by decide +kernel) (by kernel_rfl)
def PZ:entryFor table "set.__iter__" = some Builtin.«frozenset.__iter__»:= entryFor_alias (id':= "frozenset.__iter__") (by kernel_rfl) rfl (by decide +kernel) (by kernel_rfl)
def Aq(a:Value):argsOk "set_iterator.__next__" ⟨[a],[]⟩:=by unfold argsOk;kernel_rfl
def P0(a:Value):argsOk "set_iterator.__iter__" ⟨[a],[]⟩:=by unfold argsOk;kernel_rfl
noncomputable def p9(f:Value)(i:Nat)(a:Addr)(n ep:Nat):Obj:={cls:=.type "set_iterator",dict:=none,data:=.fields #[f,.int i 0,.ref a,.int n 0,.int ep 0],slots:= #[]}
section
variable{prog:Program}{w:World}{A:Around}{E:T0}{s:Shared}{I a:Addr}{es:zzg}{ep i n:Nat}{t:SetTable}{f:Value}{Q:zzb->Shared->Prop}
def stops{s:Shared}(hh:A.handled=none)(hQ:∀h',(∀b o,b≠I->s.heap.get? b=some o->h'.get? b=some o)->Q none {s with heap:=h'}) :
 wpAny ε A.in1 (do raiseNew (<-newExc (.type "StopIteration") []):Sem Fin) P (λe s1=>wpAny ε A (do if <-isInstance e (.type "StopIteration") then pure none else throw e) Q E s1) s:=by refine qaa ?_;unfold newExc newTuple;refine qaa (qbn (qaa (m:=firstArgMember _ _) (wpAny_of_eq (a:=Value.none) (by simp only[firstArgMember];rfl) (qbn ?_ (by size_fits)))) (by size_fits));exact wpAny_raiseNew_none hh (qaa (wpAny_isInstance (T:= "StopIteration") ⟨_,qar _ rfl,rfl⟩ isSubtype_stop (qad (hQ _ λb o _ e=>qab _ (qab _ e)))))
def P1{slot nxt:Nat}{x:Value}(hI:s.heap.get? I=some ιb)(ha:s.heap.get? a=some γ3)(hf:t.fits es.size=true)
 (hN:∀{Q':Option (Value×Nat)->Shared->Prop} {E'},Q' (some (x,nxt)) s->wpAny ε A.in1 ζK Q' E' s)
 (hQ:∀h',h'.get? I=some (p9 (.int nxt 0) (i+1) a es.size ep)->(∀b o,b≠I->s.heap.get? b=some o->h'.get? b=some o)->Q δZ {s with heap:=h'}):wpAny ε A (pyNext δ1) Q E s:=by have hTy:Shared.TypeIs _ δ1 "set_iterator":= ⟨_,hI,rfl⟩;unfold pyNext;refine qaa (wpAny_attempt (wpAny_callSpecial?_slot (name:=Str.ofString "__next__") hTy bY (qbl bY hTy Ap ?_ (Aq _))));show wpAny _ _ (fieldsOf δ1 >>= _) _ _ _;refine qaa (wpAny_fieldsOf hI rfl ?_);show wpAny _ _ (setEntries a >>= _) _ _ _;refine qaa (wpAny_setEntries_of ha rfl hf ?_);rw[qax (by simp)];dsimp only;refine qaa (hN ?_);dsimp only;refine qaa (wpAny_setField_rec hI (by simp) λh1 g1 mU=>?_);refine qaa (wpAny_setField_rec g1 (by simp) λh2 g2 Dx=>?_);exact qad ⟨_,rfl,qad (hQ h2 g2 λb o hb e=>Dx.extBut b o hb θx)⟩
def P2{slot:Nat}(hh:A.handled=none)(hI:s.heap.get? I=some ιb)(ha:s.heap.get? a=some γ3)(hf:t.fits es.size=true)
 (hN:∀{Q':Option (Value×Nat)->Shared->Prop} {E'},Q' none s->wpAny ε A.in1 ζK Q' E' s)
 (hQ:∀h',(∀b o,b≠I->s.heap.get? b=some o->h'.get? b=some o)->Q none {s with heap:=h'}):wpAny ε A (pyNext δ1) Q E s:=by have hTy:Shared.TypeIs _ δ1 "set_iterator":= ⟨_,hI,rfl⟩;unfold pyNext;refine qaa (wpAny_attempt (wpAny_callSpecial?_slot (name:=Str.ofString "__next__") hTy bY (qbl bY hTy Ap ?_ (Aq _))));show wpAny _ _ (fieldsOf δ1 >>= _) _ _ _;refine qaa (wpAny_fieldsOf hI rfl ?_);show wpAny _ _ (setEntries a >>= _) _ _ _;refine qaa (wpAny_setEntries_of ha rfl hf ?_);rw[qax (by simp)];dsimp only;refine qaa (hN ?_);dsimp only;refine qaa (wpAny_setField_rec hI (by simp) λh1 g1 mU=>?_);exact stops (I:=I) hh λh' k=>hQ h' λb o hb e=>k b o hb θx
def P4{T:Addr}{ps:zzh}{c p:Nat}{x:Int×Value}(hI:s.heap.get? I=some ζU)(ha:s.heap.get? a=some γ3)(hf:t.fits es.size=true)
 (hT:s.heap.get? T=some {cls:=.type "tuple",dict:=none,data:=.seq ps c,slots:= #[]}) (hp:ps[i]?=some (.int p 0)) (hx:es[p]?=some x)
 (hQ:∀h',h'.get? I=some (p9 (.ref T) (i+1) a es.size ep)->(∀b o,b≠I->s.heap.get? b=some o->h'.get? b=some o)->Q (some x.2) {s with heap:=h'}):wpAny ε A (pyNext δ1) Q E s:=by have hTy:Shared.TypeIs _ δ1 "set_iterator":= ⟨_,hI,rfl⟩;unfold pyNext;refine qaa (wpAny_attempt (wpAny_callSpecial?_slot (name:=Str.ofString "__next__") hTy bY (qbl bY hTy Ap ?_ (Aq _))));show wpAny _ _ (fieldsOf δ1 >>= _) _ _ _;refine qaa (wpAny_fieldsOf hI rfl ?_);show wpAny _ _ (setEntries a >>= _) _ _ _;refine qaa (wpAny_setEntries_of ha rfl hf ?_);rw[qax (by simp)];dsimp only;refine qaa (wpAny_seqItems hT rfl ?_);simp only[Int.toNat_natCast,hp];refine qaa ?_;unfold setNextDrawn;refine qaa (qbe ha rfl hf ?_);dsimp only;rw[qax (by simp)];simp only[Int.toNat_natCast,hx];refine qad ?_;refine qaa (wpAny_setField_rec hI (by simp) λh1 g1 mU=>?_);exact qad ⟨_,rfl,qad (hQ h1 g1 λb o hb e=>mU.extBut b o hb e)⟩
def P5(hh:A.handled=none)(hI:s.heap.get? I=some ζU)(ha:s.heap.get? a=some γ3)(hf:t.fits es.size=true)
 (hT:s.heap.get? T=some {cls:=.type "tuple",dict:=none,data:=.seq ps c,slots:= #[]}) (hp:ps[i]?=none)
 (hQ:∀h',(∀b o,b≠I->s.heap.get? b=some o->h'.get? b=some o)->Q none {s with heap:=h'}):wpAny ε A (pyNext δ1) Q E s:=by have hTy:Shared.TypeIs _ δ1 "set_iterator":= ⟨_,hI,rfl⟩;unfold pyNext;refine qaa (wpAny_attempt (wpAny_callSpecial?_slot (name:=Str.ofString "__next__") hTy bY (qbl bY hTy Ap ?_ (Aq _))));show wpAny _ _ (fieldsOf δ1 >>= _) _ _ _;refine qaa (wpAny_fieldsOf hI rfl ?_);show wpAny _ _ (setEntries a >>= _) _ _ _;refine qaa (wpAny_setEntries_of ha rfl hf ?_);rw[qax (by simp)];dsimp only;refine qaa (wpAny_seqItems hT rfl ?_);simp only[Int.toNat_natCast,hp];refine qaa (wpAny_setField_rec hI (by simp) λh1 g1 mU=>?_);refine qaa (wpAny_setField_rec g1 (by simp) λh2 g2 Dx=>?_);exact stops (I:=I) hh λh' k=>hQ h' λb o hb e=>k b o hb (Dx.extBut b o hb θx)
def IB{Q:T0}(hI:s.heap.get? I=some (p9 f i a n ep))(hQ:Q δ1 s):wpAny ε A (pyIter δ1) Q E s:=by have hT:s.TypeIs δ1 "set_iterator":= ⟨_,hI,rfl⟩;refine wpAny_pyIter_slot hT IA (qbl IA hT PY ?_ (P0 _));exact qad ⟨_,rfl,"set_iterator",_,hT,bY.lookup,hQ⟩
end
def IC{α:Type}{l:δ5}(h:i<l.length):(l[i]::l.eraseIdx i).Perm l:=by rw[List.eraseIdx_eq_take_drop_succ];refine List.perm_middle.symm.trans ?_;rw[<-qa8 h,qaO]
def P6{α:Type}(next:Nat->Nat):∀(fuel k:Nat) (left:δ5) (out:Array α),fuel=left.length->((pickOrder.go next fuel k left out).toList).Perm (out.toList++left):=by
 intro fuel;induction fuel with
 |zero =>
   intro k left out h;have:left=[]:=qbp.mp h.symm;subst this;unfold pickOrder.go;simp
 |succ f ih =>
   intro k left out h;unfold pickOrder.go;have hlt:next k % left.length<left.length:=Nat.mod_lt _ ω
   rw[qae hlt];dsimp only;refine(ih (k+1) _ _ (by rw[List.length_eraseIdx_of_lt hlt];omega)).trans ?_;rw[Array.toList_push,qaV];exact List.Perm.append_left _ (IC hlt)
def P7{α:Type}(next:Nat->Nat)(xs:Array α):(pickOrder next xs).toList.Perm xs.toList:=by
 have:=P6 next xs.size 0 xs.toList #[] (by simp)
 simpa [pickOrder]using this
section
variable{prog:Program}{w:World}{A:Around}{E:T0}{s:Shared}{I a:Addr}{es:zzg}{ep n:Nat}{t:SetTable}
def P8(hn:n≠0)(h:∀i d,i<n->Q i {s with drawn:=d}):wpAny ε A (choose src n) Q E s:=by intro Γ p hΓ;unfold choose;rw[Sem.wp_choose];refine⟨hn,?_⟩;exact h _ _ (Nat.mod_lt _ (Nat.pos_of_ne_zero hn))
def P9{α:Type}:∀(n:Nat) (xs:δ5) (s:Shared) (Q:List α->Shared->Prop),n=xs.length->(∀l d,l.Perm xs->Q l {s with drawn:=d})->wpAny ε A (drawOrder n xs) Q E s:=by
 intro n;induction n with
 |zero =>
   intro xs s Q h q;have:xs=[]:=qbp.mp h.symm;subst this;unfold drawOrder;exact qad (q [] s.drawn .nil)
 |succ n ih =>
   intro xs s Q h q;cases xs with
   |nil=>cases h
   |cons x r =>
     unfold drawOrder;refine qaa (P8 (by simp) λi d hi=>?_);rw[qae hi];dsimp only;refine qaa (ih _ _ _ (by rw[List.length_eraseIdx_of_lt hi];simp at h ⊢;omega) λl d' pl=>?_);exact qad (q _ d' ((List.Perm.cons _ pl).trans (IC hi)))
noncomputable def pos(xs:Array Nat):Nat->Nat
 |0=>0
 |k+1=>xs.getD k 0+1
def ID(hr:nJ xs)(hi:i<=xs.size):SetTable.below xs (pos xs i)=i:=by
 obtain⟨h1,h2,h3⟩:=Du hr (pos xs i);generalize SetTable.below xs (pos xs i)=p at h1 h2 h3;cases i with
 |zero =>
   rcases Nat.eq_zero_or_pos p with z|z
   .exact z
   .exact absurd (h2 0 z) θV
 |succ k =>
   have hk:k<xs.size:=hi;have ek:pos xs (k+1)=xs[k]+1:=by show xs.getD k 0+1=_;rw[nK hk]
   rw[ek]at h2 h3
   have lt:∀a b (ha:a<b) (hb:b<xs.size),xs[a]<xs[b]:=λa b ha hb=>by have:=(qa7.mp hr) a b (by simpa using Nat.lt_trans ha hb) (by simpa using hb) ha;simpa using this
   have a1:k<p:=Nat.lt_of_not_le λz=>by have:=h3 k z hk;rw[nK hk]at this;omega
   have a2:p<=k+1:=Nat.le_of_not_lt λz=>by
    have l1:=h2 (k+1) z;have hk1:k+1<xs.size:=by omega
    rw[nK hk1]at l1;have:=lt k (k+1) (qbU _) hk1;omega
   omega
def IE(ha:s.heap.get? a=some γ3)(hf:t.fits es.size=true)(hB:w.params.followText "set-order" = true)
 (h:Q (((pickOrder δc es)[i]?).map λe=>(e.2,slot)) s):wpAny ε A ζK Q E s:=by unfold setNext;refine qaa (qbe ha rfl hf ?_);dsimp only;refine qaa ?_;unfold setsByText;refine qaa (qbG (qad ?_));dsimp only;rw[show(model prog w).w.params.followText "set-order" = true from hB,qaz rfl,qax (by simp)];refine qaa ?_;unfold setWalk setsByText;refine qaa (qbe ha rfl hf ?_);dsimp only;refine qaa (qaa (qbG (qad ?_)));dsimp only;rw[show(model prog w).w.params.followText "set-order" = true from hB,qaz rfl];refine qaa (qbG (qad (qad h)))
def IF(ha:s.heap.get? a=some γ3)(hf:t.fits es.size=true)(hB:w.params.followText "set-order" = false)(hl:t.led=true)(hd:(!t.plain&&decide (es.size>1))=false)
 (h:Q (match es[SetTable.below t.place slot]?,t.place[SetTable.below t.place slot]? with|some (_,x),some j=>some (x,j+1)|_,_=>none) s):wpAny ε A ζK Q E s:=by
 unfold setNext;refine qaa (qbe ha rfl hf ?_);dsimp only;refine qaa ?_;unfold setsByText;refine qaa (qbG (qad ?_));dsimp only;rw[show(model prog w).w.params.followText "set-order" = false from hB,qax (by simp)];split
 .rename_i z;have z':(!t.plain&&decide (es.size>1))=true:=z;rw[hd]at z';cases z'
 .refine qaa (wpAny_of_eq (a:=()) ?_ ?_)
  .show(if (!t.led&& !es.isEmpty)=true then unsupported "set:maker-not-led" else pure ())=pure ();rw[hl];rfl
  .exact qad h
theorem IG(hh:A.handled=none)(hf:t.fits es.size=true)(hne:a≠I){vs:v4}{fst:Nat->Nat}
 (hi:∀(i:Nat) (v:Value),vs[i]?=some v->∀{s:Shared}{A':Around}{Q':Option (Value×Nat)->Shared->Prop} {E'},s.heap.get? a=some γ3->Q' (some (v,fst (i+1))) s->wpAny ε A' (setNext a (fst i) i ep) Q' E' s)
 (hd:∀{s:Shared}{A':Around}{Q':Option (Value×Nat)->Shared->Prop} {E'},s.heap.get? a=some γ3->Q' none s->wpAny ε A' (setNext a (fst vs.length) vs.length ep) Q' E' s) :
 Walks prog w A I [I,a] [I] vs.length (λi v=>vs[i]?=some v) (λi h=>h.get? I=some (p9 (.int (fst i) 0) i a es.size ep)/\h.get? a=some γ3) where
 sub:=λb hb=>by simp at hb;simp[hb]
 frame:=λi h h' st k=>⟨k I (by simp) _ st.1,k a (by simp) _ st.2⟩
 item:=λi s Q E hlt st hQ=>by refine P1 (x:=vs[i]) (nxt:=fst (i+1)) st.1 st.2 hf (λq=>hi i _ (qae hlt) st.2 q) λh' g k=>?_;exact hQ _ h' s.toks (qae hlt) ⟨g,k a _ hne st.2⟩ λb o hb e=>k b o (λz=>hb (by simp[z])) e
 done:=λs Q E st hQ=>P2 hh st.1 st.2 hf (λq=>hd st.2 q) λh' k=>hQ h' s.toks λb o hb e=>k b o (λz=>hb (by simp[z])) e
 self:=λ_ _ _ _ st hQ=>IB st.1 hQ
theorem P_(hh:A.handled=none)(hf:t.fits es.size=true)(hne:a≠I)(hT:T≠I){ps:zzc}{vs:v4}(hl:ps.length=vs.length)
 (hv:∀(i p:Nat),ps[i]?=some p->∃x,es[p]?=some x/\vs[i]?=some x.2) :
 Walks prog w A I [I,a,T] [I] vs.length (λi v=>vs[i]?=some v) (λi h=>h.get? I=some ζU/\h.get? a=some γ3/\h.get? T=some {cls:=.type "tuple",dict:=none,data:=.seq (ps.map λ(p:Nat)=>rawInt p).toArray c,slots:= #[]}) where
 sub:=λb hb=>by simp at hb;simp[hb]
 frame:=λi h h' st k=>⟨k I (by simp) _ st.1,k a (by simp) _ st.2.1,k T (by simp) _ st.2.2⟩
 item:=λi s Q E hlt st hQ=>by
  have hlt':i<ps.length:=by omega
  obtain⟨x,hx,Qa⟩:=hv i ps[i] (qae hlt');refine P4 (p:=ps[i]) (x:=x) st.1 st.2.1 hf st.2.2 (by simp[List.getElem?_eq_getElem hlt',rawInt]) hx λh' g k=>?_;exact hQ _ h' s.toks Qa ⟨g,k a _ hne st.2.1,k T _ hT st.2.2⟩ λb o hb e=>k b o (λz=>hb (by simp[z])) e
 done:=λs Q E st hQ=>P5 hh st.1 st.2.1 hf st.2.2 (by simp[hl]) λh' k=>hQ h' s.toks λb o hb e=>k b o (λz=>hb (by simp[z])) e
 self:=λ_ _ _ _ st hQ=>IB st.1 hQ
end
section
variable{prog:Program}{w:World}{A:Around}{E:T0}{s:Shared}{a:Addr}{es:zzg}{ep:Nat}{t:SetTable}
def Qb(hf:t.fits es.size=true):t.place.size=es.size:=by simp only[SetTable.fits,Bool.and_eq_true,beq_iff_eq,decide_eq_true_eq]at hf;exact hf.1
def Qc(ha:s.heap.get? a=some γ3)(hon:iM t (w.params.followText "set-order"))(hf:t.fits es.size=true)(hz:es.size<=sizeLine)
 (h:∀(I:Addr) (h':Heap) (d:Drawn) (fp:zzd) (vs:v4) (Wt:Nat->Heap->Prop),s.heap.objs.size<=I->(∀b o,s.heap.get? b=some o->h'.get? b=some o)->(∀b∈fp,b=a\/s.heap.objs.size<=b) ->
  vs.Perm (es.toList.map (·.2))->(∀A':Around,A'.handled=none->Walks prog w A' I fp [I] vs.length (λi v=>vs[i]?=some v) Wt)->Wt 0 h'->Q δ1 {s with heap:=h',drawn:=d}):wpAny ε A (pyIter γz) Q E s:=by
 have hT:s.TypeIs γz "set":= ⟨_,ha,rfl⟩
 have alt:a<s.heap.objs.size:=qai ha
 refine wpAny_pyIter_slot hT F.slot_set_iter (qbl F.slot_set_iter hT PZ ?_ (F.args_set_iter_1 _))
 show wpAny _ _ (Builtin.Frozenset.sizeOf a >>= _) _ _ _
 refine qaa ?_
 unfold Builtin.Frozenset.sizeOf
 refine qaa (wpAny_setEntries_of ha rfl hf (qad ?_))
 refine qaa ?_
 unfold setDrawn setsByText
 refine qaa (qbe ha rfl hf ?_)
 dsimp only
 refine qaa (qaa (qbG (qad ?_)))
 dsimp only
 refine qad ?_
 have fin:∀(f:Value) (h1:Heap) (d:Drawn),h1.get? a=some γ3->s.heap.objs.size<=h1.objs.size->(h1.get? h1.objs.size=none->Q ζ2 {s with heap:=h1.push (p9 f 0 a es.size ep),drawn:=d}) ->
  wpAny ε A.in1 (do ret (<-newFields "set_iterator" [f,rawInt 0,.ref a,rawInt es.size,rawInt (<-setEpoch a)]):Sem Fin) (λr s1=>∃v,r=.done (.ret v)/\∃T' r,s1.TypeIs v T'/\typeLookup (.type T') "__next__" = pure (some r)/\Q v s1) E {s with heap:=h1,drawn:=d}:=by
  intro f h1 d g le q;refine qaa (wpAny_setEpoch_of (s:={s with heap:=h1,drawn:=d}) g rfl hf ?_);refine qaa (qbn (qad ⟨_,rfl,"set_iterator",_,⟨_,qar _ rfl,rfl⟩,bY.lookup,q ?_⟩));cases z:h1.get? h1.objs.size with
  |none=>rfl
  |some o=>exact absurd (qai z) (qbq _)
 have ez:=Qb hf
 cases hB:w.params.followText "set-order" with
 |true =>
   rw[show(model prog w).w.params.followText "set-order" = true from hB,Bool.not_true,Bool.false_and,qax (by simp)]
   refine qaa (qad ?_)
   refine fin _ s.heap s.drawn ha γI λ_=>?_
   have pm:=P7 δc es
   have len:((pickOrder δc es).toList.map (·.2)).length=es.size:=by rw[qag,pm.length_eq,qaA]
   refine h s.heap.objs.size _ s.drawn [s.heap.objs.size,a] ((pickOrder δc es).toList.map (·.2)) _ γI (λb o e=>qab _ e) (λb hb=>?_) (pm.map _)
    (λA' hh'=>IG (fst:=λ_=>0) hh' hf (qan alt) (λi v hv s A' Q' E' g q=>IE g hf hB ?_) λ{s A' Q' E'} g q=>IE g hf hB ?_) ⟨qar _ rfl,qab _ ha⟩
   .simp only[List.mem_cons,List.not_mem_nil,or_false]at hb
    exact hb.symm.imp id λz=>Nat.le_of_eq z.symm
   .rw[qaE,qaw]at hv
    cases z:(pickOrder δc es)[i]? with
    |none=>rw[z]at hv;cases hv
    |some e=>rw[z]at hv;cases hv;exact q
   .have:(pickOrder δc es)[((pickOrder δc es).toList.map (·.2)).length]?=none:=by simp
    rw[this];exact q
 |false =>
   rw[show(model prog w).w.params.followText "set-order" = false from hB,Bool.not_false,Bool.true_and]
   have wH:t.led=true:=by rw[hon.led,hB];rfl
   cases hd:(!t.plain&&decide (es.size>1)) with
   |false =>
     split
     .rename_i z
      have z':(!t.plain&&decide (es.size>1))=true:=z
      rw[hd]at z';cases z'
     .refine qaa ?_
      refine qad ?_
      refine fin _ s.heap s.drawn ha γI λ_=>?_
      have len:(es.toList.map (·.2)).length=es.size:=by simp
      refine h s.heap.objs.size _ s.drawn [s.heap.objs.size,a] (es.toList.map (·.2)) _ γI (λb o e=>qab _ e) (λb hb=>?_) (.refl _)
       (λA' hh'=>IG (fst:=pos t.place) hh' hf (qan alt) (λi v hv s A' Q' E' g q=>IF g hf hB wH hd ?_) λ{s A' Q' E'} g q=>IF g hf hB wH hd ?_) ⟨qar _ rfl,qab _ ha⟩
      .simp only[List.mem_cons,List.not_mem_nil,or_false]at hb
       exact hb.symm.imp id λz=>Nat.le_of_eq z.symm
      .have hi:i<es.size:=by have:=(qac.mp hv).1;rwa[len]at this
       rw[ID hon.rise ω,qap hi,qap (by omega:i<t.place.size)]
       rw[qaE,qaw,qap hi]at hv
       cases hv
       have e:pos t.place (i+1)=t.place[i]'(by omega)+1:=by show t.place.getD i 0+1=_;rw[nK ω]
       rw[e]at q
       exact q
      .rw[len,ID hon.rise ω]
       have:es[es.size]?=none:=by simp
       rw[this]
       exact q
   |true =>
     split
     .refine qaa (P9 _ _ _ _ (by simp) λl d pl=>?_)
      refine qaa (qbn ?_ ?_)
      .have hl:l.length=es.size:=by rw[pl.length_eq];simp
       refine fin _ _ d (qab _ ha) (by rw[Heap.size_push];exact Nat.le_succ _) λ_=>?_
       have inr:∀p∈l,p<es.size:=λp hp=>by simpa using pl.mem_iff.mp hp
       have pv:(l.filterMap λp=>(es[p]?).map (·.2)).Perm (es.toList.map (·.2)):=by
        refine(pl.filterMap _).trans ?_;have e:(List.range es.size).filterMap (λp=>(es[p]?).map (·.2))=((List.range es.size).filterMap λp=>es[p]?).map (·.2):=by rw[List.map_filterMap]
        rw[e,filterMap_getElem?_range]
       have ev:∀(l:zzc),(∀p∈l,p<es.size)->(l.filterMap λp=>(es[p]?).map (·.2)).length=l.length/\∀(i p:Nat),l[i]?=some p->∃x,es[p]?=some x/\(l.filterMap λp=>(es[p]?).map (·.2))[i]?=some x.2:=by
        intro l;induction l with
        |nil=>intro _;exact⟨rfl,λi p z=>by simp at z⟩
        |cons k r ih =>
          intro hk;obtain⟨i1,i2⟩:=ih λp hp=>hk p (.tail _ hp);have lt:=hk k ηy;have e1:(es[k]?).map (·.2)=some es[k].2:=by rw[qap lt];rfl
          rw[List.filterMap_cons_some (f:=λp:Nat=>(es[p]?).map λ(x:Int×Value)=>x.2) e1];refine⟨by simp[i1],λi p z=>?_⟩;cases i with
          |zero=>simp at z;subst z;exact⟨es[k],qap lt,rfl⟩
          |succ i=>simpa using i2 i p (by simpa using z)
       obtain⟨v1,v2⟩:=ev l inr
       have sz:(s.heap.push {cls:=.type "tuple",dict:=none,data:=.seq (l.map λ(i:Nat)=>rawInt i).toArray}).objs.size=s.heap.objs.size+1:=Heap.size_push ..
       refine h _ _ d [_,a,s.heap.objs.size] _ _ (by rw[sz];exact Nat.le_succ _) (λb o e=>qab _ (qab _ e)) (λb hb=>?_) pv
        (λA' hh'=>P_ hh' hf (by rw[sz];exact qan (Nat.lt_succ_of_lt alt)) (T:=s.heap.objs.size) (by rw[sz];exact qan (qbU _)) v1.symm v2) ⟨qar _ rfl,qab _ (qab _ ha),qab _ (qar _ rfl)⟩
       simp only[List.mem_cons,List.not_mem_nil,or_false]at hb
       rcases hb with z|z|z
       .exact .inr (by rw[z,sz];exact Nat.le_succ _)
       .exact .inl z
       .exact .inr (Nat.le_of_eq z.symm)
      .show(l.map λ(i:Nat)=>rawInt i).toArray.size<=sizeLine
       simp only[List.size_toArray,List.length_map,pl.length_eq,List.length_range]
       exact hz
     .rename_i z
      exact absurd hd z
def Qd:typeLookup (.type "set") "__len__" = pure (some (.builtin "set.__len__")):=by rw[typeLookup_type,builtinLookup_eq_fast];kernel_rfl
def IH(hh:A.handled=none)(ha:s.heap.get? a=some γ3)(hon:iM t (w.params.followText "set-order"))(hf:t.fits es.size=true)(hz:es.size<=sizeLine)
 (h:∀(vs:v4) (h':Heap) (d:Drawn) (tk:Nat),s.heap.objs.size<=h'.objs.size->(∀b o,s.heap.get? b=some o->h'.get? b=some o)->vs.Perm (es.toList.map (·.2))->Q vs {s with heap:=h',drawn:=d,toks:=tk}):wpAny ε A (collect γz) Q E s:=by
 have start:∀{R:Result->Shared->Prop},wpAny ε A.in1 (Builtin.List.listExtendWith γd γz γd) (λfin s'=>match fin with|.done f=>R (.ok f) s'|.again c'=>c'.quiet=true/\codeAny ε A c' R s') (λe s'=>R (.error e) s') {s with heap:=s.heap.push {cls:=.type "list",dict:=none,data:=.seq ([]:v4).toArray} } ->
  codeAny ε A (.builtin "proto.collect" ⟨[.ref a],[]⟩) R s:=λ{R} z=>codeAny_builtin F.entry_proto_collect (by rw[Around.under_plainId F.plain_proto_collect];exact show wpAny _ _ (newList [] >>= λv=>again (.builtin "list.__iadd__" ⟨[v,.ref a],[]⟩)) _ _ _ from qaa (qbn (qad ⟨plainId_quiet F.plain_list_iadd _,codeAny_builtin F.entry_list_iadd (by rw[Around.under_plainId F.plain_list_iadd];exact z)⟩)))
 unfold collect;refine qaa (wpAny_runValue (start ?_));have alt:a<s.heap.objs.size:=qai ha;generalize hH:s.heap.push {cls:=.type "list",dict:=none,data:=.seq ([]:v4).toArray}=H;have g0:H.get? s.heap.objs.size=some {cls:=.type "list",dict:=none,data:=.seq #[] 0,slots:= #[]}:=by rw[<-hH];exact qar _ rfl
 have up:∀b o,s.heap.get? b=some o->H.get? b=some o:=λb o e=>by rw[<-hH];exact qab _ e
 have sz:H.objs.size=s.heap.objs.size+1:=by rw[<-hH];exact Heap.size_push ..
 have hT:Shared.TypeIs {s with heap:=H} γz "set":= ⟨_,up _ _ ha,rfl⟩;unfold  Builtin.List.listExtendWith;refine qaa (wpAny_typeOf hT ?_)
 have n1:Builtin.List.listSameRef γd γz=false:=by show(s.heap.objs.size == a)=false;simpa using Nat.ne_of_gt alt
 have n2:(Value.type "set" == Value.type "list")=false:=by decide
 have n3:(Value.type "set" == Value.type "tuple")=false:=by decide
 rw[n1,n2,n3];simp only[Bool.or_false,Bool.false_eq_true,if_false];refine qaa (Qc (up _ _ ha) hon hf hz λI h1 d fp vs Wt hI k1 hfp pv W st=>?_);have hT1:Shared.TypeIs {s with heap:=h1,drawn:=d} γz "set":= ⟨_,k1 _ _ (up _ _ ha),rfl⟩;refine qaa (qbh ?_);unfold  Builtin.List.listLengthHint;refine qaa (wpAny_specialOf hT1 Qd ?_)
 wp_delta
 refine qaa (wpAny_isInstance (b:=true) hT1 (by rw[isSubtype_type];kernel_rfl) ?_);show wpAny _ _ (typeOf (Value.ref a) >>= _) _ _ _;refine qaa (wpAny_typeOf hT1 ?_);refine qad ?_;rw[qaz ξ];refine qaa (wpAny_rule ?_);unfold Builtin.List.listTouch;have g1:=k1 _ _ g0;refine qaa (qaa ?_);refine PyProof.Rows.listUpdate_at g1 rfl ?_ θa (by simp);have g2:=get?_update_seq g1 (λxs=>xs.push Value.none);refine PyProof.Rows.listUpdate_at g2 rfl ?_ (by show 1<=sizeLine;decide) (by simp);have g3:=get?_update_seq g2 (λxs=>xs.pop)
 have oth:∀b o,b≠s.heap.objs.size->h1.get? b=some o->((h1.update s.heap.objs.size (Obj.mapSeq λxs=>xs.push Value.none)).update s.heap.objs.size (Obj.mapSeq λxs=>xs.pop)).get? b=some o:=λb o hb e =>
  (qaU _ _ (qa5 hb)).trans ((qaU _ _ (qa5 hb)).trans e)
 have hSf:s.heap.objs.size∉fp:=λz=>by
  rcases hfp _ z with e|e
  .exact absurd alt (by rw[e];exact qbq _)
  .exact absurd (show H.objs.size<=s.heap.objs.size from e) (by rw[sz];exact Nat.not_succ_le_self _)
 have W':=W A.in1 hh;have hn:vs.length<=sizeLine:=by rw[pv.length_eq];simpa using hz
 refine qad ⟨plainId_quiet F.plain_extend_loop _,codeAny_extend_loopS W'.toS hn _ hSf _ vs.length 0 _ _ _ rfl θa (W'.frame _ _ _ st λb hb o e=>oth b o (λz=>hSf (by rw[<-z];exact hb)) e) g3 (ItemsOf.nil _) λs' acc c hm g' hacc=>?_⟩;show wpAny _ _ (load s.heap.objs.size >>= _) _ _ _;refine qaa (wpAny_load g' (qad ?_))
 have ev:acc.toList=vs:=by
  refine List.ext_getElem? λi=>?_;cases q:acc[i]? with
  |none =>
    have:acc.size<=i:=by simpa using q
    rw[hacc.1]at this;rw[qaw,q,List.getElem?_eq_none this]
  |some v=>rw[qaw,q,hacc.2 i v q]
 rw[ev];obtain⟨h',g,d',tk,os⟩:=s';have e1:=(hm.gens:g=s.gens);have e2:d'=d:=hm.drawn;have e3:os=s.os:=hm.os;subst e1;subst e2;subst e3;refine h vs h' d' tk (Nat.le_of_lt (qai g')) (λb o e=>hm.heap b o (λz=>?_) (oth b o (qan ηl) (k1 b o (up b o e)))) pv;have blt:=qai e;rcases qav.mp z with z|z
 .exact absurd blt (by rw[z];exact qbq _)
 .rw[qaT]at z;have:H.objs.size<=I:=hI;rw[<-z,sz]at this;exact absurd blt (Nat.not_lt.mpr (Nat.le_of_succ_le this))
noncomputable def kv:Value->Int
 |.int k _=>k
 |_=>0
theorem ints_of:∀{vs:v4},(∀v∈vs,∃t,v=.int (kv v) t)->IntsAre vs (vs.map kv)
 |[],_=>.nil
 |v::r,h=>by obtain⟨t,e⟩:=h v ηy;have ih:=ints_of (vs:=r) λu hu=>h u (.tail _ hu);rw[qaP];generalize kv v=k at e ⊢;subst e;exact .cons k t ih
def II{h:Heap}{vs:v4}(ho:h.get? a=some (seqObj "list" vs.toArray n))(out:zzh):∃e,(sortedHeap h a vs out).get? a=some (seqObj "list" out e):=by
 have lt:a<h.objs.size:=qai ho;unfold sortedHeap;have g1:=get?_update_seq ho λ_ => #[]
 have g2:(((h.update a (Obj.mapSeq λ_ => #[])).push (seqObj "tuple" vs.toArray 0)).push (seqObj "list" #[] 0)).get? a=some (seqObj "list" #[] (if ((#[]:zzh).size == vs.toArray.size)=true then n else n+1)):=by rw[Heap.get?_push_ne _ _ _ (by rw[size_push',Heap.size_update];exact qan (Nat.lt_succ_of_lt lt)),Heap.get?_push_ne _ _ _ (by rw[Heap.size_update];exact qan lt)];exact g1
 exact⟨_,get?_update_seq g2 λ_=>out⟩
def IJ{h:Heap}(hb:b≠a)(e:h.get? b=some o):(sortedHeap h a vs out).get? b=some o:=by unfold sortedHeap;rw[qaU _ _ (qa5 hb)];exact qab _ (qab _ ((qaU _ _ (qa5 hb)).trans e))
def lC(hh:A.handled=none)(hS:ij (w.params.followText "set-order") s.heap a l)(h64:l.length<64)
 (h:∀(h':Heap) (d:Drawn) (tk:Nat) (p:Addr) (out:zzh) (e:Nat) (ns:u8),s.heap.objs.size<=p->(∀b o,s.heap.get? b=some o->h'.get? b=some o)->h'.get? p=some {cls:=.type "list",dict:=none,data:=.seq out e,slots:= #[]}->IntsAre out.toList ns->ns.Perm l->ns.Pairwise (· <= ·)->Q γO {s with heap:=h',drawn:=d,toks:=tk}) :
 wpAny ε A (call (.builtin "sorted") [.ref a]) Q E s:=by
 obtain⟨es,ep,t,ha,hg,hp,hon,hf⟩:=hS;have hsz:es.size=l.length:=by rw[<-qaA,<-hp.length_eq,qag]
 have z64:(64:Nat)<=sizeLine:=by decide
 refine Calls.call_function_entry kind_sorted plain_sorted entry_sorted (args_sorted1 _) (show wpAny _ _ (checkCount "sorted" 1 1 1 >>= _) _ _ _ from qaa (qad ?_));refine qaa (IH hh ha hon hf ω λvs h1 d tk le k1 pv=>?_);have vl:vs.length=l.length:=by rw[pv.length_eq,qag,qaA,hsz]
 refine qaa (wpAny_newList ?_ ω)
 have good:∀v∈vs,∃t,v=.int (kv v) t:=λv hv=>by obtain⟨e,he,rfl⟩:=qaF.mp (pv.mem_iff.mp hv);obtain⟨k,t,rfl⟩:=hg e he;exact⟨t,rfl⟩
 have pl:(vs.map kv).Perm l:=by refine(pv.map kv).trans (List.Perm.trans (.of_eq ?_) hp);rw[qbo];rfl
 show wpAny _ _ _ _ _ {s with heap:=h1.push (seqObj "list" vs.toArray 0),drawn:=d,toks:=tk};have hoL:(h1.push (seqObj "list" vs.toArray 0)).get? h1.objs.size=some (seqObj "list" vs.toArray 0):=qar _ rfl;refine qaa (qbh (qbl slot_list_sort ⟨_,hoL,rfl⟩ entry_list_sort (list_sort_tree hoL (ints_of good) ω λout ns' a1 a2 a3=>⟨_,rfl,?_⟩) (args_list_sort _)));obtain⟨e,ge⟩:=II hoL out;refine qad ⟨_,rfl,h _ d tk h1.objs.size out e ns' le (λb o z=>IJ (qan (qai (k1 b o z))) (qab _ (k1 b o z))) ge a1 (a2.trans pl) a3⟩
end
end St
namespace St
open PySem
noncomputable def lp(M:Nat)(s:Nat×Nat):Nat×Nat:=SetTable.leap M s.1 s.2
noncomputable def j4(M:Nat):Nat->Nat×Nat->Nat×Nat
 |0,s=>s
 |n+1,s=>j4 M n (lp M s)
theorem tw(M:Nat):∀(n:Nat) (s:Nat×Nat),j4 M (n+1) s=lp M (j4 M n s)
 |0,s=>rfl
 |n+1,s=>by rw[j4,tw M n,j4]
def Qe(M a b:Nat)(s:Nat×Nat):j4 M (a+b) s=j4 M b (j4 M a s):=by
 induction b with
 |zero=>rfl
 |succ b ih=>rw[<-Nat.add_assoc,tw,ih,tw]
theorem IK(M:Nat):∀(n:Nat) (s:Nat×Nat),(j4 M n s).2=s.2/32 ^ n
 |0,s=>by simp[j4]
 |n+1,s=>by rw[tw];show(j4 M n s).2/32=_;rw[IK M n,Nat.div_div_eq_div_mul,Nat.pow_succ]
def Qf(hp:p<2 ^ 64)(i:Nat):(j4 M 13 (i,p)).2=0:=by rw[IK];exact Nat.div_eq_of_lt (qao hp ξ)
noncomputable def st(M x:Nat):Nat:=(x*5+1) % (M+1)
noncomputable def sts(M:Nat):Nat->Nat->Nat
 |0,x=>x
 |n+1,x=>st M (sts M n x)
theorem wI(M a:Nat)(x:Nat):∀b,sts M (a+b) x=sts M b (sts M a x)
 |0=>rfl
 |b+1=>by rw[<-Nat.add_assoc,sts,wI M a x b,sts]
theorem IL(M:Nat):∀(n i:Nat),j4 M n (i,0)=(sts M n i,0)
 |0,i=>rfl
 |n+1,i=>by rw[tw,IL M n i];show SetTable.leap M (sts M n i) 0=_;simp[SetTable.leap,sts,st]
def nL(M:Nat):Prop:=M=7\/M=31\/M=127\/M=511\/M=2047
noncomputable def om(M:Nat):Nat->Nat->Nat->Nat
 |0,_,c=>c
 |n+1,x,c=>om M n (st M x) (c ||| 2 ^ x)
theorem IM:∀(n x c:Nat),(om M n x c).testBit j=true->c.testBit j=true\/∃k,k<n/\sts M k x=j
 |0,_,_,h=>.inl h
 |n+1,x,c,h=>by
   rcases IM n (st M x) (c ||| 2 ^ x) h with h|⟨k,hk,e⟩
   .rw[Nat.testBit_or,Bool.or_eq_true]at h;rcases h with h|h
    .exact .inl h
    .rw[Nat.testBit_two_pow]at h;exact .inr ⟨0,ω,qaC h⟩
   .refine .inr ⟨k+1,ω,?_⟩;have:=wI M 1 x k;rw[Nat.add_comm]at this;rw[this];exact e
def Qg(h:nL M):om M (M+1) 0 0=2 ^ (M+1)-1/\sts M (M+1) 0=0:=by rcases h with rfl|rfl|rfl|rfl|rfl<;>decide +kernel
theorem IP(h:sts M (M+1) 0=0):∀q r,sts M ((M+1)*q+r) 0=sts M r 0
 |0,r=>by simp
 |q+1,r=>by
   have e:(M+1)*(q+1)+r=(M+1)+((M+1)*q+r):=by rw[Nat.mul_succ];omega
   rw[e,wI,h,IP h q r]
def Qh(h:nL M)(hx:x<=M)(hy:y<=M):∃m,m<=M/\sts M m x=y:=by
 obtain⟨a,b⟩:=Qg h
 have f:∀z,z<=M->∃k,k<=M/\sts M k 0=z:=λz hz=>by
  rcases IM (M:=M) (j:=z) (M+1) 0 0 (by rw[a,Nat.testBit_two_pow_sub_one];exact qaN ω) with h|⟨k,hk,e⟩
  .rw[Nat.zero_testBit]at h;cases h
  .exact⟨k,ω,e⟩
 obtain⟨kx,hkx,ex⟩:=f x hx;obtain⟨ky,hky,ey⟩:=f y hy;rcases Nat.le_total kx ky with le|le
 .refine⟨ky-kx,ω,?_⟩;rw[<-ex,<-wI,<-ey];congr 1;omega
 .refine⟨(M+1+ky-kx) % (M+1),Nat.lt_succ_iff.mp ζz,?_⟩;rw[<-ex,<-wI];have b':=IP b 1 ky;rcases Nat.lt_or_ge (M+1+ky-kx) (M+1) with z|z
  .rw[Nat.mod_eq_of_lt z,<-ey,<-b'];congr 1;omega
  .have e:kx=ky:=by omega
   subst e;have:(M+1+kx-kx) % (M+1)=0:=by rw[Nat.add_sub_cancel];exact Nat.mod_self _
   rw[this];exact ey
def Dy(M i p:Nat):(SetTable.leap M i p).1<=M:=Nat.lt_succ_iff.mp ζz
def wJ(M i:Nat):i<=SetTable.runEnd M i/\SetTable.runEnd M i-i<=9:=by unfold SetTable.runEnd;split<;>omega
noncomputable def dY(t:SetTable):Nat->SetTable.Probe->SetTable.Probe
 |0,p=>p
 |n+1,p=>dY t n ηD
def Qi{t:SetTable}(hd:t.dummies=#[])(f:Nat->Int)(h:Int):∀(n:Nat) (p:SetTable.Probe),SetTable.probe.go t f h n p=none->∀k,k<n->∃i,t.slot (dY t k p).j=.live i:=by
 intro n;induction n with
 |zero=>intro p _ k hk;exact absurd hk θV
 |succ n ih =>
   intro p e k hk;unfold SetTable.probe.go at e;split at e
   .cases e
   .rename_i q;exact absurd q (An hd _)
   .rename_i i q;split at e
    .cases e
    .cases k with
     |zero=>exact⟨i,q⟩
     |succ k=>exact ih _ e k ω
theorem uY(t:SetTable):∀(a b:Nat) (p:SetTable.Probe),dY t (a+b) p=dY t b (dY t a p)
 |0,b,p=>by rw[Nat.zero_add];rfl
 |a+1,b,p=>by rw[show a+1+b=(a+b)+1 by omega];exact uY t a b _
def p_(M:Nat)(p:SetTable.Probe)(s:Nat×Nat):Prop:=p.j=s.1/\p.i=s.1/\p.perturb=s.2/\p.more=SetTable.runEnd M s.1-s.1
theorem Dz(t:SetTable):∀(m:Nat) (p:SetTable.Probe),p.more=m->(dY t m p).more=0/\(dY t m p).i=p.i/\(dY t m p).perturb=p.perturb
 |0,p,h=>⟨h,rfl,rfl⟩
 |m+1,p,h=>by
   have e:t.advance p={p with j:=p.j+1,more:=p.more-1}:=by unfold SetTable.advance;rw[if_pos ω]
   obtain⟨a,b,c⟩:=Dz t m ηD (by rw[e];show p.more-1=m;omega);refine⟨a,?_,?_⟩
   .show(dY t m ηD).i=_;rw[b,e]
   .show(dY t m ηD).perturb=_;rw[c,e]
def Qj(t:SetTable)(h:p_ t.mask p s):∃m,m<=10/\p_ t.mask (dY t m p) (lp t.mask s):=by obtain⟨h1,h2,h3,h4⟩:=h;obtain⟨a,b,c⟩:=Dz t p.more p rfl;refine⟨p.more+1,by have:=wJ t.mask s.1;omega,?_⟩;rw[uY];show p_ t.mask (t.advance (dY t p.more p)) _;unfold SetTable.advance;rw[qax ω,b,c,h2,h3];exact⟨rfl,rfl,rfl,rfl⟩
theorem IQ(t:SetTable)(h:p_ t.mask p s):∀k,∃m,m<=10*k/\p_ t.mask (dY t m p) (j4 t.mask k s)
 |0=>⟨0,ω,h⟩
 |k+1=>by obtain⟨m,hm,a⟩:=IQ t h k;obtain⟨m',hm',a'⟩:=Qj t a;exact⟨m+m',ω,by rw[uY,tw];exact a'⟩
def IS(h:Int):SetTable.bits h<2 ^ 64:=by unfold SetTable.bits;have:=qbr h (show(0:Int)<2 ^ 64 by decide);have:=qbs h (show(2 ^ 64:Int)≠0 by decide);omega
def IT{M:Nat}(h:nL M){i p:Nat}(hi:i<=M)(hp:p<2 ^ 64){P:Nat->Prop}(hP:∀k,k<=M+14->P (j4 M k (i,p)).1):∀j,j<=M->P j:=by
 intro j hj;have z:=Qf (M:=M) hp i;generalize hs:j4 M 13 (i,p)=DA at z
 have DB:DA.1<=M:=by rw[<-hs,tw];exact Dy M _ _
 obtain⟨m,hm,e⟩:=Qh h DB hj;have:=hP (13+m) ω;rw[Qe,hs,show DA=(DA.1,0) by rw[<-z],IL]at this;simp only at this;rw[e]at this;exact this
def DC{t:SetTable}(h:t.slot j=.live i):t.place[i]?=some j:=by
 unfold SetTable.slot at h;dsimp only at h;split at h
 .rename_i e;cases h;exact eq_of_beq e
 .split at h<;>cases h
def Qk{t:SetTable}(hd:t.dummies=#[])(hm:nL t.mask)(hr:t.place.size<=t.mask)(f:Nat->Int)(h:Int):∃m,t.probe f h ηQ=some m:=by
 cases q:t.probe f h ηQ with
 |some m=>exact⟨m,rfl⟩
 |none =>
   exfalso;have st:p_ t.mask ηQ (SetTable.bits h % (t.mask+1),SetTable.bits h):=⟨rfl,rfl,rfl,rfl⟩
   have all:=IT hm (i:=SetTable.bits h % (t.mask+1)) (p:=SetTable.bits h) (Nat.lt_succ_iff.mp (Nat.mod_lt _ (Nat.succ_pos _))) (IS h) (P:=λj=>∃i:Nat,t.place[i]?=some j) (λk hk=>by obtain⟨m,hm',a⟩:=IQ t st k;obtain⟨i,hi⟩:=Qi hd f h _ _ q m (by unfold SetTable.turns;omega);rw[a.1]at hi;exact⟨i,DC hi⟩)
   have sub:(List.range (t.mask+1)).length<=t.place.toList.length:=by refine List.Nodup.length_le_of_subset List.nodup_range λj hj=>?_;obtain⟨i,hi⟩:=all j (by simpa using Nat.lt_succ_iff.mp (qbA.mp hj));rw[<-qaw]at hi;exact qaB hi
   simp at sub;omega
def Ql(M:Nat)(owner:ηM)(hs:owner.size=M+1):∀(n i p j:Nat),SetTable.layClean.free M owner n i p=some j->owner[j]?=some none:=by
 intro n;induction n with
 |zero=>intro i p j h;cases h
 |succ n ih =>
   intro i p j h;unfold SetTable.layClean.free at h;split at h
   .rename_i k q;cases h;have:=List.find?_some q;cases e:owner[i+k]? with
    |none=>rw[qa2,e]at this;cases this
    |some o =>
      rw[qa2,e]at this;cases o with
      |none=>rfl
      |some x=>cases this
   .exact ih _ _ _ h
def Qm(M:Nat)(owner:ηM)(hs:owner.size=M+1):∀(n i p:Nat),i<=M->SetTable.layClean.free M owner n i p=none->∀k,k<n->∃x,owner[(j4 M k (i,p)).1]?=some δZ:=by
 intro n;induction n with
 |zero=>intro i p hi h k hk;exact absurd hk θV
 |succ n ih =>
   intro i p hi h k hk;unfold SetTable.layClean.free at h;split at h
   .cases h
   .rename_i q;cases k with
    |zero =>
      have:=List.find?_eq_none.mp q 0 (by simp;have:=wJ M i;omega);show ∃x,owner[i]?=some δZ;have lt:i<owner.size:=by omega
      rw[Nat.add_zero,qa2,qap lt]at this;rw[qap lt];cases e:owner[i] with
      |none=>rw[e]at this;simp at this
      |some x=>exact⟨x,rfl⟩
    |succ k=>exact ih _ _ (Dy M i p) h k ω
theorem IU:∀(l:List γF) (j:Nat),l[j]?=some none->((l.set j εq).filterMap id).Perm (k::l.filterMap id)
 |[],j,h=>by simp at h
 |o::r,0,h=>by simp at h;subst h;simp
 |o::r,j+1,h=>by
   have ih:=IU (k:=k) r j (by simpa using h);cases o with
   |none=>simpa using ih
   |some x =>
     show(x::(r.set j εq).filterMap id).Perm (k::x::r.filterMap id);exact(List.Perm.cons x ih).trans (List.Perm.swap k x _)
theorem IV:∀(l:List γF),(∀o∈l,∃x,o=some x)->(l.filterMap id).length=l.length
 |[],_=>rfl
 |o::r,h=>by obtain⟨x,rfl⟩:=h o ηy;simpa using IV r λo' ho=>h o' (.tail _ ho)
def uZ(M k:Nat)(owner:ηM):Prop:=owner.size=M+1/\(owner.toList.filterMap id).Perm (List.range k)
def Qn(hm:nL M)(h:uZ M k owner)(hk:k<=M)(c:Int):∃j,SetTable.layClean.free M owner ζa (SetTable.bits c % (M+1)) (SetTable.bits c)=some j/\owner[j]?=some none:=by
 cases q:SetTable.layClean.free M owner ζa (SetTable.bits c % (M+1)) (SetTable.bits c) with
 |some j=>exact⟨j,rfl,Ql M owner h.1 _ _ _ _ q⟩
 |none =>
   exfalso;have hi:SetTable.bits c % (M+1)<=M:=Nat.lt_succ_iff.mp (Nat.mod_lt _ (Nat.succ_pos _));have all:=IT hm hi (IS c) (P:=λj=>∃x,owner[j]?=some δZ) λn hn=>Qm M owner h.1 _ _ _ hi q n (by unfold SetTable.turns;omega)
   have len:=IV owner.toList λo ho=>by
    obtain⟨j,hj⟩:=List.getElem?_of_mem ho;have jl:j<owner.size:=by have:=(qac.mp hj).1;simpa using this
    obtain⟨x,hx⟩:=all j (by have:=h.1;omega);rw[qaw,hx]at hj;exact⟨x,by injection hj with e;exact e.symm⟩
   have:=h.2.length_eq;rw[len]at this;simp at this;have:=h.1;omega
def Qo(owner:ηM):((List.range owner.size).filterMap λj=>(owner.getD j none).map (j, ·)).map (·.2)=owner.toList.filterMap id:=by
 have key:∀(l:List γF) (b:Nat) (f:Nat->Option Nat),(∀i,i<l.length->f (b+i)=l.getD i none)->((List.range' b l.length).filterMap λj=>(f j).map (j, ·)).map (·.2)=l.filterMap id:=by
  intro l;induction l with
  |nil=>intro b f _;rfl
  |cons o r ih =>
    intro b f h;have h0:=h 0 (by simp)
    have ih':=ih (b+1) f λi hi=>by have:=h (i+1) (by simpa using hi);rw[show b+1+i=b+(i+1) by omega,this];rfl
    rw[qaW,List.range'_succ,qbx];have h0:f b=o:=h0;cases o with
    |none=>simpa [h0]using ih'
    |some x=>simpa [h0]using ih'
 have:=key owner.toList 0 (λj=>owner.getD j none) λi hi=>by rw[Nat.zero_add];simp[Array.getD_eq_getD_getElem?,List.getD_eq_getElem?_getD]
 rw[<-this,List.range_eq_range'];simp
noncomputable def hP(z:Int×Int):Int:=reduceHash (Builtin.Tuple.tupleHashOf [hashInt z.1,hashInt z.2])
def rP(n:Nat):Nat:=(hP ((n/31:Nat),(n % 31:Nat)) % 8192).toNat
def apart:zzc->Nat->Bool
 |[],_=>true
 |n::r,acc => !acc.testBit (rP n)&&apart r (acc ||| 1 <<< rP n)
theorem IW:∀(l:zzc) (acc:Nat),apart l acc=true->(∀n∈l,acc.testBit (rP n)=false)/\(l.map rP).Nodup
 |[],_,_=>⟨λn hn=>(nomatch hn),List.nodup_nil⟩
 |n::r,acc,h=>by
   unfold apart at h;rw[qa1]at h;obtain⟨h1,h2⟩:=h;obtain⟨a,b⟩:=IW r _ h2
   have a':∀m∈r,acc.testBit (rP m)=false/\rP m≠rP n:=λm hm=>by have:=a m hm;rw[Nat.testBit_or,Bool.or_eq_false_iff]at this;refine⟨this.1,λe=>?_⟩;have q:=this.2;rw[e,Nat.one_shiftLeft,Nat.testBit_two_pow_self]at q;cases q
   refine⟨λm hm=>?_,qbk.mpr ⟨λz=>?_,b⟩⟩
   .rcases qav.mp hm with e|e
    .rw[e];simpa using h1
    .exact(a' m e).1
   .obtain⟨m,hm,e⟩:=qaF.mp z;exact(a' m hm).2 e
def Qp:apart (List.range 961) 0=true:=by decide +kernel
noncomputable def Sm(i:Int):Prop:=0<=i/\i<=30
def eK(z:Int×Int):Prop:=Sm z.1/\Sm z.2
def Qq(hy:eK y)(hz:eK z)(e:hP y=hP z):y=z:=by
 have nd:=(IW _ _ Qp).2;obtain⟨⟨a1,a2⟩,a3,a4⟩:=hy;obtain⟨⟨b1,b2⟩,b3,b4⟩:=hz;obtain⟨i,hi⟩:∃i:Nat,y.1=i:=⟨y.1.toNat,ω⟩;obtain⟨j,hj⟩:∃j:Nat,y.2=j:=⟨y.2.toNat,ω⟩;obtain⟨k,hk⟩:∃k:Nat,z.1=k:=⟨z.1.toNat,ω⟩;obtain⟨l,hl⟩:∃l:Nat,z.2=l:=⟨z.2.toNat,ω⟩
 have q:∀(i j:Nat),j<31->rP (31*i+j)=(hP ((i:Int),(j:Int)) % 8192).toNat:=λi j h=>by unfold rP;rw[show(31*i+j)/31=i by omega,show(31*i+j) % 31=j by omega]
 have ey:y=((i:Int),(j:Int)):=Prod.ext hi hj;have ez:z=((k:Int),(l:Int)):=Prod.ext hk hl;have r1:=q i j ω;have r2:=q k l ω;rw[<-ey]at r1;rw[<-ez]at r2;rw[e,<-r2]at r1;have m1:31*i+j<961:=by omega
 have m2:31*k+l<961:=by omega
 have:=qa7.mp nd
 have inj:31*i+j=31*k+l:=by
  rcases Nat.lt_trichotomy (31*i+j) (31*k+l) with z|z|z
  .exact absurd (by rw[List.getElem_map,List.getElem_map,List.getElem_range,List.getElem_range];exact r1) (this _ _ (by simpa using m1) (by simpa using m2) z)
  .exact z
  .exact absurd (by rw[List.getElem_map,List.getElem_map,List.getElem_range,List.getElem_range];exact r1.symm) (this _ _ (by simpa using m2) (by simpa using m1) z)
 have:i=k:=by omega
 have:j=l:=by omega
 rw[ey,ez];simp_all
noncomputable def tm(M:Nat):SetTable:={SetTable.fresh 0 0 true with mask:=M}
def W(M:Nat)(h:Int)(m:Nat):Nat:=(dY ηP m ((tm M).probeStart h)).j
def Qr(t:SetTable)(p:SetTable.Probe):t.advance p=(tm t.mask).advance p:=rfl
theorem IX(t:SetTable):∀(m:Nat) (p:SetTable.Probe),dY t m p=dY (tm t.mask) m p
 |0,p=>rfl
 |m+1,p=>by show dY t m ηD=dY (tm t.mask) m ((tm t.mask).advance p);rw[IX t m,Qr]
def Ar(t:SetTable)(h:Int)(m:Nat):(dY t m ηQ).j=W t.mask h m:=by rw[IX];rfl
def tD(M:Nat)(pl:zzc)(h:Int)(j:Nat):Prop:=∃m,m<10*SetTable.turns M/\W M h m=j/\∀m',m'<m->W M h m'∈pl
def tD.mono(r:tD M pl h j)(s:∀x∈pl,x∈Qs):tD M Qs h j:=by obtain⟨m,a,b,c⟩:=r;exact⟨m,a,b,λm' hm=>s _ (c m' hm)⟩
def IZ{t:SetTable}(hr:nJ t.place)(h:t.place[i]?=some j):t.slot j=.live i:=by
 obtain⟨lt,e⟩:=qaM.mp h;obtain⟨h1,h2,h3⟩:=Du hr j
 have e0:SetTable.below t.place j=i:=by
  rcases Nat.lt_trichotomy ηb i with z|z|z
  .have l:=h3 ηb γI ω;rw[nK (by omega:SetTable.below t.place j<t.place.size)]at l;have:=(qa7.mp hr) ηb i (by simp;omega) (by simpa using lt) z;simp only[Array.getElem_toList]at this;omega
  .exact z
  .have:=h2 i z;rw[nK lt]at this;omega
 unfold SetTable.slot;dsimp only;rw[e0,h];simp
def Qt{t:SetTable}(hd:t.dummies=#[])(f:Nat->Int)(h:Int):∀(n:Nat) (p:SetTable.Probe) (j:Nat) (d:γF),SetTable.probe.go t f h n p=some (.empty j d)->∃m,m<n/\(dY t m p).j=j/\∀m',m'<m->∃i,t.slot (dY t m' p).j=.live i:=by
 intro n;induction n with
 |zero=>intro p j d e;cases e
 |succ n ih =>
   intro p j d e;unfold SetTable.probe.go at e;split at e
   .cases e;exact⟨0,ω,rfl,λm' h=>absurd h θV⟩
   .rename_i q;exact absurd q (An hd _)
   .rename_i i q;split at e
    .cases e
    .obtain⟨m,a,b,c⟩:=ih _ j d e;refine⟨m+1,ω,b,λm' hm=>?_⟩;cases m' with
     |zero=>exact⟨i,q⟩
     |succ m'=>exact c m' ω
def Qu{t:SetTable}(hd:t.dummies=#[])(f:Nat->Int)(h:Int):∀(n:Nat) (p:SetTable.Probe) (m k:Nat),m<n->(∀m',m'<m->∃i,t.slot (dY t m' p).j=.live i)->t.slot (dY t m p).j=.live k->f k=h->∃j i nx,SetTable.probe.go t f h n p=some θ7:=by
 intro n;induction n with
 |zero=>intro p m k hm;exact absurd hm θV
 |succ n ih =>
   intro p m k hm hb hs hf;unfold SetTable.probe.go
   have first:∃i,t.slot p.j=.live i:=by
    cases m with
    |zero=>exact⟨k,hs⟩
    |succ m=>exact hb 0 ω
   obtain⟨i,hi⟩:=first
   rw[hi];dsimp only;split
   .exact⟨_,_,_,rfl⟩
   .rename_i c;cases m with
    |zero =>
      have hs:t.slot p.j=.live k:=hs;rw[hi]at hs;cases hs;exact absurd (by simpa using hf) c
    |succ m=>exact ih _ m k ω (λm' h'=>hb (m'+1) ω) hs hf
def DD(M:Nat)(h:Int)(a:p_ M (dY ηP m ((tm M).probeStart h)) s):∀k,k<=SetTable.runEnd M s.1-s.1->W M h (m+k)=s.1+k:=by
 have go:∀(k:Nat) (p:SetTable.Probe),k<=p.more->(dY ηP k p).j=p.j+k:=by
  intro k;induction k with
  |zero=>intro p _;rfl
  |succ k ih =>
    intro p hk;have e:(tm M).advance p={p with j:=p.j+1,more:=p.more-1}:=by unfold SetTable.advance;rw[if_pos ω]
    show(dY ηP k ((tm M).advance p)).j=_;rw[ih _ (by rw[e];show k<=p.more-1;omega),e];show p.j+1+k=_;omega
 intro k hk;unfold W;rw[uY,go k _ (by rw[a.2.2.2];exact hk),a.1]
def zrk(M:Nat)(h:Int)(owner:ηM):∀(n m g:Nat) (s:Nat×Nat) (j:Nat),p_ M (dY ηP m ((tm M).probeStart h)) s->m<=10*g->(∀m',m'<m->∃x,owner.getD (W M h m') (some 0)=some x) ->
 SetTable.layClean.free M owner n s.1 s.2=some j->∃m2,m2<10*(g+n)/\W M h m2=j/\∀m',m'<m2->∃x,owner.getD (W M h m') (some 0)=some x:=by
 intro n;induction n with
 |zero=>intro m g s j _ _ _ e;cases e
 |succ n ih =>
   intro m g s j a hm hb e;unfold SetTable.layClean.free at e;have re:=wJ M s.1;split at e
   .rename_i k q;cases e;have kl:k<SetTable.runEnd M s.1+1-s.1:=qbA.mp (List.mem_of_find?_eq_some q);refine⟨m+k,ω,DD M h a k ω,λm' hm'=>?_⟩;rcases Nat.lt_or_ge m' m with z|z
    .exact hb m' z
    .have:=List.find?_range_eq_some.mp q;have w:=DD M h a (m'-m) ω;rw[show m+(m'-m)=m' by omega]at w;rw[w];have nn:=this.2.2 (m'-m) ω;cases e:owner.getD (s.1+(m'-m)) (some 0) with
     |none=>rw[e]at nn;simp at nn
     |some x=>exact⟨x,rfl⟩
   .rename_i q;have more:(dY ηP m ((tm M).probeStart h)).more=SetTable.runEnd M s.1-s.1:=a.2.2.2;obtain⟨a1,a2,a3⟩:=Dz ηP _ _ more
    have a':p_ M (dY ηP (m+(SetTable.runEnd M s.1-s.1)+1) ((tm M).probeStart h)) (lp M s):=by rw[uY,uY];show p_ M ((tm M).advance (dY ηP (SetTable.runEnd M s.1-s.1) (dY ηP m ((tm M).probeStart h)))) _;unfold SetTable.advance;rw[qax ω,a2,a3,a.2.1,a.2.2.1];exact⟨rfl,rfl,rfl,rfl⟩
    obtain⟨m2,b1,b2,b3⟩:=ih (m+(SetTable.runEnd M s.1-s.1)+1) (g+1) (lp M s) j a' ω (λm' hm'=>by
     rcases Nat.lt_or_ge m' m with z|z
     .exact hb m' z
     .have w:=DD M h a (m'-m) ω;rw[show m+(m'-m)=m' by omega]at w;rw[w];have nn:=List.find?_eq_none.mp q (m'-m) (by simp;omega);cases e:owner.getD (s.1+(m'-m)) (some 0) with
      |none=>rw[e]at nn;simp at nn
      |some x=>exact⟨x,rfl⟩) e
    exact⟨m2,ω,b2,b3⟩
def I0(h:i<=M):SetTable.runEnd M i<=M:=by unfold SetTable.runEnd;split<;>omega
theorem I8(M:Nat):∀(m:Nat) (p:SetTable.Probe),p.j+p.more<=M->(dY ηP m p).j+(dY ηP m p).more<=M
 |0,p,h=>h
 |m+1,p,h=>by
   show(dY ηP m ((tm M).advance p)).j+(dY ηP m ((tm M).advance p)).more<=M;refine I8 M m _ ?_;unfold SetTable.advance;split
   .rename_i c;show p.j+1+(p.more-1)<=M;omega
   .have a:=Dy M p.i p.perturb;have b:=I0 a;have c:=wJ M (SetTable.leap M p.i p.perturb).1;show(SetTable.leap M p.i p.perturb).1+(SetTable.runEnd M (SetTable.leap M p.i p.perturb).1-(SetTable.leap M p.i p.perturb).1)<=M;omega
def Qv(M:Nat)(h:Int)(m:Nat):W M h m<=M:=by
 have a:SetTable.bits h % (M+1)<=M:=Nat.lt_succ_iff.mp ζz
 have:=I8 M m ((tm M).probeStart h) (by show SetTable.bits h % (M+1)+(SetTable.runEnd M (SetTable.bits h % (M+1))-SetTable.bits h % (M+1))<=M;have b:=I0 a;have c:=wJ M (SetTable.bits h % (M+1));omega)
 exact qaJ (Nat.le_add_right _ _) this
def wK(M:Nat)(hs:u8)(owner:ηM):Prop:=∀j k,owner[j]?=some εq->∃c,hs[k]?=some c/\∃m,m<10*SetTable.turns M/\W M c m=j/\∀m',m'<m->∃x,owner[W M c m']?=some δZ
theorem I9(hm:nL M)(all:u8):∀(hs:u8) (owner:ηM) (k:Nat),uZ M k owner->wK M all owner->all.drop k=hs->k+hs.length<=M+1 ->
 ∃owner',hs.foldl (λacc h=>do
  let (owner,k) <-acc
  let j <-SetTable.layClean.free M owner ζa (SetTable.bits h % (M+1)) (SetTable.bits h)
  pure (owner.setIfInBounds j εq,k+1)) (some (owner,k))=some (owner',k+hs.length)/\uZ M (k+hs.length) owner'/\wK M all owner'
 |[],owner,k,h,r,_,_=>⟨owner,rfl,h,r⟩
 |c::rs,owner,k,h,r,hd,hl=>by
   simp only[List.length_cons]at hl;obtain⟨j,hj,hn⟩:=Qn hm h ω c
   have ok:uZ M (k+1) (owner.setIfInBounds j εq):=by refine⟨by rw[Array.size_setIfInBounds];exact h.1,?_⟩;rw[Array.toList_setIfInBounds,List.range_succ];refine(IU owner.toList j (by rw[qaw];exact hn)).trans ?_;exact(List.Perm.cons k h.2).trans (List.perm_append_singleton k _).symm
   have ck:all[k]?=some c:=by have:=congrArg List.head? hd;rw[List.head?_drop]at this;exact this
   have up:∀i x,owner[i]?=some δZ->(owner.setIfInBounds j εq)[i]?=some δZ:=λi x e=>by
    have ne:j≠i:=λz=>by rw[z]at hn;rw[hn]at e;cases e
    rw[Array.getElem?_setIfInBounds_ne ne];exact e
   obtain⟨m2,b1,b2,b3⟩:=zrk M c owner ζa 0 0 (SetTable.bits c % (M+1),SetTable.bits c) j ⟨rfl,rfl,rfl,rfl⟩ ω (λm' z=>absurd z θV) hj
   have gd:∀i,i<=M->∀x,owner.getD i (some 0)=some x->owner[i]?=some δZ:=λi hi x e=>by
    have lt:i<owner.size:=by rw[h.1];omega
    rw[qa2,qap lt]at e;rw[qap lt];exact congrArg some e
   have r':wK M all (owner.setIfInBounds j εq):=λi x e=>by
    by_cases z:j=i
    .subst z;have lt:j<owner.size:=(qaM.mp hn).1;rw[Array.getElem?_setIfInBounds_self_of_lt lt]at e;cases e;refine⟨c,ck,m2,ω,b2,λm' hm'=>?_⟩;obtain⟨x,hx⟩:=b3 m' hm';exact⟨x,up _ x (gd _ (Qv M c m') x hx)⟩
    .rw[Array.getElem?_setIfInBounds_ne z]at e;obtain⟨c',hc,m,a1,a2,a3⟩:=r i x e;exact⟨c',hc,m,a1,a2,λm' hm'=>let ⟨y,hy⟩:=a3 m' hm'; ⟨y,up _ y hy⟩⟩
   have hd':all.drop (k+1)=rs:=by have:=congrArg List.tail hd;rw[List.tail_drop]at this;exact this
   obtain⟨o',e,ok',r2⟩:=I9 hm all rs _ (k+1) ok r' hd' ω;refine⟨o',?_,by rw[qaW,show k+(rs.length+1)=k+1+rs.length by omega];exact ok',r2⟩;rw[List.foldl_cons,qaW,show k+(rs.length+1)=k+1+rs.length by omega,<-e];congr 1;show(Option.bind (SetTable.layClean.free M owner ζa (SetTable.bits c % (M+1)) (SetTable.bits c)) λj=>some (owner.setIfInBounds j εq,k+1))=_;rw[hj];rfl
def Qw(hm:nL M)(hs:Array Int)(hl:hs.size<=M+1):∃owner,SetTable.layClean M hs=some owner/\uZ M hs.size owner/\wK M hs.toList owner:=by
 have ok:uZ M 0 (Array.replicate (M+1) none):=⟨by simp,by
  rw[Array.toList_replicate]
  have:∀n,(List.replicate n (none:γF)).filterMap id=[]:=λn=>by
   induction n with
   |zero=>rfl
   |succ n ih=>simpa [List.replicate_succ]using ih
  rw[this];exact .nil⟩
 have r0:wK M hs.toList (Array.replicate (M+1) none):=λj k e=>by rw[Array.getElem?_replicate]at e;split at e<;>cases e
 obtain⟨o',e,ok',r'⟩:=I9 hm hs.toList hs.toList _ 0 ok r0 (by simp) (by simpa using hl);refine⟨o',?_,by simpa using ok',r'⟩;unfold SetTable.layClean;rw[<-Array.foldl_toList];have e:=congrArg (Option.map (·.1)) e;exact e
def Qx{t:SetTable}{es:zzg}(hm:nL (SetTable.sizeAbove n-1))(hl:es.size<=SetTable.sizeAbove n-1) :
 ∃(t':SetTable) (live:List (Nat×Nat)),t.relaid (es.map (·.1)) n=some (t',(live.map (·.2)).toArray)/\(live.map (·.2)).Perm (List.range es.size)/\t'.mask=SetTable.sizeAbove n-1/\nJ t'.place/\t'.dummies=#[]/\t'.led=t.led/\t'.plain=t.plain /\
  t'.place.toList=live.map (·.1)/\∀q∈live,∃c,(es.map (·.1)).toList[q.2]?=some c/\tD (SetTable.sizeAbove n-1) (live.map (·.1)) c q.1:=by
 obtain⟨owner,e,ok,Au⟩:=Qw hm (es.map (·.1)) (by simp;omega)
 rw[Array.size_map]at ok
 have lm:∀j k,owner[j]?=some εq->(j,k)∈((List.range (SetTable.sizeAbove n-1+1)).filterMap λj=>(owner.getD j none).map (j, ·)):=λj k h=>by have lt:j<owner.size:=(qaM.mp h).1;refine List.mem_filterMap.mpr ⟨j,by rw[qbA,<-ok.1];exact lt,?_⟩;rw[qa2,h];rfl
 cases q:t.relaid (es.map (·.1)) n with
 |none =>
   unfold SetTable.relaid SetTable.laid at q
   rw[e]at q
   cases q
 |some r =>
   unfold SetTable.relaid SetTable.laid at q
   rw[e]at q
   cases q
   refine⟨_,(List.range (SetTable.sizeAbove n-1+1)).filterMap λj=>(owner.getD j none).map (j, ·),rfl,?_,rfl,Iw owner _,rfl,rfl,rfl,rfl,?_⟩
   .have:=Qo owner
    rw[ok.1]at this
    rw[this]
    exact ok.2
   .rintro⟨j,k⟩ hq
    obtain⟨j',hj,ej⟩:=List.mem_filterMap.mp hq
    have own:owner[j]?=some εq:=by
     cases z:owner.getD j' none with
     |none=>rw[z]at ej;cases ej
     |some x =>
       rw[z]at ej;cases ej;rw[qa2]at z;cases y:owner[j]? with
       |none=>rw[y]at z;cases z
       |some o=>rw[y]at z;exact congrArg some z
    obtain⟨c,hc,m,a1,a2,a3⟩:=Au j k own
    refine⟨c,hc,m,a1,a2,λm' hm'=>?_⟩
    obtain⟨x,hx⟩:=a3 m' hm'
    exact qaF.mpr ⟨(W (SetTable.sizeAbove n-1) c m',x),lm _ x hx,rfl⟩
noncomputable abbrev Z:=(Int×Int)×Addr
def zO(z:Z):Int×Value:=(hP z.1,.ref z.2)
def wL(z:Z):zO z=(hP z.1,.ref z.2):=by unfold zO;rfl
section
variable{prog:Program}{w:World}{A:Around}{E:T0}{s:Shared}{a p:Addr}{es:zzg}{ep:Nat}{t:SetTable}
noncomputable def dS(h:Heap)(z:Int×Int)(p:Addr):Prop:=∃o items n t u,h.get? p=some o/\o.cls=.type "tuple" /\ o.data=.seq items n/\items.toList=[.int z.1 t,.int z.2 u]
def dS.key(x:dS h z p)(prog:Program)(w:World):IsTupleKey (intKind prog w) h [z.1,z.2] p:=by obtain⟨o,items,n,t,u,e,c,d,i⟩:=x;exact⟨o,items,n,e,c,d,by rw[i];exact .cons ζS (.cons ζS .nil)⟩
def dS.at{h h':Heap}(x:dS h z p)(k:∀o,h.get? p=some o->h'.get? p=some o):dS h' z p:=by obtain⟨o,items,n,t,u,e,r⟩:=x;exact⟨o,items,n,t,u,k _ e,r⟩
def Qy(hu:A.units<cLine)(hp:ζf)(h:Q θO {s with toks:=s.toks+3}):wpAny ε A (pyHash γO) Q E s:=
 wpAny_pyHash_tuple (knd:=intKind prog w) hu (hp.key prog w) h
def Qz(hu:A.units<cLine)(hp:dS s.heap y p)(hq:dS s.heap z q)(h:Q (decide (y=z)) s):wpAny ε A (eqBool γO (.ref q)) Q E s:=by refine wpAny_eqBool_tuple (knd:=intKind prog w) hu (hp.key prog w) (hq.key prog w) ?_;have e:decide ([y.1,y.2]=[z.1,z.2])=decide (y=z):=decide_eq_decide.mpr ⟨λh=>by simp at h;exact Prod.ext h.1 h.2,λh=>by rw[h]⟩;rw[e];exact h
def I_(hp:ζf)(h:Q false s):wpAny ε A (ofAClassStatement 8 γO) Q E s:=by obtain⟨o,items,n,t,u,e,c,d,i⟩:=hp;have hT:s.TypeIs γO "tuple":= ⟨o,e,c⟩;unfold ofAClassStatement;refine qaa (wpAny_typeOf hT ?_);dsimp only;rw[qaz (show(("tuple":String) == "tuple")=true by decide)];refine qaa (qad ?_);rw[qax ξ];refine qaa (wpAny_seqItems e d ?_);dsimp only;refine qaa ?_;rw[<-Array.forIn_toList,i];rw[List.forIn_cons];unfold ofAClassStatement;simp only[pure_bind,List.forIn_cons,List.forIn_nil];exact qad (qad h)
def QA(hp:ζf)(h:Q true s):wpAny ε A (hashByValue 8 γO) Q E s:=by obtain⟨o,items,n,t,u,e,c,d,i⟩:=hp;have hT:s.TypeIs γO "tuple":= ⟨o,e,c⟩;unfold hashByValue;refine qaa (wpAny_specialOf hT F.slot_tuple_hash.lookup ?_);dsimp only;refine qaa (wpAny_seqItems e d ?_);refine qaa ?_;dsimp only[Option.getD];rw[<-Array.forIn_toList,i];rw[List.forIn_cons];unfold hashByValue;simp only[pure_bind,List.forIn_cons,List.forIn_nil];exact qad (qad h)
def QB(hp:ζf)(h:Q false s):∀(l:v4),(∀v∈l,∃q y,v=.ref q/\dS s.heap y q)->wpAny ε A (searchCouldBeSeen γO l) Q E s:=by
 intro l hl;unfold searchCouldBeSeen;refine qaa ?_;refine wpAny_forIn_list _ (λrest r s'=>r.1=none/\s'=s/\∀v∈rest,∃q y,v=.ref q/\dS s.heap y q) _ ?_ ?_ _ _ ⟨rfl,rfl,hl⟩
 .rintro v rest r s' ⟨hr,rfl,hv⟩;obtain⟨q,y,rfl,hq⟩:=hv v ηy;have nx:∀x∈rest,∃q y,x=Value.ref q/\dS s'.heap y q:=λx hx=>hv x (.tail _ hx);dsimp only;split
  .exact qad ⟨rfl,rfl,nx⟩
  .refine qaa (wpAny_eqIsQuiet_tuple (hp.key prog w) ?_);rw[qax ξ];refine qaa (wpAny_eqIsQuiet_tuple (hq.key prog w) ?_);rw[qax ξ];refine qaa (I_ hp ?_);rw[qax ξ];refine qaa (I_ hq ?_);rw[qax ξ];exact qad ⟨rfl,rfl,nx⟩
 .rintro⟨r1,r2⟩ s' ⟨hr,rfl,_⟩;simp only at hr;subst hr;exact qad h
structure dQ(es:zzg)(t:SetTable)(B:Bool)(zs:ζk):Prop where
 el:es.toList=zs.map zO
 sm:∀z∈zs,eK z.1
 nd:(zs.map (·.1)).Nodup
 hon:iM t B
 wM:nL t.mask
 sz:t.place.size=es.size
 rm:t.place.size<=t.mask
 Au:∀q∈zs.zip t.place.toList,tD t.mask t.place.toList (hP q.1.1) q.2
def dQ.fits(h:ε4):t.fits es.size=true:=by have:=h.sz;have:=h.rm;simp only[SetTable.fits,SetTable.fill,h.hon.ou,Bool.and_eq_true,beq_iff_eq,decide_eq_true_eq];exact⟨h.sz,by simp;omega⟩
def dQ.get(h:ε4)(i:Nat):es[i]?=(zs[i]?).map zO:=by rw[<-qaw,h.el,qaE]
def dQ.len(h:ε4):zs.length=es.size:=by have:=congrArg List.length h.el;simpa using this.symm
def QC{t:SetTable}(hd:t.dummies=#[])(f:Nat->Int)(h:Int):∀(n:Nat) (p:SetTable.Probe) (j i:Nat) (nx:SetTable.Probe),SetTable.probe.go t f h n p=some θ7->t.slot j=.live i/\f i=h:=by
 intro n;induction n with
 |zero=>intro p j i nx e;cases e
 |succ n ih =>
   intro p j i nx e;unfold SetTable.probe.go at e;split at e
   .cases e
   .rename_i q;exact absurd q (An hd _)
   .rename_i k q;split at e
    .rename_i c;cases e;exact⟨q,eq_of_beq c⟩
    .exact ih _ j i nx e
def QD{t:SetTable}(h:t.slot j=.live i):i<t.place.size:=(qaM.mp (DC h)).1
def dQ.found(T:ε4)(hz:z∈zs.map (·.1))(hf:∀i (h:i<zs.length),f i=hP zs[i].1):∃j i nx,t.probe f θO (t.probeStart θO)=some θ7:=by
 obtain⟨y,hy,rfl⟩:=qaF.mp hz;obtain⟨k,hk,rfl⟩:=List.mem_iff_getElem.mp hy;have kp:k<t.place.size:=by rw[T.sz,<-T.len];exact hk
 have zm:(zs[k],t.place[k])∈zs.zip t.place.toList:=by refine List.mem_iff_getElem.mpr ⟨k,by simp;omega,?_⟩;simp
 obtain⟨m,a1,a2,a3⟩:=T.Au _ zm;refine Qu T.hon.ou f _ (10*SetTable.turns t.mask) _ m k a1 (λm' hm'=>?_) ?_ (hf k hk)
 .rw[Ar];obtain⟨i,hi⟩:=List.getElem?_of_mem (a3 m' hm');rw[qaw]at hi;exact⟨i,IZ T.hon.rise hi⟩
 .rw[Ar,a2];exact IZ T.hon.rise (qap kp)
def dQ.hash(T:ε4)(h:i<zs.length):((es[i]?).map (·.1)).getD 0=hP zs[i].1:=by have e:=T.get i;rw[qae h]at e;rw[e,Option.map_some,Option.map_some,Option.getD_some,wL]
end
section
variable{prog:Program}{w:World}{A:Around}{E:T0}{s:Shared}{a p:Addr}{es:zzg}{ep:Nat}{t:SetTable}
def QE(hu:A.units<cLine)(ha:s.heap.get? a=some γ3)(T:ε4)(hz:∀y∈zs,dS s.heap y.1 y.2)(hp:ζf)(sm:eK z)
 (there:z∈zs.map (·.1)->Q (.there none) s) (free:∀j,z∉zs.map (·.1)->t.slot j=.empty->tD t.mask t.place.toList θO j->Q (.free j false) s) (n:Nat):wpAny ε A (setSearchFrom a γO θO true (n+1) none) Q E s:=by
 rw[setSearchFrom];refine qaa (qbe ha rfl T.fits ?_);dsimp only
 have odd:t.gaveWay=false:=by unfold SetTable.gaveWay;rcases T.wM with e|e|e|e|e<;>rw[e]<;>decide
 rw[odd,qax ξ];have room:t.place.size<=t.mask:=T.rm;obtain⟨m,hm⟩:=Qk T.hon.ou T.wM room (λi:Nat=>((es[i]?).map (·.1)).getD 0) θO;generalize hq:SetTable.probe t _ θO _=r;have hr:r=some m:=by rw[<-hq];exact hm
 clear hq;subst hr;dsimp only
 .generalize hf:(λi:Nat=>((es[i]?).map (·.1)).getD 0)=f at hm;have hfi:∀i (h:i<zs.length),f i=hP zs[i].1:=λi h=>by rw[<-hf];exact T.hash h
  cases m with
  |empty j d =>
    dsimp only;obtain⟨rfl,e⟩:=Iv T.hon.ou f θO _ _ j d rfl hm;obtain⟨m,b1,b2,b3⟩:=Qt T.hon.ou f θO _ _ j none hm;refine qad (free j (λDE=>?_) e ⟨m,b1,by rw[<-Ar];exact b2,λm' hm'=>?_⟩)
    .obtain⟨j',i',nx',q⟩:=T.found DE hfi;rw[hm]at q;cases q
    .obtain⟨i,hi⟩:=b3 m' hm';rw[Ar]at hi;have:=DC hi;rw[<-qaw]at this;exact qaB this
  |candidate j i nx =>
    dsimp only;obtain⟨e1,e2⟩:=QC T.hon.ou f θO _ _ j i nx hm;have lz:i<zs.length:=by rw[T.len,<-T.sz];exact QD e1
    have key:zs[i].1=z:=Qq (T.sm _ (qbT lz)) sm ((hfi i lz).symm.trans e2);have DE:z∈zs.map (·.1):=qaF.mpr ⟨zs[i],qbT lz,key⟩;have ge:=T.get i;rw[qae lz]at ge;rw[Option.map_some,wL]at ge
    have go:∀{k:Bool->(zzg×Nat×SetTable)->Sem SetFound},(∀x,k true x=pure (SetFound.there none))->wpAny ε A (do
     let equal <-holding [Value.ref zs[i].2] (eqBool (.ref zs[i].2) γO)
     let x <-setState a
     k equal x) Q E s:=λ{k} hk=>by refine qaa (qbh (Qz hu (hz _ (qbT lz)) hp ?_));rw[qaN key];refine qaa (qbe ha rfl T.fits ?_);rw[hk];exact qad (there DE)
    split
    .refine qaa (QB hp ?_ _ λv hv=>?_)
     .rw[qax ξ];simp only[ge];exact go λx=>by simp
     .obtain⟨e,he,rfl⟩:=qaF.mp hv
      have he:e∈es.toList:=by rw[Array.mem_toList_iff]at he ⊢;exact(Array.mem_filter.mp he).1
      rw[T.el]at he;obtain⟨y,hy,rfl⟩:=qaF.mp he;exact⟨y.2,y.1,rfl,hz y hy⟩
    .simp only[ge];exact go λx=>by simp
end
section
variable{prog:Program}{w:World}{A:Around}{E:T0}{s:Shared}{a p:Addr}{es:zzg}{ep:Nat}{t:SetTable}
def QF{α β:Type}{x:α}{y:β}:∀(xs:δ5) (ys:List β) (n:Nat),xs.length=ys.length->∀q∈(xs.take n++x::xs.drop n).zip (ys.take n++y::ys.drop n),q=(x,y)\/q∈xs.zip ys:=by
 intro xs ys n h q hq;have l:(xs.take n).length=(ys.take n).length:=by rw[qa0,qa0,h]
 rw[List.zip_append l,List.zip_cons_cons]at hq;have e:xs.zip ys=(xs.take n).zip (ys.take n)++(xs.drop n).zip (ys.drop n):=by rw[<-List.zip_append l,qaO,qaO]
 rw[e];rcases qaK.mp hq with z|z
 .exact .inr (qa3 _ z)
 .rcases qav.mp z with z|z
  .exact .inl z
  .exact .inr (qay _ z)
def dQ.put(T:ε4){z:Z}(hn:z.1∉zs.map (·.1))(sm:eK z.1)(hj:t.slot j=.empty)(hr:tD t.mask t.place.toList (hP z.1) j)(rm:t.place.size+1<=t.mask) :
 dQ (SetTable.insertAt es (t.put j).2 (zO z)) (t.put j).1 B (zs.take (t.put j).2++z::zs.drop (t.put j).2)/\(t.put j).1.mask=t.mask/\(t.put j).1.place.size=t.place.size+1/\(t.put j).1.dummies=#[]:=by
 have dm:(t.put j).1.dummies=#[]:=by unfold SetTable.put;dsimp only;rw[T.hon.ou,Dw];rfl
 have pl:(t.put j).1.place=SetTable.insertAt t.place (t.put j).2 j:=rfl;have p2:(t.put j).2=SetTable.below t.place j:=rfl;generalize hq:(t.put j).2=q at *;have DF:(t.put j).1.place.toList=t.place.toList.take q++j::t.place.toList.drop q:=by rw[pl,SetTable.toList_insertAt]
 have mk:(t.put j).1.mask=t.mask:=rfl
 have rG:(t.put j).1.place.size=t.place.size+1:=by rw[<-qaA,DF];simp;omega
 have len:zs.length=t.place.toList.length:=by rw[T.len,<-T.sz,qaA]
 have wN:∀x∈t.place.toList,x∈(t.put j).1.place.toList:=λx hx=>by
  rw[DF];rw[<-qaO q t.place.toList]at hx;rcases qaK.mp hx with h|h
  .exact qa3 _ h
  .exact qay _ (qaf _ h)
 have perm:(zs.take q++z::zs.drop q).Perm (z::zs):=by have:=List.perm_middle (a:=z) (l₁:=zs.take q) (l₂:=zs.drop q);rwa[qaO]at this
 refine⟨⟨?_,λy hy=>?_,?_,⟨?_,dm,T.hon.led⟩,T.wM,?_,by rw[rG];exact rm,λy hy=>?_⟩,rfl,rG,dm⟩
 .rw[SetTable.toList_insertAt,T.el,qbj,qaP,List.map_take,List.map_drop]
 .rcases qav.mp (perm.mem_iff.mp hy) with e|e
  .rw[e];exact sm
  .exact T.sm y e
 .refine(perm.map _).nodup_iff.mpr ?_;rw[qaP];exact qbk.mpr ⟨hn,T.nd⟩
 .show nJ (t.put j).1.place;rw[pl,p2];exact Ir T.hon.rise (Iu T.hon.ou hj)
 .have l2:(SetTable.insertAt es q (zO z)).toList.length=es.toList.length+1:=by rw[SetTable.toList_insertAt];simp only[List.length_append,List.length_take,List.length_cons,List.length_drop];omega
  rw[qaA,qaA]at l2
  rw[rG,l2,T.sz]
 .rw[DF]at hy;rcases QF zs t.place.toList q len y hy with e|e
  .rw[e,mk];exact hr.mono wN
  .rw[mk];exact(T.Au y e).mono wN
def QG{zs:ζk}(hel:es.toList=zs.map zO)(l:zzc):l.filterMap (λi=>es[i]?)=(l.filterMap λi=>zs[i]?).map zO:=by rw[List.map_filterMap];congr 1;funext i;rw[<-qaw,hel,qaE]
def dQ.wO(T:ε4)(hm:nL (SetTable.sizeAbove n-1))(hl:es.size<=SetTable.sizeAbove n-1) :
 ∃(t':SetTable) (order:Array Nat) (zs':ζk),t.relaid (es.map (·.1)) n=some (t',order)/\(order.filterMap λi=>es[i]?).size=es.size/\dQ (order.filterMap λi=>es[i]?) t' B zs'/\zs'.Perm zs/\t'.mask=SetTable.sizeAbove n-1/\t'.place.size=es.size:=by
 obtain⟨t',live,e,pm,mk,ri,du,le,pn,Ja,rc⟩:=Qx (t:=t) hm hl
 have zp:((live.map (·.2)).filterMap λi=>zs[i]?).Perm zs:=by have q:=pm.filterMap (λi=>zs[i]?);rw[<-T.len,List.filterMap_getElem?_range_length]at q;exact q
 have esl:((live.map (·.2)).toArray.filterMap λi=>es[i]?).toList=((live.map (·.2)).filterMap λi=>zs[i]?).map zO:=by rw[Array.toList_filterMap];exact QG T.el _
 have Jb:((live.map (·.2)).toArray.filterMap λi=>es[i]?).size=es.size:=by rw[<-qaA,esl,qag,zp.length_eq,T.len]
 have ll:live.length=es.size:=by have:=pm.length_eq;simpa using this
 have psz:t'.place.size=es.size:=by rw[<-qaA,Ja,qag,ll]
 refine⟨t',_,_,e,Jb,⟨esl,λy hy=>T.sm y (zp.mem_iff.mp hy),(zp.map _).nodup_iff.mpr T.nd,⟨ri,du,le.trans T.hon.led⟩,by rw[mk];exact hm,psz.trans Jb.symm,by rw[psz,mk];exact hl,λy hy=>?_⟩,zp,mk,psz⟩
 have lt:∀q∈live,q.2<zs.length:=λq hq=>by have:=pm.mem_iff.mp (qaF.mpr ⟨q,hq,rfl⟩);rw[T.len];exact qbA.mp this
 have QH:∀(l:List (Nat×Nat)),(∀q∈l,q.2<zs.length)->∀y∈((l.map (·.2)).filterMap λi=>zs[i]?).zip (l.map (·.1)),∃q∈l,zs[q.2]?=some y.1/\y.2=q.1:=by
  intro l;induction l with
  |nil=>intro _ y hy;simp at hy
  |cons c r ih =>
    intro h y hy;have lc:=h c ηy;rw[qaP,qaP,List.filterMap_cons_some (qae lc),List.zip_cons_cons]at hy;rcases qav.mp hy with e|e
    .exact⟨c,.head _,by rw[e];exact qae lc,by rw[e]⟩
    .obtain⟨q,hq,b⟩:=ih (λq hq=>h q (.tail _ hq)) y e;exact⟨q,.tail _ hq,b⟩
 rw[Ja]at hy ⊢;obtain⟨q,hq,e1,e2⟩:=QH live lt y hy;obtain⟨c,hc,r⟩:=rc q hq
 have ec:c=hP y.1.1:=by
  have h2:(es.map (·.1)).toList[q.2]?=some (hP y.1.1):=by rw[Array.toList_map,T.el,qbo,qaE,e1,Option.map_some,Function.comp_apply,wL]
  rw[h2]at hc;exact(qaH hc).symm
 rw[mk,e2];rw[ec]at r;exact r
end
section
variable{prog:Program}{w:World}{A:Around}{E:T0}{s:Shared}{a p:Addr}
def gh(B:Bool)(h:Heap)(a:Addr)(zs:ζk):Prop:=∃es ep t,h.get? a=some γ3/\dQ es t B zs/\t.place.size*5<t.mask*3
def gh.at{h h':Heap}(x:gh B h a zs)(k:∀o,h.get? a=some o->h'.get? a=some o):gh B h' a zs:=by obtain⟨es,ep,t,e,r⟩:=x;exact⟨es,ep,t,k _ e,r⟩
def gh.fresh(B:Bool){h:Heap}(e:h.get? a=some (bT #[] 0 (.fresh 0 0 (!B)))):gh B h a []:=
 ⟨#[],0,_,e,⟨rfl,(λz hz=>nomatch hz),List.nodup_nil,iM.fresh B,.inl rfl,rfl,(show 0<=7 by decide),(λq hq=>by simp at hq)⟩,(show 0*5<7*3 by decide)⟩
def grow(hm:nL m)(h1:n*5<m*3)(h2:m*3<=(n+1)*5)(h3:n<600):nL (SetTable.sizeAbove (SetTable.grown (n+1))-1)/\n+1<=SetTable.sizeAbove (SetTable.grown (n+1))-1/\(n+1)*5<(SetTable.sizeAbove (SetTable.grown (n+1))-1)*3/\SetTable.sizeAbove (SetTable.grown (n+1))<=sizeLine:=by
 rcases hm with rfl|rfl|rfl|rfl|rfl
 .obtain rfl:n=4:=by omega
  exact⟨.inr (.inl ξ),ξ,ξ,ξ⟩
 .obtain rfl:n=18:=by omega
  exact⟨.inr (.inr (.inl ξ)),ξ,ξ,ξ⟩
 .obtain rfl:n=76:=by omega
  exact⟨.inr (.inr (.inr (.inl ξ))),ξ,ξ,ξ⟩
 .obtain rfl:n=306:=by omega
  exact⟨.inr (.inr (.inr (.inr ξ))),ξ,ξ,ξ⟩
 .omega
def QI(hu:A.units<cLine)(hS:gh B s.heap a zs)(hz:∀y∈zs,dS s.heap y.1 y.2)(hp:ζf)(sm:eK z)(hl:zs.length<600)
 (same:z∈zs.map (·.1)->∀tk,Q false {s with toks:=tk})
 (new:z∉zs.map (·.1)->∀h' tk zs',Heap.SameBut a s.heap h'->gh B h' a zs'->zs'.Perm ((z,p)::zs)->Q true {s with heap:=h',toks:=tk}):wpAny ε A (setAdd a γO) Q E s:=by
 obtain⟨es,ep,t,ha,T,nf⟩:=hS;unfold setAdd;refine qbh (qaa (Qy hu hp ?_));unfold setAddHashed;refine qbh ?_;show wpAny _ _ (setAddHashedIn a γO θO (99999+1)) _ _ _;rw[setAddHashedIn];refine qaa (qbe (s:={s with toks:=s.toks+3}) ha rfl T.fits ?_);have ns:byScan γO es=false:=rfl;dsimp only;rw[ns,qax ξ];refine qaa ?_;show wpAny _ _ (setSearchFrom a γO θO true (99999+1) none) _ _ _;refine QE (s:={s with toks:=s.toks+3}) hu ha T hz hp sm (λhin=>?_) (λj hn hj hr=>?_) 99999
 .exact qad (same hin _)
 .dsimp only;refine qaa (qbe (s:={s with toks:=s.toks+3}) ha rfl T.fits ?_);dsimp only
  have room:t.place.size+1<=t.mask:=by rcases T.wM with e|e|e|e<;>omega
  obtain⟨T1,mk1,rG,Jc⟩:=T.put (z:=(z,p)) hn sm hj hr room;rw[wL]at T1;generalize hq:(t.put j).2=q at T1;generalize ht:(t.put j).1=t1 at T1 mk1 rG Jc
  have rJ:(zs.take q++(z,p)::zs.drop q).Perm ((z,p)::zs):=by have:=List.perm_middle (a:=(z,p)) (l₁:=zs.take q) (l₂:=zs.drop q);rwa[qaO]at this
  have esl:(SetTable.insertAt es q (hP z,.ref p)).size=zs.length+1:=by rw[<-T1.len];simp only[List.length_append,List.length_take,List.length_cons,List.length_drop];omega
  have big:(600:Nat)<=sizeLine:=by decide
  have zl:t.place.size=zs.length:=by rw[T.sz,T.len]
  have ez:es.size=zs.length:=T.len.symm;have g1:=Ao (es':=SetTable.insertAt es q (hP z,.ref p)) (t':=t1) ha;have mU:=Heap.SameBut.update s.heap a (Obj.putSet (SetTable.insertAt es q (hP z,.ref p)) t1)
  have tf:t1.tooFull=decide (t1.place.size*5 ≥ t1.mask*3):=by unfold SetTable.tooFull SetTable.fill;rw[Jc];rfl
  have fin:wpAny ε A (if (!false&&t1.tooFull)=true then do
   setRelay a (SetTable.grown (es.size+1))
   pure true
   else pure true) Q E {s with heap:=s.heap.update a (Obj.putSet (SetTable.insertAt es q (hP z,.ref p)) t1),toks:=s.toks+3}:=by
   split
   .rename_i c;rw[tf,Bool.not_false,Bool.true_and,decide_eq_true_eq,rG,mk1]at c;obtain⟨k1,k2,k3,k4⟩:=grow T.wM nf c ω;rw[<-T.sz];refine qaa ?_;unfold setRelay;refine qaa (qbe (s:={s with heap:=s.heap.update a (Obj.putSet (SetTable.insertAt es q (hP z,.ref p)) t1),toks:=s.toks+3}) g1 rfl T1.fits ?_);dsimp only;rw[qax (Nat.not_lt.mpr k4)];obtain⟨t2,order,QJ,e2,Jd,T2,qz,mk2,ps2⟩:=T1.wO (n:=SetTable.grown (t.place.size+1)) k1 (by rw[esl,<-zl];exact k2);rw[e2];refine qaa (show wpAny _ _ (if ((order.filterMap λi=>(SetTable.insertAt es q (hP z,.ref p))[i]?).size != (SetTable.insertAt es q (hP z,.ref p)).size)=true then (unsupported "internal:set-table-lost-an-element" >>= λ(_:PUnit)=>pure (order.filterMap λi=>(SetTable.insertAt es q (hP z,.ref p))[i]?,t2)) else pure (order.filterMap λi=>(SetTable.insertAt es q (hP z,.ref p))[i]?,t2)) _ _ _ from ?_);rw[qax (by rw[Jd];simp)];refine qad ?_;dsimp only;refine wpAny_storeSet_of (s:={s with heap:=s.heap.update a (Obj.putSet (SetTable.insertAt es q (hP z,.ref p)) t1),toks:=s.toks+3}) g1 rfl ?_ (by rw[Jd,esl];omega);refine qad (new hn _ _ QJ (mU.trans (Heap.SameBut.update _ a _)) ⟨_,_,t2,Ao g1,T2,?_⟩ (qz.trans rJ));rw[ps2,mk2,esl,<-zl];exact k3
   .rename_i c;rw[tf,Bool.not_false,Bool.true_and,decide_eq_true_eq]at c;exact qad (new hn _ _ _ mU ⟨_,_,t1,g1,T1,ω⟩ rJ)
  split
  .refine qaa (QA (s:={s with toks:=s.toks+3}) hp ?_);rw[qaz rfl];refine qaa (wpAny_storeSet_of (s:={s with toks:=s.toks+3}) ha rfl ?_ ω);exact fin
  .refine qaa (qad ?_);rw[qaz rfl];refine qaa (wpAny_storeSet_of (s:={s with toks:=s.toks+3}) ha rfl ?_ ω);exact fin
end
section
variable{prog:Program}{w:World}{A:Around}{E:T0}{s:Shared}{a p:Addr}
def QK(hu:A.units+1<cLine)(hS:gh B s.heap a zs)(hz:∀y∈zs,dS s.heap y.1 y.2)(hp:ζf)(sm:eK z)(hl:zs.length<600)
 (h:∀h' tk zs',Heap.SameBut a s.heap h'->gh B h' a zs'->(zs'=zs/\z∈zs.map (·.1))\/(zs'.Perm ((z,p)::zs)/\z∉zs.map (·.1))->Q .none {s with heap:=h',toks:=tk}):wpAny ε A (call (.builtin "set.add") [.ref a,.ref p]) Q E s:=by
 have hT:s.TypeIs γz "set":= by obtain⟨es,ep,t,e,_⟩:=hS;exact⟨_,e,rfl⟩
 refine qbl F.slot_set_add hT F.entry_set_add ?_ (F.args_set_add_2 _ _);show wpAny _ _ (setAdd a γO >>= _) _ _ _;refine qaa (QI hu hS hz hp sm hl (λhin tk=>?_) λhn h' tk zs' sb S pm=>?_)
 .exact qad ⟨_,rfl,h s.heap tk zs (Heap.SameBut.refl _ _) hS (.inl ⟨rfl,hin⟩)⟩
 .exact qad ⟨_,rfl,h h' tk zs' sb S (.inr ⟨pm,hn⟩)⟩
end
end St
namespace L2
open PySem PySem.Spec PyProof.Rows
noncomputable abbrev Key:=Sum Int Str
noncomputable def Je:Key->Value->Bool
 |.inl k,v=>Value.isInt k v
 |.inr x,v=>Value.isStrOf x v
noncomputable def QL(w:World):Key->Int
 |.inl k=>hashInt k
 |.inr x=>hashStr w x
theorem qA:∀{k:Key}{v:Value},Je k v=true->(∃i t,k=Sum.inl i/\v=Value.int i t)\/(∃x t,k=Sum.inr x/\v=Value.str x t)
 |.inl i,v,h=>by obtain⟨t,e⟩:=Value.isInt_shape (k:=i) (v:=v) h;exact .inl ⟨i,t,rfl,e⟩
 |.inr x,v,h=>by obtain⟨t,e⟩:=Value.isStrOf_shape (x:=x) (v:=v) h;exact .inr ⟨x,t,rfl,e⟩
def QM(a b:Int):decide ((Sum.inl a:Key)=Sum.inl b)=(a == b):=by
 by_cases e:a=b
 .subst e;simp
 .have h:¬(Sum.inl a:Key)=Sum.inl b:=λq=>e (Sum.inl.inj q);rw[qaY h];exact(beq_eq_false_iff_ne.mpr e).symm
def QN(a b:Str):decide ((Sum.inr a:Key)=Sum.inr b)=decide (a=b):=by
 by_cases e:a=b
 .subst e;simp
 .have h:¬(Sum.inr a:Key)=Sum.inr b:=λq=>e (Sum.inr.inj q);rw[qaY h,qaY e]
def QO(a:Int)(b:Str):decide ((Sum.inl a:Key)=Sum.inr b)=false:=qaY (λq=>nomatch q)
def QP(a:Str)(b:Int):decide ((Sum.inr a:Key)=Sum.inl b)=false:=qaY (λq=>nomatch q)
noncomputable def Jf(prog:Program)(w:World):PySem.KeyKind prog w Key where
 is:=Je
 hash:=QL w
 inj:=λv a b ha hb=>by
  rcases qA ha with ⟨i,t,rfl,rfl⟩|⟨x,t,rfl,rfl⟩
  .rcases qA hb with ⟨j,u,rfl,e⟩|⟨y,u,rfl,e⟩
   .injection e with e1 _;rw[e1]
   .exact nomatch e
  .rcases qA hb with ⟨j,u,rfl,e⟩|⟨y,u,rfl,e⟩
   .exact nomatch e
   .injection e with e1 _;rw[e1]
 byValue:=λk v h=>by rcases qA h with ⟨i,t,rfl,rfl⟩|⟨x,t,rfl,rfl⟩<;>rfl
 pyHash:=λhv h=>by
  rcases qA hv with ⟨i,t,rfl,rfl⟩|⟨x,t,rfl,rfl⟩
  .exact wpAny_pyHash_int h
  .exact wpAny_pyHash_str h
 eqBool:=λhu hv h=>by
  rcases qA hu with ⟨i,t,rfl,rfl⟩|⟨x,t,rfl,rfl⟩
  .rcases qA hv with ⟨j,u,rfl,rfl⟩|⟨y,u,rfl,rfl⟩
   .rw[QM]at h;exact wpAny_eqBool_int h
   .rw[QO]at h;exact SeqAt.EqAt.int_str i t y u _ _ _ _ h
  .rcases qA hv with ⟨j,u,rfl,rfl⟩|⟨y,u,rfl,rfl⟩
   .rw[QP]at h;exact SeqAt.EqAt.str_int x t j u _ _ _ _ h
   .rw[QN]at h;exact wpAny_eqBool_str h
 «strs»:= λk x t v h=>by
  rcases qA h with ⟨i,u,rfl,e⟩|⟨y,u,rfl,e⟩
  .exact nomatch e
  .injection e with e1 _
   subst e1;cases v<;>rfl
inductive V where
 |aq|bl (b:Bool)|int (i:Int)|str (x:Str)|nM (b:Array UInt8)|flt (b:UInt64)|ref (a:Addr)|ty (n:String)
 deriving DecidableEq
noncomputable def RelV:V->Value->Prop
 |.aq,u=>u=Value.none
 |.bl b,u=>u=Value.bool b
 |.int i,u=>∃t,u=Value.int i t
 |.str x,u=>∃t,u=Value.str x t
 |.nM b,u=>∃t,u=Value.bytes b t
 |.flt b,u=>∃t,u=Value.float b t
 |.ref a,u=>u=Value.ref a
 |.ty n,u=>u=Value.type n
abbrev Vals:List V->v4->Prop:=Paired RelV
def Vals.length(r:θQ):xs.length=us.length:=Paired.length r
theorem Vals.get:∀{xs:γv}{us:v4}{i:Nat}{x:V},Vals xs us->xs[i]?=some x->∃u,us[i]?=some u/\RelV x u
 |_,_,_,_,.nil,e=>by simp at e
 |_,_,0,_,.cons r _,e=>by simp at e;subst e;exact⟨_,rfl,r⟩
 |_,_,i+1,x,.cons _ t,e=>by obtain⟨u,h1,h2⟩:=Vals.get (i:=i) (x:=x) t (by simpa using e);exact⟨u,by simpa using h1,h2⟩
def Vals.append(r:θQ)(s:Vals ys ws):Vals (xs++ys) (us++ws):=by
 induction r with
 |nil=>exact s
 |cons r t ih=>exact .cons r ih
theorem Vals.take:∀{xs:γv}{us:v4} (n:Nat),Vals xs us->Vals (xs.take n) (us.take n)
 |_,_,0,_=>.nil
 |_,_,_+1,.nil=>.nil
 |_,_,n+1,.cons r t=>.cons r (Vals.take n t)
theorem Vals.drop:∀{xs:γv}{us:v4} (n:Nat),Vals xs us->Vals (xs.drop n) (us.drop n)
 |_,_,0,r=>r
 |_,_,_+1,.nil=>.nil
 |_,_,n+1,.cons _ t=>Vals.drop n t
def eU:Option V->zzb->Prop
 |some v,some u=>RelV v u
 |none,none=>True
 |_,_=>False
def KV{κ:Type}:List (κ×V)->List (κ×Value)->Prop:=Paired λ(p:κ×V) (q:κ×Value)=>p.1=q.1/\RelV p.2 q.2
noncomputable def kV:Key->V
 |.inl i=>.int i
 |.inr x=>.str x
inductive HO where
 |lst (xs:γv)
 |tup (xs:γv)
 |dK (kvs:List (Key×V))|dT (kvs:List (List Key×V))
 |set (S:Int->Bool) (n:Nat)
 |ins (C dx:Addr) (fs:List (Str×V))
 |own (x:Addr)
 |xd (fs:List (Str×V))
 |met (f x:Addr)
 |DG (lo hi:Int)
 |ae (o:Obj) (u:HO)
 |tE (ps:zzh)
 |ext (φ:Heap->Prop)
noncomputable abbrev Hp:=Addr->Option HO
noncomputable def upd(H:Hp)(a:Addr)(o:HO):Hp:=λb=>if b=a then some o else H b
def fS:upd H a o a=some o:=by unfold upd;rw[if_pos rfl]
def bA(h:b≠a):upd H a o b=H b:=by unfold upd;rw[if_neg h]
def DH:upd ζn a u=upd H a u:=by funext b;unfold upd;split<;>rfl
def rK{H:Hp}{a b:Addr}{o u:HO}(h:H a=some o)(h':H b=some u)(d:o≠u):a≠b:=by intro e;subst e;rw[h]at h';exact d (qaH h')
def iN{H:Hp}{a b:Addr}{o:HO}(h:H a=some o)(h':H b=none):a≠b:=by intro e;subst e;rw[h]at h';cases h'
section
variable(P:Program)(w:World)
def aI(H:Hp)(h:Heap)(a:Addr):HO->Prop
 |.lst xs=>xs.length<=sizeLine/\∃(its:v4) (n:Nat),Vals xs its/\h.get? a=some {cls:=.type "list",data:=.seq its.toArray n}
 |.tup xs=>xs.length<=sizeLine/\∃its:v4,Vals xs its/\IsTup h a its.toArray
 |.dK kvs=>kvs.length<=sizeLine/\(a == sysModules)=false/\∃vs,KV kvs vs/\h.DictOf (Jf P w) a vs
 |.dT kvs=>kvs.length<=sizeLine/\(a == sysModules)=false/\∃xs:List (List Key×Addr×Value),
  Paired (λ(p:List Key×V) (q:List Key×Addr×Value)=>p.1=q.1/\H q.2.1=some (.tup (p.1.map kV))/\RelV p.2 q.2.2) kvs xs /\
  ∃o es ep,h.get? a=some o/\o.ExactDict/\o.data=.dict es ep/\es.toList=xs.map (entryOfKey (tupleKind (Jf P w)))/\(xs.map (·.1)).Nodup
 |.set S n=>h.SetOf (intKind P w) a S n
 |.ins C dx fs=>H dx=some (.own a)/\fs.length<=1000/\dx≠a/\h.get? a=some (W.instObj C dx) /\
  ∃mA,h.Ns1 dx mA/\(∀f,eU ζV (mA f))/\PySem.Within mA (fs.map (·.1))
 |.own _=>∃o,h.get? a=some o
 |.xd fs=>∃mA,h.Ns1 a mA/\∀f,eU ζV (mA f)
 |.DG lo hi=>∃t u v,h.get? a=some {cls:=.type "range",data:=.fields #[.int lo t,.int hi u,.int 1 v]}
 |.ae o u=>h.get? a=some o/\aI H h a u
 |.tE ps=>h.get? a=some {cls:=.none,data:=.fields ps}
 |.met f x=>h.get? a=some (W.methodObj γ0 δH)
 |.ext φ=>φ h/\(∃o,h.get? a=some o)/\∀h1 h2:Heap,φ h1->(∀o,h1.get? a=some o->h2.get? a=some o)->φ h2
def dZ(H:Hp)(h:Heap):Prop:=∀a o,H a=some o->aI P w H h a o
end
section
variable{P:Program}{w:World}{H H':Hp}{h h':Heap}{a:Addr}{o:HO}
def aI.lt(x:aI P w H h a o):a<h.objs.size:=by
 cases o with
 |lst xs=>obtain⟨_,_,_,_,e⟩:=x;exact qai e
 |tup xs=>obtain⟨_,_,_,p⟩:=x;exact p.lt
 |dK kvs=>obtain⟨_,_,_,_,o,_,_,e,_⟩:=x;exact qai e
 |dT kvs=>obtain⟨_,_,_,_,o,_,_,e,_⟩:=x;exact qai e
 |set S n=>obtain⟨o,_,_,_,e,_⟩:=x;exact qai e
 |ins C dx fs=>obtain⟨_,_,_,e,_⟩:=x;exact qai e
 |own y=>obtain⟨_,e⟩:=x;exact qai e
 |xd fs=>obtain⟨_,⟨_,_,_,e,_⟩,_⟩:=x;exact qai e
 |DG lo hi=>obtain⟨_,_,_,e⟩:=x;exact qai e
 |ae ob u=>obtain⟨e,_⟩:=x;exact qai e
 |tE ps=>exact qai (show h.get? a=some _ from x)
 |met f y=>exact qai (show h.get? a=some _ from x)
 |ext φ=>obtain⟨_,⟨_,e⟩,_⟩:=x;exact qai e
def Paired.DI{α β:Type}{F G:α->β->Prop}{l₁:δ5}{l₂:List β}(r:Paired F l₁ l₂)(f:∀a b,F a b->G a b):Paired G l₁ l₂:=by
 induction r with
 |nil=>exact .nil
 |cons r t ih=>exact .cons (f _ _ r) ih
def aI.stay(x:aI P w H h a o)(k:∀b u,(b=a\/H b=some (.own a))->h.get? b=some u->h'.get? b=some u)
 (ho:∀b,H b=some (.own a)->H' b=some (.own a)) (ht:∀b xs,H b=some γK->H' b=some γK):aI P w H' h' a o:=by
 induction o with
 |lst xs=>obtain⟨z,its,n,r,e⟩:=x;exact⟨z,its,n,r,k _ _ γJ e⟩
 |tup xs=>obtain⟨z,its,r,ob,e,c⟩:=x;exact⟨z,its,r,ob,k _ _ γJ e,c⟩
 |dK kvs=>obtain⟨z,y,vs,r,ob,es,ep,e,c⟩:=x;exact⟨z,y,vs,r,ob,es,ep,k _ _ γJ e,c⟩
 |dT kvs =>
   obtain⟨z,y,xs,r,ob,es,ep,e,c⟩:=x;exact⟨z,y,xs,Paired.DI r λp q z=>⟨z.1,ht _ _ z.2.1,z.2.2⟩,ob,es,ep,k _ _ γJ e,c⟩
 |set S n=>obtain⟨ob,es,ep,t,e,c⟩:=x;exact⟨ob,es,ep,t,k _ _ γJ e,c⟩
 |ins C dx fs =>
   obtain⟨d,z,ne,e,mA,⟨od,es,ep,e2,c⟩,r⟩:=x;exact⟨ho _ d,z,ne,k _ _ γJ e,mA,⟨od,es,ep,k _ _ (.inr d) e2,c⟩,r⟩
 |own y=>obtain⟨ob,e⟩:=x;exact⟨ob,k _ _ γJ e⟩
 |xd fs=>obtain⟨mA,⟨od,es,ep,e,c⟩,r⟩:=x;exact⟨mA,⟨od,es,ep,k _ _ γJ e,c⟩,r⟩
 |DG lo hi=>obtain⟨t,u,v,e⟩:=x;exact⟨t,u,v,k _ _ γJ e⟩
 |ae ob u ih=>obtain⟨e,q⟩:=x;exact⟨k _ _ γJ e,ih q⟩
 |tE ps =>
   have e:h.get? a=some {cls:=.none,data:=.fields ps}:=x;show h'.get? a=some {cls:=.none,data:=.fields ps};exact k a _ γJ e
 |met f y =>
   have e:h.get? a=some (W.methodObj γ0 (.ref y)):=x;show h'.get? a=some (W.methodObj γ0 (.ref y));exact k a _ γJ e
 |ext φ=>obtain⟨p,⟨o,e⟩,st⟩:=x;exact⟨st _ _ p λo q=>k _ _ γJ q,⟨o,k _ _ γJ e⟩,st⟩
def dZ.lt(x:δG)(e:H a=some o):a<h.objs.size:=(x a o e).lt
def dZ.fresh(x:δG)(e:h.objs.size<=a):H a=none:=by
 cases q:H a with
 |none=>rfl
 |some u=>exact absurd (qao (x.lt q) e) (qbq _)
def dZ.kept(x:δG)(k:∀b u,h.get? b=some u->h'.get? b=some u):dZ P w H h':=λa o e =>
 (x a o e).stay (λb u _ q=>k b u q) (λ_ q=>q) λ_ _ q=>q
def dZ.laid(x:δG)(k:∀b u,h.get? b=some u->h'.get? b=some u)(hp:h.objs.size<=a)(new:aI P w ζn h' a o):dZ P w ζn h':=λb u e=>by
 have hn:=x.fresh hp;by_cases hb:b=a
 .subst hb;rw[fS]at e;cases e;exact new
 .rw[bA hb]at e;exact(x b u e).stay (λc v _ q=>k c v q) (λc q=>by rw[bA (iN q hn)];exact q) λc xs q=>by rw[bA (iN q hn)];exact q
end
def Rd(H:Hp)(a:Addr)(u:HO):Prop:=H a=some u\/∃o,H a=some (.ae o u)
def Rd.ok(r:Rd H a u)(x:δG):aI P w H h a u:=by
 rcases r with r|⟨o,r⟩
 .exact x a u r
 .obtain⟨_,q⟩:=x a _ r;exact q
def Av:Option HO->Prop
 |some (.lst _)=>True
 |some (.dK _)=>True
 |some (.dT _)=>True
 |some (.set _ _)=>True
 |some (.ins _ _ _)=>True
 |some (.ext _)=>True
 |_=>False
section
variable{P:Program}{w:World}{H:Hp}{h h':Heap}{x e:Addr}{o':HO}
def dZ.write(ok:δG)(mu:Av (H x))(he:e=x\/H e=some (.own x))(k:∀b u,b≠e->h.get? b=some u->h'.get? b=some u)(heo:∃u,h'.get? e=some u)
 (new:aI P w (upd H x o') h' x o'):dZ P w (upd H x o') h':=λb u q=>by
 have wQ:∀c y,H c=some (.own y)->c≠x:=λc y r z=>by subst z;rw[r]at mu;exact mu
 have DJ:∀c xs,H c=some γK->c≠x:=λc xs r z=>by subst z;rw[r]at mu;exact mu
 by_cases hb:b=x
 .subst hb;rw[fS]at q;cases q;exact new
 .rw[bA hb]at q;by_cases hbe:b=e
  .have q':H b=some (.own x):=by
    rcases he with z|z
    .exact absurd (hbe.trans z) hb
    .rw[hbe];exact z
   rw[q]at q';cases q'
   obtain⟨v,hv⟩:=heo
   exact⟨v,by rw[hbe];exact hv⟩
  .refine(ok b u q).stay (λc v hc r=>k c v ?_ r) (λc r=>by rw[bA (wQ c b r)];exact r) λc xs r=>by rw[bA (DJ c xs r)];exact r
   rcases hc with rfl|hc
   .exact hbe
   .rintro rfl;rcases he with z|z
    .exact wQ c b hc z
    .rw[hc]at z;cases z;exact hb rfl
end
structure Un(fs ex:zzd)(H H':Hp)(h h':Heap):Prop where
 keep:∀b o,h.get? b=some o->H b=none->b∉fs->b∉ex->h'.get? b=some o
 slot:∀b o,h.get? b=some o->H b=none->b∈fs->b∉ex->∃sl,h'.get? b=some {o with slots:=sl}
 free:∀b o,h.get? b=some o->H b=none->b∉ex->H' b=none
 there:∀b o,h.get? b=some o->b∉ex->∃o',h'.get? b=some o'
 tups:∀b xs,H b=some γK->H' b=some γK
 gL:∀b o u,H b=some (.ae o u)->H' b=some (.ae o u)
 ik:∀b ps,H b=some (.tE ps)->∃more,H' b=some (.tE (ps++more))
section
variable{fs fs' ex ex':zzd}{H H1 H2:Hp}{h h1 h2 h':Heap}{a x e:Addr}{o:HO}
def Un.any(u:Un fs ex H H1 h h1)(q:h.get? b=some ob)(n:H b=none)(hx:b∉ex):∃sl,h1.get? b=some {ob with slots:=sl}:=by
 by_cases hb:b∈fs
 .exact u.slot b ob q n hb hx
 .exact⟨ob.slots,u.keep b ob q n hb hx⟩
def Un.kept(k:∀b u,h.get? b=some u->h'.get? b=some u):Un fs ex H H h h':=
 ⟨λb ob q _ _ _=>k b ob q,λb ob q _ _ _=>⟨ob.slots,k b ob q⟩,λ_ _ _ n _=>n,λb ob q _=>⟨ob,k b ob q⟩,λ_ _ q=>q,λ_ _ _ q=>q,λ_ ps q=>⟨#[],by rw[q];simp⟩⟩
def Un.refl:Un fs ex H H h h:=Un.kept λ_ _ q=>q
theorem Un.laid(k:∀b u,h.get? b=some u->h'.get? b=some u)(hp:h.objs.size<=a)(hn:H a=none):Un fs ex H ζn h h' where
 keep:=λb u q _ _ _=>k b u q
 slot:=λb u q _ _ _=>⟨u.slots,k b u q⟩
 free:=λb u q n _=>by rw[bA (qan (qao (qai q) hp))];exact n
 there:=λb u q _=>⟨u,k b u q⟩
 tups:=λb xs q=>by rw[bA (iN q hn)];exact q
 gL:=λb u xs q=>by rw[bA (iN q hn)];exact q
 ik:=λb ps q=>⟨#[],by rw[bA (iN q hn),q];simp⟩
def Un.write(mu:Av (H x))(he:e=x\/H e=some (.own x))(k:∀b u,b≠e->h.get? b=some u->h'.get? b=some u)(heo:∃u,h'.get? e=some u):Un fs ex H (upd H x o) h h':=by
 have hx:∀b,H b=none->b≠x:=λb n z=>by subst z;rw[n]at mu;exact mu
 have hb:∀b,H b=none->b≠e:=λb n z=>by
  subst z;rcases he with r|r
  .exact hx b n r
  .rw[n]at r;cases r
 have hm:∀b u,H b=some u -> ¬Av (some u)->b≠x:=λb u q nm z=>by subst z;rw[q]at mu;exact nm mu
 refine⟨λb u q n _ _=>k b u (hb b n) q,λb u q n _ _=>⟨u.slots,k b u (hb b n) q⟩,λb u q n _=>by rw[bA (hx b n)];exact n,λb u q _=>?_,
  λb xs q=>by rw[bA (hm b _ q λz=>z)];exact q,λb u xs q=>by rw[bA (hm b _ q λz=>z)];exact q,λb ps q=>⟨#[],by rw[bA (hm b _ q λz=>z),q];simp⟩⟩
 by_cases hbe:b=e
 .subst hbe;exact heo
 .exact⟨u,k b u hbe q⟩
end
noncomputable def Aw(h:Heap)(H:Hp):zzd:=(List.range h.objs.size).filter λa=>(H a).isSome
noncomputable def qB(h:Heap)(H:Hp):Heap:=W.hideAll h (Aw h H)
def QR(h:Heap)(H:Hp):(qB h H).objs.size=h.objs.size:=W.hideAll_size _ _
def QS{h:Heap}(e:h.get? b=some o)(n:H b=none):(qB h H).get? b=some o:=
 W.hideAll_get _ e λhm=>by have q:(H b).isSome=true:=(List.mem_filter.mp hm).2;rw[n]at q;simp at q
def QT(e:(qB h H).get? b=some o):h.get? b=some o/\H b=none:=by
 have e':h.get? b=some o:=W.of_hideAll (Aw h H) e;refine⟨e',?_⟩;cases q:H b with
 |none=>rfl
 |some x =>
   have hm:b∈Aw h H:=List.mem_filter.mpr ⟨qbA.mpr (qai e'),by simp[q]⟩;have z:(qB h H).get? b=none:=W.hideAll_none (Aw h H) hm;rw[z]at e;cases e
structure Mod(K:zze)(mg:M2)(base:Heap):Prop where
 tF:K.In base
 glob:base.Ns mainGlobals mg
 blt:∃mb,base.Ns builtinsNs mb/\∀x:Str,x≠"__name__" -> mb x=bootBuiltins x
 nolimit:base.NoLimit
structure Cx where
 prog:Program
 w:World
 K:zze
 mg:M2
 base:Heap
 A:Around
 N:v6
 s₀:Shared
 H₀:Hp
 env:Env
 outer:List Env
 stack:List Env
 ex:zzd
 fn:Str->Bool
 calm:Bool
 pn:W1
 xe:T0
noncomputable def frs(l:δu):zzd:=l.filterMap (·.frame)
abbrev Cx.fs(X:Cx):zzd:=frs X.outer
noncomputable def wR(sc:Scope)(x:Str):Prop:=sc.names.lookup x=some .local\/sc.names.lookup x=some .cell\/sc.names.lookup x=some .free
noncomputable def Loc(sc:Scope)(x:Str):Prop:=sc.names.lookup x=some .local\/sc.names.lookup x=some .cell
noncomputable def Look(env:Env)(h:Heap)(m:M2)(x:Str)(u:Value):Prop:=
 (env.kindOf x=some .local/\m x=some u)\/((env.kindOf x=some .cell\/env.kindOf x=some .free)/\∃c,env.cells.lookup x=some c/\h.IsCell c (some u))
structure Cx.Ok(X:Cx):Prop where
 mod:Mod X.K X.mg X.base
 kind:X.env.scope.kind=.function
 glob:X.env.globals=mainGlobals
 blt:X.env.builtins=builtinsNs
 above:X.s₀.heap.objs.size<=X.env.locals
 inj:∀x y c,X.env.cells.lookup x=some c->X.env.cells.lookup y=some c->x=y
 has:∀x,(X.env.kindOf x=some .cell\/X.env.kindOf x=some .free)->∃c,X.env.cells.lookup x=some c
 cab:∀x c,X.fn x=true->X.env.cells.lookup x=some c->X.s₀.heap.objs.size<=c
 hd:X.calm=true->X.A.handled=none
 frames:X.A.frames=some X.stack
 rL:X.stack=X.outer\/(X.stack=X.env::X.outer/\X.env.frame=some X.env.locals)
 rM:∀b∈X.ex,b≠X.env.locals/\∀x c,X.env.cells.lookup x=some c->c≠b
 bs:∀b o,X.base.get? b=some o->X.s₀.heap.get? b=some o/\X.H₀ b=none
 mv:X.base.objs.size<=X.s₀.heap.objs.size
 jm:∀b o,X.base.get? b=some o->b∉X.ex
 jo:∀b∈X.ex,b∉X.fs
 eV:X.s₀.heap.FunFrames X.base X.outer
 oz:∀b∈X.fs,X.H₀ b=none
structure Inv(X:Cx)(pins:W1)(σ:θF)(H:Hp)(s:Shared):Prop where
 ok:X.Ok
 os:s.os=X.s₀.os
 bare:AllBare s.gens
 base:Un X.fs X.ex X.H₀ H X.s₀.heap s.heap
 loc:∃m,s.heap.Ns X.env.locals m/\∀(i:Nat) (x:Str) (v:V),X.N[i]?=some x->σ[i]?=some δR->wR X.env.scope x->∃u,RelV v u/\Look X.env s.heap m x u
 cell:∀x c,X.env.cells.lookup x=some c->∃v,s.heap.IsCell c v
 free:H X.env.locals=none
 b_:∀x c,X.env.cells.lookup x=some c->H c=none
 pin:∀p∈X.pn++pins,s.heap.get? p.1=some p.2/\H p.1=none/\p.1≠X.env.locals/\p.1∉X.fs/\∀v,p.2.data≠.cell v
 hok:dZ X.prog X.w H s.heap
 len:σ.length=X.N.length
section
variable{X:Cx}{pins:W1}{σ:θF}{H H':Hp}{s:Shared}{h':Heap}
def Cx.Ok.DK(ok:X.Ok)(e:X.base.get? b=some o):b∉X.fs:=λhb=>by have:=(ok.eV.mem hb).1;rw[e]at this;cases this
def Inv.bs(I:δ):∀b o,X.base.get? b=some o->s.heap.get? b=some o/\H b=none:=λb o e =>
 ⟨I.base.keep b o (I.ok.bs b o e).1 (I.ok.bs b o e).2 (I.ok.DK e) (I.ok.jm b o e),I.base.free b o (I.ok.bs b o e).1 (I.ok.bs b o e).2 (I.ok.jm b o e)⟩
def Inv.bk(I:δ):∀b o,X.base.get? b=some o->s.heap.get? b=some o:=λb o e=>(I.bs b o e).1
def Inv.mod(I:δ):Mod X.K X.mg X.base:=I.ok.mod
def Inv.cf(I:δ):X.K.In s.heap:=I.ok.mod.tF.keeps I.bk
def Inv.fr(I:δ):∃m,Fr X.base X.env.locals s.heap m:=
 let ⟨m,hn,_⟩:=I.loc
 ⟨m,hn,I.bk,qaJ I.ok.mv I.ok.above⟩
def Inv.lt(I:δ):X.env.locals<s.heap.objs.size:=let ⟨_,hn,_⟩:=I.loc;hn.lt
def Inv.sz(I:δ):X.s₀.heap.objs.size<=s.heap.objs.size:=qaJ I.ok.above (Nat.le_of_lt I.lt)
def Inv.DL(I:δ){a:Addr}(h:s.heap.objs.size<=a):a∉X.fs:=λhb=>by obtain⟨_,o,ho,_⟩:=I.ok.eV.mem hb;exact absurd (qao (qai ho) (qaJ I.sz h)) (qbq _)
def Inv.oA(I:δ):∀x c,X.env.cells.lookup x=some c->c≠X.env.locals:=λx c e z=>by obtain⟨v,o,ho,hd⟩:=I.cell x c e;obtain⟨m,⟨o',es,ep,ho',hd',_⟩,_⟩:=I.loc;rw[z,ho']at ho;cases ho;rw[hd']at hd;cases hd
def Inv.eV(I:δ):s.heap.FunFrames X.base X.outer:=by
 have all:∀(l:δu),(∀b∈frs l,b∈X.fs)->X.s₀.heap.FunFrames X.base l->s.heap.FunFrames X.base l:=by
  intro l;induction l with
  |nil=>intro _ _;trivial
  |cons env r ih =>
    intro hs hl;obtain⟨hk,⟨L,o,hf,hn,ho,hd⟩,hr⟩:=hl;have hL:L∈X.fs:=hs L (by unfold frs;rw[List.filterMap_cons,hf];exact qaj);obtain⟨sl,e⟩:=I.base.slot L o ho (I.ok.oz L hL) hL λz=>I.ok.jo L z hL;exact⟨hk,⟨L,_,hf,hn,e,hd⟩,ih (λb hb=>hs b (by unfold frs;rw[List.filterMap_cons,hf];exact qaf _ hb)) hr⟩
 exact all X.outer (λ_ hb=>hb) I.ok.eV
def Inv.stack(I:δ):s.heap.FunFrames X.base X.stack:=by
 rcases I.ok.rL with e|⟨e,hf⟩
 .rw[e];exact I.eV
 .rw[e];obtain⟨m,hn,_⟩:=I.loc;refine .cons (by rw[I.ok.kind];decide) hf hn ?_ I.eV;exact Heap.get?_none_of_le (qaJ I.ok.mv I.ok.above)
def Inv.jq(I:δ):∀b∈frs X.stack,b∈X.env.locals::X.fs:=λb hb=>by
 rcases I.ok.rL with e|⟨e,hf⟩
 .rw[e]at hb;exact qaf _ hb
 .rw[e]at hb;unfold frs at hb;rw[qbx,hf]at hb;exact hb
def Inv.g_(I:δ):∀b∈frs X.stack,H b=none:=λb hb=>by
 rcases qav.mp (I.jq b hb) with e|hb
 .rw[e];exact I.free
 .obtain⟨_,o,ho,_⟩:=I.ok.eV.mem hb;exact I.base.free b o ho (I.ok.oz b hb) λz=>I.ok.jo b z hb
def Inv.step{g':Array GenState}{t':Nat}{d':Drawn}{ch:zzd}(I:δ)
 (hch:∀b∈ch,(b∈X.ex\/X.s₀.heap.objs.size<=b)/\b≠X.env.locals/\(∀x c,X.env.cells.lookup x=some c->c≠b)/\∀p∈X.pn++pins,p.1≠b)
 (keep:∀b o,b≠X.env.locals->b∉X.fs->b∉ch->s.heap.get? b=some o->H b=none->h'.get? b=some o)
 (slot:∀b o,b≠X.env.locals->b∈X.fs->b∉ch->s.heap.get? b=some o->H b=none->∃sl,h'.get? b=some {o with slots:=sl}) (free:∀b o,b∉ch->s.heap.get? b=some o->H b=none->H' b=none)
 (there:∀b o,b∉ch->s.heap.get? b=some o->∃o',h'.get? b=some o')
 (tups:∀b xs,H b=some γK->H' b=some γK) (gL:∀b o u,H b=some (.ae o u)->H' b=some (.ae o u)) (ik:∀b ps,H b=some (.tE ps)->∃more,H' b=some (.tE (ps++more)))
 (ns:∀m,s.heap.Ns X.env.locals m->h'.Ns X.env.locals m) (hok:ιh) (hg:AllBare g') :
 Inv X pins σ H' {s with heap:=h',gens:=g',drawn:=d',toks:=t'}:=by
 have Jg:∀b o,X.s₀.heap.get? b=some o->b≠X.env.locals:=λb o e=>qan (qao ηl I.ok.above)
 have Ax:∀b o,X.s₀.heap.get? b=some o->b∉X.ex->b∉ch:=λb o e hx hb=>by
  rcases(hch b hb).1 with z|z
  .exact hx z
  .exact absurd (qao ηl z) (qbq _)
 have cellK:∀x c,X.env.cells.lookup x=some c->∀v,s.heap.IsCell c v->h'.IsCell c v:=λx c e v ⟨o,ho,hd⟩=>by
  have wU:c∉ch:=λz=>(hch c z).2.2.1 x c e rfl;by_cases hc:c∈X.fs
  .obtain⟨sl,q⟩:=slot c o (I.oA x c e) hc wU ho (I.b_ x c e);exact⟨_,q,hd⟩
  .exact⟨o,keep c o (I.oA x c e) hc wU ho (I.b_ x c e),hd⟩
 refine⟨I.ok,I.os,hg,⟨λb o e n hb hx=>?_,λb o e n hb hx=>?_,λb o e n hx=>?_,λb o e hx=>?_,λb xs e=>tups b xs (I.base.tups b xs e),λb o xs e=>gL b o xs (I.base.gL b o xs e),λb ps e=>?_⟩,?_,λx c e=>?_,?_,λx c e=>?_,λp hp=>?_,hok,I.len⟩
 .exact keep b o (Jg b o e) hb ιo εv ηv
 .obtain⟨sl,e1⟩:=I.base.slot b o e n hb hx;obtain⟨sl',e2⟩:=slot b _ (Jg b o e) hb ιo e1 ηv;exact⟨sl',e2⟩
 .obtain⟨o',e1⟩:=I.base.there b o e hx;exact free b o' ιo e1 ηv
 .obtain⟨o',e1⟩:=I.base.there b o e hx;exact there b o' ιo e1
 .obtain⟨m1,e1⟩:=I.base.ik b ps e;obtain⟨m2,e2⟩:=ik b _ e1;exact⟨m1++m2,by rw[e2,Array.append_assoc]⟩
 .obtain⟨m,hn,hl⟩:=I.loc;refine⟨m,ns m hn,λi x v e1 e2 e3=>?_⟩;obtain⟨u,r,l⟩:=hl i x v e1 e2 e3;refine⟨u,r,?_⟩;rcases l with l|⟨k,c,e,z⟩
  .exact .inl l
  .exact .inr ⟨k,c,e,cellK x c e _ z⟩
 .obtain⟨v,z⟩:=I.cell x c e;exact⟨v,cellK x c e v z⟩
 .obtain⟨m,⟨o,_,_,ho,_⟩,_⟩:=I.loc;exact free _ o (λz=>(hch _ z).2.1 rfl) ho I.free
 .obtain⟨v,o,ho,hd⟩:=I.cell x c e;exact free c o (λz=>(hch c z).2.2.1 x c e rfl) ho (I.b_ x c e)
 .obtain⟨e,n,ne,nf,d⟩:=I.pin p hp;have wU:p.1∉ch:=λz=>(hch p.1 z).2.2.2 p hp rfl;exact⟨keep p.1 p.2 ne nf wU e n,free p.1 p.2 wU e n,ne,nf,d⟩
def Inv.un{t':Nat}(I:δ)(u:Un X.fs [] H H' s.heap h')(hok:ιh):Inv X pins σ H' {s with heap:=h',toks:=t'}:=by
 obtain⟨m,⟨o,es,ep,ho,r⟩,_⟩:=id I.loc;obtain⟨sl,hL⟩:=u.any ho I.free (by simp)
 exact I.step (g':=s.gens) (d':=s.drawn) (ch:=[]) (λ_ z=>nomatch z) (λb o _ hb _ e n=>u.keep b o e n hb (by simp)) (λb o _ hb _ e n=>u.slot b o e n hb (by simp)) (λb o _ e n=>u.free b o e n (by simp)) (λb o _ e=>u.there b o e (by simp)) u.tups u.gL u.ik (λm' hm=>by obtain⟨o',es',ep',ho',r'⟩:=hm;rw[ho]at ho';cases ho';exact⟨_,es',ep',hL,r'⟩) hok I.bare
def Inv.call{g':Array GenState}{t':Nat}{d':Drawn}{ch:zzd}(I:δ)(u:Un (frs X.stack) ch H H' s.heap h')(hok:ιh)(hg:AllBare g')
 (hch:∀b∈ch,(b∈X.ex\/X.s₀.heap.objs.size<=b)/\b≠X.env.locals/\(∀x c,X.env.cells.lookup x=some c->c≠b)/\∀p∈X.pn++pins,p.1≠b) :
 Inv X pins σ H' {s with heap:=h',gens:=g',drawn:=d',toks:=t'}:=by
 obtain⟨m,⟨o,es,ep,ho,r⟩,_⟩:=id I.loc;obtain⟨sl,hL⟩:=u.any ho I.free λz=>(hch _ z).2.1 rfl
 exact I.step (ch:=ch) hch (λb o hL hb hc e n=>u.keep b o e n (λz=>(qav.mp (I.jq b z)).elim hL hb) hc) (λb o _ _ hc e n=>u.any e n hc) (λb o hc e n=>u.free b o e n hc) (λb o hc e=>u.there b o e hc) u.tups u.gL u.ik (λm' hm=>by obtain⟨o',es',ep',ho',r'⟩:=hm;rw[ho]at ho';cases ho';exact⟨_,es',ep',hL,r'⟩) hok hg
def Inv.turned{t':Nat}{it:Addr}(I:δ)(k:∀b o,b≠it->s.heap.get? b=some o->h'.get? b=some o)(hn:H it=none)(hL:it≠X.env.locals)
 (h1:it∈X.ex\/X.s₀.heap.objs.size<=it) (h2:∀x c,X.env.cells.lookup x=some c->c≠it) (h3:∀p∈X.pn++pins,p.1≠it):Inv X pins σ H {s with heap:=h',toks:=t'}:=by
 have Jh:∀b u,H b=some u->b≠it:=λb u e z=>by rw[z,hn]at e;cases e
 refine I.step (g':=s.gens) (d':=s.drawn) (ch:=[it]) (λb hb=>?_) (λb o _ _ hc e _=>k b o (λz=>hc (by simp[z])) e) (λb o _ _ hc e _=>⟨o.slots,k b o (λz=>hc (by simp[z])) e⟩) (λ_ _ _ _ n=>n)
  (λb o hc e=>⟨o,k b o (λz=>hc (by simp[z])) e⟩) (λ_ _ e=>e) (λ_ _ _ e=>e) (λb ps e=>⟨#[],by rw[e];simp⟩) (λm hm=>?_) (λb u e=>?_) I.bare
 .have e:b=it:=by simpa using hb
  subst e;exact⟨h1,hL,h2,h3⟩
 .obtain⟨o,es,ep,ho,r⟩:=hm;exact⟨o,es,ep,k _ o (qa5 hL) ho,r⟩
 .refine(I.hok b u e).stay (λc v hc q=>k c v ?_ q) (λ_ q=>q) λ_ _ q=>q;rcases hc with z|z
  .rw[z];exact Jh b u e
  .exact Jh c _ z
def Inv.tok(I:δ)(t:Nat):Inv X pins σ H {s with toks:=t}:=I.un (h':=s.heap) (t':=t) Un.refl I.hok
def Inv.kept(I:δ)(k:∀b u,s.heap.get? b=some u->h'.get? b=some u):Inv X pins σ H {s with heap:=h',toks:=t'}:=I.un (Un.kept k) (I.hok.kept k)
def Inv.laid{a:Addr}{o:HO}{t':Nat}(I:δ)(k:∀b u,s.heap.get? b=some u->h'.get? b=some u)(hp:s.heap.objs.size<=a)(new:aI X.prog X.w ζn h' a o) :
 Inv X pins σ ζn {s with heap:=h',toks:=t'}:=I.un (Un.laid k hp (I.hok.fresh hp)) (I.hok.laid k hp new)
def Inv.write(I:δ)(mu:Av (H x))(he:e=x\/H e=some (.own x))(k:∀b u,b≠e->s.heap.get? b=some u->h'.get? b=some u)(heo:∃u,h'.get? e=some u)
 (new:aI X.prog X.w (upd H x o) h' x o):Inv X pins σ (upd H x o) {s with heap:=h',toks:=t'}:=I.un (Un.write mu he k heo) (I.hok.write mu he k heo new)
def Inv.weak{aE:θF}(I:δ)(hl:aE.length=σ.length)(w:∀(i:Nat) v,aE[i]?=some δR->σ[i]?=some δR):Inv X pins aE H s:=
 ⟨I.ok,I.os,I.bare,I.base,let ⟨m,hn,hl'⟩:=I.loc; ⟨m,hn,λi x v e1 e2 e3=>hl' i x v e1 (w i v e2) e3⟩,I.cell,I.free,I.b_,I.pin,I.hok,hl.trans I.len⟩
def Inv.hU(I:δ)(h:∀p∈j6,s.heap.get? p.1=some p.2/\H p.1=none/\p.1≠X.env.locals/\p.1∉X.fs/\∀v,p.2.data≠.cell v):Inv X j6 σ H s:=
 ⟨I.ok,I.os,I.bare,I.base,I.loc,I.cell,I.free,I.b_,λp hp=>(qaK.mp hp).elim (λz=>I.pin p (qa3 _ z)) (h p),I.hok,I.len⟩
def DM{N:v6}(hN:N.Nodup){i j:Nat}{x:Str}(a:N[i]?=some x)(b:N[j]?=some x):i=j:=by obtain⟨h1,e1⟩:=qac.mp a;obtain⟨h2,e2⟩:=qac.mp b;exact(List.getElem_inj hN).mp (e1.trans e2.symm)
def QU{M:Model}{A:Around}{E:T0}{i:Nat}{x:Str}{v:V}{u:Value}{Q:Unit->Shared->Prop}(I:δ)(hN:X.N.Nodup)(hi:X.N[i]?=some x)(hx:δ4)(r:RelV v u)
 (h:∀s',Inv X pins (σ.set i δR) H s'->(∃a,Heap.SameBut a s.heap s'.heap/\(a=X.env.locals\/X.env.cells.lookup x=some a))->Q () s') (hf:X.fn x=true\/X.env.scope.names.lookup x=some .local:=by first|exact .inl rfl|exact .inr rfl|assumption):wpAny M A (storeName X.env x u) Q E s:=by
 obtain⟨m,hn,hl⟩:=id I.loc;have hcls:(X.env.scope.kind == .class || (X.env.scope.kind == .module&&X.env.locals != X.env.globals))=false:=by rw[I.ok.kind];rfl
 have qC:i<σ.length:=by rw[I.len];exact(qac.mp hi).1
 have oA:=I.oA
 have tracked:∀{a:Addr}{h':Heap},(∃o,s.heap.get? a=some o/\H a=none)->Heap.SameBut a s.heap h'->dZ X.prog X.w H h':=λ{a h'} ha hs b ob e=>by
  obtain⟨_,_,hfree⟩:=ha;refine(I.hok b ob e).stay (λc w' hc q=>(hs.2 c ?_).trans q) (λ_ q=>q) λ_ _ q=>q;rintro rfl;rcases hc with rfl|hc
  .rw[hfree]at e;cases e
  .rw[hfree]at hc;cases hc
 rcases hx with hk|hk
 .refine wpAny_storeName_local hk hn (λh' hn' hs=>?_) hcls;obtain⟨oL,_,_,hoL,_⟩:=id hn;refine h _ ⟨I.ok,I.os,I.bare,⟨λb o e n hb hx=>?_,λb o e n hb hx=>?_,I.base.free,λb o e hx=>?_,I.base.tups,I.base.gL,I.base.ik⟩,⟨_,hn',λj y v' e1 e2 e3=>?_⟩,λy c e=>?_,I.free,I.b_,λp hp=>?_,tracked ⟨oL,hoL,I.free⟩ hs,by simpa using I.len⟩ ⟨_,hs,.inl rfl⟩
  .exact(hs.2 b γ9).trans εv
  .obtain⟨sl,e1⟩:=I.base.slot b o e n hb hx;exact⟨sl,(hs.2 b γ9).trans e1⟩
  .obtain⟨o',e1⟩:=I.base.there b o e hx;exact⟨o',(hs.2 b γ9).trans e1⟩
  .by_cases hj:j=i
   .subst hj;rw[hi]at e1;cases e1;rw[qaq qC]at e2;cases e2;exact⟨u,r,.inl ⟨hk,by simp⟩⟩
   .rw[qak ηE]at e2;obtain⟨u',r',q⟩:=hl j y v' e1 e2 e3;refine⟨u',r',?_⟩;rcases q with ⟨k,e⟩|⟨k,c,e,z⟩
    .refine .inl ⟨k,?_⟩;have:y≠x:=λe=>hj (DM hN e1 (e ▸ hi));simp[this,e]
    .exact .inr ⟨k,c,e,z.sameBut hs (oA y c e)⟩
  .obtain⟨w',z⟩:=I.cell y c e;exact⟨w',z.sameBut hs (oA y c e)⟩
  .obtain⟨e,n,ne,nf,d⟩:=I.pin p hp;exact⟨(hs.2 p.1 ne).trans e,n,ne,nf,d⟩
 .have hfn:X.fn x=true:=by
   rcases hf with z|z
   .exact z
   .rw[z]at hk;cases hk
  obtain⟨c,hc⟩:=I.ok.has x (.inl hk)
  obtain⟨w',z⟩:=I.cell x c hc
  refine wpAny_storeName_cell I.ok.kind hk hc z (λh' hc' hs=>?_)
  obtain⟨oc,hoc,DN⟩:=id z
  refine h {s with heap:=h'} ⟨I.ok,I.os,I.bare,⟨λb o e n hb hx=>?_,λb o e n hb hx=>?_,I.base.free,λb o e hx=>?_,I.base.tups,I.base.gL,I.base.ik⟩,⟨m,hn.sameBut hs (qa5 (oA x c hc)),λj y v' e1 e2 e3=>?_⟩,λy c' e=>?_,I.free,I.b_,λp hp=>?_,tracked ⟨oc,hoc,I.b_ x c hc⟩ hs,by simpa using I.len⟩ ⟨c,hs,.inr hc⟩
  .exact(hs.2 b εn).trans εv
  .obtain⟨sl,e1⟩:=I.base.slot b o e n hb hx
   exact⟨sl,(hs.2 b εn).trans e1⟩
  .obtain⟨o',e1⟩:=I.base.there b o e hx
   exact⟨o',(hs.2 b εn).trans e1⟩
  .by_cases hj:j=i
   .subst hj
    rw[hi]at e1;cases e1
    rw[qaq qC]at e2
    cases e2
    exact⟨u,r,.inr ⟨.inl hk,c,hc,hc'⟩⟩
   .rw[qak ηE]at e2
    obtain⟨u',r',q⟩:=hl j y v' e1 e2 e3
    refine⟨u',r',?_⟩
    rcases q with q|⟨k,c',e,z'⟩
    .exact .inl q
    .refine .inr ⟨k,c',e,z'.sameBut hs ?_⟩
     rintro rfl
     exact hj (DM hN e1 (I.ok.inj _ _ _ e hc ▸ hi))
  .by_cases hcc:c'=c
   .subst hcc;exact⟨_,hc'⟩
   .obtain⟨w2,z2⟩:=I.cell y c' e
    exact⟨w2,z2.sameBut hs hcc⟩
  .obtain⟨e,n,ne,nf,d⟩:=I.pin p hp
   refine⟨(hs.2 p.1 ?_).trans e,n,ne,nf,d⟩
   intro q
   rw[q,hoc]at e
   have q':oc=p.2:=qaH e
   exact d w' (by rw[<-q'];exact DN)
def u0(I:δ)(hN:X.N.Nodup)(hi:X.N[i]?=some x)(hx:δ4)(r:RelV v u)
 (h:∀s',Inv X pins (σ.set i δR) H s'->Q () s') (hf:X.fn x=true\/X.env.scope.names.lookup x=some .local:=by first|exact .inl rfl|exact .inr rfl|assumption):wpAny M A (storeName X.env x u) Q E s:=
 QU I hN hi hx r (λs' I' _=>h s' I') hf
def Inv.oB{s':Shared}(I:δ)(ho:s'.os=s.os)(u:Un (frs X.stack) ch H H' s.heap s'.heap)(hok:dZ X.prog X.w H' s'.heap)(hg:AllBare s'.gens)
 (hch:∀b∈ch,(b∈X.ex\/X.s₀.heap.objs.size<=b)/\b≠X.env.locals/\(∀x c,X.env.cells.lookup x=some c->c≠b)/\∀p∈X.pn++pins,p.1≠b):Inv X pins σ H' s':=by obtain⟨h',g',d',t',o'⟩:=s';have e:o'=s.os:=ho;subst e;exact I.call (g':=g') (t':=t') (d':=d') u hok hg hch
end
abbrev XK:=Value->Option Addr->Hp->Prop
noncomputable abbrev St:=List (Option V)
abbrev VK:=V->Hp->Prop
abbrev TE:=St->Hp->VK->Prop
abbrev TT:=St->Hp->(Bool->Hp->Prop)->Prop
abbrev TA:=St->Hp->(List V->Hp->Prop)->Prop
structure Ends where
 nx:St->Hp->Prop
 rt:VK
 bk:St->Hp->Prop:=λ_ _=>False
 ct:St->Hp->Prop:=λ_ _=>False
abbrev TS:=Ends->St->Hp->Prop
def EP(X:Cx)(pins:W1)(σ:St)(Q:VK)(u:Value)(s':Shared):Prop:=∃v H',Inv X pins σ H' s'/\RelV v u/\Q v H'
def TP(X:Cx)(pins:W1)(σ:St)(Q:Bool->Hp->Prop)(b:Bool)(s':Shared):Prop:=∃H',Inv X pins σ H' s'/\Q b H'
def AP(X:Cx)(pins:W1)(σ:St)(Q:List V->Hp->Prop)(us:v4)(s':Shared):Prop:=∃vs H',Inv X pins σ H' s'/\Vals vs us/\Q vs H'
def SP(X:Cx)(pins:W1)(D:Ends)(f:Flow)(s':Shared):Prop:=
 match f with
 |.next=>∃aE H',Inv X pins aE H' s'/\D.nx aE H'
 |.brk=>∃aE H',Inv X pins aE H' s'/\D.bk aE H'
 |.cont=>∃aE H',Inv X pins aE H' s'/\D.ct aE H'
 |.ret u=>∃v aE H',Inv X pins aE H' s'/\RelV v u/\D.rt v H'
def PE(X:Cx)(e:Expr)(t:TE):Prop:=
 ∀(pins:W1) (s:Shared) (σ:St) (H:Hp) (Q:VK),Inv X pins σ H s->t σ H Q->wpAny ζ X.A εK γT X.xe s
def PT(X:Cx)(e:Expr)(t:TT):Prop:=
 ∀(pins:W1) (s:Shared) (σ:St) (H:Hp) (Q:Bool->Hp->Prop),Inv X pins σ H s->t σ H Q->wpAny ζ X.A (isTrue e X.env εK) (TP X pins σ Q) X.xe s
def PW(X:Cx)(e:Expr)(t:TT):Prop:=
 ∀(whole:Sem Value) (pins:W1) (s:Shared) (σ:St) (H:Hp) (Q:Bool->Hp->Prop),Inv X pins σ H s->t σ H Q->wpAny ζ X.A (isTrue e X.env whole) (TP X pins σ Q) X.xe s
def PW.pt(h:PW X e t):PT X e t:=h _
def PA(X:Cx)(es:zza)(t:TA):Prop:=
 ∀(pos:Pos) (pins:W1) (s:Shared) (σ:St) (H:Hp) (Q:List V->Hp->Prop),Inv X pins σ H s->t σ H Q->wpAny ζ X.A (spliced (backTo pos γl)) (AP X pins σ Q) X.xe s
def PS(X:Cx)(st:Stmt)(t:TS):Prop:=
 ∀(pins:W1) (s:Shared) (σ:St) (H:Hp) (D:Ends),Inv X pins σ H s->t D σ H->wpAny ζ X.A (exec st X.env) (SP X pins D) X.xe s
def PSs(X:Cx)(st:δK)(t:TS):Prop:=
 ∀(pins:W1) (s:Shared) (σ:St) (H:Hp) (D:Ends),Inv X pins σ H s->t D σ H->wpAny ζ X.A (execs st X.env) (SP X pins D) X.xe s
def aX{α:Type}{t:Sem α}{Q Q':α->Shared->Prop}(h:wpAny M A t Q E s)(hQ:∀a s,Q a s->Q' a s):wpAny M A t Q' E s:=qa6 h hQ λ_ _ x=>x
section
variable{X:Cx}
def u3(i:Nat):TE:=λσ H Q=>∃v,σ[i]?=some δR/\Q v H
def tC(v:V):TE:=λ_ H Q=>Q v H
def Ji{i:Nat}{x:Str}{pos:Pos}(hN:X.N[i]?=some x)(hv:wR X.env.scope x)(hd:(x == ("__debug__":Str))=false:=by decide)(hcd:(x == ("__classdict__":Str))=false:=by decide):PE X εj (u3 i):=by
 intro pins s σ H Q I h;obtain⟨v,e,h⟩:=h;obtain⟨m,hn,hl⟩:=I.loc;obtain⟨u,r,l⟩:=hl i x v hN e hv;have fin:EP X pins σ Q u s:=⟨v,H,I,r,h⟩;rcases l with ⟨hk,hm⟩|⟨hk,c,hc,hcell⟩
 .exact wpAny_Name (wpAny_loadName_local I.ok.kind hk hn hm fin) hd
 .rcases hk with hk|hk
  .exact wpAny_Name (wpAny_loadName_cell I.ok.kind hk hc hcell fin) hd
  .exact wpAny_Name (wpAny_loadName_free I.ok.kind hk hc hcell fin hcd) hd
def QV{i j pos}:PE X (.Constant γ1 j pos) (tC γ1):=λ_ _ _ H _ I h=>wpAny_Constant_int ⟨.int i,H,I.tok _,⟨_,rfl⟩,h⟩
def QW{b j pos}:PE X (.Constant (.bool b) j pos) (tC ζc):=λ_ _ _ H _ I h=>Constant_bool ⟨.bl b,H,I,rfl,h⟩
def QX{j pos}:PE X (.Constant .none j pos) (tC .aq):=λ_ _ _ H _ I h=>Constant_none ⟨.aq,H,I,rfl,h⟩
def Jj{x j pos}:PE X (.Constant εA j pos) (tC εA):=λ_ _ _ H _ I h=>Calls.Constant_str ⟨.str x,H,I.tok _,⟨_,rfl⟩,h⟩
noncomputable def Gl(X:Cx)(x:Str):Prop:=X.env.kindOf x=some .globalImplicit
def tG{E:T0}{pins:W1}{s:Shared}{σ:St}{H:Hp}{x:Str}{u:Value}{pos:Pos}{Q:T0}(I:δ)(hg:εX)(hm:X.mg x=some u)(h:Q u s)
 (hd:(x == ("__debug__":Str))=false:=by decide):wpAny ζ X.A (eval εj X.env) Q E s:=
 Calls.Name_function_global I.ok.kind hg (Calls.loadGlobal_global (by rw[I.ok.glob];exact I.mod.glob.keeps I.bk) hm h) hd
def wV{E:T0}{pins:W1}{s:Shared}{σ:St}{H:Hp}{x:Str}{u:Value}{pos:Pos}{Q:T0}(I:δ)(hg:εX)(hm:X.mg x=none)(hv:bootBuiltins x=some u)(h:Q u s)
 (hn:x≠"__name__":= by decide) (hd:(x == ("__debug__":Str))=false:=by decide):wpAny ζ X.A (eval εj X.env) Q E s:=by obtain⟨mb,h1,h2⟩:=I.mod.blt;exact Calls.Name_function_global I.ok.kind hg (Calls.loadGlobal_builtin (by rw[I.ok.glob];exact I.mod.glob.keeps I.bk) hm (by rw[I.ok.blt];exact h1.keeps I.bk) ((h2 x hn).trans hv) h) hd
def tI(hg:εX)(hm:X.mg x=some u)(r:RelV v u)(hd:(x == ("__debug__":Str))=false:=by decide):PE X εj (tC v):=
 λ_ _ _ H _ I h=>tG I hg hm ⟨v,H,I,r,h⟩ hd
def DO{x:Str}{v:V}{u:Value}{pos:Pos}(hg:εX)(hm:X.mg x=none)(hv:bootBuiltins x=some u)(r:RelV v u)(hn:x≠"__name__":= by decide)(hd:(x == ("__debug__":Str))=false:=by decide):PE X εj (tC v):=
 λ_ _ _ H _ I h=>wV I hg hm hv ⟨v,H,I,r,h⟩ hn hd
variable{a b:Expr}{ta tb:TE}{pos:Pos}
def tB(t:TE):TT:=λσ H Q=>t σ H λx H1=>∃c,x=.bl c/\Q c H1
def QY(h:PE X e t)(he:∀whole,isTrue e X.env whole=(do let v <-whole;standAt e.pos;holding [v] (truthy v)):=by intro _;rfl):PT X e (tB t):=by intro pins s σ H Q I hw;refine isTrue_plain (aX (h pins s σ H _ I hw) λv s1 zq=>?_) (he _);obtain⟨x,H1,I1,r1,q1⟩:=zq;obtain⟨d,rfl,q⟩:=q1;cases r1;exact qby ⟨H1,I1,q⟩
variable{tA Ay:TT}{rest:zza}
def Jk(t u:TT):TT:=λσ H Q=>t σ H λc H1=>if c=true then u σ H1 Q else Q false H1
def Jl(t u:TT):TT:=λσ H Q=>t σ H λc H1=>if c=true then Q true H1 else u σ H1 Q
def Jm(t:TT):TT:=λσ H Q=>t σ H λc H1=>Q (!c) H1
def QZ(ha:PT X a tA):PW X (.BoolOp .And [a] pos) tA:=by
 intro wh pins s σ H Q I h;refine isTrue_and (aX (ha pins s σ H Q I h) λc s1 e=>?_);cases c with
 |true=>exact isTrue_and_nil e
 |false=>exact e
def Q0(ha:PT X a tA):PW X (.BoolOp .Or [a] pos) tA:=by
 intro wh pins s σ H Q I h;refine isTrue_or (aX (ha pins s σ H Q I h) λc s1 e=>?_);cases c with
 |false=>exact isTrue_or_nil e
 |true=>exact e
def Q1(ha:PT X a tA)(hb:PW X (.BoolOp .And (b::rest) pos) Ay):PW X (.BoolOp .And (a::b::rest) pos) (Jk tA Ay):=by
 intro wh pins s σ H Q I h;refine isTrue_and (aX γB λc s1 zq=>?_);obtain⟨H1,I1,q1⟩:=zq;cases c with
 |true=>exact hb wh pins s1 σ H1 Q I1 q1
 |false=>exact⟨H1,I1,q1⟩
def Q2(ha:PT X a tA)(hb:PW X (.BoolOp .Or (b::rest) pos) Ay):PW X (.BoolOp .Or (a::b::rest) pos) (Jl tA Ay):=by
 intro wh pins s σ H Q I h;refine isTrue_or (aX γB λc s1 zq=>?_);obtain⟨H1,I1,q1⟩:=zq;cases c with
 |true=>exact⟨H1,I1,q1⟩
 |false=>exact hb wh pins s1 σ H1 Q I1 q1
def Q3(ha:PT X a tA):PT X ζO (Jm tA):=by intro pins s σ H Q I h;exact isTrue_not (ha pins s σ H (λc H1=>Q (!c) H1) I h)
def Q4(ta tb:TE):TE:=λσ H Q=>ta σ H λx H1=>∃c,x=.bl c/\if c=true then tb σ H1 Q else Q ζA H1
def Q5(ta tb:TE):TE:=λσ H Q=>ta σ H λx H1=>∃c,x=.bl c/\if c=true then Q (.bl true) H1 else tb σ H1 Q
def Q6(ta:TE):TE:=λσ H Q=>ta σ H λx H1=>∃c,x=.bl c/\Q (.bl (!c)) H1
def Q7{op}(h:PE X a t):PE X (.BoolOp op [a] pos) t:=λpins s σ H Q I hw=>BoolOp_one (h pins s σ H Q I hw)
def Q8(ha:εW)(hb:PE X (.BoolOp .And (b::rest) pos) tb):PE X (.BoolOp .And (a::b::rest) pos) (Q4 ta tb):=by
 intro pins s σ H Q I h;refine BoolOp_and (aX γB λv s1 zq=>?_);obtain⟨x,H1,I1,r1,q1⟩:=zq;obtain⟨c,rfl,q1⟩:=q1;cases r1;refine qby ?_;cases c with
 |true=>exact hb pins s1 σ H1 Q I1 q1
 |false=>exact⟨.bl false,H1,I1,rfl,q1⟩
def Q9(ha:εW)(hb:PE X (.BoolOp .Or (b::rest) pos) tb):PE X (.BoolOp .Or (a::b::rest) pos) (Q5 ta tb):=by
 intro pins s σ H Q I h;refine BoolOp_or (aX γB λv s1 zq=>?_);obtain⟨x,H1,I1,r1,q1⟩:=zq;obtain⟨c,rfl,q1⟩:=q1;cases r1;refine qby ?_;cases c with
 |false=>exact hb pins s1 σ H1 Q I1 q1
 |true=>exact⟨.bl true,H1,I1,rfl,q1⟩
def Q_(ha:εW):PE X ζO (Q6 ta):=by intro pins s σ H Q I h;refine UnaryOp_ (aX γB λv s1 zq=>?_);obtain⟨x,H1,I1,r1,q1⟩:=zq;obtain⟨c,rfl,q1⟩:=q1;cases r1;exact not_of (qby ⟨.bl (!c),H1,I1,rfl,q1⟩)
def Ra(t:TT)(ta tb:TE):TE:=λσ H Q=>t σ H λc H1=>if c=true then ta σ H1 Q else tb σ H1 Q
def Rb(hc:PT X c tA)(ha:εW)(hb:ηL):PE X (.IfExp c a b pos) (Ra tA ta tb):=by
 intro pins s σ H Q I h;refine wpAny_IfExp (aX (hc pins s σ H _ I h) λd s1 zq=>?_);obtain⟨H1,I1,q1⟩:=zq;cases d with
 |true=>exact ha pins s1 σ H1 Q I1 q1
 |false=>exact hb pins s1 σ H1 Q I1 q1
end
def cJ(K:zze)(H:Hp)(a:Addr)(xs:γv):Prop:=
 Rd H a γh \/
  ∃(o:Obj) (its:zzh) (n:Nat),K.lookup a=some o/\o.cls=.type "list" /\ o.dict=none/\o.data=.seq its n/\its.size<=sizeLine/\Vals xs its.toList
def k6(K:zze)(H:Hp)(a:Addr)(xs:γv):Prop:=
 Rd H a γK \/
  ∃(o:Obj) (its:zzh) (n:Nat),K.lookup a=some o/\o.cls=.type "tuple" /\ o.data=.seq its n/\its.size<=sizeLine/\Vals xs its.toList
noncomputable def Rc:Value->Option V
 |.none=>some .aq
 |.bool b=>some ζc
 |.int i _=>some γ1
 |.str x _=>some εA
 |.bytes b _=>some (.nM b)
 |.float b _=>some (.flt b)
 |.ref a=>some γz
 |.type n=>some (.ty n)
 |_=>none
def RelV.abs(r:RelV x u):Rc u=some x:=by
 cases x with
 |aq=>cases r;rfl
 |bl _=>cases r;rfl
 |int _=>obtain⟨t,rfl⟩:=r;rfl
 |str _=>obtain⟨t,rfl⟩:=r;rfl
 |nM _=>obtain⟨t,rfl⟩:=r;rfl
 |flt _=>obtain⟨t,rfl⟩:=r;rfl
 |ref _=>cases r;rfl
 |ty _=>cases r;rfl
def RelV.inj(r:RelV x u)(q:RelV y u):x=y:=qaH (r.abs.symm.trans q.abs)
def Vals.inj(h:θQ)(h':Vals ys us):xs=ys:=by
 induction h generalizing ys with
 |nil=>cases h';rfl
 |cons r t ih=>cases h' with|cons r' t'=>rw[r.inj r',ih t']
section
variable{X:Cx}{pins:W1}{σ:St}{H:Hp}{s:Shared}{a:Addr}{xs ys:γv}
def cJ.of{K:zze}(h:H a=some γh):cJ K H a xs:=.inl (.inl h)
def k6.of{K:zze}(h:H a=some γK):k6 K H a xs:=.inl (.inl h)
def Inv.list(I:δ)(h:cJ X.K H a xs):∃its:v4,Vals xs its/\PlainL s.heap a its.toArray/\xs.length<=sizeLine:=by
 rcases h with h|⟨o,its,n,hk,hc,hd,hs,hz,r⟩
 .obtain⟨z,its,n,r,e⟩:=h.ok I.hok;exact⟨its,r,⟨_,n,e,rfl,rfl,rfl⟩,z⟩
 .refine⟨its.toList,r,⟨o,n,I.cf a o hk,hc,hd,by simpa using hs⟩,?_⟩;have e:=r.length;simp only[Array.length_toList]at e;omega
def Inv.tuple(I:δ)(h:k6 X.K H a xs):∃its:v4,Vals xs its/\IsTup s.heap a its.toArray/\xs.length<=sizeLine:=by
 rcases h with h|⟨o,its,n,hk,hc,hs,hz,r⟩
 .obtain⟨z,its,r,p⟩:=h.ok I.hok;exact⟨its,r,p,z⟩
 .refine⟨its.toList,r,⟨o,I.cf a o hk,hc,n,by simpa using hs⟩,?_⟩;have e:=r.length;simp only[Array.length_toList]at e;omega
def Inv.oE(I:δ)(h:cJ X.K H a xs)(h':cJ X.K H a ys):xs=ys:=by
 obtain⟨its,r,⟨o,n,e,_,_,d⟩,_⟩:=I.list h;obtain⟨its',r',⟨o',n',e',_,_,d'⟩,_⟩:=I.list h';rw[e]at e';cases e';rw[d]at d';injection d' with d1 _
 have:its=its':=by simpa using congrArg Array.toList d1
 subst this;exact r.inj r'
end
noncomputable abbrev Cx.iO(X:Cx)(E:T0):Cx:={X with xe:=E}
abbrev Cx.qD(X:Cx):Cx:=X.iO λ_ _=>False
def Cx.Ok.iO{X:Cx}(ok:X.Ok)(E:T0):(X.iO E).Ok:=
 ⟨ok.mod,ok.kind,ok.glob,ok.blt,ok.above,ok.inj,ok.has,ok.cab,ok.hd,ok.frames,ok.rL,ok.rM,ok.bs,ok.mv,ok.jm,ok.jo,ok.eV,ok.oz⟩
def Cx.Ok.d7{X:Cx}(ok:(X.iO E).Ok):X.Ok:=
 ⟨ok.mod,ok.kind,ok.glob,ok.blt,ok.above,ok.inj,ok.has,ok.cab,ok.hd,ok.frames,ok.rL,ok.rM,ok.bs,ok.mv,ok.jm,ok.jo,ok.eV,ok.oz⟩
section
variable{X:Cx}{pins:W1}{σ:St}{H:Hp}{s:Shared}{E:T0}
def Inv.iO(I:δ)(E:T0):Inv (X.iO E) pins σ H s:=⟨I.ok.iO E,I.os,I.bare,I.base,I.loc,I.cell,I.free,I.b_,I.pin,I.hok,I.len⟩
def Inv.d7(I:Inv (X.iO E) pins σ H s):Inv X pins σ H s:=⟨I.ok.d7,I.os,I.bare,I.base,I.loc,I.cell,I.free,I.b_,I.pin,I.hok,I.len⟩
def SP.d7(h:SP (X.iO E) pins D f s'):SP X pins D f s':=by
 cases f with
 |next=>obtain⟨aE,H',I,q⟩:=h;exact⟨aE,H',I.d7,q⟩
 |brk=>obtain⟨aE,H',I,q⟩:=h;exact⟨aE,H',I.d7,q⟩
 |cont=>obtain⟨aE,H',I,q⟩:=h;exact⟨aE,H',I.d7,q⟩
 |ret u=>obtain⟨v,aE,H',I,r,q⟩:=h;exact⟨v,aE,H',I.d7,r,q⟩
def PSs.qD{st:δK}{t:TS}(h:PSs X.qD st t):PSs X st t:=λpins s σ H D I hw =>
 qa6 (h pins s σ H D (I.iO _) hw) (λ_ _ q=>q.d7) λ_ _ z=>False.elim z
end
section
variable{X:Cx}{st:Stmt}{rest:δK}{t u:TS}{e:Expr}{te:TE}{pos:Pos}
def Rf:TS:=λD σ H=>D.nx σ H
def Rg(t u:TS):TS:=λD σ H=>t {D with nx:=u D} σ H
def Jn:PSs X [] Rf:=λ_ _ σ H _ I h=>wpAny_execs_nil ⟨σ,H,I,h⟩
def Az(h1:PS X st t)(h2:PSs X rest u):PSs X (st::rest) (Rg t u):=by
 intro pins s σ H D I h;refine wpAny_execs_cons (aX (h1 pins s σ H {D with nx:=u D} I h) λf s1 q=>?_);cases f with
 |next =>
   obtain⟨aE,H',I',q⟩:=q;exact h2 pins s1 aE H' D I' q
 |ret v=>exact q
 |brk=>exact q
 |cont=>exact q
def AA(h1:PS X st t):PSs X [st] t:=by
 intro pins s σ H D I h;refine wpAny_execs_cons (aX (h1 pins s σ H D I h) λf s1 q=>?_);cases f with
 |next=>exact wpAny_execs_nil q
 |ret v=>exact q
 |brk=>exact q
 |cont=>exact q
def Inv.quiet{pins:W1}{σ:St}{H:Hp}{s:Shared}(I:δ):interactive X.env=false:=by simp[interactive,I.ok.kind]
def Rh(te:TE):TS:=λD σ H=>te σ H λ_ H1=>D.nx σ H1
def DP(he:θD)(hs:swapsWith e none pos.line X.env=pure false:=by rfl):PS X (.Expr e pos) (Rh te):=by intro pins s σ H D I h;exact wpAny_Expr_any (aX δb λv s1 ⟨x,H1,I1,r1,q1⟩=>⟨σ,H1,I1,q1⟩) I.quiet hs
def Rj(te:TE):TS:=λD σ H=>te σ H D.rt
def Rm(he:θD):PS X (.Return ζC pos) (Rj te):=by intro pins s σ H D I h;exact wpAny_Return_some (aX δb λv s1 ⟨x,H1,I1,r1,q1⟩=>⟨x,σ,H1,I1,r1,q1⟩)
def Rn(c:TT)(t u:TS):TS:=λD σ H=>c σ H λb H1=>if b=true then t D σ H1 else u D σ H1
def Jo(hc:PT X c tc)(ha:PSs X a t)(hb:PSs X b u):PS X (.If c a b pos) (Rn tc t u):=by
 intro pins s σ H D I h;refine wpAny_If (aX (hc pins s σ H _ I h) λd s1 zq=>?_);obtain⟨H1,I1,q1⟩:=zq;cases d with
 |true=>exact ha pins s1 σ H1 D I1 q1
 |false=>exact hb pins s1 σ H1 D I1 q1
def Ro:TS:=λ_ _ _=>False
def Rq:PS X st Ro:=λ_ _ _ _ _ _ h=>h.elim
end
abbrev TG:=V->St->Hp->(St->Hp->Prop)->Prop
abbrev qa:=List V->St->Hp->(St->Hp->Prop)->Prop
def PG(X:Cx)(target:Expr)(t:TG):Prop:=
 ∀(pins:W1) (s:Shared) (σ:St) (H:Hp) (v:V) (u:Value) (Q:St->Hp->Prop),Inv X pins σ H s->RelV v u->t v σ H Q ->
  wpAny ζ X.A (assign target X.env u) (λ_ s'=>∃aE H',Inv X pins aE H' s'/\Q aE H') X.xe s
def PGs(X:Cx)(ts:zza)(t:qa):Prop:=
 ∀(pins:W1) (s:Shared) (σ:St) (H:Hp) (vs:γv) (us:v4) (Q:St->Hp->Prop),Inv X pins σ H s->Vals vs us->t vs σ H Q ->
  wpAny ζ X.A (assignInOrder ((assignEach ts X.env).map (·.2)) us) (λ_ s'=>∃aE H',Inv X pins aE H' s'/\Q aE H') X.xe s
section
variable{X:Cx}{pos:Pos}
def nN(i:Nat):TG:=λv σ H Q=>Q (σ.set i δR) H
def dH(hN:X.N.Nodup)(hi:X.N[i]?=some x)(hx:δ4)(hf:X.fn x=true\/X.env.scope.names.lookup x=some .local:=by first|exact .inl rfl|exact .inr rfl|assumption):PG X εj (nN i):=by intro pins s σ H v u Q I r h;exact wpAny_assign_Name (u0 I hN hi hx r (λs' I'=>⟨_,H,I',h⟩) hf)
def wW:qa:=λvs σ H Q=>vs=[]/\Q σ H
def tJ(t:TG)(u:qa):qa:=λvs σ H Q=>∃v r,vs=v::r/\t v σ H λaE H'=>u r aE H' Q
def mV:PGs X [] wW:=by intro pins s σ H vs us Q I r h;obtain⟨e,h⟩:=h;subst e;cases r;exact assignInOrder_nil ⟨σ,H,I,h⟩
def gC(h1:PG X e t)(h2:PGs X es u)
 (hs:(assignEach (e::es) X.env).map (·.2)=assign e X.env::(assignEach es X.env).map (·.2):=by rfl):PGs X (e::es) (tJ t u):=by
 intro pins s σ H vs us Q I r h;obtain⟨v,vr,e1,h⟩:=h;subst e1;cases r with
 |cons r rr =>
   rw[hs];refine assignInOrder_cons (aX (h1 pins s σ H _ _ _ I r h) λ_ s1 zq=>?_);obtain⟨gM,H1,I1,q1⟩:=zq;exact h2 pins s1 gM H1 _ _ Q I1 rr q1
def wX(K:zze)(n:Nat)(t:qa):TG:=λv σ H Q=>∃a xs,v=.ref a/\k6 K H a xs/\xs.length=n/\t xs σ H Q
def mW{es:zza}{k:Nat}{t:qa}{n:Nat}(hc:X.calm=true)(h:PGs X es t)
 (hn:(assignEach es X.env).length=n:=by rfl) (hst:(assignEach es X.env).findIdx? (·.1)=none:=by rfl):PG X (.Tuple es k pos) (wX X.K n t):=by intro pins s σ H v u Q I r hw;obtain⟨a,xs,e1,hq,hl,hw⟩:=hw;subst e1;cases r;obtain⟨its,rv,ht,hz⟩:=I.tuple hq;refine assign_Tuple_tuple δ8 ht (by simp[hn,<-hl,rv.length]) hst λh' hx=>?_;have I1:Inv X pins σ H {s with heap:=h'}:=I.kept (t':=s.toks) λb o e=>hx b o (qan ηl) e;exact h pins _ σ H xs _ Q I1 (by simpa using rv) hw
def u4(te:TE)(g:TG):TS:=λD σ H=>te σ H λx H1=>g x σ H1 D.nx
def DQ(he:θD)(hg:PG X tg g)(hs:swapsWithSole [tg] e pos.line X.env=pure false:=by rfl)(hw:swappedStores [tg] e X.env=pure none:=by rfl)
 (h1:(assignEach [tg] X.env).map (·.2)=[assign tg X.env]:=by rfl):PS X (.Assign [tg] e pos) (u4 te g):=by intro pins s σ H D I h;refine wpAny_Assign_stores (aX δb λv s1 zq=>?_) hs hw;obtain⟨x,H1,I1,r1,q1⟩:=zq;rw[h1];exact aX (hg pins s1 σ H1 x v _ I1 r1 q1) λ_ s2 q=>q
def Jp(hN:X.N.Nodup)(hi:X.N[i]?=some x)(hx:δ4)(he:θD)(hs:swapsWith e ζJ pos.line X.env=pure false:=by rfl)(hf:X.fn x=true\/X.env.scope.names.lookup x=some .local:=by first|exact .inl rfl|exact .inr rfl|assumption) :
 PS X (.Assign [.Name x pos'] e pos) (u4 te (nN i)):=by intro pins s σ H D I h;refine wpAny_Assign_Name (aX δb λv s1 zq=>?_) hs;obtain⟨y,H1,I1,r1,q1⟩:=zq;exact u0 I1 hN hi hx r1 (λs2 I2=>⟨_,H1,I2,q1⟩) hf
def Rr(i j:Nat)(ta:TA):TS:=λD σ H=>ta σ H λvs H1=>∃v w,vs=[v,w]/\D.nx ((σ.set i δR).set j (some w)) H1
def Ru{kt k2 tK}(hc:X.calm=true)(hN:X.N.Nodup)(hi:X.N[i]?=some x)(hj:X.N[j]?=some y)(hij:i≠j)
 (hx:X.env.scope.names.lookup x=some .local) (hy:X.env.scope.names.lookup y=some .local) (ha:PA X [a,b] ta)
 (hw:swappedStores [.Tuple [.Name x px,.Name y py] kt pt] (.Tuple [a,b] k2 tK) X.env=pure (some [x,y]))
 (hs:swapsWithSole [.Tuple [.Name x px,.Name y py] kt pt] (.Tuple [a,b] k2 tK) pos.line X.env=pure false:=by rfl) :
 PS X (.Assign [.Tuple [.Name x px,.Name y py] kt pt] (.Tuple [a,b] k2 tK) pos) (Rr i j ta):=by
 intro pins s σ H D I h;rw[exec_Assign_arm];refine qaa (qbB ?_);rw[hs];refine qaa (qad ?_);rw[qax ξ];refine qaa (Tuple_ (aX (ha _ pins s σ H _ I h) λus s1 zq=>?_));obtain⟨vs,H1,I1,r1,q1⟩:=zq;obtain⟨v,w,e1,q1⟩:=q1;subst e1
 obtain⟨u1,u2,rfl,rv,rw'⟩:∃u1 u2,us=[u1,u2]/\RelV v u1/\RelV w u2:=by
  cases r1 with
  |cons p q =>
    cases q with
    |cons p' q' =>
      cases q';exact⟨_,_,rfl,p,p'⟩
 refine qbn ?_ (by show 2<=sizeLine;decide);have I2:Inv X pins σ H1 {s1 with heap:=s1.heap.push {cls:=.type "tuple",data:=.seq [u1,u2].toArray} }:=I1.kept (t':=s1.toks) λb o e=>qab _ e;rw[hw];refine qaa (qad ?_);show wpAny ζ X.A (do rule "assign.swapped-stores";let items <-unpackItems (.ref s1.heap.objs.size) 2 none;assignInOrder [λv=>bindName X.env y v,λv=>bindName X.env x v] items.reverse;pure Flow.next) _ _ _;refine qaa (wpAny_rule (qaa (unpackItems_tuple (items:= #[u1,u2]) δ8 (IsTup.new s1.heap _) λh' hx'=>?_)));have I3:=I2.kept (h':=h') (t':=s1.toks) λb o e=>hx' b o (qan ηl) e;show wpAny _ _ (assignInOrder [λv=>bindName X.env y v,λv=>bindName X.env x v] [u2,u1] >>= λ_=>pure Flow.next) _ _ _;refine qaa (assignInOrder_cons (wpAny_bindName (u0 I3 hN hj (.inl hy) rw' (λs2 I4=>?_) (.inr hy))));refine assignInOrder_cons (wpAny_bindName (u0 I4 hN hi (.inl hx) rv (λs3 I5=>assignInOrder_nil (qad ?_)) (.inr hx)));rw[List.set_comm _ _ (qa5 hij)]at I5;exact⟨_,H1,I5,q1⟩
end
structure It where
 go:Nat->Hp->Prop
 u5:Nat->Hp->V->Hp->Prop
 stop:Nat->Hp->Prop
def mZ(X:Cx)(pins:W1)(H:Hp)(b:Addr):Prop:=
 H b=none/\b≠X.env.locals/\b∉X.fs/\(b∈X.ex\/X.s₀.heap.objs.size<=b)/\(∀x c,X.env.cells.lookup x=some c->c≠b)/\∀p∈X.pn++pins,p.1≠b
def Inv.oF{X:Cx}{pins:W1}{σ:St}{H H':Hp}{s:Shared}{b:Addr}(I:δ)(hb:s.heap.objs.size<=b)(hn:H' b=none):mZ X pins H' b:=by
 refine⟨hn,Nat.ne_of_gt (qao I.lt hb),I.DL hb,.inr (qaJ I.sz hb),λx c e z=>?_,λp hp z=>?_⟩
 .obtain⟨v,q⟩:=I.cell x c e;exact absurd (qao q.lt (by rw[z];exact hb)) (qbq _)
 .exact absurd (qao (qai (I.pin p hp).1) (by rw[z];exact hb)) (qbq _)
structure Turn(P:Program)(w:World)(K:zze)(tg:Expr)(J:It)(fp:zzd)(it:Addr)(tn:Nat->Heap->Prop):Prop where
 mem:it∈fp
 obj:∀i h,tn i h->∀b∈fp,∃o,h.get? b=some o/\∀v,o.data≠.cell v
 keep:∀i h h',tn i h->(∀b∈fp,∀o,h.get? b=some o->h'.get? b=some o)->tn i h'
 item:∀(X:Cx),X.prog=P->X.w=w->X.K=K->X.calm=true->∀(i:Nat) (pins:W1) (s:Shared) (σ:St) (H:Hp) (E:T0),Inv X pins σ H s->(∀b∈fp,mZ X pins H b)->tn i s.heap->J.go i H ->
  wpAny εT X.A (pyNext θk) (λr s1=>∃u,r=some u /\
   wpAny εT X.A (letOwnedTupleGo tg θk u) (λ_ s2=>∃x H',Inv X pins σ H' s2/\RelV x u/\J.u5 i H x H'/\tn (i+1) s2.heap/\∀b∈fp,H' b=none) E s1) E s
 done:∀(X:Cx),X.prog=P->X.w=w->X.K=K->X.calm=true->∀(i:Nat) (pins:W1) (s:Shared) (σ:St) (H:Hp) (E:T0),Inv X pins σ H s->(∀b∈fp,mZ X pins H b)->tn i s.heap->J.stop i H ->
  wpAny εT X.A (pyNext θk) (λr s1=>r=none/\Inv X pins σ H s1) E s
 self:∀(A:Around) (i:Nat) (s:Shared) (Q:T0) (E:T0),tn i s.heap->Q θk s->wpAny εT A (pyIter θk) Q E s
abbrev TI:=St->Hp->(It->Hp->Prop)->Prop
def Jq(X:Cx)(pins:W1)(σ:St)(tg:Expr)(R:It->Hp->Prop)(itv:Value)(s2:Shared):Prop:=
 ∃(it:Addr) (fp:zzd) (tn:Nat->Heap->Prop) (J:It) (H':Hp),itv=.ref it/\Inv X pins σ H' s2/\Turn X.prog X.w X.K tg J fp it tn/\tn 0 s2.heap/\(∀b∈fp,mZ X pins H' b)/\R J H'
def PI(X:Cx)(tg iter:Expr)(wi:TI):Prop:=
 ∀(pins:W1) (s:Shared) (σ:St) (H:Hp) (R:It->Hp->Prop),Inv X pins σ H s->wi σ H R ->
  wpAny ζ X.A ηs (λv s1=>wpAny ζ X.A (pyIter v) (Jq X pins σ tg R) X.xe s1) X.xe s
def DR{s:Shared}(ho:s.heap.get? it=some o)(hc:o.cls=.type n)(hd:o.data=.fields vs)
 (hn:["enumerate","zip","dict_itemiterator","dict_reverseitemiterator","odict_iterator","itertools.zip_longest","itertools.pairwise"].contains n=false) (hQ:Q () s):wpAny M A (letOwnedTupleGo tg θk u) Q E s:=by
 unfold letOwnedTupleGo
 cases tg<;>first
  |exact qad hQ
  | (cases u<;>first
   |exact qad hQ
   | (refine qaa (wpAny_load ho ?_)
      rw[hc,hd]
      show wpAny M A (if (["enumerate","zip","dict_itemiterator","dict_reverseitemiterator","odict_iterator","itertools.zip_longest","itertools.pairwise"].contains n&&vs[0]? == some (rawInt _))=true then _ else _) Q E s
      rw[qax (by intro h;rw[hn,Bool.false_and]at h;cases h)]
      exact qad hQ))
noncomputable def DS(K:zze)(a:Addr):It:=
 ⟨λi H=>∃xs x,cJ K H a xs/\xs[i]?=some x,λi H x H'=>H'=H/\∀xs,cJ K H a xs->xs[i]?=some x,λi H=>∃xs,cJ K H a xs/\xs.length<=i⟩
noncomputable def AB(lo:Int)(n:Nat):It:=⟨λi _=>i<n,λi H x H'=>H'=H/\x=.int (lo+i),λi _=>n<=i⟩
theorem Rv{P:Program}{w:World}{K:zze}{tg:Expr}(a it:Addr):Turn P w K tg (DS K a) [it] it (λi h=>h.IsListIter it a i) where
 mem:=by simp
 obj:=λi h st b hb=>by
  have e:b=it:=by simpa using hb
  subst e;obtain⟨o,e,c,d⟩:=st;exact⟨o,e,λv z=>by rw[d]at z;cases z⟩
 keep:=λi h h' st k=>st.at λo e=>k it (by simp) o e
 item:=by intro X hP hw hK hc i pins s σ H E I hf st hg;subst hP hw hK;obtain⟨xs,x,hq,hx⟩:=hg;obtain⟨its,rv,p,hz⟩:=I.list hq;obtain⟨u,hu,ru⟩:=rv.get hx;obtain⟨f0,f1,f2,f3,f4,f5⟩:=hf it (by simp);refine wpAny_pyNext_list_item st p.isList (x:=u) (by simpa using hu) λh' st' sb=>?_;have I1:Inv X pins σ H {s with heap:=h'}:=I.turned (t':=s.toks) (λb o hb e=>(sb.2 b hb).trans e) f0 f1 f3 f4 f5;obtain⟨o,e,c,d⟩:=id st';exact⟨u,rfl,DR (s:={s with heap:=h'}) e c d ξ ⟨x,H,I1,ru,⟨rfl,λys hy=>by rw[I.oE hy hq];exact hx⟩,st',λb hb=>(hf b hb).1⟩⟩
 done:=by intro X hP hw hK hc i pins s σ H E I hf st hg;subst hP hw hK;obtain⟨xs,hq,hx⟩:=hg;obtain⟨its,rv,p,hz⟩:=I.list hq;obtain⟨f0,f1,f2,f3,f4,f5⟩:=hf it (by simp);have hl:=rv.length;exact wpAny_pyNext_list_end δ8 st p.isList (by simp;omega) λh' eb=>⟨rfl,I.turned (t':=s.toks) (λb o hb e=>eb b o hb e) f0 f1 f3 f4 f5⟩
 self:=λ_ _ _ _ _ st h=>wpAny_pyIter_listiter st h
theorem Rw{P:Program}{w:World}{K:zze}{tg:Expr}(it:Addr)(lo:Int)(n:Nat):Turn P w K tg (AB lo n) [it] it (λi h=>IsRangeIter h it (lo+(i:Nat)*1) ((n:Int)-(i:Nat)) 1) where
 mem:=by simp
 obj:=λi h st b hb=>by
  have e:b=it:=by simpa using hb
  subst e
  exact⟨_,st,λv z=>by have z':Data.fields _=Data.cell v:=z;cases z'⟩
 keep:=λi h h' st k=>k it (by simp) _ st
 item:=by intro X hP hw hK hc i pins s σ H E I hf st hg;subst hP hw hK;obtain⟨f0,f1,f2,f3,f4,f5⟩:=hf it (by simp);have W:=Walks.range (prog:=X.prog) (w:=X.w) δ8 it lo 1 n;refine W.item i s _ _ hg st λv h' tk hv st' kk=>?_;obtain⟨t,rfl⟩:=hv;have I1:Inv X pins σ H {s with heap:=h',toks:=tk}:=I.turned (λb o hb e=>kk b o (by simpa using hb) e) f0 f1 f3 f4 f5;refine⟨_,rfl,DR (s:={s with heap:=h',toks:=tk}) (n:= "range_iterator") st' rfl rfl ξ ⟨.int (lo+i),H,I1,⟨t,?_⟩,⟨rfl,rfl⟩,st',λb hb=>(hf b hb).1⟩⟩;rw[Int.mul_one]
 done:=by intro X hP hw hK hc i pins s σ H E I hf st hg;subst hP hw hK;obtain⟨f0,f1,f2,f3,f4,f5⟩:=hf it (by simp);exact wpAny_pyNext_range_end δ8 st (by have:n<=i:=hg;omega) λh' eb=>⟨rfl,I.turned (t':=s.toks) (λb o hb e=>eb b o hb e) f0 f1 f3 f4 f5⟩
 self:=λ_ _ _ _ _ st h=>wpAny_pyIter_rangeiter st h
section
variable{X:Cx}{tg:Expr}
def Ry(K:zze)(tl:TE):TI:=λσ H R=>tl σ H λx H1=>∃a,x=.ref a/\(∃xs,cJ K H1 a xs)/\R (DS K a) H1
def Rz{l:Expr}{tl:TE}(hl:PE X l tl):PI X tg l (Ry X.K tl):=by
 intro pins s σ H R I h;refine aX (hl pins s σ H _ I h) λv s1 zq=>?_;obtain⟨x,H1,I1,r1,q1⟩:=zq;obtain⟨a,e,⟨xs,hq⟩,q⟩:=q1;subst e;cases r1;obtain⟨its,rv,p,hz⟩:=I1.list hq;refine wpAny_pyIter_list p.isList ?_;refine⟨s1.heap.objs.size,[s1.heap.objs.size],_,_,H1,rfl,I1.kept (t':=s1.toks) λb o e=>qab _ e,Rv a _,⟨_,qar _ rfl,rfl,rfl⟩,λb hb=>?_,q⟩;have e:b=s1.heap.objs.size:=by simpa using hb
 subst e;exact I1.oF γI ιm
def RA{pins:W1}{σ:St}{H:Hp}{s:Shared}{R:It->Hp->Prop}{E:T0}{lo hi:Int}{t u v:Tok}{tk:Nat}(I:δ)(h1 : -(2 ^ 62)<=lo)(h2:lo<2 ^ 62)(h3 : -(2 ^ 62)<=hi)(h4:hi<2 ^ 62)
 (q:R (AB lo (hi-lo).toNat) H):wpAny ζ X.A (pyIter γd) (Jq X pins σ tg R) E {s with heap:=s.heap.push {cls:=.type "range",data:=.fields #[.int lo t,.int hi u,.int 1 v]},toks:=tk}:=by
 refine wpAny_pyIter_range (IsRange.new ..) (small_one h1 h2 h3 h4) ?_;have I1:Inv X pins σ H {s with heap:=s.heap.push {cls:=.type "range",data:=.fields #[.int lo t,.int hi u,.int 1 v]},toks:=tk}:=I.kept λb o e=>qab _ e
 refine⟨(s.heap.push {cls:=.type "range",data:=.fields #[.int lo t,.int hi u,.int 1 v]}).objs.size,[(s.heap.push {cls:=.type "range",data:=.fields #[.int lo t,.int hi u,.int 1 v]}).objs.size],_,_,H,rfl,
  I1.kept (t':=tk) λb o e=>qab _ e,Rw _ lo (hi-lo).toNat,?_,λb hb=>?_,q⟩
 .have e1:lo+((0:Nat):Int)*1=lo:=by simp
  have e2:(((hi-lo).toNat:Nat):Int)-((0:Nat):Int)=Builtin.Range.rangeSize lo hi 1:=by rw[rangeSize_one];split<;>omega
  show IsRangeIter _ _ (lo+((0:Nat):Int)*1) ((((hi-lo).toNat:Nat):Int)-((0:Nat):Int)) 1;rw[e1,e2];exact qar _ rfl
 .have e:b=(s.heap.push {cls:=.type "range",data:=.fields #[.int lo t,.int hi u,.int 1 v]}).objs.size:=by simpa using hb
  subst e;exact I1.oF γI ιm
def Jr(ta:TA):TI:=λσ H R=>ta σ H λvs H1=>∃j:Int,vs=[.int j] /\ -(2 ^ 62)<=j/\j<2 ^ 62/\R (AB 0 j.toNat) H1
def wY{a:Expr}{ta:TA}{p pos:Pos}(hg:Gl X "range")(hm:X.mg "range" = none)(ha:PA X [a] ta)(hs:starEach [a] X.env=[(false,eval a X.env)]:=by rfl):PI X tg (.Call (.Name "range" p) [a] [] pos) (Jr ta):=by
 intro pins s σ H R I h;refine Call_ (wV I hg hm boot_range (PyProof.Rows.callWith_type1 (aX γ6 λus s1 zq=>?_) hs rfl));obtain⟨vs,H1,I1,r1,q1⟩:=zq;obtain⟨j,e,q1,q2,q⟩:=q1;subst e;cases r1 with
 |cons r rr =>
   cases rr;obtain⟨t,rfl⟩:=r;exact call_range_1 (RA I1 ω ω q1 q2 (by simpa using q))
def DT(wi:TI)(g:TG)(tb:TS):TS:=λD σ H=>wi σ H λJ H1=>∃W:Nat->Nat->St->Hp->Prop,(∃m,W 0 m σ H1)/\∀i m σ H,W i m σ H ->
 (J.stop i H/\D.nx σ H)\/(J.go i H/\∃N:St->Hp->Prop,(∀aE H',N aE H'->∃m',m'<m/\W (i+1) m' aE H')/\∀x H',J.u5 i H x H'->g x σ H' λiI H2=>tb {D with nx:=N,ct:=N,bk:=D.nx} iI H2)
noncomputable def wZ(fp:zzd)(h:Heap):W1:=fp.filterMap λb=>(h.get? b).map λo=>(b,o)
def AE{h:Heap}(hb:b∈fp)(e:h.get? b=some o):(b,o)∈wZ fp h:=List.mem_filterMap.mpr ⟨b,hb,by rw[e];rfl⟩
def RB(hp:p∈wZ fp h):p.1∈fp/\h.get? p.1=some p.2:=by
 obtain⟨b,hb,e⟩:=List.mem_filterMap.mp hp;cases q:h.get? b with
 |none=>rw[q]at e;cases e
 |some o =>
   rw[q]at e;have e':(b,o)=p:=qaH e;subst e';exact⟨hb,q⟩
def Inv.pinned{pins:W1}{σ:St}{H:Hp}{s:Shared}{fp:zzd}(I:δ)(hf:∀b∈fp,mZ X pins H b)(ho:∀b∈fp,∃o,s.heap.get? b=some o/\∀v,o.data≠.cell v):Inv X (pins++wZ fp s.heap) σ H s:=
 I.hU λp hp=>(qaK.mp hp).elim (λz=>I.pin p (qay _ z)) λz=>by obtain⟨hb,e⟩:=RB z;obtain⟨f0,f1,f2,_⟩:=hf p.1 hb;obtain⟨o,e',d⟩:=ho p.1 hb;rw[e]at e';cases e';exact⟨e,f0,f1,f2,d⟩
def Inv.fU{pins pl:W1}{σ:St}{H:Hp}{s:Shared}(I:Inv X (pins++pl) σ H s):Inv X pins σ H s:=I.hU λp hp=>I.pin p (qay _ (qa3 _ hp))
def RC(hp:PassesOwn ζ X.A X.env X.xe)(hc:X.calm=true)(hi:ηc)(hg:PG X tg g)(hb:PSs X body tb)
 (hs:∀x,foldedSetIterable iter X.env x=pure x:=by intro _;rfl):PS X (.For tg iter body [] pos) (DT wi g tb):=by
 intro pins s σ H D I h;refine wpAny_For (aX (hi pins s σ H _ I h) λv s1 h1=>aX h1 λitv s2 h2=>?_) hs;obtain⟨it,fp,tn,J,H2,e,I2,T,st2,f2,W,⟨m0,w0⟩,turn⟩:=h2;subst e;have stat:∀{H':Hp},(∀b∈fp,H' b=none)->∀b∈fp,mZ X pins H' b:=λhn b hb=>⟨hn b hb,(f2 b hb).2⟩;refine codeAny_forLoop_any (λn s'=>∃i aE H',Inv X pins aE H' s'/\tn i s'.heap/\(∀b∈fp,H' b=none)/\W i n aE H') ?_ m0 ⟨0,σ,H2,I2,st2,λb hb=>(f2 b hb).1,w0⟩;rintro n s3 ⟨i,qb,H3,I3,st3,w4,w3⟩;rcases turn i n qb H3 w3 with ⟨stop,qn⟩|⟨go,N,hN,step⟩
 .refine wpAny_passesOwn hp (aX (T.done X rfl rfl rfl hc i pins s3 qb H3 X.xe I3 (stat w4) st3 stop) λr s4 zq=>?_);obtain⟨hr,I4⟩:=zq;subst hr;exact wpAny_execs_nil ⟨qb,H3,I4,qn⟩
 .refine wpAny_passesOwn hp (aX (T.item X rfl rfl rfl hc i pins s3 qb H3 X.xe I3 (stat w4) st3 go) λr s4 zq=>?_);obtain⟨u,hr,h4⟩:=zq;subst hr;refine wpAny_passesOwn hp (aX h4 λ_ s5 zq=>?_);obtain⟨x,H5,I5,r5,y5,jO,DU⟩:=zq;have RD:=I5.pinned (stat DU) (T.obj _ _ jO);refine wpAny_passesOwn hp (aX (hg _ s5 qb H5 x u _ RD r5 (step x H5 y5)) λ_ s6 zq=>?_);obtain⟨jP,H6,I6,q6⟩:=zq;refine wpAny_passesOwn hp (aX (hb _ s6 jP H6 _ I6 q6) λf s7 q7=>?_)
  have again:∀{oG:St}{H7:Hp},Inv X (pins++wZ fp s5.heap) oG H7 s7->N oG H7->∃m,m<n/\∃i aE H',Inv X pins aE H' s7/\tn i s7.heap/\(∀b∈fp,H' b=none)/\W i m aE H':=λ{oG H7} I7 n7=>by obtain⟨m',hm,w7⟩:=hN oG H7 n7;refine⟨m',hm,i+1,oG,H7,I7.fU,T.keep _ _ _ jO λb hb o e=>(I7.pin (b,o) εI).1,λb hb=>?_,w7⟩;obtain⟨o,e,d⟩:=T.obj _ _ jO b hb;exact(I7.pin (b,o) εI).2.1
  cases f with
  |next=>obtain⟨oG,H7,I7,n7⟩:=q7;exact again I7 n7
  |cont=>obtain⟨oG,H7,I7,n7⟩:=q7;exact again I7 n7
  |brk=>obtain⟨oG,H7,I7,q7⟩:=q7;exact⟨oG,H7,I7.fU,q7⟩
  |ret v=>obtain⟨x7,oG,H7,I7,r7,q7⟩:=q7;exact⟨x7,oG,H7,I7.fU,r7,q7⟩
end
abbrev R2:=V->V->Hp->VK->Prop
def cK(X:Cx)(f:Value->Value->Sem Value)(r:R2):Prop:=
 ∀(pins:W1) (s:Shared) (σ:St) (H:Hp) (x y:V) (v u:Value) (Q:VK),Inv X pins σ H s->RelV x v->RelV y u->r x y H Q ->
  wpAny ζ X.A (f v u) γT X.xe s
def DV(X:Cx)(f:Value->Sem Value)(r:V->Hp->VK->Prop):Prop:=
 ∀(pins:W1) (s:Shared) (σ:St) (H:Hp) (x:V) (v:Value) (Q:VK),Inv X pins σ H s->RelV x v->r x H Q ->
  wpAny ζ X.A (f v) γT X.xe s
def aM(X:Cx)(f:Value)(r:List V->Hp->VK->Prop):Prop:=
 ∀(pins:W1) (s:Shared) (σ:St) (H:Hp) (xs:γv) (us:v4) (Q:VK),Inv X pins σ H s->Vals xs us->r xs H Q ->
  wpAny ζ X.A (call f us) γT X.xe s
def w5(r:R2)(ta tb:TE):TE:=λσ H Q=>ta σ H λx H1=>tb σ H1 λy H2=>r x y H2 Q
def RE(r:V->Hp->VK->Prop)(ta:TE):TE:=λσ H Q=>ta σ H λx H1=>r x H1 Q
def rI(C:Int->Int->Prop)(g:Int->Int->V):R2:=λx y H Q=>∃i j,x=.int i/\y=.int j/\C i j/\Q ε8 H
def m3(g:Int->Int->V):R2:=λx y H Q=>∃i j,x=.int i/\y=.int j/\Q ε8 H
def rU(g:Int->V):V->Hp->VK->Prop:=λx H Q=>∃i,x=.int i/\Q (g i) H
section
variable{X:Cx}{a b c:Expr}{ta tb tc:TE}{pos:Pos}
def DW(ha:εW)(hb:ηL){pins:W1}{s:Shared}{σ:St}{H:Hp}{R:V->V->Hp->Prop}(I:δ)
 (h:ta σ H λx H1=>tb σ H1 λy H2=>R x y H2) {Q:T0}{f:Value->Value->Sem Value}
 (hf:∀v u s2 x y H2,Inv X pins σ H2 s2->RelV x v->RelV y u->R x y H2->wpAny ζ X.A (f v u) Q X.xe s2) :
 wpAny ζ X.A (eval a X.env) (λv aF=>wpAny ζ X.A (eval b X.env) (λu DX=>wpAny ζ X.A (f v u) Q X.xe DX) X.xe aF) X.xe s:=by refine aX γB λv s1 zq=>?_;obtain⟨x,H1,I1,r1,q1⟩:=zq;refine aX εD λu s2 zq=>?_;obtain⟨y,H2,I2,r2,q2⟩:=zq;exact hf v u s2 x y H2 I2 r1 r2 q2
def RF{op:Operator}{r:R2}(ho:cK X (binaryOp op) r)(ha:εW)(hb:ηL):PE X (.BinOp a op b pos) η7:=by intro pins s σ H Q I h;exact wpAny_BinOp (DW ha hb I h λv u s2 x y H2 I2 rx ry q=>ho pins s2 σ H2 x y v u Q I2 rx ry q)
def RG(ho:DV X (unaryOp op) r)(ha:εW):PE X (.UnaryOp op a pos) (RE r ta):=by intro pins s σ H Q I h;exact UnaryOp_ (aX γB λv s1 ⟨x,H1,I1,r1,q1⟩=>ho pins s1 σ H1 x v Q I1 r1 q1)
def AF{f:Value->Value->Sem Value}{C:Int->Int->Prop}{g:Int->Int->Int}
 (rule:∀(i j:Int) (t u:Tok) (s:Shared) (Q:T0) (E:T0),C i j->Q (.int ε8 s.toks) {s with toks:=s.toks+1}->wpAny ζ X.A ηn Q E s) :
 cK X f (rI C λi j=>.int ε8):=by intro pins s σ H x y v u Q I rx ry h;obtain⟨i,j,rfl,rfl,hc,q⟩:=h;obtain⟨t,rfl⟩:=rx;obtain⟨t',rfl⟩:=ry;exact rule i j t t' s _ _ hc ⟨.int ε8,H,I.tok _,⟨_,rfl⟩,q⟩
def RH{f:Value->Value->Sem Value}{g:Int->Int->Int}
 (rule:∀(i j:Int) (t u:Tok) (s:Shared) (Q:T0) (E:T0),Q (.int ε8 s.toks) {s with toks:=s.toks+1}->wpAny ζ X.A ηn Q E s) :
 cK X f (m3 λi j=>.int ε8):=by intro pins s σ H x y v u Q I rx ry h;obtain⟨i,j,rfl,rfl,q⟩:=h;obtain⟨t,rfl⟩:=rx;obtain⟨t',rfl⟩:=ry;exact rule i j t t' s _ _ ⟨.int ε8,H,I.tok _,⟨_,rfl⟩,q⟩
def AG{f:Value->Value->Sem Value}{g:Int->Int->Bool}
 (rule:∀(i j:Int) (t u:Tok) (s:Shared) (Q:T0) (E:T0),Q (.bool ε8) s->wpAny ζ X.A ηn Q E s) :
 cK X f (m3 λi j=>.bl ε8):=by intro pins s σ H x y v u Q I rx ry h;obtain⟨i,j,rfl,rfl,q⟩:=h;obtain⟨t,rfl⟩:=rx;obtain⟨t',rfl⟩:=ry;exact rule i j t t' s _ _ ⟨.bl ε8,H,I,rfl,q⟩
noncomputable def Js(i j:Int):Prop:=0<j/\j<1073741824
noncomputable def Jt(i j:Int):Prop:=0<=j/\j<=1000000/\i.natAbs<2 ^ 64
noncomputable def m4(i j:Int):Prop:=(-(2 ^ 64)<i/\i<2 ^ 64)\/(-(2 ^ 64)<j/\j<2 ^ 64)
def m4.ok(h:m4 i j):IntMulOk i j:=by
 rcases h with ⟨h1,h2⟩|⟨h1,h2⟩
 .exact .of_left (intBits_le_64 h1 h2)
 .exact .of_right (intBits_le_64 h1 h2)
def tM:cK X ε9 (m3 λi j=>.int (i+j)):=RH λ_ _ _ _ _ _ _ q=>add_int q
def w6:cK X (binaryOp .Mult) (rI m4 λi j=>.int (i*j)):=AF λ_ _ _ _ _ _ _ hc q=>mul_int q hc.ok
def Ju:cK X (binaryOp .FloorDiv) (rI Js λi j=>.int (i/j)):=AF λi j _ _ _ _ _ hc q=>by have h1:(0:Int)<j:=hc.1;have h2:j<1073741824:=hc.2;exact floordiv_int ω (by rw[Int.fdiv_eq_ediv_of_nonneg i ω];exact q) (.inl (PyProof.noPylong_small ω))
def qE:cK X (binaryOp .Mod) (rI (λ_ j=>0<j) λi j=>.int (i % j)):=AF λi j _ _ _ _ _ hc q=>by have h1:(0:Int)<j:=hc;exact mod_int' ω (by rw[Int.fmod_eq_emod_of_nonneg i ω];exact q)
def Jv:cK X (binaryOp .Pow) (rI Jt λi j=>.int (i ^ j.toNat)):=AF λ_ _ _ _ _ _ _ hc q=>pow_int_small hc.1 hc.2.1 hc.2.2 q
def RI{f:Value->Sem Value}{g:Int->Int}
 (rule:∀(i:Int) (t:Tok) (s:Shared) (Q:T0) (E:T0),Q (.int (g i) s.toks) {s with toks:=s.toks+1}->wpAny ζ X.A (f (.int i t)) Q E s) :
 DV X f (rU λi=>.int (g i)):=by intro pins s σ H x v Q I rx h;obtain⟨i,rfl,q⟩:=h;obtain⟨t,rfl⟩:=rx;exact rule i t s _ _ ⟨.int (g i),H,I.tok _,⟨_,rfl⟩,q⟩
def RJ:DV X (unaryOp .USub) (rU λi=>.int (-i)):=RI λ_ _ _ _ _ q=>neg_int q
end
noncomputable def Jw:V->V->Bool
 |.aq,.aq=>true|.aq,.int _=>true|.int _,.aq=>true|.aq,.bl _=>true|.bl _,.aq=>true|.aq,.str _=>true|.str _,.aq=>true
 |.int _,.int _=>true|.bl _,.bl _=>true|.str _,.str _=>true|.nM _,.nM _=>true
 |.int _,.str _=>true|.str _,.int _=>true|.bl _,.str _=>true|.str _,.bl _=>true
 |_,_=>false
def Jx:R2:=λx y H Q=>Jw x y=true/\Q (.bl (decide (x=y))) H
def Jy:R2:=λx y H Q=>Jw x y=true/\Q (.bl (!decide (x=y))) H
def Jz:decide (V.int i=V.int j)=(i == j):=by rw[Bool.eq_iff_iff];simp
def JA:decide (V.bl i=V.bl j)=(i == j):=by rw[Bool.eq_iff_iff];simp
def JB:decide (V.str i=V.str j)=(i == j):=by rw[Bool.eq_iff_iff];simp
def JC:decide (V.nM i=V.nM j)=(i.toList == j.toList):=by rw[Bool.eq_iff_iff];cases i;cases j;simp
section
variable{X:Cx}{a b c:Expr}{ta tb tc:TE}{pos:Pos}
def fC{pins:W1}{σ:St}{H:Hp}{s:Shared}{Q:VK}{k k':Bool}(I:δ)(q:Q (.bl k) H)(e:k=k'):EP X pins σ Q (.bool k') s:=by subst e;exact⟨.bl k,H,I,rfl,q⟩
def op_eq:cK X (compareOp .Eq) Jx:=by
 intro pins s σ H x y v u Q I rx ry h;obtain⟨hs,q⟩:=h;cases x with
 |aq =>
   cases rx;cases y with
   |aq=>cases ry;exact PySem.EqNone.eq_none_none (fC I q (by simp))
   |bl j=>cases ry;exact PySem.EqNone.eq_none_bool (fC I q (by simp))
   |int j=>obtain⟨t',rfl⟩:=ry;exact PySem.EqNone.eq_none_int (fC I q (by simp))
   |str j=>obtain⟨t',rfl⟩:=ry;exact PySem.EqNone.eq_none_str (fC I q (by simp))
   |_=>exact absurd (show false=true from hs) qat
 |bl i =>
   cases rx;cases y with
   |aq=>cases ry;exact PySem.EqNone.eq_bool_none (fC I q (by simp))
   |bl j=>cases ry;exact eq_bool (fC I q JA)
   |str j=>obtain⟨t',rfl⟩:=ry;exact PySem.EqMixed.eq_bool_str (fC I q (by simp))
   |_=>exact absurd (show false=true from hs) qat
 |int i =>
   obtain⟨t,rfl⟩:=rx;cases y with
   |aq=>cases ry;exact PySem.EqNone.eq_int_none (fC I q (by simp))
   |int j=>obtain⟨t',rfl⟩:=ry;exact eq_int (fC I q Jz)
   |str j=>obtain⟨t',rfl⟩:=ry;exact PySem.EqMixed.eq_int_str (fC I q (by simp))
   |_=>exact absurd (show false=true from hs) qat
 |str i =>
   obtain⟨t,rfl⟩:=rx;cases y with
   |aq=>cases ry;exact PySem.EqNone.eq_str_none (fC I q (by simp))
   |bl j=>cases ry;exact PySem.EqMixed.eq_str_bool (fC I q (by simp))
   |int j=>obtain⟨t',rfl⟩:=ry;exact PySem.EqMixed.eq_str_int (fC I q (by simp))
   |str j=>obtain⟨t',rfl⟩:=ry;exact eq_str (fC I q JB)
   |_=>exact absurd (show false=true from hs) qat
 |nM i =>
   obtain⟨t,rfl⟩:=rx;cases y with
   |nM j=>obtain⟨t',rfl⟩:=ry;exact W.eq_bytes (fC I q JC)
   |_=>exact absurd (show false=true from hs) qat
 |_=>cases y<;>exact absurd (show false=true from hs) qat
def RK:cK X ιi Jy:=by
 intro pins s σ H x y v u Q I rx ry h;obtain⟨hs,q⟩:=h;cases x with
 |aq =>
   cases rx;cases y with
   |aq=>cases ry;exact PySem.EqNone.ne_none_none (fC I q (by simp))
   |bl j=>cases ry;exact PySem.EqNone.ne_none_bool (fC I q (by simp))
   |int j=>obtain⟨t',rfl⟩:=ry;exact PySem.EqNone.ne_none_int (fC I q (by simp))
   |str j=>obtain⟨t',rfl⟩:=ry;exact PySem.EqNone.ne_none_str (fC I q (by simp))
   |_=>exact absurd (show false=true from hs) qat
 |bl i =>
   cases rx;cases y with
   |aq=>cases ry;exact PySem.EqNone.ne_bool_none (fC I q (by simp))
   |bl j=>cases ry;exact ne_bool (fC I q (congrArg not JA))
   |str j=>obtain⟨t',rfl⟩:=ry;exact PySem.EqMixed.ne_bool_str (fC I q (by simp))
   |_=>exact absurd (show false=true from hs) qat
 |int i =>
   obtain⟨t,rfl⟩:=rx;cases y with
   |aq=>cases ry;exact PySem.EqNone.ne_int_none (fC I q (by simp))
   |int j=>obtain⟨t',rfl⟩:=ry;exact ne_int (fC I q (congrArg not Jz))
   |str j=>obtain⟨t',rfl⟩:=ry;exact PySem.EqMixed.ne_int_str (fC I q (by simp))
   |_=>exact absurd (show false=true from hs) qat
 |str i =>
   obtain⟨t,rfl⟩:=rx;cases y with
   |aq=>cases ry;exact PySem.EqNone.ne_str_none (fC I q (by simp))
   |bl j=>cases ry;exact PySem.EqMixed.ne_str_bool (fC I q (by simp))
   |int j=>obtain⟨t',rfl⟩:=ry;exact PySem.EqMixed.ne_str_int (fC I q (by simp))
   |str j=>obtain⟨t',rfl⟩:=ry;exact ne_str (fC I q (congrArg not JB))
   |_=>exact absurd (show false=true from hs) qat
 |nM i =>
   obtain⟨t,rfl⟩:=rx;cases y with
   |nM j=>obtain⟨t',rfl⟩:=ry;exact W.ne_bytes (fC I q (congrArg not JC))
   |_=>exact absurd (show false=true from hs) qat
 |_=>cases y<;>exact absurd (show false=true from hs) qat
def u6:cK X (compareOp .Lt) (m3 λi j=>.bl (decide (i<j))):=AG λ_ _ _ _ _ _ _ q=>lt_int q
def JD:cK X (compareOp .LtE) (m3 λi j=>.bl (decide (i<=j))):=AG λ_ _ _ _ _ _ _ q=>le_int q
def oH:cK X (compareOp .Gt) (m3 λi j=>.bl (decide (j<i))):=AG λ_ _ _ _ _ _ _ q=>gt_int q
def RL:cK X (compareOp .GtE) (m3 λi j=>.bl (decide (j<=i))):=AG λ_ _ _ _ _ _ _ q=>ge_int q
def mw:cK X (compareOp .Is) (λx y H Q=>y=.aq/\Q (.bl (decide (x=.aq))) H):=by
 intro pins s σ H x y v u Q I rx ry h;obtain⟨rfl,q⟩:=h;cases ry;refine is_none_gen (fC I q ?_)
 cases x<;>first
  | (cases rx;rfl)
  | (obtain⟨t,rfl⟩:=rx;rfl)
def cK.or(h:cK X f r)(h':cK X f r'):cK X f (λx y H Q=>r x y H Q\/r' x y H Q):=by
 intro pins s σ H x y v u Q I rx ry q;rcases q with q|q
 .exact h pins s σ H x y v u Q I rx ry q
 .exact h' pins s σ H x y v u Q I rx ry q
def bq(b:Expr)(h:op≠.In:=by decide)(h2:op≠.NotIn:=by decide):behindInMarks op b=false:=by
 have e1:(op == CmpOp.In)=false:=by cases op<;>first|rfl|exact absurd rfl h
 have e2:(op == CmpOp.NotIn)=false:=by cases op<;>first|rfl|exact absurd rfl h2
 cases b<;>simp[behindInMarks,e1,e2]
def RM(ho:δe)(ha:εW)(hb:ηL)(hm:behindInMarks op b=false):PE X (.Compare a [op] [b] pos) η7:=by intro pins s σ H Q I h;exact wpAny_Compare1 (DW ha hb I h λv u s2 x y H2 I2 rx ry q=>ho pins s2 σ H2 x y v u Q I2 rx ry q) hm
def DY(t:TE):TT:=λσ H Q=>t σ H λx H'=>∃k,x=.bl k/\Q k H'
def RN(ho:δe)(ha:εW)(hb:ηL)(hm:behindInMarks op b=false):PT X (.Compare a [op] [b] pos) (DY η7):=by intro pins s σ H Q I h;refine wpAny_isTrue_Compare1 (aX γB λv s1 z1=>?_) hm;obtain⟨x,H1,I1,r1,q1⟩:=z1;refine aX εD λu s2 z2=>?_;obtain⟨y,H2,I2,r2,q2⟩:=z2;refine aX εr λc s3 z3=>?_;obtain⟨z,H3,I3,r3,k,e,q3⟩:=z3;subst e;cases r3;exact qby ⟨H3,I3,q3⟩
def DZ(r r':R2)(ta tb tc:TE):TE:=λσ H Q=>ta σ H λx H1=>tb σ H1 λy H2=>r x y H2 λz H3=>∃k,z=.bl k /\
 (if k=true then tc σ H3 λw' H4=>r' y w' H4 Q else Q ζA H3)
def RO(ho:δe)(ho':ζg)(ha:εW)(hb:ηL)(hc:PE X c tc)
 (hm:lastMarks [op,op'] [b,c]=false:=by with_unfolding_all rfl):PE X (.Compare a [op,op'] [b,c] pos) ιn:=by
 intro pins s σ H Q I h;refine Compare_chain (aX γB λv s1 z1=>?_) hm;obtain⟨x,H1,I1,r1,q1⟩:=z1;refine chain_link (aX εD λu s2 z2=>?_);obtain⟨y,H2,I2,r2,q2⟩:=z2;refine aX εr λd s3 z3=>?_;obtain⟨z,H3,I3,r3,k,e,q3⟩:=z3;subst e;cases r3;refine qby ?_;cases k with
 |false=>exact ite_ff ⟨.bl false,H3,I3,rfl,q3⟩
 |true=>exact ite_tt (chain_last (aX (hc pins s3 σ H3 _ I3 q3) λw' s4 ⟨z',H4,I4,r4,q4⟩=>ho' pins s4 σ H4 y z' u w' Q I4 r2 r4 q4))
def RP(ho:δe)(ho':ζg)(ha:εW)(hb:ηL)(hc:PE X c tc)
 (hm:lastMarks [op,op'] [b,c]=false:=by with_unfolding_all rfl):PT X (.Compare a [op,op'] [b,c] pos) (DY ιn):=by
 intro pins s σ H Q I h;refine isTrue_chain (aX γB λv s1 z1=>?_) hm;obtain⟨x,H1,I1,r1,q1⟩:=z1;refine test_link (aX εD λu s2 z2=>?_);obtain⟨y,H2,I2,r2,q2⟩:=z2;refine aX εr λd s3 z3=>?_;obtain⟨z,H3,I3,r3,k,e,q3⟩:=z3;subst e;cases r3;refine qby ?_;cases k with
 |false =>
   obtain⟨k',e',q'⟩:=q3;cases e';exact ite_ff ⟨H3,I3,q'⟩
 |true =>
   refine ite_tt (test_last (aX (hc pins s3 σ H3 _ I3 q3) λw' s4 zq=>?_));obtain⟨z',H4,I4,r4,q4⟩:=zq;refine aX (ho' pins s4 σ H4 y z' u w' _ I4 r2 r4 q4) λd' s5 zq=>?_;obtain⟨z2,H5,I5,r5,k2,e2,q5⟩:=zq;subst e2;cases r5;exact qby ⟨H5,I5,q5⟩
def w_:(sizeLine:Nat)<2 ^ 63:=by rw[sizeLine_eq];decide
def RQ:cK X ε9 (λx y H Q=>∃i j,x=.str i/\y=.str j/\i.length+j.length<=sizeLine/\Q (.str (i++j)) H):=by intro pins s σ H x y v u Q I rx ry h;obtain⟨i,j,rfl,rfl,hz,q⟩:=h;obtain⟨t,rfl⟩:=rx;obtain⟨t',rfl⟩:=ry;exact add_str (λt' tk=>⟨.str (i++j),H,I.tok _,⟨_,rfl⟩,q⟩) hz
def vals1(r:Vals [x] us):∃u,us=[u]/\RelV x u:=by
 cases r with
 |cons r1 r2=>cases r2;exact⟨_,rfl,r1⟩
def vals2(r:Vals [x,y] us):∃u w',us=[u,w']/\RelV x u/\RelV y w':=by
 cases r with
 |cons r1 r2 =>
   cases r2 with
   |cons r3 r4=>cases r4;exact⟨_,_,rfl,r1,r3⟩
def RR:aM X (.builtin "abs") (λxs H Q=>∃i,xs=[.int i]/\Q (.int (if i<0 then -i else i)) H):=by intro pins s σ H xs us Q I r h;obtain⟨i,rfl,q⟩:=h;obtain⟨u,rfl,t,rfl⟩:=vals1 r;exact call_abs_int λu tk=>⟨.int (if i<0 then -i else i),H,I.tok _,⟨_,rfl⟩,q⟩
def RS(hc:X.calm=true):aM X (.builtin "max") (λxs H Q=>∃i j,xs=[.int i,.int j]/\Q (.int (if j>i then j else i)) H):=by
 intro pins s σ H xs us Q I r h;obtain⟨i,j,rfl,q⟩:=h;obtain⟨u,w',rfl,⟨t,rfl⟩,⟨t',rfl⟩⟩:=vals2 r;refine max_two_ints δ8 λh' tk k=>⟨_,H,I.kept k,?_,q⟩;by_cases hj:j>i
 .rw[qaz hj,qaz hj];exact⟨_,rfl⟩
 .rw[qax hj,qax hj];exact⟨_,rfl⟩
def RT(hc:X.calm=true):aM X (.builtin "min") (λxs H Q=>∃i j,xs=[.int i,.int j]/\Q (.int (if j<i then j else i)) H):=by
 intro pins s σ H xs us Q I r h;obtain⟨i,j,rfl,q⟩:=h;obtain⟨u,w',rfl,⟨t,rfl⟩,⟨t',rfl⟩⟩:=vals2 r;refine min_two_ints δ8 λh' tk k=>⟨_,H,I.kept k,?_,q⟩;by_cases hj:j<i
 .rw[qaz hj,qaz hj];exact⟨_,rfl⟩
 .rw[qax hj,qax hj];exact⟨_,rfl⟩
def JE:aM X (.type "int") (λxs H Q=>(∃i,xs=[.int i]/\Q γ1 H)\/∃k,xs=[.bl k]/\Q (.int (if k then 1 else 0)) H):=by
 intro pins s σ H xs us Q I r h;rcases h with ⟨i,rfl,q⟩|⟨k,rfl,q⟩
 .obtain⟨u,rfl,t,rfl⟩:=vals1 r;exact call_int_int ⟨.int i,H,I,⟨_,rfl⟩,q⟩
 .obtain⟨u,rfl,r1⟩:=vals1 r;cases r1;exact call_int_bool ⟨.int (if k then 1 else 0),H,I.tok _,⟨_,rfl⟩,q⟩
def AH:aM X (.type "str") (λxs H Q=>∃i,xs=[.int i]/\i.natAbs.log2<1920/\Q εd H):=by intro pins s σ H xs us Q I r h;obtain⟨i,rfl,hz,q⟩:=h;obtain⟨u,rfl,t,rfl⟩:=vals1 r;exact PySem.P.str_of_int hz ⟨.str _,H,I.tok _,⟨_,rfl⟩,q⟩
end
structure lD(h:Heap)(x dx C:Addr)(mA:M2):Prop where
 obj:h.get? x=some (W.instObj C dx)
 ns:h.Ns1 dx mA
 ne:dx≠x
def gi{h:Heap}(n:h.Ns1 dx mA):∃od,h.get? dx=some od/\∀name,W.lookIn name od=some (mA name):=by
 obtain⟨o,es,ep,ho,hd,hk,_,hm⟩:=n;refine⟨o,ho,λname=>?_⟩;have e:=hm name;unfold nsFind findBy at e;rw[<-Array.find?_toList]at e;unfold W.lookIn;rw[hd];dsimp only;split
 .rename_i y q;rw[q]at e;exact congrArg some e
 .rename_i q;rw[q]at e
  have a:es.toList.any (·.refKey)=false:=by rw[List.any_eq_false];intro y hy;obtain⟨z,t,hkey⟩:=hk y (Array.mem_toList_iff.mp hy);simp[DictEntry.refKey,hkey]
  have a':¬es.toList.any (·.refKey)=true:=by rw[a];exact qat
  rw[qax a'];exact congrArg some e
def lD.look(I:lD h x dx C mA):∃od,W.InstAt h x (W.instObj C dx) C (some od)/\∀name,W.lookIn name od=some (mA name):=
 let ⟨od,ho,hl⟩:=gi I.ns
 ⟨od,⟨I.obj,rfl,rfl,ho⟩,hl⟩
section
variable{prog:Program}{w:World}{A:Around}{E:T0}{s:Shared}{K:zze}{x dx C f:Addr}{mA:M2}{name:Str}{v:Value}
def RU(X:δL)(I:ιd)(hg:W.plainGet K C name=true)(hh:W.hasDictIn K C=true)
 (ha:W.findIn K γb name=some none) (hv:mA name=some v) (hv':W.handedIn v=true) (h:Q v {s with toks:=s.toks+1}) :
 wpAny ε A (getAttr δH name expr) Q E s:=by obtain⟨od,J,hl⟩:=I.look;exact W.get_value X J (W.plainGet_of hg).1 (W.findObj_own hh ha rfl (by rw[hl,hv])) hv' h
def RW(X:δL)(I:ιd)(hg:W.plainGet K C name=true)
 (hf:W.findIn K γb name=some (some γ0)) (ht:W.isFn K γ0=true) (hv:mA name=none) (h:Q (.ref f,[.ref x]) s) :
 wpAny ε A (getMethod δH name pl) Q E s:=by obtain⟨od,J,hl⟩:=I.look;exact W.method_fn X J (W.plainGet_of hg).1 (W.plainGet_of hg).2 hf (qau.mp ht) (by show(W.lookIn name od).map (·.isSome)=some false;rw[hl,hv];rfl) h
def RX(X:δL)(I:ιd)
 (hs:W.findIn K γb "__setattr__" = some (some (.builtin "object.__setattr__"))) (hp:W.plainOver K C=true) (ht:W.takerIn K C name=some none) (hh:W.hasDictIn K C=true)
 (hw:PySem.Within mA ns) (hsz:ns.length<=sizeLine)
 (h:∀h',lD h' x dx C (λy=>if y=name then some v else mA y)->Heap.SameBut dx s.heap h'->Q () {s with heap:=h',toks:=s.toks+2}) :
 wpAny ε A (setAttr δH name v) Q E s:=by obtain⟨od,J,hl⟩:=I.look;refine W.set_plain X J hs (W.osa_open (s:={s with toks:=s.toks+1}) (r:=none) X J hp ht λb=>?_);obtain⟨cd,hc,hd'⟩:=W.any_some hh;have hx:s.heap.get? x=some ⟨.ref C,some dx,.plain, #[]⟩:=I.obj;refine qaa (qad (qaa (qaa (wpAny_loadPart hx (qaa (W.Looks.here (s:={s with toks:=s.toks+1}) (W.looks_clsIn X hc) ?_))))));rw[hd'];refine qad (a:=some dx) (qaa (qad (qaa ?_)));refine wpAny_nsSet1 (s:={s with toks:=s.toks+1}) I.ns λh' hn2 hs2=>?_;obtain⟨oD,esD,epD,hoD,hdD,hcD⟩:=hn2.count (PySem.Within.cons name v hw);refine qaa (wpAny_lookBehind hoD (by rw[hdD];exact pastItsLine_dict (qaJ hcD (by rw[qaW];omega))) ?_);exact qad (h _ ⟨(hs2.2 _ (qa5 I.ne)).trans I.obj,hn2,I.ne⟩ hs2)
def RY(X:δL)(hm:W.makesIn K C=true)
 (hi:W.findIn K γb "__init__" = some (some γ0)) (hf:W.typeIn K γ0=some (.type "function"))
 (h:codeAny ε (A.under (.builtin "type.__call__" ⟨.ref C::vs,kw⟩)) (.call γ0 ⟨.ref (s.heap.objs.size+1)::vs,kw⟩) (W.InitBack (s.heap.objs.size+1) R)
  {s with heap:=(s.heap.push W.emptyDict).push δ7}) :
 codeAny ε A (.call γb ⟨vs,kw⟩) R s:=by obtain⟨hh,g,d,t,os⟩:=s;exact W.make_core (W.makes_of X hm) (W.looks_findIn X hi) (λself=>W.bind_fn X self hf) γJ h
end
noncomputable def jQ(f:Str)(v:V):List (Str×V)->List (Str×V)
 |[]=>[(f,v)]
 | (g,x)::r=>if g=f then (g,v)::r else (g,x)::jQ f v r
theorem D0(f g:Str)(v:V):∀fs:List (Str×V),(jQ f v fs).lookup g=if g=f then some v else fs.lookup g
 |[]=>by
   show List.lookup g [(f,v)]=_;by_cases h:g=f
   .have hb:(g == f)=true:=qau.mpr h;simp only[List.lookup,hb,if_pos h]
   .have hb:(g == f)=false:=beq_eq_false_iff_ne.mpr h;simp only[List.lookup,hb,if_neg h]
 | (k,x)::r=>by
   have ih:=D0 f g v r;rw[show jQ f v ((k,x)::r)=(if k=f then (k,v)::r else (k,x)::jQ f v r) from rfl];by_cases hk:k=f
   .rw[qaz hk];by_cases h:g=k
    .have hb:(g == k)=true:=qau.mpr h;simp only[List.lookup,hb,if_pos (h.trans hk)]
    .have hb:(g == k)=false:=beq_eq_false_iff_ne.mpr h;simp only[List.lookup,hb,if_neg (λe:g=f=>h (e.trans hk.symm))]
   .rw[qax hk];by_cases h:g=k
    .have hb:(g == k)=true:=qau.mpr h;simp only[List.lookup,hb,if_neg (λe:g=f=>hk (h.symm.trans e))]
    .have hb:(g == k)=false:=beq_eq_false_iff_ne.mpr h;simp only[List.lookup,hb];exact ih
theorem xa(f:Str)(v:V):∀fs:List (Str×V),f∈(jQ f v fs).map (·.1)/\∀g,g∈fs.map (·.1)->g∈(jQ f v fs).map (·.1)
 |[]=>⟨by simp[jQ],λg h=>by simp at h⟩
 | (k,x)::r=>by
   obtain⟨i1,i2⟩:=xa f v r;rw[show jQ f v ((k,x)::r)=(if k=f then (k,v)::r else (k,x)::jQ f v r) from rfl];by_cases hk:k=f
   .rw[qaz hk];subst hk;exact⟨by simp,λg h=>by simpa using h⟩
   .rw[qax hk];refine⟨?_,λg h=>?_⟩
    .rw[qaP];exact qaf _ i1
    .rw[qaP]at h ⊢;rcases qav.mp h with e|e
     .exact qav.mpr (.inl e)
     .exact qaf _ (i2 g e)
theorem JF(f:Str)(v:V):∀fs:List (Str×V),(jQ f v fs).length<=fs.length+1
 |[]=>by simp[jQ]
 | (k,x)::r=>by
   have ih:=JF f v r;rw[show jQ f v ((k,x)::r)=(if k=f then (k,v)::r else (k,x)::jQ f v r) from rfl];by_cases hk:k=f
   .rw[qaz hk,qaW,qaW];omega
   .rw[qax hk,qaW,qaW];omega
def eU.some_of(r:eU δR o):∃u,o=some u/\RelV v u:=by
 cases o with
 |none=>exact(show False from r).elim
 |some u=>exact⟨u,rfl,r⟩
def eU.none_of(r:eU none o):o=none:=by
 cases o with
 |none=>rfl
 |some u=>exact(show False from r).elim
def JG(r:RelV v u):W.handedIn u=true:=by
 cases v with
 |aq=>cases (show u=Value.none from r);rfl
 |bl b=>cases (show u=Value.bool b from r);rfl
 |int i=>obtain⟨t,e⟩:=(show ∃t,u=Value.int i t from r);cases e;rfl
 |str x=>obtain⟨t,e⟩:=(show ∃t,u=Value.str x t from r);cases e;rfl
 |nM b=>obtain⟨t,e⟩:=(show ∃t,u=Value.bytes b t from r);cases e;rfl
 |flt b=>obtain⟨t,e⟩:=(show ∃t,u=Value.float b t from r);cases e;rfl
 |ref a=>cases (show u=Value.ref a from r);rfl
 |ty n=>cases (show u=Value.type n from r);rfl
section
variable{P:Program}{w:World}{H H':Hp}{h h':Heap}{a C dx:Addr}{fs fs':List (Str×V)}
def xb(hok:δG)(e:H a=some εm):∃mA,lD h a dx C mA/\(∀f,eU ζV (mA f))/\PySem.Within mA (fs.map (·.1))/\fs.length<=1000/\H dx=some (.own a):=by obtain⟨d,z,ne,ob,mA,n,r,q⟩:=(show aI P w H h a εm from hok a _ e);exact⟨mA,⟨ob,n,ne⟩,r,q,z,d⟩
end
structure k7(K:zze)(C:Addr):Prop where
 pg:W.plainGet K C Str.empty=true
 hd:W.hasDictIn K C=true
 po:W.plainOver K C=true
 sa:W.findIn K γb "__setattr__" = some (some (.builtin "object.__setattr__"))
def k7.get{K:zze}{C:Addr}(c:k7 K C)(f:Str):W.plainGet K C f=true:=c.pg
def a9(K:zze)(C:Addr)(f:Str):Prop:=W.findIn K γb f=some none
def a9.taker{K:zze}{C:Addr}{f:Str}(n:a9 K C f):W.takerIn K C f=some none:=by unfold W.takerIn;rw[show W.findIn K γb f=some none from n];rfl
structure Meth(K:zze)(C:Addr)(m:Str)(f:Addr):Prop where
 at_:W.findIn K γb m=some (some γ0)
 fn:W.isFn K γ0=true
 kp:W.keepIn K γ0=true
section
variable{X:Cx}{pins:W1}{σ:St}{H:Hp}{s:Shared}{a C dx:Addr}{fs:List (Str×V)}{f:Str}{v:V}{A:Around}{E:T0}
def RZ(I:δ)(e:H a=some εm)(c:k7 X.K C)(n:a9 X.K C f)(l:fs.lookup f=some v)
 (h:∀u s',Inv X pins σ H s'->RelV v u->Q u s'):wpAny ζ A (getAttr γz f b) Q E s:=by obtain⟨mA,O,r,_,_,_⟩:=xb I.hok e;obtain⟨u,hu,ru⟩:=eU.some_of (v:=v) (o:=mA f) (by rw[<-l];exact r f);exact RU I.cf O (c.get f) c.hd n hu (JG ru) (h u _ (I.tok _) ru)
def R9(I:δ)(e:H a=some εm)(c:k7 X.K C)(k:Meth X.K C m g)(l:fs.lookup m=none)
 (h:Q (.ref g,[.ref a]) s):wpAny ζ A (getMethod γz m pl) Q E s:=by obtain⟨mA,O,r,_,_,_⟩:=xb I.hok e;have hn:mA m=none:=eU.none_of (by rw[<-l];exact r m);exact RW I.cf O (c.get m) k.at_ k.fn hn h
def R_(I:δ)(e:H a=some εm)(c:k7 X.K C)(n:a9 X.K C f)(hl:fs.length<1000)(ry:RelV y u)
 (h:∀s',Inv X pins σ (upd H a (.ins C dx (jQ f y fs))) s'->Q () s'):wpAny ζ A (setAttr γz f u) Q E s:=by
 obtain⟨mA,O,r,wi,_,ho⟩:=xb I.hok e;have hz:(fs.map (·.1)).length<=sizeLine:=by rw[qag,sizeLine_eq];omega
 refine RX I.cf O c.sa c.po n.taker c.hd wi hz λh' O' sb=>h _ ?_;have hd:∃o,h'.get? dx=some o:=let ⟨o,_,_,e',_⟩:=O'.ns; ⟨o,e'⟩;refine I.write (x:=a) (e:=dx) (by rw[e];exact True.intro) (.inr ho) (λb q hb z=>(sb.2 b hb).trans z) hd ?_;refine⟨by rw[bA O.ne];exact ho,?_,O.ne,O'.obj,_,O'.ns,λg=>?_,λg hg=>?_⟩
 .have:=JF f y fs;omega
 .show eU ((jQ f y fs).lookup g) (if g=f then some u else mA g);rw[D0];by_cases q:g=f
  .rw[qaz q,qaz q];exact ry
  .rw[qax q,qax q];exact r g
 .by_cases q:g=f
  .rw[q];exact(xa f y fs).1
  .refine(xa f y fs).2 g (wi g λz=>hg ?_);show(if g=f then some u else mA g)=none;rw[qax q];exact z
def Inv.made(I:δ):Inv X pins σ (upd (upd H s.heap.objs.size (.own (s.heap.objs.size+1))) (s.heap.objs.size+1) (.ins C s.heap.objs.size []))
 {s with heap:=(s.heap.push W.emptyDict).push δ7}:=by
 have e1:(s.heap.push W.emptyDict).get? s.heap.objs.size=some W.emptyDict:=qar s.heap rfl
 have e2:((s.heap.push W.emptyDict).push δ7).get? (s.heap.objs.size+1)=some δ7:=by have:=qar (s.heap.push W.emptyDict) (o:=W.instObj C s.heap.objs.size) rfl;rwa[Heap.size_push]at this
 have e3:(s.heap.push W.emptyDict).Ns s.heap.objs.size (λ_=>none):=⟨W.emptyDict, #[],_,e1,rfl,(λe he=>absurd he (by simp)),λ_=>rfl⟩;have I1:=I.laid (a:=s.heap.objs.size) (o:=.own (s.heap.objs.size+1)) (h':=s.heap.push W.emptyDict) (t':=s.toks) (λb u q=>qab _ q) γI ⟨_,e1⟩;refine I1.laid (a:=s.heap.objs.size+1) (o:=.ins C s.heap.objs.size []) (t':=s.toks) (λb u q=>qab _ q) (Nat.le_of_eq (Heap.size_push _ _)) ?_;have ne:s.heap.objs.size≠s.heap.objs.size+1:=qan (qbU _);refine⟨by rw[bA ne,fS],qaZ _,ne,e2,λ_=>none,(Heap.Ns1.of_empty e3).at λo q=>qab _ q,λ_=>True.intro,λy hy=>absurd rfl hy⟩
def JH(hb:attributeBase e f env (eval e env)=eval e env)
 (h:wpAny ε A (eval e env) (λo aF=>wpAny ε A (getAttr o f true) Q E aF) E s):wpAny ε A (eval θK env) Q E s:=
 Attribute_any_ h (by rw[arm_eval_Attribute,hb])
end
def Sa(K:zze)(ta:TE)(f:Str):TE:=λσ H Q=>ta σ H λx H1=>∃a C dx fs v,x=.ref a/\H1 a=some εm/\k7 K C/\a9 K C f/\fs.lookup f=some v/\Q v H1
def Sb(K:zze)(ta tv:TE)(f:Str):TS:=λD σ H=>tv σ H λy H1=>ta σ H1 λx H2=>∃a C dx fs,x=.ref a/\H2 a=some εm/\k7 K C/\a9 K C f/\fs.length<1000 /\
 D.nx σ (upd H2 a (.ins C dx (jQ f y fs)))
section
variable{X:Cx}{o e value:Expr}{f:Str}{pos pos' tpos:Pos}{ta tv:TE}
def Sd(he:PE X e ta)(hb:attributeBase e f X.env εK=eval e X.env):PE X θK (Sa X.K ta f):=by intro pins s σ H Q I h;refine JH hb (aX δb λu s1 zq=>?_);obtain⟨x,H1,I1,rx,a,C,dx,fs,v,ex,ea,c,n,l,q⟩:=zq;subst ex;obtain rfl:u=Value.ref a:=rx;exact RZ I1 ea c n l λu' s2 I2 ru=>⟨v,H1,I2,ru,q⟩
def Se(ha:PE X o ta)(hv:PE X value tv)(hs:swapsWith value (some (.Attribute o f pos')) pos.line X.env=pure false):PS X (.Assign [.Attribute o f pos'] value pos) (Sb X.K ta tv f):=by intro pins s σ H D I h;refine plainObj_wpAny_Assign_Attribute (aX (hv pins s σ H _ I h) λu s1 zq=>?_) hs;obtain⟨y,H1,I1,ry,q⟩:=zq;refine aX (ha pins s1 σ H1 _ I1 q) λov s2 zq=>?_;obtain⟨x,H2,I2,rx,a,C,dx,fs,ex,ea,c,n,l,q2⟩:=zq;subst ex;obtain rfl:ov=Value.ref a:=rx;exact R_ I2 ea c n l ry λs3 I3=>⟨σ,_,I3,q2⟩
end
section
variable{X:Cx}{pins:W1}{σ:St}{H:Hp}{s:Shared}{A:Around}{E:T0}{Q:T0}{c:Value}{b:Bool}
inductive eW(K:zze)(H:Hp):V->Value->Prop where
 |aq:eW K H .aq (.type "NoneType")
 |bl (x:Bool):eW K H (.bl x) (.type "bool")
 |int (i:Int):eW K H (.int i) (.type "int")
 |str (x:Str):eW K H (.str x) (.type "str")
 |flt (x:UInt64):eW K H (.flt x) (.type "float")
 |lst {a:Addr}{xs:γv} (e:H a=some (.lst xs)):eW K H (.ref a) (.type "list")
 |ae {a:Addr}{o:Obj}{xs:γv} (e:H a=some (.ae o (.lst xs))):eW K H (.ref a) (.type "list")
 |tup {a:Addr}{xs:γv} (e:H a=some (.tup xs)):eW K H (.ref a) (.type "tuple")
 |dK {a:Addr}{kvs:List (Key×V)} (e:H a=some (.dK kvs)):eW K H (.ref a) (.type "dict")
 |dT {a:Addr}{kvs:List (List Key×V)} (e:H a=some (.dT kvs)):eW K H (.ref a) (.type "dict")
 |ins {a C dx:Addr}{fs:List (Str×V)} (e:H a=some (.ins C dx fs)) (cl:k7 K C) (ha:W.findIn K (.ref C) "__class__" = some (some (.builtin "object.__class__")))
  (hn:W.specialIn K (.builtin "object.__class__") "__get__" = some (some (.builtin "getset_descriptor.__get__"))) (htk:W.takesIn K (.builtin "object.__class__")=some true)
  (hm:W.mroIn K C (.type "object")=some true):eW K H γz γb
def Sf(I:δ)(rx:RelV x u)(ty:eW X.K H x t)(e:W.kitOne X.K t c=some b)(h:∀tk,Q (.bool b) {s with toks:=tk}) :
 wpAny ζ A (call (.builtin "isinstance") [u,c]) Q E s:=by
 cases ty with
 |aq=>cases (show u=Value.none from rx);exact W.kia_one W.kitx_none I.cf True.intro e (λz=>nomatch z) h
 |bl y=>cases (show u=Value.bool y from rx);exact W.kia_one W.kitx_bool I.cf True.intro e (λz=>nomatch z) h
 |int i=>obtain⟨t,q⟩:=(show ∃t,u=Value.int i t from rx);cases q;exact W.kia_one W.kitx_int I.cf True.intro e (λz=>nomatch z) h
 |str y=>obtain⟨t,q⟩:=(show ∃t,u=Value.str y t from rx);cases q;exact W.kia_one W.kitx_str I.cf True.intro e (λz=>nomatch z) h
 |flt y=>obtain⟨t,q⟩:=(show ∃t,u=Value.float y t from rx);cases q;exact W.kia_one W.kitx_float I.cf True.intro e (λz=>nomatch z) h
 | @lst a xs ea =>
   cases (show u=Value.ref a from rx);obtain⟨_,_,n,_,h1⟩:=(show aI X.prog X.w H s.heap a γh from I.hok a _ ea);exact W.kia_one W.kitx_list I.cf ⟨_,h1,rfl⟩ e (λz=>nomatch z) h
 | @ae a ob xs ea =>
   cases (show u=Value.ref a from rx);obtain⟨_,_,_,n,_,h1⟩:=(show aI X.prog X.w H s.heap a (.ae ob γh) from I.hok a _ ea);exact W.kia_one W.kitx_list I.cf ⟨_,h1,rfl⟩ e (λz=>nomatch z) h
 | @tup a xs ea =>
   cases (show u=Value.ref a from rx);obtain⟨_,_,_,p⟩:=(show aI X.prog X.w H s.heap a γK from I.hok a _ ea);obtain⟨o,h1,h2,_⟩:=p;exact W.kia_one W.kitx_tuple I.cf ⟨o,h1,h2⟩ e (λz=>nomatch z) h
 | @dK a kvs ea =>
   cases (show u=Value.ref a from rx);obtain⟨_,_,vs,_,p⟩:=(show aI X.prog X.w H s.heap a (.dK kvs) from I.hok a _ ea);obtain⟨o,es,ep,h1,h2,_⟩:=p;exact W.kia_one W.kitx_dict I.cf ⟨o,h1,h2.1⟩ e (λz=>nomatch z) h
 | @dT a kvs ea =>
   cases (show u=Value.ref a from rx);obtain⟨_,_,xs,_,o,es,ep,h1,h2,_⟩:=(show aI X.prog X.w H s.heap a (.dT kvs) from I.hok a _ ea);exact W.kia_one W.kitx_dict I.cf ⟨o,h1,h2.1⟩ e (λz=>nomatch z) h
 | @ins a C dx fs ea cl ha hn htk hm =>
   cases (show u=Value.ref a from rx);obtain⟨mA,O,_⟩:=xb I.hok ea;obtain⟨od,J,_⟩:=O.look;exact W.kia_one ηV I.cf J e (λz=>nomatch z) h
end
structure aH(k:Nat)(A:Around):Prop where
 hd:A.handled=none
 dp:A.depth+3*k+5<recursionLimit
 un:A.units+16*k+200<cLine
 gd:A.guards=some []
def aH.mono(r:aH k A)(h:j<=k):aH j A:=⟨r.hd,by have:=r.dp;omega,by have:=r.un;omega,r.gd⟩
def aH.deeper(r:aH (k+1) A)(env:Env):aH k (A.deeper env):=
 ⟨r.hd,by have:=r.dp;show A.depth+1+3*k+5<_;omega,by have:=r.un;show A.units+3+16*k+200<_;omega,r.gd⟩
def Sg{A:Around}:(A.under (.builtin "type.__call__" ⟨.ref C::us,kw⟩)).depth=A.depth+1:=by first|rfl|simp[Around.under,Code.weight,Code.isCreation,Code.isGuard,Code.isCaller,Code.frames,Code.isFrame,guardIds]
def Sh{A:Around}:(A.under (.builtin "type.__call__" ⟨.ref C::us,kw⟩)).units=A.units+1:=by first|rfl|simp[Around.under,Code.cUnits,Code.frames,Code.isFrame]
def Si{A:Around}(h:A.guards=some []):(A.under (.builtin "type.__call__" ⟨.ref C::us,kw⟩)).guards=some []:=by show pushGuards (Code.guards (.builtin "type.__call__" ⟨.ref C::us,kw⟩)) A.guards=some [];rw[h];first|rfl| (simp[Code.guards,Code.isGuard,guardIds,pushGuards])
def aH.make(r:aH (k+1) A)(C:Addr)(us:v4)(kw:List (Str×Value)):aH k (A.under (.builtin "type.__call__" ⟨.ref C::us,kw⟩)):=
 ⟨r.hd,by have:=r.dp;rw[Sg];omega,by have:=r.un;rw[Sh];omega,Si r.gd⟩
def aH.depth(r:aH k A):A.depth<recursionLimit:=by have:=r.dp;omega
def aH.units(r:aH k A):A.units+64<cLine:=by have:=r.un;omega
def oI:TA:=λ_ H Q=>Q [] H
def j7(ta:TE)(tr:TA):TA:=λσ H Q=>ta σ H λx H1=>tr σ H1 λxs H2=>Q (x::xs) H2
section
variable{X:Cx}{e:Expr}{es:zza}{te:TE}{t:TA}{pos:Pos}
def qc:PA X [] oI:=λ_ _ _ _ H Q I h=>Calls.spliced_nil ⟨[],H,I,.nil,h⟩
def jR(ha:θD)(hr:PA X es t)(hs:starEach (e::es) X.env=(false,eval e X.env)::starEach es X.env:=by rfl):PA X (e::es) (j7 te t):=by intro pos pins s σ H Q I h;rw[hs];show wpAny _ _ (spliced ((false,eval e X.env)::backTo pos γl)) _ _ s;refine Calls.spliced_cons (aX γB λu s1 zq=>?_);obtain⟨x,H1,I1,r1,q1⟩:=zq;exact aX (hr pos pins s1 σ H1 _ I1 q1) λus s2 ⟨xs,H2,I2,r2,q2⟩=>⟨x::xs,H2,I2,.cons r1 r2,q2⟩
def D4(t:TA):TE:=λσ H Q=>t σ H λxs H1=>xs.length<=sizeLine/\∀p,H1 p=none->Q γO (upd H1 p γK)
def Sj(t:TA):TE:=λσ H Q=>t σ H λxs H1=>xs.length<=sizeLine/\∀p,H1 p=none->Q γO (upd H1 p γh)
def D5{x1}(h:PA X es t):PE X (.Tuple es x1 pos) (D4 t):=by intro pins s σ H Q I hq;refine wpAny_Tuple_spliced (aX (h pos pins s σ H _ I hq) λus s1 zq=>?_);obtain⟨xs,H1,I1,r,z,q⟩:=zq;refine⟨by rw[<-r.length];exact z,?_⟩;have hf:H1 s1.heap.objs.size=none:=I1.hok.fresh γI;refine⟨.ref s1.heap.objs.size,upd H1 s1.heap.objs.size γK,I1.laid (t':=s1.toks) (λb u e=>qab _ e) γI ?_,rfl,q _ hf⟩;exact⟨z,us,r,⟨_,qar _ rfl,rfl,_,rfl⟩⟩
def Sk(h:PA X es t):PE X (.List es pos) (Sj t):=by intro pins s σ H Q I hq;refine wpAny_List_spliced (aX (h pos pins s σ H _ I hq) λus s1 zq=>?_);obtain⟨xs,H1,I1,r,z,q⟩:=zq;refine⟨by rw[<-r.length];exact z,?_⟩;have hf:H1 s1.heap.objs.size=none:=I1.hok.fresh γI;refine⟨.ref s1.heap.objs.size,upd H1 s1.heap.objs.size γh,I1.laid (t':=s1.toks) (λb u e=>qab _ e) γI ?_,rfl,q _ hf⟩;exact⟨z,us,0,r,qar _ rfl⟩
end
abbrev Sp:=List V->Hp->VK->XK->Prop
abbrev oJ:=List Env->Hp->Shared->XK->T0
structure lE(P:Program)(w:World)(K:zze)(mg:M2)(base:Heap)(A:Around)(outer:δu)(s:Shared)(H:Hp):Prop where
 frames:A.frames=some outer
 mod:Mod K mg base
 bs:∀b o,base.get? b=some o->s.heap.get? b=some o/\H b=none
 mv:base.objs.size<=s.heap.objs.size
 eV:s.heap.FunFrames base outer
 oz:∀b∈frs outer,H b=none
 hok:dZ P w H s.heap
 bare:AllBare s.gens
def CE(outer:δu)(P:Program)(w:World)(H:Hp)(s:Shared)(Q:VK)(u:Value)(s':Shared):Prop:=
 ∃v H',s'.os=s.os/\AllBare s'.gens/\Un (frs outer) [] H H' s.heap s'.heap/\dZ P w H' s'.heap/\RelV v u/\Q v H'
def CR(CX:oJ)(outer:δu)(P:Program)(w:World)(H:Hp)(s:Shared)(Q:VK)(E:XK)(r:Result)(s':Shared):Prop:=
 match r with
 |.ok (.ret u)=>CE outer P w H s Q u s'
 |.ok _=>False
 |.error e=>CX outer H s E e s'
structure bB(P:Program)(w:World)(K:zze)(mg:M2)(base:Heap)(CX:oJ)(k:Nat)(f:Addr)(fd:FuncData)(ps:v6)(sp:Sp):Prop where
 len:∀vs H Q E,sp vs H Q E->vs.length=ps.length
 run:∀(A:Around) (outer:δu) (s:Shared) (H:Hp) (args:Args) (us:v4) (vs:γv) (Q:VK) (E:XK),aH k A->lE P w K mg base A outer s H->BindsTo s fd args εs->Vals vs us->sp vs H Q E ->
  codeAny εT A (.call γ0 args) (CR CX outer P w H s Q E) s
def bB.imp{P:Program}{w:World}{K:zze}{mg:M2}{base:Heap}{CX:oJ}{k:Nat}{f:Addr}{fd:FuncData}{ps:v6}{sp JI:Sp}(F:bB P w K mg base CX k f fd ps sp)
 (h:∀vs H Q E,JI vs H Q E->sp vs H Q E):bB P w K mg base CX k f fd ps JI:=
 ⟨λvs H Q E q=>F.len vs H Q E (h _ _ _ _ q),λA outer s H args us vs Q E hr he hb hv hs=>F.run A outer s H args us vs Q E hr he hb hv (h _ _ _ _ hs)⟩
def lE.make{P:Program}{w:World}{K:zze}{mg:M2}{base:Heap}{A:Around}{outer:δu}{s:Shared}{H:Hp}(e:lE P w K mg base A outer s H)(C:Addr)(us:v4)(kw:List (Str×Value)) :
 lE P w K mg base (A.under (.builtin "type.__call__" ⟨.ref C::us,kw⟩)) outer s H:=⟨by first|exact e.frames| (simpa [Around.under,Code.envs,Code.isFrame,pushEnvs]using e.frames),e.mod,e.bs,e.mv,e.eV,e.oz,e.hok,e.bare⟩
section
variable{X:Cx}{pins:W1}{σ:St}{H:Hp}{s s':Shared}
def Inv.env0(I:δ):lE X.prog X.w X.K X.mg X.base X.A X.stack s H:=
 ⟨I.ok.frames,I.ok.mod,I.bs,qaJ I.ok.mv I.sz,I.stack,I.g_,I.hok,I.bare⟩
def Inv.after(I:δ)(h:CE X.stack X.prog X.w H s Q u s'):EP X pins σ Q u s':=by obtain⟨v,H',os,bare,un,hok,r,q⟩:=h;obtain⟨hh,g,d,t,os'⟩:=s';obtain rfl:os'=s.os:=os;exact⟨v,H',I.call (h':=hh) (g':=g) (d':=d) (t':=t) (ch:=[]) un hok bare (λb z=>absurd z (by simp)),r,q⟩
end
def D6(sp:Sp)(dvs:γv)(E:XK)(t:TA):TE:=λσ H Q=>t σ H λvs H1=>sp (vs++dvs) H1 Q E
def Sn(C:Addr)(m:Str)(sp:Sp)(dvs:γv)(E:XK)(ta:TE)(t:TA):TE:=λσ H Q=>ta σ H λx H1=>∃a dx fs,x=.ref a/\H1 a=some εm/\fs.lookup m=none /\
 t σ H1 λvs H2=>sp (x::(vs++dvs)) H2 Q E
def Binds(K:zze)(fd:FuncData)(ps:v6)(ds:v4):Prop:=
 ∀(s:Shared) (us:v4),K.In s.heap->(us++ds).length=ps.length->BindsTo s fd ⟨us,[]⟩ (ps.zip (us++ds))
def Binds.all{K:zze}{fd:FuncData}{ps:v6}(h:∀us:v4,us.length=ps.length->bindArgs fd ⟨us,[]⟩=pure εs):Binds K fd ps []:=λs us _ hl=>by rw[qbE]at hl ⊢;exact .of_eq (h us hl)
def xf(CX:oJ)(X:Cx)(E:XK):Prop:=∀(pins:W1) (σ:St) (H:Hp) (s:Shared) (e:Value) (s':Shared),Inv X pins σ H s->CX X.stack H s E e s'->X.xe e s'
section
variable{X:Cx}{CX:oJ}{k:Nat}{f C:Addr}{fd:FuncData}{ps:v6}{sp:Sp}{dvs:γv}{ds:v4}{E:XK}{x m:Str}{p pos apos:Pos}{e o:Expr}{es:zza}{ta:TE}{t:TA}
def D7{pins:W1}{σ:St}{H:Hp}{s:Shared}{Q:VK}{us:v4}{vs:γv}(F:δf)(hr:δ3)(hb:γZ)(hd:εg)(hx:xf CX X E)
 (I:δ) (r:Vals vs us) (h:sp (vs++dvs) H Q E):wpAny ζ X.A (call γ0 us) γT X.xe s:=by
 have r2:Vals (vs++dvs) (us++ds):=r.append hd;have hl:(us++ds).length=ps.length:=by rw[<-r2.length];exact F.len _ _ _ _ h
 refine wpAny_call (codeAny_mono (F.run X.A X.stack s H ⟨us,[]⟩ (us++ds) (vs++dvs) Q E hr I.env0 (hb s us I.cf hl) r2 h) λr s' hq=>?_);cases r with
 |error e=>exact hx pins σ H s e s' I hq
 |ok fl =>
   cases fl with
   |ret u=>exact I.after hq
   |next=>exact False.elim hq
   |brk=>exact False.elim hq
   |cont=>exact False.elim hq
def Sq(F:δf)(hr:δ3)(hg:εX)(hm:X.mg x=some γ0)(hk:W.keepIn X.K γ0=true)(hb:γZ)(hd:εg)(hx:xf CX X E)
 (ha:PA X (e::es) t) (hdb:(x == ("__debug__":Str))=false:=by decide) (he:starEach (e::es) X.env=(false,eval e X.env)::starEach es X.env:=by rfl) (hpl:(backTo pos γl).any (·.1)=false:=by rfl) :
 PE X (.Call δp (e::es) [] pos) (D6 sp dvs E t):=by intro pins s σ H Q I h;refine qbt (tG I hg hm ?_ hdb);refine W.callWith_K (h₀:=X.base) I.ok.mod.tF hk (aX γ6 λus s1 zq=>?_) he hpl;obtain⟨vs,H1,I1,r,q⟩:=zq;refine⟨I1.cf,?_⟩;exact D7 F hr hb hd hx I1 r q
def Sr(F:δf)(hr:δ3)(hg:εX)(hm:X.mg x=some γ0)(hk:W.keepIn X.K γ0=true)(hb:γZ)(hd:εg)(hx:xf CX X E)
 (hdb:(x == ("__debug__":Str))=false:=by decide):PE X (.Call δp [] [] pos) (D6 sp dvs E oI):=by intro pins s σ H Q I h;refine qbt (tG I hg hm ?_ hdb);exact W.callWith_K0 I.cf hk (D7 (us:=[]) F hr hb hd hx I .nil h)
def Ss(he:PE X o ta)(c:k7 X.K C)(hm:Meth X.K C m f)(F:δf)(hr:δ3)(hb:γZ)(hd:εg)(hx:xf CX X E)
 (ht:eval (.Call δT [] [] pos) X.env=(do
  let ov <-eval o X.env
  standAt apos.atName
  let (f,first) <-holding [ov] θZ
  callWith pos f first (backTo pos (starEach [] X.env)) (backToKw pos (keywordEach [] X.env))):=by rfl) :
 PE X (.Call δT [] [] pos) (Sn C m sp dvs E ta oI):=by intro pins s σ H Q I h;refine W.methodCall_KW (pl:=pl) (aX δb λu s1 zq=>?_) ht;obtain⟨x,H1,I1,rx,a,dx,fs,ex,ea,l,q⟩:=zq;subst ex;obtain rfl:u=Value.ref a:=rx;refine R9 I1 ea c hm l ?_;exact W.callWith_K0 (first:=[.ref a]) I1.cf hm.kp (D7 (us:=[.ref a]) (vs:=[.ref a]) F hr hb hd hx I1 (.cons rfl .nil) q)
structure Mk(K:zze)(C f:Addr):Prop where
 makes:W.makesIn K C=true
 init:W.findIn K γb "__init__" = some (some γ0)
 fn:W.isFn K γ0=true
 kp:W.keepIn K γb=true
end
structure ah(N P:v6)(sc:Scope):Prop where
 kind:sc.kind=.function
 co:sc.isCoroutine=false
 gen:sc.isGenerator=false
 nd:N.Nodup
 pre:N.take P.length=P
 par:∀x∈P,sc.names.lookup x=some .local\/sc.names.lookup x=some .cell
 tN:∀y∈sc.names,y.2≠.free
theorem JJ{kindOf:Str->Option NameKind}{x:Str}:∀{binds:List (Str×Value)}{m:M2},(∀v,(x,v)∉binds)->bindL kindOf binds m x=m x
 |[],_,_=>rfl
 | (n,v)::r,m,h=>by
   unfold bindL;rw[JJ λw hw=>h w (qaf _ hw)];split
   .have:x≠n:=by rintro rfl;exact h v qaj
    simp[this]
   .rfl
theorem JK{kindOf:Str->Option NameKind}{x:Str}:∀{binds:List (Str×Value)}{m:M2},(∀v,(x,v)∉binds)->bindC kindOf binds m x=m x
 |[],_,_=>rfl
 | (n,v)::r,m,h=>by
   unfold bindC;rw[JK λw hw=>h w (qaf _ hw)];split
   .rfl
   .have:x≠n:=by rintro rfl;exact h v qaj
    simp[this]
theorem JL{kindOf:Str->Option NameKind}{x:Str}{v:Value}:∀{P:v6}{vs:v4}{i:Nat}{m:M2},P.Nodup->P[i]?=some x->vs[i]?=some v->kindOf x=some .local ->
 bindL kindOf (P.zip vs) m x=some v
 |[],_,_,_,_,h,_,_=>by simp at h
 |_::_,[],_,_,_,_,h,_=>by simp at h
 |p::P,w::vs,0,m,nd,h1,h2,hk=>by simp at h1 h2;subst h1;subst h2;show bindL kindOf ((p,w)::P.zip vs) m p=_;unfold bindL;rw[JJ λv hv=>(qbk.mp nd).1 (List.of_mem_zip hv).1,qaz hk];simp
 |p::P,w::vs,i+1,m,nd,h1,h2,hk=>by show bindL kindOf ((p,w)::P.zip vs) m x=_;unfold bindL;exact JL (i:=i) (qbk.mp nd).2 (by simpa using h1) (by simpa using h2) hk
theorem JM{kindOf:Str->Option NameKind}{x:Str}{v:Value}:∀{P:v6}{vs:v4}{i:Nat}{m:M2},P.Nodup->P[i]?=some x->vs[i]?=some v->kindOf x≠some .local ->
 bindC kindOf (P.zip vs) m x=some v
 |[],_,_,_,_,h,_,_=>by simp at h
 |_::_,[],_,_,_,_,h,_=>by simp at h
 |p::P,w::vs,0,m,nd,h1,h2,hk=>by simp at h1 h2;subst h1;subst h2;show bindC kindOf ((p,w)::P.zip vs) m p=_;unfold bindC;rw[JK λv hv=>(qbk.mp nd).1 (List.of_mem_zip hv).1,qax hk];simp
 |p::P,w::vs,i+1,m,nd,h1,h2,hk=>by show bindC kindOf ((p,w)::P.zip vs) m x=_;unfold bindC;exact JM (i:=i) (qbk.mp nd).2 (by simpa using h1) (by simpa using h2) hk
noncomputable def start(N:v6)(vs:γv):St:=vs.map some++List.replicate (N.length-vs.length) none
noncomputable def k9(CX:oJ)(P:Program)(w:World)(K:zze)(mg:M2)(base:Heap)(N:v6)(qual:Str)(scope:Scope)(f:Addr)(cd:Value)(A:Around)(outer:δu)(s:Shared)(H:Hp)(E:XK):Cx where
 prog:=P
 w:=w
 K:=K
 mg:=mg
 base:=base
 A:=A.deeper γC
 N:=N
 s₀:=s
 H₀:=H
 env:=envOfC qual scope s.heap.objs.size f cd
 outer:=outer
 stack:=envOfC qual scope s.heap.objs.size f cd::outer
 ex:=[]
 calm:=true
 fn:=λ_=>true
 pn:=[]
 xe:=λe s'=>wpAny εT (A.deeper γC) (leaving γC e) (λ_ s''=>CX outer H s E e s'') (λe' s''=>CX outer H s E e' s'') s'
def JN{sc:Scope}(h:sc.names.lookup x=some .cell):∃c,(cellsFrom n sc.names []).lookup x=some c:=by have q:=W.cellsFrom_some sc.names n [] (.inl h);exact Option.isSome_iff_exists.mp q
def Su{CX:oJ}{P:Program}{w:World}{K:zze}{mg:M2}{base:Heap}{N ps:v6}{qual:Str}{scope:Scope}{f:Addr}{cd:Value}{A:Around}{outer:δu}{s s1:Shared}{H:Hp}{E:XK}{us:v4}{vs:γv}
 (S:ah N ps scope) (hd:A.handled=none) (e0:lE P w K mg base A outer s H) (hl:vs.length=ps.length) (r:Vals vs us)
 (x:InCallC s s.heap.objs.size (bindL (envOfC qual scope s.heap.objs.size f cd).kindOf εs λ_=>none) (cellsFrom (s.heap.objs.size+1) scope.names []) (bindC (envOfC qual scope s.heap.objs.size f cd).kindOf εs λ_=>none) s1) :
 Inv (k9 CX P w K mg base N qual scope f cd A outer s H E) [] η9 H s1:=by
 have hpl:ps.length<=N.length:=by have:=congrArg List.length S.pre;rw[qa0]at this;omega
 obtain⟨h1,tk,rfl,hk⟩:=x.done;have xg:∀b:Addr,b∉(k9 CX P w K mg base N qual scope f cd A outer s H E).ex:=λb z=>absurd (show b∈([]:zzd) from z) (by simp)
 refine⟨⟨e0.mod,S.kind,rfl,rfl,qah _,λy z c h1 h2=>?_,λy hy=>?_,λy c _ h=>?_,λ_=>hd,Around.frames_deeper e0.frames,.inr ⟨rfl,rfl⟩,λb z=>absurd z (xg b),e0.bs,e0.mv,λb _ _=>xg b,λb z=>absurd z (xg b),e0.eV,e0.oz⟩,
  rfl,e0.bare,Un.kept hk,⟨_,x.toInCall.ns,λi y v h1 h2 h3=>?_⟩,λy c h=>⟨_,x.cell y c h⟩,e0.hok.fresh γI,λy c h=>?_,λp hp=>absurd (show p∈([]:W1) from hp) (by simp),e0.hok.kept hk,?_⟩
 .exact name_of_addr x.apart (PySem.mem_of_lookup h1) (PySem.mem_of_lookup h2)
 .have hy:scope.names.lookup y=some .cell\/scope.names.lookup y=some .free:=hy;rcases hy with hy|hy
  .exact JN hy
  .exact absurd rfl (S.tN _ (PySem.mem_of_lookup hy))
 .exact Nat.le_of_lt θv
 .have hi:i<vs.length:=by
   unfold start at h2;by_cases hi:i<vs.length
   .exact hi
   .rw[qaI (by simpa using hi)]at h2;rw[qbL]at h2;split at h2<;>cases h2
  have ha:vs[i]?=some v:=by
   unfold start at h2;rw[qaL (by simpa using hi),qaE]at h2;cases e:vs[i]? with
   |none=>rw[e]at h2;cases h2
   |some a=>rw[e]at h2;cases h2;rfl
  obtain⟨u,hu,rv⟩:=r.get ha
  have hp:ps[i]?=some y:=by rw[<-S.pre,List.getElem?_take_of_lt ω];exact h1
  have JO:ps.Nodup:=by rw[<-S.pre];exact S.nd.sublist (qbO _ _)
  refine⟨u,rv,?_⟩
  rcases S.par y (qaB hp) with k|k
  .exact .inl ⟨k,JL JO hp hu k⟩
  .obtain⟨c,e⟩:=JN (n:=s.heap.objs.size+1) k
   refine .inr ⟨.inl k,c,e,?_⟩
   have q:=x.cell y c e
   rw[JM JO hp hu (by show scope.names.lookup y≠_;rw[k];decide)]at q
   exact q
 .exact e0.hok.fresh (Nat.le_of_lt θv)
 .unfold start;show _=N.length;rw[qam,qag,qbF];omega
def D8{CX:oJ}{P:Program}{w:World}{K:zze}{mg:M2}{base:Heap}{k:Nat}{f:Addr}{name qual:Str}{params:Arguments}{body:δK}{scope:Scope}{dV kV doc pm cdv ct oc:Value}{an od:δa}
 {osl:η4}{N ps:v6}{sp:Sp} (lk:K.lookup f=some ⟨oc,od,.func γL,osl⟩) (hcd:W.codeIn K cdv qual=true) (S:ah N ps scope)
 (len:∀vs H Q E,sp vs H Q E->vs.length=ps.length)
 (hbody:∀(A:Around) (outer:δu) (s:Shared) (H:Hp) (vs:γv) (Q:VK) (E:XK),aH k (A.deeper (envOfC qual scope s.heap.objs.size f cdv))->sp vs H Q E ->
  ∃t,PSs δx body t/\t {nx:=λ_ H'=>Q .aq H',rt:=Q} η9 H) :
 bB P w K mg base CX (k+1) f γL ps sp:=by
 refine⟨len,λA outer s H args us vs Q E hr e0 hb r hsp=>?_⟩;have hl:=len _ _ _ _ hsp;have KX:K.In s.heap:=e0.mod.tF.keeps λb o e=>(e0.bs b o e).1;have lim:s.heap.NoLimit:=e0.mod.nolimit.keeps λb o e=>(e0.bs b o e).1
 have hkind:∀y∈ps.zip us,scope.names.lookup y.1=some .local\/(scope.names.lookup y.1=some .cell/\((cellsFrom (s.heap.objs.size+1) scope.names []).lookup y.1).isSome=true):=λ⟨n,v⟩ hy=>by
  rcases S.par n (List.of_mem_zip hy).1 with q|q
  .exact .inl q
  .exact .inr ⟨q,W.cellsFrom_some _ _ _ (.inl q)⟩
 refine codeAny_call_function hr.depth (KX _ _ lk) rfl S.co S.gen rfl (W.codeRec_of KX hcd) (hb _ _ _ _ ?_);refine wpAny_newFunctionEnv_cells S.kind hkind λenv he s1 x=>?_;subst he;refine⟨lim.keeps x.toInCall.keep,codeAny_func ?_⟩;obtain⟨t,ht,hq⟩:=hbody A outer s H vs Q E (hr.deeper _) hsp;have I:Inv δx [] η9 H s1:=Su S hr.hd e0 hl r x;refine qa6 (ht [] s1 η9 H _ I hq) (λfl s' hs=>?_) λe s' hs=>hs
 have fin:∀{aE:St}{H':Hp}{v:V}{u:Value},Inv δx [] aE H' s'->RelV v u->Q v H'->CE outer P w H s Q u s':=
  λ{aE H' v u} J rv q=>⟨v,H',J.os,J.bare,J.base,J.hok,rv,q⟩
 cases fl with
 |ret u =>
   obtain⟨v,aE,H',J,rv,q⟩:=hs;exact fin J rv q
 |next =>
   obtain⟨aE,H',J,q⟩:=hs;exact fin (v:=V.aq) (u:=Value.none) J rfl q
 |brk =>
   obtain⟨_,_,_,q⟩:=hs;exact False.elim q
 |cont =>
   obtain⟨_,_,_,q⟩:=hs;exact False.elim q
section
variable{X:Cx}{x:Str}{p pos:Pos}{e:Expr}{es:zza}{t:TA}{id T:String}{r:List V->Hp->VK->Prop}
def rN(r:List V->Hp->VK->Prop)(t:TA):TE:=λσ H Q=>t σ H λvs H1=>r vs H1 Q
def tO(hc:aM X εB r)(hg:εX)(hm:X.mg x=none)(hv:bootBuiltins x=some εB)(ha:PA X (e::es) t)(hn:x≠"__name__":= by decide)(hdb:(x == ("__debug__":Str))=false:=by decide)
 (he:starEach (e::es) X.env=(false,eval e X.env)::starEach es X.env:=by rfl) (hpl:(backTo pos γl).any (·.1)=false:=by rfl):PE X (.Call δp (e::es) [] pos) (rN r t):=by intro pins s σ H Q I h;refine qbt (wV I hg hm hv ?_ hn hdb);exact PyProof.Rows.callWith_builtin1 (aX γ6 λus s1 ⟨vs,H1,I1,r1,q1⟩=>hc pins s1 σ H1 vs us Q I1 r1 q1) he hpl
def qd(hc:aM X (.type T) r)(hg:εX)(hm:X.mg x=none)(hv:bootBuiltins x=some (.type T))(ha:PA X (e::es) t)(hn:x≠"__name__":= by decide)(hdb:(x == ("__debug__":Str))=false:=by decide)
 (he:starEach (e::es) X.env=(false,eval e X.env)::starEach es X.env:=by rfl) (hpl:(backTo pos γl).any (·.1)=false:=by rfl):PE X (.Call δp (e::es) [] pos) (rN r t):=by intro pins s σ H Q I h;refine qbt (wV I hg hm hv ?_ hn hdb);exact PyProof.Rows.callWith_type1 (aX γ6 λus s1 ⟨vs,H1,I1,r1,q1⟩=>hc pins s1 σ H1 vs us Q I1 r1 q1) he hpl
end
end L2
namespace HT
open PySem PyProof.Rows
section
variable{prog:Program}{w:World}{A:Around}{E:T0}{s:Shared}
def iP(n d:Nat):zzf->Nat
 |none=>d
 |some v=>if v<0 then (v+(n:Int)).toNat else min v.toNat n
def hV(n d k:Nat):iP n d (some (k:Int))=min k n:=by show(if (k:Int)<0 then ((k:Int)+(n:Int)).toNat else min (k:Int).toNat n)=min k n;rw[qax ω,Int.toNat_natCast]
end
end HT
namespace L2
open PySem PySem.Spec PyProof.Rows
abbrev TO:=St->Hp->(zzf->Hp->Prop)->Prop
def PO(X:Cx)(e:Option Expr)(t:TO):Prop:=
 ∀(pins:W1) (s:Shared) (σ:St) (H:Hp) (Q:zzf->Hp->Prop),Inv X pins σ H s->t σ H Q ->
  wpAny ζ X.A (evalPart e X.env) (λu s'=>∃o H',Inv X pins σ H' s'/\IsPart u o/\Q o H') X.xe s
def Sv:TO:=λ_ H Q=>Q none H
def Sw(t:TE):TO:=λσ H Q=>t σ H λx H1=>∃i,x=.int i/\Q (some i) H1
def intsAre_of{ns:u8}:∀{us:v4},Vals γN us->IntsAre us ns:=by
 induction ns with
 |nil=>intro us r;rw[List.map_nil]at r;cases r;exact .nil
 |cons n ns ih =>
   intro us r;rw[qaP]at r;cases r with
   |cons r1 r2 =>
     obtain⟨t,e⟩:=r1;subst e;exact .cons n t (ih r2)
section
variable{X:Cx}{e:Expr}{te:TE}{lo hi:Option Expr}{tl th:TO}{pos p2:Pos}
def Sx:PO X none Sv:=by intro pins s σ H Q I h;rw[evalPart_none];exact qad ⟨none,H,I,.none,h⟩
def Sy(h:θD):PO X ζC (Sw te):=by intro pins s σ H Q I hw;rw[evalPart_some];refine aX (h pins s σ H _ I hw) λu s1 zq=>?_;obtain⟨x,H1,I1,r1,q1⟩:=zq;obtain⟨i,rfl,q⟩:=q1;obtain⟨t,rfl⟩:=r1;exact⟨some i,H1,I1,.int i t,q⟩
def oK(X:Cx)(r:V->zzf->zzf->Hp->VK->Prop):Prop:=
 ∀(pins:W1) (s:Shared) (σ:St) (H:Hp) (x:V) (v vl vu:Value) (lo hi:zzf) (sl:Addr) (Q:VK),Inv X pins σ H s->RelV x v->s.heap.IsSliceOf sl vl vu .none->IsPart vl lo->IsPart vu hi->r x lo hi H Q ->
  ∃T id,typeLookup (.type T) "__getitem__" = pure (some εB)/\s.TypeIs v T/\wpAny ζ X.A (getItem v (.ref sl)) γT X.xe s
def JP(r:V->zzf->zzf->Hp->VK->Prop)(te:TE)(tl th:TO):TE:=λσ H Q=>te σ H λx H1=>tl σ H1 λl H2=>th σ H2 λu H3=>r x l u H3 Q
def JQ(hr:oK X r)(he:θD)(hl:PO X lo tl)(hu:PO X hi th):PE X (.Subscript e ζm pos) (JP r te tl th):=by intro pins s σ H Q I h;refine Subscript_ (aX δb λv s1 zq=>?_);obtain⟨x,H1,I1,r1,q1⟩:=zq;refine wpAny_Slice (aX (hl pins s1 σ H1 _ I1 q1) λvl s2 zq=>?_);obtain⟨l,H2,I2,pl,q2⟩:=zq;refine aX (hu pins s2 σ H2 _ I2 q2) λvu s3 zq=>?_;obtain⟨u,H3,I3,pu,q3⟩:=zq;rw[evalPart_none];refine qad ?_;have I4:Inv X pins σ H3 {s3 with heap:=s3.heap.push {cls:=.type "slice",data:=.fields #[vl,vu,.none]} }:=I3.kept (t':=s3.toks) λb ob q=>qab _ q;obtain⟨T,id,hT,ht,hg⟩:=hr pins {s3 with heap:=s3.heap.push {cls:=.type "slice",data:=.fields #[vl,vu,.none]} } σ H3 x v vl vu l u s3.heap.objs.size Q I4 r1 (Heap.IsSliceOf.new ..) pl pu q3;show wpAny ζ X.A (subscriptTail e ζm v (.ref s3.heap.objs.size)) γT X.xe {s3 with heap:=s3.heap.push {cls:=.type "slice",data:=.fields #[vl,vu,.none]} };exact tail_any (ops:=[.ref s3.heap.objs.size,v]) ht hT hg (by with_unfolding_all rfl)
def tP(xs:γv)(lo hi:zzf):List V:=(xs.drop η2).take (HT.iP xs.length xs.length hi-HT.iP xs.length 0 lo)
def Sz(xs:γv)(lo hi:zzf):(tP xs lo hi).length<=xs.length:=by unfold tP;rw[qa0,qaR];omega
end
noncomputable def oM(n:Nat)(i:Int):Option Nat:=if 0<=i then (if i<n then some i.toNat else none) else if -(n:Int)<=i then some (i+n).toNat else none
def cn{α:Type}(xs:δ5)(i:Int):Option α:=(oM xs.length i).bind λj=>xs[j]?
def SA(h:oM n i=some j):seqIndex? i n=some j/\j<n /\ -(n:Int)<=i/\i<n:=by
 unfold oM at h;by_cases h0:0<=i
 .rw[qaz h0]at h;by_cases h1:i<n
  .rw[qaz h1]at h;have e:i.toNat=j:=qaH h;exact⟨by rw[seqIndex_of h0 h1,e],ω,ω,h1⟩
  .rw[qax h1]at h;cases h
 .rw[qax h0]at h;by_cases h1 : -(n:Int)<=i
  .rw[qaz h1]at h;have e:(i+n).toNat=j:=qaH h;exact⟨by rw[seqIndex_neg ω h1,e],ω,h1,ω⟩
  .rw[qax h1]at h;cases h
def D9{α:Type}{xs:δ5}{v:α}(h:cn xs i=some v):∃j,seqIndex? i xs.length=some j/\xs[j]?=some v/\j<xs.length /\ -(xs.length:Int)<=i/\i<xs.length:=by
 unfold cn at h;cases e:oM xs.length i with
 |none=>rw[e]at h;cases h
 |some j =>
   rw[e]at h;obtain⟨h1,h2,h3,h4⟩:=SA e;exact⟨j,h1,h,h2,h3,h4⟩
def AI{α:Type}{xs:δ5}{j:Nat}{v:α}(h:xs[j]?=some v):cn xs (j:Int)=some v:=by
 have hj:j<xs.length:=(qac.mp h).1
 have e:oM xs.length (j:Int)=some j:=by unfold oM;rw[qaz ω,qaz ω];simp
 unfold cn;rw[e];exact h
noncomputable def JR(b:Expr):Prop:=∀o i,subscripted b false o i=operate [o,i] (getItem o i)
def qF(X:Cx)(r:R2):Prop:=
 ∀(value slice:Expr) (pins:W1) (s:Shared) (σ:St) (H:Hp) (x y:V) (v u:Value) (Q:VK),Inv X pins σ H s->RelV x v->RelV y u->r x y H Q ->
  subscripted slice false v u=operate [v,u] (getItem v u)->wpAny ζ X.A (subscriptTail value slice v u) γT X.xe s
def tQ(X:Cx)(id:String)(r:V->List V->Hp->VK->Prop):Prop:=
 ∀(pins:W1) (s:Shared) (σ:St) (H:Hp) (x:V) (xs:γv) (v:Value) (us:v4) (Q:VK),Inv X pins σ H s->RelV x v->Vals xs us->r x xs H Q ->
  wpAny ζ X.A (call εB (v::us)) γT X.xe s
section
variable{X:Cx}{a b:Expr}{ta tb:TE}{pos:Pos}
def qF.or(h:qF X r)(h':qF X r'):qF X (λx y H Q=>r x y H Q\/r' x y H Q):=by
 intro value slice pins s σ H x y v u Q I rx ry q hs;rcases q with q|q
 .exact h value slice pins s σ H x y v u Q I rx ry q hs
 .exact h' value slice pins s σ H x y v u Q I rx ry q hs
def SD(hr:qF X r)(ha:εW)(hb:ηL)(hs:JR b):PE X (.Subscript a b pos) η7:=by intro pins s σ H Q I h;exact Subscript_ (DW ha hb I h λv u s2 x y H2 I2 rx ry q=>hr a b pins s2 σ H2 x y v u Q I2 rx ry q (hs _ _))
def JS(K:zze):R2:=λx y H Q=>∃p xs i v,x=.ref p/\y=.int i/\cJ K H p xs/\cn xs i=some v/\Q v H
def JT(K:zze):R2:=λx y H Q=>∃p xs i v,x=.ref p/\y=.int i/\k6 K H p xs/\cn xs i=some v/\Q v H
def JU:R2:=λx y H Q=>∃z i c,x=.str z/\y=.int i/\z.length<=sizeLine/\cn z.cps.toList i=some c/\Q (.str ⟨#[c]⟩) H
def qG:qF X (JS X.K):=by
 intro value slice pins s σ H x y v u Q I rx ry h hs;obtain⟨p,xs,i,z,rfl,rfl,hq,he,q⟩:=h;cases rx;obtain⟨t,rfl⟩:=ry;obtain⟨its,r,pl,hz⟩:=I.list hq;obtain⟨j,h1,h2,h3,h4,h5⟩:=D9 he;obtain⟨w,ew,rw'⟩:=r.get h2;have hl:=r.length;have hn:=w_;have fin:EP X pins σ Q w s:=⟨z,H,I,rw',q⟩;by_cases h0:0<=i
 .have hj:i.toNat=j:=by rw[seqIndex_of h0 h5]at h1;exact qaH h1
  exact item_listR pl.isList h0 ω (by rw[hj];simpa using ew) fin hs
 .have hj:(i+(its.toArray.size:Int)).toNat=j:=by rw[seqIndex_neg ω h4]at h1;rw[qaQ,<-hl];exact qaH h1
  exact subscriptTail_builtinR (x:=w) pl.isList.typeIs slot_list_getitem.lookup
   (wpAny_getItem_list_neg (Q:=λr s'=>r=w/\EP X pins σ Q r s') pl.isList ω (by rw[qaQ]<;>omega) ω (by rw[hj];simpa using ew) ⟨rfl,fin⟩) hs
def tS:qF X (JT X.K):=by
 intro value slice pins s σ H x y v u Q I rx ry h hs;obtain⟨p,xs,i,z,rfl,rfl,hq,he,q⟩:=h;cases rx;obtain⟨t,rfl⟩:=ry;obtain⟨its,r,pl,hz⟩:=I.tuple hq;obtain⟨j,h1,h2,h3,h4,h5⟩:=D9 he;obtain⟨w,ew,rw'⟩:=r.get h2;have hl:=r.length;have hn:=w_;have fin:EP X pins σ Q w s:=⟨z,H,I,rw',q⟩
 exact subscriptTail_builtinR (x:=w) pl.typeIs slot_tuple_getitem.lookup
  (getItem_tuple (j:=j) (Q:=λr s'=>r=w/\EP X pins σ Q r s') pl ω ω (by rw[qaQ,<-hl];exact h1) (by simpa using ew) ⟨rfl,fin⟩) hs
def SE:qF X JU:=by
 intro value slice pins s σ H x y v u Q I rx ry h hs;obtain⟨z,i,c,rfl,rfl,hz,he,q⟩:=h;obtain⟨t,rfl⟩:=rx;obtain⟨t',rfl⟩:=ry;obtain⟨j,h1,h2,h3,h4,h5⟩:=D9 he;have hl:z.cps.toList.length=z.length:=by simp[Str.length]
 rw[hl]at h1 h4 h5;have hn:=w_
 exact tail_any (typeIs_str s z t) slot_str_getitem.lookup (getItem_str (c:=c) (by have e1:decide (i < -(2 ^ 63:Int))=false:=qaY ω;have e2:decide (i ≥ 2 ^ 63)=false:=qaY ω;rw[e1,e2,Bool.or_false]) (by rw[h1];simpa using h2) ⟨.str ⟨#[c]⟩,H,I.tok _,⟨_,rfl⟩,q⟩) hs
def JV(K:zze):R2:=λx y H Q=>JS K x y H Q\/JT K x y H Q\/JU x y H Q
def SF:qF X (JV X.K):=qG.or (tS.or SE)
def SG(lo hi:zzf)(n:Nat):(sliceBounds lo hi none n).1=((HT.iP n 0 lo:Nat):Int)/\(sliceBounds lo hi none n).2.1=((HT.iP n n hi:Nat):Int)/\(sliceBounds lo hi none n).2.2=1:=by
 refine⟨?_,?_,rfl⟩
 .cases lo with
  |none=>simp[sliceBounds,HT.iP]
  |some i =>
    simp only[sliceBounds,HT.iP,Option.getD_none,show(1:Int)>0 by decide,if_true];by_cases h:i<0
    .simp only[h,if_true]<;>omega
    .simp only[h,if_false]<;>omega
 .cases hi with
  |none=>simp[sliceBounds,HT.iP]
  |some i =>
    simp only[sliceBounds,HT.iP,Option.getD_none,show(1:Int)>0 by decide,if_true];by_cases h:i<0
    .simp only[h,if_true]<;>omega
    .simp only[h,if_false]<;>omega
def SH(its:v4)(lo hi:zzf):slicePick its.toArray lo hi none=((its.drop (HT.iP its.length 0 lo)).take (HT.iP its.length its.length hi-HT.iP its.length 0 lo)).toArray:=by obtain⟨h1,h2,h3⟩:=SG lo hi its.toArray.size;unfold slicePick;rw[h1,h2,h3];simp only[sliceRange_one,pick_run,List.size_toArray]<;>rfl
def JW(K:zze):V->zzf->zzf->Hp->VK->Prop:=λx lo hi H Q=>∃a xs,x=.ref a/\cJ K H a xs/\∀p,H p=none->Q γO (upd H p (.lst (tP xs lo hi)))
def SI:oK X (JW X.K):=by intro pins s σ H x v vl vu lo hi sl Q I rx hs pl pu h;obtain⟨a,xs,rfl,hx,q⟩:=h;cases rx;obtain⟨its,r,ht,hz⟩:=I.list hx;have hlen:=r.length;refine⟨"list",_,slot_list_getitem.lookup,ht.isList.typeIs,?_⟩;refine wpAny_getItem_list_slice ht.isList hs pl pu .none (by simp) ?_ (by rw[List.size_toArray]<;>omega);rw[SH,<-hlen];refine⟨.ref s.heap.objs.size,_,I.laid (t':=s.toks) (o:=.lst (tP xs lo hi)) (λb ob q=>qab _ q) γI ?_,rfl,q _ ηu⟩;exact⟨qaJ (Sz xs lo hi) hz,_,0,(r.drop η2).take (HT.iP xs.length xs.length hi-HT.iP xs.length 0 lo),qar _ rfl⟩
noncomputable def oN:V->Bool
 |.aq=>true
 |.bl _=>true
 |.int _=>true
 |.str _=>true
 |_=>false
noncomputable def qe:V->V->Bool
 |.aq,.aq=>true
 |.bl a,.bl b=>a == b
 |.bl a,.int b=>(if a then 1 else 0) == b
 |.int a,.bl b=>a == (if b then 1 else 0)
 |.int a,.int b=>a == b
 |.str a,.str b=>a == b
 |_,_=>false
def SJ(ry:RelV y u)(rx:RelV x v)(fy:oN y=true)(fx:oN x=true):SeqAt.EqAt A s u v (qe y x):=by
 cases y with
 |aq =>
   cases ry;cases x with
   |aq=>cases rx;exact SeqAt.EqAt.same _
   |bl b=>cases rx;exact SeqAt.EqAt.none_bool b
   |int b=>obtain⟨t,rfl⟩:=rx;exact SeqAt.EqAt.none_int b t
   |str b=>obtain⟨t,rfl⟩:=rx;exact SeqAt.EqAt.none_str b t
   |_=>exact absurd (show false=true from fx) qat
 |bl a =>
   cases ry;cases x with
   |aq=>cases rx;exact SeqAt.EqAt.bool_none a
   |bl b=>cases rx;exact SeqAt.EqAt.bool_bool a b
   |int b=>obtain⟨t,rfl⟩:=rx;exact SeqAt.EqAt.bool_int a b t
   |str b=>obtain⟨t,rfl⟩:=rx;exact SeqAt.EqAt.bool_str a b t
   |_=>exact absurd (show false=true from fx) qat
 |int a =>
   obtain⟨t',rfl⟩:=ry;cases x with
   |aq=>cases rx;exact SeqAt.EqAt.int_none a t'
   |bl b=>cases rx;exact SeqAt.EqAt.int_bool a t' b
   |int b=>obtain⟨t,rfl⟩:=rx;exact SeqAt.EqAt.int_int a t' b t
   |str b=>obtain⟨t,rfl⟩:=rx;exact SeqAt.EqAt.int_str a t' b t
   |_=>exact absurd (show false=true from fx) qat
 |str a =>
   obtain⟨t',rfl⟩:=ry;cases x with
   |aq=>cases rx;exact SeqAt.EqAt.str_none a t'
   |bl b=>cases rx;exact SeqAt.EqAt.str_bool a t' b
   |int b=>obtain⟨t,rfl⟩:=rx;exact SeqAt.EqAt.str_int a t' b t
   |str b=>obtain⟨t,rfl⟩:=rx;exact SeqAt.EqAt.str_str a t' b t
   |_=>exact absurd (show false=true from fx) qat
 |_=>exact absurd (show false=true from fy) qat
def qH(x:V)(u:Value):Bool:=match u with
 |.none=>qe .aq x
 |.bool b=>qe ζc x
 |.int i _=>qe γ1 x
 |.str z _=>qe ηN x
 |_=>false
def JX(r:RelV y u)(f:oN y=true):qH x u=qe y x:=by
 cases y with
 |aq=>cases r;rfl
 |bl b=>cases r;rfl
 |int i=>obtain⟨t,rfl⟩:=r;rfl
 |str z=>obtain⟨t,rfl⟩:=r;rfl
 |_=>exact absurd (show false=true from f) qat
def JY(r:θQ)(f:xs.all oN=true):us.any (qH x)=xs.any λy=>qe y x:=by
 induction r with
 |nil=>rfl
 |cons r t ih =>
   rw[qbC,qa1]at f;rw[List.any_cons,List.any_cons,JX r f.1,ih f.2]
def JZ(rx:RelV x v)(fx:oN x=true)(r:θQ)(f:xs.all oN=true):∀u∈us,SeqAt.EqAt A s u v (qH x u):=by
 induction r with
 |nil=>nofun
 |cons r t ih =>
   rw[qbC,qa1]at f;refine List.forall_mem_cons.mpr ⟨?_,ih f.2⟩;rw[JX r f.1];exact SJ r rx f.1 fx
def inV(x:V)(xs:γv):Bool:=xs.any λy=>qe y x
def J0(K:zze)(neg:Bool):R2:=λx y H Q=>∃p xs,y=.ref p/\(cJ K H p xs\/k6 K H p xs)/\oN x=true/\xs.all oN=true/\Q (.bl (if neg then !inV x xs else inV x xs)) H
def SM:cK X (compareOp .In) (J0 X.K false):=by
 intro pins s σ H x y v u Q I rx ry h;obtain⟨p,xs,rfl,hq,fx,fs,q⟩:=h;cases ry;rcases hq with hq|hq
 .obtain⟨its,r,pl,hz⟩:=I.list hq;refine SeqAt.in_listAt (qH x) pl.isList (λw hw=>JZ rx fx r fs w (by simpa using hw)) ⟨.bl _,H,I,rfl,?_⟩;rw[show its.toArray.any (qH x)=its.any (qH x) by simp,JY r fs];exact q
 .obtain⟨its,r,pl,hz⟩:=I.tuple hq;refine SeqAt.in_tupleAt (qH x) pl (λw hw=>JZ rx fx r fs w (by simpa using hw)) ⟨.bl _,H,I,rfl,?_⟩;rw[show its.toArray.any (qH x)=its.any (qH x) by simp,JY r fs];exact q
def J_:cK X (compareOp .NotIn) (λx y H Q=>∃i j,x=.str i/\y=.str j/\Q (.bl (!(!(Builtin.Str.occurrences j i 0 j.length 1).isEmpty))) H):=by intro pins s σ H x y v u Q I rx ry h;obtain⟨i,j,rfl,rfl,q⟩:=h;obtain⟨t,rfl⟩:=rx;obtain⟨t',rfl⟩:=ry;exact notIn_str ⟨.bl _,H,I,rfl,q⟩
def jr:aM X (.builtin "len") (λxs H Q=>∃p ys,xs=[.ref p]/\(cJ X.K H p ys\/k6 X.K H p ys)/\Q (.int ys.length) H):=by
 intro pins s σ H xs us Q I r h;obtain⟨p,ys,rfl,hq,q⟩:=h;obtain⟨u,rfl,rx⟩:=vals1 r;cases rx;have hn:=w_;rcases hq with hq|hq
 .obtain⟨its,r',pl,hz⟩:=I.list hq;have hlen:=r'.length;exact Calls.call_len_list pl.isList (by simp only[List.size_toArray]<;>omega) ⟨.int ys.length,H,I.tok _,⟨s.toks+1,by rw[qaQ,hlen]⟩,q⟩
 .obtain⟨its,r',pl,hz⟩:=I.tuple hq;have hlen:=r'.length;exact len_tuple pl (by simp only[List.size_toArray]<;>omega) ⟨.int ys.length,H,I.tok _,⟨s.toks+1,by rw[qaQ,hlen]⟩,q⟩
def SN:aM X (.builtin "len") (λxs H Q=>∃z,xs=[.str z]/\z.length<=sizeLine/\Q (.int z.length) H):=by intro pins s σ H xs us Q I r h;obtain⟨z,rfl,hz,q⟩:=h;obtain⟨u,rfl,t,rfl⟩:=vals1 r;have hn:=w_;exact len_str ω ⟨.int z.length,H,I.tok _,⟨_,rfl⟩,q⟩
def aM.or(h:aM X f r)(h':aM X f r'):aM X f (λxs H Q=>r xs H Q\/r' xs H Q):=by
 intro pins s σ H xs us Q I rs q;rcases q with q|q
 .exact h pins s σ H xs us Q I rs q
 .exact h' pins s σ H xs us Q I rs q
def SQ:aM X (.type "list") (λxs H Q=>∃p ys,xs=[.ref p]/\(cJ X.K H p ys\/k6 X.K H p ys)/\∀l,H l=none->Q (.ref l) (upd H l εi)):=by
 intro pins s σ H xs us Q I r h;obtain⟨p,ys,rfl,hq,q⟩:=h;obtain⟨u,rfl,rx⟩:=vals1 r;cases rx
 have fin:∀(its:v4),Vals ys its->ys.length<=sizeLine->∀(h':Heap) (c':Nat),(∀b o',s.heap.get? b=some o'->h'.get? b=some o') ->
  h'.get? s.heap.objs.size=some {cls:=.type "list",dict:=none,data:=.seq its.toArray c',slots:= #[]}->EP X pins σ Q γd {s with heap:=h'}:=λits r' hz h' c' kp e =>
  ⟨.ref s.heap.objs.size,_,I.laid (t':=s.toks) kp γI (show aI X.prog X.w _ h' _ εi from⟨hz,its,c',r',e⟩),rfl,q _ ηu⟩
 rcases hq with hq|hq
 .obtain⟨its,r',pl,hz⟩:=I.list hq;have hlen:=r'.length;obtain⟨o,ho,hc,n,hd⟩:=pl.isList;exact call_list_seq p γJ ho hc hd (λh' c' kp e=>fin its r' hz h' c' kp e) (by simp only[List.size_toArray]<;>omega)
 .obtain⟨its,r',pl,hz⟩:=I.tuple hq;have hlen:=r'.length;obtain⟨o,ho,hc,n,hd⟩:=pl;exact call_list_seq p (.inr rfl) ho hc hd (λh' c' kp e=>fin its r' hz h' c' kp e) (by simp only[List.size_toArray]<;>omega)
def D_(K:zze)(T:String)(x:V)(H:Hp):Prop:=match x with
 |.str _=>T = "str"
 |.int _=>T = "int"
 |.ref p=>(T = "list" /\ ∃xs,cJ K H p xs)\/(T = "tuple" /\ ∃o,K.lookup p=some o/\o.cls=.type "tuple" /\ o.dict=none) \/
  (T = "dict" /\ ((∃kvs,H p=some (.dK kvs))\/∃kvs,H p=some (.dT kvs)))\/(T = "set" /\ ∃S n,H p=some (.set S n))
 |_=>False
def SR{pins:W1}{σ:St}{H:Hp}{s:Shared}{T:String}{x:V}{v:Value}(I:δ)(r:RelV x v)(ty:D_ X.K T x H) :
 s.TypeIs v T/\∀a,v=.ref a->∃ob,s.heap.get? a=some ob/\ob.dict=none:=by
 cases x with
 |str z =>
   obtain⟨t,rfl⟩:=r;cases (show T = "str" from ty);exact⟨typeIs_str s z t,λ_ e=>nomatch e⟩
 |int i =>
   obtain⟨t,rfl⟩:=r;cases (show T = "int" from ty);exact⟨typeIs_int s i t,λ_ e=>nomatch e⟩
 |ref p =>
   cases r;rcases ty with ⟨rfl,xs,hq⟩|⟨rfl,o,hk,hc,hd⟩|⟨rfl,hk⟩|⟨rfl,S,n,hk⟩
   .obtain⟨its,_,pl,_⟩:=I.list hq;refine⟨pl.isList.typeIs,λa e=>?_⟩;cases e;obtain⟨o,n,e,c,hd,_⟩:=pl;exact⟨o,e,hd⟩
   .refine⟨⟨o,I.cf p o hk,hc⟩,λa e=>?_⟩;cases e;exact⟨o,I.cf _ o hk,hd⟩
   .have z:∃o,s.heap.get? p=some o/\o.ExactDict:=by
     rcases hk with ⟨kvs,hk⟩|⟨kvs,hk⟩
     .obtain⟨_,_,_,_,o,_,_,e,ex,_⟩:=I.hok p _ hk;exact⟨o,e,ex⟩
     .obtain⟨_,_,_,_,o,_,_,e,ex,_⟩:=I.hok p _ hk;exact⟨o,e,ex⟩
    obtain⟨o,e,ex⟩:=z
    refine⟨⟨o,e,ex.1⟩,λa e2=>?_⟩
    cases e2
    exact⟨o,e,ex.2.1⟩
   .obtain⟨o,_,_,_,e,ex,_⟩:=I.hok p _ hk;refine⟨⟨o,e,ex.1⟩,λa e2=>?_⟩;cases e2;exact⟨o,e,ex.2.1⟩
 |_=>exact False.elim ty
def Ea(K:zze)(T:String)(r:V->List V->Hp->VK->Prop)(to:TE)(t:TA):TE:=λσ H Q=>to σ H λx H1=>D_ K T x H1/\t σ H1 λxs H2=>r x xs H2 Q
variable{o e:Expr}{es:zza}{to:TE}{t:TA}{name:Str}{apos cpos:Pos}{T id:String}{r:V->List V->Hp->VK->Prop}
def iJ(pa:PlainAttrs T)(slot:Slot T name id)(hty:typeOf εB=pure (.type "method_descriptor"))(hm:tQ X id r)(ho:PE X o to)(ha:PA X (e::es) t)
 (hbase:attributeBase o name X.env (eval o X.env)=eval o X.env:=by rfl)
 (hfew:((backTo cpos (starEach (e::es) X.env)).all (λx => !x.1)&&(backToKw cpos (keywordEach [] X.env)).all (λx=>x.1.isSome)
  &&decide ((e::es).length+([]:List Keyword).length+(if ([]:List Keyword).isEmpty then 0 else 1)<30))=true:=by rfl)
 (hline:(apos.endLine == cpos.line)=true:=by rfl) (hs:starEach (e::es) X.env=(false,eval e X.env)::starEach es X.env:=by rfl) (hplain:(backTo cpos γl).any (·.1)=false:=by rfl) :
 PE X (.Call (.Attribute o name apos) (e::es) [] cpos) (Ea X.K T r to t):=by intro pins s σ H Q I h;refine wpAny_Call_method_late hbase hfew hline rfl (aX (ho pins s σ H _ I h) λv s1 zq=>?_);obtain⟨x,H1,I1,r1,ty,q1⟩:=zq;obtain⟨h1,h2⟩:=SR I1 r1 ty;refine⟨T,id,pa,slot,hty,h1,h2,?_⟩;have hA:=ha cpos pins s1 σ H1 _ I1 q1;rw[hs]at hA ⊢;refine Calls.callWith_builtin (by show(false || (backTo cpos γl).any (·.1))=false;rw[hplain]<;>rfl) (Calls.evalArgs_plain ?_);exact aX hA λus s2 ⟨vs,H2,I2,r2,q2⟩=>hm pins s2 σ H2 x vs v us Q I2 r1 r2 q2
end
def Ka(X:Cx)(id:String)(r:V->List V->Hp->VK->Prop):Prop:=
 ∀(pins:W1) (s:Shared) (σ:St) (H:Hp) (x:V) (xs:γv) (v:Value) (us:v4) (Q:VK),Inv X pins σ H s->RelV x v->Vals xs us->r x xs H Q ->
  wpAny ζ X.A (call εB (v::us)) γT X.xe s
def Vals.one(h:Vals [x] us):∃u,us=[u]/\RelV x u:=by rcases h with _|⟨r,⟨⟩⟩;exact⟨_,rfl,r⟩
def Vals.two(h:Vals [x,y] us):∃u v,us=[u,v]/\RelV x u/\RelV y v:=by rcases h with _|⟨r,_|⟨q,⟨⟩⟩⟩;exact⟨_,_,rfl,r,q⟩
theorem Vals.rep(h:θQ):∀k:Nat,Vals (List.replicate k xs).flatten (List.replicate k us).flatten
 |0=>.nil
 |k+1=>by rw[qbg,qbg,qbP,qbP];exact Vals.append h (Vals.rep h k)
theorem foldl_rep(its:v4):∀(k:Nat) (acc:v4),
 List.foldl (λx1 x2=>x1++x2) acc.toArray (List.replicate k its.toArray)=(acc++(List.replicate k its).flatten).toArray
 |0,acc=>by simp
 |k+1,acc=>by
   have e:acc.toArray++its.toArray=(acc++its).toArray:=by simp
   have e2:(acc++its)++(List.replicate k its).flatten=acc++(List.replicate (k+1) its).flatten:=by rw[qbg,qbP,qaV]
   rw[<-e2,<-foldl_rep its k (acc++its),<-e,qbg,List.foldl_cons]
section
variable{X:Cx}{pins:W1}{σ:St}{H:Hp}{s:Shared}{l b:Addr}{xs ys zs:γv}
def Inv.xh{its its':v4}(I:δ)(hH:H l=some γh)
 (e:s.heap.get? l=some {cls:=.type "list",data:=.seq its.toArray n}) (hf:f its.toArray=its'.toArray) (hv:Vals ys its') (hz:ys.length<=sizeLine) :
 Inv X pins σ (upd H l εi) {s with heap:=s.heap.update l (Obj.mapSeq f),toks:=t'}:=by have q:=PySem.IsL.update e f;rw[hf]at q;refine I.write (x:=l) (e:=l) (by rw[hH];exact trivial) γJ (λb' u hb hu=>(qaU s.heap (Obj.mapSeq f) (qa5 hb)).trans hu) ⟨_,q⟩ ?_;exact⟨hz,its',_,hv,q⟩
def Inv.qI(I:δ)(hv:Vals ys its)(hz:ys.length<=sizeLine) :
 Inv X pins σ (upd H s.heap.objs.size εi) {s with heap:=s.heap.push {cls:=.type "list",data:=.seq its.toArray},toks:=t'}:=
 I.laid (λ_ _ q=>qab _ q) γI ⟨hz,its,0,hv,qar _ rfl⟩
def Inv.fresh(I:δ):H s.heap.objs.size=none:=I.hok.fresh γI
def Inv.aD(I:δ)(hH:H l=some γh):xs.length<=sizeLine/\∃(its:v4) (n:Nat),Vals xs its/\xs.length=its.length/\s.heap.get? l=some {cls:=.type "list",data:=.seq its.toArray n}:=by obtain⟨z,its,n,r,e⟩:=I.hok l _ hH;exact⟨z,its,n,r,r.length,e⟩
def Kb(h:n<=sizeLine):Builtin.List.listTooLong n=false:=by unfold Builtin.List.listTooLong;exact qaY ω
end
section
variable{X:Cx}
def Kc:V->List V->Hp->VK->Prop:=λx vs H Q=>∃l xs y,x=.ref l/\vs=[y]/\H l=some γh/\xs.length<sizeLine/\Q .aq (upd H l (.lst (xs++[y])))
def xi:Ka X "list.append" Kc:=by intro pins s σ H x vs v us Q I rx rv h;obtain⟨l,xs,y,rfl,rfl,hH,hz,q⟩:=h;cases rx;obtain⟨u,rfl,ru⟩:=rv.one;obtain⟨z,its,n,r,hl,e⟩:=I.aD hH;refine call_meets F.slot_list_append ⟨_,e,rfl⟩ F.entry_list_append (F.args_list_append_2 _ _) (PySem.list_append l its.toArray n u (by rw[qaQ];omega)) ⟨e,?_⟩;refine⟨.aq,_,I.xh (its':=its++[u]) hH e (by simp) (r.append (.cons ru .nil)) ?_,rfl,q⟩;rw[qam,List.length_singleton];omega
def Ke:V->List V->Hp->VK->Prop:=λx vs H Q=>∃l b xs zs,x=.ref l/\vs=[.ref b]/\H l=some γh/\H b=some (.lst zs)/\xs.length+zs.length<=sizeLine/\Q .aq (upd H l (.lst (xs++zs)))
def SS:Ka X "list.extend" Ke:=by
 intro pins s σ H x vs v us Q I rx rv h;obtain⟨l,b,xs,zs,rfl,rfl,hH,hB,hz,q⟩:=h;cases rx;obtain⟨u,rfl,ru⟩:=rv.one;cases ru;obtain⟨z,its,n,r,hl,e⟩:=I.aD hH;obtain⟨z2,its2,n2,r2,hl2,e2⟩:=I.aD hB;have hsz:its.toArray.size+its2.toArray.size<=sizeLine:=by rw[qaQ,qaQ];omega
 have oO:¬(!its.toArray.isEmpty&&Builtin.List.listTooLong (its.toArray.size+its2.toArray.size))=true:=by rw[Kb hsz,Bool.and_false];exact qat
 refine call_meets F.slot_list_extend ⟨_,e,rfl⟩ F.entry_list_extend (F.args_list_extend_2 _ _)
  (AutoSeq1.list_extend_list_list_0 l its.toArray n b its2.toArray n2 oO (by rw[qaQ];omega) ω) ⟨e,e2,?_⟩
 refine⟨.aq,_,I.xh (its':=its++its2) hH e (by simp) (r.append r2) ?_,rfl,q⟩;rw[qam];omega
def Kf:R2:=λx y H Q=>∃l b xs zs,x=.ref l/\y=.ref b/\H l=some γh/\H b=some (.lst zs)/\xs.length+zs.length<=sizeLine/\∀p,H p=none->Q γO (upd H p (.lst (xs++zs)))
def tT:cK X ε9 Kf:=by
 intro pins s σ H x y v u Q I rx ry h;obtain⟨l,b,xs,zs,rfl,rfl,hH,hB,hz,q⟩:=h;cases rx;cases ry;obtain⟨z,its,n,r,hl,e⟩:=I.aD hH;obtain⟨z2,its2,n2,r2,hl2,e2⟩:=I.aD hB;refine PySem.P.add_list e e2 ?_ (by rw[qaQ,qaQ];omega);have ea:its.toArray++its2.toArray=(its++its2).toArray:=by simp
 rw[ea];exact⟨.ref _,_,I.qI (t':=s.toks) (r.append r2) (by rw[qam];omega),rfl,q _ I.fresh⟩
def Kg:R2:=λx y H Q=>∃l k xs,x=.ref l/\y=.int k/\H l=some γh /\ -(2 ^ 63)<=k/\k<2 ^ 63/\xs.length*k.toNat<=sizeLine /\
 ∀p,H p=none->Q γO (upd H p (.lst (List.replicate k.toNat xs).flatten))
def len_rep{α:Type}(xs:δ5)(k:Nat):(List.replicate k xs).flatten.length=k*xs.length:=by
 induction k with
 |zero=>simp
 |succ k ih=>rw[qbg,qbP,qam,ih,Nat.succ_mul,Nat.add_comm]
def rO:cK X (binaryOp .Mult) Kg:=by
 intro pins s σ H x y v u Q I rx ry h;obtain⟨l,k,xs,rfl,rfl,hH,h1,h2,hz,q⟩:=h;cases rx;obtain⟨t,rfl⟩:=ry;obtain⟨z,its,n,r,hl,e⟩:=I.aD hH;have hlen:its.toArray.size*k.toNat<=sizeLine:=by rw[qaQ,<-hl];exact hz
 have Eb:¬its.toArray.size*k.toNat>(2 ^ 63-1)/8:=by
  have:(sizeLine:Nat)<=(2 ^ 63-1)/8:=by decide
  omega
 have hfit:¬(!Builtin.List.listFitsIndex k)=true:=by rw[fitsIndex_both h1 h2];exact qat
 have oO:¬Builtin.List.listTooLong (its.toArray.size*k.toNat)=true:=by rw[Kb hlen];exact qat
 have hnew:List.foldl (λx1 x2=>x1++x2) #[] (List.replicate (if its.toArray.isEmpty=true then 0 else k.toNat) its.toArray)=(List.replicate k.toNat its).flatten.toArray:=by
  have f0:∀m:Nat,List.foldl (λx1 x2=>x1++x2) #[] (List.replicate m its.toArray)=(List.replicate m its).flatten.toArray:=λm=>by have:=foldl_rep its m [];rw[List.nil_append]at this;exact this
  rw[f0];cases its with
  |nil=>simp
  |cons a r'=>rw[qax (by simp)]
 refine wpAny_binaryOp_repeat_ref (T:= "list") (U:= "int") ξ ⟨_,e,rfl⟩ (λs'=>typeIs_int s' k t) noFill_list_mul F.fills_int_mul F.slot_int_rmul repeat_list F.slot_int_index.lookup
  (call_meets F.slot_int_rmul (typeIs_int s k t) F.entry_int_rmul (F.args_int_rmul_2 _ _) (int___rmul___int_list k t l its.toArray n)
   ⟨e,rfl,⟨_,e,rfl⟩,call_meets F.slot_list_mul ⟨_,e,rfl⟩ F.entry_list_mul (F.args_list_mul_2 _ _) (AutoListH.list___mul___list_int_3 l its.toArray n k t hfit Eb oO) ⟨e,?_⟩⟩)
 rw[hnew];exact⟨.ref _,_,I.qI (t':=s.toks) (r.rep k.toNat) (by rw[len_rep,Nat.mul_comm];exact hz),rfl,q _ I.fresh⟩
end
end L2
namespace Kh
open PySem PySem.W PySem.Calls PyProof.Rows
def SU:∀(ns:u8) (vs:v4),WellAll P h vs (ns.map WData.int)->IntsAre vs ns:=by
 intro ns;induction ns with
 |nil =>
   intro vs w;rw[List.map_nil]at w;cases w;exact .nil
 |cons n ns ih =>
   intro vs w;rw[qaP]at w;cases w with
   |cons a b =>
     cases a;exact .cons _ _ (ih _ b)
def SV{l:OpenLaw}(hn:l.most=some n)
 (hpre:l.row.toRowW.claim.pre args=true) (hwl:WellAll P h vals args) :
 ∃a vs ns,vals=[Value.ref a]/\args=[WData.list (ns.map WData.int)]/\h.get? a=some {cls:=.type "list",data:=.seq vs.toArray}/\IntsAre vs ns/\ns.length<=n:=by
 have hsh:WShape.hasAll [] args [.list .int]=true:=(pre_splitW hpre).1;have hc:l.pre.holds [] {args:=args}=true:=(pre_splitW hpre).2;obtain⟨d,r,rfl,h1,h2⟩:=hasAllW_cons hsh;obtain rfl:=hasAllW_nil h2;obtain⟨xs,rfl,h3⟩:=hasW_list h1;obtain⟨ns,rfl⟩:=items_int h3
 have hlen:ns.length<=n:=by
  unfold OpenLaw.pre at hc
  have h4:(WTm.not (.lt (.lit (.int (n:Int))) (.len (.arg 0)))).holds [] {args:=[.list (ns.map .int)]}=true:=by have h4:=(holds_andW hc).1;rw[hn]at h4;exact h4
  have h5:=condW_of h4 (w_not (w_lt w_lit (w_len_list (w_arg rfl))));rw[qag]at h5;refine Nat.le_of_not_lt λq=>?_;have q':(n:Int)<((ns.length:Nat):Int):=by omega
  first
   | (rw[qaN q']at h5;exact absurd h5 ξ)
   | (simp at h5;omega)
 cases hwl with
 |cons w1 w2 =>
   cases w2;cases w1 with
   |list ho hall=>exact⟨_,_,ns,rfl,rfl,ho,SU ns _ hall,hlen⟩
def SW(l:OpenLaw)(args:List WData):l.row.toRowW.claim.post args δ9 args=true:=
 postW_of (r:=l.row.toRowW) (X:=(true == true))
  (show WShape.has [] δ9 .bool=true by first|rfl|decide|simp[WShape.has,WShape.arms,WShape.armsAll])
  (show(WTm.eq .res (.lit δ9)).value [] {args:=args,res:=some δ9,after:=args}=some (.bool (true == true)) from w_eq_bool (w_res rfl) w_lit) rfl
def j8{l:OpenLaw}{d:DefRec}
 (hn:l.most=some n) (hdf:d.params.defaults=[])
 (call:∀(w:World) (s₀ aF:Shared) (mg mb:M2) (fa:Addr) (o:Obj) (pm cd doc:Value) (a:Addr) (vs:v4) (ns:u8),
  Ground q loose [] XP w s₀ mg mb aF.heap->YP w aF.heap ->
  aF.heap.get? fa=some o->o.data=.func (docDef d.name d.params d.body d.scope pm cd doc)->aF.heap.CodeRec cd d.name->mg d.name=some θl ->
  aF.heap.get? a=some {cls:=.type "list",data:=.seq vs.toArray}->IntsAre vs ns->ns.length<=n->aF.gens=#[] ->
  codeAny (model l.prog w) callerA (.call θl ⟨[.ref a],[]⟩) (λr s'=>r=.ok (.ret δ9)/\OldK aF.heap s'.heap/\s'.os=aF.os/\AllBare s'.gens) aF) :
 WalkO q loose XP YP l.row.toRowW d [] (λf vs=>PySem.call f vs):=by intro w s₀ aF mg mb G Y fa o pm cd doc dV kV ho hd hcd hD hmg hg args vals as hpre hlay hrd hwl hlo;obtain rfl:dV=.none:=Dflts.none hD hdf;obtain rfl:kV=.none:=Dflts.noKw hD;obtain⟨a,vs,ns,rfl,rfl,hobj,hints,hlen⟩:=SV hn hpre hwl;refine enter_call (codeAny_mono (call w s₀ aF mg mb fa o pm cd doc a vs ns G Y ho (fd_plain hd) hcd hmg hobj hints hlen hg) λr s' hq=>?_);obtain⟨rfl,h2,h3,h4⟩:=hq;exact⟨.inl ⟨.bool true,.bool true,[],rfl,λ_=>rfl,.bool true,SW l _,λ_=>⟨List.Pairwise.nil,λ_ hm=>(nomatch hm)⟩⟩,h2,h3,h4⟩
end Kh
namespace L2
open PySem PySem.Spec PyProof.Rows
def Ki(h:IntsAre vs ns):Vals γN vs:=by
 induction h with
 |nil=>exact .nil
 |cons n t h ih=>exact .cons ⟨t,rfl⟩ ih
def Ec(H:Hp):Prop:=∀b,H b=none\/∃o xs,H b=some (.ae o γh)
def SX{K:zze}{aF:Shared}{vs:v4}
 (KX:K.In aF.heap) (hns:aF.heap.Ns mainGlobals mg) (hb:aF.heap.Ns builtinsNs mb) (SY:∀x:Str,x≠"__name__" -> mb x=bootBuiltins x) (hlim:aF.heap.NoLimit) (hg:aF.gens=#[])
 (ha:aF.heap.get? a=some {cls:=.type "list",data:=.seq vs.toArray}) (hi:IntsAre vs ns) (hl:ns.length<=sizeLine) (hr:aH k callerA)
 (F:∀base:Heap,K.In base->base.Ns mainGlobals mg->bB P w K mg base CX k fa fd [x] sp) (hbind:∀(s:Shared) (u:Value),BindsTo s fd ⟨[u],[]⟩ [(x,u)])
 (hsp:∀H:Hp,Ec H->cJ K H a γN->sp [.ref a] H (λv _=>v=.bl true) λ_ _ _=>False)
 (Ed:∀H e s',CX [] H aF (λ_ _ _=>False) e s'->False) :
 codeAny εT callerA (.call θl ⟨[.ref a],[]⟩) (λr s'=>r=.ok (.ret δ9)/\OldK aF.heap s'.heap/\s'.os=aF.os/\AllBare s'.gens) aF:=by
 have rv:=Ki hi;have lenV:=hi.length
 have core:∀H:Hp,Ec H->cJ K H a γN->dZ P w H aF.heap->(∀b,H b≠none->b=a)->(H a≠none->K.lookup a=none) ->
  codeAny εT callerA (.call θl ⟨[.ref a],[]⟩) (λr s'=>r=.ok (.ret δ9)/\OldK aF.heap s'.heap/\s'.os=aF.os/\AllBare s'.gens) aF:=by
  intro H hO hS hok hA hK;have mz:∀{b:Addr}{o:Obj},aF.heap.get? b=some o->H b=none->(qB aF.heap H).get? b=some o:=λe n=>QS e n
  have xg:∀{b:Addr}{o:Obj}{es:Array DictEntry}{ep:Nat},aF.heap.get? b=some o->o.data=.dict es ep->H b=none:=λ{b o es ep} e d=>by
   cases q:H b with
   |none=>rfl
   |some u =>
     have e':b=a:=hA b (by rw[q];simp);subst e';rw[ha]at e;cases e;have d':Data.seq vs.toArray _=Data.dict es ep:=d;cases d'
  have AJ:∀{b:Addr}{m:M2},aF.heap.Ns b m->(qB aF.heap H).Ns b m:=λ{b m} ⟨o,es,ep,e,d,r⟩=>⟨o,es,ep,mz e (xg e d),d,r⟩
  have Kj:K.In (qB aF.heap H):=λb o e=>mz (KX b o e) (by
   cases q:H b with
   |none=>rfl
   |some u =>
     have e':b=a:=hA b (by rw[q];simp);subst e';rw[hK (by rw[q];simp)]at e;cases e)
  have hM:Mod K mg (qB aF.heap H):=⟨Kj,AJ hns,⟨mb,AJ hb,SY⟩,let ⟨mc,h1,h2⟩:=hlim; ⟨mc,AJ h1,h2⟩⟩;have e0:lE P w K mg (qB aF.heap H) callerA [] aF H:=⟨rfl,hM,λb o e=>QT e,Nat.le_of_eq (QR _ _),trivial,λb hb=>absurd (show b∈([]:zzd) from hb) (by simp),hok,.of_eq hg⟩;refine codeAny_mono ((F _ Kj (AJ hns)).run callerA [] aF H ⟨[.ref a],[]⟩ [.ref a] [.ref a] _ _ hr e0 (hbind aF γz) (.cons rfl .nil) (hsp H hO hS)) λr s' h=>?_;cases r with
  |error e=>exact(Ed H e s' h).elim
  |ok fl =>
    cases fl with
    |next=>exact False.elim h
    |brk=>exact False.elim h
    |cont=>exact False.elim h
    |ret u =>
      obtain⟨v,H',os,bare,un,hok',r',q⟩:=h;have q':v=.bl true:=q;subst q';obtain rfl:u=Value.bool true:=r';refine⟨rfl,OldK.of_keep λb o e=>?_,os,bare⟩;cases q:H b with
      |none=>exact un.keep b o e q (by intro z;exact absurd (show b∈([]:zzd) from z) (by simp)) (by simp)
      |some u =>
        rcases hO b with z|⟨ob,xs,z⟩
        .rw[q]at z;cases z
        .have z2:=un.gL b ob _ z;obtain⟨e1,_⟩:=hok b _ z;obtain⟨e2,_⟩:=hok' b _ z2;rw[e]at e1;cases e1;exact e2
 cases hk:K.lookup a with
 |some o =>
   have e:=KX a o hk;rw[ha]at e;cases e;refine core (λ_=>none) (λ_=>.inl rfl) (.inr ⟨_,vs.toArray,_,hk,rfl,rfl,rfl,by rw[qaQ,lenV];exact hl,by simpa using rv⟩) (λb u z=>by have z':(none:Option HO)=some u:=z;cases z') (λb z=>absurd rfl z) λz=>absurd rfl z
 |none =>
   refine core (λb=>if b=a then some (.ae {cls:=.type "list",data:=.seq vs.toArray} (.lst γN)) else none) (λb=>?_) (.inl (.inr ⟨{cls:=.type "list",data:=.seq vs.toArray},qaz rfl⟩)) (λb u z=>?_) (λb z=>?_) λ_=>hk
   .by_cases hb:b=a
    .exact .inr ⟨_,_,qaz hb⟩
    .exact .inl (qax hb)
   .by_cases hb:b=a
    .have z':=(qaz hb).symm.trans z;cases z';subst hb;exact⟨ha,by rw[qag];exact hl,vs,_,rv,ha⟩
    .have z':=(qax hb).symm.trans z;cases z'
   .by_cases hb:b=a
    .exact hb
    .exact absurd (qax hb) z
def qJ{l:W.OpenLaw}{n k:Nat}{q:Program}{loose:v6}{XP:(M2)->Heap->Prop}{YP:World->Heap->Prop}{d:DefRec}{K:Params->zze}{CX:World->oJ}{sp:World->Sp}{x:Str}
 (hn:l.most=some n) (hn2:n<=sizeLine) (hdf:d.params.defaults=[]) (hr:aH k callerA)
 (hY:∀(w:World) (h:Heap),YP w h->(K w.params).In h)
 (F:∀(w:World) (mg:M2) (fa:Addr) (h:Heap),(K w.params).In h->h.Ns mainGlobals mg->mg d.name=some θl ->
  ∃fd:FuncData,(∀(s:Shared) (u:Value),BindsTo s fd ⟨[u],[]⟩ [(x,u)]) /\
   ∀base:Heap,(K w.params).In base->base.Ns mainGlobals mg->bB l.prog w θi mg base (CX w) k fa fd [x] (sp w))
 (hsp:∀(w:World) (H:Hp) (a:Addr) (ns:u8),ns.length<=n->Ec H->cJ θi H a γN->sp w [.ref a] H (λv _=>v=.bl true) λ_ _ _=>False)
 (Ed:∀(w:World) (H:Hp) (s:Shared) (e:Value) (s':Shared),CX w [] H s (λ_ _ _=>False) e s'->False) :
 W.WalkO q loose XP YP l.row.toRowW d [] (λf vs=>PySem.call f vs):=by refine Kh.j8 hn hdf λw s₀ aF mg mb fa o pm cd doc a vs ns G Y ho hd hcd hmg hobj hints hlen hg=>?_;have KX:=hY w _ Y;obtain⟨fd,hb,hF⟩:=F w mg fa _ KX G.T.g hmg;exact SX KX G.T.g G.T.b G.T.builtins G.T.nolimit hg hobj hints (qaJ hlen hn2) hr hF hb (λH hO hS=>hsp w H a ns hlen hO hS) λH e s'=>Ed w H aF e s'
noncomputable def inClass(s:Stmt)(j:Nat):Stmt:=match s with
 |.ClassDef _ _ _ body _ _ _ _ _ _ _=>body.getD j (.Pass ⟨0,0,0,0⟩)
 |_=>.Pass ⟨0,0,0,0⟩
noncomputable def aZ(s:Stmt):Arguments:=match s with
 |.FunctionDef _ a _ _ _ _ _ _ _ _=>a
 |_=>{posonlyargs:=[],args:=[],vararg:=none,kwonlyargs:=[],kw_defaults:=[],kwarg:=none,defaults:=[]}
noncomputable def af(s:Stmt):List Stmt:=match s with
 |.FunctionDef _ _ b _ _ _ _ _ _ _=>b
 |_=>[]
noncomputable def aa(s:Stmt):Scope:=match s with
 |.FunctionDef _ _ _ _ _ _ sc _ _ _=>sc
 |_=>{kind:=.function,names:=[],isGenerator:=false,isCoroutine:=false}
abbrev jt:oJ:=λ_ _ _ _ _ _=>False
abbrev E0:XK:=λ_ _ _=>False
def Ee:xf jt X E0:=λ_ _ _ _ _ _ _ h=>h.elim
structure nP(K:zze)(x qual:Str)(st:Stmt)(f:Addr)(fd:FuncData):Prop where
 ex:∃(oc:Value) (od:δa) (kV doc pm:Value) (an:δa) (cdv ct:Value) (osl:η4),
  fd=W.fnOf x qual (aZ st) ηo δy .none kV doc pm an cdv ct/\K.lookup f=some ⟨oc,od,.func fd,osl⟩/\W.codeIn K cdv qual=true
 kp:W.keepIn K γ0=true
section
variable{P:Program}{w:World}{K:zze}{mg:M2}{base:Heap}
def nP.ok{x qual:Str}{st:Stmt}{f:Addr}{fd:FuncData}{N ps:v6}{k:Nat}{sp:Sp}(F:nP K x qual st f fd)(S:ηY)(len:∀vs H Q E,sp vs H Q E->vs.length=ps.length)
 (hbody:∀(cdv:Value) (A:Around) (outer:δu) (s:Shared) (H:Hp) (vs:γv) (Q:VK) (E:XK),aH k (A.deeper (envOfC qual δy s.heap.objs.size f cdv))->sp vs H Q E ->
  ∃t,PSs (k9 jt P w K mg base N qual δy f cdv A outer s H E).qD ηo t/\t {nx:=λ_ H'=>Q .aq H',rt:=Q} η9 H):bB P w K mg base jt (k+1) f fd ps sp:=by
 obtain⟨oc,od,kV,doc,pm,an,cdv,ct,osl,rfl,lk,hcd⟩:=F.ex
 refine D8 lk hcd S len λA outer s H vs Q E hr hsp=>?_
 obtain⟨t,h,q⟩:=hbody cdv A outer s H vs Q E hr hsp
 exact⟨t,h.qD,q⟩
def nP.binds{x qual:Str}{st:Stmt}{f:Addr}{fd:FuncData}{ps:v6}(F:nP K x qual st f fd)
 (h:∀(kV doc pm:Value) (an:δa) (cdv ct:Value) (us:v4),us.length=ps.length->bindArgs δg ⟨us,[]⟩=pure εs):Binds K fd ps []:=by obtain⟨oc,od,kV,doc,pm,an,cdv,ct,osl,rfl,lk,hcd⟩:=F.ex;exact .all (h kV doc pm an cdv ct)
def oP{x qual:Str}{st:Stmt}{f:Addr}{oc:Value}{od an:δa}{osl:η4}{kV doc pm cdv ct:Value}(l:K.lookup f=some ⟨oc,od,.func δg,osl⟩)
 (c:W.codeIn K cdv qual=true) (k:W.keepIn K γ0=true):nP K x qual st f δg:=⟨⟨oc,od,kV,doc,pm,an,cdv,ct,osl,rfl,l,c⟩,k⟩
end
section
variable{X:Cx}
def pv(i:Nat){x:Str}{pos:Pos}(hN:X.N[i]?=some x:=by rfl)(hv:wR X.env.scope x:=by first|exact Or.inl rfl|exact Or.inr (Or.inl rfl)|exact Or.inr (Or.inr rfl))(hd:(x == ("__debug__":Str))=false:=by decide)
 (hcd:(x == ("__classdict__":Str))=false:=by decide):PE X εj (u3 i):=Ji hN hv hd hcd
end
def rQ{A B:Prop}(h:B):if false=true then A else B:=by rw[qax qat];exact h
def rT{A B:Prop}(h:A):if true=true then A else B:=by rw[qaz rfl];exact h
def ag(H H':Hp):Prop:=∀b o,H b=some o->H' b=some o
def ag.refl(H:Hp):ag H H:=λ_ _ h=>h
def ag.trans(a:ag H H1)(b:ag H1 H2):ag H H2:=λc o h=>b c o (a c o h)
def ag.free(e:ag H H')(h:H' l=Option.none):H l=Option.none:=by
 cases q:H l with
 |none=>rfl
 |some o =>
   rw[e l o q]at h;cases h
def ag.seq{K:zze}{H H':Hp}{a:Addr}{xs:γv}(e:ag H H')(h:cJ K H a xs):cJ K H' a xs:=by
 rcases h with (h|⟨o,h⟩)|h
 .exact .inl (.inl (e _ _ h))
 .exact .inl (.inr ⟨o,e _ _ h⟩)
 .exact .inr h
end L2
namespace Ex
open PySem PySem.Spec PyProof.Rows PySem.W
structure XB(B ini:String)(up:v4):Prop where
 mroIs:mroOf ιp=pure up
 hasB:up.contains ιp=true
 noAttr:up.contains (.type "AttributeError")=false
 noName:up.contains (.type "NameError")=false
 slot:Slot B "__init__" ini
 entry:entryFor table ini=some Builtin.«BaseException.__init__»
 split:splitId ini=some (B,"__init__")
 kind:builtinKind ini=some .slot
 row:Manifest.signature? ini=some ⟨.positional,"*",B,.self,[⟨"args",.varPos,false⟩]⟩
 star:(B != "*")=true
def XB.of(f:ExcBaseFacts B nw ini up):XB B ini up:=⟨f.mroIs,f.hasB,f.noAttr,f.noName,f.init,f.initEntry,f.initSplit,f.initKind,f.initRow,f.noStar⟩
noncomputable def u7(h:Heap)(C:Addr)(as:v4):Heap:=
 (h.push {cls:=.type "tuple",data:=.seq as.toArray}).push {cls:=.ref C,data:=.fields #[.ref h.objs.size,.none,.none,.none,.bool false,.none]}
def AL{h:Heap}:∀b o,h.get? b=some o->(u7 h C as).get? b=some o:=λb o e=>qab _ (qab _ e)
def Kk:(u7 h C as).get? (h.objs.size+1)=some {cls:=.ref C,data:=.fields #[.ref h.objs.size,.none,.none,.none,.bool false,.none]}:=
 Heap.get?_push_at (by rw[Heap.size_push]) rfl
section
variable{prog:Program}{w:World}{A:Around}{E:T0}{h:Heap}{g:Array GenState}{d:Drawn}{t:Nat}{os:OsState}{nm qn:Str}{C N:Addr}{bs tl up un:v4}{hd:Bool}{sn:v6}{sub:v4}{ab:Bool}{col:Option Bool}
 {dd:δa}{j0 j1 j2 j3 j5:zzb}{B D nw ini qK:String}{K:Frag}{fI:Addr}{as:v4}
def S1(fn:η3)(hD:up.contains (.type D)=true)(F:XB B ini up)(T:OwnTail h up tl)(hC:h.get? C=some εU)
 (hl:as.length<=sizeLine) (q:R (.ok (.ret (.ref (h.objs.size+1)))) ⟨u7 h C as,g,d,t,os⟩):codeAny ε A (.builtin nw ⟨.ref C::as,[]⟩) R ⟨h,g,d,t,os⟩:=by
 have isIn:∀{n:String}{b:Bool},up.contains (.type n)=b->(Value.ref C::tl).contains (.type n)=b:=λ{n b} e=>by rw[List.contains_cons,T.hasType e];exact Bool.false_or _
 have c1:=isIn hD;have c2:=isIn F.noAttr;have c3:=isIn F.noName;have ends:=fn.ends;apply codeAny_builtinAt fn.entry;delta Builtin.«BaseException.__new__»;apply PySem.wpAt_bind;change PySem.wpAt _ _ _ (stack >>= _) _ _ _;apply PySem.wpAt_bind;apply PySem.wpAt_stack;intro p below;apply PySem.wpAt_of_wpAny;wp_walk;apply PySem.wpAt_of_wpAny;rw[fn.owner]
 repeat (first
  | (with_reducible apply wpAny_madeHere_exc fn.canon hC)
  | (with_reducible apply qbz hC)
  | (with_reducible apply wpAny_isSubtype_exc hC;first|rw[c1]|rw[c2]|rw[c3])
  |wp_step)
 change R _ _;rw[Heap.size_push];exact q
def S4(fn:η3)(hD:up.contains (.type D)=true)(F:XB B ini up)(T:OwnTail h up tl)(X:K.In h)(hC:h.get? C=some εU)
 (at_:findIn K γb "__init__" = some (some iv)) (bd:Looks ε (u7 h C as) (bindSpecial iv (.ref (h.objs.size+1))) (iv,[.ref (h.objs.size+1)])) (hl:as.length<=sizeLine)
 (q:wpAny ε (A.under (.builtin "type.__call__" ⟨.ref C::as,[]⟩)) (call iv (.ref (h.objs.size+1)::as)) (λr s'=>r=.none/\Q (.ref (h.objs.size+1)) s') E ⟨u7 h C as,g,d,t,os⟩) :
 wpAny ε A (call γb as) Q E ⟨h,g,d,t,os⟩:=by
 have look:=tc_lookup;have bnd:=tc_bind γb;have tyC:(⟨h,g,d,t,os⟩:Shared).TypeIs γb "type":= ⟨_,hC,rfl⟩;have X':K.In (u7 h C as):=X.keeps AL;have hC':=AL (as:=as) (C:=C) _ _ hC;have self:(Value.ref C::tl).contains γb=true:=by rw[List.contains_cons,beq_self_eq_true];exact Bool.true_or _
 apply wpAny_call;apply codeAny_of_tree;change wpAny _ _ (callAny γb _) _ _ _
 repeat (any_goals (first|assumption| (with_reducible apply qbz hC)|wp_step))
 constructor
 .rfl
 apply codeAny_call_builtin_at (Code.quiet_builtin _ (by decide +kernel)) entry_typeCall;apply wpAny_check_type_call_sub hC
 repeat (first| (with_reducible apply qbz hC)| (with_reducible apply wpAny_madeBy_exc hC)|wp_step)
 apply codeAny_call_builtin_code (Code.quiet_builtin _ fn.quiet);apply wpAny_check_new_subU fn hD T hC;apply S1 fn hD F T hC hl;change wpAny _ _ _ _ _ _;delta isInstance
 repeat (first| (with_reducible apply qbz Kk)| (with_reducible apply wpAny_isSubtype_exc hC';rw[self])|wp_step)
 change wpAny _ _ (typeLookup γb _) _ _ _;apply (looks_findIn X' at_).here (s:=⟨_,g,d,t,os⟩);apply qbh;apply qaa;apply bd.here (s:=⟨_,g,d,t,os⟩);apply qaa;apply qa6 q
 .rintro r s' ⟨rfl,k⟩;wp_walk;exact k
 .exact λ_ _ z=>z
end
end Ex
namespace Ex
open PySem PySem.Spec PyProof.Rows PySem.W PySem.Calls Builtin Builtin.ObjectAttr
structure XC(K:Frag)(C:Addr):Prop where
 ga:findIn K γb "__getattribute__" = some (some (.builtin "BaseException.__getattribute__"))
 gt:findIn K γb "__getattr__" = some none
 sa:findIn K γb "__setattr__" = some (some (.builtin "object.__setattr__"))
 be:mroIn K C (.type "BaseException")=some true
 ob:mroIn K C (.type "object")=some true
 pass:∃cd,clsIn K C=some cd/\cd.hasDict=true/\∀self,refuseLoop self "__setattr__" cd.mro=pure ()
 ca:findIn K γb "__class__" = some (some (.builtin "object.__class__"))
 cg:specialIn K (.builtin "object.__class__") "__get__" = some (some (.builtin "getset_descriptor.__get__"))
 ct:takesIn K (.builtin "object.__class__")=some true
 kc:kitCls K γb γb=some true
section
variable{prog:Program}{w:World}{A:Around}{E:T0}{s:Shared}{K:Frag}{x C:Addr}{ox:Obj}{od:Option Obj}{n:Str}{ex fl:Bool}{tk:Tok}
def Kl(X:δL)(I:εh)(c:XC K C)
 (k:wpAny ε A.in1 (Builtin.«object.__getattribute__» ⟨[.ref x,.str n tk],[]⟩) (λr s'=>∃v,r=.done (.ret v)/\wpAny ε A (handedOut v) Q E s') (λ_ _=>False) s) :
 wpAny ε A (getAttrBy δH (.str n tk) fl ex) Q E s:=by
 have noObj:(Value.builtin "BaseException.__getattribute__" == Value.builtin "object.__getattribute__")=false:=by decide +kernel
 have SL:=PySem.F.attr_ValueError.ga;have hook:Looks ε s.heap (hookBefore γb) none:=looks_hook X (mc:=.ref C) (show findIn K γb "__getattr__" = some none from c.gt);apply qbh;apply qaa;apply I.type.here;apply qaa;apply (looks_findIn X c.ga).here;dsimp only;rw[noObj,Bool.and_false,qax qat];apply qaa;apply hook.here;apply qaa;apply wpAny_attempt;apply qbh;unfold callGetattribute;rw[show(ex&&onTheHeap (Value.builtin "BaseException.__getattribute__"))=false from Bool.and_false ex,qax qat];unfold boundAndCalled;rw[SL.bind];apply qaa;apply qad;change wpAny _ _ (call (.builtin "BaseException.__getattribute__") [.ref x,.str n tk]) _ _ _;apply wpAny_call;apply codeAny_call_builtin SL.plain PySem.F.entry_bexc_ga;apply @check_slot ε A.in1 _ s "BaseException.__getattribute__" "BaseException" "__getattribute__" δH [.str n tk] []
 .decide +kernel
 .decide +kernel
 .exact I.type.andThen (looks_mroIn X c.be)
 .exact PySem.F.args_bexc_ga _ _
 .exact qa6 k (λr s' ⟨v,e,z⟩=>by subst e;exact z) λ_ _ z=>z.elim
def S5(X:δL)(I:εh)(c:XC K C)(hf:findObj K C od n=some (.value v))(hh:handedIn v=true)(q:Q v {s with toks:=s.toks+1}) :
 wpAny ε A (getAttr δH n ex) Q E s:=by apply qaa;apply wpAny_mkText;apply Kl (s:={s with toks:=s.toks+1}) X I c;delta Builtin.«object.__getattribute__»;apply qaa;apply qad;apply qaa;apply qad;apply qaa;apply I.type.here (s:={s with toks:=s.toks+1});apply qaa;apply (looks_find X I hf).here (s:={s with toks:=s.toks+1});exact qad ⟨v,rfl,by rw[handedOut_of hh];exact qad q⟩
def S6(X:δL)(I:εh)(c:XC K C)(q:Q (some γb) {s with toks:=s.toks+1}):wpAny ε A (getAttr? δH "__class__") Q E s:=by
 obtain⟨cd,hc,_,_⟩:=c.pass
 have S7:findObj K C od "__class__" = some (.bind (.builtin "getset_descriptor.__get__") (.builtin "object.__class__")):=by unfold findObj;rw[hc,Option.bind_some,c.ca,Option.bind_some];dsimp only;rw[c.cg,Option.bind_some];dsimp only;rw[c.ct,Option.bind_some]
 apply qaa;apply wpAny_mkText;apply qaa;apply wpAny_attempt;apply Kl (s:={s with toks:=s.toks+1}) X I c;delta Builtin.«object.__getattribute__»;apply qaa;apply qad;apply qaa;apply qad;apply qaa;apply I.type.here (s:={s with toks:=s.toks+1});apply qaa;apply (looks_find X I S7).here (s:={s with toks:=s.toks+1});change wpAny _ _ (holding [_] (call (.builtin "getset_descriptor.__get__") [.builtin "object.__class__",.ref x,.ref C]) >>= ret) _ _ _;apply qaa;apply qbh;apply wpAny_call;exact class_get (s:={s with toks:=s.toks+1}) (ox:=ox) (od:=od) X I c.ob (qad ⟨_,rfl,handed_on rfl (qad q)⟩)
end
theorem Km{K:Frag}{x C:Addr}(c:XC K C):KitX K δH γb (λh=>∃ox od,InstAt h x ox C od) where
 ty:=λ_ _ _ ⟨_,_,I⟩=>I.type
 it:=λ_ _ X _=>(kit_cls X c.kc).2.1
 ne:=λh tp _ _ _ _ X e=>by
  obtain⟨cd,hc,_⟩:=c.pass;cases z:(Value.ref C == Value.ref tp) with
  |false=>rfl
  |true =>
    cases qau.mp z;unfold clsIn at hc;split at hc
    .rename_i a;cases (X _ _ a).symm.trans e
    .cases hc
 ca:=λX ⟨_,_,I⟩ k=>S6 X I c k
section
variable{prog:Program}{w:World}{A:Around}{E:T0}{s:Shared}{K:Frag}{x C:Addr}{ox:Obj}{od:Option Obj}{n:Str}{v:Value}
def Kn(X:δL)(I:εh)(c:XC K C)(none_:findIn K γb n=some none)
 (k:wpAny ε A.in1 (storeInOwnDict δH γb (.str n s.toks) n v false) (λr s'=>∃u,r=.done (.ret u)/\Q () s') E {s with toks:=s.toks+1}):wpAny ε A (setAttr δH n v) Q E s:=by
 have SO:=PySem.F.store_object;obtain⟨cd,hc,_,pass⟩:=c.pass;apply set_plain X I c.sa;apply codeAny_call_builtin SO.slot.plain SO.entry;apply @check_slot ε A.in1 _ {s with toks:=s.toks+1} "object.__setattr__" "object" "__setattr__" δH [.str n s.toks,v] [] _ SO.kind SO.split
 .exact I.type.andThen (looks_mroIn X c.ob)
 .exact SO.args _ _ _
 rw[osa_eq,refuse_eq];apply qaa;apply qaa;apply I.type.here (s:={s with toks:=s.toks+1});apply qaa;apply ((looks_clsIn X hc).andThen .now:Looks ε s.heap (mroOf γb) cd.mro).here (s:={s with toks:=s.toks+1});rw[pass];apply qad;apply qaa;apply I.type.here (s:={s with toks:=s.toks+1});apply qaa;apply (looks_findIn X none_).here (s:={s with toks:=s.toks+1});apply qaa;apply qad;exact qa6 k (λr s' ⟨u,e,z⟩=>by subst e;exact z) λ_ _ z=>z
def Ko(N:s.heap.Ns1 dx mA)(W:Within mA ks)(few:ks.length<sizeLine)
 (k:∀h' tk',Heap.SameBut dx s.heap h'->h'.Ns1 dx (λy=>if y=n then some v else mA y)->R (.done (.ret .none)) {s with heap:=h',toks:=tk'}):wpAny ε A (storeInDict dx (.str n tk) n v) R E s:=by
 unfold storeInDict newKeyGuard;apply qaa;apply qad;apply qaa;apply wpAny_nsSet1 N;intro h' N' sb;obtain⟨o,es,ep,ho,hd,le⟩:=N'.count (Within.cons n v W);apply qaa;apply wpAny_lookBehind ho
 .rw[hd];apply pastItsLine_dict;rw[qaW]at le;omega
 .exact qad (k h' _ sb N')
def Kp(hx:s.heap.get? x=some ox)(cl:ox.cls=.ref C)(hd:ox.data=.fields vs)(dict:match ox.dict,od with|some dx,some o=>s.heap.get? dx=some o|none,none=>True|_,_=>False):InstAt s.heap x ox C od:=
 ⟨hx,cl,by unfold notCls;rw[hd],dict⟩
def S9(X:δL)(hx:s.heap.get? x=some ox)(cl:ox.cls=.ref C)(hd:ox.data=.fields vs)(Ef:ox.dict=none)(c:XC K C)(none_:findIn K γb n=some none)
 (k:∀h' tk',(∀b o,b≠x->s.heap.get? b=some o->h'.get? b=some o)->h'.get? x=some {ox with dict:=some s.heap.objs.size}->h'.Ns1 s.heap.objs.size (λy=>if y=n then some v else none)->Q () {s with heap:=h',toks:=tk'}) :
 wpAny ε A (setAttr δH n v) Q E s:=by
 obtain⟨cd,hc,own,_⟩:=c.pass;apply Kn (od:=none) X (Kp hx cl hd (by rw[Ef];trivial)) c none_;obtain⟨p1,p2,p3,osl⟩:=ox;dsimp only at cl hd Ef;subst cl hd Ef;obtain⟨h,g,d,t,os⟩:=s;dsimp only at hx X k;have new:x≠h.objs.size:=qan (qai hx);have hx2:=qab emptyDict hx;unfold storeInOwnDict;apply qaa;apply qad;rw[qax (show ¬((Value.ref C == Value.type "module")=true) by intro z;cases qau.mp z)];change wpAny _ _ (instanceDict x true >>= _) _ _ _;unfold instanceDict;apply qaa;apply qaa;apply qbz hx;dsimp only;apply qaa;apply (looks_clsIn X hc).here (s:=⟨h,g,d,t+1,os⟩);rw[own,qax ξ];rw[qax (show ¬((!true || !typeHasDict γb)=true) from qat)];apply qaa;apply wpAny_alloc;apply qaa;apply wpAny_update hx2;apply qad;have gx:((h.push emptyDict).update x λo=>{o with dict:=some h.objs.size}).get? x=some ⟨.ref C,some h.objs.size,.fields vs,osl⟩:=Heap.get?_update_self _ hx2 rfl
 have gd:((h.push emptyDict).update x λo=>{o with dict:=some h.objs.size}).get? h.objs.size=some emptyDict:=by rw[qaU _ _ new];exact qar h rfl
 apply Ko (ks:=[]) (Heap.Ns1.of_empty ⟨_, #[],_,gd,rfl,(by intro e he;exact absurd he (by simp)),λ_=>rfl⟩) Within.nil (by rw[sizeLine_eq];decide);intro h' tk' sb N;refine⟨_,rfl,k h' tk' (λb o ne e=>?_) ((sb.2 x new).trans gx) N⟩;rw[sb.2 b (qan ηl),qaU _ _ (qa5 ne)];exact qab emptyDict e
def S_(X:δL)(hx:s.heap.get? x=some ox)(cl:ox.cls=.ref C)(hd:ox.data=.fields vs)(hdx:ox.dict=some dx)(N:s.heap.Ns1 dx mA)(W:Within mA ks)(few:ks.length<sizeLine)
 (c:XC K C) (none_:findIn K γb n=some none) (k:∀h' tk',Heap.SameBut dx s.heap h'->h'.Ns1 dx (λy=>if y=n then some v else mA y)->Q () {s with heap:=h',toks:=tk'}):wpAny ε A (setAttr δH n v) Q E s:=by obtain⟨cd,hc,own,_⟩:=c.pass;obtain⟨oD,hD,_⟩:=L2.gi N;apply Kn (od:=some oD) X (Kp hx cl hd (by rw[hdx];exact hD)) c none_;obtain⟨p1,p2,p3,osl⟩:=ox;dsimp only at cl hd hdx;subst cl hd hdx;obtain⟨h,g,d,t,os⟩:=s;dsimp only at hx X k N;unfold storeInOwnDict;apply qaa;apply qad;rw[qax (show ¬((Value.ref C == Value.type "module")=true) by intro z;cases qau.mp z)];change wpAny _ _ (instanceDict x true >>= _) _ _ _;unfold instanceDict;apply qaa;apply qaa;apply qbz hx;dsimp only;apply qaa;apply (looks_clsIn X hc).here (s:=⟨h,g,d,t+1,os⟩);rw[own,qax ξ];apply qad;apply Ko (s:=⟨h,g,d,t+1,os⟩) N W few;exact λh' tk' sb N'=>⟨_,rfl,k h' tk' sb N'⟩
def Ta{as:v4}(F:XB B ini up)(X:δL)(I:εh)(c:XC K C)(sub:mroIn K C ιp=some true)(hd:ox.data=.fields vs)(v0:vs[0]?=some (.ref t0))(few:as.length<=sizeLine)
 (k:∀h',(∀b o,b≠x->s.heap.get? b=some o->h'.get? b=some o)->h'.get? x=some {ox with data:=.fields (vs.setIfInBounds 0 γd)}->Q .none {s with heap:=h'}):wpAny ε A (call (.builtin ini) (.ref x::as)) Q E s:=by
 have Kq:Looks ε s.heap (isInstance δH ιp) true:=I.type.andThen (looks_mroIn X sub);obtain⟨cd,hc,_,_⟩:=c.pass;have lc:=looks_clsIn (M:=model prog w) X hc;have hx:=I.at_;have cl:=I.cls;obtain⟨h,g,d,t,os⟩:=s;obtain⟨p1,p2,p3,p4⟩:=ox;dsimp only at cl hd hx Kq k;subst cl hd;have pos:0<vs.size:=(qaM.mp v0).1;have hx2:=qab {cls:=.type "tuple",data:=.seq as.toArray} hx;have anyArgs:∀(a b:String) (m:Nat),Bind.check ⟨.positional,"*",B,.self,[⟨"args",.varPos,false⟩]⟩ a b m (List.map (·.fst) ({pos:=Value.ref x::as}:Args).kw)=pure ():=λ_ _ _=>check_star_args _ _ _ _ _ _;have last:Q .none ⟨(h.push {cls:=.type "tuple",data:=.seq as.toArray}).update x (Obj.mapFields (·.setIfInBounds 0 (.ref h.objs.size))),g,d,t,os⟩:=k _ (λb o ne e=>by rw[qaU _ _ (qa5 ne)];exact qab _ e) (Heap.get?_update_self _ hx2 rfl);have notStar:=F.star;apply wpAny_call;apply codeAny_call_builtin F.slot.plain F.entry;simp only[F.kind,F.split,F.row,checkBuiltinCall];apply qaa;apply Kq.here (s:=⟨h,g,d,t,os⟩);rw[show(!true)=false from rfl,qax qat]
 repeat (first|apply wpAny_onRaise| (rw[anyArgs];apply qad)| (apply qaa;apply lc.here (s:=⟨h,g,d,t,os⟩))|wp_step)
 rw[v0];apply qad;apply qaa;apply wpAny_setField hx2 rfl pos;dsimp only
 repeat (first|exact last|wp_step)
end
end Ex
namespace Ex
open PySem PySem.Spec PyProof.Rows PySem.W PySem.Calls
noncomputable def tU(h:Heap)(e:Addr)(m:Value):Option Addr->Prop
 |none=>∃oe vs,h.get? e=some oe/\oe.data=.fields vs/\vs[1]?=some .none
 |some T=>∃oe vs oT ts,h.get? e=some oe/\oe.data=.fields vs/\vs[1]?=some (.ref T)/\T≠e/\h.get? T=some oT/\oT.data=.fields ts/\ts[3]?=some m
structure Step(fr:zzd)(e:Addr)(tb:δa)(h h':Heap):Prop where
 keep:∀b o,h.get? b=some o->b≠e->tb≠some b->b∉fr->h'.get? b=some o
 slot:∀b o,h.get? b=some o->b≠e->tb≠some b->∃sl,h'.get? b=some {o with slots:=sl}
 exc:∀oe vs,h.get? e=some oe->oe.data=.fields vs->∃vs':zzh,h'.get? e=some {oe with data:=.fields vs'}/\vs'[0]?=vs[0]? /\ vs'.size=vs.size
 there:∀b o,h.get? b=some o->∃o',h'.get? b=some o'
def Tb{o:Obj}(hd:o.data=.fields vs)(f:zzh->zzh):o.mapFields f={o with data:=.fields (f vs)}:=by
 cases o with
 |mk c d dt sl=>cases hd;rfl
def Eg{h:Heap}(e:h.get? a=some o)(hd:o.data=.fields vs)(i:Nat)(v:Value) :
 (h.update a (Obj.mapFields (·.setIfInBounds i v))).get? a=some {o with data:=.fields (vs.setIfInBounds i v)}:=by rw[<-Tb hd (·.setIfInBounds i v)];exact Heap.get?_update_self _ e (Obj.isFreed_of_fields (Obj.data_mapFields hd _))
section
variable{M:Model}{A:Around}{E:T0}{s:Shared}{env:Env}{outer:δu}{base:Heap}{L e:Addr}
def Kr(fr:A.frames=some (env::outer))(ff:s.heap.FunFrames base (env::outer))(at_:env.frame=some L)(he:s.heap.get? e=some oe)(hd:oe.data=.fields vs)(two:1<vs.size)
 (k:∀h' T,Step (L2.frs (env::outer)) e none s.heap h'->s.heap.objs.size<=T->tU h' e (rawInt L) (some T)->Q () {s with heap:=h'}) :
 wpAny M A (do let fo <-frameOf env;let pl <-entryPlaceOf L more;let en <-EntryCells.newEntry hd0 fo .none (rawInt L) .none pl;setField εR 1 en) Q E s:=by
 have Tc:e∉L2.frs (env::outer):=λm=>let ⟨_,o,ho,no⟩:=ff.mem m;no vs (by rw[he]at ho;cases ho;exact hd);apply qaa;apply wpAny_frameOf_fun fr ff at_;rintro h1 ⟨sz,same,Ks⟩;apply qaa;apply wpAny_entryPlaceOf;intro pl xj;delta EntryCells.newEntry newFields;apply qaa;apply qbn _ (xj.sizeOk5 _ _ _ _ _);generalize eN:({cls:=.type "traceback",dict:=none,data:=.fields ([hd0,.ref L,.none,rawInt L,.none]++(if pl.isEmpty then List.replicate 6 Value.none else pl)).toArray}:Obj)=en;have e1:h1.get? e=some oe:=(same e Tc).trans he;have ne:h1.objs.size≠e:=λz=>absurd (qai e1) (by rw[z];exact qbq _);have e2:=Eg (qab en e1) hd 1 ζ2
 have oth:∀b o,b≠e->h1.get? b=some o->((h1.push en).update e (Obj.mapFields (·.setIfInBounds 1 ζ2))).get? b=some o:=λb o nb z=>by rw[qaU _ _ (qa5 nb)];exact qab en z
 have Eh:((h1.push en).update e (Obj.mapFields (·.setIfInBounds 1 ζ2))).get? h1.objs.size=some en:=by rw[qaU _ _ (qa5 ne)];exact qar h1 (by rw[<-eN];rfl)
 apply wpAny_setField (qab en e1) hd two;apply k _ h1.objs.size
 .constructor
  .exact λb o z nb _ nf=>oth b o nb ((same b nf).trans z)
  .intro b o z nb _;obtain⟨sl,z'⟩:=Ks b o z;exact⟨sl,oth b _ nb z'⟩
  .intro oe' vs' z zd;cases he.symm.trans z;cases hd.symm.trans zd;exact⟨_,e2,Array.getElem?_setIfInBounds_ne ξ,Array.size_setIfInBounds⟩
  .intro b o z;by_cases nb:b=e
   .rw[nb];exact⟨_,e2⟩
   .obtain⟨sl,z'⟩:=Ks b o z;exact⟨_,oth b _ nb z'⟩
 .rw[sz];exact qah _
 .refine⟨_,_,_,_,e2,rfl,by simp[two],ne,Eh,by rw[<-eN],?_⟩;rcases xj with z|⟨_,_,_,_,_,_,_,z⟩<;>subst z<;>rfl
def Kt(fr:A.frames=some (env::outer))(ff:s.heap.FunFrames base (env::outer))(at_:env.frame=some L)(F:tU s.heap e .none tb)(two:∀oe vs,s.heap.get? e=some oe->oe.data=.fields vs->1<vs.size)
 (k:∀h' T,Step (L2.frs (env::outer)) e tb s.heap h'->s.heap.objs.size<=T->tU h' e (rawInt L) (some T)->Q () {s with heap:=h'}):wpAny M A (noteFrame εR env) Q E s:=by
 unfold noteFrame;rw[at_];dsimp only;cases tb with
 |none =>
   obtain⟨oe,vs,he,hd,v1⟩:=F;apply qaa;apply wpAny_field he hd v1;rw[qax (show ¬((Value.none != Value.none)=true) by decide)];exact Kr fr ff at_ he hd (two _ _ he hd) k
 |some T =>
   obtain⟨oe,vs,oT,ts,he,hd,v1,nT,hT,hdT,t3⟩:=F;have oth:∀b,b≠T->(s.heap.update T (Obj.mapFields (·.setIfInBounds 3 .none))).get? b=s.heap.get? b:=λb z=>qaU _ _ (qa5 z);have Td:∀b o,s.heap.get? b=some o->(∀vs,o.data≠.fields vs)->b≠T:=λb o z no q=>by subst q;cases hT.symm.trans z;exact no ts hdT
   apply qaa;apply wpAny_field he hd v1;rw[qaz (show(Value.ref T != Value.none)=true by rfl)];apply qaa;apply wpAny_field hT hdT t3;rw[qax (show ¬((Value.none == rawInt L)=true) by intro z;cases qau.mp z)];apply qaa;apply wpAny_setField hT hdT (qaM.mp t3).1;apply Kr (s:={s with heap:=s.heap.update T (Obj.mapFields (·.setIfInBounds 3 .none))}) fr (ff.of_keeps λb o z no=>⟨o,(oth b (Td b o z no)).trans z,rfl⟩) at_ ((oth e (qa5 nT)).trans he) hd (two _ _ he hd);intro h' T' S le F';apply k h' T' _ (by rw[Heap.size_after_update]at le;exact le) F';have via:∀b,some T≠some b->b≠T:=λb z q=>z (by rw[q]);constructor
   .exact λb o z nb nt nf=>S.keep b o ((oth b (via b nt)).trans z) nb (by intro q;cases q) nf
   .exact λb o z nb nt=>S.slot b o ((oth b (via b nt)).trans z) nb (by intro q;cases q)
   .exact λoe' vs' z zd=>S.exc oe' vs' ((oth e (qa5 nT)).trans z) zd
   .intro b o z;by_cases q:b=T
    .rw[q];exact S.there T _ (Eg hT hdT 3 .none)
    .exact S.there b o ((oth b q).trans z)
def Ei(F:tU s.heap e m (some T))
 (k:∀h',(∀b,b≠T->h'.get? b=s.heap.get? b)->tU h' e .none (some T)->Q () {s with heap:=h'}):wpAny M A (setFlight εR none) Q E s:=by obtain⟨oe,vs,oT,ts,he,hd,v1,nT,hT,hdT,t3⟩:=F;have l3:3<ts.size:=(qaM.mp t3).1;have oth:∀b,b≠T->(s.heap.update T (Obj.mapFields (·.setIfInBounds 3 .none))).get? b=s.heap.get? b:=λb z=>qaU _ _ (qa5 z);unfold setFlight;apply qaa;apply wpAny_field he hd v1;rw[qaz (show(Value.ref T != Value.none)=true by rfl)];apply wpAny_setField hT hdT l3;exact k _ oth ⟨oe,vs,_,_,(oth e (qa5 nT)).trans he,hd,v1,nT,Eg hT hdT 3 .none,rfl,by simp[l3]⟩
end
end Ex
namespace L2
open PySem PySem.Spec PyProof.Rows Ex
noncomputable def dD(C e:Addr)(dd:δa)(fr:Bool):HO:=.ext λh=>∃oe vs t0,h.get? e=some oe/\oe.cls=.ref C/\oe.dict=dd/\oe.data=.fields vs/\vs[0]?=some (.ref t0)/\1<vs.size/\(fr=true->vs[1]?=some .none)
noncomputable def m5(d:Addr)(fs:List (Str×V)):HO:=.ext λh=>∃mA,h.Ns1 d mA/\(∀f,eU ζV (mA f))/\PySem.Within mA (fs.map (·.1))
section
variable{P:Program}{w:World}{H:Hp}{h:Heap}{e C d:Addr}{dd:δa}{fr:Bool}{fs:List (Str×V)}
def u_(he:h.get? e=some oe)(hc:oe.cls=.ref C)(hdd:oe.dict=dd)(hd:oe.data=.fields vs)(h0:vs[0]?=some (.ref t0))(hs:1<vs.size)(hf:fr=true->vs[1]?=some .none) :
 aI P w H h e (dD C e dd fr):=
 ⟨⟨oe,vs,t0,he,hc,hdd,hd,h0,hs,hf⟩,⟨oe,he⟩,λ_ _ z k=>by obtain⟨oe,vs,t0,he,r⟩:=z;exact⟨oe,vs,t0,k _ he,r⟩⟩
def Ku(hn:h.Ns1 d mA)(hr:∀f,eU ζV (mA f))(hw:PySem.Within mA (fs.map (·.1))):aI P w H h d θb:=
 ⟨⟨mA,hn,hr,hw⟩,hn.imp λ_ z=>by obtain⟨_,_,q,_⟩:=z;exact q,λ_ _ z k=>by obtain⟨mA,⟨o,es,ep,q,r⟩,r2⟩:=z;exact⟨mA,⟨o,es,ep,k _ q,r⟩,r2⟩⟩
def qf(ok:δG)(q:H e=some (dD C e dd fr)):∃oe vs t0,h.get? e=some oe/\oe.cls=.ref C/\oe.dict=dd/\oe.data=.fields vs/\vs[0]?=some (.ref t0)/\1<vs.size/\(fr=true->vs[1]?=some .none):=(ok _ _ q).1
def Ej(ok:δG)(q:H d=some θb):∃mA,h.Ns1 d mA/\(∀f,eU ζV (mA f))/\PySem.Within mA (fs.map (·.1)):=(ok _ _ q).1
end
structure Te(X:Cx)(pins:W1)(H:Hp)(s:Shared)(e C:Addr):Prop where
 ex:∃dd,H e=some (dD C e dd false)
 lo:X.s₀.heap.objs.size<=e
 tr:∃tb,tU s.heap e .none tb/\∀T,tb=some T->H T=none/\X.s₀.heap.objs.size<=T/\∀p∈X.pn++pins,p.1≠T
abbrev br:=St->XK
def XOk(X:Cx)(EE:br):Prop:=∀(pins:W1) (σ:St) (H:Hp) (s:Shared) (e C:Addr),Inv X pins σ H s->Te X pins H s e C->EE σ γb ζC H->X.xe εR s
def jS(P:Program)(w:World):oJ:=λouter H s E ev s'=>∃e C H',ev=.ref e/\s'.os=s.os/\AllBare s'.gens/\Un (frs outer) [] H H' s.heap s'.heap/\dZ P w H' s'.heap /\
 (∃dd,H' e=some (dD C e dd false))/\s.heap.objs.size<=e/\(∃tb,tU s'.heap e .none tb/\∀T,tb=some T->H' T=none/\s.heap.objs.size<=T)/\E γb ζC H'
def Kv{X:Cx}{EE:br}(hX:ζQ){pins:W1}{σ:St}{H:Hp}{s s':Shared}{ev:Value}(I:δ)(h:jS X.prog X.w X.stack H s θ5 ev s'):X.xe ev s':=by obtain⟨e,C,H',rfl,os,bare,un,hok,ex,lo,⟨tb,F,hT⟩,q⟩:=h;have I':Inv X pins σ H' s':=I.oB (ch:=[]) os un hok bare λb z=>absurd z (by simp);refine hX pins σ H' s' e C I' ⟨ex,qaJ I.sz lo,tb,F,λT z=>⟨(hT T z).1,qaJ I.sz (hT T z).2,λp hp=>?_⟩⟩ q;have lt:=qai (I.pin p hp).1;have:=(hT T z).2;exact qan (qao lt this)
section
variable{P:Program}{w:World}{K:zze}{mg:M2}{base:Heap}{N:v6}{qual:Str}{scope:Scope}{f:Addr}{cd:Value}{A:Around}{outer:δu}{s:Shared}{H:Hp}{E:XK}
def iQ:XOk (k9 ηg P w K mg base N qual scope f cd A outer s H E) (λ_=>E):=by
 intro pins σ H1 s1 e C I T q;obtain⟨⟨dd,ex⟩,lo,tb,F,hT⟩:=T;show wpAny εT (A.deeper γC) (leaving γC εR) (λ_ s''=>jS P w outer H s E εR s'') (λe' s''=>jS P w outer H s E e' s'') s1;have hfr:(A.deeper γC).frames=some (envOfC qual scope s.heap.objs.size f cd::outer):=I.ok.frames;have hl:s1.heap.FunFrames base (envOfC qual scope s.heap.objs.size f cd::outer):=I.stack;obtain⟨oe,vs,t0,he,hc,hdd,hd,h0,hsz,_⟩:=qf I.hok ex
 have s0:∀b o,s.heap.get? b=some o->b≠e/\tb≠some b/\b≠s.heap.objs.size:=λb o z=>by have lt:=qai z;refine⟨qan (qao lt lo),λy=>?_,qan lt⟩;exact qbq _ (qao lt (hT b y).2.1)
 unfold leaving;refine qaa (Kt (L:=s.heap.objs.size) hfr hl rfl F (λoe' vs' a b=>by rw[he]at a;cases a;rw[hd]at b;cases b;exact hsz) λh' T' S hle FF=>?_);refine Ei (s:={s1 with heap:=h'}) FF λh'' oth F2=>?_;have qL:s.heap.objs.size<=s1.heap.objs.size:=I.sz;have hT':∀b o,s1.heap.get? b=some o->b≠T':=λb o z=>qan (qao (qai z) hle);have fresh:H1 T'=none:=I.hok.fresh hle;have keep:∀b o,s1.heap.get? b=some o->b≠e->tb≠some b->b∉frs (envOfC qual scope s.heap.objs.size f cd::outer)->h''.get? b=some o:=λb o z a1 a2 a3=>(oth b (hT' b o z)).trans (S.keep b o z a1 a2 a3)
 have xk:∀b,b∈frs (envOfC qual scope s.heap.objs.size f cd::outer)->b=s.heap.objs.size\/b∈frs outer:=λb hb=>by
  unfold frs at hb ⊢;rw[qbx]at hb;rcases qav.mp hb with z|z
  .exact .inl z
  .exact .inr z
 have tracked:∀b u,H1 b=some u->b∉frs (envOfC qual scope s.heap.objs.size f cd::outer):=λb u z hb=>by have n:H1 b=none:=I.g_ b hb;rw[z]at n;cases n
 refine⟨e,C,H1,rfl,I.os,I.bare,⟨λb o z n hb hx=>?_,λb o z n hb hx=>?_,I.base.free,λb o z hx=>?_,I.base.tups,I.base.gL,I.base.ik⟩,λb u z=>?_,⟨dd,ex⟩,lo,⟨some T',F2,λT z=>?_⟩,q⟩
 .obtain⟨a1,a2,a3⟩:=s0 b o z;exact keep b o (I.base.keep b o z n hb hx) a1 a2 λy=>(xk b y).elim a3 hb
 .obtain⟨a1,a2,a3⟩:=s0 b o z;obtain⟨sl,e1⟩:=I.base.slot b o z n hb hx;obtain⟨sl2,e2⟩:=S.slot b _ e1 a1 a2;exact⟨sl2,(oth b (hT' b _ e1)).trans e2⟩
 .obtain⟨o',e1⟩:=I.base.there b o z hx;obtain⟨o2,e2⟩:=S.there b o' e1;exact⟨o2,(oth b (hT' b _ e1)).trans e2⟩
 .by_cases hb:b=e
  .subst hb;rw[ex]at z;cases z;obtain⟨vs',e1,e2,e3⟩:=S.exc oe vs he hd;exact u_ ((oth b (hT' b _ he)).trans e1) hc hdd rfl (by rw[e2];exact h0) (by rw[e3];exact hsz) λz=>nomatch z
  .refine(I.hok b u z).stay (λc v hcv r=>?_) (λ_ r=>r) λ_ _ r=>r
   have ne:c≠e:=by
    rcases hcv with rfl|hcv
    .exact hb
    .exact rK hcv ex (by intro y;cases y)
   have tr:∃u',H1 c=some u':=by
    rcases hcv with rfl|hcv
    .exact⟨_,z⟩
    .exact⟨_,hcv⟩
   obtain⟨u',hu'⟩:=tr;exact keep c v r ne (λy=>by have:=(hT c y).1;rw[hu']at this;cases this) (tracked c u' hu')
 .cases z;exact⟨fresh,qaJ qL hle⟩
end
end L2
namespace Ex
open PySem PySem.Spec PyProof.Rows PySem.W PySem.Calls Builtin Builtin.ObjectAttr
def Kw(K:Frag)(h:Heap)(e:Addr):Prop:=∃oe vs C oC,h.get? e=some oe/\oe.cls=.ref C/\mroIn K C (.type "BaseException")=some true/\K.lookup C=some oC/\oC.cls=.type "type" /\ oe.data=.fields vs/\vs[1]?=some .none
def Ek{A:Around}{K:Frag}(calm:A.handled=none)
 (k:wpAny M A x (λv s'=>∃e,v=.ref e/\K.In s'.heap/\Kw K s'.heap e/\E v s') E s):wpAny M A (raiseStmt env δZ none) Q E s:=by
 delta raiseStmt;apply qaa;apply qa6 k _ λ_ _ z=>z;rintro v ⟨h,g,d,t,os⟩ ⟨e,rfl,X,⟨⟨c1,c2,c3,c4⟩,vs,C,⟨d1,d2,d3,d4⟩,he,hc,sub,hC,ht,hd,v1⟩,last⟩;dsimp only at X he hc hd ht;subst hc hd ht;have LS:=looks_mroIn (M:=M) X sub;have hC':=X _ _ hC
 repeat (first| (with_reducible apply qbz hC')| (with_reducible apply qbz he)| (with_reducible apply LS.here (s:=⟨h,g,d,t,os⟩))|rw[v1]|wp_step)
 exact wpAny_raiseNew_none calm last
end Ex
namespace L2
open PySem PySem.Spec PyProof.Rows Ex
def Tf(K:zze)(ta:TE)(f:Str):TE:=λσ H Q=>ta σ H λx H1=>∃a C d fr fs v,x=.ref a/\H1 a=some εF/\H1 d=some θb/\XC K C/\a9 K C f/\fs.lookup f=some v/\Q v H1
def Tg(K:zze)(ta tv:TE)(f:Str):TS:=λD σ H=>tv σ H λy H1=>ta σ H1 λx H2=>∃a C fr,x=.ref a/\XC K C/\a9 K C f /\
 ((H2 a=some εQ/\∀d,H2 d=none->d≠a->D.nx σ (upd (upd H2 d (m5 d [(f,y)])) a εF)) \/
  (∃d fs,H2 a=some εF/\H2 d=some θb/\fs.length<1000/\D.nx σ (upd H2 d (m5 d (jQ f y fs)))))
section
variable{X:Cx}{o e value:Expr}{f:Str}{pos pos' tpos:Pos}{ta tv:TE}
def AM{K:zze}(ok:δG)(q:H a=some (dD C a dd fr))(hdd:∀d,dd=some d->∃o,h.get? d=some o) :
 ∃ox od,W.InstAt h a ox C od/\ox.dict=dd/\(∀d,dd=some d->∃o,od=some o/\h.get? d=some o):=by
 obtain⟨oe,vs,t0,he,hc,hd,hda,_⟩:=qf ok q;have hn:W.notCls oe=true:=by unfold W.notCls;rw[hda]
 cases dd with
 |none=>exact⟨oe,none,⟨he,hc,hn,by rw[hd];trivial⟩,hd,λd z=>nomatch z⟩
 |some d =>
   obtain⟨o,ho⟩:=hdd d rfl;exact⟨oe,some o,⟨he,hc,hn,by rw[hd];exact ho⟩,hd,λd' z=>by cases z;exact⟨o,rfl,ho⟩⟩
def Th(he:PE X e ta)(hb:attributeBase e f X.env εK=eval e X.env):PE X θK (Tf X.K ta f):=by
 intro pins s σ H Q I h;refine JH hb (aX δb λu s1 zq=>?_);obtain⟨x,H1,I1,rx,a,C,d,fr,fs,v,ex,ea,ed,c,n,l,q⟩:=zq;subst ex;obtain rfl:u=Value.ref a:=rx;obtain⟨mA,hn,hr,_⟩:=Ej I1.hok ed;obtain⟨od,ho,hlk⟩:=gi hn;obtain⟨ox,od',AN,_,hod⟩:=AM (K:=X.K) I1.hok ea λd' z=>by cases z;exact⟨od,ho⟩
 obtain⟨o2,e2,ho2⟩:=hod d rfl;rw[ho]at ho2;cases ho2;subst e2;obtain⟨u,hu,ru⟩:=eU.some_of (v:=v) (o:=mA f) (by rw[<-l];exact hr f);obtain⟨cd,hcd,Tj,_⟩:=c.pass;have hf:W.findObj X.K C (some od) f=some (.value u):=W.findObj_own (by unfold W.hasDictIn;rw[hcd];exact Tj) n rfl (by rw[hlk,hu]);exact S5 I1.cf AN c hf (JG ru) ⟨v,H1,I1.tok _,ru,q⟩
def Tn(ha:PE X o ta)(hv:PE X value tv)(hs:swapsWith value (some (.Attribute o f pos')) pos.line X.env=pure false):PS X (.Assign [.Attribute o f pos'] value pos) (Tg X.K ta tv f):=by
 intro pins s σ H D I h;refine plainObj_wpAny_Assign_Attribute (aX (hv pins s σ H _ I h) λu s1 zq=>?_) hs;obtain⟨y,H1,I1,ry,q⟩:=zq;refine aX (ha pins s1 σ H1 _ I1 q) λov s2 zq=>?_;obtain⟨x,H2,I2,rx,a,C,fr,ex,c,n,q2⟩:=zq;subst ex;obtain rfl:ov=Value.ref a:=rx;rcases q2 with ⟨ea,k⟩|⟨d,fs,ea,ed,hl,k⟩
 .obtain⟨oe,vs,t0,he,hc,hd,hda,h0,hsz,hfr⟩:=qf I2.hok ea;have na:s2.heap.objs.size≠a:=Nat.ne_of_gt (qai he);refine S9 I2.cf he hc hda hd c n λh' tk' kp hx hn=>?_;refine⟨σ,_,?_,k s2.heap.objs.size (I2.hok.fresh γI) na⟩;have fresh:H2 s2.heap.objs.size=none:=I2.hok.fresh γI;have hdn:∃o,h'.get? s2.heap.objs.size=some o:=let ⟨o,_,_,z,_⟩:=hn; ⟨o,z⟩
  have od:∀(G:Hp),aI X.prog X.w G h' s2.heap.objs.size (m5 s2.heap.objs.size [(f,y)]):=λG=>Ku hn (λg=>by
   show eU (List.lookup g [(f,y)]) (if g=f then some u else none);rw[qbm];by_cases z:g=f
   .subst z;rw[qaz rfl];simp only[beq_self_eq_true];exact ry
   .have z':(g == f)=false:=by simpa using z
    rw[qax z,z'];exact True.intro) (λg hg=>by
   have z:g=f:=by
    by_cases z:g=f
    .exact z
    .exact absurd (qax z) hg
   rw[z];simp)
  have oe':∀(G:Hp),aI X.prog X.w G h' a θP:=λG=>u_ hx hc rfl hda h0 hsz hfr
  have un:Un X.fs [] H2 (upd (upd H2 s2.heap.objs.size (m5 s2.heap.objs.size [(f,y)])) a θP) s2.heap h':=by
   have ne:∀b,H2 b=none->b≠a:=λb z e=>by rw[e,ea]at z;cases z
   refine⟨λb ob z z2 _ _=>kp b ob (ne b z2) z,λb ob z z2 _ _=>⟨ob.slots,kp b ob (ne b z2) z⟩,λb ob z z2 _=>?_,λb ob z _=>?_,λb xs z=>?_,λb ob xs z=>?_,λb ps z=>⟨#[],?_⟩⟩
   .rw[bA (ne b z2),bA (qan (qai z))];exact z2
   .by_cases hb:b=a
    .subst hb;exact⟨_,hx⟩
    .exact⟨ob,kp b ob hb z⟩
   .rw[bA (rK z ea (by intro y;cases y)),bA (iN z fresh)];exact z
   .rw[bA (rK z ea (by intro y;cases y)),bA (iN z fresh)];exact z
   .rw[bA (rK z ea (by intro y;cases y)),bA (iN z fresh),z];simp
  refine I2.un un λb ob z=>?_;by_cases hb:b=a
  .subst hb;rw[fS]at z;cases z;exact oe' _
  .rw[bA hb]at z;by_cases hb2:b=s2.heap.objs.size
   .subst hb2;rw[fS]at z;cases z;exact od _
   .rw[bA hb2]at z;refine(I2.hok b ob z).stay (λc v hcv r=>kp c v ?_ r) (λc r=>?_) λc xs r=>?_
    .rcases hcv with rfl|hcv
     .exact hb
     .exact rK hcv ea (by intro y;cases y)
    .rw[bA (rK r ea (by intro y;cases y)),bA (iN r fresh)];exact r
    .rw[bA (rK r ea (by intro y;cases y)),bA (iN r fresh)];exact r
 .obtain⟨oe,vs,t0,he,hc,hd,hda,h0,hsz,hfr⟩:=qf I2.hok ea;obtain⟨mA,hn,hr,hw⟩:=Ej I2.hok ed;refine S_ I2.cf he hc hda hd hn hw (by rw[qag,sizeLine_eq];omega) c n λh' tk' sb hn'=>?_;refine⟨σ,_,I2.write (x:=d) (e:=d) (by rw[ed];exact True.intro) γJ (λb q hb z=>(sb.2 b hb).trans z) (let ⟨o,_,_,z,_⟩:=hn'; ⟨o,z⟩) ?_,k⟩;refine Ku hn' (λg=>?_) λg hg=>?_
  .show eU ((jQ f y fs).lookup g) (if g=f then some u else mA g);rw[D0];by_cases q:g=f
   .rw[qaz q,qaz q];exact ry
   .rw[qax q,qax q];exact hr g
  .by_cases q:g=f
   .rw[q];exact(xa f y fs).1
   .refine(xa f y fs).2 g (hw g λz=>hg ?_);show(if g=f then some u else mA g)=none;rw[qax q];exact z
end
structure rV(h h':Heap)(e C:Addr):Prop where
 keeps:∀c u,h.get? c=some u->h'.get? c=some u
 le:h.objs.size<=e
 obj:∃t0,h'.get? e=some {cls:=.ref C,data:=.fields #[.ref t0,.none,.none,.none,.bool false,.none]}
def XMk(K:zze)(C fI:Addr):Prop:=∀(prog:Program) (w:World) (A:Around) (E:T0) (s:Shared) (rest:v4) (Q:T0),K.In s.heap->rest.length<=sizeLine ->
 (∀h' e,rV s.heap h' e C->wpAny ε (A.under (.builtin "type.__call__" ⟨.ref C::rest,[]⟩)) (call (.ref fI) (.ref e::rest)) (λr s'=>r=.none/\Q εR s') E {s with heap:=h'}) ->
 wpAny ε A (call γb rest) Q E s
structure xm(K:zze)(C:Addr):Prop where
 xc:XC K C
 mt:∃oC,K.lookup C=some oC/\oC.cls=.type "type"
 kp:W.keepIn K γb=true
section
variable{X:Cx}{k:Nat}{fI C:Addr}{fd:FuncData}{ps:v6}{sp:Sp}{dvs:γv}{ds:v4}{x:Str}{p pos cpos apos:Pos}{e:Expr}{es:zza}{t:TA}{EE:br}
def Inv.exc{pins:W1}{σ:St}{H:Hp}{s:Shared}{h':Heap}{a:Addr}(I:δ)(m:rV s.heap h' a C)(fr:Bool) :
 Inv X pins σ (upd H a εQ) {s with heap:=h'}:=by obtain⟨t0,he⟩:=m.obj;exact I.laid (a:=a) (o:=dD C a none fr) (t':=s.toks) m.keeps m.le (u_ he rfl rfl rfl rfl (by simp) λ_=>rfl)
def To{pins:W1}{σ:St}{H:Hp}{s:Shared}{Q:VK}{us:v4}{vs:γv}(M:XMk X.K C fI)(F:ηC)(hr:aH (k+1) X.A)(hb:γZ)(hd:εg)
 (I:δ) (r:Vals vs us) (hlen:vs.length<=1000)
 (h:∀a,H a=none->sp (.ref a::(vs++dvs)) (upd H a (dD C a none true)) (λv H2=>v=.aq/\Q γz H2) E0) :
 wpAny ζ X.A (call γb us) (λu s'=>∃a H',u=.ref a/\Inv X pins σ H' s'/\s.heap.objs.size<=a/\Q γz H') X.xe s:=by
 refine M X.prog X.w X.A X.xe s us _ I.cf (by rw[<-r.length,sizeLine_eq];omega) λh' a m=>?_;have hq:=h a (I.hok.fresh m.le);have I2:=I.exc m true;have r2:Vals (V.ref a::(vs++dvs)) (Value.ref a::(us++ds)):=.cons rfl (r.append hd)
 have hl:(Value.ref a::us++ds).length=ps.length:=by have e:=r2.length;rw[F.len _ _ _ _ hq]at e;exact e.symm
 refine wpAny_call (codeAny_mono (F.run _ X.stack _ _ ⟨Value.ref a::us,[]⟩ (Value.ref a::(us++ds)) _ _ E0 (hr.make C us [])
  (I2.env0.make C us []) (hb _ (Value.ref a::us) I2.cf hl) r2 hq) λr s' hq'=>?_)
 cases r with
 |error e=>exact False.elim hq'
 |ok fl =>
   cases fl with
   |ret u =>
     obtain⟨v,H',I3,rv,ev,q3⟩:=I2.after hq';subst ev;exact⟨rv,a,H',rfl,I3,m.le,q3⟩
   |next=>exact False.elim hq'
   |brk=>exact False.elim hq'
   |cont=>exact False.elim hq'
def Tp{pins:W1}{σ:St}{H:Hp}{s:Shared}{a:Addr}{dd:δa}(hX:ζQ)(I:δ)(hle:X.s₀.heap.objs.size<=a)(ea:H a=some ηT)(q:EE σ γb (some a) (upd H a ζq)):X.xe γz s:=by obtain⟨oe,vs,t0,he,hc,hd,hda,h0,hsz,hfr⟩:=qf I.hok ea;have I':Inv X pins σ (upd H a ζq) s:=I.write (x:=a) (e:=a) (t':=s.toks) (h':=s.heap) (by rw[ea];exact True.intro) γJ (λb u _ z=>z) ⟨_,he⟩ (u_ he hc hd hda h0 hsz λz=>nomatch z);exact hX pins σ _ s a C I' ⟨⟨dd,fS⟩,hle,none,⟨oe,vs,he,hda,hfr rfl⟩,λT z=>nomatch z⟩ q
def Tq(C:Addr)(sp:Sp)(dvs:γv)(EE:br)(t:TA):TS:=λ_ σ H=>t σ H λvs H1=>vs.length<=1000/\∀a,H1 a=none ->
 sp (.ref a::(vs++dvs)) (upd H1 a (dD C a none true)) (λv H2=>v=.aq/\∃dd,H2 a=some ηT/\EE σ γb (some a) (upd H2 a ζq)) E0
def Ts(hh:X.A.handled=none)
 (h:wpAny ζ X.A (eval xe X.env) (λv aF=>∃e,v=.ref e/\X.K.In aF.heap/\Kw X.K aF.heap e/\X.xe v aF) X.xe s) :
 wpAny ζ X.A (exec (.Raise (some xe) none pos) X.env) Q X.xe s:=by
 rw[arm_exec_Raise]
 first
  |exact qaa (qbB (Ek hh (qaa (qa6 h (λv aF h₁=>qaa (qbB (qad h₁))) λ_ _ x=>x))))
  | (simp only[evalOpt,Option.map];exact qaa (qbB (Ek hh (qaa (qa6 h (λv aF h₁=>qaa (qbB (qad h₁))) λ_ _ x=>x)))))
  | (show wpAny _ _ (do standAt pos;raiseStmt X.env (some (do let v <-eval xe X.env;standAt pos;pure v)) none) Q X.xe s;exact qaa (qbB (Ek hh (qaa (qa6 h (λv aF h₁=>qaa (qbB (qad h₁))) λ_ _ x=>x)))))
def Tt(hX:ζQ)(hc:X.calm=true)(M:XMk X.K C fI)(Z:xm X.K C)(F:ηC)(hr:aH (k+1) X.A)(hg:εX)(hm:X.mg x=some γb)(hb:γZ)(hd:εg)
 (ha:PA X (e::es) t) (hdb:(x == ("__debug__":Str))=false:=by decide) (he:starEach (e::es) X.env=(false,eval e X.env)::starEach es X.env:=by rfl) (hpl:(backTo cpos γl).any (·.1)=false:=by rfl) :
 PS X (.Raise (some (.Call δp (e::es) [] cpos)) none pos) (Tq C sp dvs EE t):=by
 intro pins s σ H D I h;refine Ts δ8 (qbt (tG I hg hm ?_ hdb));refine W.callWith_K (h₀:=X.base) I.ok.mod.tF Z.kp (aX (ha cpos pins s σ H _ I h) λus s1 zq=>?_) he hpl;obtain⟨vs,H1,I1,r,hlen,q⟩:=zq;refine⟨I1.cf,?_⟩;refine aX (To (Q:=λv H2=>∃a dd,v=.ref a/\H2 a=some ηT/\EE σ γb (some a) (upd H2 a ζq)) M F hr hb hd I1 r hlen λa na=>?_) λu s2 ⟨a,H2,eu,I2,hle,a',dd,Tu,ex,q2⟩=>?_
 .have q':=q a na
  have:(λv H2=>v=V.aq/\∃dd,H2 a=some ηT/\EE σ γb (some a) (upd H2 a ζq))=(λv H2=>v=V.aq/\∃a' dd,V.ref a=V.ref a'/\H2 a'=some (dD C a' dd true)/\EE σ γb (some a') (upd H2 a' (dD C a' dd false))):=by
   funext v H2;apply propext;constructor
   .rintro⟨z,dd,z1,z2⟩;exact⟨z,a,dd,rfl,z1,z2⟩
   .rintro⟨z,a',dd,z0,z1,z2⟩;cases z0;exact⟨z,dd,z1,z2⟩
  rw[<-this];exact q'
 .cases Tu;obtain⟨oe,ws,t0,h1,h2,h3,h4,h5,h6,h7⟩:=qf I2.hok ex;obtain⟨oC,m1,m2⟩:=Z.mt;exact⟨a,eu,I2.cf,⟨oe,ws,C,oC,h1,h2,Z.xc.be,m1,m2,h4,h7 rfl⟩,by rw[eu];exact Tp hX I2 (qaJ I1.sz hle) ex q2⟩
end
noncomputable def tV(K:zze)(C:Addr)(up:v4)(nw:String):Bool:=(K.lookup C).any λo=>o.cls == .type "type" &&o.slots.size == 6&&o.slots.toList[4]? == some (some (.builtin nw))&&
 match o.data with
 |.cls cd=>cd.mro.head? == some γb&& !cd.hasDel&&cd.hasDict&&W.tailIn K up cd.mro.tail&&W.nsOkIn K cd.ns
 |_=>false
def Tv{l:List (zzb)}(h:l.length=6)(q:l[4]?=some v):∃a b c d e,l=[a,b,c,d,v,e]:=by rcases l with _|⟨a,_|⟨b,_|⟨c,_|⟨d,_|⟨x,_|⟨e,_|_⟩⟩⟩⟩⟩⟩<;>simp at h q;exact⟨a,b,c,d,e,by rw[q]⟩
def Kx{K:zze}{C:Addr}{up:v4}{nw:String}(q:tV K C up nw=true) :
 ∃tl N nm qn bs sn sub ab col dd j0 j1 j2 j3 j5,K.lookup C=some (excClassObj nm qn C N bs tl true sn sub ab col dd j0 j1 j2 j3 j5 nw)/\W.tailIn K up tl=true/\W.nsOkIn K N=true:=by
 unfold tV at q;cases z:K.lookup C with
 |none=>rw[z]at q;cases q
 |some o =>
   rw[z]at q;cases o with
   |mk oc od oda osl =>
     simp only[Option.any_some,Bool.and_eq_true,beq_iff_eq]at q;obtain⟨⟨⟨rfl,sz⟩,s4⟩,q⟩:=q;cases oda with
     |cls cd =>
       cases cd with
       |mk nm bs mro N qn Tw sn sub ab col del =>
         simp only[Bool.not_eq_true',Bool.and_eq_true,beq_iff_eq]at q;obtain⟨⟨⟨⟨hm,rfl⟩,rfl⟩,ht⟩,hn⟩:=q;cases mro with
         |nil=>cases hm
         |cons a tl =>
           cases hm;obtain⟨l⟩:=osl;obtain⟨a,b,c,d,e,rfl⟩:=Tv (by simpa using sz) (by simpa using s4);exact⟨tl,N,nm,qn,bs,sn,sub,ab,col,od,a,b,c,d,e,rfl,ht,hn⟩
     |_=>cases q
section
variable{K:zze}{C fI:Addr}{B D nw qK ini:String}{un up:v4}
def Tz(fn:η3)(hD:up.contains (.type D)=true)(F:XB B ini up)(q:tV K C up nw=true)(at_:W.findIn K γb "__init__" = some (some (.ref fI)))(isF:W.isFn K (.ref fI)=true):XMk K C fI:=by rintro prog w A E ⟨h,g,d,t,os⟩ as Q X few k;obtain⟨tl,N,nm,qn,bs,sn,sub,ab,col,dd,j0,j1,j2,j3,j5,hC,ht,hn⟩:=Kx q;exact S4 fn hD F (W.tail_of_in X ht) X (X _ _ hC) at_ (W.bind_fn (X.keeps AL) _ (qau.mp isF)) few (k _ _ ⟨AL,Nat.le_succ _,_,Kk⟩)
theorem stores(ok:refuseLoop self "__setattr__" up=pure ()):∀{l:v4},W.tailIn K up l=true->refuseLoop self "__setattr__" l=pure ()
 |[],e=>by have z:up=[]:=qau.mp e;rw[<-z];exact ok
 |v::r,e=>by
   unfold W.tailIn at e;cases z:((v::r) == up) with
   |true=>rw[qau.mp z];exact ok
   |false =>
     rw[z,Bool.false_or]at e;cases v with
     |ref a =>
       dsimp only at e;split at e
       .rw[qa1]at e;rw[refuseLoop_ref];exact stores ok e.2
       .cases e
     |_=>cases e
def TB(ok:∀self,refuseLoop self "__setattr__" up=pure ())(q:tV K C up nw=true)
 (ga:W.findIn K γb "__getattribute__" = some (some (.builtin "BaseException.__getattribute__"))) (gt:W.findIn K γb "__getattr__" = some none) (sa:W.findIn K γb "__setattr__" = some (some (.builtin "object.__setattr__")))
 (be:W.mroIn K C (.type "BaseException")=some true) (ob:W.mroIn K C (.type "object")=some true) (ca:W.findIn K γb "__class__" = some (some (.builtin "object.__class__")))
 (cg:W.specialIn K (.builtin "object.__class__") "__get__" = some (some (.builtin "getset_descriptor.__get__"))) (ct:W.takesIn K (.builtin "object.__class__")=some true) (kc:W.kitCls K γb γb=some true) (kp:W.keepIn K γb=true):xm K C:=by obtain⟨tl,N,nm,qn,bs,sn,sub,ab,col,dd,j0,j1,j2,j3,j5,hC,ht,hn⟩:=Kx q;exact⟨⟨ga,gt,sa,be,ob,⟨_,by unfold W.clsIn;rw[hC],rfl,λself=>by rw[refuseLoop_ref];exact stores (ok self) ht⟩,ca,cg,ct,kc⟩,⟨_,hC,rfl⟩,kp⟩
end
def oQ(H:Hp)(a C:Addr):Prop:=∃fr,H a=some εQ\/∃d fs,H a=some εF/\H d=some θb
noncomputable def va:V->zzb
 |.ref a=>some γz
 |.ty n=>some (.type n)
 |_=>none
def TC(h:va c=some cv)(r:RelV c u):u=cv:=by cases c<;>first| (cases h;exact r)|cases h
def xn(K:zze)(H:Hp)(x:V)(t:Value):Prop:=eW K H x t\/∃a C,x=.ref a/\t=.ref C/\oQ H a C/\XC K C
section
variable{X:Cx}
def oQ.inst(ok:δG)(q:oQ H a C):∃ox od,W.InstAt h a ox C od:=by
 obtain⟨fr,q|⟨d,fs,q,q2⟩⟩:=q
 .obtain⟨ox,od,I,_⟩:=AM (K:=[]) ok q λd z=>nomatch z;exact⟨ox,od,I⟩
 .obtain⟨mA,hn,_⟩:=Ej ok q2;obtain⟨ox,od,I,_⟩:=AM (K:=[]) ok q λd' z=>by cases z;exact let ⟨o,_,_,z,_⟩:=hn; ⟨o,z⟩
  exact⟨ox,od,I⟩
def Ky:aM X (.builtin "isinstance") (λxs H Q=>∃x c t cv b,xs=[x,c]/\va c=some cv/\xn X.K H x t/\W.kitOne X.K t cv=some b/\Q ζc H):=by
 intro pins s σ H xs us Q I r h;obtain⟨x,c,t,cv,b,rfl,hc,ty,e,q⟩:=h;obtain⟨u,u2,rfl,rx,rc⟩:=Vals.two r;cases TC hc rc;rcases ty with ty|⟨a,C,rfl,rfl,ea,c⟩
 .exact Sf I rx ty e λtk=>⟨.bl b,H,I.tok _,rfl,q⟩
 .obtain rfl:u=Value.ref a:=rx;exact W.kia_one (Km c) I.cf (ea.inst I.hok) e (λz=>nomatch z) λtk=>⟨.bl b,H,I.tok _,rfl,q⟩
structure Em(K:zze)(b:V)(B initId:String):Prop where
 get:(∃D,b=.ref D/\W.specialIn K εe "__getattribute__" = some (some (.builtin "type.__getattribute__"))/\W.readsIn K D (.type "type")=true/\W.findCls K εe (.type "type") "__init__" = some (.val ηz)) \/
  (∃T,b=.ty T/\typeOf (.type T)=pure (.type "type")/\Manifest.isStub T=false/\W.findCls K (.type T) (.type "type") "__init__" = some (.val ηz))
 hh:W.handedIn ηz=true
 base:∃bmB,XB B initId bmB
def TF(K:zze)(B:String)(t:TA):TE:=λσ H Q=>t σ H λvs H1=>∃a C fr rest,vs=.ref a::rest/\H1 a=some εQ/\XC K C/\W.mroIn K C ιp=some true/\rest.length<=1000/\Q .aq H1
def TH{b:V}{B initId:String}{x:Str}{p apos pos:Pos}{e:Expr}{es:zza}{t:TA}{pl:Sem Bool}(hb:PE X δp (tC b))(Z:Em X.K b B initId)(ha:PA X (e::es) t)
 (hst:starEach (e::es) X.env=(false,eval e X.env)::starEach es X.env:=by rfl) (hpl:(backTo pos γl).any (·.1)=false:=by rfl)
 (ht:eval (.Call (.Attribute δp "__init__" apos) (e::es) [] pos) X.env=(do
  let ov <-eval δp X.env
  standAt apos.atName
  let (f,first) <-holding [ov] (getMethod ov "__init__" pl)
  callWith pos f first (backTo pos (starEach (e::es) X.env)) (backToKw pos (keywordEach [] X.env))):=by rfl) :
 PE X (.Call (.Attribute δp "__init__" apos) (e::es) [] pos) (TF X.K B t):=by
 intro pins s σ H Q I h;refine W.methodCall_KW (pl:=pl) (aX (hb pins s σ H (λv H1=>v=b/\H1=H) I ⟨rfl,rfl⟩) λu s1 zq=>?_) ht;obtain⟨x',H1,I1,rx,ex,eH⟩:=zq;subst ex eH;obtain⟨bmB,F⟩:=Z.base
 have rest:∀tk,wpAny ζ X.A (callWith pos ηz [] (backTo pos (starEach (e::es) X.env)) (backToKw pos (keywordEach [] X.env))) γT X.xe {s1 with toks:=tk}:=λtk=>by
  refine PyProof.Rows.callWith_builtin1 (aX (ha pos pins _ σ H1 _ (I1.tok tk) h) λus s2 zq=>?_) hst hpl;obtain⟨vs,H2,I2,r,a,C,fr,rest,ev,ea,c,hm,hl,q⟩:=zq;subst ev;cases r with
  | @cons _ u' _ us' ra rr =>
    obtain rfl:u'=Value.ref a:=ra;obtain⟨oe,ws,t0,h1,h2,h3,h4,h5,h6,h7⟩:=qf I2.hok ea;obtain⟨ox,od,AN,hdd,_⟩:=AM (K:=X.K) I2.hok ea λd z=>nomatch z;have e1:=AN.at_;rw[h1]at e1;cases e1;refine Ta F I2.cf AN c hm h4 h5 (by rw[<-rr.length,sizeLine_eq];omega) λh' kp hx=>?_;refine⟨.aq,H2,?_,rfl,q⟩
    have I3:=I2.write (x:=a) (e:=a) (o:=dD C a none fr) (t':=s2.toks) (h':=h') (by rw[ea];exact True.intro) γJ (λb u hb z=>kp b u hb z) ⟨_,hx⟩ (by exact u_ hx h2 h3 rfl (show(ws.setIfInBounds 0 (Value.ref s2.heap.objs.size))[0]?=some ηx by have:0<ws.size:=ω;simp[Array.getElem?_setIfInBounds,this]) (by simp;exact h6) (λz=>by rw[Array.getElem?_setIfInBounds_ne ξ];exact h7 z))
    have e2:upd H2 a εQ=H2:=by
     funext b;by_cases z:b=a
     .subst z;rw[fS,ea]
     .rw[bA z]
    rw[e2]at I3;exact I3
 rcases Z.get with ⟨D,rfl,hg,hr,hc⟩|⟨T,rfl,h1,h2,hc⟩
 .obtain rfl:u=Value.ref D:=rx;exact W.method_cls I1.cf hg (W.cls_value I1.cf hr hc Z.hh (rest _))
 .obtain rfl:u=Value.type T:=rx;obtain⟨m,Fr⟩:=I1.fr;exact W.method_type Fr I1.ok.mod.tF h1 h2 hc Z.hh (rest _)
def AO{M:Model}{A:Around}{E:T0}{pins:W1}{σ:St}{H:Hp}{s:Shared}{i:Nat}{n:Str}{pos:Pos}{Q:Unit->Shared->Prop}(I:δ)(hN:X.N.Nodup)(hi:X.N[i]?=some n)(hl:X.env.scope.names.lookup n=some .local)
 (h:∀s',Inv X pins (σ.set i none) H s'->Q () s'):wpAny M A (do bindName X.env n .none;unbindBehindTheSuite X.env n pos) Q E s:=by
 obtain⟨m,hn,hlk⟩:=id I.loc;have hcls:(X.env.scope.kind == .class || (X.env.scope.kind == .module&&X.env.locals != X.env.globals))=false:=by rw[I.ok.kind];rfl
 have oA:=I.oA;refine wpAny_nameGoes_keeps hl hn hcls λh' v hn' hs=>?_;obtain⟨oL,_,_,hoL,_⟩:=id hn
 have tracked:dZ X.prog X.w H h':=λb ob e=>by
  refine(I.hok b ob e).stay (λc w' hc q=>(hs.2 c ?_).trans q) (λ_ q=>q) λ_ _ q=>q;rintro rfl;have hfree:=I.free;rcases hc with rfl|hc
  .rw[hfree]at e;cases e
  .rw[hfree]at hc;cases hc
 refine h _ ⟨I.ok,I.os,I.bare,⟨λb o e n hb hx=>?_,λb o e n hb hx=>?_,I.base.free,λb o e hx=>?_,I.base.tups,I.base.gL,I.base.ik⟩,⟨_,hn',λj y v' e1 e2 e3=>?_⟩,λy c e=>?_,I.free,I.b_,λp hp=>?_,tracked,by simpa using I.len⟩
 .exact(hs.2 b γ9).trans εv
 .obtain⟨sl,e1⟩:=I.base.slot b o e n hb hx;exact⟨sl,(hs.2 b γ9).trans e1⟩
 .obtain⟨o',e1⟩:=I.base.there b o e hx;exact⟨o',(hs.2 b γ9).trans e1⟩
 .have qC:i<σ.length:=by rw[I.len];exact(qac.mp hi).1
  by_cases hj:j=i
  .subst hj;rw[qaq qC]at e2;cases e2
  .rw[qak ηE]at e2;obtain⟨u',r',q⟩:=hlk j y v' e1 e2 e3;refine⟨u',r',?_⟩;rcases q with ⟨k,e⟩|⟨k,c,e,z⟩
   .refine .inl ⟨k,?_⟩;have:y≠n:=λe=>hj (DM hN e1 (e ▸ hi));simp[this,e]
   .exact .inr ⟨k,c,e,z.sameBut hs (oA y c e)⟩
 .obtain⟨w',z⟩:=I.cell y c e;exact⟨w',z.sameBut hs (oA y c e)⟩
 .obtain⟨e,n,ne,nf,d⟩:=I.pin p hp;exact⟨(hs.2 p.1 ne).trans e,n,ne,nf,d⟩
end
end L2
namespace Ex
open PySem PySem.Spec PyProof.Rows PySem.W PySem.Calls Builtin Builtin.ObjectAttr
noncomputable def aV(K:Frag)(C:Addr):v4->Option Bool
 |[]=>some false
 |c::r=>if ju K c=true then (match subIn K γb c,aV K C r with
  |some a,some b=>some (a || b)
  |_,_=>none) else none
where ju (K:Frag) (c:Value):Bool:=kitCls K c c == some true&&subIn K c (.type "BaseException") == some true
section
variable{M:Model}{A:Around}{E:T0}{s:Shared}{K:Frag}
def TJ(X:K.In h)(q:aV.ju K c=true):Looks M h (isExcClass c) true:=by unfold aV.ju at q;rw[qa1]at q;exact(kit_cls X (qau.mp q.1)).2.1.andThen (looks_subIn X (qau.mp q.2))
def TK{β:Type}{l:v4}{b:β}{f:Value->β->Sem (ForInStep β)}{Q:β->Shared->Prop}(hf:∀c∈l,∀R:ForInStep β->Shared->Prop,R (.yield b) s->wpAny M A (f c b) R E s)(h:Q b s):wpAny M A (forIn l b f) Q E s:=by
 induction l with
 |nil=>exact qad h
 |cons c r ih =>
   rw[List.forIn_cons];refine qaa (hf c (qaj ..) _ ?_);exact ih λc' hc'=>hf c' (qaf _ hc')
def TL(X:δL)(q:aV K C cs=some b)(h:Q (if b then (some true,()) else (none,())) s) :
 wpAny M A (forIn cs ((none,()):Option Bool×Unit) λc __s=>do
  let __do_lift <-isSubtype γb c
  if __do_lift=true then pure (ForInStep.done (some true,())) else pure (ForInStep.yield (none,()))) Q E s:=by
 induction cs generalizing b with
 |nil=>cases q;exact qad h
 |cons c r ih =>
   unfold aV at q
   split at q
   .split at q
    .rename_i a b' e1 e2
     cases q
     rw[List.forIn_cons]
     refine qaa (qaa ((looks_subIn X e1).here ?_))
     cases a with
     |true=>exact qad (qad h)
     |false =>
       refine qad ?_
       exact ih e2 (by simpa using h)
    .cases q
   .cases q
theorem Kz:∀{cs:v4}{b:Bool},aV K C cs=some b->∀c∈cs,aV.ju K c=true
 |[],_,_,c,hc=>nomatch hc
 |c::r,b,q,c',hc=>by
   unfold aV at q;split at q
   .rename_i hk;split at q
    .rename_i a b' e1 e2;cases hc with
     |head=>exact hk
     |tail _ m=>exact Kz e2 c' m
    .cases q
   .cases q
def TM{e C D:Addr}{b:Bool}{Q:Bool->Shared->Prop}(X:δL)(hty:Looks M s.heap (typeOf εR) γb)(hD:typeIn K εe=some (.type "type"))(q:aV K C [.ref D]=some b)(h:Q b s) :
 wpAny M A (excMatches εR εe) Q E s:=by
 unfold excMatches;have L:Looks M s.heap (isInstance εe (.type "tuple")) false:=(looks_typeIn X hD).andThen (Looks.of_pure (by rw[isSubtype_type];kernel_rfl));refine qaa (L.here ?_);rw[qax ξ];refine qaa (qad ?_);dsimp only;refine qaa (TK (λc hc R hR=>?_) ?_)
 .refine qaa ((TJ X (Kz q c hc)).here ?_);exact qad hR
 refine qaa (hty.here (qaa (TL X q ?_)));cases b<;>exact qad h
end
end Ex
namespace L2
open PySem PySem.Spec PyProof.Rows Ex
noncomputable abbrev Cx.body(X:Cx)(E':T0)(pn':W1):Cx:={X with xe:=E',pn:=pn'}
noncomputable abbrev Cx.hand(X:Cx)(e:Value)(E':T0):Cx:={X with A:=X.A.mark ζC,calm:=false,xe:=E'}
section
variable{X:Cx}{pins:W1}{σ:St}{H:Hp}{s:Shared}
def Inv.TN(I:δ)(E':T0):Inv (X.body E' (X.pn++pins)) [] σ H s:=
 ⟨⟨I.ok.mod,I.ok.kind,I.ok.glob,I.ok.blt,I.ok.above,I.ok.inj,I.ok.has,I.ok.cab,I.ok.hd,I.ok.frames,I.ok.rL,I.ok.rM,I.ok.bs,I.ok.mv,I.ok.jm,I.ok.jo,I.ok.eV,I.ok.oz⟩,I.os,I.bare,I.base,I.loc,I.cell,I.free,I.b_,
   λp hp=>I.pin p (by simpa using hp),I.hok,I.len⟩
def Inv.xo(I:Inv (X.body E' (X.pn++pins)) j6 σ H s):Inv X pins σ H s:=
 ⟨⟨I.ok.mod,I.ok.kind,I.ok.glob,I.ok.blt,I.ok.above,I.ok.inj,I.ok.has,I.ok.cab,I.ok.hd,I.ok.frames,I.ok.rL,I.ok.rM,I.ok.bs,I.ok.mv,I.ok.jm,I.ok.jo,I.ok.eV,I.ok.oz⟩,I.os,I.bare,I.base,I.loc,I.cell,I.free,I.b_,
   λp hp=>I.pin p (qa3 _ hp),I.hok,I.len⟩
def Inv.TQ(I:δ)(e:Value)(E':T0):Inv (X.hand e E') pins σ H s:=
 ⟨⟨I.ok.mod,I.ok.kind,I.ok.glob,I.ok.blt,I.ok.above,I.ok.inj,I.ok.has,I.ok.cab,(λz=>nomatch z),I.ok.frames,I.ok.rL,I.ok.rM,I.ok.bs,I.ok.mv,I.ok.jm,I.ok.jo,I.ok.eV,I.ok.oz⟩,I.os,I.bare,I.base,I.loc,I.cell,I.free,I.b_,I.pin,I.hok,I.len⟩
def Inv.AQ(I:Inv (X.hand e E') pins σ H s)(hd:X.calm=true->X.A.handled=none):Inv X pins σ H s:=
 ⟨⟨I.ok.mod,I.ok.kind,I.ok.glob,I.ok.blt,I.ok.above,I.ok.inj,I.ok.has,I.ok.cab,hd,I.ok.frames,I.ok.rL,I.ok.rM,I.ok.bs,I.ok.mv,I.ok.jm,I.ok.jo,I.ok.eV,I.ok.oz⟩,I.os,I.bare,I.base,I.loc,I.cell,I.free,I.b_,I.pin,I.hok,I.len⟩
def Inv.landed{e C T':Addr}{tb:δa}{h' h'':Heap}(I:δ)(ex:∃dd,H e=some (dD C e dd false))(hT:∀T,tb=some T->H T=none/\X.s₀.heap.objs.size<=T/\∀p∈X.pn++pins,p.1≠T)
 (Eo:∀T,tb=some T->∃oT ts,s.heap.get? T=some oT/\oT.data=.fields ts) (S:Step (frs X.stack) e tb s.heap h') (hle:s.heap.objs.size<=T') (oth:∀b,b≠T'->h''.get? b=h'.get? b):Inv X pins σ H {s with heap:=h''}:=by
 obtain⟨dd,ex⟩:=ex;obtain⟨oe,vs,t0,he,hc,hdd,hd,h0,hsz,_⟩:=qf I.hok ex;have hT':∀b o,s.heap.get? b=some o->b≠T':=λb o z=>qan (qao (qai z) hle);have keep:∀b o,s.heap.get? b=some o->b≠e->tb≠some b->b∉frs X.stack->h''.get? b=some o:=λb o z a1 a2 a3=>(oth b (hT' b o z)).trans (S.keep b o z a1 a2 a3)
 have tracked:∀b u,H b=some u->b∉frs X.stack:=λb u z hb=>by have n:=I.g_ b hb;rw[z]at n;cases n
 have ne:∀b,H b=none->b≠e:=λb z y=>by rw[y,ex]at z;cases z
 refine I.oB (s':={s with heap:=h''}) (ch:=tb.toList) rfl ⟨λb o z n hb hx=>?_,λb o z n hb hx=>?_,λb o z n _=>n,λb o z _=>?_,λ_ _ z=>z,λ_ _ _ z=>z,λb ps z=>⟨#[],by rw[z];simp⟩⟩ (λb u z=>?_) I.bare λb hb=>?_
 .exact keep b o z (ne b n) (λy=>hx (by rw[y];simp)) hb
 .obtain⟨sl,e1⟩:=S.slot b o z (ne b n) (λy=>hx (by rw[y];simp));exact⟨sl,(oth b (hT' b o z)).trans e1⟩
 .obtain⟨o2,e2⟩:=S.there b o z;exact⟨o2,(oth b (hT' b o z)).trans e2⟩
 .by_cases hb:b=e
  .subst hb;rw[ex]at z;cases z;obtain⟨vs',e1,e2,e3⟩:=S.exc oe vs he hd;exact u_ ((oth b (hT' b _ he)).trans e1) hc hdd rfl (by rw[e2];exact h0) (by rw[e3];exact hsz) λz=>nomatch z
  .refine(I.hok b u z).stay (λc v hcv r=>?_) (λ_ r=>r) λ_ _ r=>r
   have ne2:c≠e:=by
    rcases hcv with rfl|hcv
    .exact hb
    .exact rK hcv ex (by intro y;cases y)
   have tr:∃u',H c=some u':=by
    rcases hcv with rfl|hcv
    .exact⟨_,z⟩
    .exact⟨_,hcv⟩
   obtain⟨u',hu'⟩:=tr;exact keep c v r ne2 (λy=>by have:=(hT c y).1;rw[hu']at this;cases this) (tracked c u' hu')
 .cases tb with
  |none=>simp at hb
  |some T =>
    have:b=T:=by simpa using hb
    subst this;obtain⟨a1,a2,a3⟩:=hT b rfl;obtain⟨oT,ts,g1,g2⟩:=Eo b rfl;refine⟨.inr a2,λy=>?_,λx c hx y=>?_,a3⟩
    .obtain⟨m,⟨o,es,ep,ho,hd',_⟩,_⟩:=I.loc;rw[y,ho]at g1;cases g1;rw[hd']at g2;cases g2
    .obtain⟨v,o,ho,hd'⟩:=I.cell x c hx;rw[y,g1]at ho;cases ho;rw[hd']at g2;cases g2
section
variable{X:Cx}
def KA(K:zze)(cs:v4)(i:Nat)(tb:br->TS)(ts:TS):TS:=λD σ H =>
 tb (λaE cls ea H'=>∃a C,cls=.ref C/\ea=some a/\aV K C cs=some true /\
  ts {nx:=λoR xp=>D.nx (oR.set i none) xp,rt:=D.rt,bk:=λoR xp=>D.bk (oR.set i none) xp,ct:=λoR xp=>D.ct (oR.set i none) xp} (aE.set i (some γz)) H') D σ H
end
end
structure KD(env:Env)(scope:Scope)(cl:List (Str×Addr)):Prop where
 clos:closureFor scope env=pure cl
 sub:∀x c,cl.lookup x=some c->env.cells.lookup x=some c
 has:∀x,(x,NameKind.free)∈scope.names->∃c,cl.lookup x=some c
theorem lookup_mem{α:Type}{x:Str}{c:α}:∀{l:List (Str×α)},l.lookup x=some c->(x,c)∈l
 |[],h=>by simp at h
 | (y,d)::r,h=>by
   rw[qbm]at h;split at h
   .rename_i q;cases h;rw[qau.mp q];exact qaj ..
   .exact qaf _ (lookup_mem h)
theorem mem_lookup{α:Type}{x:Str}{c:α}:∀{l:List (Str×α)},(x,c)∈l->∃d,l.lookup x=some d
 |[],h=>nomatch h
 | (y,d)::r,h=>by
   rw[qbm];split
   .exact⟨d,rfl⟩
   .rename_i q;rcases qav.mp h with z|z
    .cases z;simp at q
    .exact mem_lookup z
def TR{env:Env}{scope:Scope}(h:∀x,(x,NameKind.free)∈scope.names->∃c,env.cells.lookup x=some c):∃cl,KD env scope cl:=by
 have go:∀(names:List (Str×NameKind)) (cs:List (Str×Addr)),(∀x,(x,NameKind.free)∈names->∃c,env.cells.lookup x=some c) ->
  ∃cl,(forIn (m:=Sem) names cs λx r=>(match x with| (name,kind)=>if (kind == NameKind.free)=true then do let a <-cellOf env name;pure (ForInStep.yield ((name,a)::r)) else pure θ4))=pure cl /\
   (∀y c,(y,c)∈cl->(y,c)∈cs\/env.cells.lookup y=some c)/\(∀y c,(y,c)∈cs->(y,c)∈cl)/\(∀y,(y,NameKind.free)∈names->∃c,(y,c)∈cl):=by
  intro names
  induction names with
  |nil=>intro cs _;exact⟨cs,rfl,λ_ _ z=>.inl z,λ_ _ z=>z,λ_ z=>nomatch z⟩
  |cons p r ih =>
    intro cs hh;obtain⟨y,k⟩:=p;by_cases hk:k=.free
    .subst hk;obtain⟨c,hc⟩:=hh y (qaj ..);obtain⟨cl,e,h1,h2,h3⟩:=ih ((y,c)::cs) λx hx=>hh x δP;refine⟨cl,?_,λz d hz=>?_,λz d hz=>h2 z d (qaf _ hz),λz hz=>?_⟩
     .have ec:cellOf env y=pure c:=by simp only[cellOf,hc]
      rw[List.forIn_cons];simp only[beq_self_eq_true,if_true,ec,pure_bind];exact e
     .rcases h1 z d hz with q|q
      .rcases qav.mp q with q|q
       .cases q;exact .inr hc
       .exact .inl q
      .exact .inr q
     .rcases qav.mp hz with q|q
      .cases q;exact⟨c,h2 _ _ (qaj ..)⟩
      .exact h3 z q
    .obtain⟨cl,e,h1,h2,h3⟩:=ih cs λx hx=>hh x δP;refine⟨cl,?_,h1,h2,λz hz=>?_⟩
     .rw[List.forIn_cons];have:(k == NameKind.free)=false:=by simpa using hk
      simp only[this,Bool.false_eq_true,if_false,pure_bind];exact e
     .rcases qav.mp hz with q|q
      .cases q;exact absurd rfl hk
      .exact h3 z q
 obtain⟨cl,e,h1,h2,h3⟩:=go scope.names [] h;refine⟨cl,?_,λx c hx=>?_,λx hx=>?_⟩
 .unfold closureFor
  first
   |exact e
   | (show(forIn (m:=Sem) scope.names ([]:List (Str×Addr)) _ >>= λr=>pure r)=pure cl;rw[bind_pure];exact e)
   | (rw[bind_pure];exact e)
   | (trace_state;fail "x")
 .exact(h1 x c (lookup_mem hx)).elim (λz=>nomatch z) id
 .obtain⟨c,hc⟩:=h3 x hx;exact mem_lookup hc
noncomputable abbrev Cx.blk(X:Cx)(Nc:v6)(scope:Scope)(cl:List (Str×Addr))(C:Addr)(s3:Shared)(H3:Hp)(fp:zzd)(pn':W1)(E':T0):Cx:=
 {X with N:=Nc,s₀:=s3,H₀:=H3,env:=compEnvC scope cl C X.env,outer:=X.stack,ex:=fp,fn:=λ_=>false,pn:=pn',xe:=E'}
noncomputable def aw(fr:zzc)(own:Nat)(σ:St):St:=List.replicate own none++fr.map λj=>(σ[j]?).join
structure jv(X:Cx)(scope:Scope)(Nc:v6)(own:Nat)(fr:zzc):Prop where
 len:Nc.length=own+fr.length
 free:∀(k j:Nat) (x:Str),fr[k]?=some j->Nc[own+k]?=some x->X.N[j]?=some x/\(X.env.scope.names.lookup x=some .cell\/X.env.scope.names.lookup x=some .free)/\scope.names.lookup x=some .free
 kind:scope.kind=.function
 lF:∀y∈scope.names,y.2≠.cell
 names:∀x∈scope.names,x.2=.local->scope.names.lookup x.1=some .local
 frees:∀x,(x,NameKind.free)∈scope.names->X.env.scope.names.lookup x=some .cell\/X.env.scope.names.lookup x=some .free
def tW(X:Cx)(ifs:zza)(t:TT):Prop:=
 ∀(pins:W1) (s:Shared) (σ:St) (H:Hp) (Q:Bool->Hp->Prop),Inv X pins σ H s->t σ H Q ->
  wpAny ζ X.A (forIn ifs true λc r=>if r=true then do let ok <-isTrue c X.env (eval c X.env);pure (ForInStep.yield ok) else pure θ4) (TP X pins σ Q) X.xe s
def TU:tW X [] (λ_ H Q=>Q true H):=λ_ _ _ H _ I h=>wpAny_tests_nil ⟨H,I,h⟩
def TV(h:PT X c t):tW X [c] t:=λpins s σ H Q I q=>wpAny_tests_one (h pins s σ H Q I q)
def Ep(fr:zzc)(own:Nat)(wi:TI)(g:TG)(tc:TT)(te:TE):TE:=λσ H Q=>wi σ H λJ H1=>∀D,H1 D=none->∃W:Nat->Nat->List V->Hp->Prop,(∃m,W 0 m [] (upd H1 D (.lst []))) /\
 ∀i m ys H2,H2 D=some εi->W i m ys H2->(J.stop i H2/\Q εe H2)\/(J.go i H2/\ys.length<sizeLine/\∀x H3,J.u5 i H2 x H3->g x γE H3 λj9 H4=>tc j9 H4 λb H5 =>
  if b=true then te j9 H5 λy H6=>H6 D=some εi/\∃m',m'<m/\W (i+1) m' (ys++[y]) (upd H6 D (.lst (ys++[y]))) else H5 D=some εi/\∃m',m'<m/\W (i+1) m' ys H5)
def KG{scope:Scope}(hn:∀y∈scope.names,y.2≠.cell)(h:(relabel scope env).names.lookup x=some k)(hk:k=.cell\/k=.free):(x,NameKind.free)∈scope.names:=by
 have m:=lookup_mem h;obtain⟨⟨y,k'⟩,hy,e⟩:=qaF.mp m;dsimp only at e;split at e
 .rename_i q;rw[qa1,qa1]at q;have TX:=qau.mp q.1.1;cases e;rw[TX]at hy;exact hy
 .cases e;rcases hk with rfl|rfl
  .exact absurd rfl (hn _ hy)
  .exact hy
def TY{scope:Scope}(h:scope.names.lookup x=some .free):(relabel scope env).names.lookup x=some .cell\/(relabel scope env).names.lookup x=some .free:=by
 unfold relabel;dsimp only;generalize scope.names=l at h;induction l with
 |nil=>simp at h
 |cons p r ih =>
   obtain⟨y,k⟩:=p;rw[qbm]at h;rw[qaP, ];split at h
   .rename_i q;cases h;dsimp only;split
    .rw[qbm,q];exact .inl rfl
    .rw[qbm,q];exact .inr rfl
   .rename_i q;dsimp only;split
    .rw[qbm,q];exact ih h
    .rw[qbm,q];exact ih h
section
variable{X:Cx}{pins:W1}{σ:St}{H:Hp}{s:Shared}
def Inv.block{scope:Scope}{Nc:v6}{own:Nat}{fr:zzc}{cl:List (Str×Addr)}{fp:zzd}{h₁:Heap}{t':Nat}{E':T0}(I:δ)(B:δl)(nQ:KD X.env scope cl)
 (hfp:∀b∈fp,mZ X pins H b/\∃o,s.heap.get? b=some o) (hns:h₁.Ns s.heap.objs.size (λ_=>none)) (keep:∀b o,s.heap.get? b=some o->h₁.get? b=some o) :
 Inv (X.blk Nc scope cl s.heap.objs.size s H fp (X.pn++pins) E') [] γE H {s with heap:=h₁,toks:=t'}:=by
 have lt:∀b∈fp,b<s.heap.objs.size:=λb hb=>let ⟨_,_,e⟩:=hfp b hb;qai e;have Er:∀x c,X.env.cells.lookup x=some c->c<s.heap.objs.size:=λx c e=>let ⟨_,_,e,_⟩:=I.cell x c e;qai e
 refine⟨⟨I.ok.mod,B.kind,I.ok.glob,I.ok.blt,qah _,λx y c h1 h2=>I.ok.inj x y c (nQ.sub x c h1) (nQ.sub y c h2),λx hx=>?_,(λx c z=>nomatch z),I.ok.hd,I.ok.frames,.inl rfl,λb hb=>?_,I.bs,qaJ I.ok.mv I.sz,λb o e hb=>?_,λb hb=>?_,I.stack,I.g_⟩,
  rfl,I.bare,Un.kept keep,⟨_,hns,λi x v e1 e2 e3=>?_⟩,λx c e=>?_,I.hok.fresh γI,λx c e=>I.b_ x c (nQ.sub x c e),λp hp=>?_,I.hok.kept keep,?_⟩
 .rcases hx with hx|hx
  .exact nQ.has x (KG B.lF hx γJ)
  .exact nQ.has x (KG B.lF hx (.inr rfl))
 .exact⟨qan (lt b hb),λx c e z=>(hfp b hb).1.2.2.2.2.1 x c (nQ.sub x c e) z⟩
 . -- a base object is no iterator of ours
   have e0:=I.ok.bs b o e;rcases(hfp b hb).1.2.2.2.1 with z|z
   .exact I.ok.jm b o e z
   .exact absurd (qao (qao ηl I.ok.mv) z) (qbq _)
 .intro z;rcases qav.mp (I.jq b z) with z|z
  .exact(hfp b hb).1.2.1 z
  .exact(hfp b hb).1.2.2.1 z
 . -- a slot
   unfold aw at e2;by_cases hi:i<own
   .rw[qaL (by simpa using hi),qbL,qaz hi]at e2;cases e2
   .have hge:own<=i:=Nat.le_of_not_lt hi;rw[qaI (by simpa using hge),qbF,qaE]at e2;cases hj:fr[i-own]? with
    |none=>rw[hj]at e2;cases e2
    |some j =>
      rw[hj]at e2;have e2':(σ[j]?).join=some v:=by simpa using e2
      have e4:σ[j]?=some δR:=by
       cases q:σ[j]? with
       |none=>rw[q]at e2';cases e2'
       |some o=>rw[q]at e2';have:o=some v:=e2';rw[this]
      have e5:Nc[own+(i-own)]?=some x:=by rw[Nat.add_sub_cancel' hge];exact e1
      obtain⟨n1,n2,n3⟩:=B.free (i-own) j x hj e5;obtain⟨m,hn,hl⟩:=I.loc;have TZ:wR X.env.scope x:=n2.elim (λz=>.inr (.inl z)) λz=>.inr (.inr z);obtain⟨u,r,l⟩:=hl j x v n1 e4 TZ;refine⟨u,r,.inr ⟨TY n3,?_⟩⟩;rcases l with ⟨k,_⟩|⟨_,c,hc,hcell⟩
      .rcases n2 with n2|n2
       .have k':X.env.scope.names.lookup x=some .local:=k;rw[n2]at k';cases k'
       .have k':X.env.scope.names.lookup x=some .local:=k;rw[n2]at k';cases k'
      .obtain⟨c',hc'⟩:=nQ.has x (lookup_mem n3);have e6:=nQ.sub x c' hc';rw[hc]at e6;cases e6;obtain⟨o,ho,hd⟩:=hcell;exact⟨c,hc',o,keep _ _ ho,hd⟩
 .obtain⟨v,o,ho,hd⟩:=I.cell x c (nQ.sub x c e);exact⟨v,o,keep _ _ ho,hd⟩
 .have hp':p∈X.pn++pins:=by simpa using hp
  obtain⟨e,n,ne,nf,d⟩:=I.pin p hp';refine⟨keep _ _ e,n,qan ηl,λz=>?_,d⟩;rcases qav.mp (I.jq p.1 z) with z|z
  .exact ne z
  .exact nf z
 .show(aw fr own σ).length=Nc.length;unfold aw;rw[qam,qbF,qag,B.len]
def Inv.qM{scope:Scope}{Nc:v6}{cl:List (Str×Addr)}{fp:zzd}{E':T0}{j6:W1}{aE:St}{H':Hp}{s':Shared}{h':Heap}(I:δ)(hfp:∀b∈fp,mZ X pins H b)
 (J:Inv (X.blk Nc scope cl s.heap.objs.size s H fp (X.pn++pins) E') j6 aE H' s') (sb:Heap.SameBut s.heap.objs.size s'.heap h'):Inv X pins σ H' {s' with heap:=h'}:=by
 have ne:∀b o,s.heap.get? b=some o->b≠s.heap.objs.size:=λb o e=>qan ηl;have hC:H' s.heap.objs.size=none:=J.free;refine I.oB (s':={s' with heap:=h'}) (ch:=fp) J.os ⟨λb o e n hb hx=>?_,λb o e n hb hx=>?_,J.base.free,λb o e hx=>?_,J.base.tups,J.base.gL,J.base.ik⟩ (λb u e=>?_) J.bare λb hb=>?_
 .exact(sb.2 b (ne b o e)).trans (J.base.keep b o e n hb hx)
 .obtain⟨sl,z⟩:=J.base.slot b o e n hb hx;exact⟨sl,(sb.2 b (ne b o e)).trans z⟩
 .obtain⟨o',z⟩:=J.base.there b o e hx;exact⟨o',(sb.2 b (ne b o e)).trans z⟩
 .refine(J.hok b u e).stay (λc v hc q=>(sb.2 c ?_).trans q) (λ_ q=>q) λ_ _ q=>q;rintro rfl;rcases hc with rfl|hc
  .rw[hC]at e;cases e
  .rw[hC]at hc;cases hc
 .obtain⟨f0,f1,f2,f3,f4,f5⟩:=hfp b hb;exact⟨f3,f1,f4,f5⟩
def qg(own:Nat)(g:TG):Prop:=∀(x:V) (σ:St) (H:Hp) (Q:St->Hp->Prop),g x σ H Q->g x σ H λaE H'=>Q aE H'/\∀k,own<=k->aE[k]?=σ[k]?
def AR(own:Nat)(g:qa):Prop:=∀(x:γv) (σ:St) (H:Hp) (Q:St->Hp->Prop),g x σ H Q->g x σ H λaE H'=>Q aE H'/\∀k,own<=k->aE[k]?=σ[k]?
def AS(h:i<own):qg own (nN i):=λx σ H Q q=>⟨q,λk hk=>qak ω⟩
def T4:AR own wW:=λx σ H Q q=>⟨q.1,q.2,λ_ _=>rfl⟩
def KH(h:i<own)(hu:AR own u):AR own (tJ (nN i) u):=λx σ H Q q=>by
 obtain⟨v,r,e,q⟩:=q;refine⟨v,r,e,?_⟩;have q':=hu r _ H _ q
 have e2:(λaE H'=>Q aE H'/\∀k,own<=k->aE[k]?=(σ.set i δR)[k]?)=(λaE H'=>Q aE H'/\∀k,own<=k->aE[k]?=σ[k]?):=by
  funext aE H';apply propext;constructor
  .rintro⟨a,b⟩;exact⟨a,λk hk=>by rw[b k hk,qak ω]⟩
  .rintro⟨a,b⟩;exact⟨a,λk hk=>by rw[b k hk,qak ω]⟩
 rw[e2]at q';exact q'
def T5{own n:Nat}{K:zze}{u:qa}(hu:AR own u):qg own (wX K n u):=λx σ H Q q=>by obtain⟨a,xs,e1,e2,e3,q⟩:=q;exact⟨a,xs,e1,e2,e3,hu xs σ H Q q⟩
end
noncomputable def turnOf(e:Expr)(k:Nat)(tg:Expr)(p:Pos)(ifs:zza)(act:Sem Unit)(it acc:Value)(env:Env):Sem Fin:=do
 standAt p
 match <-pyNext it with
 |none=>pure (.done .next)
 |some v =>
   letOwnedTupleGo tg it v
   assign tg env v
   let mut ok:=true
   for c in ifs do
    if ok then ok <-isTrue c env (eval c env)
   if ok then act
   again (.compLoop e k it acc env)
abbrev T6(M:Model)(A:Around)(env:Env)(tg:Expr)(it:Value)(ifs:zza)(act:Sem Unit)(N:T0)(next:Shared->Prop)(v:Value)(s:Shared):Prop:=
 wpAny M A (letOwnedTupleGo tg it v) (λ_ a=>wpAny M A (assign tg env v) (λ_ b =>
  wpAny M A (forIn ifs true λc r=>if r=true then do let ok <-isTrue c env (eval c env);pure (ForInStep.yield ok) else pure θ4) (λyes c =>
   if yes=true then wpAny M A act (λ_=>next) N c else next c) N b) N a) N s
noncomputable def KI(prog:Program)(w:World)(A:Around)(ce:Expr)(k:Nat):Prop:=∀(it acc:Value) (env:Env),A.under ζ5=A/\(model prog w).den ζ5=(compTurn ce k it acc env).onRaise λx=>do noteFrame x env;theTreesLotGoes x
def T_(ht:compTurn ce k it acc env=turnOf ce k tg p ifs act it acc env)(J:Nat->Shared->Prop)(n:Nat)(start:J n s)
 (turn:∀n s,J n s->wpAny ε A (pyNext it) (λr a=>match r with
  |none=>R (.ok .next) a
  |some v=>T6 ε A env tg it ifs act (notedBy ε A env λx=>R (.error x)) (λb=>∃m,m<n/\J m b) v a) (notedBy ε A env λx=>R (.error x)) s) (hd:KI prog w A ce k:=by exact λ_ _ _=>⟨rfl,rfl⟩) :
 codeAny ε A ζ5 R s:=by
 apply codeAny_loop rfl J _ n start;intro n s j;rw[(hd it acc env).1,(hd it acc env).2];apply wpAny_noted;rw[ht];unfold turnOf;apply qaa;apply qbB;apply qaa;apply qa6 (turn n s j) _ λ_ _ z=>z;intro r a k;cases r with
 |none=>exact qad k
 |some v =>
   apply qaa;apply qa6 k _ λ_ _ z=>z;intro _ b k;apply qaa;apply qa6 k _ λ_ _ z=>z;intro _ c k;apply qaa;apply qa6 k _ λ_ _ z=>z;intro yes d k;cases yes
   .exact qad (And.intro rfl k)
   .apply qaa;apply qa6 k _ λ_ _ z=>z;intro _ f k;exact qad (And.intro rfl k)
abbrev xq(β:Type):=St->Hp->Addr->β->(β->Hp->Prop)->Prop
abbrev Ua:=xq γv
def Es{β:Type}(O:Addr->β->HO)(Y:Cx)(L:β->Prop)(te:xq β)(act:Value->Sem Unit):Prop:=∀(pins:W1) (s:Shared) (σ:St) (H:Hp) (D:Addr) (ys:β) (K:β->Hp->Prop),Inv Y pins σ H s->L ys->te σ H D ys K ->
 wpAny (model Y.prog Y.w) Y.A (act εe) (λ_ s'=>∃H' ys',Inv Y pins σ H' s'/\H' D=some (O D ys')/\K ys' H') (λ_ _=>False) s
abbrev oL:Addr->List V->HO:=λ_ ys=>.lst ys
abbrev Ub:=Es oL
noncomputable def emit(el:Expr)(env:Env)(acc:Value):Sem Unit:=do let _ <-call (.builtin "list.append") [acc,<-eval el env]
def Et(te:TE):Ua:=λσ H D ys K=>te σ H λy H6=>H6 D=some εi/\K (ys++[y]) (upd H6 D (.lst (ys++[y])))
noncomputable abbrev AU(ys:γv):Prop:=ys.length<sizeLine
def KJ{Y:Cx}(hx:Y.xe=λ_ _=>False)(he:PE Y el te):Ub Y AU (Et te) (emit el Y.env):=by intro pins s σ H D ys K J hlen q;unfold emit;refine qaa (qa6 (he pins s σ H _ J q) (λv s8 zq=>?_) λ_ _ z=>by rw[hx]at z;exact z);obtain⟨y,H8,J8,r8,e8,k8⟩:=zq;refine qaa (qa6 (xi _ s8 σ H8 εe [y] εe [v] (λ_ H9=>H9=upd H8 D (.lst (ys++[y]))) J8 rfl (.cons r8 .nil) ⟨_,ys,y,rfl,rfl,e8,hlen,rfl⟩) (λ_ s9 zq=>?_) λ_ _ z=>by rw[hx]at z;exact z);obtain⟨_,H9,J9,_,e9⟩:=zq;subst e9;exact qad ⟨_,_,J9,fS,k8⟩
def AV{β:Type}(O:Addr->β->HO)(e0:β)(fr:zzc)(own:Nat)(wi:TI)(g:TG)(tc:TT)(L:β->Prop)(te:xq β):TE:=λσ H Q=>wi σ H λJ H1=>∀D,H1 D=none->∃W:Nat->Nat->β->Hp->Prop,(∃m,W 0 m e0 (upd H1 D (O D e0))) /\
 ∀i m ys H2,H2 D=some (O D ys)->W i m ys H2->(J.stop i H2/\Q εe H2)\/(J.go i H2/\L ys/\∀x H3,J.u5 i H2 x H3->g x γE H3 λj9 H4=>tc j9 H4 λb H5 =>
  if b=true then te j9 H5 D ys (λys' H6=>∃m',m'<m/\W (i+1) m' ys' H6) else H5 D=some (O D ys)/\∃m',m'<m/\W (i+1) m' ys H5)
abbrev KL:=AV oL []
noncomputable abbrev lO:Obj:={cls:=.type "list",dict:=none,data:=.seq ([]:v4).toArray}
section
variable{X:Cx}{pins:W1}{σ:St}{H:Hp}{s:Shared}
def KN{X:Cx}{H:Hp}{h:Heap}{D:Addr}(e:h.get? D=some lO):aI X.prog X.w H h D (oL D []):=⟨qaZ _,[],0,.nil,e⟩
def Eu{ce tg iter:Expr}{ifs:zza}{scope:Scope}{Ew:Pos}{Nc:v6}{own:Nat}{fr:zzc}{wi:TI}{g:TG}{tc:TT}{β:Type}{O:Addr->β->HO}{e0:β}{L:β->Prop}{te:xq β}{mk:Sem Value}{o0:Obj}{act:Env->Value->Sem Unit}{gs:List Comprehension}{use:Option (Value->Sem Unit)}{QQ:T0}{Q:VK}(hc:X.calm=true)(B:δl)(hi:ηc)(hog:qg own g)
 (hg:∀cl C s3 H3 fp pn',PG (X.blk Nc scope cl C s3 H3 fp pn' λ_ _=>False) tg g) (ht:∀cl C s3 H3 fp pn',tW (X.blk Nc scope cl C s3 H3 fp pn' λ_ _=>False) ifs tc) (hturn:∀it acc env,compTurn ce 0 it acc env=turnOf ce 0 tg iter.pos ifs (act env acc) it acc env) (ha:∀cl C s3 H3 fp pn',Es O (X.blk Nc scope cl C s3 H3 fp pn' λ_ _=>False) L te (act (compEnvC scope cl C X.env)))
 (hfr:o0.isFreed=false) (hd:KI X.prog X.w X.A ce 0) (hcl:clausesOf ce=⟨tg,iter,ifs,0⟩::gs) (hmk:∀{E:T0}{Q:T0}{s:Shared},Q γd {s with heap:=s.heap.push o0}->wpAny ζ X.A mk Q E s) (hob:∀{H:Hp}{h:Heap}{D:Addr},h.get? D=some o0->aI X.prog X.w H h D (O D e0))
 (hst:∀{R:Result->Shared->Prop}{s:Shared}{it acc:Value}{env:Env},codeAny ζ X.A (.compLoop ce 0 it acc env) R s->wpAny ζ X.A (pyIter it) (λit' s'=>codeAny ζ X.A (.compLoop ce 0 it' acc env) R s') (notedBy ζ X.A env λx s'=>R (.error x) s') s->codeAny ζ X.A (.compStart ce 0 it acc env) R s)
 (hs:∀x,foldedSetIterable iter X.env x=pure x) (I:δ) (h:AV O e0 fr own wi g tc L te σ H Q)
 (fin:∀(D C:Addr) (H3:Hp) (s4:Shared),(∃m,s4.heap.Ns C m)->mZ X pins H3 C->(∀h',Heap.SameBut C s4.heap h'->Inv X pins σ H3 {s4 with heap:=h'})->Q εe H3->compPost ζ X.A X.xe use QQ εe C (.ok .next) s4) :
 wpAny ζ X.A (comprehension ce scope X.env Ew mk false ηs use) QQ X.xe s:=by
 obtain⟨cl,nQ⟩:=TR (env:=X.env) (scope:=scope) λx hx=>I.ok.has x (B.frees x hx);apply wpAny_comprehension_free hcl hs nQ.clos B.kind B.names;apply qa6 (hi pins s σ H _ I h) _ λ_ _ e=>e;intro xv s1 h1;apply qa6 h1 _ λ_ _ e=>e;intro itv s2 h2;obtain⟨it,fp,tn,J,H2,rfl,I2,T,st2,f2,q⟩:=h2;refine hmk (wpAny_newFunctionEnv B.lF (by intro y hy;simp at hy) (λh₁ tX tY=>?_) B.kind);have hD:H2 s2.heap.objs.size=none:=I2.hok.fresh γI;obtain⟨W,⟨m0,w0⟩,turn⟩:=q s2.heap.objs.size hD
 have I3:Inv X pins σ γc {s2 with heap:=s2.heap.push o0}:=
  I2.laid (t':=s2.toks) (λb u e=>qab _ e) γI (hob (qar _ hfr))
 have Ey:∀b∈fp,b≠s2.heap.objs.size:=λb hb=>let ⟨o,e,_⟩:=T.obj _ _ st2 b hb;qan ηl;have f3:∀b∈fp,mZ X pins γc b:=λb hb=>⟨by rw[bA (Ey b hb)];exact(f2 b hb).1,(f2 b hb).2⟩
 have keep:∀b o,(s2.heap.push o0).get? b=some o->h₁.get? b=some o:=λb o e =>
  (tY.2 b (qan ηl)).trans (qab _ e)
 have IY:=I3.block (h₁:=h₁) (t':=s2.toks+([]:List (Str×Value)).length) (E':=λ_ _=>False) B nQ (λb hb=>⟨f3 b hb,let ⟨o,e,_⟩:=T.obj _ _ st2 b hb; ⟨o,qab _ e⟩⟩) tX keep;have st1:tn 0 h₁:=T.keep _ _ _ st2 λb hb o e=>keep b o (qab _ e)
 have fY:∀{H':Hp},(∀b∈fp,H' b=none)->∀b∈fp,mZ (X.blk Nc scope cl (s2.heap.push o0).objs.size {s2 with heap:=s2.heap.push o0} γc fp (X.pn++pins) λ_ _=>False) [] H' b:=λhn b hb =>
  ⟨hn b hb,(IY.ok.rM b hb).1,IY.ok.jo b hb,.inl hb,(IY.ok.rM b hb).2,λp hp=>(f2 b hb).2.2.2.2.2 p (by simpa using hp)⟩
 have loop:codeAny ζ X.A (.compLoop ce 0 θk ηx (compEnvC scope cl (s2.heap.push o0).objs.size X.env))
  (compPost ζ X.A X.xe use QQ ηx (s2.heap.push o0).objs.size) {s2 with heap:=h₁,toks:=s2.toks+([]:List (Str×Value)).length}:=by
  refine T_ (hd:=hd) (hturn _ _ _) (λn s'=>∃i ys H',Inv (X.blk Nc scope cl (s2.heap.push o0).objs.size {s2 with heap:=s2.heap.push o0} γc fp (X.pn++pins) λ_ _=>False) [] γE H' s'/\tn i s'.heap/\(∀b∈fp,H' b=none)/\H' s2.heap.objs.size=some ηt/\W i n ys H')
   m0 ⟨0,e0,_,IY,st1,λb hb=>(f3 b hb).1,fS,w0⟩ ?_
  rintro n s3 ⟨i,ys,H3,J3,st3,w4,e3,w3⟩;rcases turn i n ys H3 e3 w3 with ⟨stop,qn⟩|⟨go,hlen,step⟩
  .refine aX (T.done (X.blk Nc scope cl (s2.heap.push o0).objs.size {s2 with heap:=s2.heap.push o0} γc fp (X.pn++pins) λ_ _=>False) rfl rfl rfl hc i [] s3 _ H3 _ J3 (fY w4) st3 stop) λr s4 zq=>?_;obtain⟨hr,J4⟩:=zq;subst hr;obtain⟨m,hn,_⟩:=J4.loc;exact fin _ _ H3 s4 ⟨m,hn⟩ (I3.oF γI J4.free) (λh' sb=>I3.qM f3 J4 sb) qn
  .refine aX (T.item (X.blk Nc scope cl (s2.heap.push o0).objs.size {s2 with heap:=s2.heap.push o0} γc fp (X.pn++pins) λ_ _=>False) rfl rfl rfl hc i [] s3 _ H3 _ J3 (fY w4) st3 go) λr s4 zq=>?_;obtain⟨u,hr,h4⟩:=zq;subst hr;refine aX h4 λ_ s5 zq=>?_;obtain⟨x,H5,J5,r5,y5,jO,DU⟩:=zq;have Uc:=J5.pinned (fY DU) (T.obj _ _ jO);have lift:∀{α:Type}{m:Sem α}{Q':α->Shared->Prop}{E':T0}{s':Shared},wpAny ζ X.A m Q' (λ_ _=>False) s'->wpAny ζ X.A m Q' E' s':=λh=>qa6 h (λ_ _ z=>z) λ_ _ z=>z.elim;refine lift (aX (hg _ _ _ _ _ _ _ s5 _ H5 x u _ Uc r5 (hog _ _ _ _ (step x H5 y5))) λ_ s6 zq=>?_);obtain⟨jP,H6,J6,q6,Ez⟩:=zq;refine lift (aX (ht _ _ _ _ _ _ _ s6 jP H6 _ J6 q6) λb s7 zq=>?_);obtain⟨H7,J7,q7⟩:=zq
   have back:∀{H8:Hp}{s8:Shared}{ys':β}{m':Nat},Inv (X.blk Nc scope cl (s2.heap.push o0).objs.size {s2 with heap:=s2.heap.push o0} γc fp (X.pn++pins) λ_ _=>False) ([]++wZ fp s5.heap) jP H8 s8->H8 s2.heap.objs.size=some (O s2.heap.objs.size ys')->m'<n->W (i+1) m' ys' H8 ->
    ∃m,m<n/\∃i ys H',Inv (X.blk Nc scope cl (s2.heap.push o0).objs.size {s2 with heap:=s2.heap.push o0} γc fp (X.pn++pins) λ_ _=>False) [] γE H' s8/\tn i s8.heap/\(∀b∈fp,H' b=none)/\H' s2.heap.objs.size=some ηt/\W i m ys H':=λ{H8 s8 ys' m'} J8 e8 hm w8=>by
    refine⟨m',hm,i+1,ys',H8,?_,T.keep _ _ _ jO λb hb o e=>(J8.pin (b,o) εI).1,λb hb=>?_,e8,w8⟩
    .refine(Inv.fU (pins:=[]) J8).weak ?_ λj v' z=>?_
     .rw[IY.len];exact J8.len.symm
     .by_cases hj:j<own
      .unfold aw at z;rw[qaL (by simpa using hj),qbL,qaz hj]at z;cases z
      .rw[Ez j (Nat.le_of_not_lt hj)];exact z
    .obtain⟨o,e,d⟩:=T.obj _ _ jO b hb;exact(J8.pin (b,o) εI).2.1
   cases b with
   |false =>
     obtain⟨e7,m',hm,w7⟩:=(show H7 s2.heap.objs.size=some ηt/\∃m',m'<n/\W (i+1) m' ys H7 from by simpa using q7);exact back J7 e7 hm w7
   |true =>
     have Ud:te jP H7 s2.heap.objs.size ys (λys' H6=>∃m',m'<n/\W (i+1) m' ys' H6):=by simpa using q7
     refine lift (aX (ha _ _ _ _ _ _ _ s7 jP H7 _ ys _ J7 hlen Ud) λv s8 zq=>?_);obtain⟨H8,ys',J8,e8,m',hm,w8⟩:=zq;exact back J8 e8 hm w8
 exact hst loop (T.self _ _ _ _ _ st1 loop)
def Ue(hc:X.calm=true)(B:δl)(hi:ηc)(hog:qg own g)
 (hg:∀cl C s3 H3 fp pn',PG (X.blk Nc scope cl C s3 H3 fp pn' λ_ _=>False) tg g) (ht:∀cl C s3 H3 fp pn',tW (X.blk Nc scope cl C s3 H3 fp pn' λ_ _=>False) ifs tc) (he:∀cl C s3 H3 fp pn',PE (X.blk Nc scope cl C s3 H3 fp pn' λ_ _=>False) elt te)
 (hs:∀x,foldedSetIterable iter X.env x=pure x:=by intro _;rfl):PE X (.ListComp elt [⟨tg,iter,ifs,0⟩] scope pos) (Ep fr own wi g tc te):=by intro pins s σ H Q I h;rw[eval_ListComp];exact Eu (o0:=lO) (gs:=[]) (act:=λenv acc=>emit elt env acc) (QQ:=EP X pins σ Q) hc B hi hog hg ht (λ_ _ _=>rfl) (λcl C s3 H3 fp pn'=>KJ rfl ηX) rfl (λ_ _ _=>⟨rfl,rfl⟩) rfl qbn KN codeAny_compStart_list hs I (show KL fr own wi g tc AU (Et te) σ H Q from h) λL C H3 s4 hn f xt q=>let ⟨m,hm⟩:=hn; ⟨m,hm,λh' sb=>⟨.ref L,H3,xt h' sb,rfl,q⟩⟩
def Ug{pos py spos:Pos}(hN:X.N.Nodup)(hi':X.N[i]?=some y)(hx:Loc X.env.scope y)(hc:X.calm=true)(B:δl)(hi:ηc)(hog:qg own g)
 (hg:∀cl C s3 H3 fp pn',PG (X.blk Nc scope cl C s3 H3 fp pn' λ_ _=>False) tg g) (ht:∀cl C s3 H3 fp pn',tW (X.blk Nc scope cl C s3 H3 fp pn' λ_ _=>False) ifs tc) (he:∀cl C s3 H3 fp pn',PE (X.blk Nc scope cl C s3 H3 fp pn' λ_ _=>False) elt te)
 (hs:∀x,foldedSetIterable iter X.env x=pure x:=by intro _;rfl) (hsw:swapsWith (.ListComp elt [⟨tg,iter,ifs,0⟩] scope pos) (some (.Name y py)) spos.line X.env=pure true:=by rfl)
 (hf:X.fn y=true\/X.env.scope.names.lookup y=some .local:=by first|exact .inl rfl|exact .inr rfl|assumption) :
 PS X (.Assign [.Name y py] (.ListComp elt [⟨tg,iter,ifs,0⟩] scope pos) spos) (u4 (Ep fr own wi g tc te) (nN i)):=by
 intro pins s σ H D I h;rw[exec_Assign_Name_used (hs:=hsw)];apply qaa;apply qbB;apply qaa;change wpAny _ _ (comprehension (.ListComp elt [⟨tg,iter,ifs,0⟩] scope pos) scope X.env _ (newList []) false ηs (some (assign (.Name y py) X.env)) >>= λ_=>pure ()) _ _ _;apply qaa;refine qa6 (Eu (o0:=lO) (gs:=[]) (Q:=λx H1=>nN i x σ H1 D.nx) (act:=λenv acc=>emit elt env acc) (QQ:=λ_ s'=>SP X pins D .next s') hc B hi hog hg ht (λ_ _ _=>rfl) (λcl C s3 H3 fp pn'=>KJ rfl ηX) rfl (λ_ _ _=>⟨rfl,rfl⟩) rfl qbn KN codeAny_compStart_list hs I (show KL fr own wi g tc AU (Et te) σ H _ from h) (λL C H3 s4 hn f xt q=>?_)) (λ_ s' q=>qad (qad q)) λ_ _ e=>e;obtain⟨m,o,es,ep,ho,hd,r⟩:=hn;have I4:Inv X pins σ H3 s4:=xt s4.heap (Heap.SameBut.refl _ _);obtain⟨f0,f1,f2,f3,f4,f5⟩:=f
 have I5:Inv X ((C,o)::pins) σ H3 s4:=I4.hU λp hp=>by
  rcases qav.mp hp with e|e
  .subst e;exact⟨ho,f0,f1,f2,λv z=>by rw[hd]at z;cases z⟩
  .exact I4.pin p (qay _ e)
 show wpAny _ _ (assign (.Name y py) X.env (.ref L)) _ _ _;apply wpAny_assign_Name;apply u0 I5 hN hi' hx (v:=.ref L) rfl _ hf;intro s5 I6;have hC:=(I6.pin (C,o) (qay _ (qaj ..))).1;refine⟨m,⟨o,es,ep,hC,hd,r⟩,λh' sb=>⟨_,H3,?_,q⟩⟩;have I7:Inv X pins (σ.set i (some (.ref L))) H3 s5:=I6.hU λp hp=>I6.pin p (qay _ (qaf _ hp));exact I7.turned (t':=s5.toks) (λb o hb e=>(sb.2 b hb).trans e) f0 f1 f3 f4 f5
end
section
variable{X:Cx}
def range_all(bs:ιk):((List.range bs.length).all λi=>bs.getD i false)=bs.all id:=by
 induction bs with
 |nil=>rfl
 |cons b r ih =>
   rw[qaW,List.range_succ_eq_map,qbC,List.all_map,qbC];exact congrArg (b&& ·) ih
def Uh(calm:X.calm=true):aM X (.builtin "all") (λxs H Q=>∃(p:Addr) (bs:ιk),xs=[.ref p]/\H p=some (.lst (bs.map V.bl))/\Q ηA H):=by
 intro pins s σ H xs us Q I r h;obtain⟨p,bs,rfl,hH,q⟩:=h;obtain⟨u,rfl,ru⟩:=r.one;cases ru;obtain⟨z,its,n,rv,hl,e⟩:=I.aD hH;have KO:s.heap.IsList p its.toArray:=⟨_,e,rfl,_,rfl⟩;have ne:p≠s.heap.objs.size:=qan ηl;have hA:X.A.in1.handled=none:=I.ok.hd calm;apply call_all_walk;apply wpAny_pyIter_list KO;refine⟨_,_,_,_,_,_,λi=>bs.getD i false,rfl,Walks.list hA s.heap.objs.size p ne its.toArray,⟨⟨_,qar _ rfl,rfl,rfl⟩,?_⟩,?_,?_⟩
 .exact KO.push _
 .intro i v s' Q' E' hv hQ;have hv':its[i]?=some v:=by simpa using hv
  have lt:i<bs.length:=by have:=(qac.mp hv').1;rw[<-rv.length,qag]at this;exact this
  obtain⟨u,hu,ru⟩:=rv.get (x:=.bl bs[i]) (by rw[qaE,qae lt];rfl);rw[hv']at hu;cases hu;cases (show v=Value.bool bs[i] from ru);have eb:bs.getD i false=bs[i]:=by simp[List.getD,lt]
  dsimp only at hQ;rw[eb]at hQ;exact qad hQ
 .intro h' tk kp;refine⟨.bl (bs.all id),H,I.kept λb o z=>kp b o ?_ (qab _ z),?_,q⟩
  .have:b≠s.heap.objs.size:=qan (qai z);simpa using this
  .have el:its.toArray.size=bs.length:=by rw[qaQ,<-rv.length,qag]
   show Value.bool _=Value.bool _;rw[el,range_all]
mutual
inductive d8(H:Hp):V->PyData->Prop
 |aq:d8 H .aq .none
 |bl (b:Bool):d8 H (.bl b) (.bool b)
 |int (i:Int):d8 H (.int i) (.int i)
 |str (x:Str):d8 H (.str x) (.str x)
 |lst {a:Addr}{xs:γv}{ds:η1}:H a=some (.lst xs)->i9 H xs ds->d8 H (.ref a) (.list ds)
 |tup {a:Addr}{xs:γv}{ds:η1}:H a=some (.tup xs)->i9 H xs ds->d8 H (.ref a) (.tuple ds)
inductive i9(H:Hp):List V->List PyData->Prop
 |nil:i9 H [] []
 |cons {x:V}{d:PyData}{xs:γv}{ds:η1}:d8 H x d->i9 H xs ds->i9 H (x::xs) (d::ds)
end
def d8.reads(ok:δG)(D:d8 H x d)(r:RelV x u):∃as,Reads h u d as:=by
 refine d8.rec (motive_1:=λx d _=>∀u,RelV x u->∃as,Reads h u d as) (motive_2:=λxs ds _=>∀us,Vals xs us->∃as,ReadsAll h us ds as) (λ_ r=>?_) (λb _ r=>?_) (λi _ r=>?_) (λx _ r=>?_) (λe _ ih _ r=>?_) (λe _ ih _ r=>?_) (λ_ r=>?_) (λ_ _ a b _ r=>?_) D u r
 .cases r;exact⟨_,.none⟩
 .cases r;exact⟨_,.bool b⟩
 .obtain⟨t,rfl⟩:=r;exact⟨_,.int i t⟩
 .obtain⟨t,rfl⟩:=r;exact⟨_,.str x t⟩
 .cases r;obtain⟨_,its,n,rv,q⟩:=ok _ _ e;obtain⟨as,R⟩:=ih _ rv;exact⟨_,.list q rfl rfl R⟩
 .cases r;obtain⟨_,its,rv,o,q,c,n,d⟩:=ok _ _ e;obtain⟨as,R⟩:=ih _ rv;exact⟨_,.tuple q c d R⟩
 .cases r;exact⟨_,.nil⟩
 .cases r with
  |cons r1 r2 =>
    obtain⟨_,R1⟩:=a _ r1;obtain⟨_,R2⟩:=b _ r2;exact⟨_,.cons R1 R2⟩
end
section
variable{X:Cx}{pins:W1}{σ:St}{H:Hp}{s:Shared}{h':Heap}{fp:zzd}
def Inv.m6(I:δ)(k:∀b o,b∉fp->s.heap.get? b=some o->h'.get? b=some o)(hf:∀b∈fp,mZ X pins H b):Inv X pins σ H {s with heap:=h',toks:=t'}:=by
 have apart:∀b u,H b=some u->b∉fp:=λb u e z=>by have q:=(hf b z).1;rw[e]at q;cases q
 refine I.step (g':=s.gens) (d':=s.drawn) (ch:=fp) (λb hb=>?_) (λb o _ _ hc e _=>k b o hc e) (λb o _ _ hc e _=>⟨o.slots,k b o hc e⟩) (λ_ _ _ _ n=>n) (λb o hc e=>⟨o,k b o hc e⟩) (λ_ _ e=>e) (λ_ _ _ e=>e) (λb ps e=>⟨#[],by rw[e];simp⟩) (λm hm=>?_) (λb u e=>?_) I.bare
 .obtain⟨_,f1,_,f3,f4,f5⟩:=hf b hb;exact⟨f3,f1,f4,f5⟩
 .obtain⟨o,es,ep,ho,r⟩:=hm;exact⟨o,es,ep,k _ o (λz=>(hf _ z).2.1 rfl) ho,r⟩
 .apply (I.hok b u e).stay (h':=h') (H':=H) _ (λ_ q=>q) (λ_ _ q=>q);intro c v hc q;cases hc with
  |inl z=>exact k c v (by rw[z];exact apart b u e) q
  |inr z=>exact k c v (apart c _ z) q
def Inv.m7{t':Nat}{a:Addr}{o:HO}(I:δ)(k:∀b o,b∉fp->s.heap.get? b=some o->h'.get? b=some o)(hf:∀b∈fp,mZ X pins H b)(ha:s.heap.objs.size<=a)(new:aI X.prog X.w ζn h' a o):Inv X pins σ ζn {s with heap:=h',toks:=t'}:=by
 have apart:∀b u,H b=some u->b∉fp:=λb u e z=>by have q:=(hf b z).1;rw[e]at q;cases q
 have fr:H a=none:=I.hok.fresh ha;have old:∀b u,H b=some u->upd H a o b=some u:=λb u e=>by rw[bA (iN e fr)];exact e
 refine I.step (g':=s.gens) (d':=s.drawn) (ch:=fp) (λb hb=>?_) (λb o _ _ hc e _=>k b o hc e) (λb o _ _ hc e _=>⟨o.slots,k b o hc e⟩) (λb u _ e n=>?_) (λb o hc e=>⟨o,k b o hc e⟩) (λb xs e=>old b _ e) (λb o u e=>old b _ e) (λb ps e=>⟨#[],by rw[old b _ e];simp⟩) (λm hm=>?_) (λb u e=>?_) I.bare
 .obtain⟨_,f1,_,f3,f4,f5⟩:=hf b hb;exact⟨f3,f1,f4,f5⟩
 .have lt:b<s.heap.objs.size:=qai e;rw[bA (qan (qao lt ha))];exact n
 .obtain⟨o,es,ep,ho,r⟩:=hm;exact⟨o,es,ep,k _ o (λz=>(hf _ z).2.1 rfl) ho,r⟩
 .by_cases hb:b=a
  .subst hb;rw[fS]at e;cases e;exact new
  .rw[bA hb]at e;apply (I.hok b u e).stay (h':=h') (H':=upd H a o) _ (λc q=>old c _ q) (λc xs q=>old c _ q);intro c v hc q;cases hc with
   |inl z=>exact k c v (by rw[z];exact apart b u e) q
   |inr z=>exact k c v (apart c _ z) q
end
section
variable{X:Cx}
def EA:R2:=λx y H Q=>∃d e,d8 H x d/\d8 H y e/\SeqAt.shaped d=true/\SeqAt.shaped e=true/\Q (.bl (PyData.eqv d e)) H
def EB:R2:=λx y H Q=>∃d e,d8 H x d/\d8 H y e/\SeqAt.shaped d=true/\SeqAt.shaped e=true/\Q (.bl (!PyData.eqv d e)) H
def Ui(hr:δ3):cK X (compareOp .Eq) EA:=by intro pins s σ H x y v u Q I rx ry h;obtain⟨d,e,hd,he,sd,se,q⟩:=h;obtain⟨as,ra⟩:=hd.reads I.hok rx;obtain⟨bs,rb⟩:=he.reads I.hok ry;exact SeqAt.compareEq_shaped ra rb sd se hr.units ⟨.bl _,H,I,rfl,q⟩
def Uj(hr:δ3):cK X ιi EB:=by intro pins s σ H x y v u Q I rx ry h;obtain⟨d,e,hd,he,sd,se,q⟩:=h;obtain⟨as,ra⟩:=hd.reads I.hok rx;obtain⟨bs,rb⟩:=he.reads I.hok ry;exact SeqAt.compareNe_shaped ra rb sd se hr.units ⟨.bl _,H,I,rfl,q⟩
end
noncomputable def EC(l:Addr):It where
 go:=λi H=>∃xs x,H l=some γh/\xs[i]?=some x
 u5:=λi H v H'=>∃p xs x,v=.ref p/\H p=none/\H'=upd H p (.tup [.int i,x])/\H l=some γh/\xs[i]?=some x
 stop:=λi H=>∃xs,H l=some γh/\xs.length<=i
noncomputable def tZ(n:Addr):zzd:=[n+1,n]
def cQ:b∈tZ n ↔ b=n+1\/b=n:=by simp[tZ]
noncomputable def Uk(n l:Addr)(i:Nat)(h:Heap):Prop:=∃old,IsEnum h (n+1) n i old/\h.IsListIter n l i
theorem Ul{P:Program}{w:World}{K:zze}{es:zza}{x1}{pos:Pos}(l n:Addr):Turn P w K (.Tuple es x1 pos) (EC l) (tZ n) (n+1) (Uk n l) where
 mem:=by simp[tZ]
 obj:=λi h st b hb=>by
  obtain⟨old,he,⟨o,e,c,d⟩⟩:=st;rcases cQ.mp hb with z|z<;>subst z
  .exact⟨_,he,λv z=>nomatch z⟩
  .exact⟨_,e,λv z=>by rw[d]at z;cases z⟩
 keep:=λi h h' st k=>by obtain⟨old,he,⟨o,e,r⟩⟩:=st;exact⟨old,k _ (cQ.mpr γJ) _ he,⟨o,k _ (cQ.mpr (.inr rfl)) _ e,r⟩⟩
 item:=by
  intro X hP hw hK hc i pins s σ H E I hf st hg;subst hP hw hK;obtain⟨xs,x,q1,hx⟩:=hg;obtain⟨old,he,st1⟩:=st;have ne:n+1≠n:=Nat.succ_ne_self n;obtain⟨us,r1,p1,z1⟩:=I.list (cJ.of q1);obtain⟨u,hu,ru⟩:=r1.get hx
  have new:∀b∈tZ n,b<s.heap.objs.size:=λb hb=>by
   rcases cQ.mp hb with e|e<;>subst e
   .exact qai he
   .obtain⟨_,e,_⟩:=st1;exact qai e
  apply wpAny_pyNext_enum_item he st1 p1.isList (x:=u) (by simpa using hu) ne;intro h1 ho1 s1 np sz kept;refine⟨_,rfl,wpAny_letOwnedTupleGo_enum ho1 λh2 he2 sb=>?_⟩
  have k2:∀b o,b∉tZ n->s.heap.get? b=some o->h2.get? b=some o:=λb o hb e=>by rw[cQ]at hb;exact sb.extBut _ _ (λz=>hb (.inl z)) (kept b o (λz=>hb (.inl z)) (λz=>hb (.inr z)) e)
  have fr:H s.heap.objs.size=none:=I.hok.fresh γI;have nz:s.heap.objs.size≠n+1:=λe=>absurd (new (n+1) (cQ.mpr γJ)) (by rw[e];exact qbq _);refine⟨.ref s.heap.objs.size,upd H s.heap.objs.size (.tup [.int i,x]),I.m7 (t':=s.toks+1) k2 hf γI ?_,rfl,⟨_,xs,x,rfl,fr,rfl,q1,hx⟩,⟨u,?_,?_⟩,λb hb=>?_⟩
  .exact⟨by show(2:Nat)<=sizeLine;decide,[.int i s.toks,u],.cons ⟨_,rfl⟩ (.cons ru .nil),⟨_,sb.extBut _ _ nz np,rfl,_,rfl⟩⟩
  .exact he2
  .obtain⟨o,e,r⟩:=s1;exact⟨o,sb.extBut _ _ (qa5 ne) e,r⟩
  .rw[bA (qan (new b hb))];exact(hf b hb).1
 done:=by intro X hP hw hK hc i pins s σ H E I hf st hg;subst hP hw hK;obtain⟨xs,q1,hx⟩:=hg;obtain⟨old,he,st1⟩:=st;obtain⟨us,r1,p1,z1⟩:=I.list (cJ.of q1);have hl:=r1.length;apply wpAny_pyNext_enum_end δ8 he st1 p1.isList (by simp;omega);intro h1 kept;exact⟨rfl,I.m6 (t':=s.toks) (λb o hb e=>kept b o (λz=>hb (cQ.mpr (.inr z))) e) hf⟩
 self:=λA i s Q E st h=>by obtain⟨old,he,_⟩:=st;have ty:s.TypeIs (.ref (n+1)) "enumerate":= ⟨_,he,rfl⟩;apply wpAny_pyIter_slot ty F.slot_enumerate_iter;apply qbl F.slot_enumerate_iter ty F.entry_enumerate_iter _ (F.args_enumerate_iter_1 _);change wpAny _ _ (ret (.ref (n+1))) _ _ s;exact qad ⟨_,rfl,"enumerate",_,ty,F.slot_enumerate_next.lookup,h⟩
def KP(ta:TA):TI:=λσ H R=>ta σ H λvs H1=>∃l xs,vs=[.ref l]/\H1 l=some γh/\R (EC l) H1
section
variable{X:Cx}
def Um:bootBuiltins "enumerate" = some (.type "enumerate"):=by decide +kernel
def vb{a:Expr}{es:zza}{x1}{tp:Pos}{ta:TA}{p pos:Pos}(hg:Gl X "enumerate")(hm:X.mg "enumerate" = none)(ha:PA X [a] ta)(hs:starEach [a] X.env=[(false,eval a X.env)]:=by rfl):PI X (.Tuple es x1 tp) (.Call (.Name "enumerate" p) [a] [] pos) (KP ta):=by
 intro pins s σ H R I h;refine Call_ (wV I hg hm Um (PyProof.Rows.callWith_type1 (aX γ6 λus s1 zq=>?_) hs rfl));obtain⟨vs,H1,I1,r1,q1⟩:=zq;obtain⟨l,xs,e,q1,q⟩:=q1;subst e;obtain⟨u,rfl,e1⟩:=vals1 r1;cases e1;obtain⟨us,r1,p1,z1⟩:=I1.list (cJ.of q1);apply call_enumerate_list p1.isList;intro h' he st sz kept;have T:=Ul (P:=X.prog) (w:=X.w) (K:=X.K) (es:=es) (x1:=x1) (pos:=tp) l s1.heap.objs.size;apply T.self X.A 0 _ _ _ ⟨.none,he,st⟩;refine⟨_,tZ s1.heap.objs.size,_,_,H1,rfl,I1.kept (t':=s1.toks) kept,T,⟨.none,he,st⟩,λb hb=>?_,q⟩
 have le:s1.heap.objs.size<=b:=by rw[cQ]at hb;rcases hb with e|e<;>rw[e]<;>first|exact qah _|exact Nat.le_add_right _ _
 exact I1.oF le (I1.hok.fresh le)
end
section
variable{X:Cx}
def Uo{ns:u8}(r:Vals γN its):∃ps:Array (Int×Tok),its.toArray=intItems ps/\ps.toList.map (·.1)=ns:=by have ia:=intsAre_of r;obtain⟨ps,e⟩:=ia.allInts.items;refine⟨ps,e,?_⟩;rw[<-nums_intItems,<-e];exact ia.numsOf
def Uq(calm:X.calm=true):aM X (.builtin "max") (λxs H Q=>∃(p:Addr) (ns:u8),xs=[.ref p]/\H p=some (.lst γN)/\0<ns.length/\∀M∈ns,(∀a∈ns,a<=M)->Q (.int M) H):=by
 intro pins s σ H xs us Q I r h;obtain⟨p,ns,rfl,hH,hn,q⟩:=h;obtain⟨u,rfl,ru⟩:=r.one;cases ru;obtain⟨z,its,n,rv,hl,e⟩:=I.aD hH;obtain⟨ps,e1,rfl⟩:=Uo rv;rw[qag,qaA]at hn;apply max_intList (xs:=ps) θS ⟨_,e,rfl,_,by rw[e1]⟩ hn;intro v h' tk hv kp;obtain⟨tk2,rfl⟩:=intItems_at hv;have B:=argBest_gt (numAt ps) (ps.size-1);refine⟨.int _,H,I.kept kp,⟨tk2,rfl⟩,q _ ?_ λa ha=>?_⟩
 .rw[numAt_eq];apply PySem.getD_mem;rw[qag,qaA];have:=B.1;omega
 .obtain⟨j,lt,rfl⟩:=mem_getD ha;rw[qag,qaA]at lt;have:=B.2 j ω;rwa[numAt_eq ps j]at this
end
def Ur(K:zze):List V->Hp->VK->Prop:=λxs H Q=>∃x c t cv b,xs=[x,c]/\va c=some cv/\xn K H x t/\W.kitOne K t cv=some b/\Q ζc H
def lG(h:H p=none):ag H (upd H p o):=λb u e=>by rw[bA (iN e h)];exact e
end L2
namespace Dv
open PySem L2 Ex
inductive Cn where
 |PointError|NoPoints|rW|NoAsks|rX|NoText|oS|NoTree|rY|i_|rZ|jw|lH|oU|lI|jx|Points|t9|Search|t_|ED
 deriving DecidableEq
class KC where
 K:zze
 cls:Cn->Addr
variable[KC]
inductive D where
 |aq|bl (b:Bool)|int (i:Int)|str (x:Str)
 |lst (xs:γe)|tup (xs:γe)|mB (ks vs:γe)|eZ (ns:u8)|ins (C:Cn) (ns:v6) (vs:γe)|obj (C:Cn) (ns:v6) (vs:γe)
mutual
inductive Rp(R:Hp):V->D->Prop
 |aq:Rp R .aq .aq
 |bl (b:Bool):Rp R (.bl b) (.bl b)
 |int (i:Int):Rp R (.int i) (.int i)
 |str (x:Str):Rp R (.str x) (.str x)
 |lst {a:Addr}{xs:γv}{ds:γe}:R a=some (.lst xs)->aK R xs ds->Rp R (.ref a) (.lst ds)
 |tup {a:Addr}{xs:γv}{ds:γe}:R a=some (.tup xs)->aK R xs ds->Rp R (.ref a) (.tup ds)
 |ua {a:Addr}:R a=some (.dK [])->Rp R (.ref a) (.mB [] [])
 |eZ {a:Addr}{ns:u8}:cJ KC.K R a (ns.map V.int)->Rp R (.ref a) (.eZ ns)
 |m8 {a:Addr}{C:Cn}:R a=some (dD (KC.cls C) a none false)->Rp R (.ref a) (.ins C [] [])
 |exc {a d:Addr}{C:Cn}{fs:List (Str×V)}{ds:γe}:R a=some (dD (KC.cls C) a (some d) false)->R d=some (m5 d fs)->aK R (fs.map (·.2)) ds->Rp R (.ref a) (.ins C (fs.map (·.1)) ds)
 |obj {a dx:Addr}{C:Cn}{fs:List (Str×V)}{ds:γe}:R a=some (.ins (KC.cls C) dx fs)->aK R (fs.map (·.2)) ds->Rp R (.ref a) (.obj C (fs.map (·.1)) ds)
inductive aK(R:Hp):List V->List D->Prop
 |nil:aK R [] []
 |cons {x:V}{d:D}{xs:γv}{ds:γe}:Rp R x d->aK R xs ds->aK R (x::xs) (d::ds)
end
def Rp.ind{R:Hp}{m:V->D->Prop}{n:List V->List D->Prop}(h1:m .aq .aq)(h2:∀b,m ζc ζc)(h3:∀i,m γ1 γ1)(h4:∀x,m εA εA)(h5:∀{a xs ds},R a=some γh->n xs ds->m γz ζ4)(h6:∀{a xs ds},R a=some γK->n xs ds->m γz ζN)(h7:∀{a},R a=some (.dK [])->m γz (.mB [] []))(h8:∀{a ns},cJ KC.K R a γN->m γz (.eZ ns))(h9:∀{a C},R a=some (dD θ a none false)->m γz (.ins C [] []))(h10:∀{a d C fs ds},R a=some (dD θ a (some d) false)->R d=some θb->n (fs.map (·.2)) ds->m γz (.ins C (fs.map (·.1)) ds))(h11:∀{a dx C fs ds},R a=some (.ins θ dx fs)->n (fs.map (·.2)) ds->m γz (.obj C (fs.map (·.1)) ds))(h12:n [] [])(h13:∀{x d xs ds},m x d->n xs ds->n (x::xs) (d::ds)):(∀{x d},Rp R x d->m x d)/\∀{xs ds},aK R xs ds->n xs ds:=
 ⟨λh=>Rp.rec (motive_1:=λx d _=>m x d) (motive_2:=λx d _=>n x d) h1 h2 h3 h4 (λe _=>h5 e) (λe _=>h6 e) h7 h8 h9 (λe e' _=>h10 e e') (λe _=>h11 e) h12 (λ_ _=>h13) h,λh=>aK.rec (motive_1:=λx d _=>m x d) (motive_2:=λx d _=>n x d) h1 h2 h3 h4 (λe _=>h5 e) (λe _=>h6 e) h7 h8 h9 (λe e' _=>h10 e e') (λe _=>h11 e) h12 (λ_ _=>h13) h⟩
def aK.ind{R:Hp}{n:List V->List D->Prop}(h0:n [] [])(h1:∀{x d xs ds},Rp R x d->aK R xs ds->n xs ds->n (x::xs) (d::ds)){xs:γv}{ds:γe}(h:δU):n xs ds:=by
 induction xs generalizing ds with
 |nil=>cases h;exact h0
 |cons x r ih =>
   cases h with
   |cons a b=>exact h1 a b (ih b)
def Rp.KQ{H H':Hp}(s:ag H H'):(∀{x d},Rp H x d->Rp H' x d)/\∀{xs ds},aK H xs ds->aK H' xs ds:=
 Rp.ind .aq .bl .int .str (λe=>.lst ηq) (λe=>.tup ηq) (λe=>.ua ηq) (λe=>.eZ (s.seq e)) (λe=>.m8 ηq) (λe e'=>.exc ηq (s _ _ e')) (λe=>.obj ηq) .nil .cons
def Rp.sm(s:ag H H')(h:Rp H x d):Rp H' x d:=(Rp.KQ s).1 h
def aK.sm(s:ag H H')(h:aK H xs ds):aK H' xs ds:=(Rp.KQ s).2 h
section
variable{R:Hp}
def aK.len(h:δU):xs.length=ds.length:=h.ind (n:=λxs ds=>xs.length=ds.length) rfl (λ_ _ h=>congrArg Nat.succ h)
def aK.at{xs:γv}{ds:γe}{i:Nat}{x:V}(h:δU):xs[i]?=some x->∃d,ds[i]?=some d/\Rp R x d:=by
 revert i;refine h.ind (n:=λxs ds=>∀{i:Nat},xs[i]?=some x->∃d,ds[i]?=some d/\Rp R x d) nofun λr _ ih i e=>?_;cases i with
 |zero=>cases e;exact⟨_,rfl,r⟩
 |succ i=>exact ih e
def aK.ta{xs:γv}{ds:γe}{i:Nat}{d:D}(h:δU)(e:ds[i]?=some d):∃x,xs[i]?=some x/\Rp R x d:=by
 have lt:i<xs.length:=by rw[h.len];exact(qac.mp e).1
 obtain⟨d',e',r⟩:=h.at (qae lt);rw[e]at e';cases e';exact⟨_,qae lt,r⟩
def aK.app(h:δU)(k:aK R ys es):aK R (xs++ys) (ds++es):=h.ind (n:=λxs ds=>aK R (xs++ys) (ds++es)) k (λa _=>.cons a)
def aK.take(n:Nat)(h:δU):aK R (xs.take n) (ds.take n):=
 h.ind (n:=λxs ds=>∀n,aK R (xs.take n) (ds.take n)) (λn=>by cases n<;>exact .nil) (λa _ ih n=>by cases n;exact .nil;exact .cons a (ih _)) n
def aK.drop(n:Nat)(h:δU):aK R (xs.drop n) (ds.drop n):=
 h.ind (n:=λxs ds=>∀n,aK R (xs.drop n) (ds.drop n)) (λn=>by cases n<;>exact .nil) (λa b ih n=>by cases n;exact .cons a b;exact ih _) n
theorem aK.ints:∀ns:u8,aK R γN εl
 |[]=>.nil
 |n::r=>.cons ηk (aK.ints r)
def aK.j_{ns:u8}(h:aK R xs εl):xs=ns.map V.int:=by
 induction ns generalizing xs with
 |nil=>cases h;rfl
 |cons n r ih =>
   cases h with
   |cons a b=>cases a;rw[ih b];rfl
def aK.qN{ns:ιk}(h:aK R xs (ns.map D.bl)):xs=ns.map V.bl:=by
 induction ns generalizing xs with
 |nil=>cases h;rfl
 |cons n r ih =>
   cases h with
   |cons a b=>cases a;rw[ih b];rfl
end
inductive Kd where
 |ae|own|io (k:Nat)
 deriving DecidableEq
noncomputable abbrev Sl:=Option (Kd×D)
abbrev En:=List Sl
inductive RV where
 |val (d:D)|new (d:D)|var (i:Nat)
def OwR(R H:Hp)(v:V)(d:D):Prop:=∃a xs ds,v=.ref a/\R a=none/\H a=some γh/\d=.lst ds/\aK R xs ds
def oK(ios:zzd)(R H:Hp)(v:V):Kd×D->Prop
 | (.ae,d)=>Rp R v d
 | (.own,d)=>OwR R H v d
 | (.io k,d)=>OwR R H v d/\∃a,ios[k]?=some a/\v=.ref a
noncomputable def owned:Kd->Bool
 |.ae=>false
 |_=>true
def Ow(σ:St)(Γ:En)(b:Addr):Prop:=∃(i:Nat) (k:Kd) (d:D),Γ[i]?=some (some (k,d))/\owned k=true/\σ[i]?=some δF
structure ER(ios:zzd)(R H:Hp)(σ:St)(Γ:En):Prop where
 sub:ag R H
 len:σ.length=Γ.length
 sl:∀(i:Nat) (s:Kd×D),Γ[i]?=some ε5->∃v,σ[i]?=some δR/\oK ios R H v s
 dj:∀(i j:Nat) (k l:Kd) (d e:D) (b:Addr),Γ[i]?=some (some (k,d))->owned k=true->Γ[j]?=some (some (l,e))->owned l=true->σ[i]?=some δF->σ[j]?=some δF->i=j
structure Go(O:Addr->Prop)(R H:Hp)(O':Addr->Prop)(R' H':Hp):Prop where
 rr:ag R R'
 hh:∀b o,H b=some o -> ¬O b->H' b=some o
 no:∀b o,H b=some o -> ¬O b->R b=none->R' b=none
 oo:∀b,O' b->O b\/H b=none
 th:∀b o,H b=some o->∃o',H' b=some o'
def Go.refl:Go O R H O R H:=⟨ag.refl _,λ_ _ h _=>h,λ_ _ _ _ h=>h,λ_ h=>.inl h,λ_ o h=>⟨o,h⟩⟩
def Go.trans{O O1 O2:Addr->Prop}{R H R1 H1 R2 H2:Hp}(g:Go O R H O1 R1 H1)(k:Go O1 R1 H1 O2 R2 H2):Go O R H O2 R2 H2:=by
 have nO:∀b o,H b=some o -> ¬O b -> ¬O1 b:=λb o h n z=>(g.oo b z).elim n λq=>by rw[h]at q;cases q
 refine⟨g.rr.trans k.rr,λb o h n=>k.hh b o (g.hh b o h n) (nO b o h n),λb o h n r=>k.no b o (g.hh b o h n) (nO b o h n) (g.no b o h n r),λb z=>?_,λb o h=>let ⟨o1,h1⟩:=g.th b o h;k.th b o1 h1⟩;rcases k.oo b z with q|q
 .exact g.oo b q
 .by_cases hO:O b
  .exact .inl hO
  .cases e:H b with
   |none=>exact .inr rfl
   |some o=>rw[g.hh b o e hO]at q;cases q
end Dv
namespace Dv
open PySem L2 Ex
variable[KC]
structure Xc where
 C:Cn
 fs:List (Str×D)
inductive Res(α:Type) where
 |ok (a:α) (Γ:En)|ex (x:Xc) (Γ:En)|st
abbrev M(α:Type):=En->Res α
noncomputable def M.pure{α:Type}(a:α):M α:=λΓ=>.ok a Γ
noncomputable def M.bind{α β:Type}(f:M α)(g:α->M β):M β:=λΓ=>match f Γ with
 |.ok a Γ'=>g a Γ'
 |.ex x Γ'=>.ex x Γ'
 |.st=>.st
noncomputable def M.st{α:Type}:M α:=λ_=>.st
noncomputable def M.d9{α:Type}:Option α->M α
 |some a=>M.pure a
 |none=>M.st
def df{α:Type}(r:Res α)(K:α->En->Prop)(E:Xc->En->Prop):Prop:=match r with
 |.ok a Γ=>K a Γ
 |.ex x Γ=>E x Γ
 |.st=>False
def aB{α β:Type}{f:M α}{g:α->M β}{Γ:En}{K:β->En->Prop}{E:Xc->En->Prop}:df (M.bind f g Γ) K E=df (f Γ) (λa Γ'=>df (g a Γ') K E) E:=by unfold M.bind df;cases f Γ<;>rfl
def aY{α:Type}{r:Res α}{K K':α->En->Prop}(h:df r K E)(hK:∀a Γ,K a Γ->K' a Γ)(hE:∀x Γ,E x Γ->E' x Γ):df r K' E':=by
 cases r with
 |ok a Γ=>exact hK _ _ h
 |ex x Γ=>exact hE _ _ h
 |st=>exact h
def ke{α:Type}{o:θE}{K:α->En->Prop}(h:df (M.d9 o Γ) K E):∃a,o=some a/\K a Γ:=by
 cases o with
 |none=>exact False.elim h
 |some a=>exact⟨a,rfl,h⟩
structure Al(R H R' H':Hp):Prop where
 sub:ag R' H'
 rr:ag R R'
 hh:ag H H'
 no:∀b o,H b=some o->R b=none->R' b=none
def Al.refl(s:θA):Al R H R H:=⟨s,ag.refl _,ag.refl _,λ_ _ _ h=>h⟩
def Al.go(a:Al R H R' H'):Go O R H O R' H':=⟨a.rr,λb o h _=>a.hh b o h,λb o h _ r=>a.no b o h r,λ_ h=>.inl h,λb o h=>⟨o,a.hh b o h⟩⟩
def ER.ow(e:γk)(o:Ow σ Γ b):R b=none/\∃xs,H b=some γh:=by
 obtain⟨i,k,d,h1,h2,h3⟩:=o;obtain⟨v,hv,s⟩:=e.sl i _ h1;rw[h3]at hv;cases hv;cases k with
 |ae=>cases h2
 |own=>obtain⟨a,xs,ds,e1,e2,e3,_⟩:=s;cases e1;exact⟨e2,xs,e3⟩
 |io n=>obtain⟨⟨a,xs,ds,e1,e2,e3,_⟩,_⟩:=s;cases e1;exact⟨e2,xs,e3⟩
def OwR.mono(h:OwR R H v d)(rr:ag R R')(k:∀a xs,v=.ref a->H a=some γh->R a=none->H' a=some γh/\R' a=none):OwR R' H' v d:=by obtain⟨a,xs,ds,rfl,h1,h2,rfl,h3⟩:=h;obtain⟨k1,k2⟩:=k a xs rfl h2 h1;exact⟨a,xs,ds,rfl,k2,k1,rfl,h3.sm rr⟩
def oK.mono(h:oK ios R H v s)(rr:ag R R')(k:owned s.1=true->∀a xs,v=.ref a->H a=some γh->R a=none->H' a=some γh/\R' a=none):oK ios R' H' v s:=by
 obtain⟨kd,d⟩:=s;cases kd with
 |ae=>exact Rp.sm rr h
 |own=>exact OwR.mono h rr (k rfl)
 |io n=>exact⟨OwR.mono h.1 rr (k rfl),h.2⟩
theorem ER.al(e:γk)(a:Al R H R' H'):ER ios R' H' σ Γ where
 sub:=a.sub
 len:=e.len
 sl:=λi s h=>let ⟨v,hv,q⟩:=e.sl i s h; ⟨v,hv,q.mono a.rr λ_ b xs _ h1 h2=>⟨a.hh _ _ h1,a.no _ _ h1 h2⟩⟩
 dj:=e.dj
structure bt(ios:zzd)(R H:Hp)(σ:St)(Γ:En)(R' H':Hp)(Γ':En):Prop where
 er:ER ios R' H' σ Γ'
 go:Go δQ R H (Ow σ Γ') R' H'
 sh:∀b,Ow σ Γ' b->Ow σ Γ b
section
variable{ios:zzd}{R H R1 H1 R2 H2:Hp}{σ:St}{Γ ao aC:En}
def bt.refl(e:γk):bt ios R H σ Γ R H Γ:=⟨e,Go.refl,λ_ h=>h⟩
def bt.trans(a:γY)(b:bt ios R1 H1 σ ao R2 H2 aC):bt ios R H σ Γ R2 H2 aC:=⟨b.er,a.go.trans b.go,λc h=>a.sh c (b.sh c h)⟩
def bt.al(a:γY)(b:Al R1 H1 R2 H2):bt ios R H σ Γ R2 H2 ao:=⟨a.er.al b,a.go.trans b.go,a.sh⟩
def ip(R H H':Hp)(σ:St)(x:V):RV->Prop
 |.val d=>Rp R x d
 |.new d=>OwR R H' x d/\∃a,x=.ref a/\H a=none
 |.var i=>σ[i]?=some δZ
def ip.go(e:γk)(a:γY)(h:ip R1 H H1 σ x rv)(b:Go ζy R1 H1 (Ow σ aC) R2 H2):ip R2 H H2 σ x rv:=by
 cases rv with
 |val d=>exact Rp.sm b.rr h
 |var i=>exact h
 |new d =>
   obtain⟨h1,p,hp,hn⟩:=h;refine⟨h1.mono b.rr λq xs e1 e2 e3=>?_,p,hp,hn⟩
   have:¬Ow σ ao q:=λz=>by
    have hq:q=p:=by rw[hp]at e1;exact(V.ref.inj e1).symm
    obtain⟨_,xs,e4⟩:=e.ow (a.sh q z);rw[hq,hn]at e4;cases e4
   exact⟨b.hh _ _ e2 this,b.no _ _ e2 this e3⟩
def Pk(R H:Hp)(x:V)(d:D):Prop:=Rp R x d\/∃a xs ds,x=.ref a/\H a=some γh/\d=.lst ds/\aK R xs ds
def Pk.lst{ds:γe}{x:V}(s:θA)(h:Pk R H x ζ4):∃a xs,x=.ref a/\H a=some γh/\aK R xs ds:=by
 rcases h with h|⟨a,xs,ds',rfl,h1,h2,h3⟩
 .cases h with|lst e q=>exact⟨_,_,rfl,s _ _ e,q⟩
 .cases h2;exact⟨a,xs,rfl,h1,h3⟩
def Pk.hv(s:θA)(h:Pk R H x d):Rp H x d:=by
 rcases h with h|⟨a,xs,ds',rfl,h1,rfl,h3⟩
 .exact h.sm s
 .exact .lst h1 (h3.sm s)
def Pk.int(h:Pk R H x γ1):x=.int i:=by
 rcases h with h|⟨a,xs,ds',rfl,h1,h2,h3⟩
 .cases h;rfl
 .cases h2
def Pk.bl(h:Pk R H x (.bl i)):x=.bl i:=by
 rcases h with h|⟨a,xs,ds',rfl,h1,h2,h3⟩
 .cases h;rfl
 .cases h2
def Pk.str(h:Pk R H x (.str i)):x=.str i:=by
 rcases h with h|⟨a,xs,ds',rfl,h1,h2,h3⟩
 .cases h;rfl
 .cases h2
def Pk.tup{ds:γe}{x:V}(h:Pk R H x ζN):∃a xs,x=.ref a/\R a=some γK/\aK R xs ds:=by
 rcases h with h|⟨a,xs,ds',rfl,h1,h2,h3⟩
 .cases h with|tup e q=>exact⟨_,_,rfl,e,q⟩
 .cases h2
end
noncomputable def peek:RV->M D
 |.val d=>M.pure d
 |.new d=>M.pure d
 |.var i=>λΓ=>match Γ[i]? with
   |some (some (_,d))=>.ok d Γ
   |_=>.st
noncomputable def mat:RV->M D
 |.val d=>M.pure d
 |.new d=>M.pure d
 |.var i=>λΓ=>match Γ[i]? with
   |some (some (_,d))=>.ok d (Γ.set i (some (.ae,d)))
   |_=>.st
section
variable{ios:zzd}{R H R1 H1 R2 H2:Hp}{σ:St}{Γ ao aC:En}
def oK.pk(h:oK ios R H v s):Pk R H v s.2:=by
 obtain⟨kd,d⟩:=s;cases kd with
 |ae=>exact .inl h
 |own=>obtain⟨a,xs,ds,h1,_,h2,h3,h4⟩:=h;exact .inr ⟨a,xs,ds,h1,h2,h3,h4⟩
 |io n=>obtain⟨⟨a,xs,ds,h1,_,h2,h3,h4⟩,_⟩:=h;exact .inr ⟨a,xs,ds,h1,h2,h3,h4⟩
def m9(e:ER ios R1 H1 σ ao)(h:ip R1 H H1 σ x rv)(k:df (peek rv ao) K E):∃d,Pk R1 H1 x d/\K d ao:=by
 cases rv with
 |val d=>exact⟨d,.inl h,k⟩
 |new d =>
   obtain⟨⟨a,xs,ds,h1,_,h2,h3,h4⟩,_⟩:=h;exact⟨d,.inr ⟨a,xs,ds,h1,h2,h3,h4⟩,k⟩
 |var i =>
   unfold peek at k;dsimp only at k;split at k
   .rename_i q;obtain⟨v,hv,s⟩:=e.sl i _ q;have h:σ[i]?=some δZ:=h;rw[h]at hv;cases hv;exact⟨_,s.pk,k⟩
   .exact False.elim k
noncomputable def ext(R H:Hp)(a:Addr):Hp:=λb=>if b=a then H a else R b
def vc(h:R a=none):ag R (ext R H a):=λb o e=>by
 unfold ext;split
 .rename_i z;rw[z,h]at e;cases e
 .exact e
def qO:ext R H a a=H a:=by unfold ext;rw[if_pos rfl]
def qh(h:b≠a):ext R H a b=R b:=by unfold ext;rw[if_neg h]
def AW(s:θA):ag (ext R H a) H:=λb o e=>by
 unfold ext at e;split at e
 .rename_i z;rw[z];exact e
 .exact s b o e
def KR(h:Ow σ (Γ.set i (some (.ae,d))) b):Ow σ Γ b /\ ¬(σ[i]?=some δF/\∀j k d,Γ[j]?=some (some (k,d))->owned k=true->σ[j]?=some δF->j=i):=by
 obtain⟨j,k,e,h1,h2,h3⟩:=h;by_cases hj:j=i
 .subst hj;by_cases hl:j<Γ.length
  .rw[qaq hl]at h1;cases h1;cases h2
  .rw[List.getElem?_eq_none (by rw[qbc];omega)]at h1;cases h1
 .rw[qak ηE]at h1;exact⟨⟨j,k,e,h1,h2,h3⟩,λ⟨_,z⟩=>hj (z j k e h1 h2 h3)⟩
def ER.freeze{i:Nat}{k:Kd}{d:D}{x:V}(e:γk)(hi:Γ[i]?=some (some (k,d)))(hx:σ[i]?=some δZ):∃R',bt ios R H σ Γ R' H (Γ.set i (some (.ae,d)))/\Rp R' x d:=by
 obtain⟨v,hv,s⟩:=e.sl i _ hi;rw[hx]at hv;cases hv;have hlt:i<Γ.length:=(qac.mp hi).1;by_cases hk:owned k=true
 .obtain⟨a,xs,ds,rfl,h1,h2,rfl,h3⟩:OwR R H x d:=by
   cases k with
   |ae=>cases hk
   |own=>exact s
   |io n=>exact s.1
  have inj:∀j l z,Γ[j]?=some (some (l,z))->owned l=true->σ[j]?=some (some γz)->j=i:=λj l z q1 q2 q3=>(e.dj i j k l _ z a hi hk q1 q2 hx q3).symm
  have rr:ag R (ext R H a):=vc h1
  refine⟨ext R H a,⟨⟨AW e.sub,by rw[qbc];exact e.len,λj t hj=>?_,λj j' l l' z z' b q1 q2 q3 q4 q5 q6=>?_⟩,⟨rr,λ_ _ h _=>h,λb o hb nb rb=>?_,λb z=>.inl (KR z).1,λb o h=>⟨o,h⟩⟩,λb z=>(KR z).1⟩,.lst (by rw[qO];exact h2) (h3.sm rr)⟩
  .by_cases hji:j=i
   .subst hji
    rw[qaq hlt]at hj
    cases hj
    exact⟨_,hx,.lst (by rw[qO];exact h2) (h3.sm rr)⟩
   .rw[qak θo]at hj
    obtain⟨v,hv,q⟩:=e.sl j t hj
    refine⟨v,hv,q.mono rr λho b ys eb hb rb=>⟨hb,?_⟩⟩
    rw[qh]
    .exact rb
    .rintro rfl
     subst eb
     exact hji (inj j t.1 t.2 hj ho hv)
  .have g1:Γ[j]?=some (some (l,z)):=by
    by_cases hji:j=i
    .subst hji;rw[qaq hlt]at q1;cases q1;cases q2
    .rwa[qak θo]at q1
   have g2:Γ[j']?=some (some (l',z')):=by
    by_cases hji:j'=i
    .subst hji;rw[qaq hlt]at q3;cases q3;cases q4
    .rwa[qak θo]at q3
   exact e.dj j j' l l' z z' b g1 q2 g2 q4 q5 q6
  .rw[qh]
   .exact rb
   .rintro rfl
    exact nb ⟨i,k,_,hi,hk,hx⟩
 .have hk:k=.ae:=by cases k<;>first|rfl|exact absurd rfl hk
  subst hk
  have:Γ.set i (some (.ae,d))=Γ:=by
   apply List.ext_getElem?;intro j;by_cases hj:j=i
   .subst hj;rw[qaq hlt,hi]
   .rw[qak ηE]
  rw[this];exact⟨R,bt.refl e,s⟩
def oV(e:γk)(a:γY)(h:ip R1 H H1 σ x rv)(k:df (mat rv ao) K E):∃d aC R2,bt ios R H σ Γ R2 H1 aC/\ag R1 R2/\Rp R2 x d/\K d aC:=by
 cases rv with
 |val d=>exact⟨d,ao,R1,a,ag.refl _,h,k⟩
 |new d =>
   obtain⟨⟨p,xs,ds,rfl,h1,h2,rfl,h3⟩,q,hq,hn⟩:=h;cases hq;have rr:ag R1 (ext R1 H1 p):=vc h1;have nO:¬Ow σ Γ p:=λz=>by obtain⟨_,xs,e4⟩:=e.ow z;rw[hn]at e4;cases e4
   refine⟨_,ao,ext R1 H1 p,⟨⟨AW a.er.sub,a.er.len,λj t hj=>?_,a.er.dj⟩,⟨a.go.rr.trans rr,a.go.hh,λb o hb nb rb=>?_,a.go.oo,a.go.th⟩,a.sh⟩,rr,.lst (by rw[qO];exact h2) (h3.sm rr),k⟩
   .obtain⟨v,hv,s⟩:=a.er.sl j t hj;refine⟨v,hv,s.mono rr λho b ys eb hb rb=>⟨hb,?_⟩⟩;rw[qh]
    .exact rb
    .rintro rfl;subst eb;exact nO (a.sh _ ⟨j,t.1,t.2,hj,ho,hv⟩)
   .rw[qh]
    .exact a.go.no b o hb nb rb
    .rintro rfl;rw[hn]at hb;cases hb
 |var i =>
   unfold mat at k;dsimp only at k;split at k
   .rename_i q;obtain⟨R',f,r⟩:=a.er.freeze q h;exact⟨_,_,R',a.trans f,f.go.rr,r,k⟩
   .exact False.elim k
end
def qi(R H0 H:Hp)(e:Addr)(x:Xc):Prop:=R e=none/\H0 e=none/\((x.fs=[]/\H e=some (dD (KC.cls x.C) e none false)) \/
 ∃d fs,H e=some (dD (KC.cls x.C) e (some d) false)/\H d=some θb/\R d=none/\H0 d=none/\fs.map (·.1)=x.fs.map (·.1)/\aK R (fs.map (·.2)) (x.fs.map (·.2)))
def qi.back(b:∀a,H1 a=none->H0 a=none)(h:qi R H1 H e x):qi R H0 H e x:=by obtain⟨h1,h2,h3⟩:=h;refine⟨h1,b _ h2,h3.imp id λz=>?_⟩;obtain⟨d,fs,a1,a2,a3,a4,a5⟩:=z;exact⟨d,fs,a1,a2,a3,b _ a4,a5⟩
def bt.since(h:bt ios R H σ Γ R' H' Γ'):∀b,H' b=none->H b=none:=λb hb=>by
 cases q:H b with
 |none=>rfl
 |some o =>
   obtain⟨o',z⟩:=h.go.th b o q;rw[hb]at z;cases z
def gD(EE:br)(ios:zzd)(R H:Hp)(σ:St)(Γ:En):Xc->En->Prop:=λx Γ'=>∀e H' R',bt ios R H σ Γ R' H' Γ'->qi R' H H' e x->EE σ ζ3 ζC H'
def gD.trans(a:γY)(h:gD EE ios R H σ Γ x Γ'):gD EE ios R1 H1 σ ao x Γ':=λe H' R' b q=>h e H' R' (a.trans b) (q.back a.since)
def jy(EE:br)(ios:zzd)(t:TE)(f:M RV):Prop:=∀σ H R Γ Q,ER ios R H σ Γ ->
 df (f Γ) (λrv Γ'=>∀x H' R',bt ios R H σ Γ R' H' Γ'->ip R' H H' σ x rv->Q x H') γ2->t σ H Q
def m_(EE:br)(ios:zzd)(t:TT)(f:δC):Prop:=∀σ H R Γ Q,ER ios R H σ Γ ->
 df (f Γ) (λb Γ'=>∀H' R',bt ios R H σ Γ R' H' Γ'->Q b H') γ2->t σ H Q
def VE(X:Cx)(EE:br)(ios:zzd)(e:Expr)(f:M RV):Prop:=∃t,PE X e t/\jy EE ios t f
def VT(X:Cx)(EE:br)(ios:zzd)(e:Expr)(f:δC):Prop:=∃t,PT X e t/\m_ EE ios t f
def VW(X:Cx)(EE:br)(ios:zzd)(e:Expr)(f:δC):Prop:=∃t,PW X e t/\m_ EE ios t f
def uc(R:Hp)(σ:St)(x:V):RV->Prop
 |.val d=>Rp R x d
 |.new _=>False
 |.var i=>σ[i]?=some δZ
inductive iq(R:Hp)(σ:St):List V->List RV->Prop where
 |nil:iq R σ [] []
 |cons {x:V}{rv:RV}{xs:γv}{rvs:ιj}:uc R σ x rv->iq R σ xs rvs->iq R σ (x::xs) (rv::rvs)
def uc.sm(s:ag R R')(h:uc R σ x rv):uc R' σ x rv:=by
 cases rv with
 |val d=>exact Rp.sm s h
 |new d=>exact h
 |var i=>exact h
def iq.sm(s:ag R R')(h:iq R σ xs rvs):iq R' σ xs rvs:=by
 induction h with
 |nil=>exact .nil
 |cons a b ih=>exact .cons (a.sm s) ih
def uc.rv{R H H':Hp}{σ:St}{x:V}{rv:RV}(h:uc R σ x rv):ip R H H' σ x rv:=by
 cases rv with
 |val d=>exact h
 |new d=>exact h.elim
 |var i=>exact h
def xu(EE:br)(ios:zzd)(t:TA)(f:γg):Prop:=∀σ H R Γ Q,ER ios R H σ Γ ->
 df (f Γ) (λrvs Γ'=>∀xs H' R',bt ios R H σ Γ R' H' Γ'->iq R' σ xs rvs->Q xs H') γ2->t σ H Q
def VA(X:Cx)(EE:br)(ios:zzd)(es:zza)(f:γg):Prop:=∃t,PA X es t/\xu EE ios t f
section
variable{X:Cx}{EE:br}{ios:zzd}{e a b c:Expr}{f g k:M RV}{pos:Pos}
noncomputable def ZS(i:Nat):M RV:=λΓ=>match Γ[i]? with
 |some (some (.ae,d))=>.ok εz Γ
 |some (some _)=>.ok θu Γ
 |_=>.st
def Us(h:PE X e (u3 i)):VE X EE ios e (ZS i):=by
 refine⟨_,h,λσ H R Γ Q er w=>?_⟩;unfold ZS at w;split at w
 .rename_i q;obtain⟨v,hv,s⟩:=er.sl i _ q;exact⟨v,hv,w v H R εZ s⟩
 .rename_i q;obtain⟨v,hv,s⟩:=er.sl i _ q;exact⟨v,hv,w v H R εZ hv⟩
 .exact False.elim w
def vd(h:PE X e (tC v))(r:∀R,Rp R v d):VE X EE ios e (M.pure εz):=
 ⟨_,h,λσ H R Γ Q er w=>w v H R εZ (r R)⟩
def au:VE X EE ios (.Constant γ1 j pos) (M.pure (.val γ1)):=vd QV λ_=>.int i
def xw:VE X EE ios (.Constant (.bool i) j pos) (M.pure (.val (.bl i))):=vd QW λ_=>.bl i
def e_:VE X EE ios (.Constant .none j pos) (M.pure γ5):=vd QX λ_=>.aq
def aU:VE X EE ios (.Constant (.str i) j pos) (M.pure (.val (.str i))):=vd Jj λ_=>.str i
def ja(R H H':Hp)(z:V):RV->Prop
 |.val d=>Rp R z d
 |.new d=>OwR R H' z d/\∃a,z=.ref a/\H a=none
 |.var _=>False
def ja.rv{R H0 H H':Hp}{σ:St}{z:V}{rv:RV}(h:ja R H H' z rv)(s:∀b,H b=none->H0 b=none):ip R H0 H' σ z rv:=by
 cases rv with
 |val d=>exact h
 |new d=>obtain⟨h1,a,h2,h3⟩:=h;exact⟨h1,a,h2,s _ h3⟩
 |var i=>exact h.elim
def bt.back(er:γk)(h:bt ios R H σ Γ R' H' Γ'):∀b,H' b=none->H b=none:=λb hb=>by
 cases q:H b with
 |none=>rfl
 |some o =>
   obtain⟨o',z⟩:=h.go.th b o q;rw[hb]at z;cases z
end
section
variable{X:Cx}{EE:br}{ios:zzd}{e a b c:Expr}{f g k:M RV}{pos:Pos}{ta tb tc t:TE}{r r':R2}
def fF(r:R2)(g:D->D->Option RV):Prop:=∀R H x y d e rv (Q:VK),ag R H->Pk R H x d->Pk R H y e->g d e=some rv->(∀z H' R',Al R H R' H'->ja R' H H' z rv->Q z H')->r x y H Q
noncomputable def op2(o:D->D->Option RV)(f g:M RV):M RV:=M.bind f λx=>M.bind g λy=>M.bind ε6 λd=>M.bind (peek y) λe=>M.d9 (o d e)
def AX{o:D->D->Option RV}(ho:fF r o)(ha:jy EE ios ta f)(hb:jy EE ios tb g):jy EE ios η7 (op2 o f g):=by intro σ H R Γ Q er w;unfold op2 at w;rw[aB]at w;refine ha σ H R Γ _ er (aY w (λrx ao w x H1 R1 p1 hx=>?_) λ_ _ z=>z);rw[aB]at w;refine hb σ H1 R1 ao _ p1.er (aY w (λry aC w y H2 R2 p2 hy=>?_) λ_ _ z=>gD.trans p1 z);rw[aB]at w;obtain⟨d,pd,w⟩:=m9 p2.er (hx.go er p1 p2.go) w;rw[aB]at w;obtain⟨e,pe,w⟩:=m9 p2.er hy w;obtain⟨rv,hg,w⟩:=ke w;exact ho R2 H2 x y d e rv Q p2.er.sub pd pe hg λz H' R' al ra=>w z H' R' ((p1.trans p2).al al) (ra.rv ((p1.trans p2).back er))
def aL{op:Operator}{o:D->D->Option RV}(h:cK X (binaryOp op) r)(ho:fF r o)(ha:γo)(hb:εx):VE X EE ios (.BinOp a op b pos) (op2 o f g):=
 let ⟨_,h1,h2⟩:=ha;let ⟨_,h3,h4⟩:=hb; ⟨_,RF h h1 h3,AX ho h2 h4⟩
def xx{op:CmpOp}{o:D->D->Option RV}(h:δe)(ho:fF r o)(ha:γo)(hb:εx)(hm:behindInMarks op b=false):VE X EE ios (.Compare a [op] [b] pos) (op2 o f g):=
 let ⟨_,h1,h2⟩:=ha;let ⟨_,h3,h4⟩:=hb; ⟨_,RM h h1 h3 hm,AX ho h2 h4⟩
noncomputable def aO(rv:RV):M Bool:=match rv with
 |.val (.bl b)=>M.pure b
 |_=>M.st
def EF(h:ηW):m_ EE ios (DY t) ζb:=by
 intro σ H R Γ Q er w;rw[aB]at w;refine h σ H R Γ _ er (aY w (λrv ao w x H1 R1 p1 hx=>?_) λ_ _ z=>z);unfold aO at w;split at w
 .cases hx;exact⟨_,rfl,w H1 R1 p1⟩
 .exact False.elim w
def bw{op:CmpOp}{o:D->D->Option RV}(h:δe)(ho:fF r o)(ha:γo)(hb:εx)(hm:behindInMarks op b=false):VT X EE ios (.Compare a [op] [b] pos) (M.bind (op2 o f g) aO):=
 let ⟨_,h1,h2⟩:=ha;let ⟨_,h3,h4⟩:=hb; ⟨_,RN h h1 h3 hm,EF (AX ho h2 h4)⟩
def ud(ha:γX)(he:∀whole,isTrue e X.env whole=(do let v <-whole;standAt e.pos;holding [v] (truthy v)):=by intro _;rfl):VT X EE ios e ζb:=
 let ⟨_,h1,h2⟩:=ha; ⟨_,QY h1 he,EF h2⟩
noncomputable def ue(o o':D->D->Option RV)(f g k:M RV):M RV:=M.bind f λx=>M.bind g λy=>M.bind ε6 λd=>M.bind (peek y) λe=>M.bind (M.bind (M.d9 (o d e)) aO) λq =>
 if q then M.bind k λz=>M.bind (peek y) λe'=>M.bind (peek z) λu=>M.d9 (o' e' u) else M.pure γs
def KS{o o':D->D->Option RV}(ho:fF r o)(ho':fF r' o')(ha:jy EE ios ta f)(hb:jy EE ios tb g)(hc:jy EE ios tc k):jy EE ios ιn (ue o o' f g k):=by
 intro σ H R Γ Q er w;unfold ue at w;rw[aB]at w;refine ha σ H R Γ _ er (aY w (λrx ao w x H1 R1 p1 hx=>?_) λ_ _ z=>z);rw[aB]at w;refine hb σ H1 R1 ao _ p1.er (aY w (λry aC w y H2 R2 p2 hy=>?_) λ_ _ z=>gD.trans p1 z);have qj:=p1.trans p2;rw[aB]at w;obtain⟨d,pd,w⟩:=m9 p2.er (hx.go er p1 p2.go) w;rw[aB]at w;obtain⟨e,pe,w⟩:=m9 p2.er hy w;rw[aB,aB]at w;obtain⟨rv,hg,w⟩:=ke w;refine ho R2 H2 x y d e rv _ p2.er.sub pd pe hg λz H3 R3 al ra=>?_;unfold aO at w;split at w
 .rename_i q;cases ra;refine⟨q,rfl,?_⟩;have w:df ((if q=true then M.bind k λz=>M.bind (peek ry) λe'=>M.bind (peek z) λu=>M.d9 (o' e' u) else M.pure γs) aC) _ _:=w;cases q with
  |false=>exact rQ (w ζA H3 R3 (qj.al al) ζA)
  |true =>
    refine rT ?_;simp only[if_true]at w;rw[aB]at w;have uf:=qj.al al;refine hc σ H3 R3 aC _ uf.er (aY w (λrz xy w z H4 R4 p4 hz=>?_) λ_ _ z=>gD.trans uf z);rw[aB]at w;have Ut:ip R3 H1 H3 σ y ry:=hy.go p1.er p2 al.go;obtain⟨e',Uu,w⟩:=m9 p4.er (Ut.go p1.er ζo p4.go) w;rw[aB]at w;obtain⟨u,pu,w⟩:=m9 p4.er hz w;obtain⟨rv,hg',w⟩:=ke w;exact ho' R4 H4 y z e' u rv Q p4.er.sub Uu pu hg' λv H' R' al' Uv=>w v H' R' ((uf.trans p4).al al') (Uv.rv ((uf.trans p4).back er))
 .exact False.elim w
def Uw{op op':CmpOp}{o o':D->D->Option RV}(h:δe)(h':ζg)(ho:fF r o)(ho':fF r' o')(ha:γo)(hb:εx)(hc:VE X EE ios c k)
 (hm:lastMarks [op,op'] [b,c]=false:=by with_unfolding_all rfl):VE X EE ios (.Compare a [op,op'] [b,c] pos) (ue o o' f g k):=
 let ⟨_,h1,h2⟩:=ha;let ⟨_,h3,h4⟩:=hb;let ⟨_,h5,h6⟩:=hc; ⟨_,RO h h' h1 h3 h5 hm,KS ho ho' h2 h4 h6⟩
def Ux{op op':CmpOp}{o o':D->D->Option RV}(h:δe)(h':ζg)(ho:fF r o)(ho':fF r' o')(ha:γo)(hb:εx)(hc:VE X EE ios c k)
 (hm:lastMarks [op,op'] [b,c]=false:=by with_unfolding_all rfl):VT X EE ios (.Compare a [op,op'] [b,c] pos) (M.bind (ue o o' f g k) aO):=
 let ⟨_,h1,h2⟩:=ha;let ⟨_,h3,h4⟩:=hb;let ⟨_,h5,h6⟩:=hc; ⟨_,RP h h' h1 h3 h5 hm,EF (KS ho ho' h2 h4 h6)⟩
variable{p q:δC}
noncomputable def nR(p:δC):M Bool:=M.bind p λb=>M.pure (!b)
noncomputable def andM(p q:δC):M Bool:=M.bind p λb=>if b then q else M.pure false
noncomputable def orM(p q:δC):M Bool:=M.bind p λb=>if b then M.pure true else q
def Uy{t:TT}(h:m_ EE ios t p):m_ EE ios (Jm t) (nR p):=by intro σ H R Γ Q er w;unfold nR at w;rw[aB]at w;exact h σ H R Γ _ er (aY w (λb ao w H1 R1 p1=>w H1 R1 p1) λ_ _ z=>z)
def Uz{t u:TT}(h:m_ EE ios t p)(h':m_ EE ios u q):m_ EE ios (Jk t u) (andM p q):=by
 intro σ H R Γ Q er w;unfold andM at w;rw[aB]at w;refine h σ H R Γ _ er (aY w (λb ao w H1 R1 p1=>?_) λ_ _ z=>z);cases b with
 |false=>exact rQ (w H1 R1 p1)
 |true=>exact rT (h' σ H1 R1 ao _ p1.er (aY w (λb aC w H2 R2 p2=>w H2 R2 εb) λ_ _ z=>gD.trans p1 z))
def UA{t u:TT}(h:m_ EE ios t p)(h':m_ EE ios u q):m_ EE ios (Jl t u) (orM p q):=by
 intro σ H R Γ Q er w;unfold orM at w;rw[aB]at w;refine h σ H R Γ _ er (aY w (λb ao w H1 R1 p1=>?_) λ_ _ z=>z);cases b with
 |true=>exact rT (w H1 R1 p1)
 |false=>exact rQ (h' σ H1 R1 ao _ p1.er (aY w (λb aC w H2 R2 p2=>w H2 R2 εb) λ_ _ z=>gD.trans p1 z))
def xA(h:ηa):VT X EE ios ζO (nR p):=let ⟨_,h1,h2⟩:=h; ⟨_,Q3 h1,Uy h2⟩
def AY(h:ηa):VW X EE ios (.BoolOp .And [a] pos) p:=let ⟨_,h1,h2⟩:=h; ⟨_,QZ h1,h2⟩
def lJ(h:ηa):VW X EE ios (.BoolOp .Or [a] pos) p:=let ⟨_,h1,h2⟩:=h; ⟨_,Q0 h1,h2⟩
def AZ{rest:zza}(h:ηa)(h':VW X EE ios (.BoolOp .And (b::rest) pos) q):VW X EE ios (.BoolOp .And (a::b::rest) pos) (andM p q):=let ⟨_,h1,h2⟩:=h;let ⟨_,h3,h4⟩:=h'; ⟨_,Q1 h1 h3,Uz h2 h4⟩
def jz{rest:zza}(h:ηa)(h':VW X EE ios (.BoolOp .Or (b::rest) pos) q):VW X EE ios (.BoolOp .Or (a::b::rest) pos) (orM p q):=let ⟨_,h1,h2⟩:=h;let ⟨_,h3,h4⟩:=h'; ⟨_,Q2 h1 h3,UA h2 h4⟩
def jA(h:VW X EE ios a p):VT X EE ios a p:=let ⟨_,h1,h2⟩:=h; ⟨_,PW.pt h1,h2⟩
noncomputable def A4(p:δC):M RV:=M.bind p λb=>M.pure (.val ζc)
noncomputable def r6(f g:M RV):M RV:=M.bind ζb λb=>if b then g else M.pure γs
noncomputable def A5(f g:M RV):M RV:=M.bind ζb λb=>if b then M.pure γy else g
def A6{R0 H0 R H R' H':Hp}{σ:St}{kg Γ Γ':En}{x:V}{rv:RV}(er:ER ios R0 H0 σ kg)(p1:bt ios R0 H0 σ kg R H Γ)(h:ip R' H H' σ x rv):ip R' H0 H' σ x rv:=by
 cases rv with
 |val d=>exact h
 |new d=>obtain⟨h1,a,h2,h3⟩:=h;exact⟨h1,a,h2,p1.back er _ h3⟩
 |var i=>exact h
def EG{op:BoolOp}(h:γo):VE X EE ios (.BoolOp op [a] pos) f:=let ⟨_,h1,h2⟩:=h; ⟨_,Q7 h1,h2⟩
def xB{rest:zza}(h:γo)(h':VE X EE ios (.BoolOp .And (b::rest) pos) g):VE X EE ios (.BoolOp .And (a::b::rest) pos) (r6 f g):=by
 obtain⟨_,h1,h2⟩:=h;obtain⟨_,h3,h4⟩:=h';refine⟨_,Q8 h1 h3,λσ H R Γ Q er w=>?_⟩;unfold r6 at w;rw[aB]at w;refine h2 σ H R Γ _ er (aY (by rw[aB]at w;exact w) (λrv ao w x H1 R1 p1 hx=>?_) λ_ _ z=>z);unfold aO at w;split at w
 .rename_i q;cases hx;refine⟨_,rfl,?_⟩;cases q with
  |false=>exact rQ (w ζA H1 R1 p1 ζA)
  |true=>exact rT (h4 σ H1 R1 ao _ p1.er (aY w (λrv aC w y H2 R2 p2 hy=>w y H2 R2 εb (A6 (Γ':=aC) er p1 hy)) λ_ _ z=>gD.trans p1 z))
 .exact False.elim w
def UB{rest:zza}(h:γo)(h':VE X EE ios (.BoolOp .Or (b::rest) pos) g):VE X EE ios (.BoolOp .Or (a::b::rest) pos) (A5 f g):=by
 obtain⟨_,h1,h2⟩:=h;obtain⟨_,h3,h4⟩:=h';refine⟨_,Q9 h1 h3,λσ H R Γ Q er w=>?_⟩;unfold A5 at w;rw[aB]at w;refine h2 σ H R Γ _ er (aY (by rw[aB]at w;exact w) (λrv ao w x H1 R1 p1 hx=>?_) λ_ _ z=>z);unfold aO at w;split at w
 .rename_i q;cases hx;refine⟨_,rfl,?_⟩;cases q with
  |true=>exact rT (w (.bl true) H1 R1 p1 (.bl true))
  |false=>exact rQ (h4 σ H1 R1 ao _ p1.er (aY w (λrv aC w y H2 R2 p2 hy=>w y H2 R2 εb (A6 (Γ':=aC) er p1 hy)) λ_ _ z=>gD.trans p1 z))
 .exact False.elim w
def UC(h:γo):VE X EE ios ζO (A4 (nR ζb)):=by
 obtain⟨_,h1,h2⟩:=h;refine⟨_,Q_ h1,λσ H R Γ Q er w=>?_⟩;unfold A4 nR at w;rw[aB,aB,aB]at w;refine h2 σ H R Γ _ er (aY w (λrv ao w x H1 R1 p1 hx=>?_) λ_ _ z=>z);unfold aO at w;split at w
 .cases hx;exact⟨_,rfl,w _ H1 R1 p1 ζB⟩
 .exact False.elim w
noncomputable def vf(p:δC)(f g:M RV):M RV:=M.bind p λb=>if b then f else g
def EH(hc:θC)(h:γo)(h':εx):VE X EE ios (.IfExp c a b pos) (vf p f g):=by
 obtain⟨_,h0,h0'⟩:=hc;obtain⟨_,h1,h2⟩:=h;obtain⟨_,h3,h4⟩:=h';refine⟨_,Rb h0 h1 h3,λσ H R Γ Q er w=>?_⟩;unfold vf at w;rw[aB]at w;refine h0' σ H R Γ _ er (aY w (λb ao w H1 R1 p1=>?_) λ_ _ z=>z);cases b with
 |true=>exact rT (h2 σ H1 R1 ao _ p1.er (aY w (λrv aC w y H2 R2 p2 hy=>w y H2 R2 εb (A6 (Γ':=aC) er p1 hy)) λ_ _ z=>gD.trans p1 z))
 |false=>exact rQ (h4 σ H1 R1 ao _ p1.er (aY w (λrv aC w y H2 R2 p2 hy=>w y H2 R2 εb (A6 (Γ':=aC) er p1 hy)) λ_ _ z=>gD.trans p1 z))
end
mutual
noncomputable def D.py:D->PyData
 |.aq=>.none
 |.bl b=>.bool b
 |.int i=>.int i
 |.str x=>.str x
 |.lst xs=>.list (D.dR xs)
 |.tup xs=>.tuple (D.dR xs)
 |.mB _ _=>.dict []
 |.eZ _=>.dict []
 |.ins _ _ _=>.dict []
 |.obj _ _ _=>.dict []
noncomputable def D.dR:List D->List PyData
 |[]=>[]
 |x::r=>x.py::D.dR r
end
def Rp.EI{H:Hp}:(∀{x d},Rp H x d->d.py.canLay0=true->d8 H x d.py)/\∀{xs ds},aK H xs ds->PyData.canLayAll0 θj=true->i9 H xs θj:=by
 refine Rp.ind (m:=λx d=>d.py.canLay0=true->d8 H x d.py) (λ_=>.aq) (λb _=>.bl b) (λi _=>.int i) (λx _=>.str x) (λe h p=>.lst e (h ?_)) (λe h p=>.tup e (h ?_)) ?_ ?_ ?_ ?_ ?_ (λ_=>.nil) (λa b p=>?_)
 iterate 2 simpa [D.py,PyData.canLay0]using p
 iterate 5 simp[D.py,PyData.canLay0]
 have p:=Bool.and_eq_true_iff.mp (show(PyData.canLay0 _&&PyData.canLayAll0 _)=true from by simpa only [D.dR,PyData.canLayAll0]using p);exact .cons (a p.1) (b p.2)
def Rp.dat:Rp H x d->d.py.canLay0=true->d8 H x d.py:=Rp.EI.1
def eqB(d e:D):Bool:=PyData.eqv d.py e.py
def lK(d:D):Bool:=SeqAt.shaped d.py
def A7(h:lK d=true):d.py.canLay0=true:=SeqAt.canLay_of_shaped h
def r9(d e:D):Option RV:=if lK d&&lK e then some (.val (.bl (eqB d e))) else none
def r_(d e:D):Option RV:=if lK d&&lK e then some (.val (.bl (!eqB d e))) else none
section
variable{K:zze}
def UD:fF EA r9:=by
 intro R H x y d e rv Q s px py hg q;unfold r9 at hg;split at hg
 .rename_i c;rw[qa1]at c;cases hg;exact⟨d.py,e.py,(px.hv s).dat (A7 c.1),(py.hv s).dat (A7 c.2),c.1,c.2,q _ H R γf ζB⟩
 .cases hg
def UE:fF EB r_:=by
 intro R H x y d e rv Q s px py hg q;unfold r_ at hg;split at hg
 .rename_i c;rw[qa1]at c;cases hg;exact⟨d.py,e.py,(px.hv s).dat (A7 c.1),(py.hv s).dat (A7 c.2),c.1,c.2,q _ H R γf ζB⟩
 .cases hg
def c_:D->D->Option RV
 |.str x,.str y=>some (.val (.bl (decide (x=y))))
 |d,e=>r9 d e
def gE:D->D->Option RV
 |.str x,.str y=>some (.val (.bl (!decide (x=y))))
 |d,e=>r_ d e
def KU:R2:=λx y H Q=>EA x y H Q\/Jx x y H Q
def KW:R2:=λx y H Q=>EB x y H Q\/Jy x y H Q
omit [KC] in
def h_{X:Cx}(hr:δ3):cK X (compareOp .Eq) KU:=(Ui hr).or op_eq
omit [KC] in
def mC{X:Cx}(hr:δ3):cK X ιi KW:=(Uj hr).or RK
omit [KC] in
def KY(x y:Str):decide (V.str x=V.str y)=decide (x=y):=by
 by_cases h:x=y
 .subst h;simp
 .simp[h]
def ic:fF KU c_:=by
 intro R H x y d e rv Q s px py hg q;unfold c_ at hg;split at hg
 .cases hg;cases px.str;cases py.str;refine .inr ⟨rfl,?_⟩;rw[KY];exact q _ H R γf ζB
 .exact .inl (UD R H x y _ _ rv Q s px py hg q)
def mE:fF KW gE:=by
 intro R H x y d e rv Q s px py hg q;unfold gE at hg;split at hg
 .cases hg;cases px.str;cases py.str;refine .inr ⟨rfl,?_⟩;rw[KY];exact q _ H R γf ζB
 .exact .inl (UE R H x y _ _ rv Q s px py hg q)
def ug(g:Int->Int->D)(d e:D):Option RV:=match d,e with
 |.int i,.int j=>some (.val ε8)
 |_,_=>none
noncomputable def xF(C:Int->Int->Bool)(g:Int->Int->D)(d e:D):Option RV:=match d,e with
 |.int i,.int j=>if C i j then some (.val ε8) else none
 |_,_=>none
def A8(h:∀R i j,Rp R ε8 (g' i j)):fF (m3 g) (ug g'):=by
 intro R H x y d e rv Q s px py hg q;unfold ug at hg;split at hg
 .cases hg;exact⟨_,_,px.int,py.int,q _ H R γf (h R _ _)⟩
 .cases hg
def EJ(hC:∀i j,C' i j=true->C i j)(h:∀R i j,Rp R ε8 (g' i j)):fF (rI C g) (xF C' g'):=by
 intro R H x y d e rv Q s px py hg q;unfold xF at hg;split at hg
 .split at hg
  .rename_i c;cases hg;exact⟨_,_,px.int,py.int,hC _ _ c,q _ H R γf (h R _ _)⟩
  .cases hg
 .cases hg
noncomputable def cd(p:Prop):Bool:=@decide p ζ1
omit [KC] in
def iR{p:Prop}(h:p):cd p=true:=by unfold cd;exact @decide_eq_true p ζ1 h
omit [KC] in
def lL{p:Prop}(h:cd p=true):p:=by unfold cd at h;exact @of_decide_eq_true p ζ1 h
abbrev uh:=ug λi j=>.bl (decide (i<j))
abbrev EK:=ug λi j=>.bl (decide (i<=j))
abbrev nS:=ug λi j=>.bl (decide (j<i))
abbrev KZ:=ug λi j=>.bl (decide (j<=i))
abbrev nU:=xF (λ_ j=>cd (0<j)) λi j=>.int (i % j)
abbrev A9:=xF (λ_ j=>cd (0<j/\j<1073741824)) λi j=>.int (i/j)
abbrev xG:=xF (λi j=>cd (0<=j/\j<=1000000/\i.natAbs<2 ^ 64)) λi j=>.int (i ^ j.toNat)
def vg:fF (m3 λi j=>.bl (decide (i<j))) uh:=A8 λ_ _ _=>.bl _
def K2:fF (m3 λi j=>.bl (decide (i<=j))) EK:=A8 λ_ _ _=>.bl _
def oW:fF (m3 λi j=>.bl (decide (j<i))) nS:=A8 λ_ _ _=>.bl _
def UG:fF (m3 λi j=>.bl (decide (j<=i))) KZ:=A8 λ_ _ _=>.bl _
def qP:fF (rI (λ_ j=>0<j) λi j=>.int (i % j)) nU:=EJ (λ_ _ h=>lL h) λ_ _ _=>.int _
def K3:fF (rI Js λi j=>.int (i/j)) A9:=EJ (λ_ _ h=>lL h) λ_ _ _=>.int _
def K4:fF (rI Jt λi j=>.int (i ^ j.toNat)) xG:=EJ (λ_ _ h=>lL h) λ_ _ _=>.int _
def oX(s:θA)(hp:H p=none)(h:δU):Al R H R (upd H p γh)/\ja R H (upd H p γh) γO (.new ζ4):=
 ⟨⟨s.trans (lG hp),ag.refl _,lG hp,λ_ _ _ z=>z⟩,⟨p,xs,ds,rfl,s.free hp,fS,rfl,h⟩,p,rfl,hp⟩
def EL(s:θA)(hp:H p=none)(h:δU):Al R H (upd R p γK) (upd H p γK)/\ja (upd R p γK) H (upd H p γK) γO (.val ζN):=by
 have hr:R p=none:=s.free hp;refine⟨⟨λb o e=>?_,lG hr,lG hp,λb o e r=>?_⟩,.tup fS (h.sm (lG hr))⟩
 .by_cases hb:b=p
  .subst hb;rw[fS]at e ⊢;exact e
  .rw[bA hb]at e ⊢;exact s b o e
 .rw[bA (iN e hp)];exact r
def aS(d e:D):Option RV:=match d,e with
 |.int i,.int j=>some (.val (.int (i+j)))
 |.lst xs,.lst ys=>if xs.length+ys.length<=sizeLine then some (.new (.lst (xs++ys))) else none
 |.str i,.str j=>if i.length+j.length<=sizeLine then some (.val (.str (i++j))) else none
 |_,_=>none
def K5:R2:=λx y H Q=>m3 (λi j=>.int (i+j)) x y H Q\/(Kf x y H Q\/(∃i j,x=.str i/\y=.str j/\i.length+j.length<=sizeLine/\Q (.str (i++j)) H))
def bg:cK X ε9 K5:=tM.or (tT.or RQ)
def bh:fF K5 aS:=by
 intro R H x y d e rv Q s px py hg q;unfold aS at hg;split at hg
 .cases hg;exact .inl ⟨_,_,px.int,py.int,q _ H R γf δI⟩
 .split at hg
  .rename_i c;cases hg;obtain⟨a,xs,rfl,h1,h2⟩:=px.lst s;obtain⟨b,ys,rfl,h3,h4⟩:=py.lst s;refine .inr (.inl ⟨a,b,xs,ys,rfl,rfl,h1,h3,by rw[h2.len,h4.len];exact c,λp hp=>?_⟩);obtain⟨al,rv⟩:=oX s hp (h2.app h4);exact q _ _ _ al rv
  .cases hg
 .split at hg
  .rename_i c;cases hg;exact .inr (.inr ⟨_,_,px.str,py.str,c,q _ H R γf ηj⟩)
  .cases hg
 .cases hg
def sj(i j:Int):Bool:=cd (m4 i j)
def qk(d e:D):Option RV:=match d,e with
 |.int i,.int j=>if sj i j then some (.val (.int (i*j))) else none
 |_,_=>none
def UH(h:sj i j=true):m4 i j:=lL h
def xH:fF (rI m4 λi j=>.int (i*j)) qk:=by
 intro R H x y d e rv Q s px py hg q;unfold qk at hg;split at hg
 .split at hg
  .rename_i c;cases hg;exact⟨_,_,px.int,py.int,UH c,q _ H R γf δI⟩
  .cases hg
 .cases hg
noncomputable def isNone:D->Bool
 |.aq=>true
 |_=>false
def Pk.isNone(h:Pk R H x d):decide (x=.aq)=isNone d:=by
 rcases h with h|⟨a,xs,ds,rfl,_,rfl,_⟩
 .cases h<;>first|rfl|exact qaY (λz=>nomatch z)
 .exact qaY (λz=>nomatch z)
def kh(d e:D):Option RV:=match e with
 |.aq=>some (.val (.bl (isNone d)))
 |_=>none
def Pk.EM(h:Pk R H x .aq):x=.aq:=by
 rcases h with h|⟨a,xs,ds,rfl,_,h2,_⟩
 .cases h;rfl
 .cases h2
def mF:fF (λx y H Q=>y=.aq/\Q (.bl (decide (x=.aq))) H) kh:=by
 intro R H x y d e rv Q s px py hg q;unfold kh at hg;split at hg
 .cases hg;refine⟨py.EM,?_⟩;rw[px.isNone];exact q _ H R γf ζB
 .cases hg
noncomputable def sk:D->Bool
 |.aq=>true
 |.bl _=>true
 |.int _=>true
 |.str _=>true
 |_=>false
noncomputable def sq:D->D->Bool
 |.aq,.aq=>true
 |.bl a,.bl b=>a == b
 |.bl a,.int b=>(if a then 1 else 0) == b
 |.int a,.bl b=>a == (if b then 1 else 0)
 |.int a,.int b=>a == b
 |.str a,.str b=>a == b
 |_,_=>false
def Rp.flat(h:Rp R x d):oN x=sk d:=by cases h<;>rfl
def Rp.UI(h:Rp R x d)(h':Rp R y e):qe x y=sq d e:=by cases h<;>cases h'<;>rfl
def aK.flats(h:δU):xs.all oN=ds.all sk:=h.ind (n:=λxs ds=>xs.all oN=ds.all sk) rfl (λa _ h=>by rw[qbC,qbC,a.flat,h])
def aK.inf(h:Rp R x d)(k:δU):inV x xs=ds.any (λe=>sq e d):=k.ind (n:=λxs ds=>inV x xs=ds.any (λe=>sq e d)) rfl (λa _ k=>by show(qe _ x || inV x _)=_;rw[List.any_cons,a.UI h,k])
noncomputable def K6:D->Option γe
 |.lst xs=>some xs
 |.tup xs=>some xs
 |_=>none
def A_(neg:Bool)(d e:D):Option RV:=match K6 e with
 |some xs=>if sk d&&xs.all sk then some (.val (.bl (if neg then !xs.any (λe=>sq e d) else xs.any (λe=>sq e d)))) else none
 |none=>none
def Pk.seq(s:θA)(h:Pk R H x d)(e:K6 d=some ds):∃p xs,x=.ref p/\(cJ K H p xs\/k6 K H p xs)/\aK R xs ds:=by
 cases d<;>first| (cases e;done)|skip
 .cases e;obtain⟨a,xs,rfl,h1,h2⟩:=h.lst s;exact⟨a,xs,rfl,.inl (cJ.of h1),h2⟩
 .cases e;obtain⟨a,xs,rfl,h1,h2⟩:=h.tup;exact⟨a,xs,rfl,.inr ιe,h2⟩
def UJ:fF (J0 K neg) (A_ neg):=by
 intro R H x y d e rv Q s px py hg q;unfold A_ at hg;split at hg
 .rename_i ds hs;split at hg
  .rename_i c;rw[qa1]at c;cases hg;obtain⟨p,xs,rfl,h1,h2⟩:=py.seq (K:=K) s hs;have K7:=px.hv s;have h2':=h2.sm s;refine⟨p,xs,rfl,h1,by rw[K7.flat];exact c.1,by rw[h2'.flats];exact c.2,?_⟩;rw[aK.inf K7 h2'];exact q _ H R γf ζB
  .cases hg
 .cases hg
end
section
variable{X:Cx}{EE:br}{ios:zzd}{e a b c:Expr}{es:zza}{f g k:M RV}{fs:γg}{pos:Pos}{ta tb tc t:TE}{r r':R2}
noncomputable def ql(f:M RV):M RV:=M.bind f λrv=>match rv with
 |.var i=>M.pure θu
 |rv=>M.bind εP λd=>M.pure εz
noncomputable def ZY(f:M RV)(g:γg):M ιj:=M.bind (ql f) λx=>M.bind g λxs=>M.pure (x::xs)
def xI(h:ηW){σ:St}{H R:Hp}{Γ:En}{Q:VK}(er:γk)
 (w:df (ql f Γ) (λrv Γ'=>∀x H' R',bt ios R H σ Γ R' H' Γ'->uc R' σ x rv->Q x H') γ2):t σ H Q:=by
 unfold ql at w;rw[aB]at w;refine h σ H R Γ _ er (aY w (λrv ao w x H1 R1 p1 hx=>?_) λ_ _ z=>z);cases rv with
 |var i=>exact w x H1 R1 p1 hx
 |val d =>
   rw[aB]at w;obtain⟨d,aC,R2,e2,_,r2,w⟩:=oV er p1 hx w;exact w x H1 R2 e2 r2
 |new d =>
   rw[aB]at w;obtain⟨d,aC,R2,e2,_,r2,w⟩:=oV er p1 hx w;exact w x H1 R2 e2 r2
def ai:VA X EE ios [] (M.pure []):=⟨_,qc,λσ H R Γ Q er w=>w [] H R εZ .nil⟩
def UK(h:ηW)(h':xu EE ios u fs):xu EE ios (j7 t u) (ZY f fs):=by intro σ H R Γ Q er w;unfold ZY at w;rw[aB]at w;refine xI h er (aY w (λrv ao w x H1 R1 p1 hx=>?_) λ_ _ z=>z);rw[aB]at w;refine h' σ H1 R1 ao _ p1.er (aY w (λrvs aC w xs H2 R2 p2 hxs=>?_) λ_ _ z=>gD.trans p1 z);exact w (x::xs) H2 R2 εb (.cons (hx.sm p2.go.rr) hxs)
def Zj(ha:γX)(hr:δh)(hs:starEach (e::es) X.env=(false,eval e X.env)::starEach es X.env:=by rfl):VA X EE ios (e::es) (ZY f fs):=
 let ⟨_,h1,h2⟩:=ha;let ⟨_,h3,h4⟩:=hr; ⟨_,jR h1 h3 hs,UK h2 h4⟩
noncomputable def fG:List RV->M γe
 |[]=>M.pure []
 |rv::r=>M.bind εP λd=>M.bind (fG r) λds=>M.pure (d::ds)
noncomputable def fH:List RV->M γe
 |[]=>M.pure []
 |rv::r=>M.bind (peek rv) λd=>M.bind (fH r) λds=>M.pure (d::ds)
inductive Pks(R H:Hp):List V->List D->Prop where
 |nil:Pks R H [] []
 |cons {x:V}{d:D}{xs:γv}{ds:γe}:Pk R H x d->Pks R H xs ds->Pks R H (x::xs) (d::ds)
def vh(er:γk)(h:iq R σ xs rvs)(w:df (fH rvs Γ) K E):∃ds,Pks R H xs ds/\K ds Γ:=by
 induction h generalizing K with
 |nil=>exact⟨[],.nil,w⟩
 |cons a b ih =>
   unfold fH at w;rw[aB]at w;obtain⟨d,pd,w⟩:=m9 (H:=H) er a.rv w;rw[aB]at w;obtain⟨ds,pds,w⟩:=ih w;exact⟨d::ds,.cons pd pds,w⟩
theorem oY(er:ER ios R0 H0 σ kg):∀{xs:γv}{rvs:ιj}{R:Hp}{Γ:En}{K:List D->En->Prop}{E:Xc->En->Prop},bt ios R0 H0 σ kg R H Γ->iq R σ xs rvs->df (fG rvs Γ) K E ->
 ∃ds Γ' R',bt ios R0 H0 σ kg R' H Γ'/\ag R R'/\aK R' xs ds/\K ds Γ'
 |_,_,R,Γ,K,E,p,.nil,w=>⟨[],Γ,R,p,ag.refl _,.nil,w⟩
 |_,_,R,Γ,K,E,p,.cons a b,w=>by unfold fG at w;rw[aB]at w;obtain⟨d,ao,R1,p1,s1,r1,w⟩:=oV er p a.rv w;rw[aB]at w;obtain⟨ds,aC,R2,p2,s2,r2,w⟩:=oY er p1 (b.sm s1) w;exact⟨d::ds,aC,R2,p2,s1.trans s2,.cons (r1.sm s2) r2,w⟩
noncomputable def aD(fs:γg):M RV:=M.bind fs λrvs=>M.bind δm λds=>if ds.length<=sizeLine then M.pure (.new ζ4) else M.st
noncomputable def d_(fs:γg):M RV:=M.bind fs λrvs=>M.bind δm λds=>if ds.length<=sizeLine then M.pure (.val ζN) else M.st
def cR(h:δh):VE X EE ios (.List es pos) (aD fs):=by
 obtain⟨t,h1,h2⟩:=h;refine⟨_,Sk h1,λσ H R Γ Q er w=>?_⟩;unfold aD at w;rw[aB]at w;refine h2 σ H R Γ _ er (aY w (λrvs ao w xs H1 R1 p1 hx=>?_) λ_ _ z=>z);rw[aB]at w;obtain⟨ds,aC,R2,p2,s2,r2,w⟩:=oY er p1 hx w;split at w
 .rename_i c;refine⟨by rw[r2.len];exact c,λp hp=>?_⟩;obtain⟨al,rv⟩:=oX p2.er.sub hp r2;exact w _ _ _ ζo (rv.rv ηf)
 .exact False.elim w
def gj(h:δh):VE X EE ios (.Tuple es k1 pos) (d_ fs):=by
 obtain⟨t,h1,h2⟩:=h;refine⟨_,D5 h1,λσ H R Γ Q er w=>?_⟩;unfold d_ at w;rw[aB]at w;refine h2 σ H R Γ _ er (aY w (λrvs ao w xs H1 R1 p1 hx=>?_) λ_ _ z=>z);rw[aB]at w;obtain⟨ds,aC,R2,p2,s2,r2,w⟩:=oY er p1 hx w;split at w
 .rename_i c;refine⟨by rw[r2.len];exact c,λp hp=>?_⟩;obtain⟨al,rv⟩:=EL p2.er.sub hp r2;exact w _ _ _ ζo (rv.rv ηf)
 .exact False.elim w
def nc(r:List V->Hp->VK->Prop)(g:List D->Option RV):Prop:=∀R H xs ds rv (Q:VK),ag R H->Pks R H xs ds->g ds=some rv->(∀z H' R',Al R H R' H'->ja R' H H' z rv->Q z H')->r xs H Q
noncomputable def cD(g:List D->Option RV)(fs:γg):M RV:=M.bind fs λrvs=>M.bind ηh λds=>M.d9 (g ds)
def qm{r:List V->Hp->VK->Prop}{g:List D->Option RV}{e0:Expr}(hp:∀t,PA X es t->PE X e0 (rN r t))(hv:nc r g)(ha:δh):VE X EE ios e0 (cD g fs):=by obtain⟨t,h1,h2⟩:=ha;refine⟨_,hp t h1,λσ H R Γ Q er w=>?_⟩;unfold cD at w;rw[aB]at w;refine h2 σ H R Γ _ er (aY w (λrvs ao w xs H1 R1 p1 hx=>?_) λ_ _ z=>z);rw[aB]at w;obtain⟨ds,pd,w⟩:=vh p1.er hx w;obtain⟨rv,hg,w⟩:=ke w;exact hv R1 H1 xs ds rv Q p1.er.sub pd hg λz H' R' al ra=>w z H' R' θq θw
def Pks.one(h:Pks R H xs [d]):∃x,xs=[x]/\Pk R H x d:=by cases h with|cons a b=>cases b;exact⟨_,rfl,a⟩
def Pks.two{R H:Hp}{xs:γv}{d e:D}(h:Pks R H xs [d,e]):∃x y,xs=[x,y]/\Pk R H x d/\Pk R H y e:=by cases h with|cons a b=>obtain⟨y,rfl,q⟩:=b.one;exact⟨_,_,rfl,a,q⟩
noncomputable def gO:List D->Option RV
 |[.lst xs]=>some εc
 |[.tup xs]=>some εc
 |[.eZ xs]=>some εc
 |[.str z]=>if z.length<=sizeLine then some (.val (.int z.length)) else none
 |_=>none
def K8(K:zze):List V->Hp->VK->Prop:=λxs H Q=>(∃p ys,xs=[.ref p]/\(cJ K H p ys\/k6 K H p ys)/\Q (.int ys.length) H)\/(∃z,xs=[.str z]/\z.length<=sizeLine/\Q (.int z.length) H)
def jT:aM X (.builtin "len") (K8 X.K):=jr.or SN
def jU:nc (K8 KC.K) gO:=by
 intro R H xs ds rv Q s px hg q;unfold gO at hg;split at hg
 .cases hg;obtain⟨x,rfl,p⟩:=px.one;obtain⟨a,ys,rfl,h1,h2⟩:=p.lst s;refine .inl ⟨a,ys,rfl,.inl (cJ.of h1),?_⟩;rw[h2.len];exact q _ H R γf δI
 .cases hg;obtain⟨x,rfl,p⟩:=px.one;obtain⟨a,ys,rfl,h1,h2⟩:=p.tup;refine .inl ⟨a,ys,rfl,.inr ιe,?_⟩;rw[h2.len];exact q _ H R γf δI
 .cases hg;obtain⟨x,rfl,p⟩:=px.one;rcases p with p|⟨_,_,_,_,_,z,_⟩
  .cases p with
   |eZ h1 =>
     refine .inl ⟨_,_,rfl,.inl (s.seq h1),?_⟩;rw[qag];exact q _ H R γf δI
  .cases z
 .split at hg
  .rename_i c;cases hg;obtain⟨x,rfl,p⟩:=px.one;cases p.str;exact .inr ⟨_,rfl,c,q _ H R γf δI⟩
  .cases hg
 .cases hg
noncomputable def Ba:List D->Option RV
 |[.int i]=>some (.val (.int (if i<0 then -i else i)))
 |_=>none
def UL:nc (λxs H Q=>∃i,xs=[.int i]/\Q (.int (if i<0 then -i else i)) H) Ba:=by
 intro R H xs ds rv Q s px hg q;unfold Ba at hg;split at hg
 .cases hg;obtain⟨x,rfl,p⟩:=px.one;exact⟨_,by rw[p.int],q _ H R γf δI⟩
 .cases hg
noncomputable def xJ:List D->Option RV
 |[.int i,.int j]=>some (.val (.int (if j>i then j else i)))
 |_=>none
noncomputable def xK:List D->Option RV
 |[.int i,.int j]=>some (.val (.int (if j<i then j else i)))
 |_=>none
def UM:nc (λxs H Q=>∃i j,xs=[.int i,.int j]/\Q (.int (if j>i then j else i)) H) xJ:=by
 intro R H xs ds rv Q s px hg q;unfold xJ at hg;split at hg
 .cases hg;obtain⟨x,y,rfl,p,p'⟩:=px.two;exact⟨_,_,by rw[p.int,p'.int],q _ H R γf δI⟩
 .cases hg
def UN:nc (λxs H Q=>∃i j,xs=[.int i,.int j]/\Q (.int (if j<i then j else i)) H) xK:=by
 intro R H xs ds rv Q s px hg q;unfold xK at hg;split at hg
 .cases hg;obtain⟨x,y,rfl,p,p'⟩:=px.two;exact⟨_,_,by rw[p.int,p'.int],q _ H R γf δI⟩
 .cases hg
noncomputable def xM:List D->Option RV
 |[.int i]=>some (.val γ1)
 |[.bl k]=>some (.val (.int (if k then 1 else 0)))
 |_=>none
def K9:nc (λxs H Q=>(∃i,xs=[.int i]/\Q γ1 H)\/∃k,xs=[.bl k]/\Q (.int (if k then 1 else 0)) H) xM:=by
 intro R H xs ds rv Q s px hg q;unfold xM at hg;split at hg
 .cases hg;obtain⟨x,rfl,p⟩:=px.one;exact .inl ⟨_,by rw[p.int],q _ H R γf δI⟩
 .cases hg;obtain⟨x,rfl,p⟩:=px.one;exact .inr ⟨_,by rw[p.bl],q _ H R γf δI⟩
 .cases hg
noncomputable def Bb:List D->Option RV
 |[.lst xs]=>some (.new γh)
 |[.tup xs]=>some (.new γh)
 |_=>none
def UO:nc (λxs H Q=>∃p ys,xs=[.ref p]/\(cJ K H p ys\/k6 K H p ys)/\∀l,H l=none->Q (.ref l) (upd H l εi)) Bb:=by
 intro R H xs ds rv Q s px hg q;unfold Bb at hg;split at hg
 .cases hg;obtain⟨x,rfl,p⟩:=px.one;obtain⟨a,ys,rfl,h1,h2⟩:=p.lst s;refine⟨a,ys,rfl,.inl (cJ.of h1),λl hl=>?_⟩;obtain⟨al,rv⟩:=oX s hl h2;exact q _ _ _ al rv
 .cases hg;obtain⟨x,rfl,p⟩:=px.one;obtain⟨a,ys,rfl,h1,h2⟩:=p.tup;refine⟨a,ys,rfl,.inr ιe,λl hl=>?_⟩;obtain⟨al,rv⟩:=oX s hl h2;exact q _ _ _ al rv
 .cases hg
noncomputable def qQ:List D->Option ιk
 |[]=>some []
 |.bl b::r=>(qQ r).map (b :: ·)
 |_=>none
omit [KC] in
theorem K_:∀{ds:γe}{bs:ιk},qQ ds=some bs->ds=bs.map D.bl
 |[],bs,h=>by cases h;rfl
 |d::r,bs,h=>by
   cases d<;>first| (cases h;done)|skip
   rename_i b;have h:(qQ r).map (b :: ·)=some bs:=h;cases q:qQ r with
   |none=>rw[q]at h;cases h
   |some l=>rw[q]at h;cases h;rw[List.map_cons,<-K_ q]
def Bc:List D->Option RV
 |[.lst ds]=>(qQ ds).map λbs=>.val ηA
 |_=>none
def UP:nc (λxs H Q=>∃(p:Addr) (bs:ιk),xs=[.ref p]/\H p=some (.lst (bs.map V.bl))/\Q ηA H) Bc:=by
 intro R H xs ds rv Q s px hg q;unfold Bc at hg;split at hg
 .rename_i l;cases h:qQ l with
  |none=>rw[h]at hg;cases hg
  |some bs =>
    rw[h]at hg;cases hg;obtain⟨x,rfl,p⟩:=px.one;obtain⟨a,ys,rfl,h1,h2⟩:=p.lst s;rw[K_ h]at h2;rw[h2.qN]at h1;exact⟨a,bs,rfl,h1,q _ H R γf ζB⟩
 .cases hg
noncomputable def oZ:List D->Option (u8)
 |[]=>some []
 |.int b::r=>(oZ r).map (b :: ·)
 |_=>none
omit [KC] in
theorem EO:∀{ds:γe}{bs:u8},oZ ds=some bs->ds=bs.map D.int
 |[],bs,h=>by cases h;rfl
 |d::r,bs,h=>by
   cases d<;>first| (cases h;done)|skip
   rename_i b;have h:(oZ r).map (b :: ·)=some bs:=h;cases q:oZ r with
   |none=>rw[q]at h;cases h
   |some l=>rw[q]at h;cases h;rw[List.map_cons,<-EO q]
omit [KC] in
def La(bs:u8):oZ (bs.map D.int)=some bs:=by
 induction bs with
 |nil=>rfl
 |cons b r ih=>show(oZ (r.map D.int)).map (b :: ·)=_;rw[ih];rfl
noncomputable def jb(ns:u8):u8:=ns.mergeSort (λa b=>decide (a<=b))
omit [KC] in
def Bd(ns:u8):(jb ns).Perm ns:=List.mergeSort_perm ..
omit [KC] in
def Lb(ns:u8):(jb ns).Pairwise (· <= ·):=by
 have h:=List.pairwise_mergeSort (le:=λa b:Int=>decide (a<=b)) (λa b c h1 h2=>qaN ιu) (λa b=>by
  rcases Int.le_total a b with h|h
  .rw[qaN h];rfl
  .rw[qaN h,Bool.or_true]) ns
 exact h.imp λh=>qaC h
omit [KC] in
def UQ:∀{xs ys:u8},xs.Perm ys->xs.Pairwise (· <= ·)->ys.Pairwise (· <= ·)->xs=ys:=λp h1 h2=>List.Perm.eq_of_pairwise (λ_ _ _ _ h h'=>Int.le_antisymm h h') h1 h2 p
end
section
variable{X:Cx}{EE:br}{ios:zzd}{e a b c:Expr}{es:zza}{f g k:M RV}{fs:γg}{pos:Pos}{ta tb tc t:TE}{r r':R2}{K:zze}
def bZ(d e:D):Option RV:=match d,e with
 |.lst xs,.int i=>(cn xs i).map .val
 |.tup xs,.int i=>(cn xs i).map .val
 |.eZ ns,.int i=>(cn ns i).map λn=>.val ηk
 |.str z,.int i=>if z.length<=sizeLine then (cn z.cps.toList i).map λc=>.val (.str ⟨#[c]⟩) else none
 |_,_=>none
def aK.cn(h:δU)(e:L2.cn ds i=some d):∃x,L2.cn xs i=some x/\Rp R x d:=by
 unfold L2.cn at e ⊢;rw[h.len];cases q:oM ds.length i with
 |none=>rw[q]at e;cases e
 |some j =>
   rw[q]at e;exact h.ta e
def UR{α β:Type}(f:α->β)(xs:δ5)(i:Int):L2.cn ιv i=(L2.cn xs i).map f:=by
 unfold L2.cn;rw[qag];cases oM xs.length i with
 |none=>rfl
 |some j=>simp
def US:fF (JV KC.K) bZ:=by
 intro R H x y d e rv Q s px py hg q;unfold bZ at hg;split at hg
 .rename_i ds i;cases h:L2.cn ds i with
  |none=>rw[h]at hg;cases hg
  |some d =>
    rw[h]at hg;cases hg;obtain⟨a,xs,rfl,h1,h2⟩:=px.lst s;obtain⟨v,hv,rv⟩:=h2.cn h;exact .inl ⟨a,xs,i,v,rfl,py.int,cJ.of h1,hv,q _ H R γf rv⟩
 .rename_i ds i;cases h:L2.cn ds i with
  |none=>rw[h]at hg;cases hg
  |some d =>
    rw[h]at hg;cases hg;obtain⟨a,xs,rfl,h1,h2⟩:=px.tup;obtain⟨v,hv,rv⟩:=h2.cn h;exact .inr (.inl ⟨a,xs,i,v,rfl,py.int,k6.of (s _ _ h1),hv,q _ H R γf rv⟩)
 .rename_i ns i;cases h:L2.cn ns i with
  |none=>rw[h]at hg;cases hg
  |some n =>
    rw[h]at hg;cases hg;rcases px with px|⟨_,_,_,_,_,z,_⟩
    .cases px with
     |eZ h1=>exact .inl ⟨_,_,i,.int n,rfl,py.int,s.seq h1,by rw[UR,h];rfl,q _ H R γf ηk⟩
    .cases z
 .rename_i z i;split at hg
  .rename_i c;cases h:L2.cn z.cps.toList i with
   |none=>rw[h]at hg;cases hg
   |some n =>
     rw[h]at hg;cases hg;exact .inr (.inr ⟨z,i,n,px.str,py.int,c,h,q _ H R γf ηj⟩)
  .cases hg
 .cases hg
def cL(ha:γo)(hb:εx)(hs:JR b:=by intro _ _;rfl)(hK:X.K=KC.K:=by rfl):VE X EE ios (.Subscript a b pos) (op2 bZ f g):=
 let ⟨_,h1,h2⟩:=ha;let ⟨_,h3,h4⟩:=hb; ⟨_,SD SF h1 h3 hs,AX (by rw[hK];exact US) h2 h4⟩
def jc{α:Type}(xs:δ5)(lo hi:zzf):List α:=(xs.drop η2).take (HT.iP xs.length xs.length hi-HT.iP xs.length 0 lo)
def qo(d:D)(lo hi:zzf):Option RV:=match d with
 |.lst xs=>some (.new (.lst (jc xs lo hi)))
 |.eZ ns=>some (.new (.lst ((jc ns lo hi).map D.int)))
 |_=>none
def ES(EE:br)(ios:zzd)(t:TO)(f:M (zzf)):Prop:=∀σ H R Γ Q,ER ios R H σ Γ ->
 df (f Γ) (λo Γ'=>∀H' R',bt ios R H σ Γ R' H' Γ'->Q o H') γ2->t σ H Q
def VO(X:Cx)(EE:br)(ios:zzd)(e:Option Expr)(f:M (zzf)):Prop:=∃t,PO X e t/\ES EE ios t f
def k_:VO X EE ios none γS:=⟨_,Sx,λσ H R Γ Q er w=>w H R εZ⟩
noncomputable def cM(rv:RV):M (zzf):=match rv with
 |.val (.int i)=>M.pure (some i)
 |_=>M.st
def dk(h:γX):VO X EE ios ζC (M.bind f cM):=by
 obtain⟨t,h1,h2⟩:=h;refine⟨_,Sy h1,λσ H R Γ Q er w=>?_⟩;rw[aB]at w;refine h2 σ H R Γ _ er (aY w (λrv ao w x H1 R1 p1 hx=>?_) λ_ _ z=>z);unfold cM at w;split at w
 .cases hx;exact⟨_,rfl,w H1 R1 p1⟩
 .exact False.elim w
noncomputable def eM(o:D->zzf->zzf->Option RV)(f:M RV)(lo hi:M (zzf)):M RV:=M.bind f λx=>M.bind lo λl=>M.bind hi λu=>M.bind ε6 λd=>M.d9 (o d l u)
def aK.cut(h:δU)(lo hi:zzf):aK R (tP xs lo hi) (jc ds lo hi):=by unfold tP jc;rw[h.len];exact(h.drop _).take _
def UT{α β:Type}(f:α->β)(xs:δ5)(lo hi:zzf):(jc xs lo hi).map f=jc ιv lo hi:=by unfold jc;rw[qag,List.map_take,List.map_drop]
def ET(o:D->zzf->zzf->Option RV)(r:V->zzf->zzf->Hp->VK->Prop):Prop:=∀(R H:Hp) (x:V) (d:D) (l u:zzf) (rv:RV) (Q:VK),ag R H->Pk R H x d->o d l u=some rv->(∀z H' R',Al R H R' H'->ja R' H H' z rv->Q z H')->r x l u H Q
def Lc{o:D->zzf->zzf->Option RV}{r:V->zzf->zzf->Hp->VK->Prop}{t1:TE}{t2 t3:TO}{l u:M (zzf)}(k:ET o r)(h2:jy EE ios t1 f)(h4:ES EE ios t2 l)(h6:ES EE ios t3 u):jy EE ios (JP r t1 t2 t3) (eM o f l u):=by intro σ H R Γ Q er w;unfold eM at w;rw[aB]at w;refine h2 σ H R Γ _ er (aY w (λrx ao w x H1 R1 p1 hx=>?_) λ_ _ z=>z);rw[aB]at w;refine h4 σ H1 R1 ao _ p1.er (aY w (λl aC w H2 R2 p2=>?_) λ_ _ z=>gD.trans p1 z);rw[aB]at w;have qj:=p1.trans p2;refine h6 σ H2 R2 aC _ p2.er (aY w (λu su w H3 R3 p3=>?_) λ_ _ z=>gD.trans qj z);have uf:=qj.trans p3;rw[aB]at w;obtain⟨d,pd,w⟩:=m9 p3.er (hx.go er p1 (p2.trans p3).go) w;obtain⟨rv,hg,w⟩:=ke w;exact k R3 H3 x d l u rv Q p3.er.sub pd hg λz H' R' al ra=>w z H' R' (uf.al al) (ra.rv (uf.back er))
def UU{K:zze}(hK:K=KC.K):ET qo (JW K):=by
 intro R H x d l u rv Q s pd hg w;unfold qo at hg;split at hg
 .cases hg;obtain⟨a,xs,rfl,h1,h2⟩:=pd.lst s;exact⟨a,xs,rfl,cJ.of h1,λp hp=>let ⟨al,rv⟩:=oX s hp (h2.cut l u);w _ _ _ al rv⟩
 .cases hg;rcases pd with pd|⟨_,_,_,_,_,z,_⟩
  .cases pd with
   |eZ h1 =>
     refine⟨_,_,rfl,by rw[hK];exact s.seq h1,λp hp=>?_⟩;rw[show tP=jc from rfl,<-UT];obtain⟨al,rv⟩:=oX s hp (aK.ints (R:=R) _);exact w _ _ _ al rv
  .cases z
 .cases hg
def vi(ha:γo)(hl:VO X EE ios lo l)(hu:VO X EE ios hi u)(hK:X.K=KC.K:=by rfl):VE X EE ios (.Subscript a ζm pos) (eM qo f l u):=by obtain⟨t1,h1,h2⟩:=ha;obtain⟨t2,h3,h4⟩:=hl;obtain⟨t3,h5,h6⟩:=hu;exact⟨_,JQ SI h1 h3 h5,Lc (UU hK) h2 h4 h6⟩
noncomputable def op1(o:D->Option RV)(f:M RV):M RV:=M.bind f λx=>M.bind ε6 λd=>M.d9 (o d)
noncomputable def vj:D->Option RV
 |.int i=>some (.val (.int (-i)))
 |_=>none
def EU(ha:γo):VE X EE ios (.UnaryOp .USub a pos) (op1 vj f):=by
 obtain⟨t,h1,h2⟩:=ha;refine⟨_,RG RJ h1,λσ H R Γ Q er w=>?_⟩;unfold op1 at w;rw[aB]at w;refine h2 σ H R Γ _ er (aY w (λrx ao w x H1 R1 p1 hx=>?_) λ_ _ z=>z);rw[aB]at w;obtain⟨d,pd,w⟩:=m9 p1.er hx w;obtain⟨rv,hg,w⟩:=ke w;unfold vj at hg;split at hg
 .cases hg;exact⟨_,pd.int,w _ H1 R1 p1 δI⟩
 .cases hg
noncomputable def vk:D->String
 |.aq => "NoneType"
 |.bl _ => "bool"
 |.int _ => "int"
 |.str _ => "str"
 |.lst _ => "list"
 |.tup _ => "tuple"
 |.mB _ _ => "dict"
 |.eZ _ => "list"
 |.ins _ _ _ => "object"
 |.obj _ _ _ => "object"
noncomputable def plain:D->Bool
 |.eZ _=>false
 |.ins _ _ _=>false
 |.obj _ _ _=>false
 |_=>true
def Rp.ty(h:Rp H x d)(ns:plain d=true):eW K H x θT:=by
 cases h with
 |aq=>exact .aq
 |bl b=>exact .bl b
 |int i=>exact .int i
 |str x=>exact .str x
 |lst e _=>exact .lst e
 |tup e _=>exact .tup e
 |ua e=>exact .dK e
 |eZ e=>cases ns
 |m8 e=>cases ns
 |exc e _ _=>cases ns
 |obj e _=>cases ns
inductive Ty where
 |int|bool|str|list|tuple|dict
noncomputable def Ty.nm:Ty->String
 |.int => "int"
 |.bool => "bool"
 |.str => "str"
 |.list => "list"
 |.tuple => "tuple"
 |.dict => "dict"
noncomputable def jV:Ty->D->Bool
 |.int,.bl _=>true
 |.bool,.bl _=>true
 |.int,.int _=>true
 |.str,.str _=>true
 |.list,.lst _=>true
 |.list,.eZ _=>true
 |.tuple,.tup _=>true
 |.dict,.mB _ _=>true
 |_,_=>false
def UW(K:zze)(d:D)(hd:plain d=true)(T:Ty):W.kitOne K θT (.type T.nm)=some (jV T d):=by cases T<;>cases d<;>first|kernel_rfl|cases hd
def vm(T:Ty):D->Option RV
 |.eZ _=>none
 |.ins _ _ _=>none
 |.obj _ _ _=>none
 |d=>some (.val (.bl (jV T d)))
def sv(T:Ty)(f:M RV):M RV:=M.bind (ql f) λx=>M.bind ε6 λd=>M.d9 (vm T d)
def UX{T:Ty}(hp:∀t,PE X a t->PE X e0 (rN (Ur X.K) (j7 t (j7 (tC (.ty T.nm)) oI))))(ha:γo):VE X EE ios e0 (sv T f):=by
 obtain⟨t,h1,h2⟩:=ha;refine⟨_,hp t h1,λσ H R Γ Q er w=>?_⟩;unfold sv at w;rw[aB]at w;refine xI h2 er (aY w (λrx ao w x H1 R1 p1 hx=>?_) λ_ _ z=>z);rw[aB]at w;obtain⟨d,pd,w⟩:=m9 (H:=H) p1.er hx.rv w;have hv:=pd.hv p1.er.sub;obtain⟨rv,hg,w⟩:=ke w;have ns:plain d=true:=by cases d<;>first|rfl|cases hg
 have hg:rv=.val (.bl (jV T d)):=by cases d<;>first| (cases hg;done)|exact(qaH hg).symm
 subst hg;exact⟨x,.ty T.nm,_,_,_,rfl,rfl,.inl (hv.ty ns),UW X.K d ns T,w _ H1 R1 p1 ζB⟩
def ER.mut{R H:Hp}{σ:St}{Γ:En}{i:Nat}{kd:Kd}{ds ds':γe}{x:V}(er:γk)(hi:Γ[i]?=some (some (kd,.lst ds)))(ho:owned kd=true)(hx:σ[i]?=some δZ) :
 ∃p xs,x=.ref p/\H p=some γh/\aK R xs ds/\∀xs',aK R xs' ds'->bt ios R H σ Γ R (upd H p (.lst xs')) (Γ.set i (some (kd,.lst ds'))):=by
 obtain⟨v,hv,s⟩:=er.sl i _ hi;rw[hx]at hv;cases hv;have hlt:i<Γ.length:=(qac.mp hi).1
 obtain⟨⟨a,xs,Be,rfl,h1,h2,h3,h4⟩,hio⟩:OwR R H x ζ4/\∀n,kd=.io n->∃a,ios[n]?=some a/\x=.ref a:=by
  cases kd with
  |ae=>cases ho
  |own=>exact⟨s,λ_ z=>nomatch z⟩
  |io n=>exact⟨s.1,λm z=>by cases z;exact s.2⟩
 cases h3;have inj:∀j l z,Γ[j]?=some (some (l,z))->owned l=true->σ[j]?=some (some γz)->j=i:=λj l z q1 q2 q3=>(er.dj i j kd l _ z a hi ho q1 q2 hx q3).symm
 have Ld:∀b,Ow σ (Γ.set i (some (kd,.lst ds'))) b->Ow σ Γ b:=by
  rintro b ⟨j,l,z,q1,q2,q3⟩;by_cases hj:j=i
  .subst hj;rw[qaq hlt]at q1;cases q1;exact⟨j,kd,_,hi,ho,q3⟩
  .rw[qak ηE]at q1;exact⟨j,l,z,q1,q2,q3⟩
 refine⟨a,xs,rfl,h2,h4,λxs' h5=>⟨⟨λb o e=>?_,by rw[qbc];exact er.len,λj t hj=>?_,λj j' l l' z z' b q1 q2 q3 q4 q5 q6=>?_⟩,⟨ag.refl _,λb o h n=>?_,λ_ _ _ _ z=>z,λb z=>.inl (Ld b z),λb o h=>?_⟩,Ld⟩⟩
 .rw[bA]
  .exact er.sub b o e
  .rintro rfl;rw[h1]at e;cases e
 .by_cases hji:j=i
  .subst hji;rw[qaq hlt]at hj;cases hj;refine⟨_,hx,?_⟩;have z:OwR R (upd H a (.lst xs')) γz (.lst ds'):=⟨a,xs',ds',rfl,h1,fS,rfl,h5⟩;cases kd with
   |ae=>cases ho
   |own=>exact z
   |io n=>exact⟨z,hio n rfl⟩
  .rw[qak θo]at hj;obtain⟨v,hv,q⟩:=er.sl j t hj;refine⟨v,hv,q.mono ζu λho' b ys eb hb rb=>⟨?_,rb⟩⟩;rw[bA]
   .exact hb
   .rintro rfl;subst eb;exact hji (inj j t.1 t.2 hj ho' hv)
 .have g:∀{j:Nat}{l:Kd}{z:D},(Γ.set i (some (kd,.lst ds')))[j]?=some (some (l,z))->∃z',Γ[j]?=some (some (l,z')):=by
   intro j l z q;by_cases hji:j=i
   .subst hji;rw[qaq hlt]at q;cases q;exact⟨_,hi⟩
   .rw[qak θo]at q;exact⟨z,q⟩
  obtain⟨z1,g1⟩:=g q1
  obtain⟨z2,g2⟩:=g q3
  exact er.dj j j' l l' z1 z2 b g1 q2 g2 q4 q5 q6
 .rw[bA]
  .exact h
  .rintro rfl;exact n ⟨i,kd,_,hi,ho,hx⟩
 .by_cases hb:b=a
  .subst hb;exact⟨_,fS⟩
  .exact⟨o,by rw[bA hb];exact h⟩
def Bf(r:V->List V->Hp->VK->Prop)(g:List D->List D->Option (List D×D)):Prop:=∀R H p xs ds ys es ds' res (Q:VK),ag R H->R p=none->H p=some γh->aK R xs ds->aK R ys es->g ds es=some (ds',res) ->
 (∀xs' z,aK R xs' ds'->Rp R z res->Q z (upd H p (.lst xs')))->r γO ys H Q
def recv(i:Nat):M Unit:=λΓ=>match Γ[i]? with
 |some (some (kd,.lst _))=>if owned kd then .ok () Γ else .st
 |_=>.st
def xO(i:Nat)(g:List D->List D->Option (List D×D))(es:γe):M RV:=λΓ=>match Γ[i]? with
 |some (some (kd,.lst ds))=>if owned kd then match g ds es with
   |some (ds',res)=>.ok (.val res) (Γ.set i (some (kd,.lst ds')))
   |none=>.st else .st
 |_=>.st
def sx(i:Nat)(g:List D->List D->Option (List D×D))(fs:γg):M RV:=M.bind (recv i) λ_=>M.bind fs λrvs=>M.bind δm λes=>xO i g es
def UY(h:H p=some γh):D_ K "list" γO H:=.inl ⟨rfl,_,cJ.of h⟩
def UZ(er:γk)(w:df (recv i Γ) K' E):∃p xs,σ[i]?=some (some γO)/\H p=some γh/\K' () Γ:=by
 unfold recv at w;split at w
 .rename_i kd ds q;split at w
  .rename_i ho;obtain⟨v,hv,s⟩:=er.sl i _ q;obtain⟨p,xs,rfl,h2,_⟩:=er.mut (ds':=ds) q ho hv;exact⟨p,xs,hv,h2,w⟩
  .exact False.elim w
 .exact False.elim w
def U0{i:Nat}{r:V->List V->Hp->VK->Prop}{g:List D->List D->Option (List D×D)}(hv:Bf r g){R0 H0 R H:Hp}{σ:St}{kg Γ:En}{p:Addr}{ys:γv}{es:γe}{Q:VK}{E:Xc->En->Prop}(p1:bt ios R0 H0 σ kg R H Γ)
 (xP:σ[i]?=some (some γO)) (hys:aK R ys es) (w:df (xO i g es Γ) (λrv Γ'=>∀x H' R',bt ios R0 H0 σ kg R' H' Γ'->ip R' H0 H' σ x rv->Q x H') E):r γO ys H Q:=by
 unfold xO at w;split at w
 .rename_i kd ds q;split at w
  .rename_i ho;split at w
   .rename_i ds' res hg;obtain⟨p',xs,e,h2,h3,k⟩:=p1.er.mut (ds':=ds') q ho xP;cases e;have hr:R p=none:=(p1.er.ow ⟨i,kd,_,q,ho,xP⟩).1;exact hv R H p xs ds ys es ds' res Q p1.er.sub hr h2 h3 hys hg λxs' z hxs hz=>w z _ R (p1.trans (k xs' hxs)) hz
   .exact False.elim w
  .exact False.elim w
 .exact False.elim w
def xQ{i:Nat}{r:V->List V->Hp->VK->Prop}{g:List D->List D->Option (List D×D)}{e0:Expr}(hp:∀t,PA X es t->PE X e0 (Ea X.K "list" r (u3 i) t))(hv:Bf r g)(ha:δh):VE X EE ios e0 (sx i g fs):=by obtain⟨t,h1,h2⟩:=ha;refine⟨_,hp t h1,λσ H R Γ Q er w=>?_⟩;unfold sx at w;rw[aB]at w;obtain⟨p,xs0,xP,h0,w⟩:=UZ er w;have ty:=UY (K:=X.K) h0;refine⟨_,xP,ty,?_⟩;rw[aB]at w;refine h2 σ H R Γ _ er (aY w (λrvs ao w xs H1 R1 p1 hx=>?_) λ_ _ z=>z);rw[aB]at w;obtain⟨ds,aC,R2,p2,s2,r2,w⟩:=oY er p1 hx w;exact U0 hv p2 xP r2 w
def ui(ds es:γe):Option (List D×D):=match es with
 |[d]=>if ds.length<sizeLine then some (ds++[d],.aq) else none
 |_=>none
def Bg:Bf Kc ui:=by
 intro R H p xs ds ys es ds' res Q s hr hp hx hy hg q;unfold ui at hg;split at hg
 .split at hg
  .rename_i c;cases hg;cases hy with
   |cons h1 h2 =>
     cases h2;exact⟨p,xs,_,rfl,rfl,hp,by rw[hx.len];exact c,q _ _ (hx.app (.cons h1 .nil)) .aq⟩
  .cases hg
 .cases hg
end
inductive Fl where
 |nx|ret (rv:RV)|brk|cont
structure cB(ios:zzd)(R H:Hp)(σ:St)(Γ:En)(R' H':Hp)(aE:St)(Γ':En):Prop where
 er:ER ios R' H' aE Γ'
 go:Go δQ R H (Ow aE Γ') R' H'
section
variable{ios:zzd}{R H R1 H1 R2 H2:Hp}{σ gM iI:St}{Γ ao aC:En}
def cB.refl(e:γk):cB ios R H σ Γ R H σ Γ:=⟨e,Go.refl⟩
def cB.trans(a:δB)(b:cB ios R1 H1 gM ao R2 H2 iI aC):cB ios R H σ Γ R2 H2 iI aC:=⟨b.er,a.go.trans b.go⟩
def bt.jB(a:γY):cB ios R H σ Γ R1 H1 σ ao:=⟨a.er,a.go⟩
def cB.back(h:δB):∀b,H1 b=none->H b=none:=λb hb=>by
 cases q:H b with
 |none=>rfl
 |some o=>obtain⟨o',z⟩:=h.go.th b o q;rw[hb]at z;cases z
def Bh(p1:∀b,H1 b=none->H b=none)(h:ip R' H1 H' aE x rv):ip R' H H' aE x rv:=by
 cases rv with
 |val d=>exact h
 |new d=>obtain⟨h1,a,h2,h3⟩:=h;exact⟨h1,a,h2,p1 _ h3⟩
 |var i=>exact h
end
def ki(EE:br)(ios:zzd)(R H:Hp)(σ:St)(Γ:En):Xc->En->Prop:=λx Γ'=>∀e aE H' R',cB ios R H σ Γ R' H' aE Γ'->qi R' H H' e x->EE aE ζ3 ζC H'
def ki.exp(h:ki EE ios R H σ Γ x Γ'):gD EE ios R H σ Γ x Γ':=λe H' R' p q=>h e σ H' R' p.jB q
def ki.trans(a:δB)(h:ki EE ios R H σ Γ x Γ'):ki EE ios R1 H1 gM ao x Γ':=λe aE H' R' b q=>h e aE H' R' (a.trans b) (q.back a.back)
def sA(ios:zzd)(R H:Hp)(σ:St)(Γ:En)(D:Ends):Fl->En->Prop:=λfl Γ'=>∀aE H' R',cB ios R H σ Γ R' H' aE Γ'->match fl with
 |.nx=>D.nx aE H'
 |.brk=>D.bk aE H'
 |.cont=>D.ct aE H'
 |.ret rv=>∀x,ip R' H H' aE x rv->D.rt x H'
def qR(EE:br)(ios:zzd)(t:TS)(f:M Fl):Prop:=∀σ H R Γ D,ER ios R H σ Γ->df (f Γ) εE δS->t D σ H
def VS(X:Cx)(EE:br)(ios:zzd)(st:Stmt)(f:M Fl):Prop:=∃t,PS X st t/\qR EE ios t f
def cC(X:Cx)(EE:br)(ios:zzd)(st:δK)(f:M Fl):Prop:=∃t,PSs X st t/\qR EE ios t f
section
variable{X:Cx}{EE:br}{ios:zzd}{e a b c:Expr}{es:zza}{f g k:M RV}{fs:γg}{p:δC}{s s':M Fl}{st:Stmt}{sts jC:δK}{pos:Pos}
def dq:cC X EE ios [] (M.pure .nx):=⟨_,Jn,λσ H R Γ D er w=>w σ H R (cB.refl er)⟩
noncomputable def aA(f g:M Fl):M Fl:=M.bind f λfl=>match fl with
 |.nx=>g
 |fl=>M.pure fl
def aG(h:VS X EE ios st s)(h':cC X EE ios sts s'):cC X EE ios (st::sts) (aA s s'):=by
 obtain⟨t,h1,h2⟩:=h;obtain⟨u,h3,h4⟩:=h';refine⟨_,Az h1 h3,λσ H R Γ D er w=>?_⟩;unfold aA at w;rw[aB]at w;refine h2 σ H R Γ _ er (aY w (λfl ao w gM H1 R1 p1=>?_) λ_ _ z=>z);cases fl with
 |nx =>
   refine h4 gM H1 R1 ao D p1.er (aY w (λfl aC w iI H2 R2 p2=>?_) λ_ _ z=>ki.trans p1 z);have:=w iI H2 R2 εb;cases fl with
   |nx=>exact this
   |brk=>exact this
   |cont=>exact this
   |ret rv=>exact λx hx=>this x (Bh p1.back hx)
 |brk=>exact w gM H1 R1 p1
 |cont=>exact w gM H1 R1 p1
 |ret rv=>exact w gM H1 R1 p1
def aN(h:VS X EE ios st s):cC X EE ios [st] s:=let ⟨_,h1,h2⟩:=h; ⟨_,AA h1,h2⟩
def Le:VS X EE ios st M.st:=⟨_,Rq,λσ H R Γ D er w=>w⟩
noncomputable def jW(f:M RV):M Fl:=M.bind f λ_=>M.pure .nx
def nV(h:γX)(hs:swapsWith e none pos.line X.env=pure false:=by rfl):VS X EE ios (.Expr e pos) (jW f):=by obtain⟨t,h1,h2⟩:=h;refine⟨_,DP h1 hs,λσ H R Γ D er w=>?_⟩;unfold jW at w;rw[aB]at w;exact h2 σ H R Γ _ er (aY w (λrv ao w x H1 R1 p1 hx=>w σ H1 R1 p1.jB) λ_ _ z=>z.exp)
noncomputable def bF(f:M RV):M Fl:=M.bind f λrv=>M.pure (.ret rv)
def bS(h:γX):VS X EE ios (.Return ζC pos) (bF f):=by obtain⟨t,h1,h2⟩:=h;refine⟨_,Rm h1,λσ H R Γ D er w=>?_⟩;unfold bF at w;rw[aB]at w;exact h2 σ H R Γ _ er (aY w (λrv ao w x H1 R1 p1 hx=>w σ H1 R1 p1.jB x hx) λ_ _ z=>z.exp)
noncomputable def cu(p:δC)(s s':M Fl):M Fl:=M.bind p λb=>if b then s else s'
def cN(hc:θC)(h:ηI)(h':cC X EE ios jC s'):VS X EE ios (.If c sts jC pos) (cu p s s'):=by
 obtain⟨_,h0,h0'⟩:=hc;obtain⟨t,h1,h2⟩:=h;obtain⟨u,h3,h4⟩:=h';refine⟨_,Jo h0 h1 h3,λσ H R Γ D er w=>?_⟩;unfold cu at w;rw[aB]at w;refine h0' σ H R Γ _ er (aY w (λb ao w H1 R1 p1=>?_) λ_ _ z=>z.exp)
 have go:∀fl aC,sA ios R H σ Γ D fl aC->sA ios R1 H1 σ ao D fl aC:=λfl aC w iI H2 R2 p2=>by
  have:=w iI H2 R2 (p1.jB.trans p2);cases fl with
  |nx=>exact this
  |brk=>exact this
  |cont=>exact this
  |ret rv=>exact λx hx=>this x (Bh p1.jB.back hx)
 cases b with
 |true=>exact rT (h2 σ H1 R1 ao D p1.er (aY w go λ_ _ z=>ki.trans p1.jB z))
 |false=>exact rQ (h4 σ H1 R1 ao D p1.er (aY w go λ_ _ z=>ki.trans p1.jB z))
noncomputable def nW(i:Nat)(s:Kd×D):M Unit:=λΓ=>.ok () (Γ.set i ε5)
def U1{σ:St}{Γ:En}{i:Nat}{x:V}{s:Kd×D}{b:Addr}(h:Ow θL (Γ.set i ε5) b):Ow σ Γ b\/(owned s.1=true/\x=.ref b):=by
 obtain⟨j,k,d,h1,h2,h3⟩:=h;by_cases hj:j=i
 .subst hj;have l1:j<Γ.length:=by have:=(qac.mp h1).1;rwa[qbc]at this
  have l2:j<σ.length:=by have:=(qac.mp h3).1;rwa[qbc]at this
  rw[qaq l1]at h1;rw[qaq l2]at h3;cases h1;cases h3;exact .inr ⟨h2,rfl⟩
 .rw[qak ηE]at h1 h3;exact .inl ⟨j,k,d,h1,h2,h3⟩
def cB.set{R H R1 H1:Hp}{σ:St}{Γ ao:En}{i:Nat}{x:V}{s:Kd×D}(er:γk)(p1:γY)(hs:oK ios R1 H1 x s)(hn:owned s.1=true->∀a,x=.ref a->H a=none) :
 cB ios R H σ Γ R1 H1 θL (ao.set i ε5):=by
 have hfresh:owned s.1=true->∀a,x=.ref a -> ¬Ow σ ao a:=λho a ea z=>by obtain⟨_,xs,q⟩:=er.ow (p1.sh a z);rw[hn ho a ea]at q;cases q
 refine⟨⟨p1.er.sub,by rw[qbc,qbc];exact p1.er.len,λj t hj=>?_,λj j' l l' d d' b q1 q2 q3 q4 q5 q6=>?_⟩,⟨p1.go.rr,p1.go.hh,p1.go.no,λb z=>?_,p1.go.th⟩⟩
 .by_cases hji:j=i
  .subst hji;have l1:j<ao.length:=by have:=(qac.mp hj).1;rwa[qbc]at this
   rw[qaq l1]at hj;cases hj;exact⟨x,by rw[qaq (by rw[p1.er.len];exact l1)],hs⟩
  .rw[qak θo]at hj ⊢;exact p1.er.sl j t hj
 .by_cases h1:j=i
  .by_cases h2:j'=i
   .rw[h1,h2]
   .subst h1;have l1:j<ao.length:=by have:=(qac.mp q1).1;rwa[qbc]at this
    rw[qaq l1]at q1;rw[qaq (by rw[p1.er.len];exact l1)]at q5;rw[qak (qa5 h2)]at q3 q6;cases q1;cases q5;exact absurd ⟨j',l',d',q3,q4,q6⟩ (hfresh q2 b rfl)
  .by_cases h2:j'=i
   .subst h2;have l1:j'<ao.length:=by have:=(qac.mp q3).1;rwa[qbc]at this
    rw[qaq l1]at q3;rw[qaq (by rw[p1.er.len];exact l1)]at q6;rw[qak (qa5 h1)]at q1 q5;cases q3;cases q6;exact absurd ⟨j,l,d,q1,q2,q5⟩ (hfresh q4 b rfl)
   .rw[qak (qa5 h1)]at q1 q5;rw[qak (qa5 h2)]at q3 q6;exact p1.er.dj j j' l l' d d' b q1 q2 q3 q4 q5 q6
 .rcases U1 z with z|⟨ho,rfl⟩
  .exact .inl (p1.sh b z)
  .exact .inr (hn ho b rfl)
noncomputable def bu(i:Nat)(f:M RV):M Fl:=M.bind f λrv=>M.bind (match rv with
 |.new d=>nW i (.own,d)
 |.val d=>nW i (.ae,d)
 |.var j=>M.bind (mat (.var j)) λd=>nW i (.ae,d)) λ_=>M.pure .nx
def Lf{t:TE}{i:Nat}(h:ηW):qR EE ios (u4 t (nN i)) (bu i f):=by
 intro σ H R Γ D er w;unfold bu at w;rw[aB]at w;refine h σ H R Γ _ er (aY w (λrv ao w x H1 R1 p1 hx=>?_) λ_ _ z=>z.exp);show D.nx θL H1;rw[aB]at w;cases rv with
 |val d=>exact w _ H1 R1 (cB.set er p1 (s:=(.ae,d)) hx λz=>by cases z)
 |new d =>
   obtain⟨h1,a,h2,h3⟩:=hx;exact w _ H1 R1 (cB.set er p1 (s:=(.own,d)) h1 λ_ b eb=>by rw[h2]at eb;cases eb;exact h3)
 |var j =>
   rw[aB]at w;obtain⟨d,aC,R2,p2,_,r2,w⟩:=oV er p1 hx w;exact w _ H1 R2 (cB.set er p2 (s:=(.ae,d)) r2 λz=>by cases z)
def U2(hN:X.N.Nodup)(hi:X.N[i]?=some x)(hx:δ4)(he:γX)(hs:swapsWith e ζJ pos.line X.env=pure false:=by rfl)(hf:X.fn x=true\/X.env.scope.names.lookup x=some .local:=by first|exact .inl rfl|exact .inr rfl|assumption) :
 VS X EE ios (.Assign [.Name x pos'] e pos) (bu i f):=let ⟨_,h1,h2⟩:=he; ⟨_,Jp hN hi hx h1 hs hf,Lf h2⟩
def Bi:Xc->En->Prop:=λ_ _=>False
def mG(ios:zzd)(n:Nat)(g:TG)(m:D->M Unit):Prop:=∀σ H R Γ v d (Q:St->Hp->Prop),ER ios R H σ Γ->Rp R v d ->
 df (m d Γ) (λ_ Γ'=>∀aE H' R',cB ios R H σ Γ R' H' aE Γ'->(∀k,n<=k->aE[k]?=σ[k]?)->ag R R'->Q aE H') Bi->g v σ H Q
def Bj(ios:zzd)(n:Nat)(g:qa)(m:List D->M Unit):Prop:=∀σ H R Γ vs ds (Q:St->Hp->Prop),ER ios R H σ Γ->aK R vs ds ->
 df (m ds Γ) (λ_ Γ'=>∀aE H' R',cB ios R H σ Γ R' H' aE Γ'->(∀k,n<=k->aE[k]?=σ[k]?)->ag R R'->Q aE H') Bi->g vs σ H Q
noncomputable def gN(i:Nat)(d:D):M Unit:=nW i (.ae,d)
def mH{i n:Nat}(h:i<n):mG ios n (nN i) (gN i):=λσ H R Γ v d Q er hv w =>
 w _ H R (cB.set er εZ (s:=(.ae,d)) hv λz=>by cases z) (λk hk=>qak ω) ζu
noncomputable def fk:List D->M Unit
 |[]=>M.pure ()
 |_=>M.st
noncomputable def bD(m:D->M Unit)(ms:List D->M Unit):List D->M Unit
 |d::r=>M.bind (m d) λ_=>ms r
 |[]=>M.st
def U3:Bj ios n wW fk:=λσ H R Γ vs ds Q er hv w=>by
 cases hv with
 |nil=>exact⟨rfl,w σ H R (cB.refl er) (λ_ _=>rfl) ζu⟩
 |cons _ _=>exact False.elim w
def Lg{n:Nat}{g:TG}{gs:qa}{m:D->M Unit}{ms:List D->M Unit}(h:mG ios n g m)(h':Bj ios n gs ms):Bj ios n (tJ g gs) (bD m ms):=λσ H R Γ vs ds Q er hv w=>by
 cases hv with
 |nil=>exact False.elim w
 |cons h1 h2 =>
   refine⟨_,_,rfl,?_⟩;unfold bD at w;rw[aB]at w;refine h σ H R Γ _ _ _ er h1 (aY w (λ_ ao w gM H1 R1 p1 k1 s1=>?_) λ_ _ z=>z);exact h' gM H1 R1 ao _ _ _ p1.er (h2.sm s1) (aY w (λ_ aC w iI H2 R2 p2 k2 s2=>w iI H2 R2 εb (λk hk=>(k2 k hk).trans (k1 k hk)) (s1.trans s2)) λ_ _ z=>z)
noncomputable def gT(n:Nat)(ms:List D->M Unit):D->M Unit
 |.tup ds=>if ds.length=n then ms ds else M.st
 |_=>M.st
def U4(h:Bj ios n gs ms):mG ios n (wX K m gs) (gT m ms):=λσ H R Γ v d Q er hv w=>by
 unfold gT at w;split at w
 .split at w
  .rename_i c;cases hv with
   |tup e q=>exact⟨_,_,rfl,k6.of (er.sub _ _ e),by rw[q.len];exact c,h σ H R Γ _ _ Q er q w⟩
  .exact False.elim w
 .exact False.elim w
def g2(ms:List D->M Unit):D->M Unit
 |.lst [x,y]=>ms [x,y]
 |_=>M.st
noncomputable def nZ(m:M Unit):M Unit:=λΓ=>match m Γ with
 |.ok a Γ'=>.ok a Γ'
 |_=>.st
noncomputable def uj(m:D->M Unit)(f:M RV):M Fl:=M.bind f λrv=>M.bind εP λd=>M.bind (nZ (m d)) λ_=>M.pure .nx
def xR(h:df (nZ m Γ) K E):df (m Γ) K Bi:=by
 unfold nZ at h;cases q:m Γ with
 |ok a Γ'=>rw[q]at h;exact h
 |ex x Γ'=>rw[q]at h;exact False.elim h
 |st=>rw[q]at h;exact False.elim h
def U5{t:TE}{g:TG}{m:D->M Unit}{n:Nat}(h:ηW)(hg:mG ios n g m):qR EE ios (u4 t g) (uj m f):=by intro σ H R Γ D er w;unfold uj at w;rw[aB]at w;refine h σ H R Γ _ er (aY w (λrv ao w x H1 R1 p1 hx=>?_) λ_ _ z=>z.exp);rw[aB]at w;obtain⟨d,aC,R2,p2,_,r2,w⟩:=oV er p1 hx w;rw[aB]at w;exact hg σ H1 R2 aC x d _ p2.er r2 (aY (xR w) (λ_ su w qb H3 R3 p3 _ _=>w qb H3 R3 (p2.jB.trans p3)) λ_ _ z=>z)
def EV{tg:Expr}{g:TG}{m:D->M Unit}{n:Nat}(he:γX)(hr:mG ios n g m)(hp:∀t,PE X e t->PS X (.Assign [tg] e pos) (u4 t g)):VS X EE ios (.Assign [tg] e pos) (uj m f):=
 let ⟨_,h1,h2⟩:=he; ⟨_,hp _ h1,U5 h2 hr⟩
def xS(J:It)(R0:Hp)(items:γe):Prop:=∀(i:Nat) (H R:Hp),ag R0 R->ag R H ->
 (∀d,items[i]?=some d->J.go i H/\∀x H',J.u5 i H x H'->∃R',Al R H R' H'/\Rp R' x d)/\(items.length<=i->J.stop i H)
def Bk(EE:br)(ios:zzd)(wi:TI)(f:M γe):Prop:=∀σ H R Γ Rk,ER ios R H σ Γ ->
 df (f Γ) (λitems Γ'=>∀J H' R',bt ios R H σ Γ R' H' Γ'->xS J R' items->Rk J H') γ2->wi σ H Rk
def VI(X:Cx)(EE:br)(ios:zzd)(tg iter:Expr)(f:M γe):Prop:=∃wi,PI X tg iter wi/\Bk EE ios wi f
variable{tg:Expr}
noncomputable def jD(f:M RV):M γe:=M.bind f λrv=>M.bind εP λd=>match d with
 |.lst ds=>M.pure ds
 |.eZ ns=>M.pure εl
 |_=>M.st
def Lh{K:zze}{R0:Hp}{a:Addr}{xs:γv}{ds:γe}(h:∀H,ag R0 H->cJ K H a xs)(r:aK R0 xs ds):xS (DS K a) R0 ds:=by intro i H R s1 s2;have s:=s1.trans s2;refine⟨λd hd=>?_,λhl=>⟨xs,h H s,by rw[r.len];exact hl⟩⟩;obtain⟨x,hx,rx⟩:=r.ta hd;refine⟨⟨xs,x,h H s,hx⟩,λy H' hy=>?_⟩;obtain⟨rfl,hy⟩:=hy;have:=hy xs (h _ s);rw[hx]at this;cases this;exact⟨R,Al.refl s2,rx.sm s1⟩
def lb(h:γX)(hK:X.K=KC.K:=by rfl):VI X EE ios tg e (jD f):=by
 obtain⟨t,h1,h2⟩:=h;refine⟨_,Rz h1,λσ H R Γ Rk er w=>?_⟩;unfold jD at w;rw[aB]at w;refine h2 σ H R Γ _ er (aY w (λrv ao w x H1 R1 p1 hx=>?_) λ_ _ z=>z);rw[aB]at w;obtain⟨d,aC,R2,p2,_,r2,w⟩:=oV er p1 hx w;split at w
 .cases r2 with
  |lst e q=>exact⟨_,rfl,⟨_,cJ.of (p2.er.sub _ _ e)⟩,w _ H1 R2 p2 (Lh (λH s=>cJ.of ηq) q)⟩
 .cases r2 with
  |eZ e=>exact⟨_,rfl,⟨_,by rw[hK];exact p2.er.sub.seq e⟩,w _ H1 R2 p2 (Lh (λH s=>by rw[hK];exact s.seq e) (aK.ints _))⟩
 .exact False.elim w
noncomputable def ir(lo:Int)(n:Nat):List D:=(List.range n).map λ(i:Nat)=>D.int (lo+i)
def U6:xS (AB lo n) R0 (ir lo n):=by
 intro i H R s1 s2;refine⟨λd hd=>?_,λhl=>show n<=i by simpa [ir]using hl⟩;unfold ir at hd;rw[qaE]at hd;cases q:(List.range n)[i]? with
 |none=>rw[q]at hd;cases hd
 |some j =>
   rw[q]at hd;cases hd;obtain⟨h1,h2⟩:=qac.mp q;rw[List.getElem_range]at h2;subst h2;refine⟨show i<n by simpa using h1,λx H' hx=>?_⟩;obtain⟨rfl,rfl⟩:=hx;exact⟨R,Al.refl s2,.int _⟩
def small(j:Int):Bool:=cd (-(2 ^ 62)<=j/\j<2 ^ 62)
def sC(fs:γg):M γe:=M.bind fs λrvs=>match rvs with
 |[.val (.int j)]=>if small j then M.pure (ir 0 j.toNat) else M.st
 |_=>M.st
def xT(hp:∀t,PA X es t->PI X tg e0 (Jr t))(ha:δh):VI X EE ios tg e0 (sC fs):=by
 obtain⟨t,h1,h2⟩:=ha;refine⟨_,hp t h1,λσ H R Γ Rk er w=>?_⟩;unfold sC at w;rw[aB]at w;refine h2 σ H R Γ _ er (aY w (λrvs ao w xs H1 R1 p1 hx=>?_) λ_ _ z=>z);split at w
 .split at w
  .rename_i c;have c:=lL c;cases hx with
   |cons a b =>
     cases b;cases a;exact⟨_,rfl,c.1,c.2,w _ H1 R1 p1 U6⟩
  .exact False.elim w
 .exact False.elim w
noncomputable def o3(ds:γe):List D:=ds.zipIdx.map λp=>D.tup [.int p.2,p.1]
def U7(h:R0 l=some γh)(r:aK R0 xs ds):xS (EC l) R0 (o3 ds):=by
 intro i H R s1 s2;have hl:H l=some γh:=s2 _ _ (s1 _ _ h);refine⟨λd hd=>?_,λhl'=>⟨xs,hl,by rw[r.len];simpa [o3]using hl'⟩⟩;have hd:((ds.zipIdx)[i]?).map (λp=>D.tup [.int p.2,p.1])=some d:=by rw[<-qaE];exact hd
 rw[List.getElem?_zipIdx]at hd;cases q:ds[i]? with
 |none=>rw[q]at hd;cases hd
 |some d0 =>
   rw[q]at hd;cases hd;obtain⟨x,hx,rx⟩:=r.ta q;refine⟨⟨xs,x,hl,hx⟩,λv H' hv=>?_⟩;obtain⟨p,ys,y,rfl,hp,rfl,hy,Li⟩:=hv;rw[hl]at hy;cases hy;rw[hx]at Li;cases Li;obtain⟨al,rv⟩:=EL (xs:=[.int i,x]) (ds:=[.int i,d0]) s2 hp (.cons δI (.cons (rx.sm s1) .nil));refine⟨_,al,?_⟩;have rv:Rp _ _ _:=rv;simpa using rv
def qS(fs:γg):M γe:=M.bind fs λrvs=>M.bind δm λds=>match ds with
 |[.lst ds]=>M.pure (o3 ds)
 |_=>M.st
def vo(hp:∀t,PA X es t->PI X tg e0 (KP t))(ha:δh):VI X EE ios tg e0 (qS fs):=by
 obtain⟨t,h1,h2⟩:=ha;refine⟨_,hp t h1,λσ H R Γ Rk er w=>?_⟩;unfold qS at w;rw[aB]at w;refine h2 σ H R Γ _ er (aY w (λrvs ao w xs H1 R1 p1 hx=>?_) λ_ _ z=>z);rw[aB]at w;obtain⟨ds,aC,R2,p2,_,r2,w⟩:=oY er p1 hx w;split at w
 .cases r2 with
  |cons a b =>
    cases b;cases a with
    |lst e q=>exact⟨_,_,rfl,p2.er.sub _ _ e,w _ H1 R2 p2 (U7 e q)⟩
 .exact False.elim w
end
section
variable{X:Cx}{EE:br}{ios:zzd}{e a b c iter tg:Expr}{es:zza}{f g k:M RV}{fs:γg}{p:δC}{s s':M Fl}{st:Stmt}{sts jC:δK}{pos:Pos}
def uk{α:Type}{a:α}{K:α->En->Prop}(h:K a Γ):df (.ok a Γ) K E:=h
def um{α:Type}{a:α}{K:α->En->Prop}(h:df (.ok a Γ) K E):K a Γ:=h
noncomputable def xU(m:D->M Unit)(body:M Fl)(rest:M Fl)(d:D):M Fl:=M.bind (nZ (m d)) λ_=>M.bind body λfl=>match fl with
 |.nx=>rest
 |.cont=>rest
 |.brk=>M.pure .nx
 |.ret rv=>M.pure (.ret rv)
noncomputable def iS(m:D->M Unit)(body:M Fl):List D->M Fl
 |[]=>M.pure .nx
 |d::r=>xU m body (iS m body r) d
noncomputable def forM(items:M γe)(m:D->M Unit)(body:M Fl):M Fl:=M.bind items λds=>iS m body ds
def U8(hi:Bk EE ios wi items)(hg:mG ios n gt m)(hb:qR EE ios tb s):qR EE ios (DT wi gt tb) (forM items m s):=by
 intro σ H R Γ D er w;unfold forM at w;rw[aB]at w;refine hi σ H R Γ _ er (aY w (λds ao w J H1 R1 p1 hJ=>?_) λ_ _ z=>z.exp);refine⟨λi m' iI H2=>m'=ds.length-i/\i<=ds.length/\∃R2 aC,cB ios R H σ Γ R2 H2 iI aC/\ag R1 R2/\df (iS m s (ds.drop i) aC) εE δS,⟨ds.length,rfl,qaZ _,R1,ao,p1.jB,ag.refl _,w⟩,?_⟩;rintro i m' iI H2 ⟨rfl,hi',R2,aC,p2,s2,w⟩;obtain⟨go,stop⟩:=hJ i H2 R2 s2 p2.er.sub;by_cases hlt:i<ds.length
 .have hd:ds[i]?=some ds[i]:=qae hlt;obtain⟨g1,g2⟩:=go _ hd;rw[qa8 hlt]at w;have w:df (xU m s (iS m s (ds.drop (i+1))) ds[i] aC) εE δS:=w;unfold xU at w;rw[aB]at w;refine .inr ⟨g1,λqb H3=>∃R3 su,cB ios R H σ Γ R3 H3 qb su/\ag R1 R3/\df (iS m s (ds.drop (i+1)) su) εE δS,?_,λx H3 hx=>?_⟩
  .rintro qb H3 ⟨R3,su,q1,q2,q3⟩;exact⟨_,ω,rfl,hlt,R3,su,q1,q2,q3⟩
  .obtain⟨R3,al,rx⟩:=g2 x H3 hx;have Lj:ER ios R3 H3 iI aC:=p2.er.al al;have p3:cB ios R H σ Γ R3 H3 iI aC:=⟨Lj,p2.go.trans al.go⟩;refine hg iI H3 R3 aC x _ _ Lj rx (aY (xR w) (λ_ xy w j9 H4 R4 p4 _ s4=>?_) λ_ _ z=>z);rw[aB]at w;have EW:=p3.trans p4;refine hb j9 H4 R4 xy _ p4.er (aY w (λfl Lk w Ll H5 R5 p5=>?_) λ_ _ z=>ki.trans EW z);have p35:=EW.trans p5;have s5:ag R1 R5:=((s2.trans al.rr).trans s4).trans p5.go.rr;cases fl with
   |nx=>exact⟨R5,Lk,p35,s5,w⟩
   |cont=>exact⟨R5,Lk,p35,s5,w⟩
   |brk=>exact w Ll H5 R5 p35
   |ret rv=>exact λy hy=>w Ll H5 R5 p35 y (Bh EW.back hy)
 .have e:ds.drop i=[]:=qaG ω;rw[e]at w;exact .inl ⟨stop ω,w iI H2 R2 p2⟩
def U9(hi:δY)(hr:mG ios n gt m)(hb:ηI)
 (hps:∀wi tb,PI X tg iter wi->PSs X sts tb->PS X (.For tg iter sts [] pos) (DT wi gt tb)):VS X EE ios (.For tg iter sts [] pos) (forM items m s):=
 let ⟨_,h1,h2⟩:=hi;let ⟨_,h3,h4⟩:=hb; ⟨_,hps _ _ h1 h3,U8 h2 hr h4⟩
noncomputable def dU(fr:zzc)(own:Nat)(Γ:En):En:=List.replicate own none++fr.map λj=>(Γ[j]?).join
noncomputable def a7:zzc->Nat->En->En->En
 |[],_,Γ,_=>Γ
 |j::r,k,Γ,dI=>a7 r (k+1) (Γ.set j (dI[k]?).join) dI
def Lm{α:Type}{fr:zzc}{L:List θE}(h:i<own):(List.replicate own (none:θE)++fr.map λj=>(L[j]?).join)[i]?=some none:=by rw[qaL (by rw[qbF];exact h),qbL,qaz h]
def Bl{α:Type}{fr:zzc}{L:List θE}(h:own<=i):(List.replicate own (none:θE)++fr.map λj=>(L[j]?).join)[i]?=(fr[i-own]?).map λj=>(L[j]?).join:=by rw[qaI (by rw[qbF];exact h),qbF,qaE]
def Bm{α:Type}{o:Option θE}{a:α}(h:o.join=some a):o=some (some a):=by
 cases o with
 |none=>cases h
 |some o=>cases o with
   |none=>cases h
   |some b=>cases h;rfl
def vp{fr:zzc}{own i:Nat}{Γ:En}{s:Kd×D}(h:(dU fr own Γ)[i]?=some ε5):own<=i/\∃j,fr[i-own]?=some j/\Γ[j]?=some ε5:=by
 unfold dU at h;by_cases hi:i<own
 .rw[Lm hi]at h;cases h
 .rw[Bl ω]at h;cases q:fr[i-own]? with
  |none=>rw[q]at h;cases h
  |some j =>
    rw[q]at h;exact⟨ω,j,rfl,Bm (qaH h)⟩
def U_(hi:own<=i)(hj:fr[i-own]?=some j)(hv:σ[j]?=some δR):(aw fr own σ)[i]?=some δR:=by unfold aw;rw[Bl hi,hj];show some ((σ[j]?).join)=_;rw[hv];rfl
def xW(hi:own<=i)(hj:fr[i-own]?=some j)(h:(aw fr own σ)[i]?=some δR):σ[j]?=some δR:=by unfold aw at h;rw[Bl hi,hj]at h;exact Bm (qaH h)
def Va{fr:zzc}(hn:fr.Nodup){i j x:Nat}(h1:fr[i]?=some x)(h2:fr[j]?=some x):i=j:=by obtain⟨l1,e1⟩:=qac.mp h1;obtain⟨l2,e2⟩:=qac.mp h2;exact(List.getElem_inj hn).mp (e1.trans e2.symm)
theorem ER.blk{R H:Hp}{σ:St}{Γ:En}{fr:zzc}{own:Nat}(er:γk)(hn:fr.Nodup):ER ios R H γE δW where
 sub:=er.sub
 len:=by unfold aw dU;simp
 sl:=λi s h=>by obtain⟨hi,j,hj,hs⟩:=vp h;obtain⟨v,hv,q⟩:=er.sl j s hs;exact⟨v,U_ hi hj hv,q⟩
 dj:=λi j k l d e b q1 q2 q3 q4 q5 q6=>by obtain⟨hi,i',hi',s1⟩:=vp q1;obtain⟨hj,j',hj',s2⟩:=vp q3;have:=er.dj i' j' k l d e b s1 q2 s2 q4 (xW hi hi' q5) (xW hj hj' q6);subst this;have:=Va hn hi' hj';omega
def Ow.blk{σ:St}{Γ:En}{fr:zzc}{own:Nat}{b:Addr}(h:Ow γE δW b):Ow σ Γ b:=by obtain⟨i,k,d,h1,h2,h3⟩:=h;obtain⟨hi,j,hj,hs⟩:=vp h1;exact⟨j,k,d,hs,h2,xW hi hj h3⟩
theorem EX:∀{fr:zzc}{k:Nat}{Γ dI:En},(a7 fr k Γ dI).length=Γ.length
 |[],_,_,_=>rfl
 |j::r,k,Γ,dI=>by unfold a7;rw[EX,List.length_set]
theorem EY:∀{fr:zzc}{k j:Nat}{Γ dI:En},j∉fr->(a7 fr k Γ dI)[j]?=Γ[j]?
 |[],_,_,_,_,_=>rfl
 |i::r,k,j,Γ,dI,h=>by unfold a7;rw[EY (λz=>h (qaf _ z)),qak (λz=>h (by rw[z];exact qaj ..))]
theorem Ln:∀{fr:zzc}{k i j:Nat}{Γ dI:En},fr.Nodup->fr[i]?=some j->j<Γ.length->(a7 fr k Γ dI)[j]?=some (dI[k+i]?).join
 |[],_,_,_,_,_,_,h,_=>by simp at h
 |x::r,k,0,j,Γ,dI,hn,h,hl=>by simp at h;subst h;unfold a7;rw[EY (qbk.mp hn).1,qaq hl];rfl
 |x::r,k,i+1,j,Γ,dI,hn,h,hl=>by unfold a7;rw[Ln (qbk.mp hn).2 (by simpa using h) (by rw[List.length_set];exact hl)];rw[show k+1+i=k+(i+1) by omega]
def bt.a7{R H R1 H1:Hp}{σ vq:St}{Γ dI:En}{fr:zzc}{own:Nat}(er:γk)(hn:fr.Nodup)(p:cB ios R H γE δW R1 H1 vq dI)(keep:∀k,own<=k->vq[k]?=(aw fr own σ)[k]?)
 (sh:∀b,Ow vq dI b->Ow γE δW b):bt ios R H σ Γ R1 H1 (Dv.a7 fr own Γ dI):=by
 have slot:∀(j:Nat) (s:Kd×D),(Dv.a7 fr own Γ dI)[j]?=some ε5->(j∉fr/\Γ[j]?=some ε5)\/∃i,fr[i]?=some j/\dI[own+i]?=some ε5/\vq[own+i]?=some ((σ[j]?).join):=by
  intro j s h;by_cases hj:j∈fr
  .obtain⟨i,hi,e⟩:=List.getElem_of_mem hj;have hi':fr[i]?=some j:=by rw[qae hi,e]
   have hl:j<Γ.length:=by have:=(qac.mp h).1;rwa[EX]at this
   rw[Ln hn hi' hl]at h;refine .inr ⟨i,hi',Bm (qaH h),?_⟩;rw[keep _ ω];unfold aw;rw[Bl ω,show own+i-own=i by omega,hi'];rfl
  .rw[EY hj]at h;exact .inl ⟨hj,h⟩
 have inside:∀(i j:Nat) (k:Kd) (d:D) (b:Addr),fr[i]?=some j->dI[own+i]?=some (some (k,d))->owned k=true->vq[own+i]?=some ((σ[j]?).join)->σ[j]?=some δF->∃j0 k0 d0,j0∈fr/\Γ[j0]?=some (some (k0,d0))/\owned k0=true/\σ[j0]?=some δF:=by
  intro i j k d b hi q h2 e h3;have e:vq[own+i]?=some δF:=by rw[e,h3];rfl
  obtain⟨i0,k0,d0,g1,g2,g3⟩:=sh b ⟨own+i,k,d,q,h2,e⟩;obtain⟨hi0,j0,hj0,hs0⟩:=vp g1;exact⟨j0,k0,d0,qaB hj0,hs0,g2,xW hi0 hj0 g3⟩
 have sh':∀b,Ow σ (Dv.a7 fr own Γ dI) b->Ow σ Γ b:=by
  rintro b ⟨j,k,d,h1,h2,h3⟩;rcases slot j _ h1 with ⟨_,q⟩|⟨i,hi,q,e⟩
  .exact⟨j,k,d,q,h2,h3⟩
  .obtain⟨j0,k0,d0,_,g1,g2,g3⟩:=inside i j k d b hi q h2 e h3;exact⟨j0,k0,d0,g1,g2,g3⟩
 have out:∀(j:Nat) (k:Kd) (d:D) (b:Addr),j∉fr->Γ[j]?=some (some (k,d))->owned k=true->σ[j]?=some δF -> ¬Ow γE δW b:=by rintro j k d b hj h1 h2 h3 ⟨i0,k0,d0,g1,g2,g3⟩;obtain⟨hi0,j0,hj0,hs0⟩:=vp g1;have:=er.dj j j0 k k0 d d0 b h1 h2 hs0 g2 h3 (xW hi0 hj0 g3);subst this;exact hj (qaB hj0)
 refine⟨⟨p.er.sub,by rw[EX];exact er.len,λj t hj=>?_,λj j' l l' d d' b q1 q2 q3 q4 q5 q6=>?_⟩,⟨p.go.rr,λb o h n=>p.go.hh b o h λz=>n z.blk,λb o h n r=>p.go.no b o h (λz=>n z.blk) r,λb z=>.inl (sh' b z),p.go.th⟩,sh'⟩
 .rcases slot j t hj with ⟨hf,q⟩|⟨i,hi,q,e⟩
  .obtain⟨v,hv,q'⟩:=er.sl j t q;refine⟨v,hv,q'.mono p.go.rr λho b ys eb hb rb=>?_⟩;subst eb;have:=out j t.1 t.2 b hf q ho hv;exact⟨p.go.hh b _ hb this,p.go.no b _ hb this rb⟩
  .obtain⟨v,hv,q'⟩:=p.er.sl _ t q;rw[e]at hv;exact⟨v,Bm (qaH hv),q'⟩
 .rcases slot j _ q1 with ⟨hf,g1⟩|⟨i,hi,g1,e1⟩
  .rcases slot j' _ q3 with ⟨hf',g3⟩|⟨i',hi',g3,e3⟩
   .exact er.dj j j' l l' d d' b g1 q2 g3 q4 q5 q6
   .obtain⟨j0,k0,d0,m0,z1,z2,z3⟩:=inside i' j' l' d' b hi' g3 q4 e3 q6;have:=er.dj j j0 l k0 d d0 b g1 q2 z1 z2 q5 z3;subst this;exact absurd m0 hf
  .rcases slot j' _ q3 with ⟨hf',g3⟩|⟨i',hi',g3,e3⟩
   .obtain⟨j0,k0,d0,m0,z1,z2,z3⟩:=inside i j l d b hi g1 q2 e1 q5;have:=er.dj j' j0 l' k0 d' d0 b g3 q4 z1 z2 q6 z3;subst this;exact absurd m0 hf'
   .have:=p.er.dj (own+i) (own+i') l l' d d' b g1 q2 g3 q4 (by rw[e1,q5];rfl) (by rw[e3,q6];rfl);have:i=i':=by omega
    subst this;rw[hi]at hi';exact qaH hi'
def qT(n:Nat)(m:D->M Unit):Prop:=∀d Γ Γ',m d Γ=.ok () Γ'->(∀k,n<=k->Γ'[k]?=Γ[k]?)/\∀i s,i<n->Γ'[i]?=some ε5->Γ[i]?=some ε5\/s.1=.ae
def Bn(n:Nat)(m:List D->M Unit):Prop:=∀d Γ Γ',m d Γ=.ok () Γ'->(∀k,n<=k->Γ'[k]?=Γ[k]?)/\∀i s,i<n->Γ'[i]?=some ε5->Γ[i]?=some ε5\/s.1=.ae
def vt(h:i<n):qT n (gN i):=λd Γ Γ' e=>by
 cases e;refine⟨λk hk=>qak ω,λj s hj q=>?_⟩;by_cases hji:j=i
 .subst hji;have l1:j<Γ.length:=by have:=(qac.mp q).1;rwa[qbc]at this
  rw[qaq l1]at q;cases q;exact .inr rfl
 .rw[qak θo]at q;exact .inl q
def Vb:Bn n fk:=λd Γ Γ' e=>by
 cases d with
 |nil=>cases e;exact⟨λ_ _=>rfl,λ_ _ _ q=>.inl q⟩
 |cons _ _=>cases e
def Lo(h:qT n m)(h':Bn n ms):Bn n (bD m ms):=λd Γ Γ' e=>by
 cases d with
 |nil=>cases e
 |cons d r =>
   have e:M.bind (m d) (λ_=>ms r) Γ=.ok () Γ':=e;unfold M.bind at e;cases q:m d Γ with
   |ok a ao =>
     rw[q]at e;obtain⟨a1,a2⟩:=h d Γ ao q;obtain⟨b1,b2⟩:=h' r ao Γ' e;exact⟨λk hk=>(b1 k hk).trans (a1 k hk),λi s hi z=>(b2 i s hi z).elim (λz=>a2 i s hi z) .inr⟩
   |ex x ao=>rw[q]at e;cases e
   |st=>rw[q]at e;cases e
def Vc{n k:Nat}{ms:List D->M Unit}(h:Bn n ms):qT n (gT k ms):=λd Γ Γ' e=>by
 unfold gT at e;split at e
 .split at e
  .exact h _ _ _ e
  .cases e
 .cases e
noncomputable def sD(m:D->M Unit)(p:δC)(f:M RV)(d:D):M (Option D):=M.bind (nZ (m d)) λ_=>M.bind p λb=>if b then M.bind f λrv=>M.bind εP λy=>M.pure (some y) else M.pure none
noncomputable def fm(fr:zzc)(own:Nat)(m:D->M Unit)(p:δC)(f:M RV):List D->M γe
 |[]=>M.pure []
 |d::r=>λΓ=>match sD m p f d δW with
   |.ok y dI=>match fm fr own m p f r (a7 fr own Γ dI) with
     |.ok ys Γ'=>.ok (y.toList++ys) Γ'
     |_=>.st
   |_=>.st
noncomputable def jE(items:M γe)(fr:zzc)(own:Nat)(m:D->M Unit)(p:δC)(f:M RV):M RV:=M.bind items λds=>if ds.length<sizeLine then M.bind ζT λys=>M.pure (.new εi) else M.st
abbrev EN:br:=λ_ _ _ _=>False
theorem Vd{fr:zzc}{own:Nat}{m:D->M Unit}{p:δC}{f:M RV}:∀(ds:γe) (Γ:En) (x:Xc) (Γ':En) (_ _ _:Unit),fm fr own m p f ds Γ≠.ex x Γ'
 |[],_,_,_,_,_,_=>λh=>by cases h
 |d::r,Γ,x,Γ',_,_,_=>λh=>by
   unfold fm at h;split at h
   .split at h<;>cases h
   .cases h
def Lp{β:Type}{O:Addr->β->HO}{e0:β}{L:β->Prop}{AD:β->V->Hp->(β->Prop)->Prop}{bd:Nat}{rS:V->Hp->VK->Prop}{out:List D->Option RV}(inv:β->List D->Hp->Prop)(hmono:∀b ys R R',inv b ys R->ag R R'->inv b ys R')(h0:∀R,inv e0 [] R)(hl:∀b ys R,inv b ys R->ys.length<bd->L b)
 (hstep:∀b ys dy zr rv y R H P,inv b ys R->ys.length<bd->out (ys++dy::zr)=some rv->Rp R y dy->ag R H->(∀b',inv b' (ys++[dy]) R->P b')->AD b y H P)
 (hfin:∀b ys R H A H0 (Q:VK) rv,inv b ys R->ag R H->R A=none->H A=some (O A b)->ys.length<bd->out ys=some rv->H0 A=none->(∀c,H c=none->H0 c=none)->(∀z H' R',Al R H R' H'->ja R' H0 H' z rv->Q z H')->rS (.ref A) H Q)
 {wi:TI}{gt:TG}{tc:TT}{te:TE}{items:M γe}{m:D->M Unit}{fr:zzc}{own:Nat} (hn:fr.Nodup) (hi:Bk EE ios wi items) (hg:ζ7) (hk:qT own m) (hc:m_ EN ios tc p) (he:jy EN ios te f) :
 jy EE ios (λσ H Q=>AV O e0 fr own wi gt tc L (λσ H D ys K=>te σ H λy H6=>H6 D=some (O D ys)/\AD ys y H6 λys'=>K ys' (upd H6 D (O D ys'))) σ H (λx H1=>rS x H1 Q)) (M.bind items λds=>if ds.length<bd then M.bind ζT λys=>M.d9 (out ys) else M.st):=by
 intro σ H R Γ Q er w;rw[aB]at w;refine hi σ H R Γ _ er (aY w (λds ao w J H1 R1 p1 hJ=>?_) λ_ _ z=>z);split at w
 .rename_i hsz;rw[aB]at w;cases hall:fm fr own m p f ds ao with
  |ex _ _=>exact absurd hall (Vd _ _ _ _ () () ())
  |st=>rw[hall]at w;exact False.elim w
  |ok Lq EZ =>
  rw[hall]at w;obtain⟨rv,hout,E1⟩:=ke (um w);clear w;intro A hA;have Ve:R1 A=none:=p1.er.sub.free hA;have Vf:Al R1 H1 R1 (upd H1 A (O A e0)):=⟨p1.er.sub.trans (lG hA),ag.refl _,lG hA,λ_ _ _ z=>z⟩
  refine⟨λi n zs H2=>n=ds.length-i/\i<=ds.length/\∃R2 aC qU zr,bt ios R H σ Γ R2 H2 aC/\ag R1 R2/\R2 A=none/\fm fr own m p f (ds.drop i) aC=.ok zr EZ/\qU++zr=Lq/\inv zs qU R2/\qU.length<=i,
   ⟨ds.length,rfl,qaZ _,R1,ao,[],Lq,p1.al Vf,ag.refl _,Ve,hall,rfl,h0 _,qah _⟩,?_⟩
  rintro i n zs H2 E2 ⟨rfl,hi',R2,aC,qU,zr,p2,s2,xZ,hL,hys,hinv,hyl⟩;obtain⟨go,stop⟩:=hJ i H2 R2 s2 p2.er.sub
  have Lr:¬Ow σ Γ A:=λz=>by obtain⟨_,xs,q⟩:=er.ow z;rw[p1.back er A hA]at q;cases q
  by_cases hlt:i<ds.length
  .have hd:ds[i]?=some ds[i]:=qae hlt;obtain⟨g1,g2⟩:=go _ hd;rw[qa8 hlt]at hL;refine .inr ⟨g1,hl _ _ _ hinv ω,λx H3 hx=>?_⟩;obtain⟨R3,al,rx⟩:=g2 x H3 hx;unfold fm at hL;have p3:bt ios R H σ Γ R3 H3 aC:=p2.al al;have Bo:H3 A=some (O A zs):=al.hh _ _ E2;have x_:R3 A=none:=al.no _ _ E2 xZ;have Vg:ER ios R3 H3 γE δq:=p3.er.blk hn;have qV:¬Ow γE δq A:=λz=>Lr (p3.sh A z.blk)
   have run:df (sD m p f ds[i] δq) (λy dI=>∃o4,fm fr own m p f (ds.drop (i+1)) (Dv.a7 fr own aC dI)=.ok o4 EZ/\y.toList++o4=zr) Bi:=by
    cases q:sD m p f ds[i] δq with
    |ok y dI =>
      rw[q]at hL;dsimp only at hL;cases q':fm fr own m p f (ds.drop (i+1)) (Dv.a7 fr own aC dI) with
      |ok o4 Γ' =>
        rw[q']at hL;cases hL;exact⟨o4,q',rfl⟩
      |ex _ _=>rw[q']at hL;cases hL
      |st=>rw[q']at hL;cases hL
    |ex _ _=>rw[q]at hL;cases hL
    |st=>rw[q]at hL;cases hL
   unfold sD at run;rw[aB]at run;cases hm:m ds[i] δq with
   |ex _ _=>have:=xR run;rw[hm]at this;exact this.elim
   |st=>have:=xR run;rw[hm]at this;exact this.elim
   |ok u xy =>
     obtain⟨k1,k2⟩:=hk _ _ _ hm;have wm:=xR run;rw[hm]at wm;refine hg γE H3 R3 δq x _ _ Vg rx ?_;rw[hm];refine uk λj9 H4 R4 p4 keep s4=>?_;have w1:=um wm;rw[aB]at w1
     have ya:∀b,Ow j9 xy b->Ow γE δq b:=by
      rintro b ⟨j,k,d,h1,h2,h3⟩;by_cases hj:own<=j
      .rw[k1 j hj]at h1;rw[keep j hj]at h3;exact⟨j,k,d,h1,h2,h3⟩
      .rcases k2 j (k,d) ω h1 with z|z
       .unfold dU at z;rw[Lm ω]at z;cases z
       .cases z;cases h2
     refine hc j9 H4 R4 xy _ p4.er (aY w1 (λb Bq w1 H6 R6 p6=>?_) λ_ _ z=>z.elim);have p46:cB ios R3 H3 γE δq R6 H6 j9 Bq:=p4.trans p6.jB;have Ls:∀b,Ow j9 Bq b->Ow γE δq b:=λb z=>ya b (p6.sh b z);have Vh:H6 A=some (O A zs):=p46.go.hh _ _ Bo qV;have E3:R6 A=none:=p46.go.no _ _ Bo qV x_;cases b with
     |false =>
       simp only[Bool.false_eq_true,if_false]at w1 ⊢;have pu:bt ios R3 H3 σ aC R6 H6 (Dv.a7 fr own aC Bq):=bt.a7 p3.er hn p46 keep Ls;obtain⟨o4,e1,e2⟩:=um w1;refine⟨Vh,_,Nat.sub_lt_sub_left hlt (qbU i),rfl,hlt,R6,_,qU,o4,p3.trans pu,(s2.trans al.rr).trans p46.go.rr,E3,e1,by rw[<-hys,<-e2];rfl,hmono _ _ _ _ hinv (al.rr.trans p46.go.rr),ω⟩
     |true =>
       simp only[if_true]at w1 ⊢;rw[aB]at w1;refine he j9 H6 R6 Bq _ p6.er (aY w1 (λrv7 Γ7 w1 y H7 R7 p7 hy=>?_) λ_ _ z=>z.elim);rw[aB]at w1;obtain⟨dy,yb,R8,p8,s8,ry,w1⟩:=oV p6.er p7 hy w1;have yc:cB ios R3 H3 γE δq R8 H7 j9 yb:=p46.trans p8.jB;have Vi:∀b,Ow j9 yb b->Ow γE δq b:=λb z=>Ls b (p8.sh b z);have pu:bt ios R3 H3 σ aC R8 H7 θH:=bt.a7 p3.er hn yc keep Vi;have Vj:H7 A=some (O A zs):=yc.go.hh _ _ Bo qV;have yd:R8 A=none:=yc.go.no _ _ Bo qV x_;have n4:=p3.trans pu;have Vk:¬Ow σ θH A:=λz=>Lr (n4.sh A z);obtain⟨o4,e1,e2⟩:=um w1;have e2:dy::o4=zr:=e2;have hsplit:out (qU++dy::o4)=some rv:=by rw[e2,hys];exact hout
       have rr:=al.rr.trans yc.go.rr;refine⟨Vj,hstep zs qU dy o4 rv y R8 H7 _ (hmono _ _ _ _ hinv rr) ω hsplit ry n4.er.sub λzs' hinv'=>?_⟩
       have pA:bt ios R H σ Γ R8 (upd H7 A (O A zs')) θH:=by
        have up:∀b,b≠A->upd H7 A (O A zs') b=H7 b:=λb hb=>bA hb;refine⟨⟨λb o q=>?_,n4.er.len,λj t hj=>?_,n4.er.dj⟩,⟨n4.go.rr,λb o q n=>?_,n4.go.no,n4.go.oo,λb o q=>?_⟩,n4.sh⟩
        .rw[up b (λz=>by rw[z,yd]at q;cases q)];exact n4.er.sub b o q
        .obtain⟨v,hv,q⟩:=n4.er.sl j t hj;refine⟨v,hv,q.mono ζu λho b zs eb hb rb=>⟨?_,rb⟩⟩;rw[up b]
         .exact hb
         .rintro rfl;subst eb;exact Vk ⟨j,t.1,t.2,hj,ho,hv⟩
        .rw[up b (λz=>by rw[z,p1.back er A hA]at q;cases q)];exact n4.go.hh b o q n
        .by_cases hb:b=A
         .subst hb;exact⟨_,fS⟩
         .rw[up b hb];exact n4.go.th b o q
       refine⟨_,Nat.sub_lt_sub_left hlt (qbU i),rfl,hlt,R8,_,qU++[dy],o4,pA,(s2.trans al.rr).trans yc.go.rr,yd,e1,by rw[<-hys,<-e2];simp,hinv',by rw[List.length_append];simp;omega⟩
  .have e:ds.drop i=[]:=qaG ω;rw[e]at hL;have hL:Res.ok [] aC=Res.ok zr EZ:=hL;cases hL;rw[qbE]at hys;subst hys;refine .inl ⟨stop ω,hfin zs qU R2 H2 A H Q rv hinv p2.er.sub xZ E2 ω hout (p1.back er A hA) ηf λz H' R' al ra=>?_⟩;exact E1 z H' R' ζo (ra.rv λ_ h=>h)
 .exact False.elim w
def ja.back{R H0 H H':Hp}{z:V}{rv:RV}(h:ja R H H' z rv)(s:∀b,H b=none->H0 b=none):ja R H0 H' z rv:=by
 cases rv with
 |val d=>exact h
 |new d=>exact⟨h.1,let ⟨a,e,q⟩:=h.2; ⟨a,e,s a q⟩⟩
 |var i=>exact h
def Vl{β:Type}{O:Addr->β->HO}{bd:Nat}{rS:V->Hp->VK->Prop}{out:List D->Option RV}{inv:β->List D->Hp->Prop}(h:∀b ys R H A (Q:VK) rv,inv b ys R->ag R H->H A=some (O A b)->ys.length<bd->out ys=some rv->(∀z H' R',Al R H R' H'->ja R' H H' z rv->Q z H')->rS (.ref A) H Q) :
 ∀b ys R H A H0 (Q:VK) rv,inv b ys R->ag R H->R A=none->H A=some (O A b)->ys.length<bd->out ys=some rv->H0 A=none->(∀c,H c=none->H0 c=none)->(∀z H' R',Al R H R' H'->ja R' H0 H' z rv->Q z H')->rS (.ref A) H Q:=
 λb ys R H A H0 Q rv i s _ e l o _ bk w=>h b ys R H A Q rv i s e l o λz H' R' al ra=>w z H' R' al (ra.back bk)
def ye{fr:zzc}(hn:fr.Nodup)(hi:Bk EE ios wi items)(hg:ζ7)(hk:qT own m)(hc:m_ EN ios tc p)(he:jy EN ios te f):jy EE ios (Ep fr own wi gt tc te) ηG:=
 Lp (O:=oL) (L:=AU) (AD:=λys y _ P=>P (ys++[y])) (rS:=λx H Q=>Q x H) (out:=λys=>some (.new εi)) (λys ds R=>aK R ys ds) (λ_ _ _ _ h s=>h.sm s) (λ_=>.nil) (λ_ _ _ h l=>by have:=h.len;show _<_;omega)
  (λ_ _ _ _ _ _ _ _ _ h _ _ ry _ w=>w _ (h.app (.cons ry .nil))) (λb ys R H A H0 Q rv h _ hR hA _ e h0 _ w=>by cases e;exact w _ H R (Al.refl (by assumption)) ⟨⟨A,b,ys,rfl,hR,hA,rfl,h⟩,A,rfl,h0⟩) hn hi hg hk hc he
end
section
variable{X:Cx}{EE:br}{ios:zzd}{e a b c iter tg elt:Expr}{es ifs:zza}{f g k:M RV}{fs:γg}{p:δC}{s s':M Fl}{st:Stmt}{sts jC:δK}{pos:Pos}
def Vm(EE:br)(ios:zzd)(f:M RV):TE:=λσ H Q=>∃R Γ,ER ios R H σ Γ/\df (f Γ) (λrv Γ'=>∀x H' R',bt ios R H σ Γ R' H' Γ'->ip R' H H' σ x rv->Q x H') γ2
def Lu(EE:br)(ios:zzd)(f:δC):TT:=λσ H Q=>∃R Γ,ER ios R H σ Γ/\df (f Γ) (λb Γ'=>∀H' R',bt ios R H σ Γ R' H' Γ'->Q b H') γ2
def VE.pe(h:γX):PE X e (Vm EE ios f):=let ⟨_,h1,h2⟩:=h;λpins s σ H Q I ⟨R,Γ,er,w⟩=>h1 pins s σ H Q I (h2 σ H R Γ Q er w)
def VT.pt(h:VT X EE ios e p):PT X e (Lu EE ios p):=let ⟨_,h1,h2⟩:=h;λpins s σ H Q I ⟨R,Γ,er,w⟩=>h1 pins s σ H Q I (h2 σ H R Γ Q er w)
def vw(X:Cx)(EE:br)(ios:zzd)(ifs:zza)(p:δC):Prop:=tW X ifs (Lu EE ios p)
def nh:vw X EE ios [] γn:=λpins s σ H Q I ⟨R,Γ,er,w⟩=>TU pins s σ H Q I (w H R εZ)
def Lv(h:θC):vw X EE ios [c] p:=TV h.pt
noncomputable abbrev ni(X:Cx)(Nc:v6)(scope:Scope)(cl:List (Str×Addr))(C:Addr)(s3:Shared)(H3:Hp)(fp:zzd)(pn':W1):Cx:=X.blk Nc scope cl C s3 H3 fp pn' λ_ _=>False
def Br(hc:X.calm=true)(B:δl)(hn:fr.Nodup)(hi:δY)(hog:qg own gt)
 (hg:∀cl C s3 H3 fp pn',PG γm tg gt) (hr:ζ7) (hk:qT own m) (ht:∀cl C s3 H3 fp pn',vw γm EN ios ifs p) (he:∀cl C s3 H3 fp pn',VE γm EN ios elt f)
 (hs:∀x,foldedSetIterable iter X.env x=pure x:=by intro _;rfl):VE X EE ios (.ListComp elt [⟨tg,iter,ifs,0⟩] scope pos) ηG:=
 let ⟨_,h1,h2⟩:=hi
 ⟨_,Ue hc B h1 hog hg ht (λcl C s3 H3 fp pn'=>(he cl C s3 H3 fp pn').pe) hs,ye hn h2 hr hk (λσ H R Γ Q er w=>⟨R,Γ,er,w⟩) (λσ H R Γ Q er w=>⟨R,Γ,er,w⟩)⟩
def E4{py spos:Pos}(hN:X.N.Nodup)(hi':X.N[i]?=some y)(hx:Loc X.env.scope y)(hc:X.calm=true)(B:δl)(hn:fr.Nodup)(hi:δY)(hog:qg own gt)
 (hg:∀cl C s3 H3 fp pn',PG γm tg gt) (hr:ζ7) (hk:qT own m) (ht:∀cl C s3 H3 fp pn',vw γm EN ios ifs p) (he:∀cl C s3 H3 fp pn',VE γm EN ios elt f)
 (hs:∀x,foldedSetIterable iter X.env x=pure x:=by intro _;rfl) (hsw:swapsWith (.ListComp elt [⟨tg,iter,ifs,0⟩] scope pos) (some (.Name y py)) spos.line X.env=pure true:=by rfl)
 (hf:X.fn y=true\/X.env.scope.names.lookup y=some .local:=by first|exact .inl rfl|exact .inr rfl|assumption):VS X EE ios (.Assign [.Name y py] (.ListComp elt [⟨tg,iter,ifs,0⟩] scope pos) spos) (bu i ηG):=
 let ⟨_,h1,h2⟩:=hi
 ⟨_,Ug hN hi' hx hc B h1 hog hg ht (λcl C s3 H3 fp pn'=>(he cl C s3 H3 fp pn').pe) hs hsw hf,Lf (ye hn h2 hr hk (λσ H R Γ Q er w=>⟨R,Γ,er,w⟩) (λσ H R Γ Q er w=>⟨R,Γ,er,w⟩))⟩
inductive Rt where
 |val (d:D)|new (d:D)
def Rt.rv:Rt->RV
 |.val d=>.val d
 |.new d=>.new d
def Vn(R H:Hp)(r:Option Rt)(Q:VK):Prop:=match r with
 |some r=>∀x H' R',Al R H R' H'->ja R' H H' x r.rv->Q x H'
 |none=>False
def bC(G:List D->Option Rt):Sp:=λvs H Q _=>∃R ds,ag R H/\aK R vs ds/\Vn R H (G ds) Q
noncomputable def gam(N:v6)(ds:γe):En:=ds.map (λd=>some (.ae,d))++List.replicate (N.length-ds.length) none
noncomputable def lM:Res Fl->Option Rt
 |.ok .nx _=>some γ5
 |.ok (.ret (.val d)) _=>some εz
 |.ok (.ret (.new d)) _=>some ιq
 |.ok (.ret (.var i)) Γ=>match Γ[i]? with
   |some (some (.own,d))=>some ιq
   |some (some (.ae,d))=>some εz
   |_=>none
 |_=>none
def Bt{N:v6}{ds:γe}{i:Nat}{t:Kd×D}(h:(gam N ds)[i]?=some (some t)):∃d,ds[i]?=some d/\t=(.ae,d):=by
 unfold gam at h;by_cases hi:i<ds.length
 .rw[qaL (by rw[qag];exact hi),qaE,qae hi]at h;cases h;exact⟨_,qae hi,rfl⟩
 .rw[qaI (by rw[qag];omega),qbL]at h;split at h<;>cases h
def Lw{N:v6}{vs:γv}{i:Nat}{v:V}(h:vs[i]?=some v):(L2.start N vs)[i]?=some δR:=by unfold L2.start;have hi:=(qac.mp h).1;rw[qaL (by rw[qag];exact hi),qaE,h];rfl
theorem E5{N:v6}{R H:Hp}{vs:γv}{ds:γe}(s:θA)(h:aK R vs ds):ER [] R H (L2.start N vs) δA where
 sub:=s
 len:=by unfold L2.start gam;simp[h.len]
 sl:=λi t q=>by obtain⟨d,hd,rfl⟩:=Bt q;obtain⟨x,hx,rx⟩:=h.ta hd;exact⟨x,Lw hx,rx⟩
 dj:=λi j k l d e b q1 q2 _ _ _ _=>by obtain⟨_,_,z⟩:=Bt q1;cases z;cases q2
def Bu{N:v6}{σ:St}{ds:γe}{b:Addr}:¬Ow σ δA b:=by rintro⟨i,k,d,q1,q2,_⟩;obtain⟨_,_,z⟩:=Bt q1;cases z;cases q2
def cB.al(p:cB ios R H σ δA R' H' aE Γ'):Al R H R' H':=⟨p.er.sub,p.go.rr,λb o h=>p.go.hh b o h Bu,λb o h r=>p.go.no b o h Bu r⟩
def E6{P:Program}{w:World}{K:zze}{mg:M2}{base:Heap}{x qual:Str}{fa:Addr}{fd:FuncData}{N ps:v6}{k:Nat}{G:List D->Option Rt}{bm:M Fl}(F:nP K x qual st fa fd)(S:ηY)
 (hb:∀(cdv:Value) (A:Around) (outer:δu) (s:Shared) (H:Hp) (E:XK),aH k γx->cC (k9 jt P w K mg base N qual δy fa cdv A outer s H E).qD EN [] ηo bm)
 (h:∀ds r,G ds=some r->ds.length=ps.length/\lM ηJ=some r):bB P w K mg base jt (k+1) fa fd ps δ2:=by
 refine F.ok S (λvs H Q E q=>?_) (λcdv A outer s H vs Q E hr q=>?_)
 .obtain⟨R,ds,_,h2,h3⟩:=q;cases e:G ds with
  |none=>rw[e]at h3;exact h3.elim
  |some r=>rw[h2.len];exact(h ds r e).1
 .obtain⟨R,ds,h1,h2,h3⟩:=q;cases e:G ds with
  |none=>rw[e]at h3;exact h3.elim
  |some r =>
    rw[e]at h3;obtain⟨t,b1,b2⟩:=hb cdv A outer s H E hr;refine⟨t,b1,b2 _ H R _ _ (E5 h1 h2) ?_⟩;have fin:=(h ds r e).2;cases q:bm δA with
    |st=>rw[q]at fin;cases fin
    |ex _ _=>rw[q]at fin;cases fin
    |ok fl Γ' =>
      rw[q]at fin;refine uk λaE H' R' p=>?_;cases fl with
      |brk=>cases fin
      |cont=>cases fin
      |nx=>cases fin;exact h3 .aq H' R' p.al .aq
      |ret rv =>
        intro y hy;cases rv with
        |val d=>cases fin;exact h3 y H' R' p.al hy
        |new d=>cases fin;exact h3 y H' R' p.al hy
        |var i =>
          have fin:(match Γ'[i]? with
           |some (some (.own,d))=>some (Rt.new d)
           |some (some (.ae,d))=>some εz
           |_=>none)=some r:=fin
          split at fin
          .rename_i d hs;cases fin;obtain⟨v,hv,sl⟩:=p.er.sl i _ hs;have hy:aE[i]?=some (some y):=hy;rw[hy]at hv;cases hv;obtain⟨a,xs,ds',rfl,r1,r2,r3,r4⟩:=sl;refine h3 _ H' R' p.al ⟨⟨a,xs,ds',rfl,r1,r2,r3,r4⟩,a,rfl,?_⟩;exact(p.go.oo a ⟨i,.own,d,hs,rfl,hy⟩).elim (λz=>absurd z Bu) id
          .rename_i d hs;cases fin;obtain⟨v,hv,sl⟩:=p.er.sl i _ hs;have hy:aE[i]?=some (some y):=hy;rw[hy]at hv;cases hv;exact h3 _ H' R' p.al sl
          .cases fin
mutual
def qW:D->Bool
 |.aq=>true
 |.bl _=>true
 |.int _=>true
 |.str _=>true
 |.tup xs=>jF xs
 |_=>false
def jF:List D->Bool
 |[]=>true
 |d::r=>qW d&&jF r
end
def lN:Rt->Bool
 |.val d=>qW d
 |.new (.lst ds)=>jF ds
 |.new _=>false
noncomputable def mI:RV->Bool
 |.var _=>true
 |_=>false
def Rp.sE{R R':Hp}(h:∀b xs,R b=some γK->R' b=some γK):(∀{x d},Rp R x d->qW d=true->Rp R' x d)/\∀{xs ds},aK R xs ds->jF ds=true->aK R' xs ds:=by
 refine Rp.ind (m:=λx d=>qW d=true->Rp R' x d) (λ_=>.aq) (λb _=>.bl b) (λi _=>.int i) (λx _=>.str x) ?_ (λe q z=>.tup (h _ _ e) (q (by simpa [qW]using z))) ?_ ?_ ?_ ?_ ?_ (λ_=>.nil) (λa b z=>?_)
 iterate 6 simp[qW]
 have z:=Bool.and_eq_true_iff.mp (show(qW _&&jF _)=true from by simpa only [jF]using z);exact .cons (a z.1) (b z.2)
def Rp.less(h:∀b xs,R b=some γK->R' b=some γK):Rp R x d->qW d=true->Rp R' x d:=(Rp.sE h).1
def aK.less(h:∀b xs,R b=some γK->R' b=some γK):aK R xs ds->jF ds=true->aK R' xs ds:=(Rp.sE h).2
def cw(G:List D->Option Rt)(fs:γg):M RV:=M.bind fs λrvs=>M.bind ηh λds=>match G ds with
 |some r=>if rvs.any mI&& !lN r then M.bind δm λds'=>M.d9 ((G ds').map Rt.rv) else M.pure r.rv
 |none=>M.st
open Classical in
def lent(O:Addr->Prop)(R H:Hp):Hp:=λb=>if O b then H b else R b
def Bv(s:θA):ag (lent O R H) H:=λb o e=>by
 unfold lent at e;split at e
 .exact e
 .exact s b o e
def E7(h:∀b,O b->R b=none):ag R (lent O R H):=λb o e=>by
 unfold lent;split
 .rename_i z;rw[h b z]at e;cases e
 .exact e
def Pks.lent(er:γk):∀{xs:γv}{rvs:ιj}{ds:γe},iq R σ xs rvs->Pks R H xs ds->fH rvs Γ=.ok ds Γ->aK ζE xs ds:=by
 have ss:ag R (Dv.lent δQ R H):=E7 λb z=>(er.ow z).1;intro xs rvs;induction rvs generalizing xs with
 |nil=>intro ds h1 h2 _;cases h1;cases h2;exact .nil
 |cons rv r ih =>
   intro ds h1 h2 h3;cases h1 with
   |cons a b =>
     cases h2 with
     |cons c d =>
       unfold fH M.bind at h3;cases q:peek rv Γ with
       |ex _ _=>rw[q]at h3;cases h3
       |st=>rw[q]at h3;cases h3
       |ok d0 kg =>
         have e0:kg=Γ:=by
          cases rv with
          |val _=>cases q;rfl
          |new _=>cases q;rfl
          |var i=>unfold peek at q;dsimp only at q;split at q<;>cases q;rfl
         subst e0;rw[q]at h3;dsimp only at h3;cases q2:fH r kg with
         |ex _ _=>rw[q2]at h3;cases h3
         |st=>rw[q2]at h3;cases h3
         |ok Be ao =>
           rw[q2]at h3;cases h3;refine .cons ?_ (ih b d q2);cases rv with
           |val d'=>cases q;exact Rp.sm ss a
           |new d'=>exact a.elim
           |var i =>
             unfold peek at q;dsimp only at q;split at q
             .rename_i kd d' hs;cases q;obtain⟨v,hv,sl⟩:=er.sl i _ hs;have a:σ[i]?=some (some _):=a;rw[a]at hv;cases hv;cases kd with
              |ae=>exact Rp.sm ss sl
              |own =>
                obtain⟨ad,ys,es,rfl,r1,r2,rfl,r4⟩:=sl;refine .lst ?_ (r4.sm ss);unfold Dv.lent;rw[qaz ⟨i,.own,_,hs,rfl,a⟩];exact r2
              |io n =>
                obtain⟨⟨ad,ys,es,rfl,r1,r2,rfl,r4⟩,_⟩:=sl;refine .lst ?_ (r4.sm ss);unfold Dv.lent;rw[qaz ⟨i,.io n,_,hs,rfl,a⟩];exact r2
             .cases q
def Lx:∀{rvs:ιj}{ds:γe},fH rvs Γ=.ok ds Γ'->Γ'=Γ:=by
 intro rvs;induction rvs with
 |nil=>intro ds h;cases h;rfl
 |cons rv r ih =>
   intro ds h;unfold fH M.bind at h;cases q:peek rv Γ with
   |ex _ _=>rw[q]at h;cases h
   |st=>rw[q]at h;cases h
   |ok d0 kg =>
     have e0:kg=Γ:=by
      cases rv with
      |val _=>cases q;rfl
      |new _=>cases q;rfl
      |var i=>unfold peek at q;dsimp only at q;split at q<;>cases q;rfl
     subst e0;rw[q]at h;dsimp only at h;cases q2:fH r kg with
     |ex _ _=>rw[q2]at h;cases h
     |st=>rw[q2]at h;cases h
     |ok Be ao=>rw[q2]at h;cases h;exact ih q2
def Ly:∀{xs:γv}{rvs:ιj}{ds:γe},iq R σ xs rvs->rvs.any mI=false->fH rvs Γ=.ok ds Γ->aK R xs ds:=by
 intro xs rvs;induction rvs generalizing xs with
 |nil=>intro ds h1 _ h3;cases h1;cases h3;exact .nil
 |cons rv r ih =>
   intro ds h1 h2 h3;rw[List.any_cons,Bool.or_eq_false_iff]at h2;cases h1 with
   |cons a b =>
     cases rv with
     |var i=>cases h2.1
     |new d=>exact a.elim
     |val d =>
       have h3:M.bind (fH r) (λds=>M.pure (d::ds)) Γ=.ok ds Γ:=h3;unfold M.bind at h3;cases q2:fH r Γ with
       |ex _ _=>rw[q2]at h3;cases h3
       |st=>rw[q2]at h3;cases h3
       |ok Be ao =>
         have:=Lx q2;subst this;rw[q2]at h3;cases h3;exact .cons a (ih b h2.2 q2)
def Vo:∀{rvs:ιj},fH rvs Γ≠.ex x Γ':=by
 intro rvs;induction rvs with
 |nil=>intro h;cases h
 |cons rv r ih =>
   intro h;unfold fH M.bind at h;cases q:peek rv Γ with
   |ex _ _ =>
     cases rv with
     |val _=>cases q
     |new _=>cases q
     |var i=>unfold peek at q;dsimp only at q;split at q<;>cases q
   |st=>rw[q]at h;cases h
   |ok d0 kg =>
     have e0:kg=Γ:=by
      cases rv with
      |val _=>cases q;rfl
      |new _=>cases q;rfl
      |var i=>unfold peek at q;dsimp only at q;split at q<;>cases q;rfl
     subst e0;rw[q]at h;dsimp only at h;cases q2:fH r kg with
     |ex _ _=>exact ih (by rw[q2]at h;cases h;exact q2)
     |st=>rw[q2]at h;cases h
     |ok Be ao=>rw[q2]at h;cases h
def E8(w:df (fH rvs Γ) K E):∃ds,fH rvs Γ=.ok ds Γ/\K ds Γ:=by
 cases q:fH rvs Γ with
 |ex _ _=>exact absurd q Vo
 |st=>rw[q]at w;exact False.elim w
 |ok ds Γ' =>
   have:=Lx q;subst this;rw[q]at w;exact⟨ds,rfl,w⟩
open Classical in
def o5(O:Addr->Prop)(R:Hp):Hp:=λb=>if O b then none else R b
def uo{O:Addr->Prop}{R':Hp}{b:Addr}(z:¬O b):o5 O R' b=R' b:=qax z
def E9{O:Addr->Prop}{R':Hp}{b:Addr}(z:O b):o5 O R' b=none:=qaz z
def Bw{R1 H1 R' H':Hp}{σ:St}{ao:En}(er:ER ios R1 H1 σ ao)(al:Al (lent ζy R1 H1) H1 R' H'):Al R1 H1 (o5 ζy R') H'/\∀b ys,R' b=some (.tup ys)->o5 ζy R' b=some (.tup ys):=by
 refine⟨⟨λb o z=>?_,λb o z=>?_,al.hh,λb o hb rb=>?_⟩,λb ys z=>?_⟩
 .by_cases nb:Ow σ ao b
  .rw[E9 nb]at z;cases z
  .rw[uo nb]at z;exact al.sub b o z
 .have nb:¬Ow σ ao b:=λq=>by rw[(er.ow q).1]at z;cases z
  rw[uo nb];apply al.rr;unfold lent;rw[qax nb];exact z
 .by_cases nb:Ow σ ao b
  .exact E9 nb
  .rw[uo nb];apply al.no b o hb;unfold lent;rw[qax nb];exact rb
 .rw[uo λo=>?_]
  .exact z
  .obtain⟨_,zs,hz⟩:=er.ow o;have:=al.sub _ _ z;rw[al.hh _ _ hz]at this;cases this
def Lz{R1 H1 R' H' R H:Hp}{σ:St}{Γ ao:En}{x:V}{r:Rt}(er:γk)(p1:γY)(al:Al (lent ζy R1 H1) H1 R' H')(jG:lN r=true)(ra:ja R' H1 H' x r.rv):ip (o5 ζy R') H H' σ x r.rv:=by
 have tup:=(Bw p1.er al).2;cases r with
 |val d=>exact Rp.less tup ra jG
 |new d =>
   cases d with
   |lst zs =>
     obtain⟨⟨a,ys,lP,rfl,r1,r2,r3,r4⟩,a',ea,hf⟩:=ra;cases ea;cases r3;refine⟨⟨a,ys,zs,rfl,?_,r2,rfl,r4.less tup jG⟩,a,rfl,p1.back er a hf⟩;by_cases nb:Ow σ ao a
     .exact E9 nb
     .rw[uo nb];exact r1
   |_=>cases jG
def Vp(hp:∀t,PA X es t->PE X e0 (D6 δ2 [] E0 t))(ha:δh):VE X EE ios e0 (cw G fs):=by
 obtain⟨t,h1,h2⟩:=ha;refine⟨_,hp t h1,λσ H R Γ Q er w=>?_⟩;unfold cw at w;rw[aB]at w;refine h2 σ H R Γ _ er (aY w (λrvs ao w xs H1 R1 p1 hx=>?_) λ_ _ z=>z);show bC G (xs++[]) H1 Q E0;rw[qbE];rw[aB]at w;obtain⟨ds,q,w⟩:=E8 w;obtain⟨ds',pk,e⟩:=vh (K:=λds' _=>ds'=ds) (E:=λ_ _=>False) p1.er hx (by rw[q];exact rfl);subst e;cases hG:G ds' with
 |none=>rw[hG]at w;exact False.elim w
 |some r =>
   rw[hG]at w;dsimp only at w;by_cases hv:rvs.any mI=true
   .by_cases jG:lN r=true
    .rw[hv,jG]at w;have w:∀x H' R',bt ios R H σ Γ R' H' ao->ip R' H H' σ x r.rv->Q x H':=w;refine⟨lent ζy R1 H1,ds',Bv p1.er.sub,Pks.lent p1.er hx pk q,?_⟩;rw[hG];intro x H' R' al ra;exact w x H' _ (p1.al (Bw p1.er al).1) (Lz er p1 al jG ra)
    .have jG:lN r=false:=by cases z:lN r<;>simp_all
     rw[hv,jG]at w;have w:df (M.bind δm (λds'=>M.d9 ((G ds').map Rt.rv)) ao) _ _:=w;rw[aB]at w;obtain⟨lP,aC,R2,p2,s2,r2,w⟩:=oY er p1 hx w;obtain⟨rv,hrv,w⟩:=ke w;refine⟨R2,lP,p2.er.sub,r2,?_⟩;cases o6:G lP with
     |none=>rw[o6]at hrv;cases hrv
     |some r' =>
       rw[o6]at hrv;cases hrv;exact λx H' R' al ra=>w x H' R' ζo (ra.rv ηf)
   .have hv:rvs.any mI=false:=by cases z:rvs.any mI<;>simp_all
    rw[hv]at w;have w:∀x H' R',bt ios R H σ Γ R' H' ao->ip R' H H' σ x r.rv->Q x H':=w;refine⟨R1,ds',p1.er.sub,Ly hx hv q,?_⟩;rw[hG];exact λx H' R' al ra=>w x H' R' θq θw
end
def At(mg:M2)(x:Str)(st:Stmt):Prop:=∃f fd,nP KC.K x x st f fd/\mg x=some γ0/\W.keepIn KC.K γ0=true
def cp(P:Program)(w:World)(mg:M2)(base:Heap)(x:Str)(k:Nat)(ps:v6)(sp:Sp):Prop:=∃f fd,bB P w KC.K mg base jt k f fd ps sp/\mg x=some γ0/\W.keepIn KC.K γ0=true/\Binds KC.K fd ps []
section
variable{X:Cx}{EE:br}{ios:zzd}{e:Expr}{es:zza}{fs:γg}{x:Str}{k:Nat}{ps:v6}{p pos:Pos}{st:Stmt}
def dv(C:cp X.prog X.w X.mg X.base x k ps δ2)(hr:δ3)(hg:εX)(ha:VA X EE ios (e::es) fs)(hK:X.K=KC.K:=by rfl)(hdb:(x == ("__debug__":Str))=false:=by decide)
 (he:starEach (e::es) X.env=(false,eval e X.env)::starEach es X.env:=by rfl) (hpl:(backTo pos γl).any (·.1)=false:=by rfl):VE X EE ios (.Call δp (e::es) [] pos) (cw G fs):=by obtain⟨f,fd,F,hm,hk,hb⟩:=C;rw[<-hK]at F hk hb;exact Vp (λt h=>Sq F hr hg hm hk hb .nil Ee h hdb he hpl) ha
def iu(A0:At mg x st)(S:ηY)
 (bd:∀(kV doc pm:Value) (an:δa) (cdv ct:Value) (us:v4),us.length=ps.length->bindArgs γH ⟨us,[]⟩=pure εs)
 (hb:∀(fa:Addr) (cdv:Value) (A:Around) (outer:δu) (s:Shared) (H:Hp) (E:XK),aH k ζe->cC (k9 jt P w KC.K mg base N x δy fa cdv A outer s H E).qD EN [] ηo bm)
 (h:∀ds r,G ds=some r->ds.length=ps.length/\lM ηJ=some r):cp P w mg base x (k+1) ps δ2:=
 let ⟨f,fd,F,hm,hk⟩:=A0
 ⟨f,fd,E6 F S (hb f) h,hm,hk,F.binds bd⟩
noncomputable def E_(sc scope:Scope)(N Nc:v6)(own:Nat)(fr:zzc):Bool:=
 decide (Nc.length=own+fr.length)&&decide (scope.kind=.function)&&scope.names.all (λy=>decide (y.2≠.cell))&&scope.names.all (λy=>decide (y.2=.local->scope.names.lookup y.1=some .local))&&
 scope.names.all (λy=>decide (y.2=.free->sc.names.lookup y.1=some .cell\/sc.names.lookup y.1=some .free))&&
 (List.range fr.length).all λk=>match fr[k]?,Nc[own+k]? with
  |some j,some x=>decide (N[j]?=some x)&&decide (sc.names.lookup x=some .cell\/sc.names.lookup x=some .free)&&decide (scope.names.lookup x=some .free)
  |_,_=>true
omit [KC] in
def sF{X:Cx}(hs:X.env.scope=sc)(hN:X.N=N)(h:E_ sc scope N Nc own fr=true):jv X scope Nc own fr:=by subst hs hN;unfold E_ at h;simp only[Bool.and_eq_true,decide_eq_true_eq,List.all_eq_true]at h;obtain⟨⟨⟨⟨⟨h1,h2⟩,h3⟩,h4⟩,h5⟩,h6⟩:=h;refine⟨h1,λk j x e1 e2=>?_,h2,h3,h4,λx hx=>h5 _ hx rfl⟩;have hk:k<fr.length:=(qac.mp e1).1;have z:=h6 k (qbA.mpr hk);rw[e1,e2]at z;simp only[Bool.and_eq_true,decide_eq_true_eq]at z;exact⟨z.1.1,z.1.2,z.2⟩
end
section
variable{X:Cx}{EE:br}{ios:zzd}{e a b c:Expr}{f g k:M RV}{pos p:Pos}{x:Str}{ps:v6}{kk:Nat}
def vx(h:∃t,X.mg x=some (.int i t))(hg:εX)(hd:(x == ("__debug__":Str))=false:=by decide):VE X EE ios εj (M.pure (.val γ1)):=
 let ⟨t,h⟩:=h;vd (tI (v:=.int i) hg h ⟨t,rfl⟩ hd) λ_=>.int i
def Vq(C:cp X.prog X.w X.mg X.base x kk ps δ2)(hr:aH kk X.A)(hg:εX)(hK:X.K=KC.K:=by rfl)(hdb:(x == ("__debug__":Str))=false:=by decide):VE X EE ios (.Call δp [] [] pos) (cw G (M.pure [])):=by
 obtain⟨f,fd,F,hm,hk,hb⟩:=C;rw[<-hK]at F hk hb;refine⟨_,Sr F hr hg hm hk hb .nil (Ee (X:=X)) hdb,λσ H R Γ Q er w=>?_⟩;refine⟨R,[],er.sub,.nil,?_⟩
 have w:df ((match G [] with
  |some r=>if ([]:List RV).any mI&& !lN r then M.bind (fG []) λds'=>M.d9 ((G ds').map Rt.rv) else M.pure r.rv
  |none=>M.st) Γ) _ _:=w
 cases hG:G [] with
 |none=>rw[hG]at w;exact False.elim w
 |some r =>
   rw[hG]at w;exact λx H' R' al ra=>w x H' R' ((bt.refl er).al al) (ra.rv λ_ z=>z)
noncomputable def jH:u8->Int
 |[]=>0
 |[n]=>n
 |n::r=>max n (jH r)
theorem LA:∀{ns:u8},ns≠[]->jH ns∈ns/\∀a∈ns,a<=jH ns
 |[],h=>absurd rfl h
 |[n],_=>⟨by simp[jH],λa ha=>by simp at ha;simp[jH,ha]⟩
 |n::m::r,_=>by
   obtain⟨h1,h2⟩:=LA (ns:=m::r) (by simp);have e:jH (n::m::r)=max n (jH (m::r)):=rfl;rw[e];refine⟨?_,λa ha=>?_⟩
   .by_cases q:n<=jH (m::r)
    .rw[Int.max_eq_right q];exact qaf _ h1
    .rw[Int.max_eq_left ω];exact qaj ..
   .rcases qav.1 ha with rfl|ha
    .omega
    .have:=h2 a ha;omega
def yf:List D->Option RV
 |[.lst ds]=>match oZ ds with
   |some (n::r)=>some (.val (.int (jH (n::r))))
   |_=>none
 |_=>none
def Vr:nc (λxs H Q=>∃(p:Addr) (ns:u8),xs=[.ref p]/\H p=some (.lst γN)/\0<ns.length/\∀M∈ns,(∀a∈ns,a<=M)->Q (.int M) H) yf:=by
 intro R H xs ds rv Q s px hg q;unfold yf at hg;split at hg
 .split at hg
  .rename_i l n r h;cases hg;obtain⟨x,rfl,p⟩:=px.one;obtain⟨a,ys,rfl,h1,h2⟩:=p.lst s;rw[EO h]at h2;rw[h2.j_]at h1;refine⟨a,n::r,rfl,h1,by simp,λM hM hle=>?_⟩;obtain⟨m1,m2⟩:=LA (ns:=n::r) (by simp);have:M=jH (n::r):=Int.le_antisymm (m2 M hM) (hle _ m1);rw[this];exact q _ H R γf δI
  .cases hg
 .cases hg
end
def Bx{ps:v6}(A0:At mg x st)
 (bd:∀(kV doc pm:Value) (an:δa) (cdv ct:Value) (us:v4),us.length=ps.length->bindArgs γH ⟨us,[]⟩=pure εs):cp P w mg base x k ps (bC λ_=>none):=by obtain⟨f,fd,F,hm,hk⟩:=A0;exact⟨f,fd,⟨λvs H Q E ⟨_,_,_,_,z⟩=>z.elim,λA outer s H args us vs Q E hr he hb hv ⟨_,_,_,_,z⟩=>z.elim⟩,hm,hk,F.binds bd⟩
noncomputable def aP(n:Nat)(N:v6)(bm:M Fl):List D->Option Rt:=λds=>if ds.length=n then lM ηJ else none
def gP(h:aP n N bm ds=some r):ds.length=n/\lM ηJ=some r:=by
 unfold aP at h;split at h
 .rename_i q;exact⟨q,h⟩
 .cases h
end Dv
namespace Dv
open PySem L2 Ex
section
variable{α β:Type}{Γ Γ':En}{f g k:M RV}{fs:γg}{p q:δC}{s s':M Fl}{d:D}{i:Nat}
@[simp] def Fb:M.pure a Γ=.ok a Γ:=rfl
@[simp] theorem Fc{f:M α}{g:α->M β}:M.bind f g Γ=match f Γ with
 |.ok a Γ'=>g a Γ'
 |.ex x Γ'=>.ex x Γ'
 |.st=>.st:=rfl
@[simp] def Fd:M.d9 (some a) Γ=.ok a Γ:=rfl
@[simp] def Vs:(M.st:M α) Γ=.st:=rfl
@[simp] def LB{c:Prop}[Decidable c]{f g:M α}:(if c then f else g) Γ=if c then f Γ else g Γ:=by split<;>rfl
@[simp] theorem Fe:ZS i Γ=match Γ[i]? with
 |some (some (.ae,d))=>.ok εz Γ
 |some (some _)=>.ok θu Γ
 |_=>.st:=rfl
@[simp] def By:peek εz Γ=.ok d Γ:=rfl
@[simp] def Bz:peek ιq Γ=.ok d Γ:=rfl
@[simp] theorem BA:peek θu Γ=match Γ[i]? with
 |some (some (_,d))=>.ok d Γ
 |_=>.st:=rfl
@[simp] def Ff:mat εz Γ=.ok d Γ:=rfl
@[simp] def Fg:mat ιq Γ=.ok d Γ:=rfl
@[simp] theorem Fh:mat θu Γ=match Γ[i]? with
 |some (some (_,d))=>.ok d (Γ.set i (some (.ae,d)))
 |_=>.st:=rfl
@[simp] def LC:op1 o f Γ=M.bind f (λx=>M.bind ε6 λd=>M.d9 (o d)) Γ:=rfl
@[simp] def LD:op2 o f g Γ=M.bind f (λx=>M.bind g λy=>M.bind ε6 λd=>M.bind (peek y) λe=>M.d9 (o d e)) Γ:=rfl
@[simp] def LF:ue o o' f g k Γ=M.bind f (λx=>M.bind g λy=>M.bind ε6 λd=>M.bind (peek y) λe=>M.bind (M.bind (M.d9 (o d e)) aO) λq =>
 if q then M.bind k λz=>M.bind (peek y) λe'=>M.bind (peek z) λu=>M.d9 (o' e' u) else M.pure γs) Γ:=rfl
@[simp] def LG:aO (.val ζc) Γ=.ok b Γ:=rfl
@[simp] def Vt:nR p Γ=M.bind p (λb=>M.pure (!b)) Γ:=rfl
@[simp] def LH:andM p q Γ=M.bind p (λb=>if b then q else M.pure false) Γ:=rfl
@[simp] def Vu:orM p q Γ=M.bind p (λb=>if b then M.pure true else q) Γ:=rfl
@[simp] def Fi:A4 p Γ=M.bind p (λb=>M.pure (.val ζc)) Γ:=rfl
@[simp] def Fj:r6 f g Γ=M.bind ζb (λb=>if b then g else M.pure γs) Γ:=rfl
@[simp] def LI:A5 f g Γ=M.bind ζb (λb=>if b then M.pure γy else g) Γ:=rfl
@[simp] def Fm:vf p f g Γ=M.bind p (λb=>if b then f else g) Γ:=rfl
@[simp] def Vv:ql f Γ=M.bind f (λrv=>match rv with
 |.var i=>M.pure θu
 |rv=>M.bind εP λd=>M.pure εz) Γ:=rfl
@[simp] def Vw:aA s s' Γ=M.bind s (λfl=>match fl with
 |.nx=>s'
 |fl=>M.pure fl) Γ:=rfl
@[simp] def Vx:bu i f Γ=M.bind f (λrv=>M.bind (match rv with
 |.new d=>nW i (.own,d)
 |.val d=>nW i (.ae,d)
 |.var j=>M.bind (mat (.var j)) λd=>nW i (.ae,d)) λ_=>M.pure .nx) Γ:=rfl
@[simp] def Fn:ZY f fs Γ=M.bind (ql f) (λx=>M.bind fs λxs=>M.pure (x::xs)) Γ:=rfl
@[simp] def Fo:fG [] Γ=.ok [] Γ:=rfl
@[simp] def Fp:fG (rv::r) Γ=M.bind εP (λd=>M.bind (fG r) λds=>M.pure (d::ds)) Γ:=rfl
@[simp] def BB:fH [] Γ=.ok [] Γ:=rfl
@[simp] def BC:fH (rv::r) Γ=M.bind (peek rv) (λd=>M.bind (fH r) λds=>M.pure (d::ds)) Γ:=rfl
@[simp] def LJ:aD fs Γ=M.bind fs (λrvs=>M.bind δm λds=>if ds.length<=sizeLine then M.pure (.new ζ4) else M.st) Γ:=rfl
@[simp] def LK:d_ fs Γ=M.bind fs (λrvs=>M.bind δm λds=>if ds.length<=sizeLine then M.pure (.val ζN) else M.st) Γ:=rfl
@[simp] def LL{g:List D->Option RV}:cD g fs Γ=M.bind fs (λrvs=>M.bind ηh λds=>M.d9 (g ds)) Γ:=rfl
@[simp] def LM:sv T f Γ=M.bind (ql f) (λx=>M.bind ε6 λd=>M.d9 (vm T d)) Γ:=rfl
@[simp] def LN:eM o f lo hi Γ=M.bind f (λx=>M.bind lo λl=>M.bind hi λu=>M.bind ε6 λd=>M.d9 (o d l u)) Γ:=rfl
@[simp] def LO:cM (.val ηk) Γ=.ok (some n) Γ:=rfl
@[simp] def LP:sx i m fs Γ=M.bind (recv i) (λ_=>M.bind fs λrvs=>M.bind δm λes=>xO i m es) Γ:=rfl
@[simp] theorem Fq:recv i Γ=match Γ[i]? with
 |some (some (kd,.lst _))=>if owned kd then .ok () Γ else .st
 |_=>.st:=rfl
@[simp] theorem BD:xO i m es Γ=match Γ[i]? with
 |some (some (kd,.lst ds))=>if owned kd then match m ds es with
   |some (ds',res)=>.ok (.val res) (Γ.set i (some (kd,.lst ds')))
   |none=>.st else .st
 |_=>.st:=rfl
@[simp] def LQ:owned .own=true:=rfl
theorem Vy:aA s s' Γ=match s Γ with
 |.ok .nx Γ'=>s' Γ'
 |.ok fl Γ'=>.ok fl Γ'
 |.ex x Γ'=>.ex x Γ'
 |.st=>.st:=by
 unfold aA M.bind;cases s Γ with
 |ok fl Γ'=>cases fl<;>rfl
 |ex _ _=>rfl
 |st=>rfl
@[simp] def Fs:jW f Γ=M.bind f (λ_=>M.pure .nx) Γ:=rfl
@[simp] def LR:bF f Γ=M.bind f (λrv=>M.pure (.ret rv)) Γ:=rfl
@[simp] def Vz:cu p s s' Γ=M.bind p (λb=>if b then s else s') Γ:=rfl
@[simp] def Ft:nW i t Γ=.ok () (Γ.set i (some t)):=rfl
@[simp] def Fu:uj m f Γ=M.bind f (λrv=>M.bind εP λd=>M.bind (nZ (m d)) λ_=>M.pure .nx) Γ:=rfl
@[simp] theorem VB:nZ m Γ=match m Γ with
 |.ok a Γ'=>.ok a Γ'
 |_=>.st:=rfl
@[simp] def VC:gN i d Γ=.ok () (Γ.set i (some (.ae,d))):=rfl
@[simp] def LU:fk [] Γ=.ok () Γ:=rfl
@[simp] def LV:bD m ms (d::r) Γ=M.bind (m d) (λ_=>ms r) Γ:=rfl
@[simp] def VD:gT n ms ζN Γ=(if ds.length=n then ms ds else M.st) Γ:=rfl
@[simp] def LW:forM items m s Γ=M.bind items (λds=>iS m s ds) Γ:=rfl
@[simp] def BE:iS m s [] Γ=.ok .nx Γ:=rfl
theorem o7:iS m s (d::r) Γ=match nZ (m d) Γ with
 |.ok _ ao=>match s ao with
   |.ok .nx aC=>iS m s r aC
   |.ok .cont aC=>iS m s r aC
   |.ok .brk aC=>.ok .nx aC
   |.ok (.ret rv) aC=>.ok (.ret rv) aC
   |.ex x aC=>.ex x aC
   |.st=>.st
 |.ex x ao=>.ex x ao
 |.st=>.st:=by
 show xU m s (iS m s r) d Γ=_;unfold xU M.bind;cases nZ (m d) Γ with
 |ok a ao =>
   dsimp only;cases s ao with
   |ok fl aC=>cases fl<;>rfl
   |ex _ _=>rfl
   |st=>rfl
 |ex _ _=>rfl
 |st=>rfl
@[simp] def Fv:jD f Γ=M.bind f (λrv=>M.bind εP λd=>match d with
 |.lst ds=>M.pure ds
 |.eZ ns=>M.pure εl
 |_=>M.st) Γ:=rfl
@[simp] def Fw:qS fs Γ=M.bind fs (λrvs=>M.bind δm λds=>match ds with
 |[.lst ds]=>M.pure (o3 ds)
 |_=>M.st) Γ:=rfl
@[simp] def Fx:sC fs Γ=M.bind fs (λrvs=>match rvs with
 |[.val (.int j)]=>if small j then M.pure (ir 0 j.toNat) else M.st
 |_=>M.st) Γ:=rfl
@[simp] def BF:cw G fs Γ=M.bind fs (λrvs=>M.bind ηh λds=>match G ds with
 |some r=>if rvs.any mI&& !lN r then M.bind δm λds'=>M.d9 ((G ds').map Rt.rv) else M.pure r.rv
 |none=>M.st) Γ:=rfl
@[simp] def LX:(Rt.val d).rv=.val d:=rfl
@[simp] def LY:(Rt.new d).rv=.new d:=rfl
@[simp] def LZ:mI εz=false:=rfl
@[simp] def Fy:mI θu=true:=rfl
end
@[simp] def yg(h:0<j):nU γ1 θm=some (.val (.int (i % j))):=by show(if cd (0<j)=true then _ else _)=_;rw[qaz (iR h)]
@[simp] def vy(h:0<j)(h':j<1073741824):A9 γ1 θm=some (.val (.int (i/j))):=by show(if cd (0<j/\j<1073741824)=true then _ else _)=_;rw[qaz (iR ⟨h,h'⟩)]
@[irreducible] noncomputable def vz:Int:=1000000000000000000
def VF:xG (.int 10) (.int 18)=some (.val (.int vz)):=by
 show(if cd ((0:Int)<=18/\(18:Int)<=1000000/\(10:Int).natAbs<2 ^ 64)=true then some (RV.val (.int (10 ^ (18:Int).toNat))) else none)=_;rw[qaz (iR ξ)];have:(10:Int) ^ (18:Int).toNat=vz:=by unfold vz;decide +kernel
 rw[this]
@[simp] def L0:ug g γ1 θm=some (.val ε8):=rfl
@[simp] def Fz:aS γ1 θm=some (.val (.int (i+j))):=rfl
@[simp] def sG{xs ys:γe}(h:xs.length+ys.length<=sizeLine):aS γh εi=some (.new (.lst (xs++ys))):=by show(if _ then _ else _)=_;rw[qaz h]
@[simp] def L3(h:sj i j=true):qk γ1 θm=some (.val (.int (i*j))):=by show(if _ then _ else _)=_;rw[qaz h]
@[simp] def VG:kh d .aq=some (.val (.bl (isNone d))):=rfl
@[simp] def VH:isNone .aq=true:=rfl
@[simp] def VL:isNone γK=false:=rfl
@[simp] def VM:isNone γh=false:=rfl
@[simp] def VN:isNone γ1=false:=rfl
@[simp] def FA:gO [.lst xs]=some εc:=rfl
@[simp] def FC:gO [.tup xs]=some εc:=rfl
@[simp] def L4:bZ γh γ1=(L2.cn xs i).map .val:=rfl
@[simp] def L5:bZ γK γ1=(L2.cn xs i).map .val:=rfl
@[simp] def L6:vj γ1=some (.val (.int (-i))):=rfl
@[simp] def FD:qo γh lo hi=some (.new (.lst (jc xs lo hi))):=rfl
@[simp] def L7:xJ [.int i,.int j]=some (.val (.int (if j>i then j else i))):=rfl
@[simp] def L8:xK [.int i,.int j]=some (.val (.int (if j<i then j else i))):=rfl
@[simp] def L9:Ba [.int i]=some (.val (.int (if i<0 then -i else i))):=rfl
@[simp] def FE:xM [.bl k]=some (.val (.int (if k then 1 else 0))):=rfl
@[simp] def FG:Bb [.lst xs]=some (.new γh):=rfl
@[simp] def FH:vm T γK=some (.val (.bl (jV T γK))):=rfl
@[simp] def FI:vm T γ1=some (.val (.bl (jV T γ1))):=rfl
@[simp] def FJ:vm T .aq=some (.val (.bl (jV T .aq))):=rfl
@[simp] def FK:vm T ηN=some (.val (.bl (jV T ηN))):=rfl
@[simp] def L_{ds:γe}(h:ds.length<sizeLine):ui ds [d]=some (ds++[d],.aq):=by show(if _ then _ else _)=_;rw[qaz h]
@[simp] def yh(h : -4611686018427387904<=j/\j<4611686018427387904):small j=true:=iR ω
def BG(h : -18446744073709551616<i/\i<18446744073709551616):sj i j=true:=iR (.inl ω)
def BH(I:Nat->En->Prop)(h0:I 0 Γ)
 (step:∀(i:Nat) (d:D) (Γ:En),ds[i]?=some d->I i Γ->∃ao aC,m d Γ=.ok () ao/\(s ao=.ok .nx aC\/s ao=.ok .cont aC)/\I (i+1) aC):∃Γ',iS m s ds Γ=.ok .nx Γ'/\I ds.length Γ':=by
 induction ds generalizing Γ I with
 |nil=>exact⟨Γ,rfl,h0⟩
 |cons d r ih =>
   obtain⟨ao,aC,h1,h2,h3⟩:=step 0 d Γ rfl h0;obtain⟨Γ',h4,h5⟩:=ih (λi=>I (i+1)) h3 λi d Γ hd hi=>step (i+1) d Γ (by simpa using hd) hi;refine⟨Γ',?_,h5⟩;rw[o7,VB,h1];rcases h2 with h2|h2<;>simp only[h2]<;>exact h4
end Dv
namespace Dv
open PySem L2 Ex
variable[KC]
def lQ(d e:D):Option RV:=match d,e with
 |.lst xs,.int k=>if cd (-(2 ^ 63)<=k/\k<2 ^ 63/\xs.length*k.toNat<=sizeLine) then some (.new (.lst (List.replicate k.toNat xs).flatten)) else none
 |_,_=>none
theorem aK.rep(h:δU):∀k:Nat,aK R (List.replicate k xs).flatten (List.replicate k ds).flatten
 |0=>.nil
 |k+1=>by rw[qbg,qbg,qbP,qbP];exact h.app (aK.rep h k)
def sH:fF Kg lQ:=by
 intro R H x y d e rv Q s px py hg q;unfold lQ at hg;split at hg
 .split at hg
  .rename_i c;cases hg;obtain⟨c1,c2,c3⟩:=lL c;obtain⟨a,xs,rfl,h1,h2⟩:=px.lst s;refine⟨a,_,xs,rfl,py.int,h1,c1,c2,by rw[h2.len];exact c3,λp hp=>?_⟩;obtain⟨al,rv⟩:=oX s hp (h2.rep _);exact q _ _ _ al rv
  .cases hg
 .cases hg
section
variable{X:Cx}{EE:br}{ios:zzd}{pos:Pos}
def VP(s:θA)(hp:H p=none):Al R H (upd R p (.dK [])) (upd H p (.dK []))/\ja (upd R p (.dK [])) H (upd H p (.dK [])) γO (.val (.mB [] [])):=by
 have hr:R p=none:=s.free hp;refine⟨⟨λb o e=>?_,lG hr,lG hp,λb o e r=>?_⟩,.ua fS⟩
 .by_cases hb:b=p
  .subst hb;rw[fS]at e ⊢;exact e
  .rw[bA hb]at e ⊢;exact s b o e
 .rw[bA (iN e hp)];exact r
def VQ:TE:=λ_ H Q=>∀p,H p=none->Q γO (upd H p (.dK []))
def VR:PE X (.Dict [] [] pos) VQ:=by intro pins s σ H Q I h;refine wpAny_Dict_empty ⟨.ref s.heap.objs.size,upd H s.heap.objs.size (.dK []),?_,rfl,h _ I.fresh⟩;refine Inv.laid (t':=s.toks) I (λ_ _ q=>qab _ q) γI ?_;have m:mainGlobals<s.heap.objs.size:=Heap.Ns.lt (I.mod.glob.keeps I.bk);refine⟨qaZ _,beq_eq_false_iff_ne.mpr (λz=>?_),[],.nil,Heap.DictOf.new _⟩;rw[z]at m;exact absurd m ξ
def VU:VE X EE ios (.Dict [] [] pos) (M.pure (.val (.mB [] []))):=by refine⟨_,VR,λσ H R Γ Q er w=>λp hp=>?_⟩;obtain⟨al,rv⟩:=VP er.sub hp;exact w _ _ _ ((bt.refl er).al al) (rv.rv ((bt.refl er).back er))
end
section
variable{X:Cx}{EE:br}{ios:zzd}{fs:γg}{ta:TA}{i j:Nat}{x y:Str}{a b:Expr}{px py pt pos:Pos}{kt k2:Nat}{tK:Pos}
noncomputable def BI(i j:Nat)(fs:γg):M Fl:=M.bind fs λrvs=>M.bind δm λds=>match ds with
 |[d,e]=>M.bind (nW i (.ae,d)) λ_=>M.bind (nW j (.ae,e)) λ_=>M.pure .nx
 |_=>M.st
def VV(hc:X.calm=true)(hN:X.N.Nodup)(hi:X.N[i]?=some x)(hj:X.N[j]?=some y)(hij:i≠j)(hx:X.env.scope.names.lookup x=some .local)(hy:X.env.scope.names.lookup y=some .local)(ha:VA X EE ios [a,b] fs)
 (hw:swappedStores [.Tuple [.Name x px,.Name y py] kt pt] (.Tuple [a,b] k2 tK) X.env=pure (some [x,y]))
 (hs:swapsWithSole [.Tuple [.Name x px,.Name y py] kt pt] (.Tuple [a,b] k2 tK) pos.line X.env=pure false:=by rfl) :
 VS X EE ios (.Assign [.Tuple [.Name x px,.Name y py] kt pt] (.Tuple [a,b] k2 tK) pos) (BI i j fs):=by
 obtain⟨t,h1,h2⟩:=ha;refine⟨_,Ru hc hN hi hj hij hx hy h1 hw hs,λσ H R Γ Q er w=>?_⟩;unfold BI at w;rw[aB]at w;refine h2 σ H R Γ _ er (aY w (λrvs ao w xs H1 R1 p1 hx=>?_) λ_ _ z=>z.exp);rw[aB]at w;obtain⟨ds,aC,R2,p2,s2,r2,w⟩:=oY er p1 hx w;split at w
 .rename_i d e;cases r2 with
  |cons q1 r2 =>
    cases r2 with
    |cons q2 r2 =>
      cases r2;refine⟨_,_,rfl,?_⟩;have z1:=cB.set (i:=i) er p2 (s:=(.ae,d)) q1 λz=>by cases z
      have z2:=cB.set (i:=j) z1.er (bt.refl z1.er) (s:=(.ae,e)) q2 λz=>by cases z
      exact w _ H1 R2 (z1.trans z2)
 .exact False.elim w
end
end Dv
namespace L2
open PySem PySem.Spec PyProof.Rows Ex
section
variable{X:Cx}
def VX(ok:δG)(e:H b=some (.dK [])):Reads h (.ref b) (.dict []) [b]/\b≠sysModules:=by
 obtain⟨_,ns,vs,kv,o,es,ep,g,ex,dt,_,pr,_⟩:=ok _ _ e;cases kv
 have z:es.toList=[]:=by
  cases q:es.toList with
  |nil=>rfl
  |cons a r=>rw[q]at pr;cases pr
 refine⟨?_,λz=>by rw[z]at ns;exact absurd ns ξ⟩;have R:Reads h (.ref b) (.dict []) (b::[]++[]):=.dict g ex.1 dt (by rw[z];exact .nil) (by rw[z];exact .nil);exact R
def kj:aM X (.builtin "repr") (λxs H Q=>∃i:Int,xs=[.int i]/\i.natAbs.log2<1920/\Q εd H):=by intro pins s σ H xs us Q I r h;obtain⟨i,rfl,hi,q⟩:=h;obtain⟨u,rfl,ru⟩:=r.one;obtain⟨t,rfl⟩:=ru;exact PySem.P.repr_of_int hi ⟨.str (toString i),H,I.kept (λ_ _ e=>e),⟨_,rfl⟩,q⟩
end
end L2
namespace Dv
open PySem L2 Ex
section
variable{Γ Γ':En}{f g k l:M RV}{fs:γg}{p q:δC}{d:D}{i j:Nat}{m:D->M Unit}{fr:zzc}{own:Nat}
@[simp] def FL:jE items fr own m p f Γ=M.bind items (λds=>if ds.length<sizeLine then M.bind ζT λys=>M.pure (.new εi) else M.st) Γ:=rfl
@[simp] def Ma:sD m p f d Γ=M.bind (nZ (m d)) (λ_=>M.bind p λb=>if b then M.bind f λrv=>M.bind εP λy=>M.pure (some y) else M.pure none) Γ:=rfl
@[simp] def Mb:BI i j fs Γ=M.bind fs (λrvs=>M.bind δm λds=>match ds with
 |[d,e]=>M.bind (nW i (.ae,d)) λ_=>M.bind (nW j (.ae,e)) λ_=>M.pure .nx
 |_=>M.st) Γ:=rfl
theorem BJ(F:D->Option D):∀(ds:γe),(∀d∈ds,∃dI,sD m p f d δW=.ok (F d) dI/\a7 fr own Γ dI=Γ)->fm fr own m p f ds Γ=.ok (ds.filterMap F) Γ
 |[],_=>rfl
 |d::r,h=>by obtain⟨dI,h1,h2⟩:=h d (qaj ..);have ih:=BJ F r λd hd=>h d (qaf _ hd);unfold fm;rw[h1];simp only[h2,ih];cases e:F d<;>simp[List.filterMap_cons,e]
def Md(F:D->D)(h:∀d∈ds,∃dI,sD m p f d δW=.ok (some (F d)) dI/\a7 fr own Γ dI=Γ):fm fr own m p f ds Γ=.ok (ds.map F) Γ:=by
 rw[BJ (λd=>some (F d)) ds h]
 exact congrArg (λz=>Res.ok z Γ) (by induction ds with
  |nil=>rfl
  |cons a r ih=>rw[qbx,qaP,ih λd hd=>h d (qaf _ hd)])
end
end Dv
namespace L2
open PySem PySem.Spec PyProof.Rows Ex
section
variable{X:Cx}{EE:br}{k:Nat}{f:Addr}{fd:FuncData}{ps:v6}{sp:Sp}{dvs:γv}{ds:v4}{x:Str}{p pos:Pos}{e:Expr}{es:zza}{t:TA}
def vA(sp:Sp)(dvs:γv)(EE:br)(t:TA):TE:=λσ H Q=>t σ H λvs H1=>sp (vs++dvs) H1 Q θ5
def VZ{pins:W1}{σ:St}{H:Hp}{s:Shared}{Q:VK}{us:v4}{vs:γv}(F:δs)(hr:δ3)(hb:γZ)(hd:εg)(hX:ζQ)
 (I:δ) (r:Vals vs us) (h:sp (vs++dvs) H Q θ5):wpAny ζ X.A (call γ0 us) γT X.xe s:=by
 have r2:Vals (vs++dvs) (us++ds):=r.append hd;have hl:(us++ds).length=ps.length:=by rw[<-r2.length];exact F.len _ _ _ _ h
 refine wpAny_call (codeAny_mono (F.run X.A X.stack s H ⟨us,[]⟩ (us++ds) (vs++dvs) Q θ5 hr I.env0 (hb s us I.cf hl) r2 h) λr s' hq=>?_);cases r with
 |error e=>exact Kv hX I hq
 |ok fl =>
   cases fl with
   |ret u=>exact I.after hq
   |next=>exact False.elim hq
   |brk=>exact False.elim hq
   |cont=>exact False.elim hq
def V0(F:δs)(hr:δ3)(hg:εX)(hm:X.mg x=some γ0)(hk:W.keepIn X.K γ0=true)(hb:γZ)(hd:εg)(hX:ζQ)
 (ha:PA X (e::es) t) (hdb:(x == ("__debug__":Str))=false:=by decide) (he:starEach (e::es) X.env=(false,eval e X.env)::starEach es X.env:=by rfl) (hpl:(backTo pos γl).any (·.1)=false:=by rfl) :
 PE X (.Call δp (e::es) [] pos) (vA sp dvs EE t):=by intro pins s σ H Q I h;refine qbt (tG I hg hm ?_ hdb);refine W.callWith_K (h₀:=X.base) I.ok.mod.tF hk (aX γ6 λus s1 zq=>?_) he hpl;obtain⟨vs,H1,I1,r,q⟩:=zq;refine⟨I1.cf,?_⟩;exact VZ F hr hb hd hX I1 r q
end
end L2
namespace Dv
open PySem L2 Ex
variable[KC]
section
variable{X:Cx}{EE:br}{ios:zzd}{e a b c:Expr}{es:zza}{f g:M RV}{fs:γg}{p:δC}{s s':M Fl}{st:Stmt}{sts jC:δK}{pos:Pos}
inductive Rx where
 |ok (r:Rt)|ex (x:Xc)
def V1(R H:Hp)(r:Option Rx)(Q:VK)(E:XK):Prop:=match r with
 |some (.ok r)=>∀x H' R',Al R H R' H'->ja R' H H' x r.rv->Q x H'
 |some (.ex x)=>∀e H' R',Al R H R' H'->qi R' H H' e x->E ζ3 ζC H'
 |none=>False
def iT(G:List D->Option Rx):Sp:=λvs H Q E=>∃R ds,ag R H/\aK R vs ds/\V1 R H (G ds) Q E
noncomputable def qX:Res Fl->Option Rx
 |.ex x _=>some (.ex x)
 |r=>(lM r).map .ok
def V2(fin:lM (.ok fl Γ')=some r)(h3:∀x H' R',Al R H R' H'->ja R' H H' x r.rv->Q x H'):sA ios R H σ δA {nx:=λ_ H'=>Q .aq H',rt:=Q} fl Γ':=by
 intro aE H' R' p;cases fl with
 |brk=>cases fin
 |cont=>cases fin
 |nx=>cases fin;exact h3 .aq H' R' p.al .aq
 |ret rv =>
   intro y hy;cases rv with
   |val d=>cases fin;exact h3 y H' R' p.al hy
   |new d=>cases fin;exact h3 y H' R' p.al hy
   |var i =>
     have fin:(match Γ'[i]? with
      |some (some (.own,d))=>some (Rt.new d)
      |some (some (.ae,d))=>some εz
      |_=>none)=some r:=fin
     split at fin
     .rename_i d hs;cases fin;obtain⟨v,hv,sl⟩:=p.er.sl i _ hs;have hy:aE[i]?=some (some y):=hy;rw[hy]at hv;cases hv;obtain⟨a,xs,ds',rfl,r1,r2,r3,r4⟩:=sl;refine h3 _ H' R' p.al ⟨⟨a,xs,ds',rfl,r1,r2,r3,r4⟩,a,rfl,?_⟩;exact(p.go.oo a ⟨i,.own,d,hs,rfl,hy⟩).elim (λz=>absurd z Bu) id
     .rename_i d hs;cases fin;obtain⟨v,hv,sl⟩:=p.er.sl i _ hs;have hy:aE[i]?=some (some y):=hy;rw[hy]at hv;cases hv;exact h3 _ H' R' p.al sl
     .cases fin
def V3(F:nP K x qual st fa fd)(S:ηY)
 (hb:∀(cdv:Value) (A:Around) (outer:δu) (s:Shared) (H:Hp) (E:XK),aH k γx->cC (k9 ηg P w K mg base N qual δy fa cdv A outer s H E) (λ_=>E) [] ηo bm)
 (h:∀ds r,G ds=some r->ds.length=ps.length/\qX ηJ=some r):bB P w K mg base ηg (k+1) fa fd ps ιf:=by
 obtain⟨oc,od,kV,doc,pm,an,cdv,ct,osl,rfl,lk,hcd⟩:=F.ex;refine D8 lk hcd S (λvs H Q E q=>?_) λA outer s H vs Q E hr q=>?_
 .obtain⟨R,ds,_,h2,h3⟩:=q;cases e:G ds with
  |none=>rw[e]at h3;exact h3.elim
  |some r=>rw[h2.len];exact(h ds r e).1
 .obtain⟨R,ds,h1,h2,h3⟩:=q;cases e:G ds with
  |none=>rw[e]at h3;exact h3.elim
  |some r =>
    rw[e]at h3;obtain⟨t,b1,b2⟩:=hb cdv A outer s H E hr;refine⟨t,b1,b2 _ H R _ _ (E5 h1 h2) ?_⟩;have fin:=(h ds r e).2;cases q:bm δA with
    |st=>rw[q]at fin;cases fin
    |ex x Γ' =>
      rw[q]at fin;cases fin;exact λe aE H' R' p qx=>h3 e H' R' p.al qx
    |ok fl Γ' =>
      rw[q]at fin;have fin:(lM (.ok fl Γ')).map Rx.ok=some r:=fin;cases q2:lM (.ok fl Γ') with
      |none=>rw[q2]at fin;cases fin
      |some r' =>
        rw[q2]at fin;cases fin;exact uk (V2 q2 h3)
noncomputable def M.thr{α:Type}(x:Xc):M α:=λΓ=>.ex x Γ
def jX(G:List D->Option Rx)(fs:γg):M RV:=M.bind fs λrvs=>M.bind ηh λds=>match G ds with
 |some (.ok r)=>if rvs.any mI&& !lN r then M.bind δm λds'=>match G ds' with
  |some (.ok r)=>M.pure r.rv
  |_=>M.st
   else M.pure r.rv
 |some (.ex x)=>M.bind δm λds'=>match G ds' with
  |some (.ex x)=>M.thr x
  |_=>M.st
 |none=>M.st
def V4(hp:∀t,PA X es t->PE X e0 (vA ιf [] EE t))(ha:δh):VE X EE ios e0 (jX G fs):=by
 obtain⟨t,h1,h2⟩:=ha;refine⟨_,hp t h1,λσ H R Γ Q er w=>?_⟩;unfold jX at w;rw[aB]at w;refine h2 σ H R Γ _ er (aY w (λrvs ao w xs H1 R1 p1 hx=>?_) λ_ _ z=>z);show iT G (xs++[]) H1 Q θ5;rw[qbE];rw[aB]at w;obtain⟨ds,q,w⟩:=E8 w;obtain⟨ds',pk,e⟩:=vh (K:=λds' _=>ds'=ds) (E:=λ_ _=>False) p1.er hx (by rw[q];exact rfl);subst e;cases hG:G ds' with
 |none=>rw[hG]at w;exact False.elim w
 |some rx =>
   rw[hG]at w;cases rx with
   |ex x =>
     have w:df (M.bind δm (λds'=>match G ds' with
      |some (.ex x)=>M.thr x
      |_=>M.st) ao) _ _:=w
     rw[aB]at w;obtain⟨lP,aC,R2,p2,s2,r2,w⟩:=oY er p1 hx w;refine⟨R2,lP,p2.er.sub,r2,?_⟩;cases o6:G lP with
     |none=>rw[o6]at w;exact False.elim w
     |some ry =>
       rw[o6]at w;cases ry with
       |ok r=>exact False.elim w
       |ex y=>exact λe H' R' al xr=>w e H' R' ζo (xr.back p2.since)
   |ok r =>
     dsimp only at w;by_cases hv:rvs.any mI=true
     .by_cases jG:lN r=true
      .rw[hv,jG]at w;have w:∀x H' R',bt ios R H σ Γ R' H' ao->ip R' H H' σ x r.rv->Q x H':=w;refine⟨lent ζy R1 H1,ds',Bv p1.er.sub,Pks.lent p1.er hx pk q,?_⟩;rw[hG];intro x H' R' al ra;exact w x H' _ (p1.al (Bw p1.er al).1) (Lz er p1 al jG ra)
      .have jG:lN r=false:=by cases z:lN r<;>simp_all
       rw[hv,jG]at w
       have w:df (M.bind δm (λds'=>match G ds' with
        |some (.ok r)=>M.pure r.rv
        |_=>M.st) ao) _ _:=w
       rw[aB]at w;obtain⟨lP,aC,R2,p2,s2,r2,w⟩:=oY er p1 hx w;refine⟨R2,lP,p2.er.sub,r2,?_⟩;cases o6:G lP with
       |none=>rw[o6]at w;exact False.elim w
       |some r' =>
         rw[o6]at w;cases r' with
         |ex y=>exact False.elim w
         |ok r'=>exact λx H' R' al ra=>w x H' R' ζo (ra.rv ηf)
     .have hv:rvs.any mI=false:=by cases z:rvs.any mI<;>simp_all
      rw[hv]at w;have w:∀x H' R',bt ios R H σ Γ R' H' ao->ip R' H H' σ x r.rv->Q x H':=w;refine⟨R1,ds',p1.er.sub,Ly hx hv q,?_⟩;rw[hG];exact λx H' R' al ra=>w x H' R' θq θw
def jY(P:Program)(w:World)(mg:M2)(base:Heap)(x:Str)(k:Nat)(ps:v6)(sp:Sp):Prop:=∃f fd,bB P w KC.K mg base ηg k f fd ps sp/\mg x=some γ0/\W.keepIn KC.K γ0=true/\Binds KC.K fd ps []
def mJ{G:List D->Option Rx}{x:Str}{k:Nat}{ps:v6}{p0:Pos}(hX:ζQ)(C:jY X.prog X.w X.mg X.base x k ps ιf)(hr:δ3)(hg:εX)(ha:VA X EE ios (e::es) fs)(hK:X.K=KC.K:=by rfl)(hdb:(x == ("__debug__":Str))=false:=by decide)
 (he:starEach (e::es) X.env=(false,eval e X.env)::starEach es X.env:=by rfl) (hpl:(backTo pos γl).any (·.1)=false:=by rfl):VE X EE ios (.Call (.Name x p0) (e::es) [] pos) (jX G fs):=by obtain⟨f,fd,F,hm,hk,hb⟩:=C;rw[<-hK]at F hk hb;exact V4 (λt h=>V0 F hr hg hm hk hb .nil hX h hdb he hpl) ha
def uq(A0:At mg x st)(S:ηY)
 (bd:∀(kV doc pm:Value) (an:δa) (cdv ct:Value) (us:v4),us.length=ps.length->bindArgs γH ⟨us,[]⟩=pure εs)
 (hb:∀(fa:Addr) (cdv:Value) (A:Around) (outer:δu) (s:Shared) (H:Hp) (E:XK),aH k ζe->cC (k9 ηg P w KC.K mg base N x δy fa cdv A outer s H E) (λ_=>E) [] ηo bm)
 (h:∀ds r,G ds=some r->ds.length=ps.length/\qX ηJ=some r):jY P w mg base x (k+1) ps ιf:=
 let ⟨f,fd,F,hm,hk⟩:=A0
 ⟨f,fd,V3 F S (hb f) h,hm,hk,F.binds bd⟩
noncomputable def fq(n:Nat)(N:v6)(bm:M Fl):List D->Option Rx:=λds=>if ds.length=n then qX ηJ else none
def ur(h:fq n N bm ds=some r):ds.length=n/\qX ηJ=some r:=by
 unfold fq at h;split at h
 .rename_i c;exact⟨c,h⟩
 .cases h
end
section
variable{X:Cx}{EE:br}{ios:zzd}{e a b c:Expr}{es:zza}{f g:M RV}{fs:γg}{p:δC}{s s':M Fl}{st:Stmt}{sts jC:δK}{pos cpos p0:Pos}{x:Str}
def V5{R H:Hp}{p:Addr}{o:HO}(s:θA)(hp:H p=none):Al R H R (upd H p o):=
 ⟨λb u e=>by rw[bA (iN ηq hp)];exact s _ _ e,ag.refl _,lG hp,λ_ _ _ r=>r⟩
def FN(C:Addr)(y:Str):Sp:=λvs H Q _=>∃a v fr,vs=[.ref a,v]/\H a=some εQ/\∀d,H d=none->d≠a->Q .aq (upd (upd H d (m5 d [(y,v)])) a εF)
structure Me(P:Program)(w:World)(mg:M2)(base:Heap)(C:Cn)(ps:v6)(sp:Sp):Prop where
 ex:∃fI fd,XMk KC.K θ fI/\bB P w KC.K mg base jt 1 fI fd ps sp/\Binds KC.K fd ps []
 z:xm KC.K θ
noncomputable def o8(C:Cn)(ns:v6)(fs:γg):M Fl:=M.bind fs λrvs=>M.bind δm λds=>if ds.length=ns.length/\ds.length<=1000 then M.thr ⟨C,ns.zip ds⟩ else M.st
def sI(hX:ζQ)(I:Me X.prog X.w X.mg X.base C ["self",y] (FN θ y))(hr:δ3)(hk:2<=k)(hm:X.mg x=some ηw)(ha:VA X EE ios (e::es) fs)(hg:εX:=by rfl)(hc:X.calm=true:=by rfl)(hK:X.K=KC.K:=by rfl)(hdb:(x == ("__debug__":Str))=false:=by decide)
 (he:starEach (e::es) X.env=(false,eval e X.env)::starEach es X.env:=by rfl) (hpl:(backTo cpos γl).any (·.1)=false:=by rfl):VS X EE ios (.Raise (some (.Call (.Name x p0) (e::es) [] cpos)) none pos) (o8 C [y] fs):=by
 obtain⟨t,h1,h2⟩:=ha;obtain⟨⟨fI,fd,i1,i2,i3⟩,z⟩:=I;refine⟨_,Tt hX hc (by rw[hK];exact i1) (by rw[hK];exact z) (by rw[hK];exact i2) (hr.mono hk) hg hm (by rw[hK];exact i3) .nil h1 hdb he hpl,λσ H R Γ D er w=>?_⟩;unfold o8 at w;rw[aB]at w;refine h2 σ H R Γ _ er (aY w (λrvs ao w xs H1 R1 p1 hx=>?_) λ_ _ z=>z.exp);rw[aB]at w;obtain⟨ds,aC,R2,p2,s2,r2,w⟩:=oY er p1 hx w;split at w
 .rename_i hl;obtain⟨hl,hl2⟩:=hl
  match ds,hl with
  |[d],_ =>
    obtain⟨v,rfl,rv⟩:∃v,xs=[v]/\Rp R2 v d:=by cases r2 with|cons rv r=>cases r;exact⟨_,rfl,rv⟩
    refine⟨by simp,λa na=>?_⟩;refine⟨a,v,true,rfl,fS,λd' nd ne=>⟨rfl,some d',fS,?_⟩⟩;have BK:H1 d'=none:=by rwa[bA ne]at nd
    have fa:R2 a=none:=p2.er.sub.free na;have fd':R2 d'=none:=p2.er.sub.free BK;refine w a σ _ R2 (p2.al ⟨λb u q=>?_,ag.refl _,λb u q=>?_,λ_ _ _ r=>r⟩).jB ⟨fa,p2.since _ na,.inr ⟨d',[(y,v)],fS,?_,fd',p2.since _ BK,rfl,.cons rv .nil⟩⟩
    .have q':=p2.er.sub _ _ q;rw[DH,bA (iN q' na),bA (iN q' BK),bA (iN q' na)];exact q'
    .rw[DH,bA (iN q na),bA (iN q BK),bA (iN q na)];exact q
    .rw[DH,bA ne,fS]
 .exact False.elim w
def V6(EE:br)(ios:zzd)(f:M Fl):TS:=λD σ H=>∃R Γ,ER ios R H σ Γ/\df (f Γ) εE δS
def cC.pss(h:ηI):PSs X sts (V6 EE ios s):=let ⟨_,h1,h2⟩:=h;λpins s σ H D I ⟨R,Γ,er,w⟩=>h1 pins s σ H D I (h2 σ H R Γ D er w)
noncomputable def qp(x:Xc):D:=.ins x.C (x.fs.map (·.1)) (x.fs.map (·.2))
noncomputable def yi(mt:Cn->Bool)(i:Nat)(body suite:M Fl):M Fl:=λΓ=>match body Γ with
 |.ok fl Γ'=>.ok fl Γ'
 |.ex x Γ'=>if mt x.C then match suite (Γ'.set i (some (.ae,qp x))) with
  |.ok .nx uu=>.ok .nx (uu.set i none)
  |_=>.st
   else .st
 |.st=>.st
def cB.ext1{R H R1 H1:Hp}{σ gM:St}{Γ ao:En}{a:Addr}(p:δB)(ra:R1 a=none)(h0:H a=none)(no:¬Ow gM ao a):cB ios R H σ Γ (ext R1 H1 a) H1 gM ao:=by
 have rr:ag R1 (ext R1 H1 a):=vc ra;refine⟨⟨AW p.er.sub,p.er.len,λj t hj=>?_,p.er.dj⟩,⟨p.go.rr.trans rr,p.go.hh,λb o hb nb rb=>?_,p.go.oo,p.go.th⟩⟩
 .obtain⟨v,hv,s⟩:=p.er.sl j t hj;refine⟨v,hv,s.mono rr λho b ys eb hb rb=>⟨hb,?_⟩⟩;rw[qh]
  .exact rb
  .rintro rfl;subst eb;exact no ⟨j,t.1,t.2,hj,ho,hv⟩
 .rw[qh]
  .exact p.go.no b o hb nb rb
  .rintro rfl;rw[h0]at hb;cases hb
def V7{σ:St}{Γ:En}{i:Nat}{b:Addr}(h:Ow (σ.set i none) (Γ.set i none) b):Ow σ Γ b:=by
 obtain⟨j,k,d,h1,h2,h3⟩:=h;by_cases hj:j=i
 .subst hj;rw[List.getElem?_set]at h1;simp at h1
 .rw[qak ηE]at h1 h3;exact⟨j,k,d,h1,h2,h3⟩
def cB.unset(er:γk):cB ios R H σ Γ R H (σ.set i none) (Γ.set i none):=by
 have ne:∀{j:Nat}{t:Kd×D},(Γ.set i none)[j]?=some (some t)->j≠i/\Γ[j]?=some (some t):=λ{j t} h=>by
  by_cases hj:j=i
  .subst hj;rw[List.getElem?_set]at h;simp at h
  .exact⟨hj,by rwa[qak ηE]at h⟩
 refine⟨⟨er.sub,by rw[qbc,qbc];exact er.len,λj t hj=>?_,λj j' l l' d d' b q1 q2 q3 q4 q5 q6=>?_⟩,⟨ag.refl _,λ_ _ h _=>h,λ_ _ _ _ r=>r,λb z=>.inl (V7 z),λb o h=>⟨o,h⟩⟩⟩
 .obtain⟨n1,n2⟩:=ne hj;obtain⟨v,hv,s⟩:=er.sl j t n2;exact⟨v,by rw[qak (qa5 n1)];exact hv,s⟩
 .obtain⟨n1,n2⟩:=ne q1;obtain⟨m1,m2⟩:=ne q3;rw[qak (qa5 n1)]at q5;rw[qak (qa5 m1)]at q6;exact er.dj j j' l l' d d' b n2 q2 m2 q4 q5 q6
def caught{R H R1 H1:Hp}{σ gM:St}{Γ ao:En}{x:Xc}{e:Addr}(p:δB)(h:qi R1 H H1 e x):∃R2,cB ios R H σ Γ R2 H1 gM ao/\Rp R2 εR (qp x):=by
 obtain⟨re,h0,h⟩:=h
 have no:∀b (o:HO),H1 b=some o->(∀xs,o≠.lst xs) -> ¬Ow gM ao b:=λb o hb hn z=>by obtain⟨_,xs,q⟩:=p.er.ow z;rw[hb]at q;cases q;exact hn xs rfl
 rcases h with ⟨hf,he⟩|⟨d,fs,he,hd,rd,d0,hn,hv⟩
 .refine⟨ext R1 H1 e,p.ext1 re h0 (no e _ he (by intro xs z;cases z)),?_⟩;unfold qp;rw[hf];exact .m8 (by rw[qO];exact he)
 .have p2:=p.ext1 re h0 (no e _ he (by intro xs z;cases z));have s2:ag R1 (ext R1 H1 e):=vc re;by_cases ed:d=e
  .subst ed;refine⟨_,p2,?_⟩;unfold qp;rw[<-hn];exact .exc (by rw[qO];exact he) (by rw[qO];exact hd) (hv.sm s2)
  .have Mf:ext R1 H1 e d=none:=by rw[qh ed];exact rd
   have s3:ag (ext R1 H1 e) (ext (ext R1 H1 e) H1 d):=vc Mf;refine⟨_,p2.ext1 Mf d0 (no d _ hd (by intro xs z;cases z)),?_⟩;unfold qp;rw[<-hn];exact .exc (by rw[qh (qa5 ed),qO];exact he) (by rw[qO];exact hd) (hv.sm (s2.trans s3))
def V8{K:zze}{cs:v4}{i:Nat}{tb:br->TS}{ts:TS}{mt:Cn->Bool}(hm:∀C,mt C=true->aV K θ cs=some true)(hb:∀sJ,qR sJ ios (tb sJ) s)(hs:qR EN ios ts s'):qR EE ios (KA K cs i tb ts) (yi mt i s s'):=by
 intro σ H R Γ D er w;unfold yi at w;refine hb _ σ H R Γ D er ?_;cases h:s Γ with
 |st=>rw[h]at w;exact w
 |ok fl Γ'=>rw[h]at w;exact w
 |ex x Γ' =>
   rw[h]at w;dsimp only at w;split at w
   .rename_i c;intro e gM H1 R1 p xr;refine⟨e,KC.cls x.C,rfl,rfl,hm _ c,?_⟩;obtain⟨R2,p2,rp⟩:=caught p xr;have p3:cB ios R H σ Γ R2 H1 (gM.set i (some εR)) (Γ'.set i (some (.ae,qp x))):=p2.trans (cB.set (s:=(.ae,qp x)) p2.er (bt.refl p2.er) rp λz=>nomatch z);refine hs _ H1 R2 _ _ p3.er ?_;cases h2:s' (Γ'.set i (some (.ae,qp x))) with
    |st=>rw[h2]at w;exact w.elim
    |ex _ _=>rw[h2]at w;exact w.elim
    |ok fl aC =>
      rw[h2]at w;cases fl with
      |nx =>
        intro j9 H4 R4 p4;exact w (j9.set i none) H4 R4 ((p3.trans p4).trans (cB.unset p4.er))
      |brk=>exact w.elim
      |cont=>exact w.elim
      |ret _=>exact w.elim
   .exact w.elim
noncomputable def sub(C T:Cn):Bool:=C == T || (T == .PointError&&(match C with
 |.NoPoints|.rW|.NoAsks|.rX|.NoText|.oS|.NoTree|.rY|.i_|.rZ=>true
 |_=>false))
noncomputable def yj(L:ηe)(s:Cn->Bool):D->Option RV
 |.eZ _=>none
 |.obj _ _ _=>none
 |.ins C _ _=>if L.contains C then some (.val (.bl (s C))) else none
 |_=>some γs
noncomputable def uv(L:ηe)(s:Cn->Bool)(f:M RV):M RV:=M.bind (ql f) λx=>M.bind ε6 λd=>M.d9 (yj L s d)
noncomputable abbrev FO(L:ηe)(T:Cn)(f:M RV):M RV:=uv L (λC=>sub C T) f
noncomputable def o9:List String:=["NoneType","bool","int","str","list","tuple","dict"]
structure KitX(L:ηe)(T:Cn):Prop where
 own:∀C,L.contains C=true->W.kitOne KC.K ηw (.ref εy)=some (sub C T)/\XC KC.K θ
 no:∀t∈o9,W.kitOne KC.K (.type t) (.ref εy)=some false
def BL(h:plain d=true):vk d∈o9:=by cases d<;>first| (cases h;done)|simp[vk,o9]
def V9{L:ηe}{s:Cn->Bool}{e0:Expr}{c:V}{cv:Value}(hcv:va c=some cv)(own:∀C,L.contains C=true->W.kitOne KC.K ηw cv=some (s C)/\XC KC.K θ)(no:∀t∈o9,W.kitOne KC.K (.type t) cv=some false)(hp:∀t,PE X a t->PE X e0 (rN (λxs H Q=>∃x c t cv b,xs=[x,c]/\va c=some cv/\xn X.K H x t/\W.kitOne X.K t cv=some b/\Q ζc H) (j7 t (j7 (tC c) oI))))(ha:γo)(hK:X.K=KC.K:=by rfl):VE X EE ios e0 (uv L s f):=by
 obtain⟨t,h1,h2⟩:=ha;refine⟨_,hp t h1,λσ H R Γ Q er w=>?_⟩;unfold uv at w;rw[aB]at w;refine xI h2 er (aY w (λrx ao w x H1 R1 p1 hx=>?_) λ_ _ z=>z);rw[aB]at w;obtain⟨d,pd,w⟩:=m9 (H:=H) p1.er hx.rv w;have hv:=pd.hv p1.er.sub;obtain⟨rv,hg,w⟩:=ke w;by_cases pl:plain d=true
 .have hg:rv=.val ζA:=by cases d<;>first| (cases pl;done)|exact(qaH hg).symm
  subst hg;exact⟨x,c,_,cv,_,rfl,hcv,.inl (hv.ty pl),by rw[hK];exact no _ (BL pl),w _ H1 R1 p1 ζB⟩
 .cases d with
  |ins C ns vs =>
    unfold yj at hg;dsimp only at hg;split at hg
    .rename_i hc;cases hg;obtain⟨k1,k2⟩:=own C hc
     have ty:∃a,x=.ref a/\oQ H1 a θ:=by
      cases hv with
      |m8 q=>exact⟨_,rfl,false,.inl q⟩
      |exc q q' _=>exact⟨_,rfl,false,.inr ⟨_,_,q,q'⟩⟩
     obtain⟨a',rfl,ea⟩:=ty;exact⟨.ref a',c,.ref θ,cv,_,rfl,hcv,.inr ⟨a',KC.cls C,rfl,rfl,ea,by rw[hK];exact k2⟩,by rw[hK];exact k1,w _ H1 R1 p1 ζB⟩
    .cases hg
  |eZ _=>cases hg
  |obj _ _ _=>cases hg
  |_=>exact absurd rfl pl
def V_(kit:KitX L T)(hp:∀t,PE X a t->PE X e0 (rN (λxs H Q=>∃x c t cv b,xs=[x,c]/\va c=some cv/\xn X.K H x t/\W.kitOne X.K t cv=some b/\Q ζc H) (j7 t (j7 (tC (.ref εy)) oI))))(ha:γo)(hK:X.K=KC.K:=by rfl):VE X EE ios e0 (FO L T f):=V9 rfl kit.own kit.no hp ha hK
end
section
variable{X:Cx}{EE:br}{ios:zzd}{e a b c:Expr}{es:zza}{f g:M RV}{fs:γg}{p:δC}{pos p0 p1 p2 pos':Pos}
noncomputable def BM(L:ηe)(y:Str)(f:M RV):M RV:=M.bind f λx=>M.bind (mat x) λd=>match d with
 |.ins C ns vs=>if L.contains C then M.d9 (((ns.zip vs).lookup y).map .val) else M.st
 |_=>M.st
theorem FP:∀{fs:List (Str×V)}{vs:γe}{d:D},aK R (fs.map (·.2)) vs->((fs.map (·.1)).zip vs).lookup y=some d->∃v,fs.lookup y=some v/\Rp R v d
 |[],_,_,h,e=>by cases h;cases e
 | (n,v)::r,_,d,h,e=>by
   cases h with
   |cons a b =>
     rw[qaP,List.zip_cons_cons,qbm]at e;rw[qbm];cases q:y == n with
     |true =>
       rw[q]at e;simp only at e;cases e;exact⟨v,rfl,a⟩
     |false =>
       rw[q]at e;exact FP b e
def Wa{L:ηe}(hA:∀C,L.contains C=true->XC KC.K θ/\a9 KC.K θ y)(ha:γX)(hb:attributeBase e y X.env εK=eval e X.env)(hK:X.K=KC.K:=by rfl):VE X EE ios θJ (BM L y f):=by
 obtain⟨t,h1,h2⟩:=ha;refine⟨_,Th h1 hb,λσ H R Γ Q er w=>?_⟩;unfold BM at w;rw[aB]at w;refine h2 σ H R Γ _ er (aY w (λrx ao w x H1 R1 p1 hx=>?_) λ_ _ z=>z);rw[aB]at w;obtain⟨d,aC,R2,p2,s2,r2,w⟩:=oV er p1 hx w;cases d with
 |ins C ns vs =>
   dsimp only at w;split at w
   .rename_i hc;obtain⟨rv,hg,w'⟩:=ke w;obtain⟨d,hd,rfl⟩:=qbw.mp hg;obtain⟨k1,k2⟩:=hA C hc;clear w;cases r2 with
    |m8 q=>cases hd
    |exc q q' hv =>
      obtain⟨v,l1,l2⟩:=FP hv hd;exact⟨_,_,_,_,_,v,rfl,p2.er.sub _ _ q,p2.er.sub _ _ q',by rw[hK];exact k1,by rw[hK];exact k2,l1,w' v H1 R2 p2 l2⟩
   .exact False.elim w
 |_=>exact False.elim w
end
end Dv
namespace Dv
open PySem L2 Ex
section
variable{Γ Γ':En}{f g:M RV}{fs:γg}{p:δC}{s s':M Fl}{d:D}{i:Nat}{x:Xc}{C T:Cn}{L:ηe}{y:Str}
@[simp] def Mh{α:Type}:(M.thr x:M α) Γ=.ex x Γ:=rfl
@[simp] def BN:jX G fs Γ=M.bind fs (λrvs=>M.bind ηh λds=>match G ds with
 |some (.ok r)=>if rvs.any mI&& !lN r then M.bind δm λds'=>match G ds' with
  |some (.ok r)=>M.pure r.rv
  |_=>M.st
   else M.pure r.rv
 |some (.ex x)=>M.bind δm λds'=>match G ds' with
  |some (.ex x)=>M.thr x
  |_=>M.st
 |none=>M.st) Γ:=rfl
@[simp] def BO:o8 C ns fs Γ=M.bind fs (λrvs=>M.bind δm λds=>if ds.length=ns.length/\ds.length<=1000 then M.thr ⟨C,ns.zip ds⟩ else M.st) Γ:=rfl
@[simp] theorem Mi{mt:Cn->Bool}:yi mt i s s' Γ=match s Γ with
 |.ok fl Γ'=>.ok fl Γ'
 |.ex x Γ'=>if mt x.C then match s' (Γ'.set i (some (.ae,qp x))) with
  |.ok .nx uu=>.ok .nx (uu.set i none)
  |_=>.st
   else .st
 |.st=>.st:=rfl
@[simp] def FQ:BM L y f Γ=M.bind f (λx=>M.bind (mat x) λd=>match d with
 |.ins C ns vs=>if L.contains C then M.d9 (((ns.zip vs).lookup y).map .val) else M.st
 |_=>M.st) Γ:=rfl
@[simp] def Wb:qX (.ex x Γ)=some (.ex x):=rfl
@[simp] def Wc:qX (.ok fl Γ)=(lM (.ok fl Γ)).map .ok:=rfl
end
end Dv
namespace L2
open PySem PySem.Spec PyProof.Rows Ex
section
variable{X:Cx}
def km:aM X (.builtin "repr") (λxs H Q=>∃x:Str,xs=[.str x]/\(reprText x).length<=sizeLine/\Q θ6 H):=by intro pins s σ H xs us Q I r h;obtain⟨x,rfl,hx,q⟩:=h;obtain⟨u,rfl,ru⟩:=r.one;obtain⟨t,rfl⟩:=ru;exact PySem.P.repr_of_str ⟨.str (reprText x),H,I.kept (λ_ _ e=>e),⟨_,rfl⟩,q⟩ hx
end
section
variable{X:Cx}
def Inv.drawn(I:δ)(d:Drawn):Inv X pins σ H {s with drawn:=d}:=⟨I.ok,I.os,I.bare,I.base,I.loc,I.cell,I.free,I.b_,I.pin,I.hok,I.len⟩
noncomputable def BP(X:Cx)(p:Addr)(l:u8):HO:=.ext λh=>St.ij (X.w.params.followText "set-order") h p l
noncomputable def dd(ns:u8):u8:=ns.foldl step_dedup []
def Wd(calm:X.calm=true):aM X (.type "set") (λxs H Q=>∃(p:Addr) (ns:u8),xs=[.ref p]/\cJ X.K H p γN/\ns.length<64/\∀l,H l=none->Q (.ref l) (upd H l (BP X l θ0))):=by intro pins s σ H xs us Q I r h;obtain⟨p,ns,rfl,hS,hn,q⟩:=h;obtain⟨u,rfl,ru⟩:=r.one;cases ru;obtain⟨its,rv,pl,hz⟩:=I.list hS;have hl:=rv.length;rw[qag]at hl;refine St.set_list θS pl.isList (by simpa using intsAre_of rv) (by simp;unfold scanBound;omega) λh' tk S k=>?_;have S0:=S;obtain⟨es,ep,t,e,_⟩:=S0;exact⟨.ref s.heap.objs.size,_,I.laid (t':=tk) (o:=BP X s.heap.objs.size θ0) k γI ⟨S,⟨_,e⟩,λh1 h2 x y=>x.at y⟩,rfl,q _ ηu⟩
def We(calm:X.calm=true):aM X (.builtin "sorted") (λxs H Q=>∃(p:Addr) (l:u8),xs=[.ref p]/\H p=some (BP X p l)/\l.length<64/\∀(q:Addr) (ns:u8),H q=none->ns.Perm l->ns.Pairwise (· <= ·)->Q (.ref q) (upd H q (.lst γN))):=by
 intro pins s σ H xs us Q I r h;obtain⟨p,l,rfl,hp,hn,q⟩:=h;obtain⟨u,rfl,ru⟩:=r.one;cases ru;obtain⟨S,_⟩:=I.hok p _ hp;refine St.lC θS S hn λh' d tk p' out e ns le k g ia pm pw=>?_;refine⟨.ref p',upd H p' (.lst γN),(I.laid (t':=tk) (o:=.lst γN) k le ⟨?_,out.toList,e,Ki ia,by simpa using g⟩).drawn d,rfl,q _ ns (I.hok.fresh le) pm pw⟩;rw[qag,pm.length_eq];have z:(64:Nat)<=sizeLine:=by decide
 omega
def ko:aM X (.builtin "repr") (λxs H Q=>∃b:Bool,xs=[.bl b]/\Q (.str (if b then "True" else "False")) H):=by intro pins s σ H xs us Q I r h;obtain⟨b,rfl,q⟩:=h;obtain⟨u,rfl,ru⟩:=r.one;cases ru;exact PySem.P.repr_of_bool ⟨.str _,H,I.kept (λ_ _ e=>e),⟨_,rfl⟩,q⟩
def Wf(ns:u8):(dd ns).length<=ns.length:=by have:=St.oy ns [];simpa [dd]using this
end
end L2
namespace Dv
open PySem L2 Ex
variable[KC]
def uw:List D->Option RV
 |[.lst ds]=>(oZ ds).bind λns=>if ns.length<64 then some (.new (.lst ((jb θ0).map D.int))) else none
 |_=>none
section
variable{X:Cx}{EE:br}{ios:zzd}{e:Expr}{fs:γg}{pos p0 p1 p2:Pos}
def BQ(hl:X.mg "sorted" = none)(hg:Gl X "sorted")(hr:X.mg "set" = none)(hg':Gl X "set")(hc:X.calm=true)(hK:X.K=KC.K)(ha:VA X EE ios [e] fs)(hs:starEach [.Call (.Name "set" p1) [e] [] p2] X.env=[(false,eval (.Call (.Name "set" p1) [e] [] p2) X.env)]:=by rfl)
 (he:starEach [e] X.env=[(false,eval e X.env)]:=by rfl):VE X EE ios (.Call (.Name "sorted" p0) [.Call (.Name "set" p1) [e] [] p2] [] pos) (cD uw fs):=by
 obtain⟨t,h1,h2⟩:=ha;refine⟨_,tO (We hc) hg hl (by decide +kernel) (jR (qd (Wd hc) hg' hr (by decide +kernel) h1 (he:=he) (hpl:=rfl)) qc (hs:=hs)) (he:=hs) (hpl:=rfl),λσ H R Γ Q er w=>?_⟩;unfold cD at w;rw[aB]at w;refine h2 σ H R Γ _ er (aY w (λrvs ao w xs H1 R1 p1 hx=>?_) λ_ _ z=>z);rw[aB]at w;obtain⟨ds,pd,w⟩:=vh p1.er hx w;obtain⟨rv,hg,w⟩:=ke w;unfold uw at hg;split at hg
 .rename_i l;cases h:oZ l with
  |none=>rw[h]at hg;cases hg
  |some ns =>
    rw[h]at hg;have hg:(if ns.length<64 then some (RV.new (.lst ((jb θ0).map D.int))) else none)=some rv:=hg;split at hg
    .rename_i c;cases hg;obtain⟨x,rfl,p⟩:=pd.one;obtain⟨a,ys,rfl,g1,g2⟩:=p.lst p1.er.sub;rw[EO h]at g2;rw[g2.j_]at g1;refine⟨a,ns,rfl,cJ.of g1,c,λl hl=>?_⟩;refine⟨l,dd ns,rfl,fS,Nat.lt_of_le_of_lt (Wf ns) c,λq ns' hq pm pw=>?_⟩;have e:ns'=jb θ0:=UQ (pm.trans (Bd _).symm) pw (Lb _);have sL:Al R1 H1 R1 (upd H1 l (BP X l θ0)):=V5 p1.er.sub hl;obtain⟨al,rv⟩:=oX sL.sub hq (aK.ints (R:=R1) (jb θ0));rw[e];exact w _ _ _ ((p1.al sL).al al) (rv.rv ((p1.al sL).back er))
    .cases hg
 .cases hg
end
end Dv
namespace Ex
open PySem PySem.Spec PyProof.Rows
noncomputable def FR(el:Expr)(env:Env)(acc:Value):Sem Unit:=do let v <-eval el env;standAt el.pos;let _ <-call (.builtin "set.add") [acc,v]
def Wg(h0:codeAny ε A (.compLoop (.SetComp el [⟨tg,src,ifs,0⟩] sc pos) 0 it acc env) R s)
 (h:wpAny ε A (pyIter it) (λit' s'=>codeAny ε A (.compLoop (.SetComp el [⟨tg,src,ifs,0⟩] sc pos) 0 it' acc env) R s') (notedBy ε A env λx s'=>R (.error x) s') s) :
 codeAny ε A (.compStart (.SetComp el [⟨tg,src,ifs,0⟩] sc pos) 0 it acc env) R s:=by
 refine codeAny_of_tree (show wpAny _ _ ((compStart (.SetComp el [⟨tg,src,ifs,0⟩] sc pos) 0 it acc env).onRaise (λx=>do noteFrame x env;standAt theWindowsPlace)) _ _ s from wpAny_notedAt ?_);unfold compStart;refine(show wpAny _ _ (ask >>= _) _ _ s from qaa (qbG (wpAny_ite ?_)));split
 .first
   |exact qaa (qad (qad (And.intro rfl h0)))
   |exact qad (And.intro rfl h0)
 .refine qaa ?_;refine wpAny_rule (show wpAny _ _ (standAt src.pos >>= _) _ _ s from qaa (qbB (qaa ?_)));exact qa6 h (λit' s' q=>qad (And.intro rfl q)) λ_ _ z=>z
def Wh{w:World}{s:Shared}(h:Q γd {s with heap:=s.heap.push (St.bT #[] 0 (.fresh 0 0 (!(w.params.followText "set-order"))))}):wpAny ε A (newSet (.type "set")) Q E s:=by unfold newSet setsByText;refine qaa (qaa ?_);refine qbG (qad ?_);dsimp only;simp only[newObj];exact qaa (wpAny_alloc (qad h))
end Ex
namespace L2
open PySem PySem.Spec PyProof.Rows Ex St
section
variable{X:Cx}{pins:W1}{σ:θF}{H:Hp}{s:Shared}
def nO(X:Cx):Obj:=bT #[] 0 (.fresh 0 0 (!(X.w.params.followText "set-order")))
noncomputable def Wi(X:Cx)(D:Addr)(zs:ζk):HO:=.ext λh=>gh (X.w.params.followText "set-order") h D zs
def FT{c:Int×Int}(ok:δG)(e:H p=some (.tup [.int c.1,.int c.2])):dS h c p:=by
 obtain⟨_,its,rv,o,g,cl,n,d⟩:=ok p _ e;cases rv with
 |cons r1 rv =>
   cases rv with
   |cons r2 rv =>
     cases rv;obtain⟨t,rfl⟩:=r1;obtain⟨u,rfl⟩:=r2;exact⟨o,_,n,t,u,g,cl,d,rfl⟩
structure SK(X:Cx)(β:Type) where
 F:Addr->β->Heap->Prop
 e0:β
 AD:β->V->Hp->(β->Prop)->Prop
 nw:∀(D:Addr) (h:Heap),h.get? D=some (nO X)->F D e0 h
 st:∀(D:Addr) (b:β) (h1 h2:Heap),F D b h1->(∀o,h1.get? D=some o->h2.get? D=some o)->F D b h2
 ob:∀(D:Addr) (b:β) (h:Heap),F D b h->∃o,h.get? D=some o
 add:∀(D:Addr) (b:β) (y:V) (v:Value) (H:Hp) (s:Shared) (P:β->Prop) (Q:T0) (E:T0),dZ X.prog X.w H s.heap->RelV y v->F D b s.heap->AD b y H P ->
  (∀h' tk b',Heap.SameBut D s.heap h'->F D b' h'->P b'->Q .none {s with heap:=h',toks:=tk})->wpAny ζ X.A (call (.builtin "set.add") [.ref D,v]) Q E s
noncomputable abbrev SK.O{β:Type}(S:SK X β)(D:Addr)(b:β):HO:=.ext (S.F D b)
def SK.ok{β:Type}(S:SK X β){b:β}(z:S.F D b h):aI X.prog X.w H h D (S.O D b):=⟨z,S.ob D b h z,λh1 h2 x y=>S.st D b h1 h2 x y⟩
def Mj{β:Type}(S:SK X β)(te:TE):xq β:=λσ H D ys K=>te σ H λy H6=>H6 D=some (S.O D ys)/\S.AD ys y H6 λys'=>K ys' (upd H6 D (S.O D ys'))
abbrev Wj{β:Type}(S:SK X β)(fr:zzc)(own:Nat)(wi:TI)(g:TG)(tc:TT)(te:TE):TE:=AV S.O S.e0 fr own wi g tc (λ_=>True) (Mj S te)
def Wk{β:Type}(S:SK X β){Y:Cx}{el:Expr}{te:TE}(hx:Y.xe=λ_ _=>False)(hp:Y.prog=X.prog/\Y.w=X.w/\Y.A=X.A)(he:PE Y el te):Es S.O Y (λ_=>True) (Mj S te) (FR el Y.env):=by intro pins s σ H D ys K J _ q;unfold FR;refine qaa (qa6 (he pins s σ H _ J q) (λv s8 zq=>?_) λ_ _ z=>by rw[hx]at z;exact z);obtain⟨y,H8,J8,r8,e8,w8⟩:=zq;obtain⟨p1,p2,p3⟩:=hp;have ok:=J8.hok;rw[p1,p2]at ok;obtain⟨S8,_⟩:=ok _ _ e8;rw[p1,p2,p3];refine qaa (qbB (qaa (S.add _ ys y v H8 _ _ _ _ ok r8 S8 w8 λh' tk ys' sb S' hy=>qad ?_)));exact⟨_,ys',J8.write (t':=tk) (o:=S.O D ys') (by rw[e8];trivial) γJ (λb u hb e=>(sb.2 b hb).trans e) (S.ob _ _ _ S') (by rw[p1,p2];exact S.ok S'),fS,hy⟩
def Wl{elt tg iter:Expr}{ifs:zza}{scope:Scope}{pos:Pos}{Nc:v6}{own:Nat}{fr:zzc}{wi:TI}{g:TG}{tc:TT}{te:TE}{β:Type}(S:SK X β)(hc:X.calm=true)(B:δl)(hi:ηc)(hog:qg own g)
 (hg:∀cl C s3 H3 fp pn',PG (X.blk Nc scope cl C s3 H3 fp pn' λ_ _=>False) tg g) (ht:∀cl C s3 H3 fp pn',tW (X.blk Nc scope cl C s3 H3 fp pn' λ_ _=>False) ifs tc) (he:∀cl C s3 H3 fp pn',PE (X.blk Nc scope cl C s3 H3 fp pn' λ_ _=>False) elt te)
 (hs:∀x,foldedSetIterable iter X.env x=pure x:=by intro _;rfl):PE X (.SetComp elt [⟨tg,iter,ifs,0⟩] scope pos) (Wj S fr own wi g tc te):=by intro pins s σ H Q I h;show wpAny _ _ (comprehension (.SetComp elt [⟨tg,iter,ifs,0⟩] scope pos) scope X.env _ (newSet (.type "set")) false ηs) _ _ _;exact Eu (o0:=nO X) (gs:=[]) (act:=FR elt) (QQ:=EP X pins σ Q) hc B hi hog hg ht (λ_ _ _=>rfl) (λcl C s3 H3 fp pn'=>Wk S rfl ⟨rfl,rfl,rfl⟩ ηX) rfl (λ_ _ _=>⟨rfl,rfl⟩) rfl Wh (λe=>S.ok (S.nw _ _ e)) Wg hs I h λL C H3 s4 hn f xt q=>let ⟨m,hm⟩:=hn; ⟨m,hm,λh' sb=>⟨.ref L,H3,xt h' sb,rfl,q⟩⟩
noncomputable def FU(hu:X.A.units+1<cLine):SK X ζk where
 F:=λD zs h=>gh (X.w.params.followText "set-order") h D zs
 e0:=[]
 AD:=λys y H P=>ys.length<600/\∃(p:Addr) (c:Int×Int),y=.ref p/\H p=some (.tup [.int c.1,.int c.2])/\eK c/\(∀z∈ys,H z.2=some (.tup [.int z.1.1,.int z.1.2]))/\∀ys',((ys'=ys/\c∈ys.map (·.1))\/(ys'.Perm ((c,p)::ys)/\c∉ys.map (·.1)))->P ys'
 nw:=λD h e=>gh.fresh _ e
 st:=λD b h1 h2 x y=>x.at y
 ob:=λD b h z=>let ⟨_,_,_,e,_⟩:=z; ⟨_,e⟩
 add:=λD b y v H s P Q E ok r S ad q=>by obtain⟨hl,p,c,rfl,hp,sm,tz,k⟩:=ad;cases r;exact QK hu S (λz hz=>FT ok (tz z hz)) (FT ok hp) sm hl λh' tk ys' sb S' hy=>q h' tk ys' sb S' (k ys' hy)
end
end L2
namespace Ti
open PySem PyProof.Rows
noncomputable def vC:Bool->Keyed->Array Keyed->Nat->Nat->Nat->StateT SortSt Sem γF:=sortPriv% PySem.Builtin.gallop
noncomputable def Ml:Array Keyed->Array Keyed->StateT SortSt Sem η:=sortPriv% PySem.Builtin.mergeLo
noncomputable def Mm:Array Keyed->Array Keyed->StateT SortSt Sem η:=sortPriv% PySem.Builtin.mergeHi
section
variable{M:Model}{A:Around}{E:T0}{s:Shared}{κ:SortKind}{φ:Keyed->Int}{El:Keyed->Prop}
def nj(M:Model)(A:Around)(E:T0)(s:Shared)(κ:SortKind)(φ:Keyed->Int)(El:Keyed->Prop):Prop:=∀x y st (Q:Option Bool->SortSt->Prop),El x->El y->kindOf st=κ->Q (some (decide (φ x<φ y))) st->wpS M A E s (lt' x y) Q st
def iw{arr:η}{i:Nat}{x:Keyed}{Q:Keyed->SortSt->Prop}{st:SortSt}(h:arr[i]?=some x)(q:Q x st):wpS M A E s (elem' arr i) Q st:=by rw[elem'_eq,h];exact qas q
structure Cut(p:Nat->Bool)(n k:Nat):Prop where
 le:k<=n
 lo:∀i,i<k->p i=true
 hi:∀i,k<=i->i<n->p i=false
noncomputable def Wm(p:Nat->Bool)(n:Nat):Prop:=∀i j,i<=j->j<n->p j=true->p i=true
def vD(C:γA){left:Bool}{key:Keyed}{arr:η}{b n hint:Nat}{p:Nat->Bool}{Q:Option Nat->SortSt->Prop}{st:SortSt}(hk:kindOf st=κ)(ek:El key)
 (hp:∀i,i<n->∃x,arr[b+i]?=some x/\El x/\p i=if left=true then decide (φ x<φ key) else !decide (φ key<φ x)) (mo:Wm p n) (hh:hint<n) (q:∀k,Cut p n k->Q εq st):wpS M A E s (vC left key arr b n hint) Q st:=by
 have BR:∀(i:Nat) (R:Option Bool->SortSt->Prop),i<n->R (some (p i)) st->wpS M A E s (do
  let x <-elem' arr (b+i)
  if left=true then lt' x key else do
   let y <-lt' key x
   pure (y.map (!·))) R st:=λi R hi r=>by
  obtain⟨x,hx,ex,e⟩:=hp i hi
  refine qal (iw hx ?_)
  cases left with
  |true =>
    rw[qaz rfl]at e ⊢;refine C x key st _ ex ek hk ?_;rw[<-e];exact r
  |false =>
    rw[qax (by simp)]at e ⊢;refine qal (C key x st _ ek ex hk (qas ?_));show R (some (!decide (φ key<φ x))) st;rw[<-e];exact r
 have fin:∀(lo hi:Nat) (R:Option Nat->SortSt->Prop) (g:Option γF×Nat×Nat->StateT SortSt Sem γF),(∀lo hi R,R (some hi) st->wpS M A E s (g (none,lo,hi)) R st)->lo<=hi->hi<=n->(∀i,i<lo->p i=true)->(∀i,hi<=i->i<n->p i=false)->(∀k,Cut p n k->R εq st)->wpS M A E s (do
  let t <-forIn [0:n] ((none,lo,hi):Option γF×Nat×Nat) λ_ t =>
   if t.2.1 ≥ t.2.2 then pure (.done (none,t.2.1,t.2.2)) else do
    let y <-(do
     let x <-elem' arr (b+(t.2.1+(t.2.2-t.2.1)/2))
     if left=true then lt' x key else do
      let y <-lt' key x
      pure (y.map (!·)))
    match y with
    |some more=>if more=true then pure (.yield (none,t.2.1+(t.2.2-t.2.1)/2+1,t.2.2)) else pure (.yield (none,t.2.1,t.2.1+(t.2.2-t.2.1)/2))
    |x=>pure (.done (some none,t.2.1,t.2.2))
  g t) R st:=by
  intro lo hi R g hg h1 h2 h3 h4 r;refine qal (qbf (I:=λi t st'=>st'=st/\∃lo hi,t=(none,lo,hi)/\lo<=hi/\hi<=n/\hi-lo<=n-i/\(∀i,i<lo->p i=true)/\(∀i,hi<=i->i<n->p i=false)) ?_ ?_ ⟨rfl,lo,hi,rfl,h1,h2,ω,h3,h4⟩)
  .rintro i t st' _ hi' ⟨rfl,lo,hi,rfl,h1,h2,h5,h3,h4⟩;dsimp only;by_cases c:lo ≥ hi
   .rw[qaz c];exact qas (hg _ _ _ (r hi ⟨h2,λi z=>h3 i ω,h4⟩))
   .rw[qax c];refine qal (BR _ _ ω ?_);dsimp only;cases e:p (lo+(hi-lo)/2) with
    |true =>
      rw[qaz rfl];exact qas ⟨rfl,_,hi,rfl,ω,h2,ω,λi z=>mo i _ ω ω e,h4⟩
    |false =>
      rw[qax (by simp)];refine qas ⟨rfl,lo,_,rfl,ω,ω,ω,h3,λi z z'=>?_⟩;cases e':p i with
      |false=>rfl
      |true=>rw[mo _ i z z' e']at e;cases e
  .rintro t st' ⟨rfl,lo,hi,rfl,h1,h2,h5,h3,h4⟩;have:lo=hi:=by omega
   subst this;exact hg _ _ _ (r lo ⟨h2,h3,h4⟩)
 unfold vC;refine qal (BR hint _ hh ?_);dsimp only;cases e0:p hint with
 |true =>
   rw[qaz rfl];refine qal (qbf (I:=λi t st'=>st'=st/\∃la of,t=(none,la,of)/\la<of/\i+1<=of/\(la=0\/p (hint+la)=true)/\hint+la<n) ?_ ?_ ⟨rfl,0,1,rfl,ω,ω,.inl rfl,ω⟩)
   .rintro i t st' _ hi' ⟨rfl,la,of,rfl,h1,h2,h3,h4⟩;dsimp only
    have lo':∀i,i<hint+la+1->p i=true:=λi z=>by
     rcases h3 with rfl|h3
     .exact mo i hint ω hh e0
     .exact mo i _ ω h4 h3
    by_cases c:of ≥ n-hint
    .rw[qaz c];refine qas ?_;dsimp only;exact fin (hint+la+1) (hint+min of (n-hint)) Q _ (λ_ _ _ r=>qas r) ω ω lo' (λi z z'=>by omega) q
    .rw[qax c];refine qal (BR _ _ ω ?_);dsimp only;cases e:p (hint+of) with
     |true =>
       rw[qax (by simp)];exact qas ⟨rfl,of,2*of+1,rfl,ω,ω,.inr e,ω⟩
     |false =>
       rw[qaz (by simp)];refine qas ?_;dsimp only;refine fin (hint+la+1) (hint+min of (n-hint)) Q _ (λ_ _ _ r=>qas r) ω ω lo' (λi z z'=>?_) q;cases e':p i with
       |false=>rfl
       |true=>rw[mo (hint+of) i ω z' e']at e;cases e
   .rintro t st' ⟨rfl,la,of,rfl,h1,h2,h3,h4⟩;have mx:max 0 n=n:=by omega
    rw[mx]at h2;dsimp only;refine fin (hint+la+1) (hint+min of (n-hint)) Q _ (λ_ _ _ r=>qas r) ω ω (λi z=>?_) (λi z z'=>by omega) q;rcases h3 with rfl|h3
    .exact mo i hint ω hh e0
    .exact mo i _ ω h4 h3
 |false =>
   rw[qax (by simp)]
   have no:∀j,p j=false->∀i,j<=i->i<n->p i=false:=λj ej i z z'=>by
    cases e':p i with
    |false=>rfl
    |true=>rw[mo j i z z' e']at ej;cases ej
   refine qal (qbf (I:=λi t st'=>st'=st/\∃la of,t=(none,la,of)/\la<of/\i+1<=of/\p (hint-la)=false/\la<=hint) ?_ ?_ ⟨rfl,0,1,rfl,ω,ω,e0,ω⟩)
   .rintro i t st' _ hi' ⟨rfl,la,of,rfl,h1,h2,h3,h4⟩;dsimp only;by_cases c:of ≥ hint+1
    .rw[qaz c];refine qas ?_;dsimp only;exact fin (hint+1-min of (hint+1)) (hint-la) Q _ (λ_ _ _ r=>qas r) ω ω (λi z=>by omega) (no _ h3) q
    .rw[qax c];refine qal (BR _ _ ω ?_);dsimp only;cases e:p (hint-of) with
     |true =>
       rw[qaz rfl];refine qas ?_;dsimp only;exact fin (hint+1-min of (hint+1)) (hint-la) Q _ (λ_ _ _ r=>qas r) ω ω (λi z=>mo i (hint-of) ω ω e) (no _ h3) q
     |false =>
       rw[qax (by simp)];exact qas ⟨rfl,of,2*of+1,rfl,ω,ω,e,ω⟩
   .rintro t st' ⟨rfl,la,of,rfl,h1,h2,h3,h4⟩;have mx:max 0 n=n:=by omega
    rw[mx]at h2;dsimp only;exact fin (hint+1-min of (hint+1)) (hint-la) Q _ (λ_ _ _ r=>qas r) ω ω (λi z=>by omega) (no _ h3) q
end
section
variable{α:Type}{R:α->α->Prop}{base out ra rb xs:δ5}
structure Mg(R:α->α->Prop)(base out ra rb:δ5):Prop where
 pm:(out++ra++rb).Perm base
 so:out.Pairwise R
 sa:ra.Pairwise R
 sb:rb.Pairwise R
 oa:∀x∈out,∀y∈ra,R x y
 ob:∀x∈out,∀y∈rb,R x y
def Mg.a(h:Mg R base out (xs++ra) rb)(hx:∀x∈xs,∀y∈rb,R x y):Mg R base (out++xs) ra rb:=by
 obtain⟨s1,s2,s3⟩:=qa4.mp h.sa;refine⟨by simpa using h.pm,qa4.mpr ⟨h.so,s1,λx hx y hy=>h.oa x hx y (qa3 _ hy)⟩,s2,h.sb,λx hx' y hy=>?_,λx hx' y hy=>?_⟩
 .rcases qaK.mp hx' with z|z
  .exact h.oa x z y (qay _ hy)
  .exact s3 x z y hy
 .rcases qaK.mp hx' with z|z
  .exact h.ob x z y hy
  .exact hx x z y hy
def Mg.b(h:Mg R base out ra (xs++rb))(hx:∀x∈xs,∀y∈ra,R x y):Mg R base (out++xs) ra rb:=by
 obtain⟨s1,s2,s3⟩:=qa4.mp h.sb;refine⟨?_,qa4.mpr ⟨h.so,s1,λx hx y hy=>h.ob x hx y (qa3 _ hy)⟩,h.sa,s2,λx hx' y hy=>?_,λx hx' y hy=>?_⟩
 .refine List.Perm.trans ?_ h.pm;simp only[List.append_assoc];refine  List.Perm.append_left _ ?_;rw[<-qaV,<-qaV];exact  List.Perm.append_right _ List.perm_append_comm
 .rcases qaK.mp hx' with z|z
  .exact h.oa x z y hy
  .exact hx x z y hy
 .rcases qaK.mp hx' with z|z
  .exact h.ob x z y (qay _ hy)
  .exact s3 x z y hy
def Mg.ux(h:Mg R base out ra []):(out++ra).Pairwise R/\(out++ra).Perm base:=⟨qa4.mpr ⟨h.so,h.sa,h.oa⟩,by simpa using h.pm⟩
def Mg.uy(h:Mg R base out [] rb):(out++rb).Pairwise R/\(out++rb).Perm base:=⟨qa4.mpr ⟨h.so,h.sb,h.ob⟩,by simpa using h.pm⟩
def Mg.yk(h:Mg R base out ra rb)(hl:∀y∈rb,∀x∈ra,R y x):(out++rb++ra).Pairwise R/\(out++rb++ra).Perm base:=by
 have h':Mg R base out ra (rb++[]):=by simpa using h
 exact(h'.b hl).ux
end
section
variable{a:η}{i k:Nat}{x:Keyed}
def Mn(h:a[i]?=some x):a.toList.drop i=[x]++a.toList.drop (i+1):=by
 have h':a.toList[i]?=some x:=by simpa using h
 obtain⟨hi,e⟩:=qac.mp h';rw[qa8 hi,e];rfl
def FV(i k:Nat):(a.extract i (i+k)).toList=(a.toList.drop i).take k:=by rw[qbI];show(a.toList.drop i).take (i+k-i)=_;rw[qbM]
def vE(i:Nat):(a.extract i a.size).toList=a.toList.drop i:=by rw[qbI];show(a.toList.drop i).take (a.size-i)=_;rw[qaX (by rw[qaR];simp)]
def Mp(i k:Nat):a.toList.drop i=(a.toList.drop i).take k++a.toList.drop (i+k):=by rw[<-List.drop_drop,qaO]
def BS(h:x∈(a.toList.drop i).take k):∃j,j<k/\a[i+j]?=some x:=by
 obtain⟨j,hj,e⟩:=List.getElem_of_mem h;rw[qa0]at hj;rw[List.getElem_take,List.getElem_drop]at e;refine⟨j,ω,?_⟩
 have:a.toList[i+j]?=some x:=by rw[qae (by rw[qaR]at hj;omega),e]
 simpa using this
def BU(h:x∈a.toList.drop i):∃j,i<=j/\a[j]?=some x:=by
 obtain⟨j,hj,e⟩:=List.getElem_of_mem h;rw[List.getElem_drop]at e;refine⟨i+j,ω,?_⟩
 have:a.toList[i+j]?=some x:=by rw[qae (by rw[qaR]at hj;omega),e]
 simpa using this
def iK(h:a[i]?=some x):x∈a.toList:=qaB (show a.toList[i]?=some x by simpa using h)
def at_of(h:i<a.size):∃x,a[i]?=some x:=⟨a[i],qap h⟩
def sM(h:a[i]?=some x):i<a.size:=(qaM.mp h).1
end
structure ag(st st':SortSt):Prop where
 k:kindOf st'=kindOf st
 a:arrOf st'=arrOf st
 p:pendingOf st'=pendingOf st
 f:failedOf st'=failedOf st
section
variable{M:Model}{A:Around}{E:T0}{s:Shared}{κ:SortKind}{φ:Keyed->Int}{El:Keyed->Prop}
def ag.refl(st:SortSt):ag st st:=⟨rfl,rfl,rfl,rfl⟩
def ag.trans{a b c:SortSt}(h:ag a b)(h':ag b c):ag a c:=⟨h'.k.trans h.k,h'.a.trans h.a,h'.p.trans h.p,h'.f.trans h.f⟩
structure qY(φ:Keyed->Int)(El:Keyed->Prop)(a b:η):Prop where
 ea:∀x∈a.toList,El x
 eb:∀x∈b.toList,El x
 sa:a.toList.Pairwise λx y=>φ x<φ y
 sb:b.toList.Pairwise λx y=>φ x<φ y
 ne:∀x∈a.toList,∀y∈b.toList,φ x≠φ y
 h0:∃x y,a[0]?=some x/\b[0]?=some y/\φ y<φ x
 hl:∃x,a[a.size-1]?=some x/\∀y∈b.toList,φ y<φ x
noncomputable def Good(φ:Keyed->Int)(a b m:η):Prop:=(m.toList.Pairwise λx y=>φ x<φ y)/\m.toList.Perm (a.toList++b.toList)
noncomputable abbrev ML(φ:Keyed->Int)(a b out:η)(ia ib:Nat):Prop:=Mg (λx y=>φ x<φ y) (a.toList++b.toList) out.toList (a.toList.drop ia) (b.toList.drop ib)
section
variable{a b out:η}{ia ib k:Nat}{x y:Keyed}
def ML.jd(h:δJ)(e:ib=b.size):Good φ a b (out++a.extract ia a.size++b.extract ib b.size):=by have z:b.toList.drop ib=[]:=qaG (by rw[e];simp);unfold Good;rw[qaS,qaS,vE,vE,z,qbE];unfold ML at h;rw[z]at h;exact h.ux
def ML.je(h:δJ)(e:ia=a.size):Good φ a b (out++a.extract ia a.size++b.extract ib b.size):=by have z:a.toList.drop ia=[]:=qaG (by rw[e];simp);unfold Good;rw[qaS,qaS,vE,vE,z,qbE];unfold ML at h;rw[z]at h;exact h.uy
def ML.last(T:ε2)(h:δJ)(e:ia+1=a.size):Good φ a b (out++b.extract ib b.size++a.extract ia a.size):=by unfold Good;rw[qaS,qaS,vE,vE];refine h.yk λy hy x hx=>?_;obtain⟨z,hz,hz'⟩:=T.hl;obtain⟨j,hj,ej⟩:=BU hx;have:=sM ej;rw[show j=a.size-1 by omega,hz]at ej;cases ej;exact hz' y (qbJ hy)
def ML.pb(h:δJ)(e:b[ib]?=some y)(hy:∀x∈a.toList.drop ia,φ y<φ x):ML φ a b (out.push y) ia (ib+1):=by unfold ML at h ⊢;rw[Mn e]at h;rw[Array.toList_push];exact h.b λz hz=>by rw[qaT.mp hz];exact hy
def ML.pa(h:δJ)(e:a[ia]?=some x)(hx:∀y∈b.toList.drop ib,φ x<φ y):ML φ a b (out.push x) (ia+1) ib:=by unfold ML at h ⊢;rw[Mn e]at h;rw[Array.toList_push];exact h.a λz hz=>by rw[qaT.mp hz];exact hx
def ML.ka(h:δJ)(hx:∀x∈(a.toList.drop ia).take k,∀y∈b.toList.drop ib,φ x<φ y):ML φ a b (out++a.extract ia (ia+k)) (ia+k) ib:=by unfold ML at h ⊢;rw[Mp ia k]at h;rw[qaS,FV];exact h.a hx
def ML.kb(h:δJ)(hx:∀x∈(b.toList.drop ib).take k,∀y∈a.toList.drop ia,φ x<φ y):ML φ a b (out++b.extract ib (ib+k)) ia (ib+k):=by unfold ML at h ⊢;rw[Mp ib k]at h;rw[qaS,FV];exact h.b hx
def vG(sa:a.toList.Pairwise λx y=>φ x<φ y){i j:Nat}(hi:a[i]?=some x)(hj:a[j]?=some y)(h:i<j):φ x<φ y:=by
 have l:=sM hj;have l1:i<a.toList.length:=by simp;omega
 have l2:j<a.toList.length:=by simpa using l
 have e1:a.toList[i]=x:=by have:=(qaM.mp hi).2;simpa using this
 have e2:a.toList[j]=y:=by have:=(qaM.mp hj).2;simpa using this
 rw[<-e1,<-e2];exact qa7.mp sa i j l1 l2 h
def vH(sa:a.toList.Pairwise λx y=>φ x<φ y){i:Nat}(hi:a[i]?=some x)(h:y∈a.toList.drop i):φ x<=φ y:=by
 obtain⟨j,hj,e⟩:=BU h;by_cases z:j=i
 .rw[z,hi]at e;cases e;exact Int.le_refl _
 .exact Int.le_of_lt (vG sa hi e ω)
end
def BV{g:Nat}{Q:Unit->SortSt->Prop}{st0 st:SortSt}(h:ag st0 st)(q:∀st',ag st0 st'->Q () st'):wpS M A E s ((sortPriv% PySem.Builtin.setMinGallop) g) Q st:=
 wpS_modify (q _ (h.trans ⟨rfl,rfl,rfl,rfl⟩))
def Wn(C:γA){a b:η}(T:ε2){st0 st:SortSt}{ia ib:Nat}{y:Keyed}{Q:Option Nat->SortSt->Prop}(hk:kindOf st=κ)(ey:b[ib]?=some y)(hi:ia<a.size)
 (q:∀k,ia+k<=a.size->(∀x∈(a.toList.drop ia).take k,∀z∈b.toList.drop ib,φ x<φ z)->(∀x∈a.toList.drop (ia+k),φ y<φ x)->Q εq st):wpS M A E s (vC false y a ia (a.size-ia) 0) Q st:=by
 have my:=iK ey;refine vD C (p:=λi=>match a[ia+i]? with|some x => !decide (φ y<φ x)|none=>false) hk (T.eb y my) (λi z=>?_) (λi j z z' h=>?_) ω λk c=>q k ?_ ?_ ?_
 .obtain⟨x,hx⟩:=at_of (a:=a) (i:=ia+i) ω;exact⟨x,hx,T.ea x (iK hx),by rw[hx];rfl⟩
 .obtain⟨x,hx⟩:=at_of (a:=a) (i:=ia+i) ω;obtain⟨x',hx'⟩:=at_of (a:=a) (i:=ia+j) ω;dsimp only at h ⊢;rw[hx']at h;rw[hx];dsimp only at h ⊢;rw[Bool.not_eq_true',qbu]at h ⊢;by_cases e:i=j
  .subst e;rw[hx]at hx';cases hx';exact h
  .have:=vG T.sa hx hx' ω;omega
 .have:=c.le;omega
 .intro x hx z hz;obtain⟨j,hj,e⟩:=BS hx;have:=c.lo j hj;rw[e]at this;dsimp only at this;rw[Bool.not_eq_true',qbu]at this;have n:=T.ne x (iK e) y my;have:=vH T.sb ey hz;omega
 .intro x hx;obtain⟨j,hj,e⟩:=BU hx;have l:=sM e;have:=c.hi (j-ia) ω ω;rw[show ia+(j-ia)=j by omega,e]at this;dsimp only at this;rw[Bool.not_eq_false']at this;exact qaC this
def Wo(C:γA){a b:η}(T:ε2){st:SortSt}{ia ib:Nat}{x:Keyed}{Q:Option Nat->SortSt->Prop}(hk:kindOf st=κ)(ex:a[ia]?=some x)(hi:ib<b.size)
 (q:∀k,ib+k<=b.size->(∀y∈(b.toList.drop ib).take k,∀z∈a.toList.drop ia,φ y<φ z)->(∀y∈b.toList.drop (ib+k),φ x<φ y)->Q εq st):wpS M A E s (vC true x b ib (b.size-ib) 0) Q st:=by
 have mx:=iK ex;refine vD C (p:=λi=>match b[ib+i]? with|some y=>decide (φ y<φ x)|none=>false) hk (T.ea x mx) (λi z=>?_) (λi j z z' h=>?_) ω λk c=>q k ?_ ?_ ?_
 .obtain⟨y,hy⟩:=at_of (a:=b) (i:=ib+i) ω;exact⟨y,hy,T.eb y (iK hy),by rw[hy];rfl⟩
 .obtain⟨y,hy⟩:=at_of (a:=b) (i:=ib+i) ω;obtain⟨y',hy'⟩:=at_of (a:=b) (i:=ib+j) ω;dsimp only at h ⊢;rw[hy']at h;rw[hy];dsimp only at h ⊢;have h:=qaC h;refine qaN ?_;by_cases e:i=j
  .subst e;rw[hy]at hy';cases hy';exact h
  .have:=vG T.sb hy hy' ω;omega
 .have:=c.le;omega
 .intro y hy z hz;obtain⟨j,hj,e⟩:=BS hy;have:=c.lo j hj;rw[e]at this;have:=qaC this;have:=vH T.sa ex hz;omega
 .intro y hy;obtain⟨j,hj,e⟩:=BU hy;have l:=sM e;have:=c.hi (j-ib) ω ω;rw[show ib+(j-ib)=j by omega,e]at this;have:=of_decide_eq_false this;have n:=T.ne x mx y (iK e);omega
end
section
variable{M:Model}{A:Around}{E:T0}{s:Shared}{κ:SortKind}{φ:Keyed->Int}{El:Keyed->Prop}
def cE{β:Type}{c:Prop}[Decidable c]{m n:StateT SortSt Sem β}{Q:β->SortSt->Prop}{st:SortSt}(h:c->wpS M A E s m Q st)(h':¬c->wpS M A E s n Q st):wpS M A E s (if c then m else n) Q st:=by
 by_cases z:c
 .rw[qaz z];exact h z
 .rw[qax z];exact h' z
def Mq{β:Type}{c:Nat->Prop}[∀g,Decidable (c g)]{f m:Nat->StateT SortSt Sem β}{p:Nat->Nat}{Q:β->SortSt->Prop}{st:SortSt}(h:∀g,wpS M A E s (f g) Q st)(e:∀g,m g=f (p g))(g:Nat):wpS M A E s (if c g then m g else f g) Q st:=
 cE (λ_=>e g ▸ h (p g)) λ_=>h g
def BW{α β γ:Type}{c:α->γ->Prop}[∀x y,Decidable (c x y)]{f m:α->γ->StateT SortSt Sem β}{x:α}{y:γ}{Q:β->SortSt->Prop}{st:SortSt}(P:α->γ->Prop)(h:∀x y,P x y->wpS M A E s (f x y) Q st)(hm:(∀x y,P x y->wpS M A E s (f x y) Q st)->c x y->wpS M A E s (m x y) Q st)(hx:¬c x y->P x y)(X:α)(hX:x=X)(Y:γ)(hY:y=Y):wpS M A E s (if c X Y then m X Y else f X Y) Q st:=by subst hX hY;exact cE (hm h) λn=>h x y (hx n)
abbrev D1(φ:Keyed->Int)(a b:η)(st:SortSt)(n:Nat)(t:Option η×Array Keyed×Nat×Nat×Nat)(st':SortSt):Prop:=∃out ia ib g,t=(none,out,ia,ib,g)/\ag st st'/\ML φ a b out ia ib/\ia+1<a.size/\ib<b.size/\n+1<=ia+ib
abbrev Dq{α:Type}(φ:Keyed->Int)(a b:η)(st:SortSt)(t:Option η×α)(st':SortSt):Prop:=∃r x,t=(some r,x)/\ag st st'/\Good φ a b r
abbrev D2(φ:Keyed->Int)(a b:η)(st:SortSt)(p:Nat->Prop)(t:Option η×Array Keyed×Nat×Nat×Nat×Nat)(st'':SortSt):Prop:=∃out' jI iL ac bc,t=(none,out',jI,iL,ac,bc)/\ag st st''/\ML φ a b out' jI iL/\jI+1<a.size/\iL<b.size/\p (jI+iL)
abbrev D3(φ:Keyed->Int)(a b:η)(st:SortSt)(m:Nat)(t:Option η×Array Keyed×Nat×Nat×Nat×Nat×Nat)(st'':SortSt):Prop:=∃out' jI iL g ac bc,t=(none,out',jI,iL,g,ac,bc)/\ag st st''/\ML φ a b out' jI iL/\jI+1<a.size/\iL<b.size/\m<jI+iL
section
variable{φ:Keyed->Int}{a b:η}{st st':SortSt}{n:Nat}{p:Nat->Prop}
def Dq.el{α:Type}{P:Option η×α->Prop}(h:∀r x,ag st st'->Good φ a b r->P (some r,x)):∀t,Dq φ a b st t st'->P t:=by rintro _ ⟨r,x,rfl,u,v⟩;exact h r x u v
def D1.el{P:Option η×Array Keyed×Nat×Nat×Nat->Prop}(h:∀o i j g,ag st st'->ML φ a b o i j->i+1<a.size->j<b.size->n+1<=i+j->P (none,o,i,j,g)):∀t,D1 φ a b st n t st'->P t:=by rintro _ ⟨o,i,j,g,rfl,u,v,x,y,z⟩;exact h o i j g u v x y z
def D2.el{P:Option η×Array Keyed×Nat×Nat×Nat×Nat->Prop}(h:∀o i j c d,ag st st'->ML φ a b o i j->i+1<a.size->j<b.size->p (i+j)->P (none,o,i,j,c,d)):∀t,D2 φ a b st p t st'->P t:=by rintro _ ⟨o,i,j,c,d,rfl,u,v,x,y,z⟩;exact h o i j c d u v x y z
def D3.el{P:Option η×Array Keyed×Nat×Nat×Nat×Nat×Nat->Prop}(h:∀o i j g c d,ag st st'->ML φ a b o i j->i+1<a.size->j<b.size->n<i+j->P (none,o,i,j,g,c,d)):∀t,D3 φ a b st n t st'->P t:=by rintro _ ⟨o,i,j,g,c,d,rfl,u,v,x,y,z⟩;exact h o i j g c d u v x y z
def BX{τ:Type}{A B P:τ->Prop}(h:∀t,A t->P t)(k:∀t,B t->P t):∀t,A t\/B t->P t:=λt x=>x.elim (h t) (k t)
end
def Wq(C:γA){a b:η}(T:ε2){Q:Array Keyed->SortSt->Prop}{st:SortSt}(hk:kindOf st=κ)(q:∀m st',ag st st'->Good φ a b m->Q m st'):wpS M A E s (Ml a b) Q st:=by
 obtain⟨x0,y0,hx0,n5,FW⟩:=T.h0;have l0:=sM hx0;have l1:=sM n5
 have start:ML φ a b #[y0] 0 1:=by have m0:ML φ a b #[] 0 0:=⟨List.Perm.refl _,.nil,by simpa using T.sa,by simpa using T.sb,λx hx=>by simp at hx,λx hx=>by simp at hx⟩;exact m0.pb n5 λx hx=>Int.lt_of_lt_of_le FW (vH T.sa hx0 hx)
 unfold Ml;refine qal (wpS_lift (wpAny_rule ⟨rfl,?_⟩));dsimp only;refine qal (iw n5 ?_);refine cE (λc=>qas (q _ _ ζu (start.jd (qau.mp c)))) λc1=>?_;refine cE (λc=>qas (q _ _ ζu (start.last T (qau.mp c)))) λc2=>?_;rw[qau]at c1 c2;refine qal (wpS_get ?_)
 refine qal (wpS_mono (qbf (I:=D1 φ a b st)
  (Q:=Dq φ a b st) ?step ?fin ⟨_,0,1,_,rfl,ag.refl _,start,ω,ω,ω⟩) ?post)
 case fin =>
  rintro t st' ⟨out,ia,ib,g,rfl,_,_,h1,h2,h3⟩
  omega
 case post =>
  rintro t st' ⟨r,x,rfl,h,hg⟩
  exact qas (q r st' h hg)
 case step =>
  intro n t st' _ hn
  revert t
  refine D1.el λout ia ib g hs hm h1 h2 h3=>?_
  dsimp only
  refine qal (wpS_mono (qbf (I:=λn=>D2 φ a b st λm=>ia+ib+n<=m)
   (Q:=λt st''=>Dq φ a b st t st''\/D2 φ a b st (λm=>ia+ib<m) t st'') ?step ?fin ⟨out,ia,ib,0,0,rfl,hs,hm,h1,h2,qah _⟩) ?post)
  case fin =>
   rintro t st'' ⟨out',jI,iL,ac,bc,rfl,hs',hm',h1',h2',h3'⟩
   exact .inr ⟨out',jI,iL,ac,bc,rfl,hs',hm',h1',h2',ω⟩
  case step =>
   intro m t st'' _ hm2
   revert t
   refine D2.el λout' jI iL ac bc hs' hm' h1' h2' h3'=>?_
   dsimp only
   obtain⟨y,hy⟩:=at_of h2'
   obtain⟨x,hx⟩:=at_of (a:=a) (i:=jI) ω
   refine qal (iw hy ?_)
   refine qal (iw hx ?_)
   refine qal (C y x st'' _ (T.eb y (iK hy)) (T.ea x (iK hx)) (hs'.k.trans hk) ?_)
   dsimp only
   refine cE (λc=>?_) λc=>?_
   .refine qal (iw hy ?_)
    have gF:=hm'.pb hy λz hz=>Int.lt_of_lt_of_le (qaC c) (vH T.sa hx hz)
    refine cE (λd=>qas (.inl ⟨_,_,rfl,hs',gF.jd δO⟩)) λd=>?_
    rw[qau]at d
    refine cE (λ_=>?_) λ_=>?_
    .exact qas (.inr ⟨_,_,_,_,_,rfl,hs',gF,h1',ω,ω⟩)
    .exact qas ⟨_,_,_,_,_,rfl,hs',gF,h1',ω,ω⟩
   .have c:¬φ y<φ x:=by simpa using c
    refine qal (iw hx ?_)
    have nn:=T.ne x (iK hx) y (iK hy)
    have gF:=hm'.pa hx λz hz=>Int.lt_of_lt_of_le (show φ x<φ y by omega) (vH T.sb hy hz)
    refine cE (λd=>qas (.inl ⟨_,_,rfl,hs',gF.last T δO⟩)) λd=>?_
    rw[qau]at d
    refine cE (λ_=>?_) λ_=>?_
    .exact qas (.inr ⟨_,_,_,_,_,rfl,hs',gF,ω,h2',ω⟩)
    .exact qas ⟨_,_,_,_,_,rfl,hs',gF,ω,h2',ω⟩
  case post =>
   intro t st''
   revert t
   refine BX (Dq.el λr _ hs' hg=>qas ⟨r,_,rfl,hs',hg⟩) (D2.el λout' jI iL ac bc hs' hm' h1' h2' h3'=>?_)
   dsimp only
   refine qal (wpS_lift (wpAny_rule ⟨rfl,?_⟩))
   refine qal (wpS_mono (qbf (I:=λ_=>D3 φ a b st (ia+ib))
    (Q:=λt st''=>Dq φ a b st t st''\/D3 φ a b st (ia+ib) t st'') ?step (λt st'' h=>.inr h) ⟨out',jI,iL,_,ac,bc,rfl,hs',hm',h1',h2',h3'⟩) ?post)
   case post =>
    intro t st3
    revert t
    exact BX (Dq.el λr _ hs' hg=>qas ⟨r,_,rfl,hs',hg⟩) (D3.el λout' jI iL g ac bc hs' hm' h1' h2' h3'=>qal (BV hs' λFX hs4=>qas ⟨out',jI,iL,_,rfl,hs4,hm',h1',h2',ω⟩))
   case step =>
    intro m t st3 _ hm2
    revert t
    refine D3.el λout' jI iL g ac bc hs' hm' h1' h2' h3'=>?_
    dsimp only
    obtain⟨y,hy⟩:=at_of h2'
    revert g
    refine Mq (p:=(· - 1)) (λg=>?_) λg=>rfl
    refine qal (BV hs' λFX hs4=>?_)
    refine qal (iw hy ?_)
    refine qal (Wn C T (st0:=st) ηS hy ω λk k1 k2 k3=>?_)
    dsimp only
    generalize hX:out'=X
    generalize hY:jI=Y
    revert X Y
    refine BW (λo i=>ML φ a b o i iL/\i+1<a.size/\ia+ib<i+iL/\∀x∈a.toList.drop i,φ y<φ x) (λo i ⟨hm1,h11,h31,k3⟩=>?_) (λJ ck=>?_) λck=>?_
    .refine qal (iw hy ?_)
     have hm2:=hm1.pb hy k3
     refine cE (λd=>qas (.inl ⟨_,_,rfl,hs4,hm2.jd δO⟩)) λd3=>?_
     rw[qau]at d3
     obtain⟨x,hx⟩:=at_of (Nat.lt_of_succ_lt h11)
     refine qal (iw hx ?_)
     refine qal (Wo C T ηS hx (show iL+1<b.size by omega) λj j1 j2 j3=>?_)
     dsimp only
     generalize hX:o.push y=X
     generalize hY:iL+1=Y
     revert X Y
     refine BW (λo z=>ML φ a b o i z/\z<b.size/\iL<=z/\∀y∈b.toList.drop z,φ x<φ y) (λo z ⟨gF,h21,Wr,j3⟩=>?_) (λJ cj=>?_) λcj=>?_
     .refine qal (iw hx ?_)
      have uz:=gF.pa hx j3
      refine cE (λd=>qas (.inl ⟨_,_,rfl,hs4,uz.last T δO⟩)) λd5=>?_
      rw[qau]at d5
      refine cE (λ_=>?_) λ_=>?_
      .exact qas (.inr ⟨_,_,_,_,_,_,rfl,hs4,uz,ω,h21,ω⟩)
      .exact qas ⟨_,_,_,_,_,_,rfl,hs4,uz,ω,h21,ω⟩
     .have gF:=hm2.kb j2
      refine cE (λd=>qas (.inl ⟨_,_,rfl,hs4,gF.jd δO⟩)) λd4=>?_
      rw[qau]at d4
      exact J _ _ ⟨gF,ω,ω,j3⟩
     .rw[show j=0 by omega,Nat.add_zero]at j3
      exact⟨hm2,ω,ω,j3⟩
    .have hm1:=hm'.ka k2
     refine cE (λd=>qas (.inl ⟨_,_,rfl,hs4,hm1.last T δO⟩)) λd1=>?_
     refine cE (λd=>qas (.inl ⟨_,_,rfl,hs4,hm1.je δO⟩)) λd2=>?_
     rw[qau]at d1 d2
     exact J _ _ ⟨hm1,ω,ω,k3⟩
    .rw[show k=0 by omega,Nat.add_zero]at k3
     exact⟨hm',h1',h3',k3⟩
end
def Mg.yl{α:Type}{R:α->α->Prop}{base out ra rb:δ5}(h:Mg R base out ra rb)(hl:∀x∈ra,∀y∈rb,R x y):(out++ra++rb).Pairwise R/\(out++ra++rb).Perm base:=by
 have h':Mg R base out (ra++[]) rb:=by simpa using h
 exact(h'.a hl).uy
section
variable{a:η}{i k:Nat}{x:Keyed}
def Mr(h:a[i]?=some x):(a.toList.take (i+1)).reverse=[x]++(a.toList.take i).reverse:=by
 have h':a.toList[i]?=some x:=by simpa using h
 rw[List.take_succ,h',qbS];rfl
def Ms(h:i<=k):(a.toList.take k).reverse=((a.extract i k).reverse).toList++(a.toList.take i).reverse:=by rw[Array.toList_reverse,qbI,<-qbS];show _=(a.toList.take i++(a.toList.drop i).take (k-i)).reverse;congr 1;have:=List.take_add (l:=a.toList) (i:=i) (j:=k-i);rw[<-this];congr 1;omega
def vJ(k:Nat):(a.extract 0 k).toList=a.toList.take k:=by rw[qbI];rfl
def BY(h:x∈a.toList.take k):∃j,j<k/\a[j]?=some x:=by have:=BS (a:=a) (i:=0) (k:=k) (x:=x) (by simpa using h);simpa using this
def Mt(h:x∈((a.extract i k).reverse).toList):∃j,i<=j/\j<k/\a[j]?=some x:=by rw[Array.toList_reverse,qbV,qbI]at h;have h:x∈(a.toList.drop i).take (k-i):=h;obtain⟨j,hj,e⟩:=BS h;exact⟨i+j,ω,ω,e⟩
end
section
variable{M:Model}{A:Around}{E:T0}{s:Shared}{κ:SortKind}{φ:Keyed->Int}{El:Keyed->Prop}
noncomputable abbrev MH(φ:Keyed->Int)(a b out:η)(na nb:Nat):Prop:=Mg (λx y=>φ y<φ x) (a.toList++b.toList) out.toList (a.toList.take na).reverse (b.toList.take nb).reverse
def FY{a b m:η}{l:εG}(e:m.toList=l.reverse)(h:(l.Pairwise λx y=>φ y<φ x)/\l.Perm (a.toList++b.toList)):Good φ a b m:=by unfold Good;rw[e];exact⟨List.pairwise_reverse.mpr h.1,(List.reverse_perm l).trans h.2⟩
section
variable{a b out:η}{na nb k:Nat}{x y:Keyed}
def MH.je(h:ε1)(e:na=0):Good φ a b (a.extract 0 na++b.extract 0 nb++out.reverse):=by subst e;have h':Mg (λx y=>φ y<φ x) (a.toList++b.toList) out.toList [] (b.toList.take nb).reverse:=h;refine FY ?_ h'.uy;rw[qaS,qaS,vJ,vJ,Array.toList_reverse,qbS,List.reverse_reverse];simp
def MH.jd(h:ε1)(e:nb=0):Good φ a b (a.extract 0 na++b.extract 0 nb++out.reverse):=by subst e;have h':Mg (λx y=>φ y<φ x) (a.toList++b.toList) out.toList (a.toList.take na).reverse []:=h;refine FY ?_ h'.ux;rw[qaS,qaS,vJ,vJ,Array.toList_reverse,qbS,List.reverse_reverse];simp
def MH.first(T:ε2)(h:ε1)(e:nb=1):Good φ a b (b.extract 0 nb++a.extract 0 na++out.reverse):=by
 refine FY ?_ (h.yl λx hx y hy=>?_)
 .rw[qaS,qaS,vJ,vJ,Array.toList_reverse,qbS,qbS,List.reverse_reverse,List.reverse_reverse];simp
 .obtain⟨x0,y0,hx0,n5,FW⟩:=T.h0;obtain⟨j,hj,ej⟩:=BY (qbV.mp hy);rw[show j=0 by omega,n5]at ej;cases ej;have:=vH T.sa hx0 (y:=x) (by simpa using qbK (qbV.mp hx));omega
def MH.pa(h:MH φ a b out (na+1) nb)(e:a[na]?=some x)(hx:∀y∈b.toList.take nb,φ y<φ x):MH φ a b (out.push x) na nb:=by unfold MH at h ⊢;rw[Mr e]at h;rw[Array.toList_push];exact h.a λz hz y hy=>by rw[qaT.mp hz];exact hx y (qbV.mp hy)
def MH.pb(h:MH φ a b out na (nb+1))(e:b[nb]?=some y)(hy:∀x∈a.toList.take na,φ x<φ y):MH φ a b (out.push y) na nb:=by unfold MH at h ⊢;rw[Mr e]at h;rw[Array.toList_push];exact h.b λz hz x hx=>by rw[qaT.mp hz];exact hy x (qbV.mp hx)
def MH.ka(h:ε1)(l:k<=na)(hx:∀x j,k<=j->j<na->a[j]?=some x->∀y∈b.toList.take nb,φ y<φ x):MH φ a b (out++(a.extract k na).reverse) k nb:=by unfold MH at h ⊢;rw[Ms l]at h;rw[qaS];refine h.a λx z y hy=>?_;obtain⟨j,j1,j2,e⟩:=Mt z;exact hx x j j1 j2 e y (qbV.mp hy)
def MH.kb(h:ε1)(l:k<=nb)(hx:∀y j,k<=j->j<nb->b[j]?=some y->∀x∈a.toList.take na,φ x<φ y):MH φ a b (out++(b.extract k nb).reverse) na k:=by unfold MH at h ⊢;rw[Ms l]at h;rw[qaS];refine h.b λy z x hx'=>?_;obtain⟨j,j1,j2,e⟩:=Mt z;exact hx y j j1 j2 e x (qbV.mp hx')
def BZ(sa:a.toList.Pairwise λx y=>φ x<φ y){i:Nat}(hi:a[i]?=some x)(h:y∈a.toList.take (i+1)):φ y<=φ x:=by
 obtain⟨j,hj,e⟩:=BY h;by_cases z:j=i
 .rw[z,hi]at e;cases e;exact Int.le_refl _
 .exact Int.le_of_lt (vG sa e hi ω)
end
def Ws(C:γA){a b:η}(T:ε2){st:SortSt}{na nb:Nat}{y:Keyed}{Q:Option Nat->SortSt->Prop}(hk:kindOf st=κ)(ey:b[nb]?=some y)(hi:na<a.size)
 (q:∀k,k<=na+1->(∀x j,k<=j->j<na+1->a[j]?=some x->∀z∈b.toList.take (nb+1),φ z<φ x)->(∀x∈a.toList.take k,φ x<φ y)->Q εq st):wpS M A E s (vC false y a 0 (na+1) na) Q st:=by
 have my:=iK ey;refine vD C (p:=λi=>match a[i]? with|some x => !decide (φ y<φ x)|none=>false) hk (T.eb y my) (λi z=>?_) (λi j z z' h=>?_) ω λk c=>q k c.le ?_ ?_
 .obtain⟨x,hx⟩:=at_of (a:=a) (i:=i) ω;exact⟨x,by rw[Nat.zero_add];exact hx,T.ea x (iK hx),by rw[hx];rfl⟩
 .obtain⟨x,hx⟩:=at_of (a:=a) (i:=i) ω;obtain⟨x',hx'⟩:=at_of (a:=a) (i:=j) ω;dsimp only at h ⊢;rw[hx']at h;rw[hx];dsimp only at h ⊢;rw[Bool.not_eq_true',qbu]at h ⊢;by_cases e:i=j
  .subst e;rw[hx]at hx';cases hx';exact h
  .have:=vG T.sa hx hx' ω;omega
 .intro x j hj hj' e z hz;have zl:=BZ T.sb ey hz;have:=c.hi j hj hj';rw[e]at this;rw[Bool.not_eq_false']at this;have:=qaC this;omega
 .intro x hx;obtain⟨j,hj,e⟩:=BY hx;have:=c.lo j hj;rw[e]at this;rw[Bool.not_eq_true',qbu]at this;have n:=T.ne x (iK e) y my;omega
def Wu(C:γA){a b:η}(T:ε2){st:SortSt}{na nb:Nat}{x:Keyed}{Q:Option Nat->SortSt->Prop}(hk:kindOf st=κ)(ex:a[na]?=some x)(hi:nb<b.size)
 (q:∀k,k<=nb+1->(∀y j,k<=j->j<nb+1->b[j]?=some y->∀z∈a.toList.take (na+1),φ z<φ y)->(∀y∈b.toList.take k,φ y<φ x)->Q εq st):wpS M A E s (vC true x b 0 (nb+1) nb) Q st:=by
 have mx:=iK ex;refine vD C (p:=λi=>match b[i]? with|some y=>decide (φ y<φ x)|none=>false) hk (T.ea x mx) (λi z=>?_) (λi j z z' h=>?_) ω λk c=>q k c.le ?_ ?_
 .obtain⟨y,hy⟩:=at_of (a:=b) (i:=i) ω;exact⟨y,by rw[Nat.zero_add];exact hy,T.eb y (iK hy),by rw[hy];rfl⟩
 .obtain⟨y,hy⟩:=at_of (a:=b) (i:=i) ω;obtain⟨y',hy'⟩:=at_of (a:=b) (i:=j) ω;dsimp only at h ⊢;rw[hy']at h;rw[hy];dsimp only at h ⊢;have h:=qaC h;refine qaN ?_;by_cases e:i=j
  .subst e;rw[hy]at hy';cases hy';exact h
  .have:=vG T.sb hy hy' ω;omega
 .intro y j hj hj' e z hz;have zl:=BZ T.sa ex hz;have:=c.hi j hj hj';rw[e]at this;have:=of_decide_eq_false this;have n:=T.ne x mx y (iK e);omega
 .intro y hy;obtain⟨j,hj,e⟩:=BY hy;have:=c.lo j hj;rw[e]at this;exact qaC this
end
section
variable{M:Model}{A:Around}{E:T0}{s:Shared}{κ:SortKind}{φ:Keyed->Int}{El:Keyed->Prop}
abbrev F1(φ:Keyed->Int)(a b:η)(st:SortSt)(n:Nat)(t:Option η×Nat×Nat×Array Keyed×Nat)(st':SortSt):Prop:=∃out na nb g,t=(none,na+1,nb+2,out,g)/\ag st st'/\MH φ a b out (na+1) (nb+2)/\na+1<a.size/\nb+1<b.size/\na+nb+4+n<=a.size+b.size
abbrev F2(φ:Keyed->Int)(a b:η)(st:SortSt)(na nb:Nat)(p:Nat->Prop)(t:Option η×Nat×Nat×Array Keyed×Nat×Nat)(st'':SortSt):Prop:=∃out' gk fT ac bc,t=(none,gk+1,fT+2,out',ac,bc)/\ag st st''/\MH φ a b out' (gk+1) (fT+2)/\gk<=na/\fT<=nb/\p (gk+fT)
abbrev F3(φ:Keyed->Int)(a b:η)(st:SortSt)(na nb:Nat)(t:Option η×Nat×Nat×Array Keyed×Nat×Nat×Nat)(st'':SortSt):Prop:=∃out' gk fT g ac bc,t=(none,gk+1,fT+2,out',g,ac,bc)/\ag st st''/\MH φ a b out' (gk+1) (fT+2)/\gk<=na/\fT<=nb/\gk+fT<na+nb
section
variable{φ:Keyed->Int}{a b:η}{st st':SortSt}{n k l:Nat}{p:Nat->Prop}
def F1.el{P:Option η×Nat×Nat×Array Keyed×Nat->Prop}(h:∀o i j g,ag st st'->MH φ a b o (i+1) (j+2)->i+1<a.size->j+1<b.size->i+j+4+n<=a.size+b.size->P (none,i+1,j+2,o,g)):∀t,F1 φ a b st n t st'->P t:=by rintro _ ⟨o,i,j,g,rfl,u,v,x,y,z⟩;exact h o i j g u v x y z
def F2.el{P:Option η×Nat×Nat×Array Keyed×Nat×Nat->Prop}(h:∀o i j c d,ag st st'->MH φ a b o (i+1) (j+2)->i<=k->j<=l->p (i+j)->P (none,i+1,j+2,o,c,d)):∀t,F2 φ a b st k l p t st'->P t:=by rintro _ ⟨o,i,j,c,d,rfl,u,v,x,y,z⟩;exact h o i j c d u v x y z
def F3.el{P:Option η×Nat×Nat×Array Keyed×Nat×Nat×Nat->Prop}(h:∀o i j g c d,ag st st'->MH φ a b o (i+1) (j+2)->i<=k->j<=l->i+j<k+l->P (none,i+1,j+2,o,g,c,d)):∀t,F3 φ a b st k l t st'->P t:=by rintro _ ⟨o,i,j,g,c,d,rfl,u,v,x,y,z⟩;exact h o i j g c d u v x y z
end
def Wv(C:γA){a b:η}(T:ε2){Q:Array Keyed->SortSt->Prop}{st:SortSt}(hk:kindOf st=κ)(q:∀m st',ag st st'->Good φ a b m->Q m st'):wpS M A E s (Mm a b) Q st:=by
 obtain⟨x0,y0,hx0,n5,FW⟩:=T.h0;obtain⟨xl,uA,gl⟩:=T.hl;have l0:=sM hx0;have l1:=sM n5
 have start:MH φ a b #[xl] (a.size-1) b.size:=by
  have m0:MH φ a b #[] (a.size-1+1) b.size:=by have e1:a.toList.take (a.size-1+1)=a.toList:=qaX (by simp;omega);have e2:b.toList.take b.size=b.toList:=qaX (by simp);unfold MH;rw[e1,e2];refine⟨?_,.nil,List.pairwise_reverse.mpr T.sa,List.pairwise_reverse.mpr T.sb,λx hx=>by simp at hx,λx hx=>by simp at hx⟩;exact(List.reverse_perm _).append (List.reverse_perm _)
  exact m0.pa uA λy hy=>gl y (qbK hy)
 unfold Mm;refine qal (wpS_lift (wpAny_rule ⟨rfl,?_⟩));dsimp only;refine qal (iw uA ?_);refine cE (λc=>qas (q _ _ ζu (start.je (qau.mp c)))) λc1=>?_;refine cE (λc=>qas (q _ _ ζu (start.first T (qau.mp c)))) λc2=>?_;rw[qau]at c1 c2;refine qal (wpS_get ?_)
 refine qal (wpS_mono (qbf (I:=F1 φ a b st)
  (Q:=Dq φ a b st) ?step ?fin ⟨_,a.size-2,b.size-2,_,by rw[show a.size-2+1=a.size-1 by omega,show b.size-2+2=b.size by omega],ag.refl _,by rw[show a.size-2+1=a.size-1 by omega,show b.size-2+2=b.size by omega];exact start,ω,ω,ω⟩) ?post)
 case fin =>
  rintro t st' ⟨out,na,nb,g,rfl,_,_,h1,h2,h3⟩
  omega
 case post =>
  rintro t st' ⟨r,x,rfl,h,hg⟩
  exact qas (q r st' h hg)
 case step =>
  intro n t st' _ hn
  revert t
  refine F1.el λout na nb g hs hm h1 h2 h3=>?_
  dsimp only
  refine qal (wpS_mono (qbf (I:=λn=>F2 φ a b st na nb λm=>m+n<=na+nb)
   (Q:=λt st''=>Dq φ a b st t st''\/F2 φ a b st na nb (λm=>m<na+nb) t st'') ?step ?fin ⟨out,na,nb,0,0,rfl,hs,hm,qah _,qah _,qah _⟩) ?post)
  case fin =>
   rintro t st'' ⟨out',gk,fT,ac,bc,rfl,hs',hm',h1',h2',h3'⟩
   exact .inr ⟨out',gk,fT,ac,bc,rfl,hs',hm',h1',h2',ω⟩
  case step =>
   intro m t st'' _ hm2
   revert t
   refine F2.el λout' gk fT ac bc hs' hm' h1' h2' h3'=>?_
   dsimp only
   obtain⟨y,hy⟩:=at_of (a:=b) (i:=fT+1) ω
   obtain⟨x,hx⟩:=at_of (a:=a) (i:=gk) ω
   refine qal (iw hy ?_)
   refine qal (iw hx ?_)
   refine qal (C y x st'' _ (T.eb y (iK hy)) (T.ea x (iK hx)) (hs'.k.trans hk) ?_)
   dsimp only
   refine cE (λc=>?_) λc=>?_
   .have c:=qaC c
    refine qal (iw hx ?_)
    have gF:=hm'.pa hx λz hz=>Int.lt_of_le_of_lt (BZ T.sb hy hz) c
    refine cE (λd=>qas (.inl ⟨_,_,rfl,hs',gF.je δO⟩)) λd=>?_
    rw[qau]at d
    obtain⟨p,rfl⟩:∃p,gk=p+1:=⟨gk-1,ω⟩
    refine cE (λ_=>?_) λ_=>?_
    .exact qas (.inr ⟨_,p,fT,_,_,rfl,hs',gF,ω,h2',ω⟩)
    .exact qas ⟨_,p,fT,_,_,rfl,hs',gF,ω,h2',ω⟩
   .have c:¬φ y<φ x:=by simpa using c
    have nn:=T.ne x (iK hx) y (iK hy)
    refine qal (iw hy ?_)
    have gF:=hm'.pb hy λz hz=>Int.lt_of_le_of_lt (BZ T.sa hx hz) (show φ x<φ y by omega)
    refine cE (λd=>qas (.inl ⟨_,_,rfl,hs',gF.first T δO⟩)) λd=>?_
    rw[qau]at d
    obtain⟨p,rfl⟩:∃p,fT=p+1:=⟨fT-1,ω⟩
    refine cE (λ_=>?_) λ_=>?_
    .exact qas (.inr ⟨_,gk,p,_,_,rfl,hs',gF,h1',ω,ω⟩)
    .exact qas ⟨_,gk,p,_,_,rfl,hs',gF,h1',ω,ω⟩
  case post =>
   intro t st''
   revert t
   refine BX (Dq.el λr _ hs' hg=>qas ⟨r,_,rfl,hs',hg⟩) (F2.el λout' gk fT ac bc hs' hm' h1' h2' h3'=>?_)
   dsimp only
   refine qal (wpS_lift (wpAny_rule ⟨rfl,?_⟩))
   refine qal (wpS_mono (qbf (I:=λ_=>F3 φ a b st na nb)
    (Q:=λt st''=>Dq φ a b st t st''\/F3 φ a b st na nb t st'') ?step (λt st'' h=>.inr h) ⟨out',gk,fT,_,ac,bc,rfl,hs',hm',h1',h2',h3'⟩) ?post)
   case post =>
    intro t st3
    revert t
    exact BX (Dq.el λr _ hs' hg=>qas ⟨r,_,rfl,hs',hg⟩) (F3.el λout' gk fT g ac bc hs' hm' h1' h2' h3'=>qal (BV hs' λFX hs4=>qas ⟨out',gk,fT,_,rfl,hs4,hm',ω,ω,ω⟩))
   case step =>
    intro m t st3 _ hm2
    revert t
    refine F3.el λout' gk fT g ac bc hs' hm' h1' h2' h3'=>?_
    dsimp only
    obtain⟨y,hy⟩:=at_of (a:=b) (i:=fT+1) ω
    revert g
    refine Mq (p:=(· - 1)) (λg=>?_) λg=>rfl
    refine qal (BV hs' λFX hs4=>?_)
    refine qal (iw hy ?_)
    refine qal (Ws C T (na:=gk) ηS hy ω λk k1 k2 k3=>?_)
    dsimp only
    generalize hK:gk+1-k=K
    generalize hX:gk+1=X
    generalize hY:out'=Y
    revert X Y
    refine BW (λX o=>∃p,X=p+1/\MH φ a b o (p+1) (fT+2)/\p<=na/\p+fT<na+nb/\∀x∈a.toList.take (p+1),φ x<φ y) ?_ (λJ ck=>?_) λck=>?_
    .rintro _ o ⟨p,rfl,hm1,h11,h31,k3⟩
     refine qal (iw hy ?_)
     have hm2:=hm1.pb hy k3
     refine cE (λd=>qas (.inl ⟨_,_,rfl,hs4,hm2.first T δO⟩)) λd3=>?_
     rw[qau]at d3
     obtain⟨x,hx⟩:=at_of (a:=a) (i:=p) ω
     refine qal (iw hx ?_)
     refine qal (Wu C T (nb:=fT) ηS hx ω λj j1 j2 j3=>?_)
     dsimp only
     generalize hL:fT+2-1-j=L
     generalize hX:fT+2-1=X
     generalize hY:o.push y=Y
     revert X Y
     refine BW (λX o=>∃u,X=u+2/\MH φ a b o (p+1) (u+2)/\u<=nb/\p+u<na+nb/\∀y∈b.toList.take (u+2),φ y<φ x) ?_ (λJ cj=>?_) λcj=>?_
     .rintro _ o ⟨u,rfl,gF,h21,Wr,j3⟩
      refine qal (iw hx ?_)
      have uz:=gF.pa hx j3
      refine cE (λd=>qas (.inl ⟨_,_,rfl,hs4,uz.je δO⟩)) λd5=>?_
      rw[qau]at d5
      obtain⟨v,rfl⟩:∃v,p=v+1:=⟨p-1,ω⟩
      refine cE (λ_=>?_) λ_=>?_
      .exact qas (.inr ⟨_,v,u,_,_,_,rfl,hs4,uz,ω,h21,ω⟩)
      .exact qas ⟨_,v,u,_,_,_,rfl,hs4,uz,ω,h21,ω⟩
     .have gF:=hm2.kb j1 j2
      refine cE (λd=>qas (.inl ⟨_,_,rfl,hs4,gF.first T δO⟩)) λd4=>?_
      refine cE (λd=>qas (.inl ⟨_,_,rfl,hs4,gF.jd δO⟩)) λd6=>?_
      rw[qau]at d4 d6
      obtain⟨u,rfl⟩:∃u,j=u+2:=⟨j-2,ω⟩
      exact J _ _ ⟨u,rfl,gF,ω,ω,j3⟩
     .obtain⟨u,rfl⟩:∃u,fT=u+1:=⟨fT-1,ω⟩
      rw[show j=u+2 by omega]at j3
      exact⟨u,rfl,hm2,ω,ω,j3⟩
    .have hm1:=hm'.ka k1 k2
     refine cE (λd=>qas (.inl ⟨_,_,rfl,hs4,hm1.je δO⟩)) λd1=>?_
     rw[qau]at d1
     obtain⟨p,rfl⟩:∃p,k=p+1:=⟨k-1,ω⟩
     exact J _ _ ⟨p,rfl,hm1,ω,ω,k3⟩
    .rw[show k=gk+1 by omega]at k3
     exact⟨gk,rfl,hm',h1',h3',k3⟩
end
theorem wb{α:Type}:∀(m:δ5) (a:Array α) (o j:Nat),o+j+m.length<=a.size->((m.zipIdx j).foldl (λa x=>a.setIfInBounds (o+x.2) x.1) a).toList=a.toList.take (o+j)++m++a.toList.drop (o+j+m.length)
 |[],a,o,j,h=>by simp
 |x::m,a,o,j,h=>by
   rw[qaW]at h;rw[List.zipIdx_cons,List.foldl_cons,wb m _ o (j+1) (by rw[Array.size_setIfInBounds];omega)];have lt:o+j<a.toList.length:=by simp;omega
   rw[Array.toList_setIfInBounds];show(a.toList.set (o+j) x).take (o+(j+1))++m++(a.toList.set (o+j) x).drop (o+(j+1)+m.length)=_;rw[List.drop_set_of_lt ω,show o+(j+1)=o+j+1 by omega,List.take_succ,List.take_set_of_le γI,qaq lt,qaW];simp only[Option.toList_some,List.append_assoc,List.cons_append,List.nil_append];rw[show o+j+1+m.length=o+j+(m.length+1) by omega]
section
variable{M:Model}{A:Around}{E:T0}{s:Shared}{κ:SortKind}{φ:Keyed->Int}{El:Keyed->Prop}
section
variable{arr:η}{pre X Y post:εG}
def gX(ha:arr.toList=pre++X++Y++post)(h:X[j]?=some x):arr[pre.length+j]?=some x:=by rw[<-qaw,ha,qaV,qaV,qaI ω,qbM,qaL (qac.mp h).1];exact h
def gY(ha:arr.toList=pre++X++Y++post)(h:Y[j]?=some y):arr[pre.length+X.length+j]?=some y:=by rw[<-qaw,ha,qaV,qaI (by rw[qam];omega),qam,qbM,qaL (qac.mp h).1];exact h
def xX(ha:arr.toList=pre++X++Y++post)(h:k<=X.length):(arr.extract (pre.length+k) (pre.length+X.length)).toList=X.drop k:=by rw[qbI];show(arr.toList.drop (pre.length+k)).take (pre.length+X.length-(pre.length+k))=_;rw[ha,qaV,qaV,List.drop_append,qaG ω,qbM,List.nil_append,List.drop_append_of_le_length h,List.take_append_of_le_length (by rw[qaR];omega),qaX (by rw[qaR];omega)]
def xY(ha:arr.toList=pre++X++Y++post)(h:k<=Y.length):(arr.extract (pre.length+X.length) (pre.length+X.length+k)).toList=Y.take k:=by rw[FV,ha,qaV (pre++X),List.drop_append,qaG (by simp),qam,Nat.sub_self,List.drop_zero,List.nil_append,List.take_append_of_le_length h]
end
def Ww(C:γA){i:Nat}{Q:Bool->SortSt->Prop}{st:SortSt}{pre X Y post:εG}{p1 p2:Nat}(hk:kindOf st=κ)(hf:failedOf st=none)(ha:(arrOf st).toList=pre++X++Y++post)(h1:(pendingOf st)[i]?=some (pre.length,X.length,p1))(h2:(pendingOf st)[i+1]?=some (pre.length+X.length,Y.length,p2))
 (eX:∀x∈X,El x) (eY:∀x∈Y,El x) (sX:X.Pairwise λx y=>φ x<φ y) (sY:Y.Pairwise λx y=>φ x<φ y) (ne:∀x∈X,∀y∈Y,φ x≠φ y) (nX:X≠[]) (nY:Y≠[])
 (q:∀st' Z,kindOf st'=κ->failedOf st'=none->pendingOf st'=((pendingOf st).setIfInBounds i (pre.length,X.length+Y.length,p1)).eraseIdxIfInBounds (i+1)->(arrOf st').toList=pre++Z++post->(Z.Pairwise λx y=>φ x<φ y)->Z.Perm (X++Y)->Q true st'):wpS M A E s (mergeAt' i) Q st:=by
 have lX:0<X.length:=List.length_pos_iff.mpr nX;have lY:0<Y.length:=List.length_pos_iff.mpr nY
 have pw:∀{l:εG},(l.Pairwise λx y=>φ x<φ y)->∀{i j:Nat}{x y:Keyed},l[i]?=some x->l[j]?=some y->i<j->φ x<φ y:=λ{l} hl i j x y hi hj lt=>by obtain⟨a1,a2⟩:=qac.mp hi;obtain⟨b1,b2⟩:=qac.mp hj;rw[<-a2,<-b2];exact qa7.mp hl i j a1 b1 lt
 have pw':∀{l:εG},(l.Pairwise λx y=>φ x<φ y)->∀{i j:Nat}{x y:Keyed},l[i]?=some x->l[j]?=some y->i<=j->φ x<=φ y:=λ{l} hl i j x y hi hj le=>by
  by_cases e:i=j
  .subst e;rw[hi]at hj;cases hj;exact Int.le_refl _
  .exact Int.le_of_lt (pw hl hi hj ω)
 obtain⟨y0,n5⟩:∃y,Y[0]?=some y:=⟨_,qae lY⟩;obtain⟨xl,uA⟩:∃x,X[X.length-1]?=some x:=⟨_,qae ω⟩;have Mu:=qaB n5;have Mv:=qaB uA
 have whole:(∀x∈X,∀y∈Y,φ x<φ y)->∀st',kindOf st'=kindOf st->failedOf st'=failedOf st->pendingOf st'=((pendingOf st).setIfInBounds i (pre.length,X.length+Y.length,p1)).eraseIdxIfInBounds (i+1)->arrOf st'=arrOf st->Q true st':=λh st' z1 z2 z3 z4 =>
  q st' (X++Y) (z1.trans hk) (z2.trans hf) z3 (by rw[z4,ha];simp) (qa4.mpr ⟨sX,sY,h⟩) (List.Perm.refl _)
 unfold mergeAt';refine qal (wpS_get ?_);dsimp only;rw[h1,h2];dsimp only;refine qal (wpS_modify (f:=λ_=>_) ?_);refine qal (iw (gY ha n5) ?_);refine qal (vD C (p:=λj=>match X[j]? with|some x => !decide (φ y0<φ x)|none=>false) hk (eY y0 Mu) (λj z=>?_) (λa b z z' h=>?_) lX λk c=>?_)
 .obtain⟨x,hx⟩:∃x,X[j]?=some x:=⟨_,qae z⟩;exact⟨x,gX ha hx,eX x (qaB hx),by rw[hx];rfl⟩
 .obtain⟨x,hx⟩:∃x,X[a]?=some x:=⟨_,qae ω⟩;obtain⟨x',hx'⟩:∃x,X[b]?=some x:=⟨_,qae z'⟩;dsimp only at h ⊢;rw[hx']at h;rw[hx];dsimp only at h ⊢;rw[Bool.not_eq_true',qbu]at h ⊢;have:=pw' sX hx hx' z;omega
 have Mw:=c.le
 have lo1:∀j x,j<k->X[j]?=some x->φ x<φ y0:=λj x hj hx=>by have:=c.lo j hj;rw[hx]at this;dsimp only at this;rw[Bool.not_eq_true',qbu]at this;have:=ne x (qaB hx) y0 Mu;omega
 have hi1:∀j x,k<=j->X[j]?=some x->φ y0<φ x:=λj x hj hx=>by have:=c.hi j hj (qac.mp hx).1;rw[hx]at this;dsimp only at this;rw[Bool.not_eq_false']at this;exact qaC this
 have ym:∀y∈Y,φ y0<=φ y:=λy hy=>by obtain⟨j,hj⟩:=qa9.mp hy;exact pw' sY n5 hj θa
 have uB:∀x∈X,φ x<=φ xl:=λx hx=>by obtain⟨j,hj⟩:=qa9.mp hx;have:=(qac.mp hj).1;exact pw' sX hj uA ω
 dsimp only;refine cE (λd=>qas (whole (λx hx y hy=>?_) _ rfl rfl rfl rfl)) λd1=>?_
 .rw[qau]at d;obtain⟨j,hj⟩:=qa9.mp hx;have:=(qac.mp hj).1;exact Int.lt_of_lt_of_le (lo1 j x ω hj) (ym y hy)
 rw[qau]at d1;have yn:=gX ha uA;rw[show pre.length+(X.length-1)=pre.length+k+(X.length-k)-1 by omega]at yn;refine qal (iw yn ?_);refine qal (vD C (p:=λj=>match Y[j]? with|some y=>decide (φ y<φ xl)|none=>false) hk (eX xl Mv) (λj z=>?_) (λa b z z' h=>?_) ω λk2 c2=>?_)
 .obtain⟨y,hy⟩:∃y,Y[j]?=some y:=⟨_,qae z⟩;exact⟨y,gY ha hy,eY y (qaB hy),by rw[hy];rfl⟩
 .obtain⟨y,hy⟩:∃y,Y[a]?=some y:=⟨_,qae ω⟩;obtain⟨y',hy'⟩:∃y,Y[b]?=some y:=⟨_,qae z'⟩;dsimp only at h ⊢;rw[hy']at h;rw[hy];dsimp only at h ⊢;have h:=qaC h;have:=pw' sY hy hy' z;exact qaN ω
 have yo:=c2.le
 have lo2:∀j y,j<k2->Y[j]?=some y->φ y<φ xl:=λj y hj hy=>by have:=c2.lo j hj;rw[hy]at this;exact qaC this
 have hi2:∀j y,k2<=j->Y[j]?=some y->φ xl<φ y:=λj y hj hy=>by have:=c2.hi j hj (qac.mp hy).1;rw[hy]at this;have:=of_decide_eq_false this;have:=ne xl Mv y (qaB hy);omega
 dsimp only;refine cE (λd=>qas (whole (λx hx y hy=>?_) _ rfl rfl rfl rfl)) λd2=>?_
 .rw[qau]at d;obtain⟨j,hj⟩:=qa9.mp hy;exact Int.lt_of_le_of_lt (uB x hx) (hi2 j y ω hj)
 rw[qau]at d2;have e1:=xX ha Mw;have e2:=xY ha yo;have rG:((arrOf st).extract (pre.length+k) (pre.length+X.length)).size=X.length-k:=by rw[<-qaA,e1,qaR]
 have T:qY φ El ((arrOf st).extract (pre.length+k) (pre.length+X.length)) ((arrOf st).extract (pre.length+X.length) (pre.length+X.length+k2)):=by
  refine⟨?_,?_,?_,?_,?_,?_,?_⟩
  .rw[e1];exact λx hx=>eX x (qbJ hx)
  .rw[e2];exact λx hx=>eY x (qbK hx)
  .rw[e1];exact sX.sublist (qbQ _ _)
  .rw[e2];exact sY.sublist (qbO _ _)
  .rw[e1,e2];exact λx hx y hy=>ne x (qbJ hx) y (qbK hy)
  .obtain⟨x,hx⟩:∃x,X[k]?=some x:=⟨_,qae ω⟩;refine⟨x,y0,?_,?_,hi1 k x γI hx⟩
   .rw[<-qaw,e1,qbi];exact hx
   .rw[<-qaw,e2,List.getElem?_take,qaz ω];exact n5
  .refine⟨xl,?_,?_⟩
   .rw[rG,<-qaw,e1,qbi,show k+(X.length-k-1)=X.length-1 by omega];exact uA
   .rw[e2];intro y hy;obtain⟨j,hj⟩:=qa9.mp hy;rw[List.getElem?_take]at hj;split at hj
    .rename_i z;exact lo2 j y z hj
    .cases hj
 have Wx:(arrOf st).size=pre.length+X.length+Y.length+post.length:=by rw[<-qaA,ha];simp;omega
 have fin:∀(m:η) (st2:SortSt),Good φ ((arrOf st).extract (pre.length+k) (pre.length+X.length)) ((arrOf st).extract (pre.length+X.length) (pre.length+X.length+k2)) m->kindOf st2=kindOf st->failedOf st2=failedOf st->pendingOf st2=((pendingOf st).setIfInBounds i (pre.length,X.length+Y.length,p1)).eraseIdxIfInBounds (i+1)->arrOf st2=arrOf st ->
  ∀st3,kindOf st3=kindOf st2->failedOf st3=failedOf st2->pendingOf st3=pendingOf st2->arrOf st3=m.toList.zipIdx.foldl (λa x=>a.setIfInBounds (pre.length+k+x.2) x.1) (arrOf st2)->Q (failedOf st3).isNone st3:=by
  intro m st2 gm z1 z2 z3 z4 st3 y1 y2 y3 y4;obtain⟨g1,g2⟩:=gm;rw[e1,e2]at g2;have ml:m.toList.length=X.length-k+k2:=by rw[g2.length_eq,qam,qaR,qa0];omega
  have e3:(arrOf st3).toList=pre++(X.take k++m.toList++Y.drop k2)++post:=by
   rw[y4,z4,wb m.toList ζt (pre.length+k) 0 (by rw[ml,Wx];omega),Nat.add_zero,ml,ha]
   have t1:(pre++X++Y++post).take (pre.length+k)=pre++X.take k:=by rw[qaV,qaV,List.take_append,qaX ω,qbM,List.take_append_of_le_length Mw]
   have t2:(pre++X++Y++post).drop (pre.length+k+(X.length-k+k2))=Y.drop k2++post:=by rw[qaV (pre++X),List.drop_append,qaG (by rw[qam];omega),qam,List.nil_append,show pre.length+k+(X.length-k+k2)-(pre.length+X.length)=k2 by omega,List.drop_append_of_le_length yo]
   rw[t1,t2];simp
  have hfn:failedOf st3=none:=by rw[y2,z2,hf]
  rw[hfn];have mm:∀x∈m.toList,x∈X.drop k\/x∈Y.take k2:=λx hx=>qaK.mp (g2.mem_iff.mp hx);refine q st3 _ (y1.trans (z1.trans hk)) hfn (y3.trans z3) e3 ?_ ?_
  .refine qa4.mpr ⟨qa4.mpr ⟨sX.sublist (qbO _ _),g1,λx hx y hy=>?_⟩,sY.sublist (qbQ _ _),λx hx y hy=>?_⟩
   .obtain⟨j,hj⟩:=qa9.mp hx;rw[List.getElem?_take]at hj;split at hj
    .rename_i z;have l0:=lo1 j x z hj;rcases mm y hy with w|w
     .obtain⟨j',hj'⟩:=qa9.mp w;rw[qbi]at hj';have:=hi1 _ y ω hj';omega
     .have:=ym y (qbK w);omega
    .cases hj
   .obtain⟨j,hj⟩:=qa9.mp hy;rw[qbi]at hj;have l0:=hi2 _ y ω hj
    have:φ x<=φ xl:=by
     rcases qaK.mp hx with w|w
     .exact uB x (qbK w)
     .rcases mm x w with w|w
      .exact uB x (qbJ w)
      .obtain⟨j',hj'⟩:=qa9.mp w;rw[List.getElem?_take]at hj';split at hj'
       .rename_i z;exact Int.le_of_lt (lo2 j' x z hj')
       .cases hj'
    omega
  .have p1:(X.take k++m.toList++Y.drop k2).Perm (X.take k++(X.drop k++Y.take k2)++Y.drop k2):=(g2.append_left _).append_right _;refine p1.trans (List.Perm.of_eq ?_);rw[<-qaV,qaO,qaV,qaO]
 refine cE (λ_=>?_) λ_=>?_
 .refine qal (Wq C T hk λm st2 hs2 gm=>?_);refine qal (wpS_modify ?_);refine qal (wpS_get (qas ?_));exact fin m st2 gm hs2.k hs2.f hs2.p hs2.a _ rfl rfl rfl rfl
 .refine qal (Wv C T hk λm st2 hs2 gm=>?_);refine qal (wpS_modify ?_);refine qal (wpS_get (qas ?_));exact fin m st2 gm hs2.k hs2.f hs2.p hs2.a _ rfl rfl rfl rfl
end
section
variable{M:Model}{A:Around}{E:T0}{s:Shared}{κ:SortKind}{φ:Keyed->Int}{El:Keyed->Prop}{a0:η}
noncomputable def F(φ:Keyed->Int)(a:η)(i:Nat):Int:=match a[i]? with
 |some x=>φ x
 |none=>0
def Up(φ:Keyed->Int)(a:η)(lo n:Nat):Prop:=∀i j,lo<=i->i<j->j<lo+n->F φ a i<F φ a j
def Dn(φ:Keyed->Int)(a:η)(lo n:Nat):Prop:=∀i j,lo<=i->i<j->j<lo+n->F φ a j<F φ a i
structure Bs(κ:SortKind)(a0:η)(pn:Array (Nat×Nat×Nat))(lo:Nat)(b:η)(st:SortSt):Prop where
 k:kindOf st=κ
 f:failedOf st=none
 p:pendingOf st=pn
 pm:(arrOf st).Perm a0
 out:∀i,i<lo->(arrOf st)[i]?=b[i]?
structure Un(φ:Keyed->Int)(El:Keyed->Prop)(a0:η):Prop where
 el:∀x∈a0.toList,El x
 nd:(a0.toList.map φ).Nodup
def vK(h:a[i]?=some x):F φ a i=φ x:=by unfold F;rw[h]
def n6(h:a[i]?=b[j]?):F φ a i=F φ b j:=by unfold F;rw[h]
def Un.ne(U:ηZ){a:η}(pm:a.Perm a0)(h:i<j)(hj:j<a.size):F φ a i≠F φ a j:=by
 have nd:(a.toList.map φ).Nodup:=((qbv.mp pm).map φ).nodup_iff.mpr U.nd;obtain⟨x,hx⟩:=at_of (a:=a) (i:=i) ω;obtain⟨y,hy⟩:=at_of hj;rw[vK hx,vK hy];intro e;have l1:i<(a.toList.map φ).length:=by simp;omega
 have l2:j<(a.toList.map φ).length:=by simp;omega
 have:=(List.getElem_inj (h₀:=l1) (h₁:=l2) nd).mp (by obtain⟨_,e1⟩:=qaM.mp hx;obtain⟨_,e2⟩:=qaM.mp hy;simp[e1,e2,e])
 omega
def vL(C:γA)(U:ηZ){st:SortSt}{Q:Option Bool->SortSt->Prop}(hk:kindOf st=κ)(pm:(arrOf st).Perm a0){i j:Nat}(hi:i<a0.size)(hj:j<a0.size)(q:Q (some (decide (F φ ζt i<F φ ζt j))) st):wpS M A E s (ltAt' i j) Q st:=by have sz:=pm.size_eq;obtain⟨x,hx⟩:=at_of (a:=arrOf st) (i:=i) ω;obtain⟨y,hy⟩:=at_of (a:=arrOf st) (i:=j) ω;rw[vK hx,vK hy]at q;rw[ltAt'_eq];refine qal (wpS_get ?_);refine qal (iw hx ?_);refine qal (iw hy ?_);have m:∀x∈(arrOf st).toList,El x:=λx hx=>U.el x ((qbv.mp pm).mem_iff.mp hx);exact C x y st _ (m x (iK hx)) (m y (iK hy)) hk q
def Up.one{a:η}{lo:Nat}:Up φ a lo 1:=λi j h1 h2 h3=>by omega
def Up.next{a:η}{lo n:Nat}(h:Up φ a lo n)(hn:1<=n)(e:F φ a (lo+n-1)<F φ a (lo+n)):Up φ a lo (n+1):=λi j h1 h2 h3=>by
 by_cases z:j<lo+n
 .exact h i j h1 h2 z
 .have:j=lo+n:=by omega
  subst this;by_cases y:i=lo+n-1
  .rw[y];exact e
  .exact Int.lt_trans (h i (lo+n-1) h1 ω ω) e
def Dn.next{a:η}{lo n:Nat}(h:Dn φ a lo n)(hn:1<=n)(e:F φ a (lo+n)<F φ a (lo+n-1)):Dn φ a lo (n+1):=λi j h1 h2 h3=>by
 by_cases z:j<lo+n
 .exact h i j h1 h2 z
 .have:j=lo+n:=by omega
  subst this;by_cases y:i=lo+n-1
  .rw[y];exact e
  .exact Int.lt_trans e (h i (lo+n-1) h1 ω ω)
def Wy(C:γA)(U:ηZ){pn:Array (Nat×Nat×Nat)}{lo:Nat}{b:η}{st:SortSt}{Q:Option Nat->SortSt->Prop}(hl:lo<a0.size)(B:Bs κ a0 pn lo b st)(q:∀n st',1<=n->lo+n<=a0.size->Bs κ a0 pn lo b st'->Up φ γ4 lo n->Q (some n) st'):wpS M A E s (countRun' lo (a0.size-lo)) Q st:=by
 unfold countRun';refine qal (wpS_mono (qbf (I:=λi t st'=>st'=st/\t=(none,i)/\Up φ ζt lo i) (Q:=λt st'=>st'=st/\∃n,t=(none,n)/\1<=n/\lo+n<=a0.size/\Up φ ζt lo n/\(lo+n<a0.size->F φ ζt (lo+n)<F φ ζt (lo+n-1))) ?_ ?_ ⟨rfl,rfl,Up.one⟩) ?_)
 .rintro i t st' h1 h2 ⟨rfl,rfl,up⟩;dsimp only;refine qal (vL C U B.k B.pm ω ω ?_);dsimp only;refine cE (λc=>qas ⟨rfl,i,rfl,h1,ω,up,λ_=>qaC c⟩) λc=>?_;have c:¬F φ γ4 (lo+i)<F φ γ4 (lo+i-1):=by simpa using c
  have ne:=U.ne B.pm (i:=lo+i-1) (j:=lo+i) ω (by rw[B.pm.size_eq];omega);exact qas ⟨rfl,rfl,up.next h1 ω⟩
 .rintro t st' ⟨rfl,rfl,up⟩;exact⟨rfl,_,rfl,ω,ω,up,ω⟩
 .rintro t st' ⟨rfl,n,rfl,n1,n2,up,dn⟩;dsimp only;refine cE (λ_=>qas (q n _ n1 n2 B up)) λc=>?_;rw[qau]at c;have dn:=dn ω;refine cE (λc2=>?_) λc2=>?_
  .refine qal (vL C U B.k B.pm ω ω ?_);have r:=up lo (lo+n-1) γI ω ω;rw[qaN r];dsimp only;refine cE (λ_=>qas (q n _ n1 n2 B up)) λz=>absurd rfl z
  .have e1:n=1:=by omega
   subst e1;refine qal (wpS_lift (wpAny_rule ⟨rfl,?_⟩));refine qal (wpS_mono (qbf (I:=λi t st''=>st''=st'/\t=(none,i,0)/\Dn φ γ4 lo i) (Q:=λt st''=>st''=st'/\∃n,t=(none,n,0)/\2<=n/\lo+n<=a0.size/\Dn φ γ4 lo n) ?_ ?_ ⟨rfl,rfl,?_⟩) ?_)
   .rintro i t st'' h1 h2 ⟨rfl,rfl,up⟩;dsimp only;refine qal (vL C U B.k B.pm ω ω ?_);dsimp only;refine cE (λc=>?_) λc=>?_
    .rw[qax ω];exact qas ⟨rfl,rfl,up.next ω (qaC c)⟩
    .refine qal (vL C U B.k B.pm ω ω ?_);have c:¬F φ γD (lo+i)<F φ γD (lo+i-1):=by simpa using c
     have ne:=U.ne B.pm (i:=lo+i-1) (j:=lo+i) ω (by rw[B.pm.size_eq];omega);rw[qaN (show F φ γD (lo+i-1)<F φ γD (lo+i) by omega)];dsimp only;refine cE (λ_=>qas ⟨rfl,i,rfl,ω,ω,up⟩) λz=>absurd rfl z
   .rintro t st'' ⟨rfl,rfl,up⟩;exact⟨rfl,_,rfl,ω,ω,up⟩
   .exact Dn.next (n:=1) (λi j h1 h2 h3=>by omega) γI dn
   .rintro t st'' ⟨rfl,n,rfl,m1,m2,Wz⟩;dsimp only;rw[qax ω];have sz:=B.pm.size_eq;have gm:=λk=>getElem?_mirror_all (xs:=arrOf st'') (i:=lo) (j:=lo+n) ω k;refine qal (wpS_modify ?_)
    have B2:Bs κ a0 pn lo b (setArr st'' (mirror γD lo (lo+n) ((lo+n-lo)/2))):=⟨B.k,B.f,B.p,(mirror_perm _ _ _ _).trans B.pm,λi hi=>by show(mirror γD lo (lo+n) ((lo+n-lo)/2))[i]?=_;rw[gm,qax ω];exact B.out i hi⟩
    have WA:Up φ (mirror γD lo (lo+n) ((lo+n-lo)/2)) lo n:=λi j h1 h2 h3=>by have e1:=gm i;rw[qaz ⟨h1,ω⟩]at e1;have e2:=gm j;rw[qaz ⟨ω,h3⟩]at e2;rw[n6 e1,n6 e2];exact Wz _ _ ω ω ω
    refine qal (wpS_mono (qbf (I:=λi t st3=>st3=setArr st'' (mirror γD lo (lo+n) ((lo+n-lo)/2))/\t=(none,i)/\Up φ (mirror γD lo (lo+n) ((lo+n-lo)/2)) lo i) (Q:=λt st3=>st3=setArr st'' (mirror γD lo (lo+n) ((lo+n-lo)/2))/\∃n',t=(none,n')/\1<=n'/\lo+n'<=a0.size/\Up φ (mirror γD lo (lo+n) ((lo+n-lo)/2)) lo n') ?_ ?_ ⟨rfl,rfl,WA⟩) ?_)
    .rintro i t st3 h1 h2 ⟨rfl,rfl,up⟩;dsimp only;refine qal (vL C U B2.k B2.pm ω ω ?_);dsimp only;refine cE (λc=>qas ⟨rfl,i,rfl,ω,ω,up⟩) λc=>?_;have c:¬F φ (mirror γD lo (lo+n) ((lo+n-lo)/2)) (lo+i)<F φ (mirror γD lo (lo+n) ((lo+n-lo)/2)) (lo+i-1):=by simpa using c
     have ne:=U.ne B2.pm (i:=lo+i-1) (j:=lo+i) ω (by rw[B2.pm.size_eq];omega);have ne:F φ (mirror γD lo (lo+n) ((lo+n-lo)/2)) (lo+i-1)≠F φ (mirror γD lo (lo+n) ((lo+n-lo)/2)) (lo+i):=ne;exact qas ⟨rfl,rfl,up.next ω ω⟩
    .rintro t st3 ⟨rfl,rfl,up⟩;exact⟨rfl,_,rfl,ω,ω,up⟩
    .rintro t st3 ⟨rfl,n',rfl,k1,k2,up⟩;exact qas (q n' _ k1 k2 B2 up)
end
section
variable{M:Model}{A:Around}{E:T0}{s:Shared}{κ:SortKind}{φ:Keyed->Int}{El:Keyed->Prop}{a0:η}
def WB(C:γA)(U:ηZ){pn:Array (Nat×Nat×Nat)}{lo n ok:Nat}{b:η}{st:SortSt}{Q:Bool->SortSt->Prop}(hn:lo+n<=a0.size)(ho:1<=ok)(ho2:ok<=n)(B:Bs κ a0 pn lo b st)(up:Up φ ζt lo ok)(q:∀st',Bs κ a0 pn lo b st'->Up φ γ4 lo n->Q true st'):wpS M A E s (binarySort' lo n ok) Q st:=by
 unfold binarySort';refine qal (wpS_mono (qbf (I:=λi t st'=>t=(none,())/\Bs κ a0 pn lo b st'/\Up φ γ4 lo i) (Q:=λt st'=>t=(none,())/\Bs κ a0 pn lo b st'/\Up φ γ4 lo n) ?_ ?_ ⟨rfl,B,by rw[show max ok 1=ok by omega];exact up⟩) ?_)
 .rintro k t st' h1 h2 ⟨rfl,B,up⟩;dsimp only;have sz:=B.pm.size_eq;have k1:1<=k:=by omega
  refine qal (wpS_mono (qbf (I:=λi t st''=>st''=st'/\∃l r,t=(none,l,r)/\l<=r/\r<=k/\r-l<=k-i/\(∀j,j<l->F φ γ4 (lo+j)<F φ γ4 (lo+k))/\(∀j,r<=j->j<k->F φ γ4 (lo+k)<F φ γ4 (lo+j)))
   (Q:=λt st''=>st''=st'/\∃l r,t=(none,l,r)/\l<=k/\(∀j,j<l->F φ γ4 (lo+j)<F φ γ4 (lo+k))/\(∀j,l<=j->j<k->F φ γ4 (lo+k)<F φ γ4 (lo+j))) ?_ ?_ ⟨rfl,0,k,rfl,ω,ω,ω,λj hj=>by omega,λj hj hj'=>by omega⟩) ?_)
  .rintro i t st'' _ hi ⟨rfl,l,r,rfl,l1,l2,l3,l4,l5⟩;dsimp only;refine cE (λc=>qas ⟨rfl,l,r,rfl,ω,l4,λj hj hj'=>l5 j ω hj'⟩) λc=>?_;refine qal (vL C U B.k B.pm ω ω ?_);dsimp only;refine cE (λc2=>?_) λc2=>?_
   .have c2:=qaC c2;refine qas ⟨rfl,l,_,rfl,ω,ω,ω,l4,λj hj hj'=>?_⟩;by_cases e:j=(l+r)/2
    .rw[e];exact c2
    .exact Int.lt_trans c2 (up _ _ ω ω ω)
   .have c2:¬F φ γD (lo+k)<F φ γD (lo+(l+r)/2):=by simpa using c2
    have ne:=U.ne B.pm (i:=lo+(l+r)/2) (j:=lo+k) ω ω;have lt:F φ γD (lo+(l+r)/2)<F φ γD (lo+k):=by omega
    refine qas ⟨rfl,_,r,rfl,ω,l2,ω,λj hj=>?_,l5⟩;by_cases e:j=(l+r)/2
    .rw[e];exact lt
    .exact Int.lt_trans (up _ _ ω ω ω) lt
  .rintro t st'' ⟨rfl,l,r,rfl,l1,l2,l3,l4,l5⟩;exact⟨rfl,l,r,rfl,ω,l4,λj hj hj'=>l5 j ω hj'⟩
  .rintro t st'' ⟨rfl,l,r,rfl,l1,l4,l5⟩;dsimp only;refine qal (wpS_modify (qas ?_));have gb:=λj=>getElem?_bubble (xs:=arrOf st'') (src:=lo+k) ω (lo+k-(lo+l)) ω j;have dd:lo+k-(lo+k-(lo+l))=lo+l:=by omega
   rw[dd]at gb;refine⟨rfl,⟨B.k,B.f,B.p,(bubble_perm _ _ _).trans B.pm,λi hi=>?_⟩,λi j h3 h4 h5=>?_⟩
   .show(bubble γD (lo+k) (lo+k-(lo+l)))[i]?=_;rw[gb,qax ω,qax ω];exact B.out i hi
   .show F φ (bubble γD (lo+k) (lo+k-(lo+l))) i<F φ (bubble γD (lo+k) (lo+k-(lo+l))) j;have ei:=gb i;have ej:=gb j;by_cases c1:i=lo+l
    .rw[qaz c1]at ei;rw[qax ω,qaz ⟨ω,ω⟩]at ej;rw[n6 ei,n6 ej];have:=l5 (j-1-lo) ω ω;rw[show lo+(j-1-lo)=j-1 by omega]at this;exact this
    .rw[qax c1]at ei;by_cases c2:j=lo+l
     .rw[qax ω]at ei;rw[qaz c2]at ej;rw[n6 ei,n6 ej];have:=l4 (i-lo) ω;rw[show lo+(i-lo)=i by omega]at this;exact this
     .rw[qax c2]at ej;by_cases c3:lo+l<i
      .rw[qaz ⟨c3,ω⟩]at ei;rw[qaz ⟨ω,ω⟩]at ej;rw[n6 ei,n6 ej];exact up _ _ ω ω ω
      .rw[qax ω]at ei;by_cases c4:lo+l<j
       .rw[qaz ⟨c4,ω⟩]at ej;rw[n6 ei,n6 ej];exact up _ _ ω ω ω
       .rw[qax ω]at ej;rw[n6 ei,n6 ej];exact up _ _ ω ω ω
 .rintro t st' ⟨rfl,B,up⟩;rw[show max (max ok 1) n=n by omega]at up;exact⟨rfl,B,up⟩
 .rintro t st' ⟨rfl,B,up⟩;exact qas (q st' B up)
end
section
variable{M:Model}{A:Around}{E:T0}{s:Shared}{κ:SortKind}{φ:Keyed->Int}{El:Keyed->Prop}{a0:η}
noncomputable abbrev Rs:=List (List Keyed×Nat)
def flat:Rs->List Keyed
 |[]=>[]
 |r::t=>r.1++flat t
def iU:Nat->Rs->List (Nat×Nat×Nat)
 |_,[]=>[]
 |o,r::t=>(o,r.1.length,r.2)::iU (o+r.1.length) t
theorem o_:∀a b:Rs,flat (a++b)=flat a++flat b
 |[],b=>rfl
 |r::t,b=>by rw[List.cons_append,flat,flat,o_ t b,qaV]
theorem vM:∀(o:Nat) (a b:Rs),iU o (a++b)=iU o a++iU (o+(flat a).length) b
 |o,[],b=>rfl
 |o,r::t,b=>by rw[List.cons_append,iU,iU,vM,flat,qam,List.cons_append,Nat.add_assoc]
theorem yp:∀(o:Nat) (a:Rs),(iU o a).length=a.length
 |_,[]=>rfl
 |o,r::t=>by rw[iU,qaW,qaW,yp]
structure Ri(κ:SortKind)(φ:Keyed->Int)(a0:η)(rs:Rs)(rest:εG)(st:SortSt):Prop where
 k:kindOf st=κ
 f:failedOf st=none
 p:pendingOf st=(iU 0 rs).toArray
 pm:(arrOf st).Perm a0
 ar:(arrOf st).toList=flat rs++rest
 so:∀r∈rs,r.1≠[]/\r.1.Pairwise λx y=>φ x<φ y
def WC{rs:Rs}(h:i+1<rs.length):∃A X Y B,rs=A++X::Y::B/\A.length=i:=by refine⟨rs.take i,rs[i],rs[i+1],rs.drop (i+2),?_,by rw[qa0];omega⟩;rw[<-qa8,<-qa8,qaO]
def Ri.merge(C:γA)(U:ηZ){rs:Rs}{rest:εG}{st:SortSt}(R:ζF){i:Nat}(hi:i+1<rs.length){Q:Bool->SortSt->Prop}(q:∀rs' st',Ri κ φ a0 rs' rest st'->rs'.length+1=rs.length->(flat rs').length=(flat rs).length->Q true st'):wpS M A E s (mergeAt' i) Q st:=by
 obtain⟨As,⟨X,p1⟩,⟨Y,p2⟩,Bs,rfl,rfl⟩:=WC hi;have ar:=R.ar;have e0:flat (As++(X,p1)::(Y,p2)::Bs)=flat As++X++Y++flat Bs:=by rw[o_,flat,flat];simp
 rw[e0]at ar
 have e1:iU 0 (As++(X,p1)::(Y,p2)::Bs)=iU 0 As++((flat As).length,X.length,p1)::((flat As).length+X.length,Y.length,p2)::iU ((flat As).length+X.length+Y.length) Bs:=by rw[vM,iU,iU,Nat.zero_add]
 have pp:=R.p;rw[e1]at pp;have lA:(iU 0 As).length=As.length:=yp 0 As;have sX:=R.so (X,p1) (by simp);have sY:=R.so (Y,p2) (by simp);have pl:=qbv.mp R.pm;have mX:∀x∈X,x∈(arrOf st).toList:=λx hx=>by rw[ar];simp[hx]
 have mY:∀x∈Y,x∈(arrOf st).toList:=λx hx=>by rw[ar];simp[hx]
 have nd:((arrOf st).toList.map φ).Nodup:=(pl.map φ).nodup_iff.mpr U.nd
 have ne:∀x∈X,∀y∈Y,φ x≠φ y:=λx hx y hy e=>by rw[ar]at nd;simp only[List.map_append,List.append_assoc]at nd;have nd:=(List.nodup_append.mp nd).2.1;have dj:=(List.nodup_append.mp nd).2.2;exact dj (φ x) (List.mem_map_of_mem hx) (φ y) (qa3 _ (List.mem_map_of_mem hy)) e
 refine Ww C (pre:=flat As) (X:=X) (Y:=Y) (post:=flat Bs++rest) (p1:=p1) (p2:=p2) R.k R.f (by rw[ar];simp) ?_ ?_ (λx hx=>U.el x (pl.mem_iff.mp (mX x hx))) (λx hx=>U.el x (pl.mem_iff.mp (mY x hx))) sX.2 sY.2 ne sX.1 sY.1 λst' Z z1 z2 z3 z4 z5 z6=>?_
 .rw[pp,List.getElem?_toArray,qaI ω,lA,Nat.sub_self];rfl
 .rw[pp,List.getElem?_toArray,qaI ω,lA,show As.length+1-As.length=1 by omega];rfl
 .have lZ:Z.length=X.length+Y.length:=by rw[z6.length_eq,qam]
  refine q (As++(Z,p1)::Bs) st' ⟨z1,z2,?_,?_,?_,?_⟩ (by simp;omega) ?_
  .rw[z3,pp];apply Array.toList_inj.mp;rw[Array.toList_eraseIdxIfInBounds,Array.toList_setIfInBounds];show((iU 0 As++((flat As).length,X.length,p1)::((flat As).length+X.length,Y.length,p2)::iU ((flat As).length+X.length+Y.length) Bs).set As.length _).eraseIdx (As.length+1)=iU 0 (As++(Z,p1)::Bs);rw[List.set_append_right _ _ ω,lA,Nat.sub_self,List.set_cons_zero,List.eraseIdx_append_of_length_le ω,lA,show As.length+1-As.length=1 by omega,vM,iU,lZ,Nat.zero_add,<-Nat.add_assoc];rfl
  .refine(qbv.mpr ?_).trans R.pm;rw[z4,ar];have:(flat As++Z++(flat Bs++rest)).Perm (flat As++(X++Y)++(flat Bs++rest)):=(z6.append_left _).append_right _;refine this.trans (List.Perm.of_eq (by simp))
  .rw[z4,o_,flat];simp
  .intro r hr;rcases qaK.mp hr with h|h
   .exact R.so r (by simp[h])
   .rcases qav.mp h with rfl|h
    .refine⟨λe=>?_,z5⟩;have e:Z=[]:=e;have lx:0<X.length:=List.length_pos_iff.mpr sX.1;rw[e,List.length_nil]at lZ;omega
    .exact R.so r (by simp[h])
  .rw[e0,o_,flat];simp only[List.length_append];omega
def WD{rs:Rs}{rest:εG}{st st':SortSt}{n:Nat}(R:ζF)(B:Bs κ a0 (pendingOf st) (flat rs).length ζt st')(n1:1<=n)(hn:(flat rs).length+n<=a0.size)(up:Up φ γ4 (flat rs).length n) :
 ∃run rest',run.length=n/\run≠[]/\(run.Pairwise λx y=>φ x<φ y)/\Ri κ φ a0 rs (run++rest') st':=by
 have sz:=B.pm.size_eq
 have tk:(arrOf st').toList.take (flat rs).length=flat rs:=by
  have e:(arrOf st').toList.take (flat rs).length=(arrOf st).toList.take (flat rs).length:=by
   refine List.ext_getElem? λi=>?_;rw[List.getElem?_take,List.getElem?_take];split
   .rename_i z;have:=B.out i z;rw[<-qaw,<-qaw]at this;exact this
   .rfl
  rw[e,R.ar,List.take_left]
 refine⟨((arrOf st').toList.drop (flat rs).length).take n,((arrOf st').toList.drop (flat rs).length).drop n,?_,?_,?_,B.k,B.f,B.p.trans R.p,B.pm,?_,R.so⟩
 .rw[qa0,qaR,qaA];omega
 .intro z;have:=congrArg List.length z;rw[qa0,qaR,qaA]at this;simp at this;omega
 .rw[qa7];intro i j hi hj lt;rw[qa0]at hi hj;rw[List.getElem_take,List.getElem_take,List.getElem_drop,List.getElem_drop];have:=up ((flat rs).length+i) ((flat rs).length+j) ω ω ω;rw[vK (qap ω),vK (qap ω)]at this;simpa using this
 .rw[qaO]
  conv=>rhs;lhs;rw[<-tk]
  rw[qaO]
end
section
variable{M:Model}{A:Around}{E:T0}{s:Shared}{κ:SortKind}{φ:Keyed->Int}{El:Keyed->Prop}{a0:η}
theorem Mx:∀{rs:Rs},(∀r∈rs,r.1≠[])->rs.length<=(flat rs).length
 |[],_=>qah _
 |r::t,h=>by have:=Mx (rs:=t) λx hx=>h x δP;have h0:=List.length_pos_iff.mpr (h r (qaj ..));rw[flat,qaW,qam];omega
def Ri.len{rs:Rs}{rest:εG}{st:SortSt}(R:ζF):(flat rs).length+rest.length=a0.size:=by have:=R.pm.size_eq;rw[<-qaA,R.ar,qam]at this;exact this
def WE{c:Prop}[Decidable c](h:a+1<n)(h':b+1<n):(if c then a else b)+1<n:=by
 split
 .exact h
 .exact h'
def Ri.push{rs:Rs}{run rest:εG}{st:SortSt}(R:Ri κ φ a0 rs (run++rest) st)(nr:run≠[])(sr:run.Pairwise λx y=>φ x<φ y){o:Nat}(ho:o=(flat rs).length):Ri κ φ a0 (rs++[(run,0)]) rest (setPending st ((pendingOf st).push (o,run.length,0))):=by
 refine⟨R.k,R.f,?_,R.pm,?_,λr hr=>?_⟩
 .show(pendingOf st).push (o,run.length,0)=_;rw[R.p,vM,ho,Nat.zero_add];simp[iU]
 .show(arrOf st).toList=_;rw[R.ar,o_];simp[flat]
 .rcases qaK.mp hr with h|h
  .exact R.so r h
  .rw[qaT.mp h];exact⟨nr,sr⟩
def Ri.yq{rs:Rs}{rest:εG}{st:SortSt}(R:ζF)(ne:rs≠[])(pw:Nat):∃rs',rs'≠[]/\flat rs'=flat rs/\Ri κ φ a0 rs' rest (setPending st ((pendingOf st).modify ((pendingOf st).size-1) λx=>(x.1,x.2.1,pw))):=by
 obtain⟨B,r,rfl⟩:∃B r,rs=B++[r]:=⟨rs.dropLast,rs.getLast ne,(List.dropLast_concat_getLast ne).symm⟩;have fe:flat (B++[(r.1,pw)])=flat (B++[r]):=by rw[o_,o_];rfl
 refine⟨B++[(r.1,pw)],by simp,fe,R.k,R.f,?_,R.pm,by rw[fe];exact R.ar,λz hz=>?_⟩
 .show(pendingOf st).modify ((pendingOf st).size-1) (λx=>(x.1,x.2.1,pw))=_;rw[R.p,vM,vM];have lB:=yp 0 B;apply Array.ext_getElem?;intro i;rw[Array.getElem?_modify];simp only[List.size_toArray,List.length_append,lB,iU,List.length_singleton,Nat.add_sub_cancel,List.getElem?_toArray];by_cases e:B.length=i
  .rw[qaz e,<-e,qaI ω,qaI ω,lB,Nat.sub_self];rfl
  .rw[qax e];by_cases e2:i<B.length
   .rw[qaL ω,qaL ω]
   .rw[qaI ω,qaI ω,List.getElem?_eq_none (by simp;omega),List.getElem?_eq_none (by simp;omega)]
 .rcases qaK.mp hz with h|h
  .exact R.so z (qa3 _ h)
  .rw[qaT.mp h];exact R.so r (by simp)
def WG{β:Type}{c:Nat->Prop}[∀x,Decidable (c x)]{f m:Nat->StateT SortSt Sem β}{k:Nat}{Q:β->SortSt->Prop}{st:SortSt}(P:Nat->SortSt->Prop)(h:∀k st,P k st->wpS M A E s (f k) Q st)(hm:(∀k st,P k st->wpS M A E s (f k) Q st)->c k->wpS M A E s (m k) Q st)(hx:¬c k->P k st)(X:Nat)(hX:k=X):wpS M A E s (if c X then m X else f X) Q st:=by subst hX;exact cE (hm h) λn=>h k st (hx n)
def qZ(C:γA)(U:ηZ){st:SortSt}{Q:Unit->SortSt->Prop}(h2:2<=a0.size)(R0:Ri κ φ a0 [] a0.toList st)(q:∀st',failedOf st'=none->(arrOf st').Perm a0->((arrOf st').toList.Pairwise λx y=>φ x<φ y)->Q () st'):wpS M A E s sortRuns' Q st:=by
 rw[sortRuns'_eq];refine qal (wpS_get ?_);dsimp only;rw[R0.pm.size_eq];refine qal (wpS_mono (qbf (I:=λn t st'=>∃rs rest,t=(none,(flat rs).length)/\Ri κ φ a0 rs rest st'/\(n<=(flat rs).length\/a0.size<=(flat rs).length)) (Q:=λt st'=>∃rs,t=(none,(flat rs).length)/\Ri κ φ a0 rs [] st') ?step ?fin ⟨[],a0.toList,rfl,R0,.inl γI⟩) ?post)
 case fin =>
  rintro t st' ⟨rs,rest,rfl,R,h⟩
  have:=R.len
  have e:rest=[]:=qbp.mp ω
  subst e
  exact⟨rs,rfl,R⟩
 case step =>
  rintro n t st' _ hn ⟨rs,rest,rfl,R,h⟩
  dsimp only
  have ln:=R.len
  refine cE (λc=>?_) λc=>?_
  .have e:rest=[]:=qbp.mp ω
   subst e
   exact qas ⟨rs,rfl,R⟩
  have B0:Bs κ a0 (pendingOf st') (flat rs).length γ4 st':=⟨R.k,R.f,rfl,R.pm,λ_ _=>rfl⟩
  refine qal (Wy C U ω B0 λm st2 m1 m2 B up=>?_)
  dsimp only
  generalize hX:m=X
  revert X
  refine WG (λK st3=>Bs κ a0 (pendingOf st') (flat rs).length γ4 st3/\1<=K/\(flat rs).length+K<=a0.size/\Up φ (arrOf st3) (flat rs).length K) (λK st3 H=>?_) (λJ c3=>?_) λc3=>⟨B,m1,m2,up⟩
  .have B3:=H.1
   have FZ:=H.2.2.2
   have k1:=H.2.1
   have k2:=H.2.2.1
   obtain⟨run,rest',lr,nr,sr,R3⟩:=WD R B3 k1 k2 FZ
   subst lr
   refine qal (wpS_get ?_)
   cases hb:(pendingOf _).back? with
   |none=>exact qal (wpS_modify (qas ⟨rs++[(run,0)],rest',by rw[o_,qam];simp[flat],R3.push nr sr rfl,by rw[o_,qam];simp[flat];omega⟩))
   |some v =>
     obtain⟨s1,n1,v⟩:=v
     have WH:rs≠[]:=λz=>by rw[R3.p,z]at hb;cases hb
     dsimp only;refine qal (wpS_mono (qbf (I:=λn t st'=>t=(none,())/\∃rs',Ri κ φ a0 rs' (run++rest') st'/\rs'≠[]/\(flat rs').length=(flat rs).length) (Q:=λt st'=>t=(none,())/\∃rs',Ri κ φ a0 rs' (run++rest') st'/\rs'≠[]/\(flat rs').length=(flat rs).length) ?_ (λ_ _ h=>h) ⟨rfl,rs,R3,WH,rfl⟩) ?_)
     .rintro j t jO _ _ ⟨rfl,pf,R5,ne5,l5⟩;refine qal (wpS_get ?_);have ps:(pendingOf jO).size=pf.length:=by rw[R5.p];simp[yp]
      by_cases c5:(pendingOf jO).size>1
      .rw[qaz c5];obtain⟨⟨a,b,w⟩,hw⟩:∃w,(pendingOf jO)[(pendingOf jO).size-2]?=some w:=⟨_,qap ω⟩;rw[hw];dsimp only;refine cE (λ_=>qas ⟨rfl,pf,R5,ne5,l5⟩) λ_=>?_;refine qal (R5.merge C U ω λyr WI R6 l6 f6=>?_);refine cE (λz=>by simp at z) λ_=>qas ⟨rfl,yr,R6,λz=>?_,f6.trans l5⟩;rw[z,List.length_nil]at l6;omega
      .rw[qax c5];exact qas ⟨rfl,pf,R5,ne5,l5⟩
     .rintro t jO ⟨rfl,pf,R5,ne5,l5⟩;dsimp only;refine qal (wpS_modify ?_);obtain⟨yr,ne6,f6,R6⟩:=R5.yq ne5 _;refine qal (wpS_modify (qas ⟨yr++[(run,0)],rest',?_,R6.push nr sr (by rw[f6,l5]),?_⟩))
      .rw[o_,qam,f6,l5];simp[flat]
      .rw[o_,qam,f6,l5];have:=List.length_pos_iff.mpr nr;simp[flat];omega
  .refine qal (wpS_lift (wpAny_rule ⟨rfl,?_⟩))
   refine qal (WB C U (n:=min (a0.size-(flat rs).length) (minRun' a0.size a0.size 0)) ω m1 ω B up λst3 B3 FZ=>?_)
   exact cE (λz=>by simp at z) λ_=>J _ _ ⟨B3,ω,ω,FZ⟩
 case post =>
  rintro t st' ⟨rs,rfl,R⟩
  dsimp only
  have ln:=R.len
  rw[List.length_nil]at ln
  have fg:=Mx λr hr=>(R.so r hr).1
  refine qal (wpS_mono (qbf (I:=λn t st'=>t=(none,())/\∃rs',Ri κ φ a0 rs' [] st'/\rs'.length+n<=a0.size) (Q:=λt st'=>t=(none,())/\∃rs',Ri κ φ a0 rs' [] st'/\rs'.length<=1) ?_ ?_ ⟨rfl,rs,R,ω⟩) ?_)
  .rintro j t jO _ _ ⟨rfl,pf,R5,l5⟩
   refine qal (wpS_get ?_)
   have ps:(pendingOf jO).size=pf.length:=by rw[R5.p];simp[yp]
   refine cE (λc=>qas ⟨rfl,pf,R5,ω⟩) λc=>?_
   refine qal (R5.merge C U (WE ω ω) λyr WI R6 l6 f6=>?_)
   exact cE (λz=>by simp at z) λ_=>qas ⟨rfl,yr,R6,ω⟩
  .rintro t jO ⟨rfl,pf,R5,l5⟩
   exact⟨rfl,pf,R5,ω⟩
  .rintro t jO ⟨rfl,pf,R5,l5⟩
   refine qas (q jO R5.f R5.pm ?_)
   rw[R5.ar,qbE]
   match pf,l5,R5 with
   |[],_,_=>exact .nil
   |[r],_,R5=>rw[flat,flat,qbE];exact(R5.so r (by simp)).2
   |_::_::_,h,_=>simp at h
end
end Ti
namespace So
open PySem PySem.W PyProof.Rows St
theorem F0{α β:Type}(f:α->β):∀{zs:δ5}{vs:List β},vs.Perm (zs.map f)->∃zs':List α,vs=zs'.map f/\zs'.Perm zs
 |[],vs,h=>⟨[],by simpa using h,.nil⟩
 |z::r,vs,h=>by
   have hm:f z∈vs:=h.mem_iff.mpr (by simp);obtain⟨a,b,rfl⟩:=List.append_of_mem hm
   have h':(a++b).Perm (r.map f):=by have:=List.perm_middle.symm.trans h;exact(List.perm_cons (f z)).mp this
   obtain⟨zs',e,pm⟩:=F0 f h';refine⟨zs'.take a.length++z::zs'.drop a.length,?_,?_⟩
   .rw[qbj,qaP,List.map_take,List.map_drop,<-e];simp
   .refine List.perm_middle.trans ?_;rw[qaO];exact List.Perm.cons z pm
section
variable{prog:Program}{w:World}{A:Around}{E:T0}{s:Shared}{a p q:Addr}
noncomputable def enc(z:Int×Int):Int:=31*z.1+z.2
def F5(hy:eK y)(hz:eK z):enc y<enc z ↔ y.1<z.1\/y.1=z.1/\y.2<z.2:=by obtain⟨⟨a1,a2⟩,a3,a4⟩:=hy;obtain⟨⟨b1,b2⟩,b3,b4⟩:=hz;unfold enc;omega
def My(hy:eK y)(hz:eK z)(e:enc y=enc z):y=z:=by obtain⟨⟨a1,a2⟩,a3,a4⟩:=hy;obtain⟨⟨b1,b2⟩,b3,b4⟩:=hz;unfold enc at e;exact Prod.ext ω ω
def WJ(hy:dS s.heap y p)(hz:dS s.heap z q)(sy:eK y)(sz:eK z)(h:Q (decide (enc y<enc z)) s):wpAny ε A (keyLt' (tuples' true) γO (.ref q)) Q E s:=by
 obtain⟨o1,i1,n1,t1,u1,g1,c1,d1,e1⟩:=hy;obtain⟨o2,i2,n2,t2,u2,g2,c2,d2,e2⟩:=hz;refine kat_lt g1 d1 g2 d2 ?_;rw[e1,e2];have el:=F5 sy sz;refine kat_cons (wpAny_eqBool_int ?_);refine kat_go (λc=>?_) λc=>?_
 .have c:=qaC c;refine kat_yes (kat_cons (wpAny_eqBool_int ?_));refine kat_go (λc'=>?_) λc'=>?_
  .have c':=qaC c';refine kat_yes (kat_nil ?_);have z1:i1.size=2:=by have:=congrArg List.length e1;simpa using this
   have z2:i2.size=2:=by have:=congrArg List.length e2;simpa using this
   rw[z1,z2];have:¬enc y<enc z:=λz=>by rcases el.mp z with z|z<;>omega
   rw[qaY this]at h;exact h
  .have c':=of_decide_eq_false c';refine kat_no (kat_one _ _ (PyProof.Rows.lt_int ?_));have:decide (y.2<z.2)=decide (enc y<enc z):=decide_eq_decide.mpr ⟨λz=>el.mpr (.inr ⟨c,z⟩),λz=>by rcases el.mp z with z|z;exact absurd c (Int.ne_of_lt z);exact z.2⟩;show Q (decide (y.2<z.2)) s;rw[this];exact h
 .have c:=of_decide_eq_false c;refine kat_no ?_;show wpAny _ _ (keyLt' oneType' _ _) _ _ _;refine kat_lt_int ?_;have:decide (y.1<z.1)=decide (enc y<enc z):=decide_eq_decide.mpr ⟨λz=>el.mpr (.inl z),λz=>by rcases el.mp z with z|z;exact z;exact absurd z.1 c⟩;rw[this];exact h
def dS.ref(x:dS h z p):∃o xs n t,h.get? p=some o/\o.cls=.type "tuple" /\ o.data=.seq xs n/\xs[0]?=some (.int z.1 t):=by obtain⟨o,i,n,t,u,g,c,d,e⟩:=x;exact⟨o,i,n,t,g,c,d,by rw[<-qaw,e];rfl⟩
noncomputable def refs(zs:ζk):v4:=zs.map λz=>.ref z.2
theorem Mz:∀(zs:ζk),(∀z∈zs,dS h z.1 z.2)->∃fs,KatTups h (refs zs) fs/\fs.length=zs.length/\∀v∈fs,∃k t,v=.int k t
 |[],_=>⟨[],trivial,rfl,λv hv=>(nomatch hv)⟩
 |z::r,h0=>by
   obtain⟨fs,a,b,c⟩:=Mz r λy hy=>h0 y (.tail _ hy);obtain⟨o,xs,n,t,g,cl,d,e⟩:=dS.ref (h0 z ηy)
   exact⟨.int z.1.1 t::fs,KatTups.cons g cl d e a,by simp[b],λv hv=>by
    rcases qav.mp hv with q|q
    .exact⟨_,_,q⟩
    .exact c v q⟩
def WK(k:Int)(t:Tok):Looks M h (typeOf (.int k t)) (.type "int"):=λA Q E s _ q=>wpAny_typeOf (typeIs_int s k t) q
def kd(z:Z):Value×Value:=(.ref z.2,.ref z.2)
open Classical in
def kf(zs:ζk)(x:Value×Value):Int:=if h:∃z∈zs,x=kd z then enc h.choose.1 else 0
def dS.inj(hy:dS h y p)(hz:dS h z p):y=z:=by obtain⟨o1,i1,n1,t1,u1,g1,c1,d1,e1⟩:=hy;obtain⟨o2,i2,n2,t2,u2,g2,c2,d2,e2⟩:=hz;rw[g1]at g2;cases g2;rw[d1]at d2;cases d2;rw[e1]at e2;simp only[List.cons.injEq,Value.int.injEq,and_true]at e2;exact Prod.ext e2.1.1 e2.2.1
def kf_at{h:Heap}{zs:ζk}(hz:∀z∈zs,dS h z.1 z.2):∀z∈zs,kf zs (kd z)=enc z.1:=λz hm=>by
 have ex:∃y∈zs,kd z=kd y:=⟨z,hm,rfl⟩;unfold kf;rw[dif_pos ex];have c:=ex.choose_spec;have e:z.2=ex.choose.2:=by have:=congrArg Prod.fst c.2;exact Value.ref.inj this
 have:=hz _ c.1;rw[<-e]at this;rw[dS.inj this (hz z hm)]
theorem MA:∀{l:P3},(∀x∈l,eK x)->l.Nodup->(l.map enc).Nodup
 |[],_,_=>.nil
 |x::r,sm,nd=>by rw[qbk]at nd;rw[qaP,qbk];refine⟨λh=>?_,MA (λy hy=>sm y (.tail _ hy)) nd.2⟩;obtain⟨y,hy,e⟩:=qaF.mp h;exact nd.1 (by rw[<-My (sm y (.tail _ hy)) (sm x ηy) e];exact hy)
def WL{n:Nat}{zs:ζk}{P:PySem.Fin->Shared->Prop}(ho:s.heap.get? a=some (seqObj "list" (refs zs).toArray n))(hz:∀z∈zs,dS s.heap z.1 z.2)(sm:∀z∈zs,eK z.1)(nd:(zs.map (·.1)).Nodup)(hl:zs.length<512)
 (h:∀zs',zs'.Perm zs->zs'.Pairwise (λy z=>enc y.1<=enc z.1)->P (.done (.ret .none)) {s with heap:=sortedHeap s.heap a (refs zs) (refs zs').toArray}):wpAny ε A (Builtin.«list.sort» ⟨[.ref a],[]⟩) P E s:=by
 have ha:a<s.heap.objs.size:=qai ho;have rl:(refs zs).length=zs.length:=by simp[refs]
 have big:(512:Nat)<=sizeLine:=by decide
 rw[list_sort_plain];refine qaa (listItems_at ho rfl ?_);refine qaa (listUpdate_at ho rfl ?_ (by rw[qaQ,rl];omega) θa);obtain⟨e1,ho1⟩:∃e1,(s.heap.update a (Obj.mapSeq λ_=>(#[]:zzh))).get? a=some (seqObj "list" #[] e1):=⟨_,get?_update_seq ho λ_ => #[]⟩;refine qaa (seqEpoch_at ho1 rfl ?_);refine qaa (wpAny_newTuple ?_ (by show(refs zs).length<=_;rw[rl];omega));refine qaa (wpAny_newList ?_ θa);refine qbh ?_;generalize hH:((s.heap.update a (Obj.mapSeq λ_=>(#[]:zzh))).push (seqObj "tuple" (refs zs).toArray 0)).push (seqObj "list" #[] 0)=H;show wpAny ε A _ P E {s with heap:=H}
 have ho6:H.get? a=some (seqObj "list" #[] e1):=by rw[<-hH,Heap.get?_push_ne _ _ _ (by rw[size_push',Heap.size_update];exact qan (Nat.lt_succ_of_lt ha)),Heap.get?_push_ne _ _ _ (by rw[Heap.size_update];exact qan ha)];exact ho1
 have B1:∀z∈zs,dS H z.1 z.2:=λz MB=>(hz z MB).at λo e=>by
  have ne:z.2≠a:=λq=>by obtain⟨o',xs,n',t,g,cl,_⟩:=dS.ref (hz z MB);rw[q,ho]at g;have g:=qaH g;rw[<-g]at cl;exact absurd cl (show(Value.type "list")≠.type "tuple" by decide)
  rw[<-hH];exact qab _ (qab _ ((qaU _ _ (qa5 ne)).trans e))
 have fin:∀(zs':ζk) (st:SortSt),zs'.Perm zs->zs'.Pairwise (λy z=>enc y.1<=enc z.1)->(arrOf st).map (·.2)=(refs zs').toArray->failedOf st=none->wpAny ε A (do
  let touched:=(<-seqEpoch a) != e1
  Builtin.List.listUpdate γz λ_=>(arrOf st).map (·.2)
  if let some e:=failedOf st then rule "list.sort.comparison-raised";throw e
  if touched then rule "list.sort.modified";raiseError "ValueError" "list modified during sort"
  ret .none) P E {s with heap:=H}:=λzs' st pm pw har hf=>by refine qaa (seqEpoch_at (s:={s with heap:=H}) ho6 rfl ?_);rw[har];refine qaa (listUpdate_at (s:={s with heap:=H}) ho6 rfl ?_ θa (by show(refs zs').toArray.size<=_;have:=pm.length_eq;simp[refs];omega));rw[hf];simp only[bne_self_eq_false,Bool.false_eq_true,if_false];refine qad ?_;have:=h zs' pm pw;unfold sortedHeap at this;rw[hH]at this;exact this
 dsimp only;have sz:(refs zs).toArray.size=zs.length:=by rw[qaQ,rl]
 have snd:((refs zs).toArray.zip (refs zs).toArray).map (·.2)=(refs zs).toArray:=by apply Array.toList_inj.mp;simp[Array.toList_zip,List.map_snd_zip]
 by_cases h2:(refs zs).toArray.size<2
 .rw[qaz h2,qaz h2];refine qaa (qad ?_);rw[StateT.run_pure];refine qaa (qad ?_);dsimp only;refine fin zs (SortSt.mk' general' ((refs zs).toArray.zip (refs zs).toArray) #[] 7 none) (.refl _) ?_ snd rfl;rw[sz]at h2
  match zs,h2 with
  |[],_=>exact .nil
  |[z],_=>simp
  |_::_::_,h2=>exact absurd h2 (by simp only[List.length_cons];omega)
 .rw[qax h2,qax h2];rw[sz]at h2;have h2':2<=zs.length:=by omega
  obtain⟨fs,kt,fl,fi⟩:=Mz zs B1;refine qaa (kat_kind (s:={s with heap:=H}) (T:=.type "int") kt ω (λv hv=>by obtain⟨k,t,rfl⟩:=fi v hv;exact WK k t) ξ ?_);have tt:(Value.type "int" != Value.type "tuple")=true:=by decide
  rw[tt]
  have zl:((refs zs).toArray.zip (refs zs).toArray).toList=zs.map kd:=by rw[Array.toList_zip];unfold refs;simp only[List.zip_map'];rfl
  have fE:=kf_at B1;have fin':∀x,(∃z∈zs,x=kd z)->∃z∈zs,x=kd z:=λx h=>h
  refine qaa (qa6 (Ti.qZ (M:=model prog w) (A:=A) (E:=E) (s:={s with heap:=H}) (κ:=tuples' true) (φ:=kf zs) (El:=λx=>∃z∈zs,x=kd z) (a0:=(refs zs).toArray.zip (refs zs).toArray) (st:=SortSt.mk' (tuples' true) ((refs zs).toArray.zip (refs zs).toArray) #[] 7 none)
   (Q:=λ_ st'=>∃zs',(arrOf st').map (·.2)=(refs zs').toArray/\zs'.Perm zs/\zs'.Pairwise (λy z=>enc y.1<=enc z.1)/\failedOf st'=none) ?_ ⟨?_,?_⟩ ?_ ⟨rfl,rfl,rfl,.refl _,rfl,λr hr=>by cases hr⟩ ?_) ?_ λ_ _ x=>x)
  .rintro x y st Q ⟨z,hz,rfl⟩ ⟨z',hz',rfl⟩ hk q;rw[fE z hz,fE z' hz']at q;rw[lt'_eq];refine qal (wpS_get ?_);rw[hk];refine qal (wpS_lift (wpAny_attempt (WJ (s:={s with heap:=H}) (B1 z hz) (B1 z' hz') (sm z hz) (sm z' hz') ⟨rfl,?_⟩)));exact qas q
  .rw[zl];intro x hx;obtain⟨z,hz,rfl⟩:=qaF.mp hx;exact⟨z,hz,rfl⟩
  .rw[zl,qbo,show zs.map (kf zs ∘ kd)=(zs.map (·.1)).map enc by rw[qbo];exact List.map_congr_left λz hz=>fE z hz];exact MA (λx hx=>by obtain⟨z,hz,rfl⟩:=qaF.mp hx;exact sm z hz) nd
  .rw[Array.size_zip];simp[refs];omega
  .intro st' hf pm so;have pl:=qbv.mp pm;rw[zl]at pl;obtain⟨zs',e,pz⟩:=F0 kd pl;refine⟨zs',?_,pz,?_,hf⟩
   .apply Array.toList_inj.mp;rw[Array.toList_map,e,qbo];rfl
   .rw[e,List.pairwise_map]at so;refine(List.pairwise_iff_forall_sublist.mpr λ{a b} h=>?_);have:=List.pairwise_iff_forall_sublist.mp so h;have ma:a∈zs:=pz.mem_iff.mp (h.subset (by simp));have mb:b∈zs:=pz.mem_iff.mp (h.subset (by simp));rw[fE a ma,fE b mb]at this;exact Int.le_of_lt this
  .rintro⟨⟨⟩,st'⟩ s' ⟨rfl,zs',har,pz,pw,hfl⟩;exact fin zs' st' pz pw har hfl
end
section
variable{prog:Program}{w:World}{A:Around}{E:T0}{s:Shared}{a:Addr}
def WM{zs:ζk}{Q:T0}(hh:A.handled=none)(hS:gh (w.params.followText "set-order") s.heap a zs)(hz:∀z∈zs,dS s.heap z.1 z.2)(h64:zs.length<512)
 (h:∀(h':Heap) (d:Drawn) (tk:Nat) (p:Addr) (e:Nat) (zs':ζk),s.heap.objs.size<=p->(∀b o,s.heap.get? b=some o->h'.get? b=some o)->h'.get? p=some {cls:=.type "list",dict:=none,data:=.seq (refs zs').toArray e,slots:= #[]}->zs'.Perm zs->zs'.Pairwise (λy z=>enc y.1<=enc z.1)->Q γO {s with heap:=h',drawn:=d,toks:=tk}) :
 wpAny ε A (call (.builtin "sorted") [.ref a]) Q E s:=by
 obtain⟨es,ep,t,ha,T,nf⟩:=hS;have big:(512:Nat)<=sizeLine:=by decide
 have len:=T.len;refine Calls.call_function_entry kind_sorted plain_sorted entry_sorted (args_sorted1 _) (show wpAny _ _ (checkCount "sorted" 1 1 1 >>= _) _ _ _ from qaa (qad ?_));refine qaa (IH hh ha T.hon T.fits ω λvs h1 d tk le k1 pv=>?_)
 have em:es.toList.map (·.2)=refs zs:=by rw[T.el,qbo];unfold refs;exact List.map_congr_left λz _=>by rw[Function.comp_apply,wL]
 rw[em]at pv;obtain⟨vN,rfl,cP⟩:=F0 (λz:Z=>Value.ref z.2) pv;have l1:=cP.length_eq;have vl:(vN.map λz:Z=>Value.ref z.2).length=vN.length:=by simp
 refine qaa (wpAny_newList ?_ (by rw[vl];omega));show wpAny _ _ _ _ _ {s with heap:=h1.push (seqObj "list" (refs vN).toArray 0),drawn:=d,toks:=tk};have hoL:(h1.push (seqObj "list" (refs vN).toArray 0)).get? h1.objs.size=some (seqObj "list" (refs vN).toArray 0):=qar _ rfl;refine qaa (qbh (qbl slot_list_sort ⟨_,hoL,rfl⟩ entry_list_sort (WL (s:={s with heap:=h1.push (seqObj "list" (refs vN).toArray 0),drawn:=d,toks:=tk}) hoL (λz hz1=>(hz z (cP.mem_iff.mp hz1)).at λo e=>qab _ (k1 _ _ e)) (λz hz1=>T.sm z (cP.mem_iff.mp hz1)) ((cP.map _).nodup_iff.mpr T.nd) ω λzs' pm pw=>⟨_,rfl,?_⟩) (args_list_sort _)));obtain⟨e,ge⟩:=II hoL (refs zs').toArray;exact qad ⟨_,rfl,h _ d tk h1.objs.size e zs' le (λb o z=>IJ (qan (qai (k1 b o z))) (qab _ (k1 b o z))) ge (pm.trans cP) pw⟩
end
end So
namespace L2
open PySem PySem.Spec PyProof.Rows Ex St So
section
variable{X:Cx}
def B4(X:Cx)(xs:γv)(H:Hp)(Q:VK):Prop:=∃(p:Addr) (zs:ζk),xs=[.ref p]/\H p=some (Wi X p zs)/\(∀z∈zs,H z.2=some (.tup [.int z.1.1,.int z.1.2]))/\zs.length<512 /\
 ∀(q:Addr) (zs':ζk),H q=none->zs'.Perm zs->zs'.Pairwise (λy z=>enc y.1<=enc z.1)->Q (.ref q) (upd H q (.lst (zs'.map λz=>V.ref z.2)))
theorem MC:∀zs:List Z,Vals (zs.map λz=>V.ref z.2) (refs zs)
 |[]=>.nil
 |z::r=>.cons rfl (MC r)
def WN(calm:X.calm=true):aM X (.builtin "sorted") (B4 X):=by
 intro pins s σ H xs us Q I r h;obtain⟨p,zs,rfl,hp,ht,hn,q⟩:=h;obtain⟨u,rfl,ru⟩:=r.one;cases ru;obtain⟨S,_⟩:=I.hok p _ hp;refine WM θS S (λz hz=>FT I.hok (ht z hz)) hn λh' d tk p' e zs' le k g pm pw=>?_;refine⟨.ref p',upd H p' (.lst (zs'.map λz=>V.ref z.2)),(I.laid (t':=tk) (o:=.lst (zs'.map λz=>V.ref z.2)) k le ⟨?_,refs zs',e,MC zs',g⟩).drawn d,rfl,q _ zs' (I.hok.fresh le) pm pw⟩;rw[qag,pm.length_eq];have z:(512:Nat)<=sizeLine:=by decide
 omega
end
end L2
namespace Dv
open PySem L2 Ex St So
variable[KC]
noncomputable def pD(c:Int×Int):D:=.tup [.int c.1,.int c.2]
noncomputable def asP:List D->Option (P3)
 |[]=>some []
 |.tup [.int i,.int j]::r=>if decide (0<=i)&&decide (i<=30)&&decide (0<=j)&&decide (j<=30) then (asP r).map ((i,j) :: ·) else none
 |_=>none
omit [KC] in
def B5(h:asP (d::r)=some cs):∃c cs',d=pD c/\eK c/\asP r=some cs'/\cs=c::cs':=by
 unfold asP at h;split at h
 .cases ‹d::r=[]›
 .rename_i i j r' e;cases e;split at h
  .rename_i c;simp only[Bool.and_eq_true,decide_eq_true_eq]at c;cases q:asP r with
   |none=>rw[q]at h;cases h
   |some cs'=>rw[q]at h;cases h;exact⟨(i,j),cs',rfl,⟨⟨c.1.1.1,c.1.1.2⟩,c.1.2,c.2⟩,rfl,rfl⟩
  .cases h
 .cases h
omit [KC] in
theorem F6:∀{a b:γe}{cs:P3},asP (a++b)=some cs->∃c1 c2,asP a=some c1/\asP b=some c2/\cs=c1++c2
 |[],b,cs,h=>⟨[],cs,rfl,h,rfl⟩
 |d::a,b,cs,h=>by obtain⟨c,cs',rfl,sm,h',rfl⟩:=B5 (r:=a++b) h;obtain⟨c1,c2,e1,e2,rfl⟩:=F6 h';refine⟨c::c1,c2,?_,e2,rfl⟩;show(if decide (0<=c.1)&&decide (c.1<=30)&&decide (0<=c.2)&&decide (c.2<=30) then (asP a).map (c :: ·) else none)=_;rw[qaz (by simp only[Bool.and_eq_true,decide_eq_true_eq];exact⟨⟨⟨sm.1.1,sm.1.2⟩,sm.2.1⟩,sm.2.2⟩),e1];rfl
omit [KC] in
def WO{K:Type}[BEq K][LawfulBEq K](σ:List K)(v x:K):x∈PyProof.Rows.step_dedup σ v ↔ x∈σ\/x=v:=by
 unfold PyProof.Rows.step_dedup;split
 .rename_i h;rw[List.any_eq_true]at h;obtain⟨y,hy,e⟩:=h;have e:y=v:=by simpa using e
  subst e;exact⟨.inl,λz=>z.elim id λe=>by rw[e];exact hy⟩
 .simp
omit [KC] in
def WQ{K:Type}[BEq K][LawfulBEq K]{σ:List K}(h:σ.Nodup)(v:K):(PyProof.Rows.step_dedup σ v).Nodup:=by
 unfold PyProof.Rows.step_dedup;split
 .exact h
 .rename_i q;rw[List.nodup_append];refine⟨h,by simp,λa ha b hb e=>?_⟩;rw[qaT]at hb;subst hb;subst e;exact q (List.any_eq_true.mpr ⟨a,ha,by simp⟩)
omit [KC] in
theorem yt{K:Type}[BEq K][LawfulBEq K]:∀(ns σ:List K),σ.Nodup->(ns.foldl PyProof.Rows.step_dedup σ).Nodup/\∀x,x∈ns.foldl PyProof.Rows.step_dedup σ ↔ x∈σ\/x∈ns
 |[],σ,h=>⟨h,λx=>by simp⟩
 |v::r,σ,h=>by obtain⟨a,b⟩:=yt r _ (WQ h v);refine⟨a,λx=>?_⟩;rw[List.foldl_cons,b x,WO,qav,or_assoc]
noncomputable def yu(cs:P3):P3:=cs.foldl PyProof.Rows.step_dedup []
def ef(cs:P3):P3:=(yu cs).mergeSort λa b=>decide (enc a<=enc b)
omit [KC] in
def F7(cs:P3):(ef cs).Perm (yu cs):=List.mergeSort_perm ..
omit [KC] in
def dw:c∈ef cs ↔ c∈cs:=by rw[(F7 cs).mem_iff];have:=(yt cs [] List.nodup_nil).2 c;simpa [yu]using this
omit [KC] in
def MD(cs:P3):(ef cs).Nodup:=(F7 cs).nodup_iff.mpr (yt cs [] List.nodup_nil).1
omit [KC] in
def ME(cs:P3):(ef cs).Pairwise λa b=>enc a<=enc b:=by
 have h:=List.pairwise_mergeSort (le:=λa b:Int×Int=>decide (enc a<=enc b)) (λa b c h1 h2=>qaN ιu) (λa b=>by
  rcases Int.le_total (enc a) (enc b) with h|h
  .rw[qaN h];rfl
  .rw[qaN h,Bool.or_true]) (yu cs)
 exact h.imp λh=>qaC h
omit [KC] in
def MF{cs l:P3}(sm:∀c∈cs,eK c)(nd:l.Nodup)(pw:l.Pairwise λa b=>enc a<=enc b)(hm:∀c,c∈l ↔ c∈cs):l=ef cs:=by
 have pm:l.Perm εu:=(List.perm_ext_iff_of_nodup nd (MD cs)).mpr λc=>by rw[hm c,dw]
 refine List.Perm.eq_of_pairwise (le:=λa b=>enc a<=enc b) (λa b ha hb h1 h2=>?_) pw (ME cs) pm;exact My (sm a ((hm a).mp ha)) (sm b (dw.mp hb)) (Int.le_antisymm h1 h2)
omit [KC] in
theorem MG:∀{ds:γe}{cs:P3},asP ds=some cs->∀c∈cs,eK c
 |[],cs,h=>by cases h;intro c hc;cases hc
 |d::r,cs,h=>by
   obtain⟨c,cs',rfl,sm,h',rfl⟩:=B5 h;intro x hx;rcases qav.mp hx with e|e
   .rw[e];exact sm
   .exact MG h' x e
noncomputable def MI(out:List D->Option RV)(items:M γe)(fr:zzc)(own:Nat)(m:D->M Unit)(p:δC)(f:M RV):M RV:=M.bind items λds=>if ds.length<256 then M.bind ζT λys=>M.d9 (out ys) else M.st
def vO(ys:γe):Option RV:=(asP ys).map λcs=>.new (.lst ((ef cs).map pD))
abbrev MJ:=MI vO
section
variable{X:Cx}{EE:br}{ios:zzd}{p:δC}{f:M RV}
omit [KC] in
def WR[KC](h:Rp R x (pD c)):∃a,x=.ref a/\R a=some (.tup [.int c.1,.int c.2]):=by
 unfold pD at h;cases h with
 |tup e hs =>
   cases hs with
   |cons h1 hs =>
     cases hs with
     |cons h2 hs =>
       cases hs;cases h1;cases h2;exact⟨_,rfl,e⟩
theorem MK:∀(zs:ζk),(∀z∈zs,R z.2=some (.tup [.int z.1.1,.int z.1.2]))->aK R (zs.map λz=>V.ref z.2) ((zs.map (·.1)).map pD)
 |[],_=>.nil
 |z::r,h=>.cons (.tup (h z ηy) (.cons δI (.cons δI .nil))) (MK r λy hy=>h y (.tail _ hy))
def B6(zs:ζk)(ys:γe)(R:Hp):Prop:=(∀c1,asP ys=some c1->∀c,c∈zs.map (·.1) ↔ c∈c1)/\(zs.map (·.1)).Nodup/\(∀z∈zs,R z.2=some (.tup [.int z.1.1,.int z.1.2]))/\zs.length<=ys.length
omit [KC] in
def MM(h:vO ys=some rv):∃cs,asP ys=some cs/\rv=.new (.lst ((ef cs).map pD)):=by unfold vO at h;obtain⟨cs,h1,h2⟩:=qbw.mp h;exact⟨cs,h1,h2.symm⟩
def WS(b:ζk)(ys:γe)(dy:D)(zr:γe)(rv:RV)(y:V)(R H:Hp)(P:List Z->Prop)(hinv:B6 b ys R)(hl:ys.length<256)(hout:vO (ys++dy::zr)=some rv)(ry:Rp R y dy)(sub:θA)(k:∀b',B6 b' (ys++[dy]) R->P b'):(FU (X:=X) hu).AD b y H P:=by
 obtain⟨cs,hcs,_⟩:=MM hout;obtain⟨hkeys,hnd,hzs,WT⟩:=hinv;obtain⟨c1,c2,q1,q2,_⟩:=F6 hcs;obtain⟨c,c3,rfl,sm,q3,_⟩:=B5 q2;obtain⟨pa,rfl,hpa⟩:=WR ry;have kz:=hkeys c1 q1;refine⟨ω,pa,c,rfl,sub _ _ hpa,sm,λz hz=>sub _ _ (hzs z hz),λzs' F8=>k zs' ?_⟩
 have ap:∀c1',asP (ys++[pD c])=some c1'->∀x,x∈c1' ↔ x∈c1\/x=c:=λc1' h x=>by
  obtain⟨d1,d2,r1,r2,rfl⟩:=F6 h;rw[q1]at r1;cases r1;obtain⟨c',c4,e,_,e4,rfl⟩:=B5 r2;cases e4
  have:c=c':=by
   unfold pD at e;injection e with e
   injection e with e5 e6
   injection e5 with e5
   injection e6 with e6
   injection e6 with e6
   exact Prod.ext e5 e6
  subst this;simp
 rcases F8 with ⟨rfl,hin⟩|⟨pm,F9⟩
 .exact⟨λc1' h x=>Iff.trans ⟨λh=>.inl ((kz x).mp h),λh=>h.elim (kz x).mpr λe=>by rw[e];exact hin⟩ (ap c1' h x).symm,hnd,hzs,by rw[qam];simp;omega⟩
 .have cP:=pm.map (·.1);refine⟨λc1' h x=>Iff.trans ?_ (ap c1' h x).symm,cP.nodup_iff.mpr (qbk.mpr ⟨F9,hnd⟩),λz hz=>?_,by rw[pm.length_eq,qaW,qam];simp;omega⟩
  .rw[cP.mem_iff,qaP,qav,kz x];exact Or.comm
  .rcases qav.mp (pm.mem_iff.mp hz) with e|e
   .rw[e];exact hpa
   .exact hzs z e
def WU(b:ζk)(ys:γe)(R H:Hp)(A:Addr)(Q:VK)(rv:RV)(hinv:B6 b ys R)(sub:θA)(hA:H A=some ((FU (X:=X) hu).O A b))(hl:ys.length<256)(hout:vO ys=some rv)(w:∀z H' R',Al R H R' H'->ja R' H H' z rv->Q z H'):B4 X [.ref A] H Q:=by
 obtain⟨cs,hcs,rfl⟩:=MM hout;obtain⟨hkeys,hnd,hzs,WT⟩:=hinv;refine⟨A,b,rfl,hA,λz hz=>sub _ _ (hzs z hz),ω,λq zs' hq pm pw=>?_⟩;have WV:(zs'.map (·.1)).Nodup:=(pm.map _).nodup_iff.mpr hnd;have ez:zs'.map (·.1)=ef cs:=MF (MG hcs) WV (List.pairwise_map.mpr pw) λc=>by rw[(pm.map _).mem_iff];exact hkeys cs hcs c
 obtain⟨al,rv⟩:=oX sub hq (MK zs' λz hz=>hzs z (pm.mem_iff.mp hz));rw[ez]at rv;exact w _ _ _ al rv
def WW{elt tg iter:Expr}{ifs:zza}{pos pos' p0:Pos}{k:Nat}{scope:Scope}{Nc:v6}{own:Nat}{fr:zzc}{gt:TG}{items:M γe}{m:D->M Unit}(hl:X.mg "sorted" = none)(WX:Gl X "sorted")(hr0:δ3)(hc:X.calm=true)(B:δl)(hn:fr.Nodup)(hi:δY)(hog:qg own gt)
 (hg:∀cl C s3 H3 fp pn',PG γm tg gt) (hr:ζ7) (hk:qT own m) (ht:∀cl C s3 H3 fp pn',vw γm EN ios ifs p) (he:∀cl C s3 H3 fp pn',VE γm EN ios elt f)
 (hs:∀x,foldedSetIterable iter X.env x=pure x:=by intro _;rfl) (hst:starEach [.SetComp elt [⟨tg,iter,ifs,0⟩] scope pos] X.env=[(false,eval (.SetComp elt [⟨tg,iter,ifs,0⟩] scope pos) X.env)]:=by rfl):VE X EE ios (.Call (.Name "sorted" p0) [.SetComp elt [⟨tg,iter,ifs,0⟩] scope pos] [] pos') (MJ items fr own m p f):=
 let ⟨_,h1,h2⟩:=hi
 ⟨_,tO (WN hc) WX hl (by decide +kernel) (jR (Wl (FU (by have:=hr0.un;omega)) hc B h1 hog hg ht (λcl C s3 H3 fp pn'=>(he cl C s3 H3 fp pn').pe) hs) qc (hs:=hst)) (he:=hst) (hpl:=rfl),Lp (e0:=([]:List Z)) (rS:=λx=>B4 X [x]) B6 (λb ys R R' h q=>⟨h.1,h.2.1,λz hz=>q _ _ (h.2.2.1 z hz),h.2.2.2⟩) (λR=>⟨λc1 h c=>by cases h;exact Iff.rfl,List.nodup_nil,(λz hz=>nomatch hz),qah _⟩) (λ_ _ _ _ _=>trivial) WS (Vl (rS:=λx=>B4 X [x]) WU) hn h2 hr hk (λσ H R Γ Q er w=>⟨R,Γ,er,w⟩) (λσ H R Γ Q er w=>⟨R,Γ,er,w⟩)⟩
end
end Dv
namespace L2
open PySem PySem.Spec PyProof.Rows Ex
section
variable{X:Cx}{EE:br}{k:Nat}{f C:Addr}{fd:FuncData}{ps:v6}{sp:Sp}{dvs:γv}{ds:v4}{x:Str}{p pos:Pos}{e:Expr}{es:zza}{t:TA}
def MN{pins:W1}{σ:St}{H:Hp}{s:Shared}{Q:VK}{us:v4}{vs:γv}(M:Mk X.K C f)(F:δs)(hr:aH (k+1) X.A)(hb:γZ)(hd:εg)(hX:ζQ)(I:δ)(r:Vals vs us)
 (h:∀x dx,H x=none->H dx=none->dx≠x->sp (.ref x::(vs++dvs)) (upd εa x (.ins C dx [])) (λv H2=>v=.aq/\Q δH H2) θ5):wpAny ζ X.A (call γb us) γT X.xe s:=by
 have hq:=h (s.heap.objs.size+1) s.heap.objs.size (I.hok.fresh (Nat.le_succ _)) ηu (qan (qbU _));have I2:=Inv.made (C:=C) I;have r2:Vals (V.ref (s.heap.objs.size+1)::(vs++dvs)) (Value.ref (s.heap.objs.size+1)::(us++ds)):=.cons rfl (r.append hd)
 have hl:(Value.ref (s.heap.objs.size+1)::us++ds).length=ps.length:=by have e:=r2.length;rw[F.len _ _ _ _ hq]at e;exact e.symm
 refine wpAny_call (RY (f:=f) I.cf M.makes M.init (qau.mp M.fn) (codeAny_mono (F.run _ X.stack _ _ ⟨Value.ref (s.heap.objs.size+1)::us,[]⟩ (Value.ref (s.heap.objs.size+1)::(us++ds)) _ _ θ5 (hr.make C us [])
  (I2.env0.make C us []) (hb _ (Value.ref (s.heap.objs.size+1)::us) I2.cf hl) r2 hq) λr s' hq'=>?_))
 cases r with
 |error e=>exact Kv hX I2 hq'
 |ok fl =>
   cases fl with
   |ret u =>
     obtain⟨v,H',I3,rv,ev,q3⟩:=I2.after hq';subst ev;exact⟨rv,⟨V.ref (s.heap.objs.size+1),H',I3,rfl,q3⟩⟩
   |next=>exact False.elim hq'
   |brk=>exact False.elim hq'
   |cont=>exact False.elim hq'
def Made(C:Addr)(sp si:Sp):Prop:=∀vs H Q E,sp vs H Q E->∀x dx,H x=none->H dx=none->dx≠x->si (.ref x::vs) (upd εa x (.ins C dx [])) (λv H2=>v=.aq/\Q δH H2) E
def WY(M:Mk X.K C f)(F:ζP)(hr:aH (k+1) X.A)(hg:εX)(hm:X.mg x=some γb)(hb:γZ)(hd:εg)(hX:ζQ)(hsp:Made C sp si)
 (ha:PA X (e::es) t) (hdb:(x == ("__debug__":Str))=false:=by decide) (he:starEach (e::es) X.env=(false,eval e X.env)::starEach es X.env:=by rfl) (hpl:(backTo pos γl).any (·.1)=false:=by rfl) :
 PE X (.Call δp (e::es) [] pos) (vA sp dvs EE t):=by intro pins s σ H Q I h;refine qbt (tG I hg hm ?_ hdb);refine W.callWith_K (h₀:=X.base) I.ok.mod.tF M.kp (aX γ6 λus s1 zq=>?_) he hpl;obtain⟨vs,H1,I1,r,q⟩:=zq;refine⟨I1.cf,?_⟩;exact MN M F hr hb hd hX I1 r (hsp _ _ _ _ q)
def WZ(M:Mk X.K C f)(F:ζP)(hr:aH (k+1) X.A)(hg:εX)(hm:X.mg x=some γb)(hb:γZ)(hd:εg)(hX:ζQ)(hsp:Made C sp si)
 (hdb:(x == ("__debug__":Str))=false:=by decide):PE X (.Call δp [] [] pos) (vA sp dvs EE oI):=by intro pins s σ H Q I h;refine qbt (tG I hg hm ?_ hdb);exact W.callWith_K0 I.cf M.kp (MN (us:=[]) M F hr hb hd hX I .nil (hsp _ _ _ _ h))
end
end L2
namespace Dv
open PySem L2 Ex
variable[KC]
section
variable{X:Cx}{EE:br}{ios:zzd}
structure B7(x:Addr)(R H R' H':Hp):Prop where
 sub:ag R' H'
 rr:ag R R'
 hh:∀b o,b≠x->H b=some o->H' b=some o
 no:∀b o,b≠x->H b=some o->R b=none->R' b=none
def F_(j:Nat)(ios:zzd)(R H:Hp)(σ:St)(Γ:En)(D:Ends):Fl->En->Prop:=λfl Γ'=>∀aE H' R',cB ios R H σ Γ R' H' aE Γ'->aE[j]?=σ[j]? -> match fl with
 |.nx=>D.nx aE H'
 |.brk=>D.bk aE H'
 |.cont=>D.ct aE H'
 |.ret rv=>∀x,ip R' H H' aE x rv->D.rt x H'
def MO(j:Nat)(EE:br)(ios:zzd)(t:TS)(f:M Fl):Prop:=∀σ H R Γ D,ER ios R H σ Γ->df (f Γ) (F_ j ios R H σ Γ D) δS->t D σ H
def VJ(j:Nat)(X:Cx)(EE:br)(ios:zzd)(st:Stmt)(f:M Fl):Prop:=∃t,PS X st t/\MO j EE ios t f
def B8(j:Nat)(X:Cx)(EE:br)(ios:zzd)(st:δK)(f:M Fl):Prop:=∃t,PSs X st t/\MO j EE ios t f
section
variable{X:Cx}{EE:br}{ios:zzd}{e c:Expr}{f:M RV}{p:δC}{s s':M Fl}{st:Stmt}{sts jC:δK}{pos:Pos}{j:Nat}
def W0:B8 j X EE ios [] (M.pure .nx):=⟨_,Jn,λσ H R Γ D er w=>w σ H R (cB.refl er) rfl⟩
def W2(h:VJ j X EE ios st s):B8 j X EE ios [st] s:=let ⟨_,h1,h2⟩:=h; ⟨_,AA h1,h2⟩
def W3(h:γX)(hs:swapsWith e none pos.line X.env=pure false:=by rfl):VJ j X EE ios (.Expr e pos) (jW f):=by obtain⟨t,h1,h2⟩:=h;refine⟨_,DP h1 hs,λσ H R Γ D er w=>?_⟩;unfold jW at w;rw[aB]at w;exact h2 σ H R Γ _ er (aY w (λrv ao w x H1 R1 p1 hx=>w σ H1 R1 p1.jB rfl) λ_ _ z=>z.exp)
def W4(hc:θC)(h:B8 j X EE ios sts s)(h':B8 j X EE ios jC s'):VJ j X EE ios (.If c sts jC pos) (cu p s s'):=by
 obtain⟨_,h0,h0'⟩:=hc;obtain⟨t,h1,h2⟩:=h;obtain⟨u,h3,h4⟩:=h';refine⟨_,Jo h0 h1 h3,λσ H R Γ D er w=>?_⟩;unfold cu at w;rw[aB]at w;refine h0' σ H R Γ _ er (aY w (λb ao w H1 R1 p1=>?_) λ_ _ z=>z.exp)
 have go:∀fl aC,F_ j ios R H σ Γ D fl aC->F_ j ios R1 H1 σ ao D fl aC:=λfl aC w iI H2 R2 p2 q2=>by
  have:=w iI H2 R2 (p1.jB.trans p2) q2;cases fl with
  |nx=>exact this
  |brk=>exact this
  |cont=>exact this
  |ret rv=>exact λx hx=>this x (Bh p1.jB.back hx)
 cases b with
 |true=>exact rT (h2 σ H1 R1 ao D p1.er (aY w go λ_ _ z=>ki.trans p1.jB z))
 |false=>exact rQ (h4 σ H1 R1 ao D p1.er (aY w go λ_ _ z=>ki.trans p1.jB z))
def W5(hij:i≠j)(hN:X.N.Nodup)(hi:X.N[i]?=some x)(hx:δ4)(he:γX)(hs:swapsWith e ζJ pos.line X.env=pure false:=by rfl)(hf:X.fn x=true\/X.env.scope.names.lookup x=some .local:=by first|exact .inl rfl|exact .inr rfl|assumption) :
 VJ j X EE ios (.Assign [.Name x pos'] e pos) (bu i f):=by
 obtain⟨t,h1,h2⟩:=he;refine⟨_,Jp hN hi hx h1 hs hf,λσ H R Γ D er w=>?_⟩;unfold bu at w;rw[aB]at w;refine h2 σ H R Γ _ er (aY w (λrv ao w x H1 R1 p1 hx=>?_) λ_ _ z=>z.exp);show D.nx θL H1;have k:∀v,(σ.set i δR)[j]?=σ[j]?:= λv=>qak hij;rw[aB]at w;cases rv with
 |val d=>exact w _ H1 R1 (cB.set er p1 (s:=(.ae,d)) hx λz=>by cases z) (k _)
 |new d =>
   obtain⟨h1,a,h2,h3⟩:=hx;exact w _ H1 R1 (cB.set er p1 (s:=(.own,d)) h1 λ_ b eb=>by rw[h2]at eb;cases eb;exact h3) (k _)
 |var j =>
   rw[aB]at w;obtain⟨d,aC,R2,p2,_,r2,w⟩:=oV er p1 hx w;exact w _ H1 R2 (cB.set er p2 (s:=(.ae,d)) r2 λz=>by cases z) (k _)
end
section
variable{X:Cx}{EE:br}{ios:zzd}{k:Nat}{f:Addr}{fd:FuncData}{ps:v6}{C:Cn}{fl x:Str}{p pos apos:Pos}{e o:Expr}{es:zza}{fs:γg}{fo:M RV}{G:List D->Option Rx}{Gp:List D->Option Rt}
def yv(C:Cn)(y:Str)(f:M RV):M RV:=M.bind f λrv=>M.bind εP λd=>match d with
 |.obj C' ns vs=>if cd (C'=C) then M.d9 (((ns.zip vs).lookup y).map .val) else M.st
 |_=>M.st
def W6(hcl:k7 X.K θ)(hna:a9 X.K θ y)(ha:VE X EE ios e fo)(hb:attributeBase e y X.env εK=eval e X.env):VE X EE ios θJ (yv C y fo):=by
 obtain⟨t,h1,h2⟩:=ha;refine⟨_,Sd h1 hb,λσ H R Γ Q er w=>?_⟩;unfold yv at w;rw[aB]at w;refine h2 σ H R Γ _ er (aY w (λrx ao w1 x H1 R1 p1 hx=>?_) λ_ _ z=>z);clear w;rw[aB]at w1;obtain⟨d,aC,R2,p2,s2,r2,w2⟩:=oV er p1 hx w1;clear w1;cases d with
 |obj C' ns vs =>
   dsimp only at w2;split at w2
   .rename_i hc;have hc:=lL hc;subst hc;obtain⟨rv,hg,w'⟩:=ke w2;obtain⟨d,hd,rfl⟩:=qbw.mp hg;clear w2;cases r2 with
    |obj q hv =>
      obtain⟨v,l1,l2⟩:=FP hv hd;exact⟨_,_,_,_,v,rfl,p2.er.sub _ _ q,hcl,hna,l1,w' v H1 R2 p2 l2⟩
   .exact False.elim w2
 |_=>exact False.elim w2
def yw(C:Cn)(m:Str)(G:List D->Option Rt)(f:M RV):M RV:=M.bind f λrv=>M.bind εP λd=>match d with
 |.obj C' ns vs=>if cd (C'=C/\m∉ns) then M.d9 ((G [.obj C' ns vs]).map Rt.rv) else M.st
 |_=>M.st
def W7(hcl:k7 X.K θ)(hm:Meth X.K θ m f)(F:bB X.prog X.w X.K X.mg X.base jt k f fd ps (bC Gp))(hr:δ3)(hb:Binds X.K fd ps [])(ha:VE X EE ios o fo)
 (ht:eval (.Call δT [] [] pos) X.env=(do
  let ov <-eval o X.env
  standAt apos.atName
  let (f,first) <-holding [ov] θZ
  callWith pos f first (backTo pos (starEach [] X.env)) (backToKw pos (keywordEach [] X.env))):=by rfl):VE X EE ios (.Call δT [] [] pos) (yw C m Gp fo):=by
 obtain⟨t,h1,h2⟩:=ha
 refine⟨_,Ss h1 hcl hm F hr hb .nil Ee ht,λσ H R Γ Q er w=>?_⟩
 unfold yw at w
 rw[aB]at w
 refine h2 σ H R Γ _ er (aY w (λrx ao w1 x H1 R1 p1 hx=>?_) λ_ _ z=>z)
 clear w
 rw[aB]at w1
 obtain⟨d,aC,R2,p2,s2,r2,w2⟩:=oV er p1 hx w1
 clear w1
 cases d with
 |obj C' ns vs =>
   dsimp only at w2
   split at w2
   .rename_i hc
    obtain⟨hc,hn⟩:=lL hc
    subst hc
    obtain⟨rv,hg,w'⟩:=ke w2
    obtain⟨r,hG,rfl⟩:=qbw.mp hg
    clear w2
    have r3:=r2
    cases r2 with
    |obj q hv =>
      refine⟨_,_,_,rfl,p2.er.sub _ _ q,?_,R2,[_],p2.er.sub,.cons r3 .nil,?_⟩
      .rw[List.lookup_eq_none_iff]
       intro z hz
       rw[bne_iff_ne]
       intro e
       exact hn (qaF.mpr ⟨z,hz,e.symm⟩)
      .rw[hG]
       exact λz H' R' al ra=>w' z H' R' ζo (ra.rv ηf)
   .exact False.elim w2
 |_=>exact False.elim w2
end
end
end Dv
namespace L2
open PySem PySem.Spec PyProof.Rows Ex
section
variable{X:Cx}{pins:W1}{σ:St}{H:Hp}{s:Shared}{A:Around}{E:T0}{Q:T0}{b:Bool}
def MP{its:v4}(I:δ)(rx:RelV x u)(ty:eW X.K H x t)(ht:IsTup s.heap tp its.toArray)(e:W.kitAny X.K t its=some b)(h:∀tk,Q (.bool b) {s with toks:=tk}) :
 wpAny ζ A (call (.builtin "isinstance") [u,.ref tp]) Q E s:=by
 obtain⟨ob,g1,g2,n,g3⟩:=ht;obtain⟨oc,od,oda,osl⟩:=ob;dsimp only at g2 g3;subst g2 g3;cases ty with
 |aq=>cases (show u=Value.none from rx);exact W.kia_tup W.kitx_none I.cf True.intro g1 e (λz=>nomatch z) h
 |bl y=>cases (show u=Value.bool y from rx);exact W.kia_tup W.kitx_bool I.cf True.intro g1 e (λz=>nomatch z) h
 |int i=>obtain⟨t,q⟩:=(show ∃t,u=Value.int i t from rx);cases q;exact W.kia_tup W.kitx_int I.cf True.intro g1 e (λz=>nomatch z) h
 |str y=>obtain⟨t,q⟩:=(show ∃t,u=Value.str y t from rx);cases q;exact W.kia_tup W.kitx_str I.cf True.intro g1 e (λz=>nomatch z) h
 |flt y=>obtain⟨t,q⟩:=(show ∃t,u=Value.float y t from rx);cases q;exact W.kia_tup W.kitx_float I.cf True.intro g1 e (λz=>nomatch z) h
 | @lst a xs ea =>
   cases (show u=Value.ref a from rx);obtain⟨_,_,n,_,h1⟩:=(show aI X.prog X.w H s.heap a γh from I.hok a _ ea);exact W.kia_tup W.kitx_list I.cf ⟨_,h1,rfl⟩ g1 e (λz=>nomatch z) h
 | @ae a ob xs ea =>
   cases (show u=Value.ref a from rx);obtain⟨_,_,_,n,_,h1⟩:=(show aI X.prog X.w H s.heap a (.ae ob γh) from I.hok a _ ea);exact W.kia_tup W.kitx_list I.cf ⟨_,h1,rfl⟩ g1 e (λz=>nomatch z) h
 | @tup a xs ea =>
   cases (show u=Value.ref a from rx);obtain⟨_,_,_,p⟩:=(show aI X.prog X.w H s.heap a γK from I.hok a _ ea);obtain⟨o,h1,h2,_⟩:=p;exact W.kia_tup W.kitx_tuple I.cf ⟨o,h1,h2⟩ g1 e (λz=>nomatch z) h
 | @dK a kvs ea =>
   cases (show u=Value.ref a from rx);obtain⟨_,_,vs,_,p⟩:=(show aI X.prog X.w H s.heap a (.dK kvs) from I.hok a _ ea);obtain⟨o,es,ep,h1,h2,_⟩:=p;exact W.kia_tup W.kitx_dict I.cf ⟨o,h1,h2.1⟩ g1 e (λz=>nomatch z) h
 | @dT a kvs ea =>
   cases (show u=Value.ref a from rx);obtain⟨_,_,xs,_,o,es,ep,h1,h2,_⟩:=(show aI X.prog X.w H s.heap a (.dT kvs) from I.hok a _ ea);exact W.kia_tup W.kitx_dict I.cf ⟨o,h1,h2.1⟩ g1 e (λz=>nomatch z) h
 | @ins a C dx fs ea cl ha hn htk hm =>
   cases (show u=Value.ref a from rx);obtain⟨mA,O,_⟩:=xb I.hok ea;obtain⟨od,J,_⟩:=O.look;exact W.kia_tup ηV I.cf J g1 e (λz=>nomatch z) h
def MQ(K:zze):List V->Hp->VK->Prop:=λxs H Q=>∃x p T U t b,xs=[x,.ref p]/\H p=some (.tup [.ty T,.ty U])/\eW K H x t/\W.kitAny K t [.type T,.type U]=some b/\Q ζc H
def W8:aM X (.builtin "isinstance") (MQ X.K):=by intro pins s σ H xs us Q I r h;obtain⟨x,p,T,U,t,b,rfl,hp,ty,e,q⟩:=h;obtain⟨u,u2,rfl,rx,rc⟩:=Vals.two r;obtain rfl:u2=Value.ref p:=rc;obtain⟨_,its,rv,ht⟩:=(show aI X.prog X.w H s.heap p (.tup [.ty T,.ty U]) from I.hok p _ hp);obtain⟨v1,v2,rfl,r1,r2⟩:=Vals.two rv;obtain rfl:v1=Value.type T:=r1;obtain rfl:v2=Value.type U:=r2;exact MP I rx ty ht e λtk=>⟨.bl b,H,I.tok _,rfl,q⟩
end
end L2
namespace Dv
open PySem L2 Ex
variable[KC]
section
variable{X:Cx}{EE:br}{ios:zzd}{a o c:Expr}{f fo:M RV}{p:δC}{es:zza}{fs:γg}
omit [KC] in
def W9[KC](K:zze)(d:D)(hd:plain d=true):W.kitAny K θT [.type "list",.type "tuple"]=some (jV .list d || jV .tuple d):=by cases d<;>first|kernel_rfl|cases hd
def Ga:D->Option RV
 |.eZ _=>none
 |.ins _ _ _=>none
 |.obj _ _ _=>none
 |d=>some (.val (.bl (jV .list d || jV .tuple d)))
def B9(f:M RV):M RV:=M.bind (ql f) λx=>M.bind ε6 λd=>M.d9 (Ga d)
def W_(hp:∀t,PE X a t->PE X e0 (rN (MQ X.K) (j7 t (j7 (D4 (j7 (tC (.ty "list")) (j7 (tC (.ty "tuple")) oI))) oI))))(ha:γo):VE X EE ios e0 (B9 f):=by
 obtain⟨t,h1,h2⟩:=ha;refine⟨_,hp t h1,λσ H R Γ Q er w=>?_⟩;unfold B9 at w;rw[aB]at w;refine xI h2 er (aY w (λrx ao w x H1 R1 p1 hx=>?_) λ_ _ z=>z);rw[aB]at w;obtain⟨d,pd,w⟩:=m9 (H:=H) p1.er hx.rv w;obtain⟨rv,hg,w⟩:=ke w;have ns:plain d=true:=by cases d<;>first|rfl|cases hg
 have hg:rv=.val (.bl (jV .list d || jV .tuple d)):=by cases d<;>first| (cases hg;done)|exact(qaH hg).symm
 subst hg;refine⟨by show 2<=sizeLine;decide +kernel,λq hq=>?_⟩;have al:Al R1 H1 R1 (upd H1 q (.tup [.ty "list",.ty "tuple"])):=⟨λb o z=>by rw[bA (λe=>by rw[e,p1.er.sub.free hq]at z;cases z)];exact p1.er.sub b o z,ag.refl _,lG hq,λ_ _ _ h=>h⟩;have hv:=(pd.hv p1.er.sub).sm (H':=upd H1 q (.tup [.ty "list",.ty "tuple"])) (lG hq);have ty:=hv.ty (K:=X.K) ns;exact⟨x,q,_,_,_,_,rfl,fS,ty,W9 X.K d ns,w _ _ R1 θq ζB⟩
def hid(Γ:En):En:=Γ.map λs=>s.map λt=>(.ae,t.2)
def B_(f:δC):M Bool:=λΓ=>match f (hid Γ) with
 |.ok b _=>.ok b Γ
 |_=>.st
def Gb{j:Nat}{Γ:En}{t:Kd×D}(h:(hid Γ)[j]?=some (some t)):∃k e,t=(.ae,e)/\Γ[j]?=some (some (k,e)):=by
 unfold hid at h;rw[qaE]at h;cases q:Γ[j]? with
 |none=>rw[q]at h;cases h
 |some s =>
   rw[q]at h;cases s with
   |none=>cases h
   |some s=>cases h;exact⟨s.1,s.2,rfl,rfl⟩
def MR{σ:St}{Γ:En}{b:Addr}:¬Ow σ (hid Γ) b:=by rintro⟨j,k,e,h1,h2,_⟩;obtain⟨_,_,z,_⟩:=Gb h1;cases z;cases h2
def Xa{σ:St}{H R:Hp}{Γ:En}(er:γk):ER ios ζE H σ (hid Γ):=by
 have ss:ag R ζE:=E7 λb z=>(er.ow z).1;refine⟨Bv er.sub,by rw[er.len];unfold hid;rw[List.length_map],λj t hj=>?_,λj j' k l e e' b h1 h2 _ _ _ _=>?_⟩
 .obtain⟨k,e,rfl,he⟩:=Gb hj;obtain⟨v,hv,sl⟩:=er.sl j _ he;refine⟨v,hv,?_⟩
  have own:OwR R H v e->owned k=true->Rp ζE v e:=λq ho=>by obtain⟨a,xs,ds,rfl,h1,h2,rfl,h3⟩:=q;refine .lst ?_ (h3.sm ss);unfold lent;rw[qaz ⟨j,k,_,he,ho,hv⟩];exact h2
  cases k with
  |ae=>exact Rp.sm ss sl
  |own=>exact own sl rfl
  |io n=>exact own sl.1 rfl
 .obtain⟨_,_,z,_⟩:=Gb h1;cases z;cases h2
def Xb(er:γk)(p:bt ios ζE H σ (hid Γ) R' H' Γ'):bt ios R H σ Γ (o5 δQ R') H' Γ/\∀b o,H b=some o->H' b=some o:=by
 have un:∀b,¬Ow σ Γ b->o5 δQ R' b=R' b:=λb z=>by unfold o5;rw[if_neg z]
 have un':∀b,Ow σ Γ b->o5 δQ R' b=none:=λb z=>by unfold o5;rw[if_pos z]
 have s1:ag R ζE:=E7 λb z=>(er.ow z).1;have no:∀b,R b=none -> ¬Ow σ Γ b->lent δQ R H b=none:=λb hb nb=>by unfold lent;rw[if_neg nb];exact hb
 have hh:∀b o,H b=some o->H' b=some o:=λb o h=>p.go.hh b o h MR
 have rr:ag R (o5 δQ R'):=λb o z=>by rw[un b λq=>by rw[(er.ow q).1]at z;cases z];exact p.go.rr b o (s1 b o z)
 refine⟨⟨⟨λb o z=>?_,er.len,λj t hj=>?_,er.dj⟩,⟨rr,λb o h _=>hh b o h,λb o h nb rb=>?_,λb z=>.inl z,λb o h=>⟨o,hh b o h⟩⟩,λb z=>z⟩,hh⟩
 .by_cases nb:Ow σ Γ b
  .rw[un' b nb]at z;cases z
  .rw[un b nb]at z;exact p.er.sub b o z
 .obtain⟨v,hv,q⟩:=er.sl j t hj;refine⟨v,hv,q.mono rr λho a xs e h1 h2=>⟨hh a _ h1,un' a ?_⟩⟩;subst e;exact⟨j,t.1,t.2,hj,ho,hv⟩
 .rw[un b nb];exact p.go.no b o h MR (no b rb nb)
def Xd{f:δC}(h:VT X EE ios c f):VT X EE ios c (B_ f):=by
 obtain⟨t,h1,h2⟩:=h;refine⟨t,h1,λσ H R Γ Q er w=>?_⟩;unfold B_ at w;refine h2 σ H _ _ Q (Xa er) ?_;cases q:f (hid Γ) with
 |st=>rw[q]at w;exact False.elim w
 |ex xc Γ'=>rw[q]at w;exact False.elim w
 |ok b Γ' =>
   rw[q]at w;exact uk λH' R' p=>um w H' _ (Xb er p).1
end
def ph(H R':Hp)(x:V)(r:Rt):Prop:=∃C fl a dx b xs ds,x=.ref a/\r=.val (.obj C [fl] [.lst ds])/\R' a=some (.ins θ dx [(fl,.ref b)])/\R' b=some γh/\H a=none/\H b=none/\aK R' xs ds/\jF ds=true
def ph.rp(h:ph H R' x r):ip R' H0 H' σ x r.rv:=by obtain⟨C,fl,a,dx,b,xs,ds,rfl,rfl,h1,h2,_,_,h3,_⟩:=h;exact Rp.obj (fs:=[(fl,.ref b)]) h1 (.cons (.lst h2 h3) .nil)
def yx(G:List D->Option Rx):Sp:=λvs H Q E=>∃R ds,ag R H/\aK R vs ds/\match G ds with
 |some (.ok r)=>∀x H' R',Al R H R' H'->ph H R' x r->Q x H'
 |some (.ex x)=>∀e H' R',Al R H R' H'->qi R' H H' e x->E ζ3 ζC H'
 |none=>False
def Gd(C:Cn)(fl:Str)(G:List D->Option Rx):Sp:=λvs H Q E=>∃x dx vs' R ds,vs=.ref x::vs'/\H x=some (.ins θ dx [])/\R x=none/\ag R H/\aK R vs' ds/\(match G ds with
 |some (.ok r)=>∃es,r=.val (.obj C [fl] [.lst es])/\jF es=true/\∀H' R' b xs,B7 x R H R' H'->R' x=some (.ins θ dx [(fl,.ref b)])->R' b=some γh->H b=none->aK R' xs es->Q .aq H'
 |some (.ex xc)=>∀e H' R',B7 x R H R' H'->qi R' H H' e xc->E (.ref (KC.cls xc.C)) ζC H'
 |none=>False)
def MS(hG:∀ds r,G ds=some (.ok r)->∃es,r=.val (.obj C [fl] [.lst es])/\jF es=true):Made θ (yx G) (Gd C fl G):=by
 intro vs H Q E h x dx hx hdx ne;obtain⟨R,ds,s,rp,k⟩:=h;have ex:upd εa x (.ins θ dx []) x=some (.ins θ dx []):=fS
 have old:∀b o,H b=some o->upd εa x (.ins θ dx []) b=some o:=λb o h=>by rw[bA (λz=>by rw[z,hx]at h;cases h),bA (λz=>by rw[z,hdx]at h;cases h)];exact h
 have back:∀a,upd εa x (.ins θ dx []) a=none->H a=none:=λa ha=>by
  cases q:H a with
  |none=>rfl
  |some o=>rw[old a o q]at ha;cases ha
 have rx:R x=none:=s.free hx;have yy:∀{R' H'},B7 x R (upd εa x (.ins θ dx [])) R' H'->Al R H R' H':=λal=>⟨al.sub,al.rr,λb o h=>al.hh b o (λz=>by rw[z,hx]at h;cases h) (old b o h),λb o h r=>al.no b o (λz=>by rw[z,hx]at h;cases h) (old b o h) r⟩;refine⟨x,dx,vs,R,ds,rfl,ex,rx,λb o h=>old b o (s b o h),rp,?_⟩;cases q:G ds with
 |none=>rw[q]at k;exact k
 |some r =>
   rw[q]at k;cases r with
   |ok r =>
     obtain⟨es,rfl,jG⟩:=hG ds r q;exact⟨es,rfl,jG,λH' R' b xs al h1 h2 h3 h4=>⟨rfl,k _ H' R' (yy al) ⟨C,fl,x,dx,b,xs,es,rfl,rfl,h1,h2,hx,back b h3,h4,jG⟩⟩⟩
   |ex xc =>
     intro e H' R' al xr;exact k e H' R' (yy al) (qi.back back xr)
def q0(s1 s2:M Fl)(fe:M RV):M γe:=M.bind s1 λl1=>match l1 with
 |.nx=>M.bind s2 λl2=>match l2 with
   |.nx=>M.bind fe λrv=>match rv with
     |.new (.lst es)=>if jF es=true then M.pure es else M.st
     |_=>M.st
   |_=>M.st
 |_=>M.st
noncomputable def vP(C:Cn)(fl:Str):Res γe->Option Rx
 |.ok es _=>some (.ok (.val (.obj C [fl] [.lst es])))
 |.ex x _=>some (.ex x)
 |.st=>none
def Xe{P:Program}{w:World}{K:zze}{mg:M2}{base:Heap}{name qual:Str}{fa:Addr}{params:Arguments}{body:δK}{scope:Scope}{dV kV doc pm cdv ct oc:Value}{an od:δa}{osl:η4}{N ps:v6}{k:Nat}{C:Cn}{fl:Str}{G:List D->Option Rx}{s1 s2:M Fl}{fe:M RV}{st1 st2:Stmt}{self:Str}{p0 p1 p2:Pos}{e:Expr}
 (lk:K.lookup fa=some ⟨oc,od,.func γL,osl⟩) (hcd:W.codeIn K cdv qual=true) (S:ah N ps scope) (hbody:body=[st1,st2,.Assign [.Attribute ζd fl p1] e p2]) (hcl:k7 K θ) (hna:a9 K θ fl)
 (hb:∀(A:Around) (outer:δu) (s:Shared) (H:Hp) (E:XK),aH k (A.deeper (PyProof.Rows.envOfC qual scope s.heap.objs.size fa cdv))->let X:=k9 ηg P w K mg base N qual scope fa cdv A outer s H E
  VJ 0 X (λ_=>E) [] st1 s1/\VJ 0 X (λ_=>E) [] st2 s2/\VE X (λ_=>E) [] e fe/\PE X ζd (u3 0)/\swapsWith e (some (.Attribute ζd fl p1)) p2.line X.env=pure false)
 (h:∀ds r,G ds=some r->ds.length+1=ps.length/\ds.length<N.length/\vP C fl (q0 s1 s2 fe (none::(gam N.tail ds)))=some r):bB P w K mg base ηg (k+1) fa γL ps (Gd C fl G):=by
 refine D8 lk hcd S (λvs H Q E q=>?_) λA outer s H vs Q E hr q=>?_
 .obtain⟨x,dx,vs',R,ds,rfl,_,_,_,h2,h3⟩:=q;cases e:G ds with
  |none=>rw[e]at h3;exact h3.elim
  |some r=>rw[qaW,h2.len];exact(h ds r e).1
 .obtain⟨x,dx,vs',R,ds,rfl,hx,Xg,h1,h2,h3⟩:=q;cases eG:G ds with
  |none=>rw[eG]at h3;exact h3.elim
  |some r =>
    rw[eG]at h3;obtain⟨⟨t1,a1,a2⟩,⟨t2,b1,b2⟩,⟨t3,c1,c2⟩,hv,hsw⟩:=hb A outer s H E hr;obtain⟨hl1,hl2,fin⟩:=h ds r eG;have hn0:N≠[]:=λz=>by rw[z]at hl2;simp at hl2
    obtain⟨n0,N',rfl⟩:=List.exists_cons_of_ne_nil hn0
    have Xh:ER [] R H (L2.start (n0::N') (.ref x::vs')) (none::gam N' ds):=by
     have er:=E5 (N:=N') h1 h2
     have es:L2.start (n0::N') (.ref x::vs')=some δH::L2.start N' vs':=by unfold L2.start;simp
     rw[es];refine⟨er.sub,by simp[er.len],λi sl q=>?_,λi j k l d e b q1 q2 q3 q4 q5 q6=>?_⟩
     .cases i with
      |zero=>simp at q
      |succ i=>simpa using er.sl i sl (by simpa using q)
     .cases i with
      |zero=>simp at q1
      |succ i =>
        cases j with
        |zero=>simp at q3
        |succ j=>rw[er.dj i j k l d e b (by simpa using q1) q2 (by simpa using q3) q4 (by simpa using q5) (by simpa using q6)]
    have q8:∀b,¬Ow (L2.start (n0::N') (.ref x::vs')) (none::gam N' ds) b:=λb=>by
     rintro⟨i,k,d,q1,q2,_⟩;cases i with
     |zero=>simp at q1
     |succ i =>
       obtain⟨_,_,z⟩:=Bt (N:=N') (by simpa using q1);cases z;cases q2
    have sL:∀{R' H':Hp}{aE:St}{Γ':En},cB [] R H (L2.start (n0::N') (.ref x::vs')) (none::gam N' ds) R' H' aE Γ'->B7 x R H R' H'/\H' x=some (.ins θ dx [])/\R' x=none:=λp =>
     ⟨⟨p.er.sub,p.go.rr,λb o _ h=>p.go.hh b o h (q8 b),λb o _ h r=>p.go.no b o h (q8 b) r⟩,p.go.hh x _ hx (q8 x),p.go.no x _ hx (q8 x) Xg⟩
    rw[hbody];refine⟨_,Az a1 (Az b1 (AA (Se hv c1 hsw))),?_⟩;have s0:(L2.start (n0::N') (.ref x::vs'))[0]?=some (some δH):=Lw rfl;have fin:vP C fl (q0 s1 s2 fe (none::gam N' ds))=some r:=fin;unfold q0 M.bind at fin;show t1 _ _ _;refine a2 _ H R _ _ Xh ?_;cases q1:s1 (none::gam N' ds) with
    |st=>rw[q1]at fin;cases fin
    |ex xc Γ' =>
      rw[q1]at fin;cases fin;exact λe aE H' R' p qx=>h3 e H' R' (sL p).1 qx
    |ok f1 ao =>
      rw[q1]at fin;refine uk λgM H1 R1 p1 k1=>?_;cases f1 with
      |brk=>cases fin
      |cont=>cases fin
      |ret rv=>cases fin
      |nx =>
        dsimp only at fin ⊢;show t2 _ _ _;refine b2 _ H1 R1 _ _ p1.er ?_;cases q2:s2 ao with
        |st=>rw[q2]at fin;cases fin
        |ex xc Γ' =>
          rw[q2]at fin;cases fin;exact λe aE H' R' p qx=>h3 e H' R' (sL (p1.trans p)).1 (qx.back p1.back)
        |ok f2 aC =>
          rw[q2]at fin;refine uk λiI H2 R2 p2 k2=>?_;cases f2 with
          |brk=>cases fin
          |cont=>cases fin
          |ret rv=>cases fin
          |nx =>
            dsimp only at fin ⊢;have qj:=p1.trans p2;have k12:iI[0]?=some (some δH):=by rw[k2,k1];exact s0
            refine c2 iI H2 R2 aC _ p2.er ?_;cases q3:fe aC with
            |st=>rw[q3]at fin;cases fin
            |ex xc Γ' =>
              rw[q3]at fin;cases fin;exact λe H' R' p qx=>h3 e H' R' (sL (qj.trans p.jB)).1 (qx.back qj.back)
            |ok rv su =>
              rw[q3]at fin;dsimp only at fin;refine uk λy H3 R3 p3 hy=>?_;cases rv with
              |val d=>cases fin
              |var i=>cases fin
              |new d =>
                cases d with
                |lst es =>
                  dsimp only at fin;by_cases jG:jF es=true
                  .rw[qaz jG]at fin;cases fin;obtain⟨⟨b,ys,lP,rfl,r1,r2,r3,r4⟩,b',eb,hf⟩:=hy;cases eb;cases r3;obtain⟨Ca,Xi,Xj⟩:=sL (qj.trans p3.jB);have Cb:H b=none:=qj.back b hf;have hbx:b≠x:=λz=>by rw[z,hx]at Cb;cases Cb
                   refine⟨.ref x,k12,x,KC.cls C,dx,[],rfl,Xi,hcl,hna,by simp,?_⟩;obtain⟨es',ee,_,h3⟩:=h3;cases ee;have re:ag R3 ιg:=vc r1;have Xk:ext R3 H3 b x=none:=by rw[qh (qa5 hbx)];exact Xj
                   have r':ag ιg (upd ιg x (.ins θ dx [(fl,.ref b)])):=lG Xk;refine h3 _ (upd ιg x (.ins θ dx [(fl,.ref b)])) b ys ⟨λc o hc=>?_,(Ca.rr.trans re).trans r',λc o hc ho=>by rw[bA hc];exact Ca.hh c o hc ho,λc o hc ho hr=>?_⟩ fS ?_ Cb (r4.sm (re.trans r'))
                   .by_cases z:c=x
                    .subst z;rw[fS]at hc ⊢;exact hc
                    .rw[bA z]at hc ⊢;exact AW Ca.sub c o hc
                   .rw[bA hc,qh]
                    .exact Ca.no c o hc ho hr
                    .rintro rfl;rw[Cb]at ho;cases ho
                   .rw[bA hbx,qO];exact r2
                  .rw[qax jG]at fin;cases fin
                |_=>cases fin
def uC(G:List D->Option Rx)(fs:γg):M RV:=M.bind fs λrvs=>M.bind ηh λds=>match G ds with
 |some (.ok r)=>M.pure r.rv
 |some (.ex x)=>M.bind δm λds'=>match G ds' with
  |some (.ex x)=>M.thr x
  |_=>M.st
 |none=>M.st
section
variable{X:Cx}{EE:br}{ios:zzd}{e:Expr}{es:zza}{fs:γg}{G:List D->Option Rx}{t:TA}
def MT(h2:xu EE ios t fs)(er:γk)
 (w:df (uC G fs Γ) (λrv Γ'=>∀x H' R' r,rv=Rt.rv r->bt ios R H σ Γ R' H' Γ'->ph H R' x r->Q x H') γ2):vA (yx G) [] EE t σ H Q:=by
 unfold uC at w;rw[aB]at w;refine h2 σ H R Γ _ er (aY w (λrvs ao w xs H1 R1 p1 hx=>?_) λ_ _ z=>z);show yx G (xs++[]) H1 Q θ5;rw[qbE];rw[aB]at w;obtain⟨ds,q,w⟩:=E8 w;obtain⟨ds',pk,e⟩:=vh (K:=λds' _=>ds'=ds) (E:=λ_ _=>False) p1.er hx (by rw[q];exact rfl);subst e;cases hG:G ds' with
 |none=>rw[hG]at w;exact False.elim w
 |some rx =>
   rw[hG]at w;cases rx with
   |ex x =>
     have w:df (M.bind δm (λds'=>match G ds' with
      |some (.ex x)=>M.thr x
      |_=>M.st) ao) _ _:=w
     rw[aB]at w;obtain⟨lP,aC,R2,p2,s2,r2,w⟩:=oY er p1 hx w;refine⟨R2,lP,p2.er.sub,r2,?_⟩;cases o6:G lP with
     |none=>rw[o6]at w;exact False.elim w
     |some ry =>
       rw[o6]at w;cases ry with
       |ok r=>exact False.elim w
       |ex y=>exact λe H' R' al xr=>w e H' R' ζo (xr.back p2.since)
   |ok r =>
     have w:∀x H' R' r',r.rv=Rt.rv r'->bt ios R H σ Γ R' H' ao->ph H R' x r'->Q x H':=w;refine⟨lent ζy R1 H1,ds',Bv p1.er.sub,Pks.lent p1.er hx pk q,?_⟩;rw[hG];intro x H' R' al ra;have ow:∀b,Ow σ ao b->R1 b=none/\∃xs,H1 b=some γh:=λb z=>p1.er.ow z;obtain⟨al',tup⟩:=Bw p1.er al;refine w x H' _ r rfl (p1.al al') ?_;obtain⟨C,fl,a,dx,b,xs',lP,rfl,rfl,h1,h3,h4,h5,h6,h7⟩:=ra;have nw:∀c,H1 c=none -> ¬Ow σ ao c:=λc hc z=>by obtain⟨_,zs,hz⟩:=ow c z;rw[hc]at hz;cases hz
     exact⟨C,fl,a,dx,b,xs',lP,rfl,rfl,by rw[uo (nw a h4)];exact h1,by rw[uo (nw b h5)];exact h3,p1.back er a h4,p1.back er b h5,h6.less tup h7,h7⟩
def VY(X:Cx)(EE:br)(ios:zzd)(e:Expr)(G:List D->Option Rx)(fs:γg):Prop:=∃t,PE X e (vA (yx G) [] EE t)/\xu EE ios t fs
def VY.ve(h:VY X EE ios e G fs):VE X EE ios e (uC G fs):=by obtain⟨t,h1,h2⟩:=h;exact⟨_,h1,λσ H R Γ Q er w=>MT h2 er (aY w (λrv Γ' w x H' R' r e p so=>by subst e;exact w x H' R' p so.rp) λ_ _ z=>z)⟩
def KBd(K:zze)(fd:FuncData)(ps:v6):Prop:=∀(s:Shared) (a:Value) (us:v4),K.In s.heap->us.length=ps.length->BindsTo s fd ⟨[a],ps.zip us⟩ ((("self":Str)::ps).zip (a::us))
def yz(P:Program)(w:World)(mg:M2)(base:Heap)(x:Str)(k:Nat)(ps:v6)(dvs:γv)(C:Cn)(fl:Str)(G:List D->Option Rx):Prop:=mg x=some ηw/\(∀ds r,G ds=some (.ok r)->∃es,r=.val (.obj C [fl] [.lst es])/\jF es=true)/\∃f fd,Mk KC.K θ f/\bB P w KC.K mg base ηg k f fd ("self" :: ps) (Gd C fl G)/\Binds KC.K fd ("self" :: ps) []/\(∃dd,Binds KC.K fd ("self" :: ps) dd/\Vals dvs dd)/\KBd KC.K fd ps
def Xl{x fl:Str}{k:Nat}{ps:v6}{p0 pos:Pos}{dvs:γv}{C:Cn}(hX:ζQ)(Mc:yz X.prog X.w X.mg X.base x k ps dvs C fl G)(hr:aH (k+1) X.A)(hg:εX)(ha:VA X EE ios (e::es) fs)(hK:X.K=KC.K:=by rfl)(hdb:(x == ("__debug__":Str))=false:=by decide)
 (he:starEach (e::es) X.env=(false,eval e X.env)::starEach es X.env:=by rfl) (hpl:(backTo pos γl).any (·.1)=false:=by rfl):VY X EE ios (.Call (.Name x p0) (e::es) [] pos) G fs:=by obtain⟨hm,hG,f,fd,Mo,F,hb,_⟩:=Mc;rw[<-hK]at F hb Mo;obtain⟨t,h1,h2⟩:=ha;exact⟨t,WY Mo F hr hg hm hb .nil hX (MS hG) h1 hdb he hpl,h2⟩
def Xm{x fl:Str}{k:Nat}{ps:v6}{p0 pos:Pos}{C:Cn}(hX:ζQ)(Mc:yz X.prog X.w X.mg X.base x k ps [.aq] C fl G)(hr:aH (k+1) X.A)(hg:εX)(hK:X.K=KC.K:=by rfl)(hdb:(x == ("__debug__":Str))=false:=by decide):VE X EE ios (.Call (.Name x p0) [] [] pos) (uC G (M.pure [.val .aq])):=by obtain⟨hm,hG,f,fd,Mo,F,_,⟨dd,hb,hd⟩,_⟩:=Mc;rw[<-hK]at F hb Mo;refine⟨_,WZ (dvs:=[.aq]) Mo F hr hg hm hb hd hX (MS hG) hdb,λσ H R Γ Q er w=>?_⟩;show yx G [.aq] H Q θ5;exact MT (t:=λ_ H Q=>Q [.aq] H) (EE:=EE) (fs:=M.pure [.val .aq]) (λσ H R Γ Q er w=>w [.aq] H R εZ (.cons .aq .nil)) er (aY w (λrv Γ' w x H' R' r e p so=>by subst e;exact w x H' R' p so.rp) λ_ _ z=>z)
end
def Ge(C:Cn)(m qual:Str)(st:Stmt):Prop:=∃f fd,nP KC.K m qual st f fd/\Meth KC.K θ m f
def Cc(P:Program)(w:World)(mg:M2)(base:Heap)(C:Cn)(m:Str)(k:Nat)(ps:v6)(sp:Sp):Prop:=∃f fd,Meth KC.K θ m f/\bB P w KC.K mg base jt k f fd ps sp/\Binds KC.K fd ps []
section
variable{P:Program}{w:World}{mg:M2}{base:Heap}{k:Nat}{N ps:v6}{C:Cn}{m qual fl:Str}{st:Stmt}
def Xn(A0:Ge C m qual st)(S:ηY)
 (bd:∀(kV doc pm:Value) (an:δa) (cdv ct:Value) (us:v4),us.length=ps.length->bindArgs (W.fnOf m qual (aZ st) ηo δy .none kV doc pm an cdv ct) ⟨us,[]⟩=pure εs)
 (hb:∀(fa:Addr) (cdv:Value) (A:Around) (outer:δu) (s:Shared) (H:Hp) (E:XK),aH k γx->cC (k9 jt P w KC.K mg base N qual δy fa cdv A outer s H E).qD EN [] ηo bm)
 (h:∀ds r,G ds=some r->ds.length=ps.length/\lM ηJ=some r):Cc P w mg base C m (k+1) ps δ2:=
 let ⟨f,fd,F,hm⟩:=A0
 ⟨f,fd,hm,E6 F S (hb f) h,F.binds bd⟩
def MU(C:Cn)(qual:Str)(st:Stmt)(ps:v6):Prop:=∃(fa:Addr) (dV kV doc pm cdv ct oc:Value) (an od:δa) (osl:η4),KC.K.lookup fa=some ⟨oc,od,.func (W.fnOf "__init__" qual (aZ st) ηo δy dV kV doc pm an cdv ct),osl⟩/\W.codeIn KC.K cdv qual=true/\Mk KC.K θ fa /\
 Binds KC.K (W.fnOf "__init__" qual (aZ st) ηo δy dV kV doc pm an cdv ct) ("self" :: ps) []/\Binds KC.K (W.fnOf "__init__" qual (aZ st) ηo δy dV kV doc pm an cdv ct) ("self" :: ps) [.none]/\KBd KC.K (W.fnOf "__init__" qual (aZ st) ηo δy dV kV doc pm an cdv ct) ps
def runN(C:Cn)(fl:Str)(n:Nat)(N:v6)(s1 s2:M Fl)(fe:M RV):List D->Option Rx:=λds=>if ds.length=n then vP C fl (q0 s1 s2 fe (none::gam N ds)) else none
def MV(h:runN C fl n N s1 s2 fe ds=some r):ds.length=n/\vP C fl (q0 s1 s2 fe (none::gam N ds))=some r:=by
 unfold runN at h;split at h
 .rename_i c;exact⟨c,h⟩
 .cases h
omit [KC] in
def Gf{α β:Type}{f:M α}{g:α->M β}{b:β}(h:M.bind f g Γ=.ok b Γ'):∃a ao,f Γ=.ok a ao/\g a ao=.ok b Γ':=by
 unfold M.bind at h;cases q:f Γ with
 |ok a ao=>rw[q]at h;exact⟨a,ao,rfl,h⟩
 |ex x ao=>rw[q]at h;cases h
 |st=>rw[q]at h;cases h
def Xo(ds:γe)(r:Rt)(h:runN C fl n N s1 s2 fe ds=some (.ok r)):∃es,r=.val (.obj C [fl] [.lst es])/\jF es=true:=by
 have h:=(MV h).2;cases q:q0 s1 s2 fe (none::gam N ds) with
 |st=>rw[q]at h;cases h
 |ex x Γ=>rw[q]at h;cases h
 |ok es Γ =>
   rw[q]at h;cases h;refine⟨es,rfl,?_⟩;unfold q0 at q;obtain⟨l1,ao,_,q⟩:=Gf q;cases l1 with
   |nx =>
     obtain⟨l2,aC,_,q⟩:=Gf q;cases l2 with
     |nx =>
       obtain⟨rv,su,_,q⟩:=Gf q;cases rv with
       |new d =>
         cases d with
         |lst zs =>
           dsimp only at q;split at q
           .rename_i hm;cases q;exact hm
           .cases q
         |_=>cases q
       |_=>cases q
     |_=>cases q
   |_=>cases q
def Xp(A0:MU C qual st ps)(hm:mg x=some ηw)(S:ah ("self" :: N) ("self" :: ps) δy)(hbd:af st=[st1,st2,.Assign [.Attribute ζd fl p1] e p2])(hcl:k7 KC.K θ)(hna:a9 KC.K θ fl)(hn:ps.length=n)(hN:n<N.length+1)
 (hb:∀(fa:Addr) (cdv:Value) (A:Around) (outer:δu) (s:Shared) (H:Hp) (E:XK),aH k γx->let X:=k9 ηg P w KC.K mg base ("self" :: N) qual δy fa cdv A outer s H E
  VJ 0 X (λ_=>E) [] st1 s1/\VJ 0 X (λ_=>E) [] st2 s2/\VE X (λ_=>E) [] e fe/\PE X ζd (u3 0)/\swapsWith e (some (.Attribute ζd fl p1)) p2.line X.env=pure false):yz P w mg base x (k+1) ps [.aq] C fl (runN C fl n N s1 s2 fe):=by
 obtain⟨fa,dV,kV,doc,pm,cdv,ct,oc,an,od,osl,lk,hcd,Mo,b0,b1,b2⟩:=A0
 refine⟨hm,Xo,fa,_,Mo,Xe lk hcd S hbd hcl hna (hb fa cdv) (λds r q=>?_),b0,⟨[.none],b1,.cons rfl .nil⟩,b2⟩
 obtain⟨h1,h2⟩:=MV q
 exact⟨by rw[qaW,hn,h1],by rw[h1];exact hN,h2⟩
end
section
variable{X:Cx}{EE:br}{ios:zzd}{k:Nat}{ps:v6}{C:Cn}{m:Str}{pos apos:Pos}{e o:Expr}{es:zza}{fs:γg}{fo:M RV}{Gp:List D->Option Rt}
def Xq{pl:Sem Bool}(hcl:k7 KC.K θ)(Mc:Cc X.prog X.w X.mg X.base C m k ps (bC Gp))(hr:δ3)(ha:VE X EE ios o fo)(hK:X.K=KC.K:=by rfl)
 (ht:eval (.Call δT [] [] pos) X.env=(do
  let ov <-eval o X.env
  standAt apos.atName
  let (f,first) <-holding [ov] θZ
  callWith pos f first (backTo pos (starEach [] X.env)) (backToKw pos (keywordEach [] X.env))):=by rfl):VE X EE ios (.Call δT [] [] pos) (yw C m Gp fo):=by
 obtain⟨f,fd,hm,F,hb⟩:=Mc
 rw[<-hK]at hcl hm F hb
 exact W7 hcl hm F hr hb ha ht
def Xr(hcl:k7 KC.K θ)(hna:a9 KC.K θ y)(ha:VE X EE ios e fo)(hb:attributeBase e y X.env εK=eval e X.env:=by rfl)(hK:X.K=KC.K:=by rfl):VE X EE ios θJ (yv C y fo):=by rw[<-hK]at hcl hna;exact W6 hcl hna ha hb
end
end Dv
namespace Dv
open PySem L2 Ex
section
variable{Γ:En}{f fo:M RV}{fs:γg}{G:List D->Option Rt}{GX:List D->Option Rx}{C:Cn}{m y:Str}
@[simp] def Gg:yw C m G f Γ=M.bind f (λrv=>M.bind εP λd=>match d with
 |.obj C' ns vs=>if cd (C'=C/\m∉ns) then M.d9 ((G [.obj C' ns vs]).map Rt.rv) else M.st
 |_=>M.st) Γ:=rfl
@[simp] def Gh:yv C y f Γ=M.bind f (λrv=>M.bind εP λd=>match d with
 |.obj C' ns vs=>if cd (C'=C) then M.d9 (((ns.zip vs).lookup y).map .val) else M.st
 |_=>M.st) Γ:=rfl
@[simp] def Cd:uC GX fs Γ=M.bind fs (λrvs=>M.bind ηh λds=>match GX ds with
 |some (.ok r)=>M.pure r.rv
 |some (.ex x)=>M.bind δm λds'=>match GX ds' with
  |some (.ex x)=>M.thr x
  |_=>M.st
 |none=>M.st) Γ:=rfl
@[simp] def Ce:B9 f Γ=M.bind (ql f) (λx=>M.bind ε6 λd=>M.d9 (Ga d)) Γ:=rfl
@[simp] def Cf:Ga γh=some γy:=rfl
@[simp] def MW:MI out items fr own t p f Γ=M.bind items (λds=>if ds.length<256 then M.bind (fm fr own t p f ds) λys=>M.d9 (out ys) else M.st) Γ:=rfl
@[simp] def Gi:vO ys=(asP ys).map λcs=>.new (.lst ((ef cs).map pD)):=rfl
theorem MX:B_ p Γ=match p (hid Γ) with
 |.ok b _=>.ok b Γ
 |_=>.st:=rfl
@[simp] def MY:cd (¬("points":Str) = "held")=true:=iR (by decide +kernel)
@[simp] def MZ:cd True=true:=iR trivial
end
noncomputable def Gj(sc:Scope)(y:Str):Bool:=match sc.names.lookup y with
 |some .local=>true
 |some .cell=>true
 |_=>false
def dc(h:Gj sc y=true):Loc sc y:=by
 unfold Gj at h;split at h
 .rename_i e;exact .inl e
 .rename_i e;exact .inr e
 .cases h
end Dv
namespace L2
open PySem PySem.Spec PyProof.Rows Ex
mutual
inductive fb(H:Hp):V->PyData->Prop
 |aq:fb H .aq .none
 |bl (b:Bool):fb H (.bl b) (.bool b)
 |int (i:Int):fb H (.int i) (.int i)
 |str (x:Str):fb H (.str x) (.str x)
 |lst {a:Addr}{xs:γv}{ds:η1}:H a=some (.lst xs)->jf H xs ds->fb H (.ref a) (.list ds)
 |tup {a:Addr}{xs:γv}{ds:η1}:H a=some (.tup xs)->jf H xs ds->fb H (.ref a) (.tuple ds)
 |mB {a:Addr}:H a=some (.dK [])->fb H (.ref a) (.dict [])
inductive jf(H:Hp):List V->List PyData->Prop
 |nil:jf H [] []
 |cons {x:V}{d:PyData}{xs:γv}{ds:η1}:fb H x d->jf H xs ds->jf H (x::xs) (d::ds)
end
def Gk(K:zze):Prop:=∃o,K.lookup sysModules=some o/\o.cls=.type "dict"
def fb.reads(ok:δG)(hs:∀o,h.get? sysModules=some o->o.cls=.type "dict")(D:fb H x d)(r:RelV x u):∃as,Reads h u d as/\sysModules∉as:=by
 refine fb.rec (motive_1:=λx d _=>∀u,RelV x u->∃as,Reads h u d as/\sysModules∉as) (motive_2:=λxs ds _=>∀us,Vals xs us->∃as,ReadsAll h us ds as/\sysModules∉as) (λ_ r=>?_) (λb _ r=>?_) (λi _ r=>?_) (λx _ r=>?_) (λe _ ih _ r=>?_) (λe _ ih _ r=>?_) (λe _ r=>?_) (λ_ r=>?_) (λ_ _ a b _ r=>?_) D u r
 .cases r;exact⟨_,.none,by simp⟩
 .cases r;exact⟨_,.bool b,by simp⟩
 .obtain⟨t,rfl⟩:=r;exact⟨_,.int i t,by simp⟩
 .obtain⟨t,rfl⟩:=r;exact⟨_,.str x t,by simp⟩
 .cases r;obtain⟨_,its,n,rv,q⟩:=ok _ _ e;obtain⟨as,R,ns⟩:=ih _ rv;refine⟨_,.list q rfl rfl R,λz=>?_⟩;rcases qav.mp z with z|z
  .exact absurd (show Value.type "list" = Value.type "dict" from hs _ (z ▸ q)) ξ
  .exact ns z
 .cases r;obtain⟨_,its,rv,o,q,c,n,d⟩:=ok _ _ e;obtain⟨as,R,ns⟩:=ih _ rv;exact⟨_,.tuple q c d R,ns⟩
 .cases r;obtain⟨R,nb⟩:=VX ok e;exact⟨_,R,λz=>nb (qaT.mp z).symm⟩
 .cases r;exact⟨_,.nil,by simp⟩
 .cases r with
  |cons r1 r2 =>
    obtain⟨_,R1,n1⟩:=a _ r1;obtain⟨_,R2,n2⟩:=b _ r2;exact⟨_,.cons R1 R2,λz=>(qaK.1 z).elim n1 n2⟩
section
variable{X:Cx}
def Xs(hr:δ3)(sm:Gk X.K):aM X (.builtin "repr") (λxs H Q=>∃(a:Addr) (d:PyData),xs=[.ref a]/\fb H γz d/\d.showable=true/\d.depth<=50/\d.shown.length<=sizeLine/\Q (.str d.shown) H):=by intro pins s σ H xs us Q I r h;obtain⟨a,d,rfl,D,sh,dp,sz,q⟩:=h;obtain⟨u,rfl,ru⟩:=r.one;cases ru;obtain⟨o,so,sc⟩:=sm;obtain⟨as,R,ns⟩:=D.reads I.hok (λo' e=>by rw[I.cf _ _ so]at e;cases e;exact sc) (u:=.ref a) rfl;have un:=hr.units;exact repr_of_reads' R sh (λ_=>ns) hr.gd ω (λ_ _ z=>z) (λh' u tk kp=>⟨.str d.shown,H,I.kept kp,⟨u,rfl⟩,q⟩) sz
def Xt:aM X (.builtin "repr") (λxs H Q=>xs=[.aq]/\Q (.str "None") H):=by intro pins s σ H xs us Q I r h;obtain⟨rfl,q⟩:=h;obtain⟨u,rfl,ru⟩:=r.one;cases ru;exact PySem.P.repr_of_none ⟨.str _,H,I.kept (λ_ _ e=>e),⟨_,rfl⟩,q⟩
end
end L2
namespace Dv
open PySem L2 Ex
variable[KC]
mutual
noncomputable def nk:D->Bool
 |.aq=>true
 |.bl _=>true
 |.int _=>true
 |.str _=>true
 |.lst xs=>q9 xs
 |.tup xs=>q9 xs
 |.mB [] []=>true
 |_=>false
noncomputable def q9:List D->Bool
 |[]=>true
 |x::r=>nk x&&q9 r
end
def Rp.yA{H:Hp}:(∀{x d},Rp H x d->nk d=true->fb H x d.py)/\∀{xs ds},aK H xs ds->q9 ds=true->jf H xs θj:=by
 refine Rp.ind (m:=λx d=>nk d=true->fb H x d.py) (λ_=>.aq) (λb _=>.bl b) (λi _=>.int i) (λx _=>.str x) (λe h p=>.lst e (h (by simpa [nk]using p))) (λe h p=>.tup e (h (by simpa [nk]using p))) (λe _=>.mB e) ?_ ?_ ?_ ?_ (λ_=>.nil) (λa b p=>?_)
 iterate 4 simp[nk]
 have p:=Bool.and_eq_true_iff.mp (show(nk _&&q9 _)=true from by simpa only [q9]using p);exact .cons (a p.1) (b p.2)
def Rp.Gm:Rp H x d->nk d=true->fb H x d.py:=Rp.yA.1
noncomputable def Xu:D->Bool
 |.lst _=>true
 |.tup _=>true
 |.mB _ _=>true
 |_=>false
def yB(d:D):Bool:=nk d&&d.py.showable&&decide (d.py.depth<=50)&&decide (d.py.shown.length<=sizeLine)
def nv:List D->Option RV
 |[.str x]=>if cd ((reprText x).length<=sizeLine) then some (.val θ6) else none
 |[.int i]=>if cd (i.natAbs.log2<1920) then some (.val εd) else none
 |[.bl b]=>some (.val (.str (if b then "True" else "False")))
 |[.aq]=>some (.val (.str "None"))
 |[d]=>if Xu d&&yB d then some (.val (.str d.py.shown)) else none
 |_=>none
def M0(xs:γv)(H:Hp)(Q:VK):Prop:=(∃(a:Addr) (d:PyData),xs=[.ref a]/\fb H γz d/\d.showable=true/\d.depth<=50/\d.shown.length<=sizeLine/\Q (.str d.shown) H) \/
 (∃i:Int,xs=[.int i]/\i.natAbs.log2<1920/\Q εd H) \/
 (∃x:Str,xs=[.str x]/\(reprText x).length<=sizeLine/\Q θ6 H) \/
 (∃b:Bool,xs=[.bl b]/\Q (.str (if b then "True" else "False")) H)\/(xs=[.aq]/\Q (.str "None") H)
omit [KC] in
def Cg{X:Cx}(hr:δ3)(sm:Gk X.K):aM X (.builtin "repr") M0:=(Xs hr sm).or (kj.or (km.or (ko.or Xt)))
def Ci:nc M0 nv:=by
 intro R H xs ds rv Q s px hg q;unfold nv at hg;split at hg
 .rename_i x;split at hg
  .rename_i c;cases hg;obtain⟨x,rfl,p⟩:=px.one;have e:=p.str;subst e;exact .inr (.inr (.inl ⟨_,rfl,lL c,q _ H R γf ηj⟩))
  .cases hg
 .rename_i i;split at hg
  .rename_i c;cases hg;obtain⟨x,rfl,p⟩:=px.one;have e:=p.int;subst e;exact .inr (.inl ⟨_,rfl,lL c,q _ H R γf ηj⟩)
  .cases hg
 .rename_i b;cases hg;obtain⟨x,rfl,p⟩:=px.one;have e:=p.bl;subst e;exact .inr (.inr (.inr (.inl ⟨_,rfl,q _ H R γf ηj⟩)))
 .cases hg;obtain⟨x,rfl,p⟩:=px.one;have hv:=p.hv s;cases hv;exact .inr (.inr (.inr (.inr ⟨rfl,q _ H R γf ηj⟩)))
 .rename_i d _ _ _ _;obtain⟨x,rfl,p⟩:=px.one;split at hg
  .rename_i c;cases hg;rw[qa1]at c;obtain⟨c1,c0⟩:=c;unfold yB at c0;simp only[Bool.and_eq_true,decide_eq_true_eq]at c0;obtain⟨⟨⟨c2,c3⟩,c5⟩,c6⟩:=c0;have hv:=p.hv s;have D:=hv.Gm c2;have:∃a,x=.ref a:=by cases hv<;>first|exact⟨_,rfl⟩|cases c1
   obtain⟨a,rfl⟩:=this;exact .inl ⟨a,d.py,rfl,D,c3,c5,c6,q _ H R γf ηj⟩
  .cases hg
 .cases hg
end Dv
namespace L2
open PySem PySem.Spec PyProof.Rows Ex
noncomputable abbrev two(el tg src:Expr)(ifs:zza)(Xv Gn:Expr)(Gq:zza)(sc:Scope)(pos:Pos):Expr:=.ListComp el [⟨tg,src,ifs,0⟩,⟨Xv,Gn,Gq,0⟩] sc pos
end L2
namespace Dv
open PySem L2 Ex
variable[KC]
section
variable{X:Cx}{EE:br}{ios:zzd}{e e2:Expr}{f g:M RV}{p pos kp:Pos}
noncomputable def Cj(ds es:γe):Option (List D×D):=match es with
 |[.lst zs]=>if ds.length+zs.length<=sizeLine then some (ds++zs,.aq) else none
 |_=>none
def Xw:Bf Ke Cj:=by
 intro R H p xs ds ys es ds' res Q s hr hp hx hy hg q;unfold Cj at hg;split at hg
 .split at hg
  .rename_i c;cases hg;cases hy with
   |cons h1 h2 =>
     cases h2;cases h1 with
     |lst e hz=>exact⟨p,_,xs,_,rfl,rfl,hp,s _ _ e,by rw[hx.len,hz.len];exact c,q _ _ (hx.app hz) .aq⟩
  .cases hg
 .cases hg
end
end Dv
namespace Dv
open PySem L2 Ex
section
variable{Γ:En}{f:M RV}{p p1:δC}{m m1:D->M Unit}{items Gr:M γe}{fr:zzc}{own i1:Nat}{d:D}
@[simp] def M1{ds zs:γe}(h:ds.length+zs.length<=sizeLine):Cj ds [.lst zs]=some (ds++zs,.aq):=by show(if _ then _ else _)=_;rw[qaz h]
end
end Dv
namespace Dv
open PySem L2 Ex
variable[KC]
section
variable{X:Cx}{EE:br}{ios:zzd}{e a:Expr}{es:zza}{f:M RV}{fs:γg}{x:Str}{p p' pos pos':Pos}
def vn(i:Nat)(hN:X.N[i]?=some x:=by rfl)(hv:wR X.env.scope x:=by first|exact Or.inl rfl|exact Or.inr (Or.inl rfl)|exact Or.inr (Or.inr rfl))(hd:(x == ("__debug__":Str))=false:=by decide)(hcd:(x == ("__classdict__":Str))=false:=by decide):VE X EE ios εj (ZS i):=Us (Ji hN hv hd hcd)
def vS(i:Nat)(hN:X.N.Nodup)(he:γX)(hi:X.N[i]?=some x:=by rfl)(hx:δ4:=by exact dc rfl)(hs:swapsWith e ζJ pos.line X.env=pure false:=by rfl)(hf:X.fn x=true\/X.env.scope.names.lookup x=some .local:=by first|exact .inl rfl|exact .inr rfl|assumption):VS X EE ios (.Assign [.Name x pos'] e pos) (bu i f):=U2 hN hi hx he hs hf
def vB{id:String}{r:List V->Hp->VK->Prop}{g:List D->Option RV}(hc:aM X εB r)(hv:nc r g)(hm:X.mg x=none)(ha:VA X EE ios (e::es) fs)(hg:εX:=by rfl)(hb:bootBuiltins x=some εB:=by first|exact PySem.boot_len|decide +kernel)(hn:x≠"__name__":= by decide)(hdb:(x == ("__debug__":Str))=false:=by decide)
 (he:starEach (e::es) X.env=(false,eval e X.env)::starEach es X.env:=by rfl) (hpl:(backTo pos γl).any (·.1)=false:=by rfl):VE X EE ios (.Call δp (e::es) [] pos) (cD g fs):=qm (λ_ h=>tO hc hg hm hb h hn hdb he hpl) hv ha
def vI(kit:KitX L T)(hm:X.mg "isinstance" = none)(hy:X.mg y=some (.ref εy))(ha:γo)(hg:Gl X "isinstance":= by rfl)(hg':Gl X y:=by rfl)(hd:(y == ("__debug__":Str))=false:=by decide)(hK:X.K=KC.K:=by rfl)
 (h1:starEach [a,.Name y p'] X.env=(false,eval a X.env)::starEach [.Name y p'] X.env:=by rfl) (h2:starEach [.Name y p'] X.env=(false,eval (.Name y p') X.env)::starEach [] X.env:=by rfl) (hpl:(backTo pos (starEach [.Name y p'] X.env)).any (·.1)=false:=by rfl):VE X EE ios (.Call (.Name "isinstance" p) [a,.Name y p'] [] pos) (FO L T f):=
 V_ kit (λ_ h=>tO Ky hg hm (by decide +kernel) (jR h (jR (tI (v:=.ref εy) hg' hy rfl hd) qc h2) h1) ξ ξ h1 hpl) ha hK
def vT(T:Ty)(hm:X.mg "isinstance" = none)(hy:X.mg y=none)(ha:γo)(hT:bootBuiltins y=some (.type T.nm):=by decide +kernel)(hg:Gl X "isinstance":= by rfl)(hg':Gl X y:=by rfl)(hn:y≠"__name__":= by decide)(hd:(y == ("__debug__":Str))=false:=by decide)
 (h1:starEach [a,.Name y p'] X.env=(false,eval a X.env)::starEach [.Name y p'] X.env:=by rfl) (h2:starEach [.Name y p'] X.env=(false,eval (.Name y p') X.env)::starEach [] X.env:=by rfl) (hpl:(backTo pos (starEach [.Name y p'] X.env)).any (·.1)=false:=by rfl):VE X EE ios (.Call (.Name "isinstance" p) [a,.Name y p'] [] pos) (sv T f):=
 UX (λ_ h=>tO Ky hg hm (by decide +kernel) (jR h (jR (DO (v:=.ty T.nm) hg' hy hT rfl hn hd) qc h2) h1) ξ ξ h1 hpl) ha
def Ck(h:1<own:=by decide):qg own (wX K 2 (tJ (nN 0) (tJ (nN 1) wW))):=T5 (KH ω (KH h T4))
def ny{own:Nat}{K:zze}(i j:Nat)(h:i<own:=by decide)(h':j<own:=by decide):mG ios own (wX K 2 (tJ (nN i) (tJ (nN j) wW))) (gT 2 (bD (gN i) (bD (gN j) fk))):=U4 (Lg (mH h) (Lg (mH h') U3))
def Cm(h:1<own:=by decide):qT own γi:=Vc (Lo (vt ω) (Lo (vt h) Vb))
end
def ie{p:v4->Prop}(h:∀a,p [a])(us:v4)(e:us.length=1):p us:=by rcases us with _|⟨a,_|_⟩<;>simp at e;exact h a
def sN{p:v4->Prop}(h:∀a b,p [a,b])(us:v4)(e:us.length=2):p us:=by rcases us with _|⟨a,us⟩<;>simp at e;exact ie (p:=λus=>p (a::us)) (h a) us e
def yC{p:v4->Prop}(h:∀a b c,p [a,b,c])(us:v4)(e:us.length=3):p us:=by rcases us with _|⟨a,us⟩<;>simp at e;exact sN (p:=λus=>p (a::us)) (h a) us e
def M3{p:v4->Prop}(h:∀a b c d,p [a,b,c,d])(us:v4)(e:us.length=4):p us:=by rcases us with _|⟨a,us⟩<;>simp at e;exact yC (p:=λus=>p (a::us)) (h a) us e
def fu{N ps:v6}{sc:Scope}(a:sc.kind=.function:=by rfl)(b:sc.isCoroutine=false:=by rfl)(c:sc.isGenerator=false:=by rfl)(d:N.Nodup:=by decide +kernel)(e:N.take ps.length=ps:=by rfl)(f:∀x∈ps,sc.names.lookup x=some .local\/sc.names.lookup x=some .cell:=by decide +kernel)(g:∀y∈sc.names,y.2≠.free:=by decide +kernel):ah N ps sc:=⟨a,b,c,d,e,f,g⟩
end Dv
namespace Dv
open PySem L2 Ex
variable[KC]{X:Cx}{EE:br}{ios:zzd}{tg iter:Expr}{sts:δK}{s:M Fl}{pos:Pos}
def vF(hi:δY)(hr:mG ios n gt m)(hb:ηI)(hp:PassesOwn ζ X.A X.env X.xe)(hg:PG X tg gt)(hc:X.calm=true:=by rfl)
 (hs:∀x,foldedSetIterable iter X.env x=pure x:=by intro _;rfl):VS X EE ios (.For tg iter sts [] pos) (forM items m s):=
 U9 hi hr hb λ_ _ h1 h2=>RC hp hc h1 hg h2 (hs:=hs)
end Dv
namespace Dv
open PySem L2 Ex
section
variable[KC]{X:Cx}{EE:br}{ios:zzd}{iter elt:Expr}{ifs:zza}{p:δC}{f:M RV}{pos px:Pos}{scope:Scope}{fr:zzc}{x:Str}{items:M γe}
noncomputable def vQ(N:v6)(x:Str)(fr:zzc):v6:=x::fr.map λj=>N.getD j x
def sO(hi:VI X EE ios (.Name x px) iter items)(ht:∀{cl C s3 H3 fp pn'},vw ηB EN ios ifs p)(he:∀{cl C s3 H3 fp pn'},VE ηB EN ios elt f)
 (hb:(E_ X.env.scope scope X.N (vQ X.N x fr) 1 fr&&decide (vQ X.N x fr).Nodup&&decide fr.Nodup&&X.calm)=true:=by kernel_rfl)
 (hl:∀{cl C s3 H3 fp pn'},Gj (ni X (vQ X.N x fr) scope cl C s3 H3 fp pn').env.scope x=true/\(ni X (vQ X.N x fr) scope cl C s3 H3 fp pn').env.scope.names.lookup x=some .local:=by intros;exact⟨rfl,rfl⟩) (hs:∀x,foldedSetIterable iter X.env x=pure x:=by intro _;rfl):VE X EE ios (.ListComp elt [⟨.Name x px,iter,ifs,0⟩] scope pos) (jE items fr 1 ζh p f):=by simp only[Bool.and_eq_true,decide_eq_true_eq]at hb;obtain⟨⟨⟨h1,h2⟩,h4⟩,h5⟩:=hb;exact Br h5 (sF rfl rfl h1) h4 hi (AS ξ) (λ_ _ _ _ _ _=>dH (i:=0) h2 rfl (dc hl.1) (.inr hl.2)) (mH ξ) (vt ξ) (λ_ _ _ _ _ _=>ht) (λ_ _ _ _ _ _=>he) (hs:=hs)
end
end Dv
namespace L2
open PySem PySem.Spec PyProof.Rows Ex
section
variable{X:Cx}
def Xx:∀{ts:v6}{us:v4},Vals (ts.map V.str) us->∃l:List (Str×Tok),us=strValues l/\l.map (·.1)=ts:=by
 intro ts;induction ts with
 |nil=>intro us h;cases h;exact⟨[],rfl,rfl⟩
 |cons z r ih =>
   intro us h;cases h with
   |cons a b =>
     obtain⟨t,rfl⟩:=a;obtain⟨l,rfl,rfl⟩:=ih b;exact⟨(z,t)::l,rfl,rfl⟩
def rJoin(K:zze):V->List V->Hp->VK->Prop:=λx vs H Q=>∃z p ts,x=.str z/\vs=[.ref p]/\cJ K H p (ts.map V.str)/\JoinOk z ts=true/\Q (.str (Txt.join z ts)) H
def q_:tQ X "str.join" (rJoin X.K):=by intro pins s σ H x vs v us Q I rx rv h;obtain⟨z,p,ts,rfl,rfl,hq,ok,q⟩:=h;obtain⟨t,rfl⟩:=rx;obtain⟨u,rfl,ru⟩:=rv.one;cases ru;obtain⟨its,r,pl,hz⟩:=I.list hq;obtain⟨l,rfl,hl⟩:=Xx r;exact SC.join pl.isList hl ok λt' k=>⟨.str _,H,I.tok _,⟨t',rfl⟩,q⟩
end
end L2
namespace Dv
open PySem L2 Ex
variable[KC]
section
variable{X:Cx}{EE:br}{ios:zzd}{o:Expr}{es:zza}{fo:M RV}{fs:γg}
def uD(r:V->List V->Hp->VK->Prop)(g:Str->List D->Option RV):Prop:=∀R H x xs ds rv (Q:VK),ag R H->Pks R H xs ds->g x ds=some rv->(∀z H' R',Al R H R' H'->ja R' H H' z rv->Q z H')->r εA xs H Q
def uE:RV->M Str
 |.val (.str x)=>M.pure x
 |_=>M.st
def jg(g:Str->List D->Option RV)(fo:M RV)(fs:γg):M RV:=M.bind fo λrx=>M.bind (uE rx) λx=>M.bind fs λrvs=>M.bind ηh λds=>M.d9 (g x ds)
def kr{r:V->List V->Hp->VK->Prop}{g:Str->List D->Option RV}{e0:Expr}(hp:∀to t,PE X o to->PA X es t->PE X e0 (Ea X.K "str" r to t))(hv:uD r g)(ho:VE X EE ios o fo)(ha:δh):VE X EE ios e0 (jg g fo fs):=by
 obtain⟨to,k1,k2⟩:=ho;obtain⟨t,h1,h2⟩:=ha;refine⟨_,hp to t k1 h1,λσ H R Γ Q er w=>?_⟩;unfold jg at w;rw[aB]at w;refine k2 σ H R Γ _ er (aY w (λrx ao w x H1 R1 p1 hx=>?_) λ_ _ z=>z);rw[aB]at w;unfold uE at w;split at w
 .rename_i z;cases (show Rp R1 x ηN from hx);have w:=um w;rw[aB]at w;refine⟨rfl,h2 σ H1 R1 ao _ p1.er (aY w (λrvs aC w xs H2 R2 p2 hxs=>?_) λy Γ' z=>?_)⟩
  .rw[aB]at w;obtain⟨ds,pd,w⟩:=vh p2.er hxs w;obtain⟨rv,hg,w⟩:=ke w;exact hv R2 H2 z xs ds rv Q p2.er.sub pd hg λz H' R' al ra=>w z H' R' ((p1.trans p2).al al) (ra.rv ((p1.trans p2).back er))
  .exact gD.trans p1 z
 .exact False.elim w
noncomputable def n8:List D->Option (v6)
 |[]=>some []
 |.str x::r=>(n8 r).map (x :: ·)
 |_=>none
def Xy{R:Hp}:∀{ds:γe}{xs:γv}{ts:v6},n8 ds=some ts->aK R xs ds->xs=ts.map V.str:=by
 intro ds;induction ds with
 |nil=>intro xs ts h r;cases h;cases r;rfl
 |cons d r ih =>
   intro xs ts h q;cases q with
   |cons a b =>
     cases d with
     |str z =>
       cases a;cases e:n8 r with
       |none=>rw[show n8 (.str z::r)=(n8 r).map (z :: ·) from rfl,e]at h;cases h
       |some us=>rw[show n8 (.str z::r)=(n8 r).map (z :: ·) from rfl,e]at h;cases h;rw[ih e b];rfl
     |_=>cases h
def nA(x:Str):List D->Option RV
 |[.lst ds]=>(n8 ds).bind λts=>if JoinOk x ts=true then some (.val εo) else none
 |_=>none
def rg:uD (rJoin KC.K) nA:=by
 intro R H x xs ds rv Q s px hg q;unfold nA at hg;split at hg
 .rename_i ds;obtain⟨v,rfl,p⟩:=px.one;obtain⟨a,ys,rfl,h1,h2⟩:=p.lst s;cases e:n8 ds with
  |none=>rw[e]at hg;cases hg
  |some ts =>
    rw[e]at hg;have hg:(if JoinOk x ts=true then some (RV.val εo) else none)=some rv:=hg;split at hg
    .rename_i ok;cases hg;cases Xy e h2;exact⟨x,a,ts,rfl,rfl,cJ.of h1,ok,q _ H R γf ηj⟩
    .cases hg
 .cases hg
def sP:List D->Option RV
 |[.int i]=>if cd (i.natAbs.log2<1920) then some (.val εd) else none
 |_=>none
def Co:nc (λxs H Q=>∃i,xs=[.int i]/\i.natAbs.log2<1920/\Q εd H) sP:=by
 intro R H xs ds rv Q s px hg q;unfold sP at hg;split at hg
 .rename_i i;split at hg
  .rename_i c;cases hg;obtain⟨x,rfl,p⟩:=px.one;have e:=p.int;subst e;exact⟨_,rfl,lL c,q _ H R γf ηj⟩
  .cases hg
 .cases hg
end
end Dv
namespace L2
open PySem PySem.Spec PyProof.Rows Ex
section
variable{X:Cx}
def M4:∀l:List (Str×Tok),Vals ((l.map (·.1)).map V.str) (strValues l):=by
 intro l;induction l with
 |nil=>exact .nil
 |cons p r ih=>exact .cons ⟨p.2,rfl⟩ ih
def M5:V->List V->Hp->VK->Prop:=λx vs H Q=>∃z y,x=.str z/\vs=[.str y]/\(y.length == 0)=false/\z.length<=sizeLine/\(Txt.split z y).length<=sizeLine/\∀p,H p=none->Q γO (upd H p (.lst ((Txt.split z y).map V.str)))
def Cp:tQ X "str.split" M5:=by
 intro pins s σ H x vs v us Q I rx rv h;obtain⟨z,y,rfl,rfl,hy,hz,hl,q⟩:=h;obtain⟨t,rfl⟩:=rx;obtain⟨w,rfl,rw⟩:=rv.one;obtain⟨u,rfl⟩:=rw
 have fin:∀(l:List (Str×Tok)) (k:Nat),l.map (·.1)=Txt.split z y->EP X pins σ Q γd {s with heap:=s.heap.push {cls:=.type "list",data:=.seq (strValues l).toArray},toks:=k}:=λl k e=>by have r:=M4 l;rw[e]at r;exact⟨.ref _,_,I.qI (t':=k) r (by rw[qag];exact hl),rfl,q _ I.fresh⟩
 have call:=λ{S:PySem.Spec} (m:Meets (Builtin.«str.split» ⟨[.str z t,.str y u],[]⟩) S) h=>call_meets (prog:=X.prog) (w:=X.w) (A:=X.A) (E:=X.xe) (Q:=EP X pins σ Q) (s:=s) F.slot_str_split ιa F.entry_str_split (F.args_str_split_2 _ _) m h;cases c1:(decide (z.length<y.length) || decide (Builtin.Str.strKind z<Builtin.Str.strKind y)) with
 |true=>exact call (meets_str_split_cannot_occur z y t u c1) (fin [(z,t)] s.toks (by unfold Txt.split;rw[if_pos c1];rfl))
 |false =>
   cases c2:(Builtin.Str.occurrences z y 0 z.length (z.length+1)).isEmpty with
   |true=>exact call (meets_str_split_not_found z y t u c1 hy c2) (fin [(z,t)] s.toks (by unfold Txt.split;rw[if_neg (by rw[c1];decide),if_pos c2];rfl))
   |false =>
     have e:Txt.split z y=Builtin.Str.partsBetween z (Builtin.Str.occurrences z y 0 z.length (z.length+1)) y.length:=by unfold Txt.split;rw[if_neg (by rw[c1];decide),if_neg (by rw[c2];decide)]
     refine call (meets_str_split_sep z y t u c1 hy c2 hz (by rw[<-e];exact hl)) ?_;have f:=fin (numbered s.toks (Txt.split z y)) (s.toks+(Txt.split z y).length) (numbered_texts _ _);rw[<-strsFrom_eq,e]at f;exact f
def M6:V->List V->Hp->VK->Prop:=λx vs H Q=>∃z y i r,x=.str z/\vs=[.str y]/\Builtin.Str.occurrences z y 0 z.length 1=i::r/\Q (.int (i:Nat)) H
def Xz:tQ X "str.index" M6:=by intro pins s σ H x vs v us Q I rx rv h;obtain⟨z,y,i,r,rfl,rfl,e,q⟩:=h;obtain⟨t,rfl⟩:=rx;obtain⟨w,rfl,rw⟩:=rv.one;obtain⟨u,rfl⟩:=rw;exact SC.index e ⟨.int i,H,I.tok _,⟨_,rfl⟩,q⟩
end
end L2
namespace Dv
open PySem L2 Ex
variable[KC]
def M7{R:Hp}:∀ts:v6,aK R (ts.map V.str) εk:=by
 intro ts;induction ts with
 |nil=>exact .nil
 |cons z r ih=>exact .cons ηN ih
def rh(z:Str):List D->Option RV
 |[.str y]=>if cd ((y.length == 0)=false/\z.length<=sizeLine/\(Txt.split z y).length<=sizeLine) then some (.new (.lst ((Txt.split z y).map D.str))) else none
 |_=>none
def Cq:uD M5 rh:=by
 intro R H x xs ds rv Q s px hg q;unfold rh at hg;split at hg
 .rename_i y;split at hg
  .rename_i c;cases hg;obtain⟨v,rfl,p⟩:=px.one;have e:=p.str;subst e;obtain⟨h1,h2,h3⟩:=lL c;refine⟨x,y,rfl,rfl,h1,h2,h3,λa ha=>?_⟩;obtain⟨al,rv⟩:=oX s ha (M7 (R:=R) (Txt.split x y));exact q _ _ _ al rv
  .cases hg
 .cases hg
noncomputable def vR(z:Str):List D->Option RV
 |[.str y]=>match Builtin.Str.occurrences z y 0 z.length 1 with
   |i::_=>some (.val (.int (i:Nat)))
   |[]=>none
 |_=>none
def XA:uD M6 vR:=by
 intro R H x xs ds rv Q s px hg q;unfold vR at hg;split at hg
 .rename_i y;obtain⟨v,rfl,p⟩:=px.one;have e:=p.str;subst e;cases o:Builtin.Str.occurrences x y 0 x.length 1 with
  |nil=>rw[o]at hg;cases hg
  |cons i r =>
    rw[o]at hg;cases hg;exact⟨x,y,i,r,rfl,rfl,o,q _ H R γf δI⟩
 .cases hg
end Dv
namespace L2
open PySem PySem.Spec PyProof.Rows Ex
noncomputable def lS(z y:Str):v6:=match Builtin.Str.occurrences z y 0 z.length 1 with
 |i::_=>[Builtin.Str.strSub z 0 i,y,Builtin.Str.strSub z (i+y.length) z.length]
 |[]=>[z,Str.empty,Str.empty]
section
variable{X:Cx}
def M8:V->List V->Hp->VK->Prop:=λx vs H Q=>∃z y,x=.str z/\vs=[.str y]/\(y.length == 0)=false/\z.length<=sizeLine/\∀p,H p=none->Q γO (upd H p (.tup ((lS z y).map V.str)))
def XD:tQ X "str.partition" M8:=by
 intro pins s σ H x vs v us Q I rx rv h;obtain⟨z,y,rfl,rfl,hy,hz,q⟩:=h;obtain⟨t,rfl⟩:=rx;obtain⟨w,rfl,rw⟩:=rv.one;obtain⟨u,rfl⟩:=rw
 have fin:∀(l:List (Str×Tok)) (k:Nat),l.map (·.1)=lS z y->EP X pins σ Q γd {s with heap:=s.heap.push {cls:=.type "tuple",data:=.seq (strValues l).toArray},toks:=k}:=λl k e=>by
  have r:=M4 l;rw[e]at r;have l3:(lS z y).length=3:=by unfold lS;split<;>rfl
  have ln:3<=sizeLine:=by decide
  refine⟨.ref s.heap.objs.size,upd H s.heap.objs.size (.tup ((lS z y).map V.str)),I.laid (t':=k) (λb u e=>qab _ e) γI ?_,rfl,q _ I.fresh⟩;exact⟨by rw[qag,l3];exact ln,_,r,⟨_,qar _ rfl,rfl,_,rfl⟩⟩
 refine call_meets (s:=s) F.slot_str_partition ιa F.entry_str_partition (F.args_str_partition_2 _ _) (meets_str_partition z y t u hy hz) ?_;cases o:Builtin.Str.occurrences z y 0 z.length 1 with
 |nil=>exact fin [(z,t),(Str.empty,s.toks),(Str.empty,s.toks)] _ (by unfold lS;rw[o];rfl)
 |cons i r=>exact fin [(Builtin.Str.strSub z 0 i,s.toks),(y,u),(Builtin.Str.strSub z (i+y.length) z.length,s.toks+1)] _ (by unfold lS;rw[o];rfl)
end
end L2
namespace Dv
open PySem L2 Ex
variable[KC]
def yD(z:Str):List D->Option RV
 |[.str y]=>if cd ((y.length == 0)=false/\z.length<=sizeLine) then some (.val (.tup ((lS z y).map D.str))) else none
 |_=>none
def XE:uD M8 yD:=by
 intro R H x xs ds rv Q s px hg q;unfold yD at hg;split at hg
 .rename_i y;split at hg
  .rename_i c;cases hg;obtain⟨v,rfl,p⟩:=px.one;have e:=p.str;subst e;obtain⟨h1,h2⟩:=lL c;refine⟨x,y,rfl,rfl,h1,h2,λa ha=>?_⟩;obtain⟨al,rv⟩:=EL s ha (M7 (R:=R) (lS x y));exact q _ _ _ al rv
  .cases hg
 .cases hg
end Dv
namespace L2
open PySem PySem.Spec PyProof.Rows Ex
section
variable{X:Cx}
def M9:V->zzf->zzf->Hp->VK->Prop:=λx lo hi H Q=>∃z,x=.str z/\z.length<=sizeLine/\Q (.str (Txt.slice z lo hi)) H
def part_of{v:Value}{o:zzf}(h:IsPart v o):∃l:Option (Int×Tok),v=partValue l/\l.map (·.1)=o:=by
 cases h with
 |none=>exact⟨none,rfl,rfl⟩
 |int i t=>exact⟨some (i,t),rfl,rfl⟩
def XF:oK X M9:=by intro pins s σ H x v vl vu lo hi sl Q I rx hs pl pu h;obtain⟨z,rfl,hz,q⟩:=h;obtain⟨t,rfl⟩:=rx;obtain⟨l,rfl,rfl⟩:=part_of pl;obtain⟨u,rfl,rfl⟩:=part_of pu;refine⟨"str",_,F.slot_str_getitem.lookup,typeIs_str _ _ _,wpAny_getItem_str_slice (l:=l) (u:=u) (st:=none) hs rfl ?_⟩;exact post_val_or_str ⟨qaJ (Txt.slice_le z _ _) hz,λt' k=>⟨.str (Txt.slice z (l.map (·.1)) (u.map (·.1))),H,I.tok _,⟨t',rfl⟩,q⟩⟩
end
end L2
namespace Dv
open PySem L2 Ex
variable[KC]
section
variable{X:Cx}{EE:br}{ios:zzd}{a:Expr}{f:M RV}{pos:Pos}
noncomputable def gG:D->zzf->zzf->Option RV
 |.str z,l,u=>if z.length<=sizeLine then some (.val (.str (Txt.slice z l u))) else none
 |_,_,_=>none
def XG:ET gG M9:=by
 intro R H x d l u rv Q s pd hg w;cases d with
 |str z =>
   have hg:(if z.length<=sizeLine then some (RV.val (.str (Txt.slice z l u))) else none)=some rv:=hg;split at hg
   .rename_i c;cases hg;have e:=pd.str;subst e;exact⟨z,rfl,c,w _ H R γf ηj⟩
   .cases hg
 |_=>cases hg
def ix{lo hi:Option Expr}{l u:M (zzf)}{p2:Pos}(ha:γo)(hl:VO X EE ios lo l)(hu:VO X EE ios hi u):VE X EE ios (.Subscript a ζm pos) (eM gG f l u):=by obtain⟨t1,h1,h2⟩:=ha;obtain⟨t2,h3,h4⟩:=hl;obtain⟨t3,h5,h6⟩:=hu;exact⟨_,JQ XF h1 h3 h5,Lc XG h2 h4 h6⟩
end
noncomputable def yE:D->D->Option RV
 |.str i,.str j=>some (.val (.bl (!(!(Builtin.Str.occurrences j i 0 j.length 1).isEmpty))))
 |_,_=>none
def M_:fF (λx y H Q=>∃i j,x=.str i/\y=.str j/\Q (.bl (!(!(Builtin.Str.occurrences j i 0 j.length 1).isEmpty))) H) yE:=by
 intro R H x y d e rv Q s px py hg q;cases d<;>cases e<;>first| (cases hg;done)|skip
 cases hg;have e1:=px.str;have e2:=py.str;subst e1 e2;exact⟨_,_,rfl,rfl,q _ H R γf ζB⟩
end Dv
namespace L2
open PySem PySem.Spec PyProof.Rows Ex
def Cr(x:Str):It:=⟨λi _=>i<x.cps.size,λi H v H'=>H'=H/\∃c,x.cps[i]?=some c/\v=.str ⟨#[c]⟩,λi _=>x.cps.size<=i⟩
theorem XH{P:Program}{w:World}{K:zze}{tg:Expr}(x:Str)(t:Tok)(it:Addr):Turn P w K tg (Cr x) [it] it (λi h=>h.IsStrIter it "str_ascii_iterator" x t i) where
 mem:=by simp
 obj:=λi h st b hb=>by
  have e:b=it:=by simpa using hb
  subst e;obtain⟨o,e,c,d⟩:=st;exact⟨o,e,λv z=>by rw[d]at z;cases z⟩
 keep:=λi h h' st k=>by obtain⟨o,e,c,d⟩:=st;exact⟨o,k it (by simp) o e,c,d⟩
 item:=by intro X hP hw hK hc i pins s σ H E I hf st hg;subst hP hw hK;have hg:i<x.cps.size:=hg;obtain⟨f0,f1,f2,f3,f4,f5⟩:=hf it (by simp);have hx:x.cps[i]?=some x.cps[i]:=qap hg;refine wpAny_pyNext_ascii_item st hx λh' st' sb=>?_;have I1:Inv X pins σ H {s with heap:=h',toks:=s.toks+1}:=I.turned (t':=s.toks+1) (λb o hb e=>(sb.2 b hb).trans e) f0 f1 f3 f4 f5;obtain⟨o,e,c,d⟩:=id st';exact⟨_,rfl,DR (s:={s with heap:=h',toks:=s.toks+1}) e c d ξ ⟨.str ⟨#[x.cps[i]]⟩,H,I1,⟨_,rfl⟩,⟨rfl,_,hx,rfl⟩,st',λb hb=>(hf b hb).1⟩⟩
 done:=by intro X hP hw hK hc i pins s σ H E I hf st hg;subst hP hw hK;have hg:x.cps.size<=i:=hg;obtain⟨f0,f1,f2,f3,f4,f5⟩:=hf it (by simp);exact wpAny_pyNext_ascii_end δ8 st (Array.getElem?_eq_none hg) λh' eb=>⟨rfl,I.turned (t':=s.toks) (λb o hb e=>eb b o hb e) f0 f1 f3 f4 f5⟩
 self:=λ_ _ _ _ _ st h=>wpAny_pyIter_striter_ascii st h
def XI(tl:TE):TI:=λσ H R=>tl σ H λx H1=>∃z,x=.str z/\z.cps.all (· < 128)=true/\R (Cr z) H1
def XJ{X:Cx}{tg l:Expr}{tl:TE}(hl:PE X l tl):PI X tg l (XI tl):=by
 intro pins s σ H R I h;refine aX (hl pins s σ H _ I h) λv s1 zq=>?_;obtain⟨x,H1,I1,r1,z,rfl,ha,q⟩:=zq;obtain⟨t,rfl⟩:=r1;refine wpAny_pyIter_ascii ha ?_;refine⟨s1.heap.objs.size,[s1.heap.objs.size],_,_,H1,rfl,I1.kept (t':=s1.toks) λb o e=>qab _ e,XH z t _,⟨_,qar _ rfl,rfl,rfl⟩,λb hb=>?_,q⟩;have e:b=s1.heap.objs.size:=by simpa using hb
 subst e;exact I1.oF γI ιm
end L2
namespace Dv
open PySem L2 Ex
variable[KC]
noncomputable def signs(z:Str):List D:=z.cps.toList.map λc=>D.str ⟨#[c]⟩
def XM{z:Str}{R:Hp}:xS (Cr z) R (signs z):=by
 intro i H R1 s1 s2;unfold signs;refine⟨λd hd=>?_,λh=>by simpa [Cr]using h⟩;rw[qaE]at hd;cases e:z.cps.toList[i]? with
 |none=>rw[e]at hd;cases hd
 |some c =>
   rw[e]at hd;cases hd;have hi:i<z.cps.size:=by have:=(qac.mp e).1;simpa using this
   refine⟨hi,?_⟩;rintro x H' ⟨rfl,c',hc,rfl⟩
   have:c'=c:=by rw[<-qaw,e]at hc;exact(qaH hc).symm
   subst this;exact⟨R1,Al.refl s2,.str _⟩
def yF(f:M RV):M γe:=M.bind f λrx=>M.bind (uE rx) λz=>if z.cps.all (· < 128)=true then M.pure (signs z) else M.st
def Na{X:Cx}{EE:br}{ios:zzd}{tg e:Expr}{f:M RV}(h:γX):VI X EE ios tg e (yF f):=by
 obtain⟨t,h1,h2⟩:=h;refine⟨_,XJ h1,λσ H R Γ Rk er w=>?_⟩;unfold yF at w;rw[aB]at w;refine h2 σ H R Γ _ er (aY w (λrx ao w x H1 R1 p1 hx=>?_) λ_ _ z=>z);rw[aB]at w;unfold uE at w;split at w
 .rename_i z;cases (show Rp R1 x ηN from hx);have w:=um w;split at w
  .rename_i c;exact⟨z,rfl,c,w _ H1 R1 p1 XM⟩
  .exact False.elim w
 .exact False.elim w
def Nb{X:Cx}{EE:br}{ios:zzd}{x z:Str}{pos:Pos}(h:∃t,X.mg x=some (.str z t))(hg:εX)(hd:(x == ("__debug__":Str))=false:=by decide):VE X EE ios εj (M.pure (.val ηN)):=
 let ⟨t,h⟩:=h;vd (tI (v:=.str z) hg h ⟨t,rfl⟩ hd) λ_=>.str z
section
variable{X:Cx}{EE:br}{ios:zzd}{e:Expr}{es:zza}{f:M RV}{g:Str->M Str}
def j0(acc:Str):M Str:=if acc.length<=sizeLine then M.pure acc else M.st
end
end Dv
namespace L2
open PySem PySem.Spec PyProof.Rows Ex
section
variable{X:Cx}
def XN{x:Str}{Dc:Addr}{body suite:δK}{yG:Stmt}{n:Str}{i:Nat}{p1 hpos pos}{tb:br->TS}{ts:TS}(hst:X.stack=X.env::X.outer/\X.env.frame=some X.env.locals)
 (hN:X.N.Nodup) (hi:X.N[i]?=some n) (hl:X.env.scope.names.lookup n=some .local) (hg:εX) (hmx:X.mg x=some (.ref Dc)) (hD:W.typeIn X.K (.ref Dc)=some (.type "type")) (hdb:(x == ("__debug__":Str))=false)
 (hb:∀E' pn' EE,XOk θg EE->PSs θg body (tb EE)) (hs:∀a,PSs (X.hand γz λ_ _=>False) (yG::suite) ts) :
 PS X (.Try body [.ExceptHandler (some (.Name x p1)) (some n) (yG::suite) hpos] [] [] pos) (KA X.K [.ref Dc] i tb ts):=by
 intro pins s σ H D I h;refine wpAny_Try_except ?_
 have fin:∀{f:Flow}{s1:Shared},SP X pins D f s1->(match f with|.next=>wpAny ζ X.A (execs [] X.env) (SP X pins D) X.xe s1|f=>SP X pins D f s1):=λ{f s1} hsp=>by cases f<;>first|exact hsp|exact wpAny_execs_nil hsp
 refine qa6 (hb _ (X.pn++pins) _ ?_ [] s σ H D (I.TN _) h) (λf s1 hsp=>fin ?_) λe s1 z=>z
 . -- what is wanted of exceptions
   intro j6 aE H' s' e C I' T q;obtain⟨ex,lo,tb',F,hT⟩:=T;have I1:Inv X pins aE H' s':=I'.xo;have hT1:∀T,tb'=some T->H' T=none/\X.s₀.heap.objs.size<=T/\∀p∈X.pn++pins,p.1≠T:=λT z=>⟨(hT T z).1,(hT T z).2.1,λp hp=>(hT T z).2.2 p (qa3 _ hp)⟩
   have Eo:∀T,tb'=some T->∃oT ts,s'.heap.get? T=some oT/\oT.data=.fields ts:=λT z=>by subst z;obtain⟨_,_,oT,ts,_,_,_,_,g1,g2,_⟩:=F;exact⟨oT,ts,g1,g2⟩
   obtain⟨dd,ex'⟩:=id ex;obtain⟨oe,vs,t0,he,hc,hdd,hd,h0,hsz,_⟩:=qf I1.hok ex';have hfr:X.A.frames=some (X.env::X.outer):=by rw[I1.ok.frames,hst.1]
   have hfl:s'.heap.FunFrames X.base (X.env::X.outer):=by rw[<-hst.1];exact I1.stack
   show wpAny ζ X.A (noteFrame εR X.env) _ X.xe s';refine Kt (L:=X.env.locals) hfr hfl hst.2 F (λoe' vs' a b=>by rw[he]at a;cases a;rw[hd]at b;cases b;exact hsz) λh' T' S hle FF=>?_;refine Ei (s:={s' with heap:=h'}) FF λh'' oth F2=>?_;have I2:Inv X pins aE H' {s' with heap:=h''}:=I1.landed ex hT1 Eo (by rw[hst.1];exact S) hle oth;obtain⟨a,C',ec,ea,hm,hk⟩:=q;cases ec;cases ea;obtain⟨oe2,vs2,t2,he2,hc2,_⟩:=qf I2.hok ex';refine wpAny_handleBy_cons (codeAny_handlers_test ?_) (by intro q;cases q);refine Calls.Name_function_global I2.ok.kind hg (Calls.loadGlobal_global (by rw[I2.ok.glob];exact I2.mod.glob.keeps I2.bk) hmx ?_) hdb;have LT:W.Looks ζ h'' (typeOf εR) γb:=hc2 ▸ (W.Looks.ld he2).andThen .now;refine TM (s:={s' with heap:=h''}) I2.cf LT hD hm ?_;apply codeAny_handlers_suite_as;refine Ei (s:={s' with heap:=h''}) F2 λh4 Gu F4=>?_
   have I4:Inv X pins aE H' {s' with heap:=h4}:=by
    refine I2.turned (t':=s'.toks) (λb o hb z=>(Gu b hb).trans z) (I1.hok.fresh hle) (Nat.ne_of_gt (qao I1.lt hle)) (.inr (qaJ I1.sz hle)) (λx c hx=>?_) λp hp=>?_
    .obtain⟨v,o,ho,_⟩:=I1.cell x c hx;exact qan (qao (qai ho) hle)
    .exact qan (qao (qai (I1.pin p hp).1) hle)
   refine u0 (s:={s' with heap:=h4}) I4 hN hi (.inl hl) (v:=.ref e) rfl (λs5 I5=>?_) (.inr hl);refine qa6 (PSs.qD (X:=X.hand εR _) (hs e) pins s5 _ _ _ (I5.TQ _ _) hk) (λf s6 hsp=>?_) λx s6 z=>z;show wpAny _ _ _ _ _ _;cases f with
   |next =>
     obtain⟨jP,H6,J,z⟩:=hsp;exact AO θR hN hi hl λs7 I7=>⟨_,_,I7,z⟩
   |brk =>
     obtain⟨jP,H6,J,z⟩:=hsp;exact AO θR hN hi hl λs7 I7=>⟨_,_,I7,z⟩
   |cont =>
     obtain⟨jP,H6,J,z⟩:=hsp;exact AO θR hN hi hl λs7 I7=>⟨_,_,I7,z⟩
   |ret u =>
     obtain⟨v,jP,H6,J,rv,z⟩:=hsp;exact AO θR hN hi hl λs7 I7=>⟨v,_,_,I7,rv,z⟩
 .cases f with
  |next=>obtain⟨jP,H6,J,z⟩:=hsp;exact⟨jP,H6,J.xo,z⟩
  |brk=>obtain⟨jP,H6,J,z⟩:=hsp;exact⟨jP,H6,J.xo,z⟩
  |cont=>obtain⟨jP,H6,J,z⟩:=hsp;exact⟨jP,H6,J.xo,z⟩
  |ret u=>obtain⟨v,jP,H6,J,rv,z⟩:=hsp;exact⟨v,jP,H6,J.xo,rv,z⟩
end
end L2
namespace Dv
open PySem L2 Ex
variable[KC]
def XO{X:Cx}{EE:br}{ios:zzd}{sts:δK}{s s':M Fl}{pos:Pos}{x:Str}{Dc:Addr}{i:Nat}{n:Str}{p1 hpos}{b0:Stmt}{suite:δK}{mt:Cn->Bool}(hN:X.N.Nodup)(hi:X.N[i]?=some n)(hl:X.env.scope.names.lookup n=some .local)(hg:εX)(hmx:X.mg x=some (.ref Dc))(hD:W.typeIn X.K (.ref Dc)=some (.type "type"))(hm:∀C,mt C=true->aV KC.K θ [.ref Dc]=some true)
 (hb:∀E' pn' sJ,XOk θg sJ->cC θg sJ ios sts s) (hs:∀a,cC (X.hand γz λ_ _=>False) EN ios (b0::suite) s') (hst:X.stack=X.env::X.outer/\X.env.frame=some X.env.locals:=by exact⟨rfl,rfl⟩) (hK:X.K=KC.K:=by rfl) (hdb:(x == ("__debug__":Str))=false:=by decide) :
 VS X EE ios (.Try sts [.ExceptHandler (some (.Name x p1)) (some n) (b0::suite) hpos] [] [] pos) (yi mt i s s'):=
 ⟨_,XN hst hN hi hl hg hmx hD hdb (λE' pn' sJ ok=>(hb E' pn' sJ ok).pss) (λa=>(hs a).pss),V8 (by rw[hK];exact hm) (λsJ σ H R Γ D er w=>⟨R,Γ,er,w⟩) λσ H R Γ D er w=>⟨R,Γ,er,w⟩⟩
end Dv
namespace L2
open PySem PySem.Spec PyProof.Rows Ex
section
variable{X:Cx}
def Gv(K:zze):R2:=λx y H Q=>∃l b xs zs,x=.ref l/\y=.ref b/\cJ K H l xs/\cJ K H b zs/\xs.length+zs.length<=sizeLine/\∀p,H p=none->Q γO (upd H p (.lst (xs++zs)))
def XQ:cK X ε9 (Gv X.K):=by
 intro pins s σ H x y v u Q I rx ry h;obtain⟨l,b,xs,zs,rfl,rfl,hx,hz,hs,q⟩:=h;cases rx;cases ry;obtain⟨its,r,⟨⟨cls,dd,data,sl⟩,n,ho,hc,_,hd⟩,_⟩:=I.list hx;obtain⟨its2,r2,⟨⟨cls2,dd2,data2,sl2⟩,n2,ho2,hc2,_,hd2⟩,_⟩:=I.list hz;cases hc;cases hd;cases hc2;cases hd2;have e1:=r.length;have e2:=r2.length;refine concat_meets (s:=s) ⟨_,ho,rfl⟩ ⟨_,ho2,rfl⟩ PySem.noFill_list_add PySem.seq_list_add F.slot_list_add F.entry_list_add (F.args_list_add_2 _ _) (list_addW l b its.toArray its2.toArray n n2 dd dd2 sl sl2 (by rw[qaQ,qaQ];omega)) ⟨ho,ho2,?_⟩;have ea:its.toArray++its2.toArray=(its++its2).toArray:=by simp
 rw[ea];exact⟨.ref _,_,I.qI (t':=s.toks) (r.append r2) (by rw[qam];omega),rfl,q _ I.fresh⟩
end
end L2
namespace Dv
open PySem L2 Ex
variable[KC]
def Cs(d e:D):Option RV:=match d,e with
 |.eZ ns,.lst ys=>if ns.length+ys.length<=sizeLine then some (.new (.lst (ns.map D.int++ys))) else none
 |_,_=>none
def XR:fF (Gv KC.K) Cs:=by
 intro R H x y d e rv Q s px py hg q;unfold Cs at hg;split at hg
 .split at hg
  .rename_i ns ys c;cases hg;obtain⟨b,zs,rfl,h3,h4⟩:=py.lst s;rcases px with px|⟨_,_,_,_,_,z,_⟩
   .cases px with
    |eZ h1 =>
      refine⟨_,b,_,zs,rfl,rfl,s.seq h1,cJ.of h3,by rw[qag,h4.len];exact c,λp hp=>?_⟩;obtain⟨al,rv⟩:=oX s hp ((aK.ints (R:=R) ns).app h4);exact q _ _ _ al rv
   .cases z
  .cases hg
 .cases hg
def XS{X:Cx}(hK:X.K=KC.K:=by rfl):cK X ε9 (Gv KC.K):=by rw[<-hK];exact XQ
omit [KC] in
@[simp] def Ct{ns:u8}{ys:γe}(h:ns.length+ys.length<=sizeLine):Cs (.eZ ns) εi=some (.new (.lst (ns.map D.int++ys))):=by show(if ns.length+ys.length<=sizeLine then some (RV.new (.lst (ns.map D.int++ys))) else none)=_;rw[qaz h]
end Dv
namespace L2
open PySem PySem.Spec PyProof.Rows Ex
section
variable{X:Cx}
def Nd:V->List V->Hp->VK->Prop:=λx vs H Q=>∃z y i,x=.str z/\vs=[.str y,.int i]/\Q (.int (Txt.find3 z y i)) H
def XU:tQ X "str.find" Nd:=by intro pins s σ H x vs v us Q I rx rv h;obtain⟨z,y,i,rfl,rfl,q⟩:=h;obtain⟨t,rfl⟩:=rx;obtain⟨w1,w2,rfl,r1,r2⟩:=Vals.two rv;obtain⟨u,rfl⟩:=r1;obtain⟨u',rfl⟩:=r2;exact call_meets (s:=s) F.slot_str_find ιa F.entry_str_find (F.args_str_find_3 _ _ _) (gives_str_find_from z y i t u u').meets (show(Made.int (Txt.find3 z y i)).post _ s from⟨.int _,H,I.tok _,⟨_,rfl⟩,q⟩)
def Nf:V->List V->Hp->VK->Prop:=λx vs H Q=>∃z y,x=.str z/\vs=[.str y]/\Q η5 H
def XW:tQ X "str.count" Nf:=by intro pins s σ H x vs v us Q I rx rv h;obtain⟨z,y,rfl,rfl,q⟩:=h;obtain⟨t,rfl⟩:=rx;obtain⟨w,rfl,rw⟩:=rv.one;obtain⟨u,rfl⟩:=rw;exact SC.count ⟨.int _,H,I.tok _,⟨_,rfl⟩,q⟩
def Ng:aM X (.type "int") (λxs H Q=>∃z n,xs=[.str z]/\intText? z=some n/\z.length<=640/\Q ηk H):=by intro pins s σ H xs us Q I r h;obtain⟨z,n,rfl,hn,hl,q⟩:=h;obtain⟨u,rfl,t,rfl⟩:=vals1 r;exact W.KIN.call_text hn hl ⟨.int n,H,I.tok _,⟨_,rfl⟩,q⟩
def Nh(K:zze):List V->Hp->VK->Prop:=λxs H Q=>∃x p c1 c2 c3 t b,xs=[x,.ref p]/\H p=some (.tup [.ref c1,.ref c2,.ref c3])/\xn K H x t/\W.kitAny K t [.ref c1,.ref c2,.ref c3]=some b/\Q ζc H
def XX:aM X (.builtin "isinstance") (Nh X.K):=by
 intro pins s σ H xs us Q I r h;obtain⟨x,p,c1,c2,c3,t,b,rfl,hp,ty,e,q⟩:=h;obtain⟨u,u2,rfl,rx,rc⟩:=Vals.two r;obtain rfl:u2=Value.ref p:=rc;obtain⟨_,its,rv,ht⟩:=(show aI X.prog X.w H s.heap p (.tup [.ref c1,.ref c2,.ref c3]) from I.hok p _ hp);cases rv with
 |cons r1 rv =>
   cases rv with
   |cons r2 rv =>
     cases rv with
     |cons r3 rv =>
       cases rv;cases r1;cases r2;cases r3;rcases ty with ty|⟨a,C,rfl,rfl,ea,c⟩
       .exact MP I rx ty ht e λtk=>⟨.bl b,H,I.tok _,rfl,q⟩
       .obtain rfl:u=Value.ref a:=rx;obtain⟨ob,g1,g2,n,g3⟩:=ht;obtain⟨oc,od,oda,osl⟩:=ob;dsimp only at g2 g3;subst g2 g3;exact W.kia_tup (Km c) I.cf (ea.inst I.hok) g1 e (λz=>nomatch z) λtk=>⟨.bl b,H,I.tok _,rfl,q⟩
end
end L2
namespace Dv
open PySem L2 Ex
variable[KC]
noncomputable def Cu(z:Str):List D->Option RV
 |[.str y,.int i]=>some (.val (.int (Txt.find3 z y i)))
 |_=>none
def XY:uD Nd Cu:=by
 intro R H x xs ds rv Q s px hg q;unfold Cu at hg;split at hg
 .rename_i y i;cases hg;cases px with
  |cons p1 px =>
    cases px with
    |cons p2 px =>
      cases px;have e1:=p1.str;have e2:=p2.int;subst e1 e2;exact⟨x,y,i,rfl,rfl,q _ H R γf δI⟩
 .cases hg
noncomputable def Cv(z:Str):List D->Option RV
 |[.str y]=>some (.val η5)
 |_=>none
def XZ:uD Nf Cv:=by
 intro R H x xs ds rv Q s px hg q;unfold Cv at hg;split at hg
 .rename_i y;cases hg;obtain⟨v,rfl,p⟩:=px.one;have e:=p.str;subst e;exact⟨x,y,rfl,rfl,q _ H R γf δI⟩
 .cases hg
noncomputable def yH:List D->Option RV
 |[.str z]=>if z.length<=640 then (intText? z).map λn=>.val ηk else none
 |_=>none
def Ni:nc (λxs H Q=>∃z n,xs=[.str z]/\intText? z=some n/\z.length<=640/\Q ηk H) yH:=by
 intro R H xs ds rv Q s px hg q;unfold yH at hg;split at hg
 .rename_i z;split at hg
  .rename_i c;cases e:intText? z with
   |none=>rw[e]at hg;cases hg
   |some n =>
     rw[e]at hg;cases hg;obtain⟨v,rfl,p⟩:=px.one;have e2:=p.str;subst e2;exact⟨z,n,rfl,e,c,q _ H R γf δI⟩
  .cases hg
 .cases hg
section
variable{X:Cx}{EE:br}{ios:zzd}{a:Expr}{f:M RV}
def yI(A B T:Cn)(C:Cn):Bool:=sub C A || sub C B || sub C T
def X8{L:ηe}{A B T:Cn}{e0:Expr}(k1:KitX L A)(k2:KitX L B)(k3:KitX L T)(hp:∀t,PE X a t->PE X e0 (rN (Nh X.K) (j7 t (j7 (D4 (j7 (tC (.ref θt)) (j7 (tC (.ref θs)) (j7 (tC (.ref εy)) oI)))) oI))))(ha:γo)(hK:X.K=KC.K:=by rfl):VE X EE ios e0 (uv L (yI A B T) f):=by
 obtain⟨t,h1,h2⟩:=ha;refine⟨_,hp t h1,λσ H R Γ Q er w=>?_⟩;unfold uv at w;rw[aB]at w;refine xI h2 er (aY w (λrx ao w x H1 R1 p1 hx=>?_) λ_ _ z=>z);rw[aB]at w;obtain⟨d,pd,w⟩:=m9 (H:=H) p1.er hx.rv w;have hv0:=pd.hv p1.er.sub;obtain⟨rv,hg,w⟩:=ke w;refine⟨by show 3<=sizeLine;decide +kernel,λq hq=>?_⟩;have al:Al R1 H1 R1 (upd H1 q (.tup [.ref θt,.ref θs,.ref εy])):=⟨λb o z=>by rw[bA (λe=>by rw[e,p1.er.sub.free hq]at z;cases z)];exact p1.er.sub b o z,ag.refl _,lG hq,λ_ _ _ h=>h⟩;have hv:=hv0.sm (H':=upd H1 q (.tup [.ref θt,.ref θs,.ref εy])) (lG hq);by_cases pl:plain d=true
 .have hg:rv=.val ζA:=by cases d<;>first| (cases pl;done)|exact(qaH hg).symm
  subst hg
  have ka:W.kitAny KC.K θT [.ref θt,.ref θs,.ref εy]=some false:=by simp only[W.kitAny,k1.no _ (BL pl),k2.no _ (BL pl),k3.no _ (BL pl)]
  exact⟨x,q,_,_,_,_,false,rfl,fS,.inl (hv.ty pl),by rw[hK];exact ka,w _ _ R1 θq ζB⟩
 .cases d with
  |ins C ns vs =>
    unfold yj at hg;dsimp only at hg;split at hg
    .rename_i hc;cases hg;obtain⟨a1,xc⟩:=k1.own C hc;have a2:=(k2.own C hc).1;have a3:=(k3.own C hc).1
     have ty:∃a,x=.ref a/\oQ (upd H1 q (.tup [.ref θt,.ref θs,.ref εy])) a θ:=by
      cases hv with
      |m8 q=>exact⟨_,rfl,false,.inl q⟩
      |exc q q' _=>exact⟨_,rfl,false,.inr ⟨_,_,q,q'⟩⟩
     obtain⟨a',rfl,ea⟩:=ty
     have ka:W.kitAny KC.K ηw [.ref θt,.ref θs,.ref εy]=some (yI A B T C):=by unfold yI;simp only[W.kitAny,a1,a2,a3];cases sub C A<;>cases sub C B<;>cases sub C T<;>rfl
     exact⟨.ref a',q,_,_,_,.ref θ,_,rfl,fS,.inr ⟨a',KC.cls C,rfl,rfl,ea,by rw[hK];exact xc⟩,by rw[hK];exact ka,w _ _ R1 θq ζB⟩
    .cases hg
  |eZ _=>cases hg
  |obj _ _ _=>cases hg
  |_=>exact absurd rfl pl
end
def X9{P:Program}{w:World}{mg:M2}{base:Heap}{x:Str}{st:Stmt}{k:Nat}{ps:v6}(A0:At mg x st)
 (bd:∀(kV doc pm:Value) (an:δa) (cdv ct:Value) (us:v4),us.length=ps.length->bindArgs γH ⟨us,[]⟩=pure εs):jY P w mg base x k ps (iT λ_=>none):=by obtain⟨f,fd,F,hm,hk⟩:=A0;exact⟨f,fd,⟨λvs H Q E ⟨_,_,_,_,z⟩=>z.elim,λA outer s H args us vs Q E hr he hb hv ⟨_,_,_,_,z⟩=>z.elim⟩,hm,hk,F.binds bd⟩
end Dv
namespace dW
open PySem L2 Ex Dv
abbrev kI(i:Int):M RV:=M.pure (.val γ1)
abbrev kS(x:Str):M RV:=M.pure (.val εA)
abbrev kB(b:Bool):M RV:=M.pure (.val ζc)
abbrev kN:M RV:=M.pure γ5
abbrev m0:M ιj:=M.pure []
abbrev mX:M Fl:=M.pure .nx
noncomputable def Gw:Nat:=100000
noncomputable def n9:List Cn:=[.NoPoints,.NoAsks,.NoText,.NoTree]
def Gx:Cn->Bool:=λC=>([.NoPoints,.NoAsks,.NoText,.NoTree]:List Cn).contains C
def Gy:M Fl:=
 (aA (bu 3 (op2 nU (op2 bZ γj ηr) (op2 aS ζZ δo))) (aA (bu 4 (op2 nU (op2 bZ γj δo) (op2 aS ζZ δo))) (aA (bu 5 (op2 bZ εN (op2 nU (op2 bZ γj (kI 2)) θ1))) (aA (BI 6 7 (ZY (cD xK (ZY δj εM)) (ZY (cD xJ (ZY δj εM)) m0))) (aA (bu 8 (aD (ZY (op2 aS (op2 aS ζL ζM) (eM gG ι (M.bind δj cM) γS)) (ZY (op2 aS (op2 aS ζL ζM) ηH) (ZY (op2 aS ζL ηH) m0))))) (aA (bu 8 (op2 aS (ZS 8) (aD (ZY (op2 aS (eM gG ι γS (M.bind (ZS 6) cM)) (eM gG ι ηi γS)) (ZY (op2 aS (op2 aS (eM gG ι γS ηi) (eM gG ι (M.bind (ZS 6) cM) ηi)) (eM gG ι ηi γS)) (ZY (op2 aS ι ζM) (ZY (op2 aS ζM ι) m0))))))) (bF (op2 bZ (ZS 8) (op2 nU (op2 bZ γj (kI 3)) (kI 7))))))))))
def uF:List D->Option Rt:=aP 3 ["_law_text","_law_d","_law_signs","_law_at","_law_to","_law_sign","_law_low","_law_high","_law_some"] Gy
def sQ:M Fl:=
 (aA (cu (orM (M.bind (op2 c_ ι (kS "")) aO) (orM (M.bind (op2 nS ζZ (kI 2)) aO) (M.bind (op2 gE (jE (yF ι) [] 1 ζh (M.bind (op2 yE ι (kS "0123456789")) aO) ι) ζv) aO))) (bF kN) mX) (aA (cu (orM (andM (M.bind (op2 c_ δk (kS "0")) aO) (M.bind (op2 gE ι (kS "0")) aO)) (M.bind (op2 nS (cD yH γr) (kI 30)) aO)) (bF kN) mX) (bF (cD yH γr))))
def lU:List D->Option Rt:=aP 1 ["_law_word"] sQ
def Cw:M Fl:=
 (aA (bu 1 (jE (jD (jg rh ι (ZY (kS " ") m0))) [] 1 ζh γn (cw lU γr))) (aA (cu (M.bind (op2 (A_ false) kN γj) aO) (bF kN) mX) (bF γj)))
def pj:List D->Option Rt:=aP 1 ["_law_row","_law_found"] Cw
def nB:M Fl:=
 (aA (cu (orM (M.bind (op2 kh ζM kN) aO) (orM (M.bind (op2 gE ζM (cD uw (ZY ζM m0))) aO) (orM (M.bind (op2 nS δj (kI 30)) aO) (M.bind (op2 nS (op2 aS θ1 (cD gO (ZY ζM m0))) (kI 200)) aO)))) (bF (d_ (ZY (kS "row") ζx))) mX) (aA (cu (andM (M.bind (op2 c_ ζM ζv) aO) (orM (M.bind (op2 c_ δj (kI 30)) aO) (M.bind (op2 c_ θ1 (kI 200)) aO))) (bF (d_ (ZY (kS "row") ζx))) mX) (bu 2 (op2 aS εN (jE (jD ζM) [3] 1 ζh γn (d_ θ2))))))
def yJ:M Fl:=
 (aA (bu 5 (cw pj εM)) (aA (cu (M.bind (op2 c_ θf (kS "-")) aO) (bu 5 ζv) mX) nB))
def Gz:M Fl:=
 (aA (bu 1 (jg rh ι (ZY (kS "\n") m0))) (aA (bu 2 ζv) (aA (forM (qS γG) θr yJ) (aA (cu (M.bind (op2 c_ ζM ζv) aO) (bF (d_ (ZY (kS "row") (ZY (cD gO γG) m0)))) mX) (bF (d_ (ZY (kS "told") γW)))))))
def yK:List D->Option Rt:=aP 1 ["_law_text","_law_rows","_law_found","_law_moment","_law_row","_law_keys_here"] Gz
def Cy(mK:List D->Option Rt):M Fl:=
 (aA (cu ηd (bF ζv) mX) (bF (op2 aS (op2 aS (cw mK (ZY ζW m0)) (aD (ZY δk m0))) (cw mK ζ9))))
def mK:Nat->(List D->Option Rt)
 |0=>λ_=>none
 |n+1=>aP 1 ["_law_tree_here"] (Cy (mK n))
def lT(dX:List D->Option Rt):M Fl:=
 (aA (bu 3 (cw dX (ZY ι (ZY (op2 aS εN δo) m0)))) (aA (cu (orM (M.bind (op2 kh δj kN) aO) (M.bind (op2 gE (eM gG ι (M.bind ηR cM) (M.bind (op2 aS ηR δo) cM)) (kS " ")) aO)) (bF kN) mX) (aA (bu 4 (cw dX (ZY ι (ZY (op2 aS ηR δo) m0)))) (aA (cu (orM (M.bind (op2 kh θf kN) aO) (M.bind (op2 gE (eM gG ι (M.bind (op2 bZ θf δo) cM) (M.bind (op2 aS (op2 bZ θf δo) δo) cM)) (kS ")")) aO)) (bF kN) mX) (bF (d_ (ZY (d_ (ZY ηp (ZY (op2 bZ δj ηr) (ZY (op2 bZ θf ηr) m0)))) (ZY (op2 aS (op2 bZ θf δo) δo) m0))))))))
def sR(dX:List D->Option Rt):M Fl:=
 (aA (cu (M.bind (op2 c_ δ6 (kS ".")) aO) ηU mX) (aA (bu 2 (jg Cu ι (ZY (kS " ") γG))) (aA (cu (orM (M.bind (op2 gE δ6 (kS "(")) aO) (orM (M.bind (op2 uh εN ηr) aO) (M.bind (op2 kh ηp kN) aO))) (bF kN) mX) (lT dX))))
def dX:Nat->(List D->Option Rt)
 |0=>λ_=>none
 |n+1=>aP 2 ["_law_text","_law_at","_law_end","_law_left","_law_right"] (sR (dX n))
def uG:M Fl:=
 (aA (bu 1 kN) (aA (cu (M.bind (op2 uh (jg Cv ι (ZY (kS "(") m0)) (kI 40)) aO) (bu 1 (cw (dX 48) (ZY ι δX))) mX) (aA (cu (orM ζ0 (M.bind (op2 uh (op2 bZ γj δo) ζZ) aO)) (bF (kS "none")) mX) (aA (bu 2 (cw (mK 48) (ZY (op2 bZ γj ηr) m0))) (aA (cu (M.bind (op2 gE εN (cD uw γW)) aO) (bF (kS "none")) mX) (bF (op2 bZ γj ηr)))))))
def n_:List D->Option Rt:=aP 1 ["_law_text","_law_found","_law_keys_here"] uG
def rj:M Fl:=
 (aA (cu (M.bind (op2 c_ ι ηr) aO) (aA (bu 2 (cw n_ γG)) (bF (op2 bZ (aD (ZY (d_ (ZY (kS "told") γW)) (ZY (d_ (ZY (kS "row") δX)) m0))) (cD xM (ZY (op2 c_ εN (kS "none")) m0))))) mX) (aA (cu (M.bind (op2 c_ ι δo) aO) (aA (bu 2 (cw pj γG)) (bF (op2 bZ (aD (ZY (d_ (ZY (kS "told") γW)) (ZY (d_ (ZY (kS "row") δX)) m0))) (cD xM (ZY (A5 (op2 kh εN kN) (op2 nS θ1 (kI 31))) m0))))) mX) (aA (cu (M.bind (op2 c_ γj (kS "")) aO) (bF (d_ (ZY (kS "told") (ZY ζv m0)))) mX) (bF (cw yK γG)))))
def lh:List D->Option Rt:=aP 2 ["_law_way","_law_text","_law_found"] rj
def GA:M Fl:=
 (bF (cD Bb (ZY (yv .Points "held" ι) m0)))
def yL:List D->Option Rt:=aP 1 ["self"] GA
def Cz:M Fl:=
 (bF (r6 (sv .int ι) (r6 (A4 (nR (M.bind (sv .bool ι) aO))) (ue EK EK ηr ι (kI 30)))))
def nC:List D->Option Rt:=aP 1 ["thing"] Cz
def CA:M Fl:=
 (aA (cu (M.bind (op2 yE εN (kS "0123456789")) aO) (bF kN) mX) (bu 1 (op2 aS (op2 qk (kI 10) γj) (jg vR (kS "0123456789") γW))))
def GB:M Fl:=
 (aA (cu (orM (M.bind (op2 c_ ι (kS "")) aO) (andM (M.bind (op2 c_ δk (kS "0")) aO) (M.bind (op2 gE ι (kS "0")) aO))) (bF kN) mX) (aA (bu 1 ηr) (aA (forM (yF ι) (gN 2) CA) (bF γj))))
def rn:List D->Option Rt:=aP 1 ["word","number","sign"] GB
def CB:M Fl:=
 (aA (bu 1 (jE (jD (jg rh ι (ZY (kS " ") m0))) [] 1 ζh γn (cw rn γr))) (bF (vf (B_ (M.bind (cD Bc (ZY (jE (jD γj) [] 1 ζh γn (cw nC γr)) m0)) aO)) γj kN)))
def sS:List D->Option Rt:=aP 1 ["row","keys"] CB
def GC:M Fl:=
 (cu (nR (M.bind (sv .str ι) aO)) (o8 .NoText ["row"] δX) mX)
def pB:List D->Option Rx:=fq 1 ["thing"] GC
def vU:M Fl:=
 (aA (jW (jX pB γr)) (aA (bu 1 (cw sS γr)) (aA (cu (orM ζ0 (M.bind (op2 nS (cD gO γG) (kI 31)) aO)) (o8 .NoText ["row"] δX) mX) (bF γj))))
def og:List D->Option Rx:=fq 1 ["text","asks"] vU
def GD:M Fl:=
 (bF (jE (jD (MJ (jD ι) [] 2 γi γn (d_ (ZY γj γr)))) [] 2 γi γn (d_ (ZY γj γr))))
def yM:List D->Option Rt:=aP 1 ["points"] GD
def GF:M Fl:=
 (bF (r6 (sv .tuple ι) (r6 (op2 c_ ζZ (kI 2)) (r6 (cw nC (ZY δk m0)) (cw nC (ZY ζW m0))))))
def sT:List D->Option Rt:=aP 1 ["thing"] GF
def GG:M Fl:=
 (cu (nR (M.bind (cw sT γW) aO)) M.st mX)
def GH:M Fl:=
 (aA (cu (orM (nR (M.bind (B9 ι) aO)) (M.bind (op2 nS ζZ (kI 200)) aO)) M.st mX) (forM (qS γr) (gT 2 δN) GG))
def yN:List D->Option Rt:=aP 1 ["thing","number","point"] GH
def CC:M Fl:=
 (cu ζ0 (bu 1 ζv) mX)
def CD:M Fl:=
 (jW (cw yN γG))
def CF:M RV:=
 (cw yM γG)
def sU:List D->Option Rx:=runN .Points "held" 1 ["points"] CC CD CF
def CG:M Fl:=
 (bu 3 (vf (M.bind (op2 c_ ι (kS "-")) aO) ζv (cw sS γr)))
def yO:M Fl:=
 (cu (orM (M.bind (op2 kh δj kN) aO) (M.bind (op2 gE δj (cD uw ζx)) aO)) (o8 .NoText ["row"] γG) mX)
def CH:M Fl:=
 (bu 4 (vf (M.bind (op2 c_ δj ζv) aO) δo ηr))
def yP:M Fl:=
 (aA (cu (orM (M.bind (op2 nS (op2 aS γj θf) (kI 30)) aO) (M.bind (op2 nS (op2 aS (op2 aS εN (cD gO ζx)) θf) (kI 200)) aO)) (o8 .NoText ["row"] γG) mX) (bF δj))
def yQ:M Fl:=
 (aA CG (aA yO (aA CH yP)))
def uH:List D->Option Rx:=fq 3 ["row","number","many","keys","lacking"] yQ
def uI:M Fl:=
 (jW (sx 2 Cj (ZY (jE (jD (jX uH (ZY θf (ZY δj (ZY θ1 m0))))) [3] 1 ζh γn (d_ θ2)) m0)))
def yR:M Fl:=
 (aA (jW (jX pB γr)) (aA (cu (M.bind (op2 c_ ι (kS "")) aO) (bF (uC sU (M.pure [.val .aq]))) mX) (aA (bu 1 (jg rh ι (ZY (kS "\n") m0))) (aA (bu 2 ζv) (aA (forM (qS γG) θr uI) (aA (cu (M.bind (op2 c_ (op2 bZ γj (op1 vj δo)) (kS "-")) aO) (o8 .NoText ["row"] (ZY (cD gO γG) m0)) mX) (bF (uC sU γW))))))))
def pC:List D->Option Rx:=fq 1 ["text","rows","points","moment","row"] yR
def CI:M Fl:=
 (cu (M.bind (op2 gE δ6 εN) aO) (o8 .NoText ["row"] δX) mX)
def pE:List D->Option Rx:=fq 3 ["text","place","sign"] CI
def pT(G:List D->Option Rx):M Fl:=
 (aA (bu 6 (op2 aS (op2 aS γj δo) (cD gO εM))) (aA (jW (jX pE (ZY ι (ZY (ZS 6) (ZY (kS " ") m0))))) (aA (uj (gT 2 (bD (gN 7) (bD (gN 6) fk))) (jX G (ZY ι (ZY θW (ZY εN (ZY ζM m0)))))) (aA (jW (jX pE (ZY ι (ZY (ZS 6) (ZY (kS " ") m0))))) (aA (uj (gT 2 (bD (gN 8) (bD (gN 6) fk))) (jX G (ZY ι (ZY θW (ZY ζM ζx))))) (aA (jW (jX pE (ZY ι (ZY (ZS 6) (ZY (kS ")") m0))))) (bF (d_ (ZY (d_ (ZY ζM (ZY (ZS 7) (ZY (ZS 8) m0)))) (ZY θW m0))))))))))
def pH:M Fl:=
 (cu (orM (M.bind (op2 kh ζM kN) aO) (nR (M.bind (ue uh uh εN ζM δj) aO))) (o8 .NoText ["row"] δX) mX)
def vV(eg:List D->Option Rx):M Fl:=
 (aA (cu (M.bind (op2 c_ δ6 (kS ".")) aO) ηU mX) (aA (jW (jX pE (ZY ι (ZY γj (ZY (kS "(") m0))))) (aA (bu 4 (op2 bZ (jg yD (eM gG ι γM γS) (ZY (kS " ") m0)) ηr)) (aA (bu 5 (cw rn εM)) (aA pH (pT eg))))))
def eg:Nat->(List D->Option Rx)
 |0=>λ_=>none
 |n+1=>fq 4 ["text","start","low","high","word","key","place","left","right"] (vV (eg n))
def vW:M Fl:=
 (aA (jW (jX pB γr)) (aA (uj (gT 2 δN) (jX (eg 48) (ZY ι (ZY ηr (ZY (op1 vj δo) (ZY (op2 aS (kI 30) δo) m0)))))) (aA (cu (M.bind (op2 gE εN ζZ) aO) (o8 .NoText ["row"] δX) mX) (bF γj))))
def oh:List D->Option Rx:=fq 1 ["text","tree","place"] vW
def vX:M Fl:=
 (aA (cu (M.bind (op2 kh εN kN) aO) (bF (d_ (ZY (kS "told") ζx))) mX) (aA (cu (orM (nR (M.bind (FO n9 .NoText εN) aO)) (M.bind (uv n9 (yI .NoAsks .NoPoints .NoTree) εN) aO)) (bF (kS "odd")) mX) (bF (d_ (ZY (kS "row") (ZY (BM n9 "row" εN) m0))))))
def yS:M Fl:=
 (aA (bu 2 kN) (aA (bu 3 kN) (aA (yi Gx 4 (cu (M.bind (op2 c_ ι ηr) aO) (bu 3 (jX oh γG)) (cu (M.bind (op2 c_ ι δo) aO) (bu 3 (jX og γG)) (bu 3 (yw .Points "points" yL (jX pC γG))))) (bu 2 θf)) vX)))
def lV:List D->Option Rt:=aP 2 ["_law_way","_law_text","_law_kept","_law_found","e"] yS
def CJ:M Fl:=
 (cu (M.bind (op2 gE (jE (sC (ZY (kI 3) m0)) [5] 1 ζh γn (cw lV θ2)) (op2 lQ (aD (ZY (d_ (ZY (kS "row") δX)) m0)) (kI 3))) aO) (bF (kB false)) mX)
def GI:M Fl:=
 (cu (M.bind (op2 gE (cD nv (ZY (cw lV (ZY θf ζx)) m0)) (cD nv (ZY (cw lh (ZY θf ζx)) m0))) aO) (bF (kB false)) mX)
def CK:M Fl:=
 (forM (sC (ZY (kI 3) m0)) (gN 4) GI)
def CL:M Fl:=
 (jW (sx 1 ui (ZY (jg nA (kS "\n") (ZY (op2 aS (op2 lQ (aD γr) (kI 6)) (aD γW)) m0)) m0)))
def GJ:M Fl:=
 (aA (bu 0 (jg nA (kS " ") (ZY (jE (sC (ZY (kI 31) m0)) [] 1 ζh γn (cD sP γr)) m0))) (aA (bu 1 (aD (ZY (jg nA (kS "\n") (ZY (op2 aS (op2 lQ (aD (ZY (kS "-") m0)) (kI 30)) (aD (ZY (kS "0") m0))) m0)) (ZY (jg nA (kS "\n") (ZY (op2 lQ (aD (ZY (kS "-") m0)) (kI 31)) m0)) (ZY (jg nA (kS "\n") (ZY (op2 aS (op2 lQ (aD (ZY (kS "-") m0)) (kI 31)) (aD (ZY (kS "0") m0))) m0)) m0))))) (aA (bu 1 (op2 aS γj (aD (ZY (kS "-") (ZY (kS "0\n-") (ZY (kS "0\n") m0)))))) (aA (forM (jD (aD (ZY (eM gG ι γS (M.bind (kI 34) cM)) (ZY θ9 γr)))) (gN 2) CL) (aA (bu 1 (op2 aS γj (aD (ZY (jg nA (kS "\n") (ZY (op2 aS (op2 lQ (aD γr) (kI 6)) (aD (ZY θ9 (ZY (kS "-") (ZY (kS "0") m0))))) m0)) (ZY ι (ZY (op2 aS ι (kS " 0")) (ZY (kS "00") (ZY (kS "31") m0)))))))) (aA (bu 1 (op2 aS γj (aD (ZY (kS "30") (ZY (kS " ") (ZY (kS ".") (ZY (kS "") (ZY (kS "(0 . .)") m0)))))))) (aA (forM (jD γj) (gN 3) CK) (aA (forM (jD (aD (ZY kN (ZY (kI 5) (ZY ζv (ZY (d_ (ZY (kS "0") m0)) (ZY (kB true) (ZY (M.pure (.val (.mB [] []))) (ZY (aD (ZY (kS "0") m0)) m0))))))))) (gN 5) CJ) (bF (kB true))))))))))
def yT:List D->Option Rt:=aP 0 ["_law_row","_law_texts","_law_last","_law_text","_law_way","_law_thing"] GJ
def turn:M Fl:=
 (cu (andM (M.bind θf aO) (M.bind (op2 nS δj ηr) aO)) (aA (jW (sx 6 ui (ZY (op2 nU δj (ZS 8)) m0))) (bu 3 (op2 A9 δj (ZS 8)))) (aA (bu 5 (op2 nU (op2 xG (op2 aS ζM (op2 qk (kI 104729) (op2 aS (ZS 7) δo))) (kI 2)) (kI 2147483587))) (jW (sx 6 ui (ZY (op2 nU (op2 A9 ζM (kI 16)) (ZS 8)) m0)))))
def GK:M Fl:=
 (aA (bu 3 (cD Ba γr)) (aA (bu 4 (op2 KZ δj (op2 xG (kI 10) (kI 18)))) (aA (bu 5 (op2 aS (op2 nU δj (kI 2147483647)) (op2 qk (kI 7919) γj))) (aA (bu 6 ζv) (aA (forM (qS γW) (gT 2 ζ8) turn) (bF (ZS 6)))))))
def yU:List D->Option Rt:=aP 3 ["_law_cell","_law_turn","_law_sizes","_law_number","_law_wide","_law_seed","_law_found","_law_k","_law_size"] GK
def CM:M Fl:=
 (aA (cu (M.bind (op2 c_ ι ζv) aO) (bF (kS "-")) mX) (bF (jg nA (kS " ") (ZY (jE (jD ι) [] 1 ζh γn (cD sP γr)) m0))))
def vY:List D->Option Rt:=aP 1 ["_law_row"] CM
def CN:M Fl:=
 (aA (bu 4 (cD uw (ZY (jE (jD ι) [3] 2 γi (M.bind (op2 c_ γj εN) aO) ι) m0))) (jW (sx 1 ui (ZY (cw vY εM) m0))))
def GL:M Fl:=
 (aA (bu 1 ζv) (aA (bu 2 (cD yf (ZY (op2 aS (jE (jD ι) [] 2 γi γn γj) (aD (ZY (op1 vj δo) m0))) m0))) (aA (forM (sC (ZY (op2 aS εN δo) m0)) (gN 3) CN) (bF (jg nA (kS "\n") γG)))))
def yV:List D->Option Rt:=aP 1 ["_law_spots","_law_rows","_law_last","_law_moment","_law_row"] GL
def vZ(lj:List D->Option Rt):M Fl:=
 (aA (cu ηd (bF (d_ (ZY γj (ZY kN (ZY kN m0))))) mX) (aA (cu (M.bind (op2 uh γj δk) aO) (bF (d_ (ZY δk (ZY (cw lj (ZY ζW γG)) ζ9)))) mX) (aA (cu (M.bind (op2 nS γj δk) aO) (bF (d_ (ZY δk (ZY ζW (ZY (cw lj (ZY (op2 bZ ι (kI 2)) γG)) m0))))) mX) (bF ι))))
def lj:Nat->(List D->Option Rt)
 |0=>λ_=>none
 |n+1=>aP 2 ["_law_tree_here","_law_key"] (vZ (lj n))
def GN:M Fl:=
 (bu 1 (cw (lj 48) (ZY γj γW)))
def GO:M Fl:=
 (aA (bu 1 kN) (aA (forM (jD ι) (gN 2) GN) (bF γj)))
def yW:List D->Option Rt:=aP 1 ["_law_digits_here","_law_tree_here","_law_digit"] GO
def CO(mL:List D->Option Rt):M Fl:=
 (aA (cu ηd (bF (kS ".")) mX) (aA (bu 1 (op2 aS (op2 aS (cw mL (ZY ζW m0)) (kS " ")) (cw mL ζ9))) (bF (op2 aS (op2 aS (op2 aS (op2 aS (kS "(") (cD sP (ZY δk m0))) (kS " ")) γj) (kS ")")))))
def mL:Nat->(List D->Option Rt)
 |0=>λ_=>none
 |n+1=>aP 1 ["_law_tree_here","_law_branches"] (CO (mL n))
def GP:M Fl:=
 (bu 3 (cw yU (ZY εN (ZY γj (ZY (op2 aS (op2 aS (aD (ZY (kI 8) (ZY (kI 12) (ZY (kI 12) (ZY (kI 6) m0))))) (op2 lQ (aD (ZY (kI 31) m0)) (kI 24))) (op2 lQ (aD (ZY (kI 400) (ZY (kI 400) (ZY (kI 30) (ZY (kI 7) m0))))) (kI 3))) m0)))))
def GQ:M Fl:=
 (bu 4 (jE (sC (ZY (op2 bZ δj (kI 2)) m0)) [3] 1 ζh γn γU))
def GR:M Fl:=
 (bu 5 (jg nA (kS " ") (ZY (jE (jD (eM qo δj (M.bind (kI 4) cM) (M.bind (op2 aS (kI 5) ηR) cM))) [] 1 ζh γn (cD sP γr)) m0)))
def GS:M Fl:=
 (bu 6 (aD (ZY (cw (mL 48) (ZY (cw yW (ZY (eM qo δj (M.bind (kI 4) cM) (M.bind (op2 aS (kI 4) (op2 bZ δj ηr)) cM)) m0)) m0)) (ZY ζM (ZY (cw yV εM) m0)))))
def Nj:M Fl:=
 (bu 9 (cw uF (ZY (ZS 8) (ZY (eM qo δj (M.bind (kI 28) cM) (M.bind (kI 32) cM)) (ZY (kS "0123456789 ().-\n;+ab\t") m0)))))
def Nk:M Fl:=
 (bu 10 (cw uF (ZY (ZS 8) (ZY (eM qo δj (M.bind (kI 32) cM) (M.bind (kI 36) cM)) (ZY (kS "0 1 3 (). -\n- ") m0)))))
def GU:M Fl:=
 (cu (M.bind (op2 gE (cD nv (ZY (cw lV (ZY (ZS 7) (ZY (ZS 11) m0))) m0)) (cD nv (ZY (cw lh (ZY (ZS 7) (ZY (ZS 11) m0))) m0))) aO) (bF (kB false)) mX)
def Nl:M Fl:=
 (forM (jD (aD (ZY (ZS 9) (ZY (ZS 8) (ZY (ZS 10) (ZY (cw uF (ZY (ZS 10) (ZY (eM qo δj (M.bind (kI 36) cM) γS) (ZY (kS "0123456789 ().-\n") m0)))) (ZY (ZS 8) m0))))))) (gN 11) GU)
def GV:M Fl:=
 (aA Nj (aA Nk Nl))
def lB:M Fl:=
 (aA GP (aA GQ (aA GR (aA GS (forM (qS (ZY (ZS 6) m0)) (gT 2 ζ8) GV)))))
def GW:M Fl:=
 (aA (forM (qS (ZY (eM qo (op2 Cs ι (aD (ZY δo m0))) γS (M.bind (kI 12) cM)) m0)) (gT 2 δN) lB) (bF (cw yT m0)))
def yX:List D->Option Rt:=aP 1 ["_law_script","_law_turn","_law_cell","_law_d","_law_spots","_law_asks","_law_goods","_law_way","_law_good","_law_one","_law_other","_law_text"] GW
end dW
namespace Tx
open PySem StrLaws Builtin.Str L2
noncomputable abbrev tl(z:Str):zzc:=z.cps.toList
noncomputable abbrev mk(l:zzc):Str:=⟨l.toArray⟩
noncomputable abbrev ch(c:Nat):Str:=⟨#[c]⟩
def ext{a b:Str}(h:tl a=tl b):a=b:=Str.ext' (Array.toList_inj.mp h)
def mM(a b:Str):tl (a++b)=tl a++tl b:=by show(a.cps++b.cps).toList=_;simp
def gn(a:Str):(tl a).length=a.length:=by simp[Str.length]
def yY(x y:Str):Txt.split x y≠[]:=by
 unfold Txt.split;split
 .nofun
 .split
  .nofun
  .rw[partsBetween_eq];obtain⟨p,r,e⟩:=partsFrom_ne x y.length 0 (occurrences x y 0 x.length (x.length+1));rw[e];nofun
theorem Nn{c:Nat}:∀{a b r s:zzc},c∉a->c∉b->a++c::r=b++c::s->a=b/\r=s
 |[],[],r,s,_,_,h=>⟨rfl,by simpa using h⟩
 |[],y::b,r,s,_,hb,h=>by simp at h;exact absurd (h.1 ▸ qaj ..) hb
 |x::a,[],r,s,ha,_,h=>by simp at h;exact absurd (h.1 ▸ qaj ..) ha
 |x::a,y::b,r,s,ha,hb,h=>by simp only[List.cons_append,List.cons.injEq]at h;obtain⟨e1,e2⟩:=Nn (λz=>ha (qaf _ z)) (λz=>hb (qaf _ z)) h.2;exact⟨by rw[h.1,e1],e2⟩
def v3{c:Nat}(p q:Str)(r:v6):tl (Str.join γ7 (p::q::r))=tl p++c::tl (Str.join γ7 (q::r)):=by show tl (p++ch c++Str.join γ7 (q::r))=_;rw[mM,mM,qaV];rfl
theorem Np{c:Nat}:∀{ps qs:v6},ps≠[]->qs≠[]->(∀p∈ps,c∉tl p)->(∀p∈qs,c∉tl p)->Str.join γ7 ps=Str.join γ7 qs->ps=qs
 |[],_,h,_,_,_,_=>absurd rfl h
 |_,[],_,h,_,_,_=>absurd rfl h
 |[p],[q],_,_,_,_,h=>by rw[show p=q from h]
 |[p],q::q'::r,_,_,hp,hq,h=>by have h:=congrArg tl h;rw[v3]at h;exact absurd (show c∈tl p from(show tl p=_ from h) ▸ qay _ (qaj ..)) (hp p (qaj ..))
 |p::p'::r,[q],_,_,hp,hq,h=>by have h:=congrArg tl h;rw[v3]at h;exact absurd (show c∈tl q from(show _=tl q from h) ▸ qay _ (qaj ..)) (hq q (qaj ..))
 |p::p'::r,q::q'::s,_,_,hp,hq,h=>by have h:=congrArg tl h;rw[v3,v3]at h;obtain⟨e1,e2⟩:=Nn (hp p (qaj ..)) (hq q (qaj ..)) h;rw[ext e1,Np (ps:=p'::r) (qs:=q'::s) nofun nofun (λx hx=>hp x δP) (λx hx=>hq x δP) (ext e2)]
def X_{c:Nat}{ps:v6}(h:ps≠[])(hf:∀p∈ps,c∉tl p):Txt.split (Txt.join γ7 ps) γ7=ps:=by have e:Txt.join γ7 ps=Str.join γ7 ps:=glued_eq_join _ _;rw[e];exact Np (yY _ _) h (split_free _ c) hf (join_split _ _)
def uJ(y:Str)(ps:v6):Txt.join y ps=Str.join y ps:=glued_eq_join _ _
def Yb{z:Str}{a:Nat}(h:a<=z.length):Txt.slice z (some (a:Int)) none=mk ((tl z).drop a):=by
 have e:=sliceText_from (x:=z) (i:=(a:Int)) ⟨ω,by rw[gn];omega⟩;refine Eq.trans (show _=sliceText z (some (a:Int)) none from ?_) (e.trans ?_)
 .rfl
 .rw[gn,qaX (by rw[qaR,gn];omega)];rfl
def Yc{z:Str}{c:Nat}{w r:zzc}(h:tl z=w++c::r)(hw:c∉w):∃u v,lS z γ7=[mk w,u,v]:=by
 unfold lS;have fa:At z γ7 z.length w.length:=(subAt_one z c w.length).mpr (by rw[show z.cps.toList=_ from h];simp);rcases occ_head z γ7 1 (qah 1) with ⟨_,hn⟩|⟨i,r',e,ha,hk⟩
 .exact absurd fa (hn _)
 .rw[e];have hi:z.cps.toList[i]?=some c:=(subAt_one z c i).mp ha
  have ei:i=w.length:=by
   rcases Nat.lt_trichotomy i w.length with q|q|q
   .rw[show z.cps.toList=_ from h,qaL q]at hi;exact absurd (qaB hi) hw
   .exact q
   .exact absurd fa (hk _ q)
  subst ei;refine⟨ch c,strSub z (w.length+(ch c).length) z.length,?_⟩;have:strSub z 0 w.length=mk w:=ext (by rw[show tl (strSub z 0 w.length)=_ from strSub_toList _ _ _,show z.cps.toList=_ from h];simp);rw[<-this]
end Tx
namespace Dv
open PySem L2 Ex
noncomputable def kt(i:Int):Str:=toString i
noncomputable def asc(z:Str):Bool:=z.cps.all (· < 128)
section
variable{Γ:En}{f g:M RV}{fs:γg}{x y:Str}
@[simp] def GY{o:Str->List D->Option RV}:jg o f fs Γ=M.bind f (λrx=>M.bind (uE rx) λx=>M.bind fs λrvs=>M.bind ηh λds=>M.d9 (o x ds)) Γ:=rfl
@[simp] def Nq:uE (.val εA) Γ=.ok x Γ:=rfl
@[simp] def GZ:yF f Γ=M.bind f (λrx=>M.bind (uE rx) λz=>if asc z=true then M.pure (signs z) else M.st) Γ:=rfl
@[simp] def Nr:c_ εA (.str y)=some (.val (.bl (decide (x=y)))):=rfl
@[simp] def Nt:gE εA (.str y)=some (.val (.bl (!decide (x=y)))):=rfl
@[simp] def G0(h:x.length+y.length<=sizeLine):aS εA (.str y)=some (.val (.str (x++y))):=by show(if x.length+y.length<=sizeLine then some (RV.val (.str (x++y))) else none)=_;rw[qaz h]
@[simp] def CP{l u:zzf}(h:x.length<=sizeLine):gG εA l u=some (.val (.str (Txt.slice x l u))):=by show(if x.length<=sizeLine then some (RV.val (.str (Txt.slice x l u))) else none)=_;rw[qaz h]
@[simp] def Yd(h:x.length<=sizeLine):gO [.str x]=some (.val (.int x.length)):=by show(if x.length<=sizeLine then some (RV.val (.int x.length)) else none)=_;rw[qaz h]
@[simp] def Nu{i:Int}(h:x.length<=sizeLine):bZ εA γ1=(L2.cn x.cps.toList i).map λc=>.val (.str ⟨#[c]⟩):=by show(if x.length<=sizeLine then (L2.cn x.cps.toList i).map λc=>RV.val (.str ⟨#[c]⟩) else none)=_;rw[qaz h]
@[simp] def Nv{i:Int}(h:i.natAbs.log2<1920):sP [.int i]=some (.val (.str (kt i))):=by show(if cd (i.natAbs.log2<1920) then some (RV.val (.str (kt i))) else none)=_;rw[iR h];rfl
@[simp] def yZ:lN (.val εA)=true:=rfl
def strs_map(ts:v6):n8 εk=some ts:=by
 induction ts with
 |nil=>rfl
 |cons z r ih=>show(n8 (r.map D.str)).map (z :: ·)=_;rw[ih];rfl
@[simp] def y_{ts:v6}(h:JoinOk x ts=true):nA x [.lst εk]=some (.val εo):=by show(n8 εk).bind (λts=>if JoinOk x ts=true then some (RV.val εo) else none)=_;rw[strs_map];show(if JoinOk x ts=true then some (RV.val εo) else none)=_;rw[qaz h]
def Nw(h1:(y.length == 0)=false)(h2:x.length<=sizeLine)(h3:(Txt.split x y).length<=sizeLine):rh x [.str y]=some (.new (.lst ((Txt.split x y).map D.str))):=by show(if cd ((y.length == 0)=false/\x.length<=sizeLine/\(Txt.split x y).length<=sizeLine) then some (RV.new (.lst ((Txt.split x y).map D.str))) else none)=_;rw[iR ⟨h1,h2,h3⟩];rfl
def Ye(h1:(y.length == 0)=false)(h2:x.length<=sizeLine):yD x [.str y]=some (.val (.tup ((lS x y).map D.str))):=by show(if cd ((y.length == 0)=false/\x.length<=sizeLine) then some (RV.val (.tup ((lS x y).map D.str))) else none)=_;rw[iR ⟨h1,h2⟩];rfl
def uK{α:Type}{fr:zzc}{own:Nat}{m:D->M Unit}{p:δC}(g h:α->D){xs:δ5}{ds:γe}(hd:ds=xs.map g)(he:∀x∈xs,∃dI,sD m p f (g x) δW=.ok (some (h x)) dI/\a7 fr own Γ dI=Γ):fm fr own m p f ds Γ=.ok (xs.map h) Γ:=by
 subst hd;induction xs with
 |nil=>rfl
 |cons x r ih =>
   obtain⟨dI,h1,h2⟩:=he x (qaj ..);have ih:=ih λy hy=>he y (qaf _ hy);rw[qaP];unfold fm;rw[h1];simp only[h2,ih];rfl
end
end Dv
namespace Tx
open PySem L2 Ex Dv StrLaws
noncomputable def dg(n:Nat):zzc:=if n<10 then [n] else [n/10,n % 10]
def Nx:∀n:Nat,n<31->(dg n).foldl (λm a=>10*m+a) 0=n/\(dg n).length<=2/\(∀a∈dg n,a<10)/\kt (n:Int)≠"" /\ L2.cn (tl (kt (n:Int))) 0=some (48+(dg n).headD 0)/\(ch (48+(dg n).headD 0) = "0" -> kt (n:Int) = "0")/\(kt (n:Int)).length<=2/\1<=(kt (n:Int)).length/\asc (kt (n:Int))=true/\(∀c∈tl (kt (n:Int)),48<=c/\c<=57):=by decide +kernel
structure Key(i:Int):Prop where
 lo:0<=i
 hi:i<=30
def Key.nat{i:Int}(h:Key i):∃n:Nat,n<31/\i=n:=⟨i.toNat,by have:=h.hi;omega,by have:=h.lo;omega⟩
def kt_len{i:Int}(h:Key i):1<=(kt i).length/\(kt i).length<=2:=by obtain⟨n,hn,rfl⟩:=h.nat;obtain⟨_,_,_,_,_,_,h1,h2,_⟩:=Nx n hn;exact⟨h2,h1⟩
def CQ{i:Int}(h:Key i):∀c∈tl (kt i),48<=c/\c<=57:=by obtain⟨n,hn,rfl⟩:=h.nat;exact(Nx n hn).2.2.2.2.2.2.2.2.2
def G1{i:Int}{c:Nat}(h:Key i)(hc:c<48):c∉tl (kt i):=λz=>by have:=CQ h c z;omega
def Ny{i:Int}(h:Key i):i.natAbs.log2<1920:=by have h1:=h.lo;have h2:=h.hi;have:i.natAbs.log2<=i.natAbs:=Nat.log2_le_self _;omega
def Yg:∀a:Nat,a<10->Builtin.Str.occurrences ("0123456789":Str) (ch (48+a)) 0 ("0123456789":Str).length 1=[a]:=by decide +kernel
def Yh{a:Nat}(h:a<10):vR "0123456789" [.str (ch (48+a))]=some (.val (.int (a:Nat))):=by unfold vR;dsimp only;rw[Yg a h]
def nD:(" ":Str)=ch 32:=by decide +kernel
def Yi:("\n":Str)=ch 10:=by decide +kernel
noncomputable abbrev jn(y:Str)(ts:v6):Str:=Txt.join y ts
def za{y:Str}(hy:y.length=1):∀{ts:v6}{B:Nat},(∀t∈ts,t.length<=B)->(jn y ts).length<=ts.length*(B+1):=by intro ts B h;rw[jn,uJ];have:=join_length_le y ts;have s:=sumLen_le ts h;rw[hy]at this;rw[Nat.mul_add];omega
def Nz{y:Str}(hy:y.length=1){ts:v6}{B:Nat}(h:∀t∈ts,t.length<=B)(hB:ts.length*(B+1)<=16777216):JoinOk y ts=true:=by have:=joinFits (sep:=y) h (by rw[hy];rw[Nat.mul_add]at hB;omega);unfold JoinOk;rw[this];rfl
end Tx
namespace Tr
open PySem L2 Ex Dv
inductive T where
 |nil|node (k:Int) (l r:T)
 deriving DecidableEq
noncomputable def T.d:T->D
 |.nil=>.aq
 |.node k l r=>.tup [.int k,l.d,r.d]
noncomputable def T.ht:T->Nat
 |.nil=>0
 |.node _ l r=>max l.ht r.ht+1
noncomputable def T.size:T->Nat
 |.nil=>0
 |.node _ l r=>l.size+r.size+1
noncomputable def T.ino:T->u8
 |.nil=>[]
 |.node k l r=>l.ino++k::r.ino
noncomputable abbrev aR(ns:u8):D:=.lst εl
def line:20000<=sizeLine:=by decide
theorem v5:∀t:T,t.ino.length=t.size
 |.nil=>rfl
 |.node k l r=>by simp[T.ino,T.size,v5 l,v5 r];omega
theorem zb:∀t:T,t.ht<=t.size
 |.nil=>qah _
 |.node k l r=>by have:=zb l;have:=zb r;simp[T.ht,T.size];omega
noncomputable def T.B:Int->Int->T->Prop
 |_,_,.nil=>True
 |lo,hi,.node k l r=>(0<=k/\k<=30)/\(lo<k/\k<hi)/\T.B lo k l/\T.B k hi r
def Up:Int->Int->u8->Prop
 |_,_,[]=>True
 |lo,hi,k::r=>lo<k/\k<hi/\Up k hi r
theorem Up.lt:∀{ns:u8},Up lo hi ns->∀k∈ns,lo<k/\k<hi
 |[],_,k,h=>nomatch h
 |n::r,⟨h1,h2,h3⟩,k,hk=>by
   rcases qav.mp hk with rfl|hk
   .exact⟨h1,h2⟩
   .have:=Up.lt h3 k hk;omega
theorem NA:∀{ns ms:u8},Up lo hi (ns++k::ms) ↔ Up lo k ns/\lo<k/\k<hi/\Up k hi ms
 |[],ms=>by simp[Up]
 |n::r,ms=>by
   simp only[List.cons_append,Up];rw[NA (lo:=n)];constructor
   .rintro⟨a,b,c,d,e,f⟩;exact⟨⟨a,d,c⟩,ω,e,f⟩
   .rintro⟨⟨a,d,c⟩,_,e,f⟩;exact⟨a,ω,c,d,e,f⟩
theorem v7:∀(t:T) (lo hi:Int),t.B lo hi ↔ Up lo hi t.ino/\∀k∈t.ino,0<=k/\k<=30
 |.nil,_,_=>by simp[T.B,Up,T.ino]
 |.node k l r,lo,hi=>by
   simp only[T.B,T.ino,NA,v7 l,v7 r];constructor
   .rintro⟨a,⟨b,c⟩,⟨d,e⟩,f,g⟩;refine⟨⟨d,b,c,f⟩,λx hx=>?_⟩;rcases qaK.1 hx with hx|hx
    .exact e x hx
    .rcases qav.mp hx with rfl|hx
     .exact a
     .exact g x hx
   .rintro⟨⟨d,b,c,f⟩,h⟩;exact⟨h k (by simp),⟨b,c⟩,⟨d,λx hx=>h x (by simp[hx])⟩,f,λx hx=>h x (by simp[hx])⟩
theorem Up.len:∀{ns:u8},Up lo hi ns->lo<hi->(ns.length:Int)<hi-lo
 |[],_,h=>by simp;omega
 |n::r,⟨a,b,c⟩,_=>by have:=Up.len c b;simp;omega
def zc{t:T}(h:t.B (-1) 31):t.size<=31:=by have:=Up.len ((v7 t _ _).mp h).1 ω;rw[v5]at this;omega
theorem Up.pw:∀{ns:u8},Up lo hi ns->ns.Pairwise (· < ·)
 |[],_=>.nil
 |n::r,⟨a,b,c⟩=>List.pairwise_cons.mpr ⟨λk hk=>(Up.lt c k hk).1,Up.pw c⟩
theorem G2:∀{ns:u8},ns.Pairwise (· < ·)->(∀k∈ns,lo<k/\k<hi)->Up lo hi ns
 |[],_,_=>trivial
 |n::r,h,hb=>by obtain⟨h1,h2⟩:=List.pairwise_cons.1 h;exact⟨(hb n (by simp)).1,(hb n (by simp)).2,G2 h2 λk hk=>⟨h1 k hk,(hb k (by simp[hk])).2⟩⟩
theorem G3:∀t:T,t.d.py.canLay0=true
 |.nil=>rfl
 |.node k l r=>by simp[T.d,D.py,D.dR,PyData.canLay0,PyData.canLayAll0,G3 l,G3 r]
theorem CS:∀t:T,t.d.py.depth=t.ht
 |.nil=>rfl
 |.node k l r=>by simp[T.d,D.py,D.dR,PyData.depth,PyData.depthAll,CS l,CS r,T.ht]
theorem G4:∀t:T,t.d.py.bulk=3*t.size
 |.nil=>rfl
 |.node k l r=>by simp[T.d,D.py,D.dR,PyData.bulk,PyData.bulkAll,G4 l,G4 r,T.size];omega
def Yj:∀r:Nat,r<31->((PyData.int r).showable&&(PyData.int r).leavesShort 30)=true:=by decide +kernel
def NB(h:0<=k/\k<=30):(PyData.int k).showable=true/\(PyData.int k).leavesShort 30=true:=by have:=Yj k.toNat ω;rw[Int.toNat_of_nonneg h.1,qa1]at this;exact this
theorem G5:∀t:T,(∀k∈t.ino,0<=k/\k<=30)->t.d.py.showable=true/\t.d.py.leavesShort 30=true
 |.nil,_=>⟨rfl,by decide +kernel⟩
 |.node k l r,h=>by obtain⟨a,b⟩:=G5 l λx hx=>h x (by simp[T.ino,hx]);obtain⟨a',b'⟩:=G5 r λx hx=>h x (by simp[T.ino,hx]);obtain⟨c,c'⟩:=NB (h k (by simp[T.ino]));exact⟨by simp[T.d,D.py,D.dR,PyData.showable,PyData.showableAll,a,a'] ;simpa [PyData.showable]using c,by simp[T.d,D.py,D.dR,PyData.leavesShort,PyData.leavesShortAll,b,b'];simpa [PyData.leavesShort]using c'⟩
theorem NC{α:Type}(f:α->D):∀xs:List α,D.dR ιv=xs.map λx=>(f x).py
 |[]=>rfl
 |x::r=>by simp[D.dR,NC f r]
def Yk(h:∀d∈ds,d.canLay0=true):PyData.canLayAll0 ds=true:=by
 induction ds with
 |nil=>rfl
 |cons d r ih=>simp[PyData.canLayAll0,h d (by simp),ih λx hx=>h x (by simp[hx])]
def Yl(h:∀d∈ds,d.depth<=n):PyData.depthAll ds<=n:=by
 induction ds with
 |nil=>simp[PyData.depthAll]
 |cons d r ih=>have:=h d (by simp);have:=ih λx hx=>h x (by simp[hx]);simp[PyData.depthAll];omega
def Ym{t:T}(h:t.ht<=60):lK t.d=true:=by unfold lK SeqAt.shaped;rw[G3,CS,qaN ω];rfl
def CT(ns:u8):lK (aR ns)=true:=by
 unfold lK SeqAt.shaped;have e:(aR ns).py=.list (ns.map λt=>.int t):=by show PyData.list (D.dR εl)=_;rw[NC];rfl
 rw[e];have h1:PyData.canLayAll0 (ns.map λt=>.int t)=true:=Yk λd hd=>by obtain⟨t,_,rfl⟩:=qaF.mp hd;rfl
 have h2:PyData.depthAll (ns.map λt=>.int t)<=60:=Yl λd hd=>by obtain⟨t,ht,rfl⟩:=qaF.mp hd;simp[PyData.depth]
 simp[PyData.canLay0,PyData.depth,h1];omega
def ND(h:lK d=true):eqB d d=true:=SeqAt.eqv_refl _ (SeqAt.canLay_of_shaped h)
def G6(h:∀x,d≠.str x):c_ d e=r9 d e:=by
 unfold c_;split
 .exact absurd rfl (h _)
 .rfl
def G7(h:∀x,d≠.str x):gE d e=r_ d e:=by
 unfold gE;split
 .exact absurd rfl (h _)
 .rfl
def G8(h:lK d=true):c_ d d=some γy:=by
 unfold c_;split
 .simp
 .unfold r9;rw[h,ND h];rfl
def zhE(h:lK d=true):gE d d=some γs:=by
 unfold gE;split
 .simp
 .unfold r_;rw[h,ND h];rfl
def NF(ds:γe):eqB ζ4 (.lst [])=ds.isEmpty:=by
 cases ds with
 |nil=>rfl
 |cons d r=>simp[eqB,D.py,D.dR,PyData.eqv,PyData.eqvAll]
def zvV(ns:u8):jF εl=true:=by
 induction ns with
 |nil=>rfl
 |cons t r ih=>simp[jF,qW,ih]
@[simp] def ze:lN γ5=true:=rfl
end Tr
namespace Tr
def NG:∀{xs ys:u8},xs.Pairwise (· < ·)->ys.Pairwise (· < ·)->(∀x,x∈xs ↔ x∈ys)->xs=ys:=λh1 h2 h=>by have p:List.Perm _ _:=(List.perm_ext_iff_of_nodup (h1.imp λh=>Int.ne_of_lt h) (h2.imp λh=>Int.ne_of_lt h)).mpr h;exact List.Perm.eq_of_pairwise (le:=(· < ·)) (λa b _ _ x y=>absurd x ω) h1 h2 p
end Tr
namespace dW
open PySem L2 Ex Dv Tr Tx StrLaws
section
variable{Γ:En}{d:D}{i:Nat}{j:Int}
@[simp] def Yn:lM (.ok .nx Γ)=some γ5:=rfl
@[simp] def Yo:lM (.ok (.ret εz) Γ)=some εz:=rfl
@[simp] def Yp:lM (.ok (.ret ιq) Γ)=some ιq:=rfl
@[simp] theorem Yq:lM (.ok (.ret θu) Γ)=match Γ[i]? with
 |some (some (.own,d))=>some ιq
 |some (some (.ae,d))=>some εz
 |_=>none:=rfl
@[simp] def Yr:jV .int θm=true:=rfl
@[simp] def Ys:jV .bool θm=false:=rfl
@[simp] def Yt:jV .int .aq=false:=rfl
@[simp] def Yu{z:Str}:jV .str ηN=true:=rfl
@[simp] def Yv{xs:γe}:jV .tuple γK=true:=rfl
end
def eo{n:Nat}(h:n<=20000):n<=sizeLine:=qaJ h line
def v8{p:Prop}(h:¬p):cd p=false:=by cases q:cd p with|false=>rfl|true=>exact absurd (lL q) h
def Yw:cd True=true:=iR trivial
def G9(i:Int):nC [.int i]=some (.val (.bl (decide (0<=i)&&decide (i<=30)))):=by by_cases h:0<=i<;>by_cases h':i<=30<;>simp[nC,Cz,aP,gam,h,h']
def Yx:nC [.aq]=some γs:=by simp[nC,Cz,aP,gam]
noncomputable def isD(c:Nat):Bool:=decide (48<=c/\c<=57)
noncomputable def vl(n:Nat)(w:zzc):Nat:=w.foldl (λm c=>10*m+(c-48)) n
def nw(w:zzc):Option Nat:=if w=[]\/(w.head?=some 48/\w≠[48]) then none else if w.all isD then some (vl 0 w) else none
def kw(w:zzc):Option Nat:=(nw w).filter λn=>decide (n<=30)
noncomputable def oD:Option Nat->D
 |none=>.aq
 |some n=>.int n
def Yy:∀c:Nat,(c∈tl ("0123456789":Str)) ↔ isD c=true:=by intro c;rw[show tl ("0123456789":Str)=List.range' 48 10 by decide +kernel,List.mem_range'_1,isD,decide_eq_true_eq];omega
def G_(c:Nat):yE (.str γ7) (.str "0123456789")=some (.val (.bl (!isD c))):=by
 show some (RV.val (.bl (!(!(Builtin.Str.occurrences ("0123456789":Str) γ7 0 ("0123456789":Str).length 1).isEmpty))))=_;rw[found_one];have:=Yy c;cases h:isD c with
 |true=>rw[qaN (this.mpr h)]
 |false=>rw[qaY (λz=>by rw[this.mp z]at h;cases h)]
def Yz{c:Nat}(h:isD c=true):vR "0123456789" [.str γ7]=some (.val (.int ((c-48:Nat):Int))):=by
 have h:48<=c/\c<=57:=by simpa [isD]using h
 have:=Yh (a:=c-48) ω;rwa[show 48+(c-48)=c by omega]at this
theorem NH{x0:Sl}:∀(w:zzc) (n:Nat) (x2:Sl),∃y1 y2,iS (gN 2) CA (w.map λc=>D.str γ7) [x0,some (.ae,.int n),x2]=(if w.all isD then .ok .nx [x0,some (.ae,.int (vl n w:Nat)),y2] else .ok (.ret γ5) [x0,y1,y2])
 |[],n,x2=>⟨none,x2,rfl⟩
 |c::r,n,x2=>by
   rw[qaP,o7,qbC];cases h:isD c with
   |true =>
     obtain⟨y1,y2,ih⟩:=NH (x0:=x0) r (10*n+(c-48)) (some (.ae,.str γ7));refine⟨y1,y2,?_⟩;have m1:sj 10 (n:Int)=true:=BG ω;have n1:=G_ c;rw[h]at n1;rw[Bool.true_and,show vl n (c::r)=vl (10*n+(c-48)) r from rfl,<-ih];simp[CA,n1,Yz h,m1]
   |false =>
     refine⟨some (.ae,.int n),some (.ae,.str γ7),?_⟩;have n1:=G_ c;rw[h]at n1;simp[CA,n1]
def NI(z:Str):signs z=(tl z).map λc=>D.str γ7:=rfl
def NJ{z:Str}(h:tl z=[]):z = "":= ext (by rw[h];decide +kernel)
def NK{z:Str}{c:Nat}{r:zzc}(h:tl z=c::r):L2.cn ζH 0=some c:=by rw[h];simp[L2.cn,L2.oM]
def ch_eq{c d:Nat}:(ch c=ch d) ↔ c=d:=⟨λh=>by have:=congrArg tl h;simpa using this,λh=>by rw[h]⟩
def s0:("0":Str)=ch 48:=by decide +kernel
def number_eq{z:Str}(ha:asc z=true)(hl:z.length<=3000):rn [.str z]=some (.val (oD (nw ζH))):=by
 have ln:=line;have l1:z.length<=sizeLine:=by omega
 unfold rn;unfold GB;cases hz:tl z with
 |nil =>
   have:=NJ hz;subst this;simp[aP,gam,nw,oD]
 |cons c r =>
   have z1:(z = "")=False:=qbW λe=>by rw[e,show tl ("":Str)=[] by decide +kernel]at hz;cases hz
   have a0:=NK hz;have a0':(⟨#[c]⟩:Str)=ch c:=rfl;have c1:(ch c = "0")=(c=48):=by rw[s0,ch_eq]
   have c2:(z = "0")=(c::r=[48]):=by rw[<-hz,s0];exact propext ⟨λe=>by rw[e],λe=>ext e⟩
   obtain⟨y1,y2,hlp⟩:=NH (x0:=some (.ae,.str z)) (c::r) 0 none;rw[<-hz,<-NI,show((0:Nat):Int)=0 from rfl,hz]at hlp;by_cases q:c=48/\c::r≠[48]
   .have e:nw (c::r)=none:=by unfold nw;rw[if_pos (.inr ⟨by rw[q.1];rfl,q.2⟩)]
    rw[e];have q1:=eq_true q.1;have q2:=qbW q.2;simp[-List.cons.injEq,aP,gam,z1,l1,a0,c1,c2,q1,q2,oD]
   .have e:nw (c::r)=if (c::r).all isD then some (vl 0 (c::r)) else none:=by
     unfold nw;rw[qax];rintro(z|⟨z1,z2⟩)
     .cases z
     .exact q ⟨by simpa using z1,z2⟩
    rw[e]
    have q':c=48->c::r=[48]:=λh=>by
     by_cases k:c::r=[48]
     .exact k
     .exact absurd ⟨h,k⟩ q
    by_cases c8:c=48
    .have d1:=eq_true c8
     have d2:=eq_true (q' c8)
     generalize c::r=W at *
     cases al:W.all isD with
     |true=>rw[al]at hlp;simp[aP,gam,z1,l1,a0,c1,c2,d1,d2,ha,hlp,oD]
     |false=>rw[al]at hlp;simp[aP,gam,z1,l1,a0,c1,c2,d1,d2,ha,hlp,oD]
    .have d1:=qbW c8
     generalize c::r=W at *
     cases al:W.all isD with
     |true=>rw[al]at hlp;simp[aP,gam,z1,l1,a0,c1,d1,ha,hlp,oD]
     |false=>rw[al]at hlp;simp[aP,gam,z1,l1,a0,c1,d1,ha,hlp,oD]
theorem NL:∀(w:zzc) (n:Nat),n<=vl n w
 |[],n=>qah _
 |c::r,n=>by have:=NL r (10*n+(c-48));show n<=vl (10*n+(c-48)) r;omega
def NM{a b c:Nat}{r:zzc}(ha:isD a=true)(h:a≠48):100<=vl 0 (a::b::c::r):=by
 have:48<=a/\a<=57:=by simpa [isD]using ha
 have:=NL r (10*(10*(10*0+(a-48))+(b-48))+(c-48));show 100<=vl (10*(10*(10*0+(a-48))+(b-48))+(c-48)) r;omega
def YA{w:zzc}(h:2<w.length):kw w=none:=by
 unfold kw nw;split
 .rfl
 .rename_i q;split
  .rename_i al
   match w,h with
   |a::b::c::r,_ =>
     have ha:isD a=true:=by rw[qbC,qa1]at al;exact al.1
     have hn:a≠48:=λe=>q (.inr ⟨by rw[e];rfl,by simp⟩);have:=NM (b:=b) (c:=c) (r:=r) ha hn;show(if decide (vl 0 (a::b::c::r)<=30)=true then some _ else none)=none;rw[qaY ω];rfl
  .rfl
def int_1:∀a:Nat,a<10->intText? (mk [48+a])=some (a:Int):=by decide +kernel
def int_2:∀a b:Nat,a<10->b<10->intText? (mk [48+a,48+b])=some ((10*a+b:Nat):Int):=by
 have:∀a:Nat,a<10->∀b:Nat,b<10->intText? (mk [48+a,48+b])=some ((10*a+b:Nat):Int):=by decide +kernel
 exact λa b ha hb=>this a ha b hb
def YB{z:Str}(h0:tl z≠[])(h2:(tl z).length<=2)(al:(tl z).all isD=true):intText? z=some ((vl 0 ζH:Nat):Int):=by
 have ez:z=mk ζH:=ext (by simp);have D:∀c,isD c=true->48<=c/\c<=57:=λc h=>by simpa [isD]using h
 match hz:tl z with
 |[]=>exact absurd hz h0
 |[a] =>
   rw[hz]at al ez;have:=D a (by simpa using al);have e:=int_1 (a-48) ω;rw[show 48+(a-48)=a by omega]at e;rw[ez,e];show some ((a-48:Nat):Int)=some ((10*0+(a-48):Nat):Int);simp
 |[a,b] =>
   rw[hz]at al ez;simp only[List.all_cons,List.all_nil,Bool.and_true,Bool.and_eq_true]at al;have h1:=D a al.1;have h2:=D b al.2;have e:=int_2 (a-48) (b-48) ω ω;rw[show 48+(a-48)=a by omega,show 48+(b-48)=b by omega]at e;rw[ez,e];show some ((10*(a-48)+(b-48):Nat):Int)=some ((10*(10*0+(a-48))+(b-48):Nat):Int);simp
 |a::b::c::r=>rw[hz]at h2;simp at h2
def fD:D->Option D
 |.str z=>match tl z with
   |[c]=>if isD c then none else some ηN
   |_=>none
 |_=>none
def YC{w:zzc}{Γ:En}:fm [] 1 ζh (M.bind (op2 yE ι (kS "0123456789")) aO) ι (w.map λc=>D.str γ7) Γ=.ok ((w.filter λc => !isD c).map λc=>D.str γ7) Γ:=by
 have e:(w.map λc=>D.str γ7).filterMap fD=(w.filter λc => !isD c).map λc=>D.str γ7:=by
  induction w with
  |nil=>rfl
  |cons c r ih =>
    rw[qaP,qbx,List.filter_cons];have f:fD (.str γ7)=if isD c then none else some (.str γ7):=rfl
    rw[f];cases isD c<;>simp[ih]
 rw[<-e];refine BJ fD _ λd hd=>?_;obtain⟨c,_,rfl⟩:=qaF.mp hd;refine⟨[some (.ae,.str γ7)],?_,rfl⟩;have n1:=G_ c;have f:fD (.str γ7)=if isD c then none else some (.str γ7):=rfl
 rw[f];cases h:isD c with
 |true=>rw[h]at n1;simp[dU,n1]
 |false=>rw[h]at n1;simp[dU,n1]
def ax{z:Str}:asc z=true ↔ ∀c∈tl z,c<128:=by
 unfold asc;rw[Array.all_eq_true_iff_forall_mem];constructor
 .intro h c hc;have:=h c (by simpa using hc);simpa using this
 .intro h c hc;simpa using h c (by simpa using hc)
def YD{z:Str}(h:asc z=true):PyData.strOk z=true:=by unfold PyData.strOk;rw[Array.all_eq_true_iff_forall_mem];intro c hc;have:=ax.mp h c (by simpa using hc);simp;omega
theorem NN:∀{ts:v6},(∀t∈ts,asc t=true)->PyData.canLayAll0 (D.dR εk)=true/\PyData.depthAll (D.dR εk)<=0
 |[],_=>⟨rfl,by simp[D.dR,PyData.depthAll]⟩
 |t::r,h=>by obtain⟨a,b⟩:=NN λx hx=>h x δP;have c:=YD (h t (qaj ..));refine⟨by simp only[List.map_cons,D.dR,PyData.canLayAll0,D.py,PyData.canLay0,a,c];rfl,?_⟩;simp only[List.map_cons,D.dR,PyData.depthAll,D.py,PyData.depth];omega
def YE{w:zzc}(hw:∀c∈w,c<128):gE (.lst (w.map λc=>D.str γ7)) (.lst [])=some (.val (.bl (!w.isEmpty))):=by
 have ok:lK (.lst (w.map λc=>D.str γ7))=true:=by
  obtain⟨a,b⟩:=NN (ts:=w.map ch) λt ht=>by obtain⟨c,hc,rfl⟩:=qaF.mp ht;exact ax.mpr λd hd=>(show d=c by simpa using hd) ▸ hw c hc
  rw[qbo]at a b;unfold lK SeqAt.shaped;have e:(λc=>D.str γ7)=D.str ∘ ch:=rfl;rw[e];simp only[D.py,PyData.canLay0,PyData.depth,a,Bool.true_and,decide_eq_true_eq];omega
 rw[G7 (by intro x z;cases z)];unfold r_;rw[ok,NF];cases w<;>rfl
def NO{z:Str}(ha:asc z=true)(hl:z.length<=3000):lU [.str z]=some (.val (oD (kw ζH))):=by
 have ln:=line;have l1:z.length<=sizeLine:=by omega
 have lz:(tl z).length=z.length:=gn z;have l0:0<=sizeLine:=qaZ _;by_cases z0:tl z=[]
 .have:=NJ z0;subst this;rw[z0];simp[lU,sQ,aP,gam,kw,nw,oD]
 have z1:(z = "")=False:=qbW λe=>z0 (by rw[e];decide +kernel);by_cases z2:2<z.length
 .rw[YA ω];have v_:2<(z.length:Int):=by omega
  simp[lU,sQ,aP,gam,z1,l1,v_,oD]
 have v_:¬(2<(z.length:Int)):=by omega
 have e1:=λΓ=>YC (w:=tl z) (Γ:=Γ);have e2:=YE (w:=(tl z).filter λc => !isD c) λc hc=>ax.mp ha c (List.mem_filter.mp hc).1;have sg:=NI z;have l3:((tl z).map λc=>D.str γ7).length<sizeLine:=by rw[qag];omega
 cases al:(tl z).all isD with
 |false =>
   have q:((tl z).filter λc => !isD c).isEmpty=false:=by rw[Bool.eq_false_iff];intro h;rw[List.isEmpty_iff,List.filter_eq_nil_iff]at h;rw[Bool.eq_false_iff]at al;exact al (qbH.mpr λc hc=>by have:=h c hc;simpa using this)
   rw[q]at e2;have k0:kw ζH=none:=by unfold kw nw;rw[al];split<;>rfl
   rw[k0];generalize ((tl z).filter λc => !isD c).map (λc=>D.str γ7)=A at *;generalize (tl z).map (λc=>D.str γ7)=B at *;simp[lU,sQ,aP,gam,z1,l1,v_,ha,sg,l3,e1,e2,l0,oD]
 |true =>
   have q:((tl z).filter λc => !isD c).isEmpty=true:=by rw[List.isEmpty_iff,List.filter_eq_nil_iff];intro c hc;have:=qbH.mp al c hc;simp[this]
   rw[q]at e2
   have it:yH [.str z]=some (.val (.int ((vl 0 ζH:Nat):Int))):=by show(if z.length<=640 then (intText? z).map λn=>RV.val ηk else none)=_;rw[qaz ω,YB z0 ω al];rfl
   obtain⟨c,r,hz⟩:∃c r,tl z=c::r:=by cases h:tl z with|nil=>exact absurd h z0|cons c r=>exact⟨c,r,rfl⟩
   have a0:=NK hz;have c1:(ch c = "0")=(c=48):=by rw[s0,ch_eq]
   have c2:(z = "0")=(tl z=[48]):=by rw[s0];exact propext ⟨λe=>by rw[e],λe=>ext e⟩
   have kq:kw ζH=if c=48/\tl z≠[48] then none else if vl 0 ζH<=30 then some (vl 0 ζH) else none:=by
    unfold kw nw;by_cases g:c=48/\tl z≠[48]
    .rw[qaz (.inr ⟨by rw[hz,g.1];rfl,g.2⟩),qaz g];rfl
    .rw[qax (by rintro(h|⟨h1,h2⟩);exact z0 h;exact g ⟨by rw[hz]at h1;simpa using h1,h2⟩),qax g,al];show(if decide (vl 0 ζH<=30)=true then some (vl 0 ζH) else none)=_;by_cases b:vl 0 ζH<=30<;>simp[b]
   rw[kq];generalize ((tl z).filter λc => !isD c).map (λc=>D.str γ7)=A at *;generalize (tl z).map (λc=>D.str γ7)=B at *;generalize vl 0 ζH=v at *;by_cases g:c=48/\tl z≠[48]
   .have g1:=eq_true g.1;have g2:=qbW g.2;rw[qaz g];simp[-List.cons.injEq,lU,sQ,aP,gam,z1,l1,v_,ha,sg,l3,e1,e2,l0,oD,a0,c1,c2,g1,g2]
   .rw[qax g];have vv:((30:Int)<(v:Int)) = ¬(v<=30):=by apply propext;omega
    by_cases c8:c=48
    .have g2:tl z=[48]:=by
      by_cases k:tl z=[48]
      .exact k
      .exact absurd ⟨c8,k⟩ g
     have g1:=eq_true c8
     have g2:=eq_true g2
     by_cases b:v<=30<;>simp[-List.cons.injEq,lU,sQ,aP,gam,z1,l1,v_,ha,sg,l3,e1,e2,l0,oD,a0,c1,c2,g1,g2,it,vv,b]
    .have g1:=qbW c8;by_cases b:v<=30<;>simp[lU,sQ,aP,gam,z1,l1,v_,ha,sg,l3,e1,e2,l0,oD,a0,c1,g1,it,vv,b]
theorem NP{y:Str}:∀{ps:v6}{p:Str},p∈ps->∀c∈tl p,c∈tl θh
 |[q],p,h,c,hc=>by rw[qaT.mp h]at hc;exact hc
 |q::q'::r,p,h,c,hc=>by
   show c∈tl (q++y++Str.join y (q'::r));rw[mM,mM];rcases qav.mp h with rfl|h
   .exact qa3 _ (qa3 _ hc)
   .exact qay _ (NP h c hc)
def YF{z y p:Str}(h:p∈Txt.split z y):∀c∈tl p,c∈tl z:=λc hc=>by have:=NP (y:=y) h c hc;rwa[join_split]at this
def NQ{z y p:Str}(hz:asc z=true)(h:p∈Txt.split z y):asc p=true:=ax.mpr λc hc=>ax.mp hz c (YF h c hc)
theorem NR{y:Str}:∀{ps:v6}{p:Str},p∈ps->p.length<=(Str.join y ps).length
 |[q],p,h=>by rw[qaT.mp h];exact qah _
 |q::q'::r,p,h=>by
   show p.length<=(q++y++Str.join y (q'::r)).length;rw[Str.length_append,Str.length_append];rcases qav.mp h with rfl|h
   .omega
   .have:=NR (y:=y) h;omega
def NS{z y p:Str}(h:p∈Txt.split z y):p.length<=z.length:=by have:=NR (y:=y) h;rwa[join_split]at this
theorem NT{y:Str}(hy:1<=y.length):∀ps:v6,ps.length<=(Str.join y ps).length+1
 |[]=>qaZ _
 |[q]=>by simp
 |q::q'::r=>by
   have:=NT hy (q'::r)
   have e:(Str.join y (q::q'::r)).length=q.length+y.length+(Str.join y (q'::r)).length:=by show(q++y++Str.join y (q'::r)).length=_;rw[Str.length_append,Str.length_append]
   simp only[List.length_cons]at this ⊢;omega
def split_len{z y:Str}(hy:1<=y.length):(Txt.split z y).length<=z.length+1:=by have:=NT hy (Txt.split z y);rwa[join_split]at this
def lq:v6->Option (u8)
 |[]=>some []
 |w::r=>match kw δE,lq r with
   |some n,some ks=>some ((n:Int)::ks)
   |_,_=>none
def wa:(" ":Str).length=1:=by decide +kernel
def wc:("\n":Str).length=1:=by decide +kernel
def nE(z:Str):Option (u8):=lq (Txt.split z " ")
def YG{ws:v6}{Γ:En}(h:∀w∈ws,asc w=true/\w.length<=3000):fm [] 1 ζh γn (cw rn γr) (ws.map D.str) Γ=.ok (ws.map λw=>oD ηF) Γ:=by refine uK D.str (λw=>oD ηF) rfl λw hw=>?_;obtain⟨a,b⟩:=h w hw;exact⟨[some (.ae,.str w)],by simp[dU,number_eq a b],rfl⟩
def YH{ws:v6}{Γ:En}(h:∀w∈ws,asc w=true/\w.length<=3000):fm [] 1 ζh γn (cw lU γr) (ws.map D.str) Γ=.ok (ws.map λw=>oD (kw δE)) Γ:=by refine uK D.str (λw=>oD (kw δE)) rfl λw hw=>?_;obtain⟨a,b⟩:=h w hw;exact⟨[some (.ae,.str w)],by simp[dU,NO a b],rfl⟩
noncomputable def nF(o:γF):Bool:=match o with
 |some n=>decide (n<=30)
 |none=>false
def YI(o:γF):nC [oD o]=some (.val (.bl (nF o))):=by
 cases o with
 |none=>exact Yx
 |some n =>
   show nC [.int n]=_;rw[G9]
   have a:(decide ((0:Int)<=n)&&decide ((n:Int)<=30))=decide (n<=30):=by
    by_cases h:n<=30
    .have:(n:Int)<=30:=by omega
     simp[h,this]
    .have:¬(n:Int)<=30:=by omega
     simp[h,this]
   rw[a];rfl
def YJ{os:List γF}{Γ:En}:fm [] 1 ζh γn (cw nC γr) (os.map oD) Γ=.ok (os.map λo=>D.bl (nF o)) Γ:=by refine uK oD (λo=>D.bl (nF o)) rfl λo _=>?_;exact⟨[some (.ae,oD o)],by simp[dU,YI o],rfl⟩
def YK{α:Type}(f:α->Bool)(xs:δ5):qQ (xs.map λx=>D.bl (f x))=some ιv:=by
 induction xs with
 |nil=>rfl
 |cons a r ih=>show(qQ (r.map λx=>D.bl (f x))).map (f a :: ·)=_;rw[ih];rfl
def YL{α:Type}(f:α->Bool)(xs:δ5):Bc [.lst (xs.map λx=>D.bl (f x))]=some (.val (.bl (xs.all f))):=by show(qQ (xs.map λx=>D.bl (f x))).map (λbs=>RV.val ηA)=_;rw[YK];simp
def zf(w:zzc):kw w=if nF (nw w) then nw w else none:=by
 unfold kw nF;cases nw w with
 |none=>rfl
 |some n=>show(if decide (n<=30)=true then some n else none)=_;rfl
theorem NU:∀ws:v6,(ws.all λw=>nF ηF)=true->∃ks,lq ws=some ks/\(ws.map λw=>oD ηF)=ks.map D.int
 |[],_=>⟨[],rfl,rfl⟩
 |w::r,h=>by
   rw[qbC,qa1]at h;obtain⟨ks,h1,h2⟩:=NU r h.2;cases e:nw δE with
   |none=>rw[e]at h;cases h.1
   |some n =>
     have k:kw δE=some n:=by rw[zf,h.1,qaz rfl,e]
     refine⟨(n:Int)::ks,?_,?_⟩
     .unfold lq;rw[k,h1]
     .rw[qaP,h2,e];rfl
theorem NV:∀ws:v6,(ws.all λw=>nF ηF)=false->lq ws=none
 |[],h=>by cases h
 |w::r,h=>by
   rw[qbC,Bool.and_eq_false_iff]at h;unfold lq;rcases h with h|h
   .rw[zf,h];rfl
   .rw[NV r h];cases kw δE<;>rfl
theorem CU:∀{ws:v6}{ks:u8},lq ws=some ks->(∀k∈ks,Key k)/\ks.length=ws.length/\(ws.map λw=>oD (kw δE))=ks.map D.int
 |[],ks,h=>by cases h;exact⟨by simp,rfl,rfl⟩
 |w::r,ks,h=>by
   unfold lq at h;cases e:kw δE with
   |none=>rw[e]at h;cases h
   |some n =>
     cases e2:lq r with
     |none=>rw[e,e2]at h;cases h
     |some js =>
       rw[e,e2]at h;cases h;obtain⟨a,b,c⟩:=CU e2
       have hn:n<=30:=by
        rw[zf]at e;split at e
        .rename_i q;rw[e]at q;simpa [nF]using q
        .cases e
       refine⟨λk hk=>?_,by simp[b],by rw[qaP,c,e];rfl⟩;rcases qav.mp hk with rfl|hk
       .exact⟨ω,ω⟩
       .exact a k hk
def oL:Option (u8)->Rt
 |none=>.val .aq
 |some ks=>.new (aR ks)
def NW{z:Str}(ha:asc z=true)(hl:z.length<=2000):∀w∈Txt.split z " ",asc w=true/\w.length<=3000:=λw hw=>⟨NQ ha hw,by have:=NS hw;omega⟩
def NX{z:Str}(hl:z.length<=2000):rh z [.str " "]=some (.new (.lst ((Txt.split z " ").map D.str))):=by have ln:=line;exact Nw (by decide +kernel) ω (by have:=split_len (z:=z) (y:= " ") (by rw[wa];exact qah _);omega)
def NY{z:Str}(ha:asc z=true)(hl:z.length<=2000):sS [.str z]=some (oL (nE z)):=by
 have ln:=line;have e2:=NX hl;have e3:=λΓ=>YG (Γ:=Γ) (NW ha hl);have sl:=split_len (z:=z) (y:= " ") (by rw[wa];exact qah _);have l2:((Txt.split z " ").map D.str).length<sizeLine:=by rw[qag];omega
 have l3:((Txt.split z " ").map λw=>oD ηF).length<sizeLine:=by rw[qag];omega
 have em:((Txt.split z " ").map λw=>oD ηF)=((Txt.split z " ").map λw=>nw δE).map oD:=by rw[qbo];rfl
 have e4:=λΓ=>YJ (Γ:=Γ) (os:=(Txt.split z " ").map λw=>nw δE);have e5:=YL nF ((Txt.split z " ").map λw=>nw δE);rw[<-em]at e4;rw[List.all_map]at e5;unfold nE;cases al:(Txt.split z " ").all (nF ∘ λw=>nw δE) with
 |true =>
   obtain⟨ks,k1,k2⟩:=NU (Txt.split z " ") al;rw[al]at e5;rw[k1];rw[show oL ζI=.new δd from rfl,<-k2];generalize ((Txt.split z " ").map λw=>oD ηF)=P at *;generalize (Txt.split z " ").map D.str=S at *;generalize (((Txt.split z " ").map λw=>nw δE).map λo=>D.bl (nF o))=B at *;simp[sS,CB,aP,gam,MX,hid,e2,e3,e4,e5,l2,l3]
 |false =>
   have k1:=NV (Txt.split z " ") al;rw[al]at e5;rw[k1];generalize ((Txt.split z " ").map λw=>oD ηF)=P at *;generalize (Txt.split z " ").map D.str=S at *;generalize (((Txt.split z " ").map λw=>nw δE).map λo=>D.bl (nF o))=B at *;simp[sS,CB,aP,gam,MX,hid,e2,e3,e4,e5,l2,l3,oL]
def YM(os:List γF):A_ false .aq (.lst (os.map oD))=some (.val (.bl (os.any (·.isNone)))):=by
 have f:(os.map oD).all sk=true:=by rw[List.all_map,qbH];intro o _;cases o<;>rfl
 have g:(os.map oD).any (λe=>sq e .aq)=os.any (·.isNone):=by rw[List.any_map];congr 1;funext o;cases o<;>rfl
 show(if sk .aq&&(os.map oD).all sk then some (RV.val (.bl (if false then !(os.map oD).any (λe=>sq e .aq) else (os.map oD).any (λe=>sq e .aq)))) else none)=_;rw[f,g];rfl
theorem NZ:∀ws:v6,(ws.any λw=>(kw δE).isNone)=(lq ws).isNone
 |[]=>rfl
 |w::r=>by
   have e:lq (w::r)=match kw δE,lq r with
    |some n,some ks=>some ((n:Int)::ks)
    |_,_=>none:=rfl
   rw[List.any_cons,NZ r,e];generalize kw δE=a;generalize lq r=b;cases a<;>cases b<;>rfl
def N0{z:Str}(ha:asc z=true)(hl:z.length<=2000):pj [.str z]=some (oL (nE z)):=by
 have ln:=line;have e2:=NX hl;have e3:=λΓ=>YH (Γ:=Γ) (NW ha hl);have sl:=split_len (z:=z) (y:= " ") (by rw[wa];exact qah _);have l2:((Txt.split z " ").map D.str).length<sizeLine:=by rw[qag];omega
 have em:((Txt.split z " ").map λw=>oD (kw δE))=((Txt.split z " ").map λw=>kw δE).map oD:=by rw[qbo];rfl
 have e4:=YM ((Txt.split z " ").map λw=>kw δE);rw[<-em,List.any_map,show((λx=>Option.isNone x) ∘ λw=>kw δE)=(λw:Str=>(kw δE).isNone) from rfl,NZ]at e4;unfold nE;cases k:lq (Txt.split z " ") with
 |none =>
   rw[k]at e4;generalize ((Txt.split z " ").map λw=>oD (kw δE))=P at *;generalize (Txt.split z " ").map D.str=S at *;simp[pj,Cw,aP,gam,e2,e3,e4,l2,oL]
 |some ks =>
   rw[k]at e4;have k2:=(CU k).2.2;rw[show oL ζI=.new δd from rfl,<-k2];generalize ((Txt.split z " ").map λw=>oD (kw δE))=P at *;generalize (Txt.split z " ").map D.str=S at *;simp[pj,Cw,aP,gam,e2,e3,e4,l2]
def N1(a b len:Nat):Builtin.Str.strSliceIndices (some (a:Int)) (some (b:Int)) 1 len=Builtin.Str.strSliceIndices (some ((min a len:Nat):Int)) (some ((min b len:Nat):Int)) 1 len:=by
 have h1:¬((a:Int)<0):=by omega
 have h2:¬((b:Int)<0):=by omega
 have h3:¬(((min a len:Nat):Int)<0):=by omega
 have h4:¬(((min b len:Nat):Int)<0):=by omega
 have e1:max (0:Int) (min ((min a len:Nat):Int) (len:Int))=max (0:Int) (min (a:Int) (len:Int)):=by omega
 have e2:max (0:Int) (min ((min b len:Nat):Int) (len:Int))=max (0:Int) (min (b:Int) (len:Int)):=by omega
 simp only[Builtin.Str.strSliceIndices,h1,h2,h3,h4,if_false,e1,e2,show((1:Int)>0)=True from by simp,if_true]
def CV{z:Str}{a b:Nat}(h:a<=b):Txt.slice z (some (a:Int)) (some (b:Int))=mk (((tl z).drop a).take (b-a)):=by
 have e:Txt.slice z (some (a:Int)) (some (b:Int))=sliceText z (some ((min a z.length:Nat):Int)) (some ((min b z.length:Nat):Int)):=by unfold Txt.slice sliceText;rw[N1]
 rw[e,sliceText_nat z ω (Nat.min_le_right ..)];have lz:(tl z).length=z.length:=gn z;refine ext ?_;show((tl z).drop (min a z.length)).take (min b z.length-min a z.length)=((tl z).drop a).take (b-a);by_cases q:a<=z.length
 .rw[Nat.min_eq_left q];by_cases q2:b<=z.length
  .rw[Nat.min_eq_left q2]
  .rw[Nat.min_eq_right ω,qaX (by rw[qaR];omega),qaX (by rw[qaR];omega)]
 .rw[Nat.min_eq_right ω,qaG (by omega:(tl z).length<=a),qaG ω];simp
def Ha{z:Str}{b:Nat}:Txt.slice z none (some (b:Int))=mk ((tl z).take b):=by
 have e:Txt.slice z none (some (b:Int))=Txt.slice z (some ((0:Nat):Int)) (some (b:Int)):=by unfold Txt.slice;rw[sliceIdx_none_lo];rfl
 rw[e,CV θa];rfl
def CW{z:Str}{a:Nat}:Txt.slice z (some (a:Int)) none=mk ((tl z).drop a):=by
 have lz:(tl z).length=z.length:=gn z;by_cases q:a<=z.length
 .exact Yb q
 .have e:Txt.slice z (some (a:Int)) none=Txt.slice z (some (a:Int)) (some (z.length:Int)):=by unfold Txt.slice;rw[sliceIdx_none_hi]
  have e2:Txt.slice z (some (a:Int)) (some (z.length:Int))=sliceText z (some ((min a z.length:Nat):Int)) (some ((min z.length z.length:Nat):Int)):=by unfold Txt.slice sliceText;rw[N1]
  rw[e,e2,sliceText_nat z ω (Nat.min_le_right ..)]
  refine ext ?_
  show((tl z).drop (min a z.length)).take (min z.length z.length-min a z.length)=(tl z).drop a
  rw[Nat.min_eq_right (by omega:z.length<=a),qaG (by omega:(tl z).length<=z.length),qaG (by omega:(tl z).length<=a)]
  simp
def pF{z:Str}{a:Nat}:Txt.slice z (some (a:Int)) (some ((a:Int)+1))=mk ((tl z)[a]?.toList):=by
 have:=CV (z:=z) (a:=a) (b:=a+1) ω;rw[show((a+1:Nat):Int)=(a:Int)+1 from rfl]at this;rw[this,show a+1-a=1 by omega];congr 2;cases q:(tl z)[a]? with
 |none=>rw[qaG (List.getElem?_eq_none_iff.mp q)];rfl
 |some c =>
   obtain⟨h1,h2⟩:=qac.mp q;rw[qa8 h1,h2];rfl
def qq{o:γF}{c:Nat}:(mk o.toList=ch c)=(o=some c):=by
 apply propext;cases o with
 |none=>exact⟨λh=>by have:=congrArg tl h;simp at this,nofun⟩
 |some d=>exact⟨λh=>by have:=congrArg tl h;simp at this;rw[this],λh=>by cases h;rfl⟩
noncomputable def xN(i:Int):Xc:=⟨.NoText,[("row",.int i)]⟩
def sign_eq{z:Str}{p c:Nat}(hl:z.length<=sizeLine):pE [.str z,.int p,.str γ7]=some (if (tl z)[p]?=some c then .ok γ5 else .ex (xN 0)):=by
 have e:=pF (z:=z) (a:=p);have m:=qq (o:=(tl z)[p]?) (c:=c);generalize mk ((tl z)[p]?.toList)=y at *;by_cases h:(tl z)[p]?=some c
 .rw[qaz h];have m:=m.trans (eq_true h);simp[pE,CI,fq,gam,hl,e,m]
 .rw[qax h];have m:=m.trans (qbW h);simp[pE,CI,fq,gam,hl,e,m,xN]
def CY:(".":Str)=ch 46:=by decide +kernel
def CZ:("(":Str)=ch 40:=by decide +kernel
def N2:(")":Str)=ch 41:=by decide +kernel
def tx:T->Str
 |.nil => "."
 |.node k l r => "(" ++ kt k ++ " " ++ tx l ++ " " ++ tx r ++ ")"
def zg:tl (tx .nil)=[46]:=by decide +kernel
def we(k:Int)(l r:T):tl (tx (.node k l r))=40::(tl θc++32::(tl (tx l)++32::(tl (tx r)++[41]))):=by show tl ("(" ++ kt k ++ " " ++ tx l ++ " " ++ tx r ++ ")")=_;simp only[mM,List.append_assoc];rw[show tl ("(":Str)=[40] by decide +kernel,show tl (" ":Str)=[32] by decide +kernel,show tl (")":Str)=[41] by decide +kernel];rfl
def AK:T->Prop
 |.nil=>True
 |.node k l r=>Key k/\AK l/\AK r
theorem zh:∀{t:T}{lo hi:Int},t.B lo hi->AK t
 |.nil,_,_,_=>trivial
 |.node k l r,lo,hi,⟨⟨a,b⟩,_,c,d⟩=>⟨⟨a,b⟩,zh c,zh d⟩
theorem wg:∀{t:T},AK t->∀k∈t.ino,Key k
 |.nil,_,k,h=>by simp[T.ino]at h
 |.node x l r,⟨a,b,c⟩,k,h=>by
   simp[T.ino]at h;rcases h with h|rfl|h
   .exact wg b k h
   .exact a
   .exact wg c k h
def N3{k:Int}(h:Key k):∃n:Nat,k=n/\n<=30/\nw (tl θc)=some n:=by
 obtain⟨n,hn,rfl⟩:=h.nat;have:∀n:Nat,n<31->nw (tl (kt (n:Int)))=some n:=by decide +kernel
 exact⟨n,rfl,ω,this n hn⟩
def N4:∀{w:zzc}{n:Nat},nw w=some n->n<=30->w=tl (kt (n:Int)):=by
 intro w n h hn;unfold nw at h;split at h
 .cases h
 .rename_i q;split at h
  .rename_i al;have D:∀c,isD c=true->48<=c/\c<=57:=λc h=>by simpa [isD]using h
   match w,q,al,h with
   |[],q,_,_=>exact absurd γJ q
   |[a],_,al,h =>
     have ha:=D a (by simpa using al);have:n=a-48:=by have:=qaH h;simp[vl]at this;omega
     have g:∀m:Nat,m<10->[48+m]=tl (kt (m:Int)):=by decide +kernel
     rw[this,<-g (a-48) ω,show 48+(a-48)=a by omega]
   |[a,b],q,al,h =>
     simp only[List.all_cons,List.all_nil,Bool.and_true,Bool.and_eq_true]at al;have ha:=D a al.1;have hb:=D b al.2;have a8:a≠48:=λe=>q (.inr ⟨by rw[e];rfl,by simp⟩);have:n=10*(a-48)+(b-48):=by have:=qaH h;simp[vl]at this;omega
     have g:∀x:Nat,x<10->∀y:Nat,y<10->1<=x->[48+x,48+y]=tl (kt ((10*x+y:Nat):Int)):=by decide +kernel
     rw[this,<-g (a-48) ω (b-48) ω ω,show 48+(a-48)=a by omega,show 48+(b-48)=b by omega]
   |a::b::c::r,q,al,h =>
     have ha:isD a=true:=by rw[qbC,qa1]at al;exact al.1
     have:=NM (b:=b) (c:=c) (r:=r) ha λe=>q (.inr ⟨by rw[e];rfl,by simp⟩);have:=qaH h;omega
  .cases h
def at0(a b c:D):L2.cn [a,b,c] 0=some a:=rfl
def at1(a b c:D):L2.cn [a,b,c] 1=some b:=rfl
def at2(a b c:D):L2.cn [a,b,c] 2=some c:=rfl
def qr(a b:D):L2.cn [a,b] 0=some a:=rfl
def pG(a b:D):L2.cn [a,b] 1=some b:=rfl
noncomputable def wd(l:zzc):zzc:=l.takeWhile (λc=>c != 32)
theorem C0{c:Nat}:∀{l:zzc},c∈wd l->c∈l/\c≠32
 |[],h=>by simp[wd]at h
 |d::r,h=>by
   unfold wd at h;rw[List.takeWhile_cons]at h;split at h
   .rename_i q;rcases qav.mp h with rfl|h
    .exact⟨qaj ..,by simpa using q⟩
    .have:=C0 h;exact⟨qaf _ this.1,this.2⟩
   .simp at h
def N5(l:zzc):32∉wd l:=λh=>(C0 h).2 rfl
def wj(l:zzc):32∉l/\wd l=l\/∃r,l=wd l++32::r:=by
 unfold wd;induction l with
 |nil=>exact .inl ⟨by simp,rfl⟩
 |cons c r ih =>
   by_cases h:c=32
   .subst h;exact .inr ⟨r,by simp⟩
   .have h':(c != 32)=true:=by simp[h]
    rcases ih with ⟨a,b⟩|⟨q,e⟩
    .refine .inl ⟨?_,by rw[List.takeWhile_cons,h',qaz rfl,b]⟩;intro z;rcases qav.mp z with z|z
     .exact h z.symm
     .exact a z
    .refine .inr ⟨q,?_⟩;rw[List.takeWhile_cons,h',qaz rfl,List.cons_append,<-e]
def YN(z:Str):∃u v,lS z " " = [mk (wd ζH),u,v]:=by
 rw[nD];rcases wj ζH with ⟨a,b⟩|⟨r,e⟩
 .unfold lS;rcases occ_head z (ch 32) 1 (qah 1) with ⟨h0,_⟩|⟨i,r',e,ha,hk⟩
  .rw[h0];refine⟨Str.empty,Str.empty,?_⟩;rw[b,show mk ζH=z from ext (by simp)]
  .have hi:z.cps.toList[i]?=some 32:=(subAt_one z 32 i).mp ha;exact absurd (qaB hi) a
 .exact Yc e (N5 _)
section
variable{n:Nat}{z:Str}{a:Nat}{lo hi:Int}
def N6(hl:z.length<=sizeLine)(h:(tl z)[a]?=some 46):eg (n+1) [.str z,.int a,.int lo,.int hi]=some (.ok (.val (.tup [.aq,.int ((a:Int)+1)]))):=by have ln:=line;have e:=pF (z:=z) (a:=a);have m:=qq (o:=(tl z)[a]?) (c:=46);rw[<-CY]at m;have m:=m.trans (eq_true h);generalize mk ((tl z)[a]?.toList)=y at *;simp[eg,vV,fq,gam,hl,e,m,eo]
def YO(hl:z.length<=sizeLine)(h:(tl z)[a]?≠some 46)(h':(tl z)[a]?≠some 40):eg (n+1) [.str z,.int a,.int lo,.int hi]=some δv:=by have e:=pF (z:=z) (a:=a);have m:=qq (o:=(tl z)[a]?) (c:=46);rw[<-CY]at m;have m:=m.trans (qbW h);have s:=sign_eq (z:=z) (p:=a) (c:=40) hl;rw[qax h',<-CZ]at s;generalize mk ((tl z)[a]?.toList)=y at *;simp[eg,vV,fq,gam,hl,e,m,s]
variable{w:zzc}(hl:z.length<=sizeLine)(h3:z.length<=2000)(ha:asc z=true)(h:(tl z)[a]?=some 40)(hw:wd ((tl z).drop (a+1))=w)
include hl h3 ha h hw
theorem Hb:Txt.slice z (some (a:Int)) (some ((a:Int)+1))=ch 40/\(ch 40 = ".")=False/\pE [.str z,.int a,.str "("]=some (.ok γ5)/\Txt.slice z (some ((a:Int)+1)) none=mk ((tl z).drop (a+1))/\(∃u v,yD (mk ((tl z).drop (a+1))) [.str " "]=some (.val (.tup [.str ιc,u,v])))/\rn [.str ιc]=some (.val (oD (nw w)))/\gO [.str ιc]=some (.val (.int w.length)):=by
 have e:=pF (z:=z) (a:=a);rw[h]at e;have s:=sign_eq (z:=z) (p:=a) (c:=40) hl;rw[qaz h,<-CZ]at s;have sf:=CW (z:=z) (a:=a+1);have lz:(tl z).length=z.length:=gn z
 have lm:(mk ((tl z).drop (a+1))).length<=z.length:=by show((tl z).drop (a+1)).toArray.size<=_;rw[qaQ,qaR];omega
 obtain⟨u,v,pt⟩:=YN (mk ((tl z).drop (a+1)));rw[show tl (mk ((tl z).drop (a+1)))=(tl z).drop (a+1) by simp,hw]at pt;have po:=Ye (x:=mk ((tl z).drop (a+1))) (y:= " ") (by decide +kernel) ω;rw[pt]at po
 have wl:w.length<=z.length:=by
  have:w.length<=((tl z).drop (a+1)).length:=by
   rcases wj ((tl z).drop (a+1)) with ⟨_,e⟩|⟨r,e⟩
   .rw[<-hw,e];exact qah _
   .rw[e,hw,qam];omega
  rw[qaR]at this;omega
 have ww:(mk w).length=w.length:=by simp[Str.length]
 have na:asc ιc=true:=ax.mpr λc hc=>by
  have hc:c∈w:=by simpa using hc
  rw[<-hw]at hc;exact ax.mp ha c (qbJ (C0 hc).1)
 have nq:=number_eq (z:=mk w) na ω;rw[show tl ιc=w by simp]at nq;refine⟨e,qbW (by decide +kernel),s,sf,⟨.str u,.str v,po⟩,nq,?_⟩;rw[Yd ω,ww]
theorem N7:eg (n+1) [.str z,.int a,.int lo,.int hi]=qX (aA pH (pT (eg n)) [some (.ae,.str z),some (.ae,.int a),some (.ae,.int lo),some (.ae,.int hi),some (.ae,.str ιc),some (.ae,oD (nw w)),none,none,none]):=by obtain⟨e1,e2,e3,e4,⟨u,v,e5⟩,e6,e7⟩:=Hb hl h3 ha h hw;generalize mk ((tl z).drop (a+1))=X at *;generalize mk w=W at *;generalize oD (nw w)=K at *;show fq 4 _ (vV (eg n)) _=_;unfold vV;generalize pT (eg n)=T;generalize pH=H;simp[fq,gam,hl,e1,e2,e3,e4,e5,e6,at0]
theorem YQ(hb:¬ ∃k:Nat,nw w=some k/\lo<k/\(k:Int)<hi):eg (n+1) [.str z,.int a,.int lo,.int hi]=some δv:=by
 rw[N7 hl h3 ha h hw];generalize pT (eg n)=T;cases q:nw w with
 |none=>simp[pH,oD,xN]
 |some k =>
   by_cases c1:lo<k
   .have c2:¬(k:Int)<hi:=λc2=>hb ⟨k,q,c1,c2⟩;simp[pH,oD,c1,c2,xN]
   .simp[pH,oD,c1,xN]
variable{k:Nat}(hk:nw w=some k)(c1:lo<k)(c2:(k:Int)<hi)
include hk c1 c2
theorem zi:eg (n+1) [.str z,.int a,.int lo,.int hi]=qX (pT (eg n) [some (.ae,.str z),some (.ae,.int a),some (.ae,.int lo),some (.ae,.int hi),some (.ae,.str ιc),some (.ae,.int k),none,none,none]):=by rw[N7 hl h3 ha h hw,hk];generalize pT (eg n)=T;simp[pH,oD,c1,c2]
theorem YR(hp:(tl z)[a+1+w.length]?≠some 32):eg (n+1) [.str z,.int a,.int lo,.int hi]=some δv:=by rw[zi hl h3 ha h hw hk c1 c2];have e7:=(Hb hl h3 ha h hw).2.2.2.2.2.2;have s:=sign_eq (z:=z) (p:=a+1+w.length) (c:=32) hl;rw[qax hp,<-nD]at s;rw[show((a+1+w.length:Nat):Int)=(a:Int)+1+(w.length:Int) from rfl]at s;generalize mk w=W at *;simp[pT,e7,s]
variable(hp:(tl z)[a+1+w.length]?=some 32)
include hp
theorem C2:gO [.str ιc]=some (.val (.int w.length))/\pE [.str z,.int ((a:Int)+1+(w.length:Int)),.str " "]=some (.ok γ5):=by have s:=sign_eq (z:=z) (p:=a+1+w.length) (c:=32) hl;rw[qaz hp,<-nD]at s;exact⟨(Hb hl h3 ha h hw).2.2.2.2.2.2,s⟩
theorem YS(hL:eg n [.str z,.int ((a:Int)+1+(w.length:Int)+1),.int lo,.int k]=some δv):eg (n+1) [.str z,.int a,.int lo,.int hi]=some δv:=by rw[zi hl h3 ha h hw hk c1 c2];obtain⟨e7,s⟩:=C2 hl h3 ha h hw hk c1 c2 hp;generalize mk w=W at *;simp[pT,e7,s,hL]
variable{L:D}{p3:Nat}(hL:eg n [.str z,.int ((a:Int)+1+(w.length:Int)+1),.int lo,.int k]=some (.ok (.val (.tup [L,.int p3]))))
include hL
theorem YT(h2:(tl z)[p3]?≠some 32):eg (n+1) [.str z,.int a,.int lo,.int hi]=some δv:=by rw[zi hl h3 ha h hw hk c1 c2];obtain⟨e7,s⟩:=C2 hl h3 ha h hw hk c1 c2 hp;have s2:=sign_eq (z:=z) (p:=p3) (c:=32) hl;rw[qax h2,<-nD]at s2;generalize mk w=W at *;simp[pT,e7,s,hL,s2]
variable(h2:(tl z)[p3]?=some 32)
include h2
theorem YU(hR:eg n [.str z,.int ((p3:Int)+1),.int k,.int hi]=some δv):eg (n+1) [.str z,.int a,.int lo,.int hi]=some δv:=by rw[zi hl h3 ha h hw hk c1 c2];obtain⟨e7,s⟩:=C2 hl h3 ha h hw hk c1 c2 hp;have s2:=sign_eq (z:=z) (p:=p3) (c:=32) hl;rw[qaz h2,<-nD]at s2;generalize mk w=W at *;simp[pT,e7,s,hL,s2,hR]
variable{R:D}{p4:Nat}(hR:eg n [.str z,.int ((p3:Int)+1),.int k,.int hi]=some (.ok (.val (.tup [R,.int p4]))))
include hR
theorem Hc:eg (n+1) [.str z,.int a,.int lo,.int hi]=some (if (tl z)[p4]?=some 41 then .ok (.val (.tup [.tup [.int k,L,R],.int ((p4:Int)+1)])) else .ex (xN 0)):=by
 have ln:=line;rw[zi hl h3 ha h hw hk c1 c2];obtain⟨e7,s⟩:=C2 hl h3 ha h hw hk c1 c2 hp;have s2:=sign_eq (z:=z) (p:=p3) (c:=32) hl;rw[qaz h2,<-nD]at s2;have s3:=sign_eq (z:=z) (p:=p4) (c:=41) hl;rw[<-N2]at s3;generalize mk w=W at *;by_cases h4:(tl z)[p4]?=some 41
 .rw[qaz h4]at s3 ⊢;simp[pT,e7,s,hL,s2,hR,s3,eo]
 .rw[qax h4]at s3 ⊢;simp[pT,e7,s,hL,s2,hR,s3]
end
def wk{l:zzc}{a c:Nat}(h:l[a]?=some c):l.drop a=c::l.drop (a+1):=by obtain⟨h1,h2⟩:=qac.mp h;rw[qa8 h1,h2]
def pI{z:Str}{a c:Nat}(h:(tl z)[a]?=some c):a<z.length:=by have:=(qac.mp h).1;rwa[gn]at this
structure Rd(z:Str)(a:Nat)(t:T)(p:Nat):Prop where
 eq:(tl z).drop a=tl θM++(tl z).drop p
 le:p<=z.length
def Rd.nil{z:Str}{a:Nat}(h:(tl z)[a]?=some 46):Rd z a .nil (a+1):=⟨by rw[wk h,zg];rfl,pI h⟩
def Rd.node{z:Str}{a p3 p4:Nat}{k:Int}{L R:T}{w:zzc}(h:(tl z)[a]?=some 40)(hw:wd ((tl z).drop (a+1))=w)(hk:w=tl θc)(hp:(tl z)[a+1+w.length]?=some 32)(hL:Rd z (a+1+w.length+1) L p3)(h2:(tl z)[p3]?=some 32)(hR:Rd z (p3+1) R p4)(h4:(tl z)[p4]?=some 41):Rd z a (.node k L R) (p4+1):=by
 refine⟨?_,pI h4⟩
 have e1:(tl z).drop (a+1)=w++(tl z).drop (a+1+w.length):=by
  rcases wj ((tl z).drop (a+1)) with ⟨n,e⟩|⟨r,e⟩
  .exfalso;apply n;have:((tl z).drop (a+1))[w.length]?=some 32:=by rw[qbi];exact hp
   exact qaB this
  .rw[hw]at e;rw[e,<-List.drop_drop,e,List.drop_left]
 rw[wk h,e1,wk hp,hL.eq,wk h2,hR.eq,wk h4,we,hk];simp
theorem He:∀(n:Nat) (z:Str) (a:Nat) (lo hi:Int),z.length<=2000->asc z=true -> -1<=lo->hi<=31->(hi-lo).toNat<n ->
 (∃t p,eg n [.str z,.int a,.int lo,.int hi]=some (.ok (.val (.tup [t.d,.int (p:Nat)])))/\t.B lo hi/\Rd z a t p)\/eg n [.str z,.int a,.int lo,.int hi]=some δv
 |0,z,a,lo,hi,_,_,_,_,h=>absurd h θV
 |n+1,z,a,lo,hi,h3,ha,b1,b2,hn=>by
   have ln:=line;have hl:z.length<=sizeLine:=by omega
   by_cases d:(tl z)[a]?=some 46
   .exact .inl ⟨.nil,a+1,N6 hl d,trivial,Rd.nil d⟩
   by_cases h:(tl z)[a]?=some 40
   .generalize hw:wd ((tl z).drop (a+1))=w;by_cases hb:∃k:Nat,nw w=some k/\lo<k/\(k:Int)<hi
    .obtain⟨k,hk,c1,c2⟩:=hb;by_cases hp:(tl z)[a+1+w.length]?=some 32
     .rcases He n z (a+1+w.length+1) lo k h3 ha b1 ω ω with ⟨L,p3,hL,lB,lR⟩|hL
      .by_cases h2:(tl z)[p3]?=some 32
       .rcases He n z (p3+1) k hi h3 ha ω b2 ω with ⟨R,p4,hR,rB,rR⟩|hR
        .by_cases h4:(tl z)[p4]?=some 41
         .refine .inl ⟨.node k L R,p4+1,(Hc hl h3 ha h hw hk c1 c2 hp hL h2 hR).trans (by rw[qaz h4];rfl),⟨⟨ω,ω⟩,⟨c1,c2⟩,lB,rB⟩,Rd.node h hw (N4 hk ω) hp lR h2 rR h4⟩
         .exact .inr ((Hc hl h3 ha h hw hk c1 c2 hp hL h2 hR).trans (by rw[qax h4]))
        .exact .inr (YU hl h3 ha h hw hk c1 c2 hp hL h2 hR)
       .exact .inr (YT hl h3 ha h hw hk c1 c2 hp hL h2)
      .exact .inr (YS hl h3 ha h hw hk c1 c2 hp hL)
     .exact .inr (YR hl h3 ha h hw hk c1 c2 hp)
    .exact .inr (YQ hl h3 ha h hw hb)
   .exact .inr (YO hl d h)
def YV{w r:zzc}(h:32∉w):wd (w++32::r)=w:=by
 induction w with
 |nil=>simp[wd]
 |cons c s ih =>
   have hc:(c != 32)=true:=by simp;intro e;exact h (by rw[e];exact qaj ..)
   unfold wd at ih ⊢;rw[List.cons_append,List.takeWhile_cons,hc,qaz rfl,ih λz=>h (qaf _ z)]
def Rd.inv{z:Str}{a p:Nat}{k:Int}{L R:T}(kk:Key k)(h:(tl z).drop a=tl (tx (.node k L R))++(tl z).drop p):∃p3 p4,(tl z)[a]?=some 40/\wd ((tl z).drop (a+1))=tl θc/\(tl z)[a+1+(kt k).length]?=some 32/\(tl z).drop (a+1+(kt k).length+1)=tl (tx L)++(tl z).drop p3/\(tl z)[p3]?=some 32/\(tl z).drop (p3+1)=tl (tx R)++(tl z).drop p4/\(tl z)[p4]?=some 41/\p4+1=a+(tx (.node k L R)).length/\p4<z.length:=by
 rw[we]at h;have len:=congrArg List.length (we k L R);simp only[List.length_cons,List.length_append,gn,List.length_nil]at len
 have dr:∀(j:Nat) (q s:zzc),(tl z).drop a=q++s->q.length=j->(tl z).drop (a+j)=s:=λj q s e hj=>by rw[<-List.drop_drop,e,<-hj,List.drop_left]
 have gt:∀(j:Nat) (c:Nat) (q:zzc),(tl z).drop j=c::q->(tl z)[j]?=some c:=λj c q e=>by
  have:((tl z).drop j)[0]?=some c:=by rw[e];rfl
  simpa using this
 have lz:∀x:Str,x.cps.size=x.length:=λx=>rfl;have d0:(tl z).drop a=40::(tl θc++32::(tl (tx L)++32::(tl (tx R)++41::(tl z).drop p))):=by rw[h];simp
 have d1:=dr 1 [40] _ d0 rfl;have d2:=dr (1+(kt k).length) (40::tl θc) (32::(tl (tx L)++32::(tl (tx R)++41::(tl z).drop p))) (by rw[d0];simp) (by simp[lz];omega);have d2':=dr (1+(kt k).length+1) (40::(tl θc++[32])) (tl (tx L)++32::(tl (tx R)++41::(tl z).drop p)) (by rw[d0];simp) (by simp[lz];omega);have d3:=dr (1+(kt k).length+1+(tx L).length) (40::(tl θc++32::tl (tx L))) (32::(tl (tx R)++41::(tl z).drop p)) (by rw[d0];simp) (by simp[lz];omega);have d3':=dr (1+(kt k).length+1+(tx L).length+1) (40::(tl θc++32::(tl (tx L)++[32]))) (tl (tx R)++41::(tl z).drop p) (by rw[d0];simp) (by simp[lz];omega);have d4:=dr (1+(kt k).length+1+(tx L).length+1+(tx R).length) (40::(tl θc++32::(tl (tx L)++32::tl (tx R)))) (41::(tl z).drop p) (by rw[d0];simp) (by simp[lz];omega);refine⟨a+(1+(kt k).length+1+(tx L).length),a+(1+(kt k).length+1+(tx L).length+1+(tx R).length),gt _ _ _ d0,?_,?_,?_,gt _ _ _ d3,?_,gt _ _ _ d4,ω,pI (gt _ _ _ d4)⟩
 .rw[d1];exact YV (G1 kk ξ)
 .rw[show a+1+(kt k).length=a+(1+(kt k).length) by omega];exact gt _ _ _ d2
 .rw[show a+1+(kt k).length+1=a+(1+(kt k).length+1) by omega,d2',d3]
 .rw[show a+(1+(kt k).length+1+(tx L).length)+1=a+(1+(kt k).length+1+(tx L).length+1) by omega,d3',d4]
theorem Hf:∀(t:T) (n:Nat) (z:Str) (a:Nat) (lo hi:Int) (p:Nat),z.length<=2000->asc z=true->t.ht<n->t.B lo hi->(tl z).drop a=tl θM++(tl z).drop p->eg n [.str z,.int a,.int lo,.int hi]=some (.ok (.val (.tup [t.d,.int ((a+(tx t).length:Nat):Int)])))
 |.nil,n+1,z,a,lo,hi,p,h3,ha,_,_,e=>by
   have ln:=line
   have h:(tl z)[a]?=some 46:=by
    have:((tl z).drop a)[0]?=some 46:=by rw[e,zg];rfl
    simpa using this
   rw[N6 ω h,show(tx .nil).length=1 by decide +kernel];rfl
 |.node k l r,n+1,z,a,lo,hi,p,h3,ha,hh,hb,e=>by
   have ln:=line;have h1:l.ht<n:=by simp[T.ht]at hh;omega
   have h2:r.ht<n:=by simp[T.ht]at hh;omega
   obtain⟨⟨b1,b2⟩,⟨b3,b4⟩,b5,b6⟩:=hb;obtain⟨j,rfl,hj,hnw⟩:=N3 ⟨b1,b2⟩;obtain⟨p3,p4,g1,g2,g3,g4,g5,g6,g7,g8,g9⟩:=Rd.inv ⟨b1,b2⟩ e;have i1:=Hf l n z _ lo j p3 h3 ha h1 b5 g4;have i2:=Hf r n z _ j hi p4 h3 ha h2 b6 g6;have lk:(tl (kt (j:Int))).length=(kt (j:Int)).length:=gn _
   have q3:a+1+(kt (j:Int)).length+1+(tx l).length=p3:=by have:=congrArg List.length g4;simp only[List.length_drop,List.length_append,gn]at this;have:=pI g5;have:=pI g3;omega
   have q4:p3+1+(tx r).length=p4:=by have:=congrArg List.length g6;simp only[List.length_drop,List.length_append,gn]at this;have:=pI g5;omega
   rw[q3]at i1;rw[q4]at i2;have res:=Hc (n:=n) (lo:=lo) (hi:=hi) ω h3 ha g1 g2 hnw b3 b4 (by rw[lk];exact g3) (L:=l.d) (p3:=p3) (by rw[lk];exact i1) g5 (R:=r.d) (p4:=p4) i2;rw[res,qaz g7,show((p4:Int)+1)=((a+(tx (.node j l r)).length:Nat):Int) by omega];rfl
def nK{z:Str}{v c:Nat}(h:(tl z)[v]?=some c):z.cps.getD v 0=c:=getD_of_getElem? h
def Hg{z:Str}{a:Nat}{w:zzc}(h:(tl z)[a]?=some 40)(hw:wd ((tl z).drop (a+1))=w):Txt.find3 z " " (a:Int)=if (tl z)[a+1+w.length]?=some 32 then ((a+1+w.length:Nat):Int) else -1:=by
 have fi:fromIndex z.length (a:Int)=a:=by unfold fromIndex;omega
 rw[nD];have sp:=find3_spec z 32 (a:Int);rw[fi]at sp
 have key:∀r,(tl z).drop (a+1)=w++32::r->(tl z)[a+1+w.length]?=some 32:=λr e=>by
  have:((tl z).drop (a+1))[w.length]?=some 32:=by rw[e];simp
  rwa[qbi]at this
 rcases sp with ⟨e,hn⟩|⟨k,e,h1,h2,h3,h4⟩
 .rw[e,qax];intro q;exact hn _ ω (pI q) (nK q)
 .have hk:(tl z)[k]?=some 32:=getElem?_of_getD h2 h3;have ka:k≠a:=λz=>by rw[z,h]at hk;cases hk
  have hm:32∈(tl z).drop (a+1):=by
   have:((tl z).drop (a+1))[k-(a+1)]?=some 32:=by rw[qbi,show a+1+(k-(a+1))=k by omega];exact hk
   exact qaB this
  rcases wj ((tl z).drop (a+1)) with ⟨n,_⟩|⟨r,er⟩
  .exact absurd hm n
  .rw[hw]at er;have q:=key r er;rw[qaz q,e]
   have:k=a+1+w.length:=by
    rcases Nat.lt_trichotomy k (a+1+w.length) with c|c|c
    .exfalso;have:((tl z).drop (a+1))[k-(a+1)]?=some 32:=by rw[qbi,show a+1+(k-(a+1))=k by omega];exact hk
     rw[er,qaL ω]at this;have:=qaB this;rw[<-hw]at this;exact N5 _ this
    .exact c
    .exact absurd (nK q) (h4 _ ω c)
   rw[this]
def YW{z:Str}{a:Nat}{w:zzc}(hw:wd ((tl z).drop (a+1))=w):Txt.slice z (some ((a:Int)+1)) (some ((a:Int)+1+(w.length:Int)))=mk w:=by
 have:=CV (z:=z) (a:=a+1) (b:=a+1+w.length) ω;rw[show((a+1+w.length:Nat):Int)=(a:Int)+1+(w.length:Int) from rfl,show((a+1:Nat):Int)=(a:Int)+1 from rfl]at this;rw[this,show a+1+w.length-(a+1)=w.length by omega];congr 2;rcases wj ((tl z).drop (a+1)) with ⟨_,e⟩|⟨r,e⟩
 .rw[hw]at e;rw[<-e];exact List.take_length
 .rw[hw]at e;rw[e,List.take_left]
section
variable{n:Nat}{z:Str}{a:Nat}
def N8(hl:z.length<=sizeLine)(h:(tl z)[a]?=some 46):dX (n+1) [.str z,.int a]=some (.val (.tup [.aq,.int ((a:Int)+1)])):=by have ln:=line;have e:=pF (z:=z) (a:=a);have m:=qq (o:=(tl z)[a]?) (c:=46);rw[<-CY]at m;have m:=m.trans (eq_true h);generalize mk ((tl z)[a]?.toList)=y at *;simp[dX,sR,aP,gam,hl,e,m,eo]
def f3{x y:Str}{i:Int}:Cu x [.str y,.int i]=some (.val (.int (Txt.find3 x y i))):=rfl
def YX(hl:z.length<=sizeLine)(h:(tl z)[a]?≠some 46)(h':(tl z)[a]?≠some 40):dX (n+1) [.str z,.int a]=some γ5:=by have e:=pF (z:=z) (a:=a);have m:=qq (o:=(tl z)[a]?) (c:=46);rw[<-CY]at m;have m:=m.trans (qbW h);have m2:=qq (o:=(tl z)[a]?) (c:=40);rw[<-CZ]at m2;have m2:=m2.trans (qbW h');generalize mk ((tl z)[a]?.toList)=y at *;simp[dX,sR,aP,gam,hl,e,m,m2,f3]
variable{w:zzc}(hl:z.length<=sizeLine)(h3:z.length<=2000)(ha:asc z=true)(h:(tl z)[a]?=some 40)(hw:wd ((tl z).drop (a+1))=w)
include hl h3 ha h hw
theorem C3:Txt.slice z (some (a:Int)) (some ((a:Int)+1))=ch 40/\(ch 40 = ".")=False/\(ch 40 = "(")=True/\Txt.slice z (some ((a:Int)+1)) (some ((a:Int)+1+(w.length:Int)))=mk w/\lU [.str ιc]=some (.val (oD (kw w))):=by
 have e:=pF (z:=z) (a:=a);rw[h]at e;have lz:(tl z).length=z.length:=gn z
 have wl:w.length<=z.length:=by
  have:w.length<=((tl z).drop (a+1)).length:=by
   rcases wj ((tl z).drop (a+1)) with ⟨_,e⟩|⟨r,e⟩
   .rw[<-hw,e];exact qah _
   .rw[e,hw,qam];omega
  rw[qaR]at this;omega
 have ww:(mk w).length=w.length:=by simp[Str.length]
 have na:asc ιc=true:=ax.mpr λc hc=>by
  have hc:c∈w:=by simpa using hc
  rw[<-hw]at hc;exact ax.mp ha c (qbJ (C0 hc).1)
 have nq:=NO (z:=mk w) na ω;rw[show tl ιc=w by simp]at nq;exact⟨e,qbW (by decide +kernel),eq_true (by decide +kernel),YW hw,nq⟩
theorem YY(hp:(tl z)[a+1+w.length]?≠some 32):dX (n+1) [.str z,.int a]=some γ5:=by obtain⟨e1,e2,e3,e4,e5⟩:=C3 hl h3 ha h hw;have f:=Hg h hw;rw[qax hp]at f;simp[dX,sR,aP,gam,hl,e1,e2,e3,f3,f]
theorem YZ(hp:(tl z)[a+1+w.length]?=some 32)(hk:kw w=none):dX (n+1) [.str z,.int a]=some γ5:=by
 obtain⟨e1,e2,e3,e4,e5⟩:=C3 hl h3 ha h hw;have f:=Hg h hw;rw[qaz hp,show((a+1+w.length:Nat):Int)=(a:Int)+1+(w.length:Int) from rfl]at f;rw[hk]at e5;have ng:¬((a:Int)+1+(w.length:Int)<0):=by omega
 generalize mk w=W at *;simp[dX,sR,aP,gam,hl,e1,e2,e3,e4,e5,f3,f,ng,oD]
variable{k:Nat}(hp:(tl z)[a+1+w.length]?=some 32)(hk:kw w=some k)
include hp hk
theorem C4:dX (n+1) [.str z,.int a]=lM (lT (dX n) [some (.ae,.str z),some (.ae,.int a),some (.ae,.int ((a:Int)+1+(w.length:Int))),none,none]):=by
 obtain⟨e1,e2,e3,e4,e5⟩:=C3 hl h3 ha h hw;have f:=Hg h hw;rw[qaz hp,show((a+1+w.length:Nat):Int)=(a:Int)+1+(w.length:Int) from rfl]at f;rw[hk]at e5;have ng:¬((a:Int)+1+(w.length:Int)<0):=by omega
 generalize mk w=W at *;show aP 2 _ (sR (dX n)) _=_;unfold sR;generalize lT (dX n)=T;simp[aP,gam,hl,e1,e2,e3,e4,e5,f3,f,ng,oD]
theorem Y0(hL:dX n [.str z,.int ((a:Int)+1+(w.length:Int)+1)]=some γ5):dX (n+1) [.str z,.int a]=some γ5:=by rw[C4 hl h3 ha h hw hp hk];simp[lT,hL]
variable{L:D}{p3:Nat}(hL:dX n [.str z,.int ((a:Int)+1+(w.length:Int)+1)]=some (.val (.tup [L,.int p3])))
include hL
theorem Y1(h2:(tl z)[p3]?≠some 32):dX (n+1) [.str z,.int a]=some γ5:=by rw[C4 hl h3 ha h hw hp hk];have s:=pF (z:=z) (a:=p3);have m:=(nD ▸ qq (o:=(tl z)[p3]?) (c:=32)).trans (qbW h2);generalize mk ((tl z)[p3]?.toList)=y at *;simp[lT,hl,hL,qr,pG,s,m]
variable(h2:(tl z)[p3]?=some 32)
include h2
theorem Y4(hR:dX n [.str z,.int ((p3:Int)+1)]=some γ5):dX (n+1) [.str z,.int a]=some γ5:=by rw[C4 hl h3 ha h hw hp hk];have s:=pF (z:=z) (a:=p3);have m:=(nD ▸ qq (o:=(tl z)[p3]?) (c:=32)).trans (eq_true h2);generalize mk ((tl z)[p3]?.toList)=y at *;simp[lT,hl,hL,qr,pG,s,m,hR]
variable{R:D}{p4:Nat}(hR:dX n [.str z,.int ((p3:Int)+1)]=some (.val (.tup [R,.int p4])))
include hR
theorem N9:dX (n+1) [.str z,.int a]=some (.val (if (tl z)[p4]?=some 41 then .tup [.tup [.int k,L,R],.int ((p4:Int)+1)] else .aq)):=by
 have ln:=line;rw[C4 hl h3 ha h hw hp hk];obtain⟨_,_,_,e4,e5⟩:=C3 hl h3 ha h hw;rw[hk]at e5;have s:=pF (z:=z) (a:=p3);have m:=(nD ▸ qq (o:=(tl z)[p3]?) (c:=32)).trans (eq_true h2);have s2:=pF (z:=z) (a:=p4);have m2:=qq (o:=(tl z)[p4]?) (c:=41);rw[<-N2]at m2;generalize mk ((tl z)[p3]?.toList)=y at *;generalize mk ((tl z)[p4]?.toList)=y2 at *;generalize mk w=W at *;by_cases h4:(tl z)[p4]?=some 41
 .rw[qaz h4];have m2:=m2.trans (eq_true h4);simp[lT,hl,e4,e5,oD,hL,qr,pG,s,m,hR,s2,m2,eo]
 .rw[qax h4];have m2:=m2.trans (qbW h4);simp[lT,hl,hL,qr,pG,s,m,hR,s2,m2]
end
def Y5{w:zzc}{k:Nat}(h:kw w=some k):nw w=some k/\k<=30:=by
 rw[zf]at h;split at h
 .rename_i q;rw[h]at q;exact⟨h,by simpa [nF]using q⟩
 .cases h
def Y6{w:zzc}{k:Nat}(h:nw w=some k)(hk:k<=30):kw w=some k:=by rw[zf,h];show(if decide (k<=30)=true then some k else none)=_;rw[qaN hk];rfl
theorem Hh:∀(n:Nat) (z:Str) (a:Nat),z.length<=2000->asc z=true->((tl z).drop a).count 40<n ->
 (∃t p,dX n [.str z,.int a]=some (.val (.tup [t.d,.int (p:Nat)]))/\AK t/\Rd z a t p)\/dX n [.str z,.int a]=some γ5
 |0,z,a,_,_,h=>absurd h θV
 |n+1,z,a,h3,ha,hn=>by
   have ln:=line;have hl:z.length<=sizeLine:=by omega
   by_cases d:(tl z)[a]?=some 46
   .exact .inl ⟨.nil,a+1,N8 hl d,trivial,Rd.nil d⟩
   by_cases h:(tl z)[a]?=some 40
   .generalize hw:wd ((tl z).drop (a+1))=w;rw[wk h,List.count_cons_self]at hn
    have cm:∀j,a+1<=j->((tl z).drop j).count 40<n:=λj hj=>by
     have:(tl z).drop j=((tl z).drop (a+1)).drop (j-(a+1)):=by rw[List.drop_drop,show a+1+(j-(a+1))=j by omega]
     rw[this];have:=List.Sublist.count_le 40 (qbQ (j-(a+1)) ((tl z).drop (a+1)));omega
    by_cases hp:(tl z)[a+1+w.length]?=some 32
    .cases hk:kw w with
     |none=>exact .inr (YZ hl h3 ha h hw hp hk)
     |some k =>
       obtain⟨q1,q2⟩:=Y5 hk;rcases Hh n z (a+1+w.length+1) h3 ha (cm _ ω) with ⟨L,p3,hL,lB,lR⟩|hL
       .by_cases h2:(tl z)[p3]?=some 32
        .have Y7:a+1<=p3+1:=by have:=congrArg List.length lR.eq;simp only[List.length_drop,List.length_append,gn]at this;have:=lR.le;have:=pI hp;omega
         rcases Hh n z (p3+1) h3 ha (cm _ Y7) with ⟨R,p4,hR,rB,rR⟩|hR
         .have e:=N9 hl h3 ha h hw hp hk hL h2 hR
          by_cases h4:(tl z)[p4]?=some 41
          .rw[qaz h4]at e
           exact .inl ⟨.node k L R,p4+1,e,⟨⟨ω,ω⟩,lB,rB⟩,Rd.node h hw (N4 q1 q2) hp lR h2 rR h4⟩
          .rw[qax h4]at e
           exact .inr e
         .exact .inr (Y4 hl h3 ha h hw hp hk hL h2 hR)
        .exact .inr (Y1 hl h3 ha h hw hp hk hL h2)
       .exact .inr (Y0 hl h3 ha h hw hp hk hL)
    .exact .inr (YY hl h3 ha h hw hp)
   .exact .inr (YX hl d h)
theorem Hi:∀(t:T) (n:Nat) (z:Str) (a:Nat) (p:Nat),z.length<=2000->asc z=true->t.ht<n->AK t->(tl z).drop a=tl θM++(tl z).drop p->dX n [.str z,.int a]=some (.val (.tup [t.d,.int ((a+(tx t).length:Nat):Int)]))
 |.nil,n+1,z,a,p,h3,ha,_,_,e=>by
   have ln:=line
   have h:(tl z)[a]?=some 46:=by
    have:((tl z).drop a)[0]?=some 46:=by rw[e,zg];rfl
    simpa using this
   rw[N8 ω h,show(tx .nil).length=1 by decide +kernel];rfl
 |.node k l r,n+1,z,a,p,h3,ha,hh,⟨kk,b5,b6⟩,e=>by
   have ln:=line;have h1:l.ht<n:=by simp[T.ht]at hh;omega
   have h2:r.ht<n:=by simp[T.ht]at hh;omega
   obtain⟨j,rfl,hj,hnw⟩:=N3 kk;obtain⟨p3,p4,g1,g2,g3,g4,g5,g6,g7,g8,g9⟩:=Rd.inv kk e;have i1:=Hi l n z _ p3 h3 ha h1 b5 g4;have i2:=Hi r n z _ p4 h3 ha h2 b6 g6;have lk:(tl (kt (j:Int))).length=(kt (j:Int)).length:=gn _
   have q3:a+1+(kt (j:Int)).length+1+(tx l).length=p3:=by have:=congrArg List.length g4;simp only[List.length_drop,List.length_append,gn]at this;have:=pI g5;have:=pI g3;omega
   have q4:p3+1+(tx r).length=p4:=by have:=congrArg List.length g6;simp only[List.length_drop,List.length_append,gn]at this;have:=pI g5;omega
   rw[q3]at i1;rw[q4]at i2;have res:=N9 (n:=n) ω h3 ha g1 g2 (by rw[lk];exact g3) (Y6 hnw hj) (L:=l.d) (p3:=p3) (by rw[lk];exact i1) g5 (R:=r.d) (p4:=p4) i2;rw[qaz g7]at res;rw[res,show((p4:Int)+1)=((a+(tx (.node j l r)).length:Nat):Int) by omega];rfl
end dW
namespace Bp
open PySem Dv St So
noncomputable abbrev C:=Int×Int
noncomputable def gQ(cs:List C)(m:Int):u8:=(cs.filter λc=>c.1 == m).map (·.2)
def jJ:k∈gQ cs m ↔ (m,k)∈cs:=by
 unfold gQ;rw[qaF];constructor
 .rintro⟨c,hc,rfl⟩;rw[List.mem_filter]at hc;have:=eq_of_beq hc.2;rw[<-this];exact hc.1
 .intro h;exact⟨(m,k),List.mem_filter.mpr ⟨h,by simp⟩,rfl⟩
end Bp
namespace dW
open PySem L2 Ex Dv Tr Tx StrLaws
theorem C5{c:Nat}:∀{ps:v6},ps≠[]->(∀p∈ps,c∉tl p)->(tl (Str.join γ7 ps)).count c+1=ps.length
 |[],h,_=>absurd rfl h
 |[p],_,h=>by show(tl p).count c+1=1;rw[List.count_eq_zero_of_not_mem (h p (qaj ..))]
 |p::q::r,_,h=>by rw[v3,qbR,List.count_cons_self,List.count_eq_zero_of_not_mem (h p (qaj ..))];have:=C5 (ps:=q::r) nofun λx hx=>h x δP;simp only[List.length_cons]at this ⊢;omega
def Y8(z:Str)(c:Nat):(tl z).count c+1=(Txt.split z γ7).length:=by have:=C5 (yY z γ7) (split_free z c);rwa[join_split]at this
theorem N_(x:Str)(w:Nat):∀(cuts:zzc) (a:Nat),(partsFrom x w a cuts).length=cuts.length+1
 |[],_=>rfl
 |c::r,a=>by simp[partsFrom,N_ x w r]
def cnt_eq(z:Str)(c:Nat):Txt.count z γ7=((tl z).count c:Nat):=by show((Builtin.Str.occurrences z γ7 0 z.length (z.length+1)).length:Int)=_;obtain⟨f,hG,hn⟩:=occ_tight z γ7 (qah 1);obtain⟨f',hC⟩:=occ_chain z γ7 (z.length+1);have fr:=parts_free z c _ 0 f hG hn;have jn:=join_partsFrom z γ7 _ 0 f' hC;rw[sub_whole]at jn;have ln:=N_ z (ch c).length (Builtin.Str.occurrences z γ7 0 z.length (z.length+1)) 0;have:=C5 (c:=c) (ps:=partsFrom z (ch c).length 0 (Builtin.Str.occurrences z γ7 0 z.length (z.length+1))) (λe=>by rw[e]at ln;simp at ln) fr;rw[jn,ln]at this;omega
theorem Oa:∀xs ys:u8,PyData.eqvAll (D.dR (xs.map D.int)) (D.dR (ys.map D.int))=decide (xs=ys)
 |[],[]=>by simp[D.dR,PyData.eqvAll]
 |[],_::_=>by simp[D.dR,PyData.eqvAll]
 |_::_,[]=>by simp[D.dR,PyData.eqvAll]
 |x::xs,y::ys=>by have:=Oa xs ys;simp only[List.map_cons,D.dR,D.py,PyData.eqvAll,PyData.eqv,this];rw[Bool.eq_iff_iff];simp
def ne_is(xs ys:u8):gE (aR xs) (aR ys)=some (.val (.bl (!decide (xs=ys)))):=by
 have e:eqB (aR xs) (aR ys)=decide (xs=ys):=by show PyData.eqv _ _=_;simp only[D.py,PyData.eqv];exact Oa xs ys
 rw[G7 (by intro x z;cases z)];unfold r_;rw[CT,CT,e];rfl
def Ob(ns:u8)(x:Int):x∈dd ns ↔ x∈ns:=by have:=(yt ns [] List.nodup_nil).2 x;simpa [dd]using this
def Hj(ns:u8):(dd ns).Nodup:=(yt ns [] List.nodup_nil).1
def Hk(ns:u8)(x:Int):x∈Dv.jb ns ↔ x∈ns:=(Bd ns).mem_iff
def C6{ns:u8}(h:ns.Nodup):(Dv.jb ns).Pairwise (· < ·):=by have h1:=Lb ns;have h2:(Dv.jb ns).Pairwise (·≠·):=(Bd ns).symm.nodup h;exact(h1.and h2).imp λ⟨a,b⟩=>by omega
def zj{ns:u8}(h:ns.length<64):uw [aR ns]=some (.new (aR (Dv.jb θ0))):=by show(oZ εl).bind _=_;rw[La];show(if ns.length<64 then _ else _)=_;rw[qaz h]
def uL(ns:u8):ns=Dv.jb θ0 ↔ ns.Pairwise (· < ·):=
 ⟨λh=>by rw[h];exact C6 (Hj ns),λh=>(NG (C6 (Hj ns)) h λx=>by rw[Hk,Ob]).symm⟩
theorem C7:∀(t:T) (n:Nat),t.ht<n->t.size<=1000->mK n [t.d]=some (.new (aR t.ino))
 |.nil,n+1,_,_=>by have:=line;have l0:0<=sizeLine:=qaZ _;simp[mK,Cy,aP,gam,T.d,T.ino,l0]
 |.node k l r,n+1,h,hs=>by
   have h1:l.ht<n:=by simp[T.ht]at h;omega
   have h2:r.ht<n:=by simp[T.ht]at h;omega
   simp[T.size]at hs;have i1:=C7 l n h1 ω;have i2:=C7 r n h2 ω;have:=line;have e2:l.size+1<=sizeLine:=by omega
   have e3:l.size+(1+r.size)<=sizeLine:=by omega
   have e4:l.size+1+r.size<=sizeLine:=by omega
   simp[mK,Cy,aP,gam,T.d,T.ino,at0,at1,at2,i1,i2,v5,eo,e2,e3,e4]
theorem C8:∀{t:T},AK t->(tl θM).count 40=t.size
 |.nil,_=>by rw[zg];rfl
 |.node k l r,⟨a,b,c⟩=>by rw[we];simp only[List.count_cons,List.count_append,C8 b,C8 c,List.count_eq_zero_of_not_mem (G1 a (by decide:40<48)),T.size,List.count_nil];simp
def wo{t:T}(h:t.B (-1) 31):t.ht<48:=by have:=zc h;have:=zb t;omega
def Hl(z:Str):pB [.str z]=some (.ok γ5):=by simp[pB,GC,fq,gam]
def Oc(z:Str)(o:Option T):Prop:=match o with
 |some t=>t.B (-1) 31/\z=tx t
 |none=>∀t:T,t.B (-1) 31->z≠tx t
def wq:Option T->Rx
 |some t=>.ok (.val t.d)
 |none=>.ex (xN 0)
def Y9{z:Str}(h3:z.length<=2000)(ha:asc z=true):∃o,Oc z o/\oh [.str z]=some (wq o):=by
 have ln:=line;have hl:z.length<=sizeLine:=by omega
 have e0:=Hl z;by_cases q:∃t:T,t.B (-1) 31/\z=tx t
 .obtain⟨t,hb,rfl⟩:=q;have e:=Hf t 48 θM 0 (-1) 31 (tx t).length h3 ha (wo hb) hb (by rw[List.drop_zero,qaG (by rw[gn];exact qah _)];simp);rw[Nat.zero_add,show((0:Nat):Int)=0 from rfl]at e;refine⟨some t,⟨hb,rfl⟩,?_⟩;have q:gE (.int ((tx t).length:Int)) (.int ((tx t).length:Int))=some γs:=zhE rfl;generalize tx t=z at *;simp[oh,vW,fq,gam,e,e0,hl,q,wq]
 .refine⟨none,λt hb e=>q ⟨t,hb,e⟩,?_⟩;rcases He 48 z 0 (-1) 31 h3 ha ξ ξ ξ with ⟨t,p,e,hb,rd⟩|e
  .rw[show((0:Nat):Int)=0 from rfl]at e
   have np:p≠z.length:=λep=>q ⟨t,hb,ext (by have:=rd.eq;rw[List.drop_zero,ep,qaG (by rw[gn];exact qah _)]at this;simpa using this)⟩
   have ne:gE (.int (p:Int)) (.int (z.length:Int))=some γy:=by
    rw[G7 (by intro x z;cases z)]
    have:eqB (.int (p:Int)) (.int (z.length:Int))=false:=by show((p:Int) == (z.length:Int))=false;simp;omega
    unfold r_;rw[this];rfl
   simp[oh,vW,fq,gam,e,e0,hl,ne,wq,xN]
  .rw[show((0:Nat):Int)=0 from rfl]at e;simp[oh,vW,fq,gam,e,e0,wq]
def ttX:Option T->D
 |some t=>t.d
 |none=>.str "none"
def cS{z y:Str}:Cv z [.str y]=some (.val η5):=rfl
def Y_{z:Str}{o:Option T}(h3:z.length<=2000)(ha:asc z=true)(ho:Oc z o):n_ [.str z]=some (.val (ttX o)):=by
 have ln:=line;have hl:z.length<=sizeLine:=by omega
 have ce:=cnt_eq z 40;rw[<-CZ]at ce;cases o with
 |some t =>
   obtain⟨hb,rfl⟩:=ho;have sz:=zc hb;have tc:=C8 (zh hb);rw[tc]at ce;have wt:Txt.count θM "(" < 40:=by omega
   have e:=Hi t 48 θM 0 (tx t).length h3 ha (wo hb) (zh hb) (by rw[List.drop_zero,qaG (by rw[gn];exact qah _)];simp);rw[Nat.zero_add,show((0:Nat):Int)=0 from rfl]at e;have k1:=C7 t 48 (wo hb) ω;have il:t.ino.length<64:=by rw[v5];omega
   have k2:=zj il;have up:t.ino.Pairwise (· < ·):=Up.pw ((v7 t _ _).mp hb).1;rw[<-(uL t.ino).mpr up]at k2;have k3:=zhE (CT t.ino);unfold aR at *;generalize t.ino.map D.int=P at *;generalize hz:tx t=z at *;simp[n_,uG,aP,gam,cS,wt,e,hl,qr,pG,k1,k2,k3,ttX]
 |none =>
   have no:∀t:T,t.B (-1) 31->z≠tx t:=ho;by_cases wt:Txt.count z "(" < 40
   .rcases Hh 48 z 0 h3 ha (by rw[List.drop_zero];omega) with ⟨t,p,e,ak,rd⟩|e
    .rw[show((0:Nat):Int)=0 from rfl]at e;by_cases ep:p=z.length
     .subst ep
      have ez:z=tx t:=ext (by have:=rd.eq;rw[List.drop_zero,qaG (by rw[gn];exact qah _)]at this;simpa using this)
      have tc:=C8 ak;rw[<-ez]at tc;have ts:t.size<40:=by rw[tc]at ce;omega
      have hh:=zb t;have k1:=C7 t 48 ω ω;have il:t.ino.length<64:=by rw[v5];omega
      have k2:=zj il;have nu:¬t.ino.Pairwise (· < ·):=λup=>no t ((v7 t _ _).mpr ⟨G2 up λk hk=>by have:=wg ak k hk;have:=this.lo;have:=(wg ak k hk).hi;omega,λk hk=>⟨(wg ak k hk).lo,(wg ak k hk).hi⟩⟩) ez;have k3:=ne_is t.ino (Dv.jb (dd t.ino));rw[qaY λq=>nu ((uL _).mp q)]at k3;unfold aR at *;generalize (Dv.jb (dd t.ino)).map D.int=Q at *;generalize t.ino.map D.int=P at *;simp[n_,uG,aP,gam,cS,wt,e,hl,qr,pG,k1,k2,k3,ttX]
     .have le:=rd.le;have lt:(p:Int)<z.length:=by omega
      simp[n_,uG,aP,gam,cS,wt,e,hl,qr,pG,lt,ttX]
    .rw[show((0:Nat):Int)=0 from rfl]at e;simp[n_,uG,aP,gam,cS,wt,e,ttX]
   .simp[n_,uG,aP,gam,cS,wt,ttX]
end dW
namespace dW
open PySem L2 Ex Dv Tr St So Bp Tx StrLaws
def mN(ks:u8):Prop:=∀k∈ks,Key k
abbrev ro(ks:u8):Str:=jn " " (ks.map kt)
def Hm{ks:u8}(h:mN ks):(ro ks).length<=ks.length*3:=by
 have:=za wa (ts:=ks.map kt) (B:=2) λt ht=>by obtain⟨k,hk,rfl⟩:=qaF.mp ht;exact(kt_len (h k hk)).2
 simpa using this
def Hn{ks:u8}(h:mN ks)(hl:ks.length<=1000):JoinOk " " (ks.map kt)=true:=
 Nz wa (B:=2) (λt ht=>by obtain⟨k,hk,rfl⟩:=qaF.mp ht;exact(kt_len (h k hk)).2) (by rw[qag];omega)
def Ho{ks:u8}{Γ:En}(h:mN ks):fm [] 1 ζh γn (cD sP γr) θN Γ=.ok ((ks.map kt).map D.str) Γ:=by rw[qbo];refine uK D.int (λk=>D.str θc) rfl λk hk=>?_;have lg:=Ny (h k hk);exact⟨[some (.ae,.int k)],by simp[dU,lg],rfl⟩
def Od{ds:γe}{i:Nat}{x:D}(h:(o3 ds)[i]?=some x):∃d,ds[i]?=some d/\x=.tup [.int i,d]:=by
 unfold o3 at h;rw[qaE]at h;cases q:ds.zipIdx[i]? with
 |none=>rw[q]at h;cases h
 |some p =>
   rw[q]at h;cases h;rw[List.getElem?_zipIdx]at q;cases e:ds[i]? with
   |none=>rw[e]at q;cases q
   |some d=>rw[e]at q;cases q;exact⟨d,rfl,by simp⟩
def Za:1000000<=sizeLine:=by decide
theorem Hq:∀{t:T}{lo hi:Int},t.B lo hi->(tx t).length<=7*t.size+1
 |.nil,_,_,_=>by decide +kernel
 |.node k l r,lo,hi,⟨⟨b1,b2⟩,_,b5,b6⟩=>by have a:=Hq b5;have b:=Hq b6;have c:=(kt_len ⟨b1,b2⟩).2;have e:=congrArg List.length (we k l r);simp only[List.length_cons,List.length_append,gn,List.length_nil]at e;simp only[T.size];omega
def Hr{t:T}{lo hi:Int}(h:t.B lo hi)(hs:t.size<=31):(tx t).length<=218:=by have:=Hq h;omega
theorem Hs:∀(t:T) (lo hi:Int) (n:Nat),t.ht<n->t.B lo hi->t.size<=31->mL n [t.d]=some (.val (.str θM))
 |.nil,lo,hi,n+1,_,_,_=>by simp[mL,CO,aP,gam,T.d,tx]
 |.node k l r,lo,hi,n+1,h,hb,hs=>by
   have h1:l.ht<n:=by simp[T.ht]at h;omega
   have h2:r.ht<n:=by simp[T.ht]at h;omega
   obtain⟨⟨b1,b2⟩,⟨b3,b4⟩,b5,b6⟩:=hb;simp only[T.size]at hs;have i1:=Hs l lo k n h1 b5 ω;have i2:=Hs r k hi n h2 b6 ω;have ln:=line;have s1:=Hr b5 ω;have s2:=Hr b6 ω;have lk:=(kt_len (i:=k) ⟨b1,b2⟩).2;have lg:=Ny (i:=k) ⟨b1,b2⟩;have z1:("(":Str).length=1:=by decide +kernel
   have z2:(")":Str).length=1:=by decide +kernel
   have z3:=wa
   have ex:tx (.node k l r) = "(" ++ kt k ++ " " ++ (tx l ++ " " ++ tx r) ++ ")":= ext (by show tl ("(" ++ kt k ++ " " ++ tx l ++ " " ++ tx r ++ ")")=_;simp only[mM,List.append_assoc])
   rw[ex];generalize hK:kt k=K at *;generalize tx l=A at *;generalize tx r=B at *;have q1:A.length+(" ":Str).length<=sizeLine:=by omega
   have q2:(A ++ " ":Str).length+B.length<=sizeLine:=by simp only[Str.length_append];omega
   have q3:("(":Str).length+K.length<=sizeLine:=by omega
   have q4:("(" ++ K:Str).length+(" ":Str).length<=sizeLine:=by simp only[Str.length_append];omega
   have q5:("(" ++ K ++ " ":Str).length+(A ++ " " ++ B:Str).length<=sizeLine:=by simp only[Str.length_append];omega
   have q6:("(" ++ K ++ " " ++ (A ++ " " ++ B):Str).length+(")":Str).length<=sizeLine:=by simp only[Str.length_append];omega
   simp[mL,CO,aP,gam,T.d,at0,at1,at2,i1,i2,lg,hK,q1,q2,q3,q4,q5,q6]
noncomputable def pJ(x:Int):T->T
 |.nil=>.node x .nil .nil
 |.node k l r=>if x<k then .node k (pJ x l) r else if k<x then .node k l (pJ x r) else .node k l r
theorem Ht{x:Int}(hx:0<=x/\x<=30):∀{t:T}{lo hi:Int},t.B lo hi->lo<x->x<hi->(pJ x t).B lo hi
 |.nil,lo,hi,_,h1,h2=>⟨hx,⟨h1,h2⟩,trivial,trivial⟩
 |.node k l r,lo,hi,⟨a,b,c,d⟩,h1,h2=>by
   unfold pJ;split
   .rename_i q;exact⟨a,b,Ht hx c h1 q,d⟩
   .split
    .rename_i q;exact⟨a,b,c,Ht hx d q h2⟩
    .exact⟨a,b,c,d⟩
theorem Hu(x:Int):∀(t:T) (n:Nat),t.ht<n->lj n [t.d,.int x]=some (.val (pJ x t).d)
 |.nil,n+1,_=>by
   have:=line;have e1:3<=sizeLine:=by omega
   simp[lj,vZ,aP,gam,T.d,pJ,e1]
 |.node k l r,n+1,h=>by
   have h1:l.ht<n:=by simp[T.ht]at h;omega
   have h2:r.ht<n:=by simp[T.ht]at h;omega
   have i1:=Hu x l n h1;have i2:=Hu x r n h2;have:=line;have e1:3<=sizeLine:=by omega
   by_cases q:x<k
   .simp[lj,vZ,aP,gam,T.d,pJ,e1,i1,i2,at0,at1,at2,q]
   .by_cases q':k<x
    .simp[lj,vZ,aP,gam,T.d,pJ,e1,i1,i2,at0,at1,at2,q,q']
    .simp[lj,vZ,aP,gam,T.d,pJ,e1,i1,i2,at0,at1,at2,q,q']
def Zb{ks:u8}(h:mN ks)(hl:ks.length<=1000):∃t:T,yW [aR ks]=some (.val t.d)/\t.B (-1) 31:=by
 have ln:=line
 obtain⟨Γ',hlp,t,t2,rfl,hb⟩:=BH (m:=gN 2) (s:=GN) (λi Γ=>∃(t:T) (t2:Sl),Γ=[some (.ae,aR ks),some (.ae,t.d),t2]/\t.B (-1) 31) (ds:=ks.map D.int) (Γ:=[some (.ae,aR ks),some (.ae,.aq),none]) ⟨.nil,none,rfl,trivial⟩ (by
  rintro i d Γ hd ⟨t,t2,rfl,hb⟩;rw[qaE]at hd;cases q:ks[i]? with
  |none=>rw[q]at hd;cases hd
  |some k =>
    rw[q]at hd;cases hd;have hk:=h k (qaB q);have e:=Hu k t 48 (wo hb);refine⟨[some (.ae,aR ks),some (.ae,t.d),some (.ae,.int k)],[some (.ae,aR ks),some (.ae,(pJ k t).d),some (.ae,.int k)],by simp,.inl (by simp[GN,e]),pJ k t,_,rfl,Ht ⟨hk.lo,hk.hi⟩ hb (by have:=hk.lo;omega) (by have:=hk.hi;omega)⟩)
 refine⟨t,?_,hb⟩;simp[yW,GO,aP,gam,hlp]
noncomputable def oi(i:Nat)(ds:γe):List D:=(ds.zipIdx i).map λp=>D.tup [.int p.2,p.1]
def Hv(i:Nat)(d:D)(r:γe):oi i (d::r)=.tup [.int i,d]::oi (i+1) r:=rfl
def Hw(ds:γe):o3 ds=oi 0 ds:=rfl
def zk:D->D
 |.tup [a,b]=>.tup [b,a]
 |d=>d
def Oe{ds:γe}{Γ:En}(h:∀d∈ds,∃a b,d=.tup [a,b]):fm [] 2 γi γn (d_ (ZY γj (ZY ι (M.pure [])))) ds Γ=.ok (ds.map zk) Γ:=by have ln:=line;refine Md zk λd hd=>?_;obtain⟨a,b,rfl⟩:=h d hd;refine⟨[some (.ae,a),some (.ae,b)],?_,rfl⟩;simp[dU,zk,eo]
theorem Of:∀{cs:P3},(∀c∈cs,eK c)->asP (cs.map pD)=some cs
 |[],_=>rfl
 |c::r,h=>by obtain⟨⟨h1,h2⟩,h3,h4⟩:=h c (qaj ..);rw[qaP];show(if decide (0<=c.1)&&decide (c.1<=30)&&decide (0<=c.2)&&decide (c.2<=30) then (asP (r.map pD)).map (c :: ·) else none)=_;rw[qaz (by simp only[Bool.and_eq_true,decide_eq_true_eq];exact⟨⟨⟨h1,h2⟩,h3⟩,h4⟩),Of λx hx=>h x δP];rfl
abbrev sw(cs:P3):List D:=(cs.map pD).map zk
def pK(cs:P3):(sw cs).length=cs.length:=by simp
def Hx(c:Int×Int)(r:P3):sw (c::r)=.tup [.int c.2,.int c.1]::sw r:=rfl
theorem Og:∀cs:P3,(sw cs).map zk=cs.map pD
 |[]=>rfl
 |c::r=>by rw[Hx,qaP,qaP,Og r];rfl
def Zc(cs:P3):∀d∈cs.map pD,∃a b,d=D.tup [a,b]:=λd hd=>by obtain⟨c,_,rfl⟩:=qaF.mp hd;exact⟨_,_,rfl⟩
def zo{cs:P3}{d:D}(h:d∈sw cs):∃c∈cs,d=.tup [.int c.2,.int c.1]:=by obtain⟨e,he,rfl⟩:=qaF.mp h;obtain⟨c,hc,rfl⟩:=qaF.mp he;exact⟨c,hc,rfl⟩
def Zd(cs:P3):∀d∈sw cs,∃a b,d=D.tup [a,b]:=λd hd=>by obtain⟨c,_,rfl⟩:=zo hd;exact⟨_,_,rfl⟩
def Hy(cs:P3):(ef cs).length<=cs.length:=by
 rw[(F7 cs).length_eq]
 have go:∀(l σ:P3),(l.foldl PyProof.Rows.step_dedup σ).length<=σ.length+l.length:=by
  intro l;induction l with
  |nil=>intro σ;simp
  |cons c r ih =>
    intro σ;rw[List.foldl_cons];refine qaJ (ih _) ?_;unfold PyProof.Rows.step_dedup;split<;>simp<;>omega
 have:=go cs [];simpa [yu]using this
def Ze{cs:P3}{Γ:En}:fm [] 2 γi γn (d_ (ZY γj (ZY ι (M.pure [])))) ζR Γ=.ok (cs.map pD) Γ:=by have z:=Oe (Γ:=Γ) (Zd cs);rw[Og]at z;exact z
def Zf{cs:P3}{Γ:En}:fm [] 2 γi γn (d_ (ZY γj (ZY ι (M.pure [])))) (cs.map pD) Γ=.ok ζR Γ:=Oe (Zc cs)
def order_eq{cs:P3}(sm:∀c∈cs,eK c)(hl:cs.length<=200):yM [.lst ζR]=some (.new (.lst (sw εu))):=by
 have ln:=line;have l1:(sw cs).length<256:=by rw[pK];omega
 have l2:((ef cs).map pD).length<sizeLine:=by rw[qag];have:=Hy cs;omega
 have e1:=λΓ=>Ze (cs:=cs) (Γ:=Γ);have e2:=λΓ=>Zf (cs:=ef cs) (Γ:=Γ);have e3:=Of sm;generalize hS:sw cs=S at *;generalize hT:sw εu=T at *;generalize hP:cs.map pD=P at *;generalize hQ:(ef cs).map pD=Q at *;simp[yM,GD,aP,gam,l1,e1,e3,hQ,l2,e2]
def Zg(k i:Int):sT [.tup [.int k,.int i]]=some (.val (.bl ((decide (0<=k)&&decide (k<=30))&&(decide (0<=i)&&decide (i<=30))))):=by have q:c_ (.int 2) (.int 2)=some γy:=G8 ξ;have k1:=G9 k;have k2:=G9 i;generalize (decide (0<=k)&&decide (k<=30))=b1 at *;generalize (decide (0<=i)&&decide (i<=30))=b2 at *;cases b1<;>cases b2<;>simp[sT,GF,aP,gam,q,qr,pG,k1,k2]
def Zh{c:Int×Int}(h:eK c):sT [.tup [.int c.2,.int c.1]]=some γy:=by obtain⟨⟨h1,h2⟩,h3,h4⟩:=h;rw[Zg];simp[h1,h2,h3,h4]
theorem Oh{x0:Sl}:∀(ds:γe) (i:Nat) (x1 x2:Sl),(∀d∈ds,sT [d]=some γy) ->
 ∃y1 y2,iS (gT 2 δN) GG (oi i ds) [x0,x1,x2]=.ok .nx [x0,y1,y2]
 |[],i,x1,x2,_=>⟨x1,x2,rfl⟩
 |d::r,i,x1,x2,h=>by obtain⟨y1,y2,ih⟩:=Oh (x0:=x0) r (i+1) (some (.ae,.int i)) (some (.ae,d)) λb hb=>h b (qaf _ hb);refine⟨y1,y2,?_⟩;rw[Hv,o7];rw[<-ih];simp[GG,h d (List.mem_cons_self ..)]
def Oi{ds:γe}(hl:ds.length<=200)(h:∀d∈ds,sT [d]=some γy):yN [.lst ds]=some γ5:=by
 obtain⟨y1,y2,hy⟩:=Oh (x0:=some (.ae,.lst ds)) ds 0 none none h;have h1:¬(200<(ds.length:Int)):=by omega
 unfold yN;unfold GH;simp[aP,gam,h1,Hw,hy]
noncomputable abbrev pO(ds:γe):D:=.obj .Points ["held"] [.lst ds]
theorem Hz:∀cs:P3,jF ζR=true
 |[]=>rfl
 |c::r=>Hz r
def Zi{cs:P3}(sm:∀c∈cs,eK c)(hl:cs.length<=200):sU [.lst ζR]=some (.ok (.val (pO (sw εu)))):=by have e1:=order_eq sm ω;have e2:=Oi (ds:=sw cs) (by rw[pK];omega) (λd hd=>by obtain⟨c,hc,rfl⟩:=zo hd;exact Zh (sm c hc));have e3:=Hz εu;generalize sw cs=S at *;generalize sw εu=T at *;simp[sU,Dv.runN,q0,CC,CD,CF,gam,e1,e2,e3,vP,isNone]
def Zk(ds:γe):yL [pO ds]=some (.new ζ4):=by simp[yL,GA,aP,gam,Yw]
def uM(i j:Int):c_ γ1 θm=some (.val (.bl (decide (i=j)))):=by
 have:eqB γ1 θm=decide (i=j):=by show(i == j)=_;by_cases h:i=j<;>simp[h]
 rw[G6 (by intro x z;cases z)];unfold r9;rw[this];rfl
noncomputable def fK(m:Int):D->Option D
 |.tup [a,.int i]=>if i=m then some a else none
 |_=>none
theorem Oj(m:Int):∀cs:P3,(sw cs).filterMap (fK m)=(gQ cs m).map D.int
 |[]=>rfl
 |c::r=>by rw[Hx,qbx];rw[show fK m (.tup [.int c.2,.int c.1])=if c.1=m then some (D.int c.2) else none from rfl];have ih:=Oj m r;unfold gQ at ih ⊢;rw[List.filter_cons,ih];by_cases h:c.1=m<;>simp[h]
def Ol(cs:P3)(m:Int):(gQ cs m).length<=cs.length:=by unfold gQ;rw[qag];exact List.length_filter_le ..
def Zl{cs:P3}{Γ:En}:fm [] 2 γi γn γj ζR Γ=.ok ((cs.map (·.1)).map D.int) Γ:=by
 have e:(sw cs).map (λd=>match d with|.tup [_,a]=>a|d=>d)=(cs.map (·.1)).map D.int:=by
  induction cs with
  |nil=>rfl
  |cons c r ih=>rw[Hx,qaP,ih];rfl
 rw[<-e];refine Md _ λd hd=>?_;obtain⟨c,hc,rfl⟩:=zo hd;exact⟨[some (.ae,.int c.2),some (.ae,.int c.1)],by simp[dU],rfl⟩
def Zm{l:u8}(hn:l.Nodup)(h:∀x∈l,0<=x/\x<=30):l.length<=31:=by
 have u:Up (-1) 31 (Dv.jb l):=G2 (C6 hn) λk hk=>by have:=h k ((Hk l k).mp hk);omega
 have:=Up.len u ω;rw[(Bd l).length_eq]at this;omega
theorem Om:∀{ns:u8},ns≠[]->jH ns∈ns/\∀a∈ns,a<=jH ns
 |[],h=>absurd rfl h
 |[n],_=>⟨by simp[jH],λa ha=>by simp at ha;simp[jH,ha]⟩
 |n::m::r,_=>by
   obtain⟨h1,h2⟩:=Om (ns:=m::r) (by simp);have e:jH (n::m::r)=max n (jH (m::r)):=rfl;rw[e];refine⟨?_,λa ha=>?_⟩
   .by_cases q:n<=jH (m::r)
    .rw[Int.max_eq_right q];exact qaf _ h1
    .rw[Int.max_eq_left ω];exact qaj ..
   .rcases qav.mp ha with rfl|ha
    .omega
    .have:=h2 a ha;omega
structure Lst(cs:P3)(L:Int):Prop where
 all:∀c∈cs,c.1<=L
 one:L = -1/\cs=[]\/∃c∈cs,c.1=L
def Lst.uniq{cs ds:P3}{L L':Int}(h:Lst cs L)(h':Lst ds L')(hm:∀c,c∈cs ↔ c∈ds):L=L':=by
 rcases h.one with ⟨rfl,rfl⟩|⟨c,hc,rfl⟩
 .rcases h'.one with ⟨rfl,_⟩|⟨c,hc,_⟩
  .rfl
  .exact absurd ((hm c).mpr hc) (by simp)
 .rcases h'.one with ⟨_,rfl⟩|⟨d,hd,rfl⟩
  .exact absurd ((hm c).mp hc) (by simp)
  .have:=h.all d ((hm d).mpr hd);have:=h'.all c ((hm c).mp hc);omega
def Oo{cs:P3}(sm:∀c∈cs,eK c):∃L,yf [.lst ((cs.map (·.1)).map D.int++[.int (-1)])]=some (.val (.int L))/\Lst cs L:=by
 obtain⟨h1,h2⟩:=Om (ns:=cs.map (·.1)++[-1]) (by simp);refine⟨jH (cs.map (·.1)++[-1]),?_,λc hc=>h2 _ (by simp;exact .inl ⟨c.2,hc⟩),?_⟩
 .have e:oZ ((cs.map (·.1)).map D.int++[.int (-1)])=some (cs.map (·.1)++[-1]):=by have:=La (cs.map (·.1)++[-1]);rwa[qbj]at this
  unfold yf
  dsimp only
  rw[e]
  cases q:cs.map (·.1)++[-1] with
  |nil=>simp at q
  |cons a r=>rfl
 .rcases qaK.mp h1 with h|h
  .obtain⟨c,hc,e⟩:=qaF.mp h;exact .inr ⟨c,hc,e⟩
  .have e:jH (cs.map (·.1)++[-1]) = -1:=by simpa using h
   rw[e];refine .inl ⟨rfl,?_⟩;cases cs with
   |nil=>rfl
   |cons c r =>
     have a:=h2 c.1 (by simp);have b:=(sm c (qaj ..)).1.1;rw[e]at a;omega
structure Ord(S:P3):Prop where
 sm:∀c∈S,eK c
 pw:S.Pairwise λa b=>enc a<enc b
def zt{cs:P3}(sm:∀c∈cs,eK c):Ord εu:=⟨λc hc=>sm c (dw.mp hc),by
 refine((ME cs).and (MD cs)).imp_of_mem λ{a b} ha hb h=>?_;have sa:=sm a (dw.mp ha);have sb:=sm b (dw.mp hb)
 have:enc a≠enc b:=λe=>h.2 (by obtain⟨⟨a1,a2⟩,a3,a4⟩:=sa;obtain⟨⟨b1,b2⟩,b3,b4⟩:=sb;unfold enc at e;exact Prod.ext ω ω)
 have:=h.1;omega⟩
def Ord.up{S:P3}(h:Ord S)(m:Int):(gQ S m).Pairwise (· < ·):=by
 unfold gQ;rw[List.pairwise_map];refine(h.pw.sublist List.filter_sublist).imp_of_mem λ{a b} ha hb e=>?_;obtain⟨ha1,ha2⟩:=List.mem_filter.mp ha;obtain⟨hb1,hb2⟩:=List.mem_filter.mp hb;have ha2:a.1=m:=by simpa using ha2
 have hb2:b.1=m:=by simpa using hb2
 rcases(F5 (h.sm a ha1) (h.sm b hb1)).mp e with q|⟨_,q⟩<;>omega
def Ord.keys{S:P3}(h:Ord S)(m:Int):mN (gQ S m):=λk hk=>by have:=(h.sm _ (jJ.mp hk)).2;exact⟨this.1,this.2⟩
def Ord.zu{S:P3}(h:Ord S)(m:Int):(gQ S m).length<=31:=
 Zm ((h.up m).imp λh=>by omega) λx hx=>⟨(h.keys m x hx).lo,(h.keys m x hx).hi⟩
def Zn{cs:P3}(sm:∀c∈cs,eK c)(m:Int):Dv.jb (dd (gQ cs m))=gQ εu m:=
 NG (C6 (Hj _)) ((zt sm).up m) λx=>by rw[Hk,Ob,jJ,jJ,dw]
def mO(ks:u8):Str:=if ks=[] then "-" else ro ks
def Zo:mO [] = "-":= rfl
def Zp{ks:u8}(h:ks≠[]):mO ks=ro ks:=qax h
def Zq{ks:u8}(h:mN ks)(hl:ks.length<=31):(mO ks).length<=93:=by
 unfold mO;split
 .decide +kernel
 .have:=Hm h;omega
theorem HA:∀{ks:u8},mN ks->∀c∈tl (ro ks),c=32\/(48<=c/\c<=57)
 |[],_,c,hc=>by rw[show tl (ro [])=[] by decide +kernel]at hc;simp at hc
 |[k],h,c,hc=>.inr (CQ (h k (qaj ..)) c (by
   have e:ro [k]=kt k:=by unfold ro jn;rw[uJ];rfl
   rwa[e]at hc))
 |k::q::r,h,c,hc=>by
   have e:tl (ro (k::q::r))=tl θc++32::tl (ro (q::r)):=by unfold ro jn;rw[uJ,uJ,nD];exact v3 θc (kt q) (r.map kt)
   rw[e]at hc;rcases qaK.mp hc with hc|hc
   .exact .inr (CQ (h k (qaj ..)) c hc)
   .rcases qav.mp hc with rfl|hc
    .exact .inl rfl
    .exact HA (ks:=q::r) (λx hx=>h x δP) c hc
def rws(S:P3)(n:Nat):v6:=(List.range n).map λ(m:Nat)=>mO (gQ S m)
def C9(S:P3)(n:Nat):(rws S n).length=n:=by simp[rws]
def HB{S:P3}{n:Nat}{t:Str}(h:t∈rws S n):∃m:Nat,t=mO (gQ S m):=by obtain⟨m,_,rfl⟩:=qaF.mp h;exact⟨m,rfl⟩
abbrev pt(S:P3)(n:Nat):Str:=jn "\n" (rws S n)
def Zr{S:P3}(h:Ord S){n:Nat}(hn:n<=31):JoinOk "\n" (rws S n)=true/\(pt S n).length<=5000:=by
 have b:∀t∈rws S n,t.length<=93:=λt ht=>by obtain⟨m,rfl⟩:=HB ht;exact Zq (h.keys m) (h.zu m)
 refine⟨Nz wc b (by rw[C9];omega),?_⟩;have:=za wc b;rw[C9]at this;show(jn "\n" (rws S n)).length<=5000;omega
def Zs{cs:P3}{m:Int}{x0 x1 x2 x4:Sl}:fm [3] 2 γi (M.bind (op2 c_ γj εN) aO) ι ζR [x0,x1,x2,some (.ae,.int m),x4]=.ok ((gQ cs m).map D.int) [x0,x1,x2,some (.ae,.int m),x4]:=by rw[<-Oj];refine BJ (fK m) ζR λd hd=>?_;obtain⟨c,hc,rfl⟩:=zo hd;refine⟨[some (.ae,.int c.2),some (.ae,.int c.1),some (.ae,.int m)],?_,rfl⟩;have e:=uM c.1 m;by_cases h:c.1=m<;>simp[dU,uM,h,fK]
def C_(ns:u8):c_ (aR ns) (.lst [])=some (.val (.bl ns.isEmpty)):=by rw[G6 (by intro x z;cases z)];unfold r9;rw[CT,NF];simp;rfl
def Zt{ks:u8}(h:mN ks)(hl:ks.length<=31):vY [aR ks]=some (.val (.str (mO ks))):=by
 have ln:=line;have l0:0<=sizeLine:=qaZ _;have e0:=C_ ks;cases ks with
 |nil=>simp[vY,CM,aP,gam,e0,l0,Zo]
 |cons k r =>
   rw[Zp (by simp)];have e1:=λΓ=>Ho (Γ:=Γ) h;have e2:=y_ (Hn h ω);have l3:((k::r).map D.int).length<sizeLine:=by rw[qag];omega
   rw[show Txt.join " " ((k::r).map kt)=ro (k::r) from rfl]at e2;rw[show(k::r).isEmpty=false from rfl]at e0;unfold aR at *;generalize ro (k::r)=z at *;generalize ((k::r).map kt).map D.str=S at *;generalize (k::r).map D.int=P at *;simp[vY,CM,aP,gam,e0,e1,e2,l0,l3]
def Zu{cs:P3}(sm:∀c∈cs,eK c)(hl:cs.length<=200)(m:Nat)(hk:(gQ cs m).length<64){R:γe}(hR:R.length<1000){x2 x4:Sl}:∃y4,CN [some (.ae,.lst ζR),some (.own,.lst R),x2,some (.ae,.int m),x4]=.ok .nx [some (.ae,.lst ζR),some (.own,.lst (R++[.str (mO (gQ εu m))])),x2,some (.ae,.int m),y4]:=by
 have ln:=line;have e1:=λx0 x1 x2 x4=>Zs (cs:=cs) (m:=m) (x0:=x0) (x1:=x1) (x2:=x2) (x4:=x4);have e2:=zj hk;rw[Zn sm]at e2;have e3:=Zt ((zt sm).keys m) ((zt sm).zu m);have l1:(sw cs).length<sizeLine:=by rw[pK];omega
 have l2:R.length<sizeLine:=by omega
 unfold aR at *;generalize mO (gQ εu m)=z at *;generalize (gQ εu m).map D.int=A at *;generalize (gQ cs m).map D.int=B at *;generalize sw cs=S at *;exact⟨some (.own,.lst A),by simp[CN,e1,e2,e3,l1,l2]⟩
def Zv{lo:Int}{n i:Nat}{d:D}(h:(ir lo n)[i]?=some d):d=.int (lo+i)/\i<n:=by
 unfold ir at h;rw[qaE]at h;cases q:(List.range n)[i]? with
 |none=>rw[q]at h;cases h
 |some j =>
   rw[q]at h;cases h;obtain⟨h1,h2⟩:=qac.mp q;rw[List.getElem_range]at h2;subst h2;exact⟨rfl,by simpa using h1⟩
def Oq(S:P3)(n:Nat):rws S (n+1)=rws S n++[mO (gQ S n)]:=by unfold rws;rw[List.range_succ,qbj];rfl
def Zw{cs:P3}(sm:∀c∈cs,eK c)(hl:cs.length<=200)(hk:∀m:Nat,(gQ cs m).length<64){n:Nat}(hn:n<=31)(hL:Lst cs ((n:Int)-1)):yV [.lst ζR]=some (.val (.str (pt εu n))):=by
 have ln:=line;have l0:0<=sizeLine:=qaZ _;obtain⟨L,eL,hL'⟩:=Oo sm;have:L=(n:Int)-1:=hL'.uniq hL λc=>Iff.rfl;subst this
 obtain⟨Γ',hlp,x3,x4,rfl⟩:=BH (m:=gN 3) (s:=CN) (λi Γ=>∃x3 x4:Sl,Γ=[some (.ae,.lst ζR),some (.own,.lst ((rws εu i).map D.str)),some (.ae,.int ((n:Int)-1)),x3,x4]) (ds:=ir 0 n) (Γ:=[some (.ae,.lst ζR),some (.own,.lst []),some (.ae,.int ((n:Int)-1)),none,none]) ⟨none,none,rfl⟩ (by rintro i d Γ hd ⟨x3,x4,rfl⟩;obtain⟨rfl,hi⟩:=Zv hd;obtain⟨y4,e⟩:=Zu sm hl i (hk i) (R:=(rws εu i).map D.str) (by rw[qag,C9];omega) (x2:=some (.ae,.int ((n:Int)-1))) (x4:=x4);rw[show(0:Int)+(i:Int)=i by omega];exact⟨[some (.ae,.lst ζR),some (.own,.lst ((rws εu i).map D.str)),some (.ae,.int ((n:Int)-1)),some (.ae,.int i),x4],_,by simp,.inl e,some (.ae,.int i),y4,by rw[Oq,qbj];rfl⟩)
 have e1:=λΓ=>Zl (cs:=cs) (Γ:=Γ);have lu:(ir 0 n).length=n:=by simp[ir]
 rw[lu]at hlp;have e2:=y_ (Zr (zt sm) hn).1;rw[show Txt.join "\n" (rws εu n)=pt εu n from rfl]at e2;have l1:(sw cs).length<sizeLine:=by rw[pK];omega
 have l2:((cs.map (·.1)).map D.int).length+1<=sizeLine:=by rw[qag,qag];omega
 unfold yV;unfold GL;generalize pt εu n=z at *;generalize (rws εu n).map D.str=W at *;generalize (cs.map (·.1)).map D.int=P at *;generalize sw cs=S at *;have sn:small (n:Int)=true:=yh ω;simp[aP,gam,e1,e2,eL,l0,l1,l2,eo,sn,hlp]
def oj(r:Str):Option (u8):=if r = "-" then some [] else nE r
noncomputable def lk(ks:u8):Nat:=if ks=[] then 1 else 0
def sV(m many:Nat)(ks:u8):Prop:=ks.Pairwise (· < ·)/\m+lk ks<=30/\many+ks.length+lk ks<=200
def stp(m many:Nat)(r:Str):Option (u8):=match oj r with
 |none=>none
 |some ks=>if cd (sV m many ks) then some ks else none
structure wu(r:Str):Prop where
 as:asc r=true
 le:r.length<=2000
 ws:(Txt.split r " ").length<64
def HC{r:Str}{ks:u8}(h:oj r=some ks):mN ks/\(ks=[] ↔ r = "-")/\((Txt.split r " ").length<64->ks.length<64):=by
 unfold oj at h;by_cases q:r = "-"
 .rw[qaz q]at h;cases h;exact⟨by intro k hk;simp at hk,by simp[q],by simp⟩
 .rw[qax q]at h;obtain⟨a,b,_⟩:=CU (show lq (Txt.split r " ")=some ks from h);refine⟨a,⟨λe=>?_,λe=>absurd e q⟩,λhw=>by omega⟩;subst e;have:=yY r " ";exact absurd (qbp.mp b.symm) this
def sW(m:Nat):Option (u8)->Rx
 |none=>.ex (xN m)
 |some ks=>.ok (.new (aR ks))
def Zx{P:γe}{m many z:Nat}{b:Bool}{x0 x4:Sl}(e3:c_ (.lst P) (.lst [])=some (.val ζc))(hz:(if b then 1 else 0)=z):qX (aA CH yP [x0,some (.ae,.int m),some (.ae,.int many),some (.own,.lst P),x4])=some (if cd (m+z<=30/\many+P.length+z<=200) then .ok (.new (.lst P)) else .ex (xN m)):=by
 have hZ:CH [x0,some (.ae,.int m),some (.ae,.int many),some (.own,.lst P),x4]=.ok .nx [x0,some (.ae,.int m),some (.ae,.int many),some (.own,.lst P),some (.ae,.int z)]:=by cases b<;>cases hz<;>simp[CH,e3]
 by_cases c1:m+z<=30
 .have d1:¬((30:Int)<(m:Int)+z):=by omega
  by_cases c2:many+P.length+z<=200
  .have d2:¬((200:Int)<(many:Int)+P.length+z):=by omega
   rw[qaz (iR ⟨c1,c2⟩)];simp[hZ,yP,d1,d2]
  .have d2:(200:Int)<(many:Int)+P.length+z:=by omega
   rw[qax (by rw[v8 λh=>c2 h.2];simp)];simp[hZ,yP,d1,d2,xN]
 .have d1:(30:Int)<(m:Int)+z:=by omega
  rw[qax (by rw[v8 λh=>c1 h.1];simp)];simp[hZ,yP,d1,xN]
def Zy{r:Str}(hr:wu r)(m many:Nat):uH [.str r,.int m,.int many]=some (sW m (stp m many r)):=by
 have e4:=NY hr.as hr.le
 have hA:CG [some (.ae,.str r),some (.ae,.int m),some (.ae,.int many),none,none]=.ok .nx [some (.ae,.str r),some (.ae,.int m),some (.ae,.int many),(match oj r with|some ks=>some (.own,aR ks)|none=>some (.ae,.aq)),none]:=by
  unfold oj;by_cases q:r = "-"
  .rw[qaz q];simp[CG,q]
  .rw[qax q];cases hk:nE r<;>rw[hk]at e4<;>simp[CG,eq_false q,e4,oL]
 unfold stp;cases hk:oj r with
 |none =>
   rw[hk]at hA;simp[uH,yQ,fq,gam,hA,yO,sW,xN]
 |some ks =>
   rw[hk]at hA;obtain⟨kk,kn,kl⟩:=HC hk;have e1:=zj (kl hr.ws);have e2:=ne_is ks (Dv.jb (dd ks));have e5:=Zx (x0:=some (.ae,.str r)) (m:=m) (many:=many) (x4:=none) (C_ ks) (z:=lk ks) (by cases ks<;>rfl);have pl:(ks.map D.int).length=ks.length:=by simp
   rw[pl]at e5;dsimp only at hA ⊢;unfold aR at *;by_cases up:ks.Pairwise (· < ·)
   .rw[qaN ((uL ks).mpr up)]at e2
    have hB:yO [some (.ae,.str r),some (.ae,.int m),some (.ae,.int many),some (.own,.lst θN),none]=.ok .nx [some (.ae,.str r),some (.ae,.int m),some (.ae,.int many),some (.own,.lst θN),none]:=by generalize (Dv.jb (dd ks)).map D.int=Q at *;generalize ks.map D.int=P at *;simp[yO,e1,e2]
    have e6:cd (m+lk ks<=30/\many+ks.length+lk ks<=200)=cd (sV m many ks):=by
     by_cases c:m+lk ks<=30/\many+ks.length+lk ks<=200
     .rw[iR c,iR ⟨up,c⟩]
     .rw[v8 c,v8 λh=>c h.2]
    rw[e6]at e5;have o1:sW m ζI=.ok (.new δd):=rfl;have o2:sW m none=.ex (xN m):=rfl;rw[apply_ite (sW m),o1,o2];generalize ks.map D.int=P at *;simpa [uH,yQ,fq,gam,hA,hB]using e5
   .rw[qaY λz=>up ((uL ks).mp z)]at e2;rw[qax (by rw[v8 λh=>up h.1];simp)];generalize (Dv.jb (dd ks)).map D.int=Q at *;generalize ks.map D.int=P at *;simp[uH,yQ,fq,gam,hA,yO,e1,e2,xN,sW]
def ku:v6->Nat->P3->Nat ⊕ P3
 |[],_,pts=>.inr pts
 |r::rs,m,pts=>match stp m pts.length r with
   |none=>.inl m
   |some ks=>ku rs (m+1) (pts++ks.map λk=>((m:Int),k))
def HD{m many:Nat}{r:Str}{ks:u8}(h:stp m many r=some ks):oj r=some ks/\sV m many ks:=by
 unfold stp at h;cases e:oj r with
 |none=>rw[e]at h;cases h
 |some js =>
   rw[e]at h;dsimp only at h;split at h
   .rename_i c;cases h;exact⟨rfl,lL c⟩
   .cases h
def Ot(a b:P3):sw (a++b)=sw a++sw b:=by unfold sw;rw[List.map_append,List.map_append]
def ye{ks:u8}{m:Int}{Γ:En}(h:Γ[3]?=some (some (.ae,.int m))):fm [3] 1 ζh γn (d_ θ2) θN Γ=.ok (sw (ks.map λk=>(m,k))) Γ:=by have ln:=line;unfold sw;rw[qbo,qbo];refine uK D.int (λk=>D.tup [.int k,.int m]) rfl λk hk=>?_;refine⟨[some (.ae,.int k),some (.ae,.int m)],by simp[dU,h,eo],?_⟩;show Γ.set 3 (some (.ae,.int m))=Γ;obtain⟨h1,h2⟩:=qac.mp h;rw[<-h2,List.set_getElem_self]
def Zz{r:Str}(hr:wu r){pts:P3}(hl:pts.length<=200){i:Nat}{x0 x1:Sl} :
 (∀ks,stp i pts.length r=some ks->uI [x0,x1,some (.own,.lst εp),some (.ae,.int i),some (.ae,.str r)]=.ok .nx [x0,x1,some (.own,.lst (sw (pts++ks.map λk=>((i:Int),k)))),some (.ae,.int i),some (.ae,.str r)]) /\
 (stp i pts.length r=none->uI [x0,x1,some (.own,.lst εp),some (.ae,.int i),some (.ae,.str r)]=.ex (xN i) [x0,x1,some (.own,.lst εp),some (.ae,.int i),some (.ae,.str r)]):=by
 have ln:=line;have e1:=Zy hr i pts.length;have l3:(sw pts).length=pts.length:=pK _;rw[<-l3]at e1;constructor
 .intro ks hk;have ft:=(HD hk).2;rw[<-l3]at hk;rw[hk]at e1;have e2:=ye (ks:=ks) (m:=i) (Γ:=[x0,x1,some (.own,.lst εp),some (.ae,.int i),some (.ae,.str r)]) rfl;have e3:sw pts++sw (ks.map λk=>((i:Int),k))=sw (pts++ks.map λk=>((i:Int),k)):=(Ot _ _).symm;have kl:ks.length<=200:=by have:=ft.2.2;omega
  have l1:(ks.map D.int).length<sizeLine:=by rw[qag];omega
  have l2:(sw pts).length+(sw (ks.map λk=>((i:Int),k))).length<=sizeLine:=by rw[pK,pK,qag];omega
  have o1:sW i ζI=.ok (.new δd):=rfl;rw[o1]at e1;generalize sw (ks.map λk=>((i:Int),k))=B at *;generalize sw (pts++ks.map λk=>((i:Int),k))=E at *;generalize ks.map D.int=A at *;generalize sw pts=C at *;simp[uI,e1,e2,e3,l1,l2]
 .intro hk;rw[<-l3]at hk;rw[hk]at e1;have o1:sW i none=.ex (xN i):=rfl;rw[o1]at e1;generalize sw pts=C at *;simp[uI,e1]
def ZA{x0 x1:Sl}:∀(rs:v6) (i:Nat) (pts:P3) (x3 x4:Sl),(∀r∈rs,wu r)->pts.length<=200 ->
 (∀q,ku rs i pts=.inr q->∃y3 y4,iS θr uI (oi i ζD) [x0,x1,some (.own,.lst εp),x3,x4]=.ok .nx [x0,x1,some (.own,.lst (sw q)),y3,y4]) /\
 (∀m,ku rs i pts=.inl m->∃Γ',iS θr uI (oi i ζD) [x0,x1,some (.own,.lst εp),x3,x4]=.ex (xN m) Γ'):=by
 intro rs;induction rs with
 |nil=>exact λi pts x3 x4 _ _=>⟨λq h=>by cases h;exact⟨x3,x4,rfl⟩,λm h=>by cases h⟩
 |cons r rs zv =>
   intro i pts x3 x4 hr hl;have st:=Zz (hr r (qaj ..)) hl (i:=i) (x0:=x0) (x1:=x1);have e0:oi i ((r::rs).map D.str)=.tup [.int i,.str r]::oi (i+1) ζD:=by rw[qaP,Hv]
   have eR:ku (r::rs) i pts=match stp i pts.length r with
    |none=>.inl i
    |some ks=>ku rs (i+1) (pts++ks.map λk=>((i:Int),k)):=rfl
   rw[e0,o7,eR]
   have g:nZ (gT 2 γQ (.tup [.int i,.str r])) [x0,x1,some (.own,.lst εp),x3,x4]=.ok () [x0,x1,some (.own,.lst εp),some (.ae,.int i),some (.ae,.str r)]:=by generalize sw pts=C;simp
   rw[g];cases hs:stp i pts.length r with
   |none =>
     dsimp only;rw[st.2 hs];exact⟨λq h=>(by cases h),λm h=>(by cases h;exact⟨_,rfl⟩)⟩
   |some ks =>
     dsimp only;rw[st.1 ks hs];have ft:=(HD hs).2;exact zv (i+1) _ _ _ (λx hx=>hr x δP) (by rw[qam,qag];have:=ft.2.2;omega)
structure wx(i:Nat)(pts:P3):Prop where
 ord:Ord pts
 lt:∀c∈pts,c.1<i
 le:pts.length<=200
def wx.step{i:Nat}{pts:P3}{ks:u8}(h:wx i pts)(hk:mN ks)(ft:sV i pts.length ks):wx (i+1) (pts++ks.map λk=>((i:Int),k)):=by
 obtain⟨up,f1,f2⟩:=ft
 have sm:∀c∈ks.map λk=>((i:Int),k),eK c:=λc hc=>by obtain⟨k,hk',rfl⟩:=qaF.mp hc;exact⟨⟨by show(0:Int)<=i;omega,by show(i:Int)<=30;omega⟩,(hk k hk').lo,(hk k hk').hi⟩
 have sa:∀c∈pts++ks.map λk=>((i:Int),k),eK c:=λc hc=>(qaK.mp hc).elim (h.ord.sm c) (sm c);refine⟨⟨sa,?_⟩,λc hc=>?_,by rw[qam,qag];omega⟩
 .rw[qa4];refine⟨h.ord.pw,?_,λa ha b hb=>?_⟩
  .rw[List.pairwise_map];exact up.imp λ{a b} q=>by unfold enc;dsimp only;omega
  .refine(F5 (h.ord.sm a ha) (sm b hb)).mpr (.inl ?_);obtain⟨k,_,rfl⟩:=qaF.mp hb;exact h.lt a ha
 .rcases qaK.mp hc with hc|hc
  .have:=h.lt c hc;omega
  .obtain⟨k,_,rfl⟩:=qaF.mp hc;show(i:Int)<((i+1:Nat):Int);omega
def Ou:∀(rs:v6) (i:Nat) (pts:P3),wx i pts->i<=31->(∀q,ku rs i pts=.inr q->wx (i+rs.length) q/\i+rs.length<=31)/\(∀m,ku rs i pts=.inl m->m<=31):=by
 intro rs;induction rs with
 |nil=>exact λi pts h hi=>⟨λq e=>by cases e;exact⟨h,hi⟩,λm e=>by cases e⟩
 |cons r rs zv =>
   intro i pts h hi
   have eR:ku (r::rs) i pts=match stp i pts.length r with
    |none=>.inl i
    |some ks=>ku rs (i+1) (pts++ks.map λk=>((i:Int),k)):=rfl
   rw[eR];cases hs:stp i pts.length r with
   |none=>exact⟨λq e=>(by cases e),λm e=>(by cases e;exact hi)⟩
   |some ks =>
     obtain⟨rk,ft⟩:=HD hs;have:=zv (i+1) _ (h.step (HC rk).1 ft) (by have:=ft.2.1;omega);dsimp only;rw[show i+(r::rs).length=i+1+rs.length by simp;omega];exact this
def Ov:wx 0 []:=⟨⟨by simp,.nil⟩,by simp,by simp⟩
def ZC{q:P3}(h:Ord q):ef q=q:=(MF (cs:=q) (l:=q) h.sm (h.pw.imp λ{a b} e z=>by rw[z]at e;omega) (h.pw.imp λe=>by omega) λc=>Iff.rfl).symm
noncomputable def dE(m:Int):D:=.tup [.str "row",.int m]
def ZD{r:Str}(hr:wu r){x0 x1 x2 x3 x5:Sl}:yJ [x0,x1,x2,x3,some (.ae,.str r),x5]=nB [x0,x1,x2,x3,some (.ae,.str r),(match oj r with|none=>some (.ae,.aq)|some ks=>some (.own,aR ks))]:=by
 have ln:=line;have l0:0<=sizeLine:=qaZ _;have e4:=N0 hr.as hr.le;unfold yJ;unfold oj;by_cases q:r = "-"
 .rw[qaz q];have q':=eq_true q;clear q;cases hk:nE r with
  |none=>rw[hk]at e4;simp[e4,oL,q',l0,aR]
  |some ks=>rw[hk]at e4;simp[e4,oL,q',l0,aR]
 .rw[qax q];have q':=qbW q;cases hk:nE r with
  |none=>rw[hk]at e4;simp[e4,oL,q']
  |some ks=>rw[hk]at e4;simp[e4,oL,q']
def ZE{pts:P3}{i:Nat}{x0 x1 x4:Sl}:∃Γ',nB [x0,x1,some (.own,.lst εp),some (.ae,.int i),x4,some (.ae,.aq)]=.ok θI Γ':=by have ln:=line;generalize sw pts=C;exact⟨_,by simp[nB,eo,dE];rfl⟩
def ZF{pts:P3}{i:Nat}{ks:u8}(kl:ks.length<64)(hl:pts.length<=200){x0 x1 x4:Sl} :
 (sV i pts.length ks->nB [x0,x1,some (.own,.lst εp),some (.ae,.int i),x4,some (.own,aR ks)]=.ok .nx [x0,x1,some (.own,.lst (sw (pts++ks.map λk=>((i:Int),k)))),some (.ae,.int i),x4,some (.ae,aR ks)]) /\
 (¬sV i pts.length ks->∃Γ',nB [x0,x1,some (.own,.lst εp),some (.ae,.int i),x4,some (.own,aR ks)]=.ok θI Γ'):=by
 have ln:=line;have l0:0<=sizeLine:=qaZ _;have e1:=zj kl;have e2:=ne_is ks (Dv.jb (dd ks));have e3:=C_ ks;have f1:=uM i 30;have f2:=uM ((sw pts).length:Int) 200;have pl:(sw pts).length=pts.length:=pK _;have kq:(ks.map D.int).length=ks.length:=by simp
 constructor
 .rintro⟨up,a1,a2⟩;have up':=(uL ks).mpr up;rw[qaN up',<-up']at e2;rw[<-up']at e1;have d1:¬((30:Int)<(i:Int)):=by have:lk ks ≥ 0:=qaZ _;omega
  have e5:sw pts++sw (ks.map λk=>((i:Int),k))=sw (pts++ks.map λk=>((i:Int),k)):=(Ot _ _).symm;have l1:(ks.map D.int).length<sizeLine:=by rw[qag];omega
  have l3:(sw pts).length+(sw (ks.map λk=>((i:Int),k))).length<=sizeLine:=by rw[pK,pK,qag];omega
  have e4:=ye (ks:=ks) (m:=i) (Γ:=[x0,x1,some (.own,.lst εp),some (.ae,.int i),x4,some (.ae,aR ks)]) rfl;cases hks:ks with
  |nil =>
    subst hks;have rq:lk []=1:=rfl;rw[rq]at a1 a2;have g1:decide ((i:Int)=30)=false:=qaY ω;have g2:decide (((sw pts).length:Int)=200)=false:=qaY (by rw[pl];simp at a2;omega);rw[g1]at f1;rw[g2]at f2;have d2:¬((200:Int)<((sw pts).length:Int)):=by rw[pl];simp at a2;omega
    unfold aR at *;simp only[List.map_nil]at *;simp only[List.append_nil]at *;generalize sw pts=C at *;have ZG:C.length<=sizeLine:=by simpa using l3
    have l4:0<sizeLine:=by omega
    simp[nB,e1,e2,e3,d1,d2,f1,f2,l0,ZG,l4,fm]
  |cons k r =>
    have rq:lk ks=0:=by rw[hks];rfl
    rw[rq]at a1 a2;rw[show ks.isEmpty=false by rw[hks];rfl]at e3;rw[<-hks];have d2:¬((200:Int)<((sw pts).length:Int)+((ks.map D.int).length:Int)):=by rw[pl,kq];omega
    unfold aR at *;generalize sw (ks.map λk=>((i:Int),k))=B at *;generalize sw (pts++ks.map λk=>((i:Int),k))=E at *;generalize ks.map D.int=A at *;generalize sw pts=C at *;simp[nB,e1,e2,e3,e4,e5,d1,d2,l0,l1,l3]
 .intro nf;by_cases up:ks.Pairwise (· < ·)
  .have up':=(uL ks).mpr up;rw[qaN up',<-up']at e2;rw[<-up']at e1;by_cases d1:(30:Int)<(i:Int)
   .unfold aR at *;generalize ks.map D.int=A at *;generalize sw pts=C at *;exact⟨_,by simp[nB,e1,e2,d1,eo,dE];rfl⟩
   by_cases d2:(200:Int)<((sw pts).length:Int)+((ks.map D.int).length:Int)
   .unfold aR at *;generalize ks.map D.int=A at *;generalize sw pts=C at *;exact⟨_,by simp[nB,e1,e2,d1,d2,eo,dE];rfl⟩
   rw[pl,kq]at d2
   have hk:ks=[]:=by
    by_cases q:ks=[]
    .exact q
    .have rq:lk ks=0:=qax q;exact absurd ⟨up,by rw[rq];omega,by rw[rq];omega⟩ nf
   subst hk;have rq:lk []=1:=rfl;have d2':¬((200:Int)<((sw pts).length:Int)):=by rw[pl];simp at d2;omega
   by_cases c1:(i:Int)=30
   .rw[qaN c1]at f1;unfold aR at *;simp only[List.map_nil]at *;generalize sw pts=C at *;exact⟨_,by simp[nB,e1,e2,e3,d1,d2',f1,l0,eo,dE];rfl⟩
   .have c2:((sw pts).length:Int)=200:=by
     by_cases q:((sw pts).length:Int)=200
     .exact q
     .exact absurd ⟨up,by rw[rq];omega,by rw[rq];rw[pl]at q d2';simp;omega⟩ nf
    rw[qaY c1]at f1
    rw[qaN c2]at f2
    unfold aR at *
    simp only[List.map_nil]at *
    generalize sw pts=C at *
    exact⟨_,by simp[nB,e1,e2,e3,d1,d2',f1,f2,l0,eo,dE];rfl⟩
  .rw[qaY λz=>up ((uL ks).mp z)]at e2;unfold aR at *;generalize (Dv.jb (dd ks)).map D.int=Q at *;generalize ks.map D.int=A at *;generalize sw pts=C at *;exact⟨_,by simp[nB,e1,e2,eo,dE];rfl⟩
def ZH{x0 x1:Sl}:∀(rs:v6) (i:Nat) (pts:P3) (x3 x4 x5:Sl),(∀r∈rs,wu r)->pts.length<=200 ->
 (∀q,ku rs i pts=.inr q->∃y3 y4 y5,iS θr yJ (oi i ζD) [x0,x1,some (.own,.lst εp),x3,x4,x5]=.ok .nx [x0,x1,some (.own,.lst (sw q)),y3,y4,y5]/\(rs=[]->y5=x5)/\(∀r,rs.getLast?=some r->∃ks,y5=some (.ae,aR ks)/\(ks=[] ↔ r = "-"))) /\
 (∀m,ku rs i pts=.inl m->∃Γ',iS θr yJ (oi i ζD) [x0,x1,some (.own,.lst εp),x3,x4,x5]=.ok (.ret (.val (dE m))) Γ'):=by
 intro rs;induction rs with
 |nil=>exact λi pts x3 x4 x5 _ _=>⟨λq h=>by cases h;exact⟨x3,x4,x5,rfl,λ_=>rfl,λr h=>by cases h⟩,λm h=>by cases h⟩
 |cons r rs zv =>
   intro i pts x3 x4 x5 hr hl;have hr0:=hr r (qaj ..);have e0:oi i ((r::rs).map D.str)=.tup [.int i,.str r]::oi (i+1) ζD:=by rw[qaP,Hv]
   have eR:ku (r::rs) i pts=match stp i pts.length r with
    |none=>.inl i
    |some ks=>ku rs (i+1) (pts++ks.map λk=>((i:Int),k)):=rfl
   rw[e0,o7,eR]
   have g:nZ (gT 2 γQ (.tup [.int i,.str r])) [x0,x1,some (.own,.lst εp),x3,x4,x5]=.ok () [x0,x1,some (.own,.lst εp),some (.ae,.int i),some (.ae,.str r),x5]:=by generalize sw pts=C;simp
   rw[g];dsimp only;rw[ZD hr0]
   have est:stp i pts.length r=match oj r with
    |none=>none
    |some ks=>if cd (sV i pts.length ks) then some ks else none:=rfl
   cases hk:oj r with
   |none =>
     rw[hk]at est;rw[est];obtain⟨Γ',h⟩:=ZE (pts:=pts) (i:=i) (x0:=x0) (x1:=x1) (x4:=some (.ae,.str r));dsimp only;rw[h];exact⟨λq h=>(by cases h),λm h=>(by cases h;exact⟨_,rfl⟩)⟩
   |some ks =>
     rw[hk]at est;dsimp only at est;obtain⟨kk,kn,kl⟩:=HC hk;have lp:=ZF (kl hr0.ws) hl (i:=i) (x0:=x0) (x1:=x1) (x4:=some (.ae,.str r));dsimp only;by_cases ft:sV i pts.length ks
     .rw[iR ft,qaz rfl]at est;rw[est,lp.1 ft];dsimp only;have ih:=zv (i+1) (pts++ks.map λk=>((i:Int),k)) (some (.ae,.int i)) (some (.ae,.str r)) (some (.ae,aR ks)) (λx hx=>hr x δP) (by rw[qam,qag];have:=ft.2.2;omega);refine⟨λq h=>?_,ih.2⟩;obtain⟨y3,y4,y5,a,b,c⟩:=ih.1 q h;refine⟨y3,y4,y5,a,λz=>(by cases z),λr' hr'=>?_⟩;cases rs with
      |nil =>
        have:r'=r:=by simpa using hr'.symm
        subst this;exact⟨ks,b rfl,kn⟩
      |cons s t=>exact c r' (by rw[List.getLast?_cons_cons]at hr';exact hr')
     .rw[v8 ft]at est;obtain⟨Γ',h⟩:=lp.2 ft;rw[est,h];exact⟨λq h=>(by cases h),λm h=>(by cases h;exact⟨_,rfl⟩)⟩
structure Tok(z:Str):Prop where
 as:asc z=true
 le:z.length<=2000
 rw:∀r∈Txt.split z "\n",(Txt.split r " ").length<64
def Tok.Ox{z:Str}(h:Tok z):∀r∈Txt.split z "\n",wu r:=λr hr=>⟨NQ h.as hr,qaJ (NS hr) h.le,h.rw r hr⟩
def ZI{α:Type}(xs:δ5)(x:α):L2.cn (xs++[x]) (-1)=some x:=by
 unfold L2.cn
 have:L2.oM (xs++[x]).length (-1)=some xs.length:=by unfold L2.oM;simp;omega
 rw[this];simp
def ZJ{xs:v6}{x:Str}(h:xs.getLast?=some x):L2.cn (xs.map D.str) (-1)=some εA:=by obtain⟨ys,rfl⟩:=List.getLast?_eq_some_iff.mp h;rw[qbj];exact ZI _ _
def nl_eq{z:Str}(hl:z.length<=2000):rh z [.str "\n"]=some (.new (.lst ((Txt.split z "\n").map D.str))):=by have ln:=line;exact Nw (by decide +kernel) ω (by have:=split_len (z:=z) (y:= "\n") (by rw[wc];exact qah _);omega)
def mP(z:Str):Nat ⊕ P3:=if z = "" then .inr [] else match ku (Txt.split z "\n") 0 [] with
 |.inl m=>.inl m
 |.inr q=>if (Txt.split z "\n").getLast?=some ("-":Str) then .inl (Txt.split z "\n").length else .inr q
def uN:Nat ⊕ P3->Rx
 |.inl m=>.ex (xN m)
 |.inr q=>.ok (.val (pO (sw q)))
def ZK(z:Str):(∀m,mP z=.inl m->m<=31)/\∀q,mP z=.inr q->Ord q/\q.length<=200:=by
 unfold mP;split
 .exact⟨λm h=>(by cases h),λq h=>(by cases h;exact⟨⟨by simp,.nil⟩,by simp⟩)⟩
 .have k:=Ou (Txt.split z "\n") 0 [] Ov ξ;cases h:ku (Txt.split z "\n") 0 [] with
  |inl m=>exact⟨λm' e=>(by cases e;exact k.2 m h),λq e=>(by cases e)⟩
  |inr q =>
    obtain⟨ok,le⟩:=k.1 q h;dsimp only;split
    .exact⟨λm' e=>(by cases e;omega),λq e=>(by cases e)⟩
    .exact⟨λm' e=>(by cases e),λq' e=>(by cases e;exact⟨ok.ord,ok.le⟩)⟩
def ZL{z:Str}(h:Tok z):pC [.str z]=some (uN (mP z)):=by
 have ln:=line;have l0:0<=sizeLine:=qaZ _;have e2:=Hl z;unfold mP;by_cases z0:z = ""
 .rw[qaz z0]
  have e4:sU [.aq]=some (.ok (.val (pO []))):=by have a:=order_eq (cs:=[]) (by simp) (by simp);have b:=Oi (ds:=[]) (by simp) (by simp);rw[qbp.mp (Nat.le_zero.mp (Hy []))]at a;simp only[sw,List.map_nil]at a;have im:lN (.new (.lst []))=true:=rfl;simp[sU,Dv.runN,q0,CC,CD,CF,gam,a,b,l0,vP,isNone,jF,im]
  have z1:=eq_true z0;clear z0;simp[pC,yR,fq,gam,e2,e4,z1,uN]
 .rw[qax z0];have z1:=qbW z0;have e3:=nl_eq h.le
  obtain⟨last,kA⟩:∃r,(Txt.split z "\n").getLast?=some r:=by
   cases q:(Txt.split z "\n").getLast? with
   |none=>exact absurd ιt (yY z "\n")
   |some r=>exact⟨r,rfl⟩
  have e4:=ZJ kA;have lp:=ZA (x0:=some (.ae,.str z)) (x1:=some (.ae,.lst ((Txt.split z "\n").map D.str))) (Txt.split z "\n") 0 [] none none h.Ox (by simp);have k:=Ou (Txt.split z "\n") 0 [] Ov ξ;unfold pC yR;rw[<-Hw]at lp;have wl:((Txt.split z "\n").map D.str).length=(Txt.split z "\n").length:=by simp
  have s0:sw []=[]:=rfl;rw[s0]at lp;cases hR:ku (Txt.split z "\n") 0 [] with
  |inl m =>
    obtain⟨Γ',hl⟩:=lp.2 m hR;generalize (Txt.split z "\n").map D.str=W at *;simp[fq,gam,e2,e3,z1,l0,hl,uN]
  |inr q =>
    obtain⟨y3,y4,hl⟩:=lp.1 q hR;obtain⟨ok,le⟩:=k.1 q hR;have e7:=Zi ok.ord.sm ok.le;rw[ZC ok.ord]at e7;have im:jF (sw q)=true:=Hz q;dsimp only;rw[kA];by_cases d:last = "-"
    .rw[qaz (by rw[d])];have d1:=eq_true d;clear d;rw[<-wl];generalize (Txt.split z "\n").map D.str=W at *;generalize sw q=P at *;simp[fq,gam,e2,e3,e4,z1,l0,hl,d1,uN,xN]
    .rw[qax (by intro z;exact d (qaH z))];have d1:=qbW d;generalize (Txt.split z "\n").map D.str=W at *;generalize hP:sw q=P at *;simp[fq,gam,e2,e3,e4,e7,z1,l0,hl,d1,uN,hP]
def told(d:D):D:=.tup [.str "told",d]
def oq:Nat ⊕ P3->D
 |.inl m=>dE m
 |.inr q=>told (.lst (sw q))
def ZM{z:Str}(h:Tok z)(z0:z≠""):yK [.str z]=some (.val (oq (mP z))):=by
 have ln:=line;have l0:0<=sizeLine:=qaZ _;unfold mP;rw[qax z0];have e3:=nl_eq h.le
 obtain⟨last,kA⟩:∃r,(Txt.split z "\n").getLast?=some r:=by
  cases q:(Txt.split z "\n").getLast? with
  |none=>exact absurd ιt (yY z "\n")
  |some r=>exact⟨r,rfl⟩
 have lp:=ZH (x0:=some (.ae,.str z)) (x1:=some (.ae,.lst ((Txt.split z "\n").map D.str))) (Txt.split z "\n") 0 [] none none none h.Ox (by simp);unfold yK Gz;rw[<-Hw]at lp;have wl:((Txt.split z "\n").map D.str).length=(Txt.split z "\n").length:=by simp
 have s0:sw []=[]:=rfl;rw[s0]at lp;cases hR:ku (Txt.split z "\n") 0 [] with
 |inl m =>
   obtain⟨Γ',hl⟩:=lp.2 m hR;generalize (Txt.split z "\n").map D.str=W at *;simp[aP,gam,e3,l0,hl,oq]
 |inr q =>
   obtain⟨y3,y4,y5,hl,_,hy⟩:=lp.1 q hR;obtain⟨ks,rfl,kn⟩:=hy last kA;dsimp only;rw[kA];have ek:=C_ ks;by_cases d:last = "-"
   .rw[qaz (by rw[d])];rw[kn.mpr d]at hl ek;have ek:c_ (aR []) (.lst [])=some γy:=ek;rw[<-wl];generalize (Txt.split z "\n").map D.str=W at *;generalize sw q=P at *;simp[aP,gam,e3,l0,eo,hl,ek,oq,dE]
   .rw[qax (by intro z;exact d (qaH z))];have ne:ks≠[]:=λe=>d (kn.mp e);rw[show ks.isEmpty=false by cases ks with|nil=>exact absurd rfl ne|cons _ _=>rfl]at ek;unfold aR at *;generalize (Txt.split z "\n").map D.str=W at *;generalize hP:sw q=P at *;generalize ks.map D.int=K at *;simp[aP,gam,e3,l0,eo,hl,ek,oq,told,hP]
def sZ(z:Str):Option (u8):=(nE z).filter λks=>decide (ks.length<=31)
def asX:Option (u8)->Rx
 |none=>.ex (xN 0)
 |some ks=>.ok (.new (aR ks))
def ZN{z:Str}(ha:asc z=true)(hl:z.length<=2000):og [.str z]=some (asX (sZ z)):=by
 have e2:=Hl z;have e:=NY ha hl;unfold sZ;cases hk:nE z with
 |none=>rw[hk]at e;simp[og,vU,fq,gam,e,e2,oL,asX,xN]
 |some ks =>
   rw[hk]at e;have e5:oL ζI=.new δd:=rfl;rw[e5]at e;have pl:(ks.map D.int).length=ks.length:=by simp
   by_cases c:ks.length<=31
   .have o1:asX (Option.filter (λks=>decide (ks.length<=31)) ζI)=.ok (.new δd):=by simp[Option.filter,c,asX]
    rw[o1]
    have d:¬((31:Int)<((ks.map D.int).length:Int)):=by rw[pl];omega
    generalize ks.map D.int=P at *
    simp[og,vU,fq,gam,e,e2,d]
   .have o1:asX (Option.filter (λks=>decide (ks.length<=31)) ζI)=.ex (xN 0):=by simp[Option.filter,c,asX]
    rw[o1]
    have d:((31:Int)<((ks.map D.int).length:Int)):=by rw[pl];omega
    generalize ks.map D.int=P at *
    simp[og,vU,fq,gam,e,e2,d,xN]
def pL:Option (u8)->D
 |none=>dE 0
 |some ks=>told (aR ks)
def s_:Option T->D
 |none=>dE 0
 |some t=>told t.d
def ZO(i:Int):yj n9 (λC=>sub C .NoText) (.ins .NoText ["row"] [.int i])=some γy:=rfl
def ZP(i:Int):yj n9 (yI .NoAsks .NoPoints .NoTree) (.ins .NoText ["row"] [.int i])=some γs:=rfl
def Dd:c_ (.int 0) (.int 0)=some γy:=G8 rfl
def zw:c_ (.int 1) (.int 0)=some γs:=by rw[uM];rfl
def zx:c_ (.int 1) (.int 1)=some γy:=G8 rfl
def De:c_ (.int 2) (.int 0)=some γs:=by rw[uM];rfl
def Df:c_ (.int 2) (.int 1)=some γs:=by rw[uM];rfl
def HE{x0 x1 x4:Sl}{d:D}{k:Kd}(hk:k=.ae\/k=.own):∃Γ',vX [x0,x1,some (.ae,.aq),some (k,d),x4]=.ok (.ret (.val (told d))) Γ':=by
 have ln:=line;rcases hk with rfl|rfl
 .exact⟨_,by simp[vX,eo,told];rfl⟩
 .exact⟨_,by simp[vX,eo,told];rfl⟩
def HF{x0 x1 x3 x4:Sl}{i:Int}:∃Γ',vX [x0,x1,some (.ae,.ins .NoText ["row"] [.int i]),x3,x4]=.ok θI Γ':=by have ln:=line;have a:=ZO i;have b:=ZP i;have n0:isNone (.ins .NoText ["row"] [.int i])=false:=rfl;exact⟨_,by simp[vX,uv,n0,eo,a,b,dE];rfl⟩
def HG(i:Int):qp (xN i)=.ins .NoText ["row"] [.int i]:=rfl
def HH(i:Int):Gx (xN i).C=true:=rfl
def Oy{v:D}{o:Option T}(h:oh [v]=some (wq o)):lV [.int 0,v]=some (.val (s_ o)):=by
 unfold lV;unfold yS;cases o with
 |some t =>
   have h:oh [v]=some (.ok (.val t.d)):=h;obtain⟨Γ',e⟩:=HE (x0:=some (.ae,.int 0)) (x1:=some (.ae,v)) (x4:=none) (d:=t.d) (k:=.ae) γJ;simp[aP,gam,Dd,h,e,s_]
 |none =>
   have h:oh [v]=some δv:=h;obtain⟨Γ',e⟩:=HF (x0:=some (.ae,.int 0)) (x1:=some (.ae,v)) (x3:=some (.ae,.aq)) (x4:=none) (i:=0);have m1:=HH 0;have i1:=HG 0;generalize xN 0=x at *;simp[aP,gam,Dd,h,m1,i1,e,s_]
def Oz{v:D}{o:Option (u8)}(h:og [v]=some (asX o)):lV [.int 1,v]=some (.val (pL o)):=by
 unfold lV;unfold yS;cases o with
 |some ks =>
   have h:og [v]=some (.ok (.new (aR ks))):=h;obtain⟨Γ',e⟩:=HE (x0:=some (.ae,.int 1)) (x1:=some (.ae,v)) (x4:=none) (d:=aR ks) (k:=.own) (.inr rfl);have w:pL ζI=told (aR ks):=rfl;rw[w];generalize aR ks=P at *;simp[aP,gam,zw,zx,h,e]
 |none =>
   have h:og [v]=some δv:=h;obtain⟨Γ',e⟩:=HF (x0:=some (.ae,.int 1)) (x1:=some (.ae,v)) (x3:=some (.ae,.aq)) (x4:=none) (i:=0);have m1:=HH 0;have i1:=HG 0;generalize xN 0=x at *;simp[aP,gam,zw,zx,h,m1,i1,e,pL]
def OA{v:D}{o:Nat ⊕ P3}(h:pC [v]=some (uN o)):lV [.int 2,v]=some (.val (oq o)):=by
 unfold lV;unfold yS;cases o with
 |inr q =>
   have h:pC [v]=some (.ok (.val (pO (sw q)))):=h;obtain⟨Γ',e⟩:=HE (x0:=some (.ae,.int 2)) (x1:=some (.ae,v)) (x4:=none) (d:=.lst (sw q)) (k:=.own) (.inr rfl);have p:=Zk (sw q);have w:oq (.inr q)=told (.lst (sw q)):=rfl;rw[w];generalize sw q=P at *;simp[aP,gam,De,Df,h,p,e]
 |inl m =>
   have h:pC [v]=some (.ex (xN m)):=h;obtain⟨Γ',e⟩:=HF (x0:=some (.ae,.int 2)) (x1:=some (.ae,v)) (x3:=some (.ae,.aq)) (x4:=none) (i:=m);have m1:=HH m;have i1:=HG m;have w:oq (.inl m)=dE m:=rfl;rw[w];generalize xN m=x at *;simp[aP,gam,De,Df,h,m1,i1,e]
def ZQ(t:T)(h:t.ht<=60):c_ t.d (.str "none")=some γs:=by
 rw[G6 (by intro x z;cases t<;>cases z)];unfold r9;have ok:lK (.str "none")=true:=by decide +kernel
 rw[Ym h,ok];have:eqB t.d (.str "none")=false:=by cases t<;>rfl
 rw[this];rfl
def ZR{z:Str}{o:Option T}(h:n_ [.str z]=some (.val (ttX o)))(hb:∀t,o=some t->t.B (-1) 31):lh [.int 0,.str z]=some (.val (s_ o)):=by
 have ln:=line;cases o with
 |some t =>
   have h:n_ [.str z]=some (.val t.d):=h;have n:=ZQ t (by have:=wo (hb t rfl);omega);simp[lh,rj,aP,gam,Dd,h,n,eo,qr,s_,told]
 |none =>
   have h:n_ [.str z]=some (.val (.str "none")):=h;simp[lh,rj,aP,gam,Dd,h,eo,pG,s_,dE]
def ZT{z:Str}(h:pj [.str z]=some (oL (nE z))):lh [.int 1,.str z]=some (.val (pL (sZ z))):=by
 have ln:=line;unfold sZ;cases hk:nE z with
 |none =>
   rw[hk]at h;have h:pj [.str z]=some γ5:=h;have v:pL (Option.filter (λks=>decide (ks.length<=31)) none)=dE 0:=rfl;rw[v];simp[lh,rj,aP,gam,zw,zx,h,eo,pG,dE]
 |some ks =>
   rw[hk]at h;have h:pj [.str z]=some (.new δd):=h;have pl:(ks.map D.int).length=ks.length:=by simp
   by_cases c:ks.length<=31
   .have o1:pL (Option.filter (λks=>decide (ks.length<=31)) ζI)=told δd:=by simp[Option.filter,c,pL]
    rw[o1];have d:¬((31:Int)<((ks.map D.int).length:Int)):=by rw[pl];omega
    generalize ks.map D.int=P at *;simp[lh,rj,aP,gam,zw,zx,h,eo,qr,d,told]
   .have o1:pL (Option.filter (λks=>decide (ks.length<=31)) ζI)=dE 0:=by simp[Option.filter,c,pL]
    rw[o1];have d:((31:Int)<((ks.map D.int).length:Int)):=by rw[pl];omega
    generalize ks.map D.int=P at *;simp[lh,rj,aP,gam,zw,zx,h,eo,pG,d,dE]
def ZU{z:Str}(h:Tok z):lh [.int 2,.str z]=some (.val (oq (mP z))):=by
 have ln:=line;have l0:0<=sizeLine:=qaZ _;by_cases z0:z = ""
 .have v:oq (mP z)=told (.lst []):=by unfold mP;rw[if_pos z0];rfl
  rw[v];have z1:=eq_true z0;clear z0;simp[lh,rj,aP,gam,De,Df,z1,l0,eo,told]
 .have e:=ZM h z0;have z1:=qbW z0;generalize oq (mP z)=V at *;simp[lh,rj,aP,gam,De,Df,z1,e]
structure Gs(k n:Nat)(d:D):Prop where
 pl:nk d=true
 sh:d.py.showable=true
 ls:d.py.leavesShort 30=true
 dp:d.py.depth<=k
 bk:d.py.bulk<=n
def Gs.mono{k k' n n':Nat}{d:D}(h:Gs k n d)(hk:k<=k')(hn:n<=n'):Gs k' n' d:=⟨h.pl,h.sh,h.ls,qaJ h.dp hk,qaJ h.bk hn⟩
def Gs.int{i:Int}(h:Key i):Gs 0 1 γ1:=by obtain⟨a,b⟩:=NB ⟨h.lo,h.hi⟩;exact⟨rfl,a,b,by simp[D.py,PyData.depth],by simp[D.py,PyData.bulk]⟩
theorem HI{k n:Nat}:∀{ds:γe},(∀d∈ds,Gs k n d)->q9 ds=true/\PyData.showableAll θj=true/\PyData.leavesShortAll 30 θj=true/\PyData.depthAll θj<=k/\PyData.bulkAll θj<=ds.length*(n+1)
 |[],_=>⟨rfl,rfl,by decide +kernel,by simp[D.dR,PyData.depthAll],by simp[D.dR,PyData.bulkAll]⟩
 |d::r,h=>by obtain⟨a1,a2,a3,a4,a5⟩:=HI (ds:=r) λx hx=>h x δP;obtain⟨b1,b2,b3,b4,b5⟩:=h d (qaj ..);refine⟨by show(nk d&&q9 r)=true;rw[a1,b1];rfl,by simp[D.dR,PyData.showableAll,a2,b2],by simp[D.dR,PyData.leavesShortAll,a3,b3],by simp[D.dR,PyData.depthAll];omega,?_⟩;simp only[D.dR,PyData.bulkAll,List.length_cons];rw[Nat.add_mul,Nat.one_mul];omega
def Gs.tup{k n:Nat}{ds:γe}(h:∀d∈ds,Gs k n d):Gs (k+1) (ds.length*(n+1)) ζN:=by obtain⟨a1,a2,a3,a4,a5⟩:=HI h;exact⟨a1,by simpa [D.py,PyData.showable]using a2,by simpa [D.py,PyData.leavesShort]using a3,by simp[D.py,PyData.depth];omega,by simpa [D.py,PyData.bulk]using a5⟩
def Gs.lst{k n:Nat}{ds:γe}(h:∀d∈ds,Gs k n d):Gs (k+1) (ds.length*(n+1)) ζ4:=by obtain⟨a1,a2,a3,a4,a5⟩:=HI h;exact⟨a1,by simpa [D.py,PyData.showable]using a2,by simpa [D.py,PyData.leavesShort]using a3,by simp[D.py,PyData.depth];omega,by simpa [D.py,PyData.bulk]using a5⟩
theorem HJ:∀t:T,nk t.d=true
 |.nil=>rfl
 |.node k l r=>by simp[T.d,nk,q9,HJ l,HJ r]
def Gs.tree{t:T}(h:t.B (-1) 31):Gs 31 93 t.d:=by have s:=zc h;have hh:=zb t;obtain⟨a,b⟩:=G5 t ((v7 t _ _).mp h).2;exact⟨HJ t,a,b,by rw[CS];omega,by rw[G4];omega⟩
def Gs.told:Gs 0 10 (.str "told"):=⟨rfl,by decide +kernel,by decide +kernel,by decide +kernel,by decide +kernel⟩
def Gs.row:Gs 0 10 (.str "row"):=⟨rfl,by decide +kernel,by decide +kernel,by decide +kernel,by decide +kernel⟩
def OB{k n:Nat}{ds:γe}(g:Gs k n ζN)(hk:k<=50)(hn:n<=20000):∃y,nv [.tup ds]=some εw:=by
 have ln:=Za;have sh:=PyData.shown_le_bulk 30 ξ (D.tup ds).py g.ls;have b:=g.bk;have dp:=g.dp
 have rt:yB ζN=true:=by unfold yB;rw[g.pl,g.sh,qaN (by omega:(D.tup ds).py.depth<=50),qaN ω];rfl
 refine⟨(D.tup ds).py.shown,?_⟩;show(if (true&&yB ζN)=true then some (RV.val (.str (D.tup ds).py.shown)) else none)=_;rw[rt];rfl
def HK{P:D->Prop}{a b:D}(ha:P a)(hb:P b):∀d∈[a,b],P d:=λd hd=>by
 rcases qav.mp hd with rfl|hd
 .exact ha
 .rw[qaT.mp hd];exact hb
def HL{k n:Nat}{d:D}(g:Gs k n d)(hk:k<=40)(hn:n<=8000):∃y,nv [told d]=some εw:=
 OB (Gs.tup (HK (Gs.told.mono θa (Nat.le_max_left 10 n)) (g.mono γI (Nat.le_max_right 10 n)))) ω (by simp;omega)
def ZV:∀m:Nat,m<=31->((PyData.int (m:Int)).showable&&(PyData.int (m:Int)).leavesShort 30)=true:=by
 have:∀m:Nat,m<32->((PyData.int (m:Int)).showable&&(PyData.int (m:Int)).leavesShort 30)=true:=by decide +kernel
 exact λm h=>this m ω
def HM{m:Nat}(h:m<=31):∃y,nv [dE m]=some εw:=by have:=ZV m h;rw[qa1]at this;exact OB (Gs.tup (HK Gs.row ⟨rfl,this.1,this.2,by simp[D.py,PyData.depth],by simp[D.py,PyData.bulk]⟩)) ξ (by simp)
def ZW{q:P3}(h:∀c∈q,eK c)(hl:q.length<=200):Gs 2 1000 (.lst (sw q)):=by
 have:=Gs.lst (ds:=sw q) (k:=1) (n:=4) λd hd=>by obtain⟨c,hc,rfl⟩:=zo hd;obtain⟨⟨a,b⟩,a',b'⟩:=h c hc;exact Gs.tup (HK (Gs.int ⟨a',b'⟩) (Gs.int ⟨a,b⟩))
 exact this.mono γI (by rw[pK];omega)
def both{z:Str}(w:Nat)(hw:w<3)(ha:asc z=true)(hl:z.length<=2000)(ht:w=2->Tok z):∃V y,lV [.int w,.str z]=some (.val V)/\lh [.int w,.str z]=some (.val V)/\nv [V]=some εw:=by
 match w,hw with
 |0,_ =>
   obtain⟨o,ho,e⟩:=Y9 hl ha;have e2:=Y_ hl ha ho;have hb:∀t,o=some t->t.B (-1) 31:=λt h=>by subst h;exact ho.1
   have r:∃y,nv [s_ o]=some εw:=by
    cases o with
    |none=>exact HM (m:=0) ξ
    |some t=>exact HL (Gs.tree (hb t rfl)) ξ ξ
   obtain⟨y,hy⟩:=r;exact⟨s_ o,y,Oy e,ZR e2 hb,hy⟩
 |1,_ =>
   have e:=ZN ha hl;have e2:=N0 ha hl
   have r:∃y,nv [pL (sZ z)]=some εw:=by
    cases h:sZ z with
    |none=>exact HM (m:=0) ξ
    |some ks =>
      unfold sZ at h;cases hk:nE z with
      |none=>rw[hk]at h;cases h
      |some js =>
        rw[hk]at h;have kk:=(CU (show lq (Txt.split z " ")=some js from hk)).1;simp only[Option.filter]at h;split at h
        .rename_i c;cases h;have c:ks.length<=31:=by simpa using c
         refine HL (k:=1) (n:=100) ((Gs.lst (ds:=ks.map D.int) (k:=0) (n:=1) λd hd=>?_).mono ξ (by rw[qag];omega)) ξ ξ;obtain⟨k,hk',rfl⟩:=qaF.mp hd;exact Gs.int (kk k hk')
        .cases h
   obtain⟨y,hy⟩:=r;exact⟨pL (sZ z),y,Oz e,ZT e2,hy⟩
 |2,_ =>
   have tk:=ht rfl;have ok:=ZK z
   have r:∃y,nv [oq (mP z)]=some εw:=by
    cases h:mP z with
    |inl m=>exact HM (ok.1 m h)
    |inr q =>
      obtain⟨a,b⟩:=ok.2 q h;exact HL (ZW a.sm b) ξ ξ
   obtain⟨y,hy⟩:=r;exact⟨oq (mP z),y,OA (ZL tk),ZU tk,hy⟩
structure Q(n b:Nat)(z:Str):Prop where
 as:asc z=true
 le:z.length<=n
 bl:(tl z).count 32<=b
def ZX{ds:γe}{P:D->Prop}(h:∀d∈ds,P d){i:Int}(h0:0<=i)(h1:i<ds.length):∃d,L2.cn ds i=some d/\P d:=by
 obtain⟨n,rfl⟩:=Int.eq_ofNat_of_zero_le h0;have hn:n<ds.length:=by omega
 exact⟨ds[n],AI (qae hn),h _ (qbT hn)⟩
def Dg(l:zzc):(mk l).length=l.length:=by simp[Str.length]
def Dh(l:zzc):tl (mk l)=l:=by simp
def Q.sub{z:Str}{n b:Nat}{l:zzc}(h:Q n b z)(s:l.Sublist ζH):Q n b (Tx.mk l):=⟨ax.mpr λc hc=>ax.mp h.as c (s.subset (by simpa using hc)),by rw[Dg];exact qaJ s.length_le (by rw[gn];exact h.le),by rw[Dh];exact qaJ (s.count_le 32) h.bl⟩
def Q.add{x y:Str}{n b m c:Nat}(h:Q n b x)(k:Q m c y):Q (n+m) (b+c) (x++y):=⟨ax.mpr λz hz=>by rw[mM]at hz;exact(qaK.mp hz).elim (ax.mp h.as z) (ax.mp k.as z),by rw[Str.length_append];exact Nat.add_le_add h.le k.le,by rw[mM,qbR];exact Nat.add_le_add h.bl k.bl⟩
def Q.mono{x:Str}{n b n' b':Nat}(h:Q n b x)(q:n<=n')(r:b<=b'):Q n' b' x:=⟨h.as,qaJ h.le q,qaJ h.bl r⟩
def Q.two{x y:Str}{n b m c:Nat}(h:Q n b x)(k:Q m c y)(q:n+m<=3000):x.length+y.length<=sizeLine:=qaJ (qaJ (Nat.add_le_add h.le k.le) q) (by have:=line;omega)
def Q.at{z:Str}{n b:Nat}(h:Q n b z)(k:Nat):∃i j,i<=n/\j<=b/\Q i j (Tx.mk ((tl z).take k))/\Q (n-i) (b-j) (Tx.mk ((tl z).drop k)):=by have e:=qaO k ζH;have l:=h.le;have c:=h.bl;rw[<-gn,<-e,qam]at l;rw[<-e,qbR]at c;exact⟨((tl z).take k).length,((tl z).take k).count 32,ω,ω,⟨(h.sub (qbO _ _)).as,Nat.le_of_eq (Dg _),by rw[Dh];exact qah _⟩,(h.sub (qbQ _ _)).as,by rw[Dg];omega,by rw[Dh];omega⟩
def HN{z sg:Str}{d0 d1 d2 d3:Int}{n b:Nat}(hz:Q n b z)(hn:n<=900)(h1:1<=sg.length)(h2:sg.length<=100)(hs:asc sg=true):∃z',uF [.str z,aR [d0,d1,d2,d3],.str sg]=some (.val (.str z'))/\Q (2*n+1) (2*b+1) z':=by
 have ln:=line;have zl:=hz.le;have l1:z.length<=sizeLine:=by omega
 have l2:sg.length<=sizeLine:=by omega
 have p0:(0:Int)<(z.length:Int)+1:=by omega
 have p1:(0:Int)<(sg.length:Int):=by omega
 obtain⟨A,hA⟩:∃A:Nat,d0 % ((z.length:Int)+1)=A:=⟨(d0 % ((z.length:Int)+1)).toNat,by have:=qbs d0 (b:=(z.length:Int)+1) ω;omega⟩;obtain⟨B,hB⟩:∃B:Nat,d1 % ((z.length:Int)+1)=B:=⟨(d1 % ((z.length:Int)+1)).toNat,by have:=qbs d1 (b:=(z.length:Int)+1) ω;omega⟩;have g0:0<=d2 % (sg.length:Int):=qbs _ ω;have g1:d2 % (sg.length:Int)<(sg.length:Int):=qbr _ ω
 obtain⟨c,hc,c8⟩:∃c,L2.cn (tl sg) (d2 % (sg.length:Int))=some c/\c<128:=by
  obtain⟨j,hj⟩:=Int.eq_ofNat_of_zero_le g0;have hl:j<(tl sg).length:=by rw[gn];omega
  rw[hj];exact⟨(tl sg)[j],AI (qae hl),ax.mp hs _ (qbT hl)⟩
 have m0:0<=d3 % 7:=qbs _ ξ;have m1:d3 % 7<7:=qbr _ ξ
 obtain⟨lo,hi,ZZ,e1,e2⟩:∃lo hi:Nat,lo<=hi/\(if (B:Int)<(A:Int) then (B:Int) else (A:Int))=lo/\(if (B:Int)>(A:Int) then (B:Int) else (A:Int))=hi:=by
  by_cases q:(B:Int)<A
  .exact⟨B,A,ω,by rw[qaz q],by rw[qax ω]⟩
  .by_cases q':(B:Int)>A
   .exact⟨A,B,ω,by rw[qax q],by rw[qaz q']⟩
   .exact⟨A,A,qah _,by rw[qax q],by rw[qax q']⟩
 have f1:xK [.int A,.int B]=some (.val (.int lo)):=by rw[L8,e1]
 have f2:xJ [.int A,.int B]=some (.val (.int hi)):=by rw[L7,e2]
 have cA:=Ha (z:=z) (b:=A);have dA:=CW (z:=z) (a:=A);have OC:=CW (z:=z) (a:=A+1);rw[show((A+1:Nat):Int)=(A:Int)+1 from rfl]at OC;have cl:=Ha (z:=z) (b:=lo);have Z0:=Ha (z:=z) (b:=hi);have dh:=CW (z:=z) (a:=hi);have md:=CV (z:=z) ZZ;have cc:(⟨#[c]⟩:Str)=mk [c]:=rfl;have a0:L2.cn [D.int d0,.int d1,.int d2,.int d3] 0=some (.int d0):=rfl;have a1:L2.cn [D.int d0,.int d1,.int d2,.int d3] 1=some (.int d1):=rfl;have a2:L2.cn [D.int d0,.int d1,.int d2,.int d3] 2=some (.int d2):=rfl;have a3:L2.cn [D.int d0,.int d1,.int d2,.int d3] 3=some (.int d3):=rfl;have p2:0<sg.length:=by omega
 have tA:=hz.sub (qbO A _);have rA:=hz.sub (qbQ A _);have rB:=hz.sub (qbQ (A+1) _);have tL:=hz.sub (qbO lo _);obtain⟨i,j,hi1,hj1,tH,rH⟩:=hz.at hi;have mD:=hz.sub ((qbO (hi-lo) _).trans (qbQ lo _));have C1:Q 1 1 (mk [c]):=⟨ax.mpr λx hx=>by simp at hx;omega,Nat.le_of_eq (Dg [c]),by rw[Dh];exact List.count_le_length (l:=[c])⟩;generalize mk ((tl z).take A)=t1 at *;generalize mk ((tl z).drop A)=t2 at *;generalize mk ((tl z).drop (A+1))=t3 at *;generalize mk ((tl z).take lo)=t4 at *;generalize mk ((tl z).take hi)=t5 at *;generalize mk ((tl z).drop hi)=t6 at *;generalize mk (((tl z).drop lo).take (hi-lo))=t7 at *;generalize mk [c]=t8 at *
 obtain⟨d,hd,z',rfl,q⟩:=ZX (ds:=[D.str (t1++t8++t2),.str (t1++t8++t3),.str (t1++t3),.str (t4++t6),.str (t5++t7++t6),.str (z++t8),.str (t8++z)]) (P:=λd=>∃z',d=.str z'/\Q (2*n+1) (2*b+1) z') (λd hd=>by
  simp only[List.mem_cons,List.not_mem_nil,or_false]at hd;rcases hd with rfl|rfl|rfl|rfl|rfl|rfl|rfl
  .exact⟨_,rfl,((tA.add C1).add rA).mono ω ω⟩
  .exact⟨_,rfl,((tA.add C1).add rB).mono ω ω⟩
  .exact⟨_,rfl,(tA.add rB).mono ω ω⟩
  .exact⟨_,rfl,(tL.add rH).mono ω ω⟩
  .exact⟨_,rfl,((tH.add mD).add rH).mono ω ω⟩
  .exact⟨_,rfl,(hz.add C1).mono ω ω⟩
  .exact⟨_,rfl,(C1.add hz).mono ω ω⟩) m0 (by simpa using m1)
 refine⟨z',?_,q⟩;simp[-L8, -L7,f1,f2,uF,Gy,aP,gam,l1,l2,eo,p0,p1,p2,hA,hB,hc,cc,cA,dA,OC,cl,Z0,dh,md,a0,a1,a2,a3,tA.two C1 ω,(tA.add C1).two rA ω,(tA.add C1).two rB ω,tA.two rB ω,tL.two rH ω,tH.two mD ω,(tH.add mD).two rH ω,hz.two C1 ω,C1.two hz ω,hd]
def Z4{v:D}(h:pB [v]=some δv):(∀w:Nat,w<3->lV [.int w,v]=some (.val (dE 0))):=by
 have a:oh [v]=some (wq none):=by show _=some (Rx.ex (xN 0));generalize xN 0=x at *;simp[oh,vW,fq,gam,h]
 have b:og [v]=some (asX none):=by show _=some (Rx.ex (xN 0));generalize xN 0=x at *;simp[og,vU,fq,gam,h]
 have c:pC [v]=some (uN (.inl 0)):=by show _=some (Rx.ex (xN 0));generalize xN 0=x at *;simp[pC,yR,fq,gam,h]
 intro w hw
 match w,hw with
 |0,_=>exact Oy a
 |1,_=>exact Oz b
 |2,_=>exact OA c
noncomputable def wy:List D:=[.aq,.int 5,.lst [],.tup [.str "0"],.bl true,.mB [] [],.lst [.str "0"]]
def Z5:∀v∈wy,pB [v]=some δv:=by intro v hv;simp only[wy,List.mem_cons,List.not_mem_nil,or_false]at hv;rcases hv with rfl|rfl|rfl|rfl|rfl|rfl|rfl<;>kernel_rfl
def rep3:lQ (.lst [dE 0]) (.int 3)=some (.new (.lst [dE 0,dE 0,dE 0])):=by show(if cd _=true then some (RV.new (.lst (List.replicate (3:Int).toNat [dE 0]).flatten)) else none)=_;rw[qaz (iR ⟨ξ,ξ,by have:=line;simp;omega⟩)];rfl
def Z6{v:D}(hv:v∈wy){x0 x1 x2 x3 x4:Sl}:CJ [x0,x1,x2,x3,x4,some (.ae,v)]=.ok .nx [x0,x1,x2,x3,x4,some (.ae,v)]:=by
 have ln:=line;have nt:=Z4 (Z5 v hv)
 have e1:fm [5] 1 ζh γn (cw lV θ2) (ir 0 3) [x0,x1,x2,x3,x4,some (.ae,v)]=.ok [dE 0,dE 0,dE 0] [x0,x1,x2,x3,x4,some (.ae,v)]:=by refine uK (xs:=List.range 3) (λj:Nat=>D.int (0+j)) (λ_=>dE 0) rfl λj hj=>?_;have:=nt j (qbA.mp hj);exact⟨[some (.ae,.int j),some (.ae,v)],by simp[dU,this],rfl⟩
 have sn:small 3=true:=yh ω;have lu:(ir 0 3).length<sizeLine:=by simp[ir];omega
 have r3:=rep3;have ne:gE (.lst [dE 0,dE 0,dE 0]) (.lst [dE 0,dE 0,dE 0])=some γs:=zhE (by decide +kernel);have w:(D.tup [.str "row",.int 0])=dE 0:=rfl;generalize dE 0=R at *;simp[CJ,sn,lu,e1,eo,w,r3,ne]
def HP{z:Str}(h:Tok z){w:Nat}(hw:w<3){x0 x1 x2 x5:Sl}:GI [x0,x1,x2,some (.ae,.str z),some (.ae,.int w),x5]=.ok .nx [x0,x1,x2,some (.ae,.str z),some (.ae,.int w),x5]:=by obtain⟨V,y,a,b,c⟩:=both w hw h.as h.le λ_=>h;simp[GI,a,b,c]
def Z7{z:Str}(h:Tok z){x0 x1 x2 x4 x5:Sl}:∃y4,CK [x0,x1,x2,some (.ae,.str z),x4,x5]=.ok .nx [x0,x1,x2,some (.ae,.str z),y4,x5]:=by have ub:ir 0 3=[.int 0,.int 1,.int 2]:=rfl;have sn:small 3=true:=yh ω;have e0:=HP h (w:=0) ξ (x0:=x0) (x1:=x1) (x2:=x2) (x5:=x5);have e1:=HP h (w:=1) ξ (x0:=x0) (x1:=x1) (x2:=x2) (x5:=x5);have e2:=HP h (w:=2) ξ (x0:=x0) (x1:=x1) (x2:=x2) (x5:=x5);rw[show((0:Nat):Int)=0 from rfl]at e0;rw[show((1:Nat):Int)=1 from rfl]at e1;rw[show((2:Nat):Int)=2 from rfl]at e2;exact⟨some (.ae,.int 2),by simp[CK,sn,ub,o7,e0,e1,e2]⟩
theorem OD{x0 x1 x2 x5:Sl}:∀(ts:v6) (x3 x4:Sl),(∀t∈ts,Tok t)->∃y3 y4,iS (gN 3) CK εk [x0,x1,x2,x3,x4,x5]=.ok .nx [x0,x1,x2,y3,y4,x5]
 |[],x3,x4,_=>⟨x3,x4,rfl⟩
 |t::r,x3,x4,h=>by obtain⟨y4,e⟩:=Z7 (h t (qaj ..)) (x0:=x0) (x1:=x1) (x2:=x2) (x4:=x4) (x5:=x5);obtain⟨z3,z4,ih⟩:=OD (x0:=x0) (x1:=x1) (x2:=x2) (x5:=x5) r (some (.ae,.str t)) y4 λx hx=>h x δP;refine⟨z3,z4,?_⟩;rw[qaP,o7];simp[e,ih]
theorem OE{x0 x1 x2 x3 x4:Sl}:∀(vs:γe) (x5:Sl),(∀v∈vs,v∈wy)->∃y5,iS (gN 5) CJ vs [x0,x1,x2,x3,x4,x5]=.ok .nx [x0,x1,x2,x3,x4,y5]
 |[],x5,_=>⟨x5,rfl⟩
 |v::r,x5,h=>by obtain⟨y,ih⟩:=OE (x0:=x0) (x1:=x1) (x2:=x2) (x3:=x3) (x4:=x4) r (some (.ae,v)) λx hx=>h x δP;refine⟨y,?_⟩;rw[o7];simp[Z6 (h v (List.mem_cons_self ..)),ih]
noncomputable def wz:u8:=(List.range 31).map λ(i:Nat)=>0+(i:Int)
def tR:Str:=ro wz
noncomputable def lW(n:Nat):v6:=List.replicate n "-"
def b1:v6:=lW 30++[("0":Str)]
def b2:v6:=lW 31
def b3:v6:=lW 31++[("0":Str)]
def uO:Str:=Txt.slice tR none (some 34)
def l7:Str:=Txt.slice tR none (some 31)
def six:v6:=List.replicate 6 tR
def wA:v6:=[jn "\n" b1,jn "\n" b2,jn "\n" b3,"-","0\n-","0\n",jn "\n" (six++[uO]),jn "\n" (six++[l7]),jn "\n" (six++[tR]),jn "\n" (six++[l7,("-":Str),("0":Str)]),tR,tR ++ " 0","00","31","30"," ",".","","(0 . .)"]
theorem OF{c:Nat}{y:Str}:∀{ps:v6}{p:Str},p∈ps->(tl p).count c<=(tl θh).count c
 |[q],p,h=>by rw[qaT.mp h];exact qah _
 |q::q'::r,p,h=>by
   show(tl p).count c<=(tl (q++y++Str.join y (q'::r))).count c;rw[mM,mM,qbR,qbR];rcases qav.mp h with rfl|h
   .omega
   .have:=OF (c:=c) (y:=y) h;omega
def OG(r:Str):(Txt.split r " ").length=(tl r).count 32+1:=by rw[nD];exact(Y8 r 32).symm
def OH{z:Str}(ha:asc z=true)(hl:z.length<=2000)(hb:(tl z).count 32<63):Tok z:=⟨ha,hl,λr hr=>by have:=OF (c:=32) (y:= "\n") hr;rw[join_split]at this;rw[OG];omega⟩
def ot(r:Str):Bool:=asc r&&decide (r.length<=93)&&decide (10∉tl r)&&decide ((tl r).count 32<63)
def Di{r:Str}(h:ot r=true):asc r=true/\r.length<=93/\10∉tl r/\(tl r).count 32<63:=by unfold ot at h;simp only[Bool.and_eq_true,decide_eq_true_eq]at h;exact⟨h.1.1.1,h.1.1.2,h.1.2,h.2⟩
theorem HQ{y:Str}(hy:asc y=true):∀{ps:v6},(∀p∈ps,asc p=true)->asc θh=true
 |[],_=>by show asc Str.empty=true;decide +kernel
 |[q],h=>h q (qaj ..)
 |q::q'::r,h=>by
   refine ax.mpr λc hc=>?_;have hc:c∈tl (q++y++Str.join y (q'::r)):=hc;rw[mM,mM]at hc;rcases qaK.mp hc with hc|hc
   .rcases qaK.mp hc with hc|hc
    .exact ax.mp (h q (qaj ..)) c hc
    .exact ax.mp hy c hc
   .exact ax.mp (HQ hy λp hp=>h p (qaf _ hp)) c hc
def OI:asc "\n" = true:=by decide +kernel
def uP{ps:v6}(hn:ps≠[])(hl:ps.length<=40/\(jn "\n" ps).length<=2000)(h:∀p∈ps,ot p=true):Tok (jn "\n" ps):=by
 refine⟨?_,hl.2,λr hr=>?_⟩
 .rw[show jn "\n" ps=Str.join "\n" ps from uJ _ _];exact HQ OI λp hp=>(Di (h p hp)).1
 .have:Txt.split (jn "\n" ps) "\n" = ps:=by unfold jn;rw[Yi];exact X_ hn λp hp=>(Di (h p hp)).2.2.1
  rw[this]at hr
  have:=(Di (h r hr)).2.2.2
  rw[OG]
  omega
def OJ:ot "-" = true:=by decide +kernel
def HR:ot "0" = true:=by decide +kernel
def HS:ot tR=true:=by decide +kernel
def OK:ot uO=true:=by decide +kernel
def HU:ot l7=true:=by decide +kernel
def pM{P:Str->Prop}{a b:v6}(ha:∀x∈a,P x)(hb:∀x∈b,P x):∀x∈a++b,P x:=λx hx=>(qaK.mp hx).elim (ha x) (hb x)
def HV{P:Str->Prop}{n:Nat}{t:Str}(h:P t):∀x∈List.replicate n t,P x:=λx hx=>by rw[List.eq_of_mem_replicate hx];exact h
def qt{P:Str->Prop}{t:Str}(h:P t):∀x∈[t],P x:=λx hx=>by rw[qaT.mp hx];exact h
def Dj{ps:v6}{n:Nat}(h:∀p∈ps,ot p=true)(hn:ps.length=n)(hb:n*94<=2000):(jn "\n" ps).length<=2000:=by have:=za wc (ts:=ps) (B:=93) λp hp=>(Di (h p hp)).2.1;rw[hn]at this;omega
def HW{ps:v6}{n:Nat}(h:∀p∈ps,p.length<=1)(hn:ps.length=n)(hb:n*2<=2000):(jn "\n" ps).length<=2000:=by have:=za wc (ts:=ps) (B:=1) h;rw[hn]at this;omega
def Z8:("-":Str).length<=1:=by decide +kernel
def OL:("0":Str).length<=1:=by decide +kernel
def tq(z:Str):Bool:=asc z&&decide (z.length<=2000)&&decide ((tl z).count 32<63)
def Dk{z:Str}(h:tq z=true):Tok z:=by unfold tq at h;simp only[Bool.and_eq_true,decide_eq_true_eq]at h;exact OH h.1.1 h.1.2 h.2
def Z9:∀t∈wA,Tok t:=by
 intro t ht;simp only[wA,List.mem_cons,List.not_mem_nil,or_false]at ht;have d:∀n,∀p∈lW n,ot p=true:=λn=>HV OJ;have d1:∀n,∀p∈lW n,p.length<=1:=λn=>HV (P:=λp=>p.length<=1) Z8;have s6:∀p∈six,ot p=true:=HV HS;rcases ht with rfl|rfl|rfl|rfl|rfl|rfl|rfl|rfl|rfl|rfl|rfl|rfl|rfl|rfl|rfl|rfl|rfl|rfl|rfl
 .exact uP (by simp[b1]) ⟨ξ,HW (n:=31) (pM (P:=λp=>p.length<=1) (d1 30) (qt (P:=λp=>p.length<=1) OL)) ξ ξ⟩ (pM (d 30) (qt HR))
 .exact uP (by simp[b2,lW]) ⟨ξ,HW (n:=31) (d1 31) ξ ξ⟩ (d 31)
 .exact uP (by simp[b3]) ⟨ξ,HW (n:=32) (pM (P:=λp=>p.length<=1) (d1 31) (qt (P:=λp=>p.length<=1) OL)) ξ ξ⟩ (pM (d 31) (qt HR))
 .exact Dk (by decide +kernel)
 .exact Dk (by decide +kernel)
 .exact Dk (by decide +kernel)
 .exact uP (by simp[six]) ⟨ξ,Dj (n:=7) (pM s6 (qt OK)) ξ ξ⟩ (pM s6 (qt OK))
 .exact uP (by simp[six]) ⟨ξ,Dj (n:=7) (pM s6 (qt HU)) ξ ξ⟩ (pM s6 (qt HU))
 .exact uP (by simp[six]) ⟨ξ,Dj (n:=7) (pM s6 (qt HS)) ξ ξ⟩ (pM s6 (qt HS))
 .have q:∀p∈six++[l7,("-":Str),("0":Str)],ot p=true:=pM s6 λx hx=>by
   simp only[List.mem_cons,List.not_mem_nil,or_false]at hx;rcases hx with rfl|rfl|rfl
   .exact HU
   .exact OJ
   .exact HR
  exact uP (by simp[six]) ⟨ξ,Dj (n:=9) q ξ ξ⟩ q
 all_goals exact Dk (by decide +kernel)
def OM(n:Nat)(hn:n<=100):lQ (.lst [.str "-"]) ηk=some (.new (.lst ((lW n).map D.str))):=by
 have ln:=line;show(if cd _=true then some (RV.new (.lst (List.replicate (n:Int).toNat [D.str "-"]).flatten)) else none)=_;rw[qaz (iR ⟨ω,ω,by simp;omega⟩),Int.toNat_natCast];congr 3;unfold lW;rw[List.map_replicate];induction n with
 |zero=>rfl
 |succ n ih=>rw[qbg,qbg,qbP,ih ω];rfl
def ON(t:Str):lQ (.lst [.str t]) (.int 6)=some (.new (.lst ((List.replicate 6 t).map D.str))):=by show(if cd _=true then some (RV.new (.lst (List.replicate (6:Int).toNat [D.str t]).flatten)) else none)=_;rw[qaz (iR ⟨ξ,ξ,by have:=line;simp;omega⟩)];rfl
def OO:mN wz:=by
 have a:∀k∈wz,0<=k/\k<=30:=by decide +kernel
 exact λk hk=>⟨(a k hk).1,(a k hk).2⟩
def zy{ts:v6}(h:JoinOk "\n" ts=true):nA "\n" [.lst εk]=some (.val (.str (jn "\n" ts))):=y_ h
def HX{t:Str}(h:JoinOk "\n" (six++[t])=true){W:γe}(hW:W.length<1000){x3 x4 x5:Sl}:CL [some (.ae,.str tR),some (.own,.lst W),some (.ae,.str t),x3,x4,x5]=.ok .nx [some (.ae,.str tR),some (.own,.lst (W++[.str (jn "\n" (six++[t]))])),some (.ae,.str t),x3,x4,x5]:=by
 have ln:=line;have l2:W.length<sizeLine:=by omega
 have e1:=ON tR
 have e2:aS (.lst ((List.replicate 6 tR).map D.str)) (.lst [.str t])=some (.new (.lst ((six++[t]).map D.str))):=by rw[sG (by simp;omega),qbj];rfl
 have e3:=zy h;generalize jn "\n" (six++[t])=Z at *;generalize (six++[t]).map D.str=A at *;generalize (List.replicate 6 tR).map D.str=B at *;simp[-sG,CL,eo,l2,e1,e2,e3]
def Z_:yT []=some γy:=by
 have ln:=line;have tok:=Z9;have s0:0<=sizeLine:=qaZ _;have sn:small 31=true:=yh ω;have lu:(ir 0 31).length<sizeLine:=by simp[ir];omega
 have u31:ir 0 31=wz.map D.int:=rfl;have j0:=y_ (Hn OO ξ);rw[show Txt.join " " (wz.map kt)=tR from rfl]at j0;have c0:=λΓ=>Ho (Γ:=Γ) OO;rw[<-u31]at c0;have r30:=OM 30 ξ;have r31:=OM 31 ξ;rw[show((30:Nat):Int)=30 from rfl]at r30;rw[show((31:Nat):Int)=31 from rfl]at r31;have a1:aS (.lst ((lW 30).map D.str)) (.lst [.str "0"])=some (.new (.lst (b1.map D.str))):=by rw[sG (by simp[lW];omega)];unfold b1;rw[List.map_append];rfl
 have a3:aS (.lst ((lW 31).map D.str)) (.lst [.str "0"])=some (.new (.lst (b3.map D.str))):=by rw[sG (by simp[lW];omega)];unfold b3;rw[List.map_append];rfl
 have J1:=zy (ts:=b1) (by decide +kernel);have J2:=zy (ts:=b2) (by decide +kernel);have J3:=zy (ts:=b3) (by decide +kernel);have lR:tR.length<=200:=by decide +kernel
 have lR':tR.length<=sizeLine:=by omega
 have R0:tR.length+(" 0":Str).length<=sizeLine:=qaJ (Nat.add_le_add lR (show(" 0":Str).length<=2 by decide +kernel)) ω;have A1:=λ(W:γe) (hW:W.length<1000) x3 x4 x5=>HX (t:=uO) (by decide +kernel) hW (x3:=x3) (x4:=x4) (x5:=x5);have A2:=λ(W:γe) (hW:W.length<1000) x3 x4 x5=>HX (t:=l7) (by decide +kernel) hW (x3:=x3) (x4:=x4) (x5:=x5);have A3:=λ(W:γe) (hW:W.length<1000) x3 x4 x5=>HX (t:=tR) (by decide +kernel) hW (x3:=x3) (x4:=x4) (x5:=x5);have e6:=ON tR
 have a6:aS (.lst ((List.replicate 6 tR).map D.str)) (.lst [.str l7,.str "-",.str "0"])=some (.new (.lst ((six++[l7,("-":Str),("0":Str)]).map D.str))):=by rw[sG (by simp;omega),qbj];rfl
 have J6:=zy (ts:=six++[l7,("-":Str),("0":Str)]) (by decide +kernel);have HY:Txt.slice tR none (some 34)=uO:=rfl;have HZ:Txt.slice tR none (some 31)=l7:=rfl;obtain⟨y3,y4,L1⟩:=OD (x0:=some (.ae,.str tR)) (x1:=some (.ae,.lst (wA.map D.str))) (x2:=some (.ae,.str tR)) (x5:=none) wA none none tok;obtain⟨y5,L2⟩:=OE (x0:=some (.ae,.str tR)) (x1:=some (.ae,.lst (wA.map D.str))) (x2:=some (.ae,.str tR)) (x3:=y3) (x4:=y4) wy none λv hv=>hv;have et:wA.map D.str=[D.str (jn "\n" b1),.str (jn "\n" b2),.str (jn "\n" b3),.str "-",.str "0\n-",.str "0\n",.str (jn "\n" (six++[uO])),.str (jn "\n" (six++[l7])),.str (jn "\n" (six++[tR])),.str (jn "\n" (six++[l7,("-":Str),("0":Str)])),.str tR,.str (tR ++ " 0"),.str "00",.str "31",.str "30",.str " ",.str ".",.str "",.str "(0 . .)"]:=rfl;have eh:wy=[D.aq,.int 5,.lst [],.tup [.str "0"],.bl true,.mB [] [],.lst [.str "0"]]:=rfl;rw[eh]at L2;have d2:(lW 31).map D.str=b2.map D.str:=rfl;rw[et]at L1 L2;clear et eh tok;unfold yT;unfold GJ;generalize jn "\n" (six++[uO])=T7 at *;generalize jn "\n" (six++[l7,("-":Str),("0":Str)])=T10 at *;generalize jn "\n" (six++[l7])=T8 at *;generalize jn "\n" (six++[tR])=T9 at *;generalize jn "\n" b1=T1 at *;generalize jn "\n" b2=T2 at *;generalize jn "\n" b3=T3 at *;generalize (six++[l7,("-":Str),("0":Str)]).map D.str=X6 at *;generalize (List.replicate 6 tR).map D.str=X5 at *;generalize (lW 30).map D.str=X1 at *;generalize (lW 31).map D.str=X2 at *;generalize b1.map D.str=X3 at *;generalize b3.map D.str=X4 at *;generalize b2.map D.str=X7 at *;subst d2;generalize (wz.map kt).map D.str=X0 at *;generalize uO=t34 at *;generalize l7=t31 at *;generalize tR=t0 at *
 have ap3:iS (gN 2) CL [.str t34,.str t31,.str t0] [some (.ae,.str t0),some (.own,.lst [.str T1,.str T2,.str T3,.str "-",.str "0\n-",.str "0\n"]),none,none,none,none]=.ok .nx [some (.ae,.str t0),some (.own,.lst [.str T1,.str T2,.str T3,.str "-",.str "0\n-",.str "0\n",.str T7,.str T8,.str T9]),some (.ae,.str t0),none,none,none]:=by simp[o7,A1,A2,A3]
 clear A1 A2 A3;simp[aP,gam,s0,eo,sn,lu,j0,c0,r30,r31,a1,a3,J1,J2,J3,lR',HY,HZ,ap3,e6,a6,J6,R0,L1,L2]
noncomputable def gA(as:u8)(i:Int):Int:=as.getD i.toNat 0
def OP{as:u8}{i:Int}(h:0<=i)(h':i<as.length):L2.cn (as.map D.int) i=some (.int (gA as i)):=by
 have e:as[i.toNat]?=some (gA as i):=by unfold gA;rw[List.getD_eq_getElem?_getD,qae ω];rfl
 have q:(as.map D.int)[i.toNat]?=some (.int (gA as i)):=by rw[qaE,e];rfl
 have z:=AI q;rwa[Int.toNat_of_nonneg h]at z
def zyp{i:Int}(h:i.natAbs<2 ^ 64):xG γ1 (.int 2)=some (.val (.int (i ^ 2))):=by show(if cd ((0:Int)<=2/\(2:Int)<=1000000/\i.natAbs<2 ^ 64)=true then some (RV.val (.int (i ^ (2:Int).toNat))) else none)=_;rw[qaz (iR ⟨ξ,ξ,h⟩)];rfl
structure Fits(F sizes:u8):Prop where
 at_:∀(j:Nat) (x:Int),F[j]?=some x->∃z,sizes[j]?=some z/\0<=x/\x<z
def Fits.snoc{F sizes:u8}{x z:Int}(h:Fits F sizes)(hz:sizes[F.length]?=some z)(h0:0<=x)(h1:x<z):Fits (F++[x]) sizes:=⟨λj y e=>by
 by_cases hj:j<F.length
 .rw[qaL hj]at e;exact h.at_ j y e
 .rw[qaI ω]at e
  have:j-F.length=0:=by
   by_cases q:j-F.length=0
   .exact q
   .rw[List.getElem?_eq_none (by simp;omega)]at e;cases e
  rw[this]at e;cases e;have:j=F.length:=by omega
  subst this;exact⟨z,hz,h0,h1⟩⟩
def zoX{d0 d1 d2:Sl}{n s:Int}{w:Bool}{F:u8}{i:Nat}{z:Int}(hi:i<100)(hF:F.length<1000)(hs:0<=s/\s<4294967296)(hz:0<z/\z<1000) :
 ∃(n' s' x:Int),turn [d0,d1,d2,some (.ae,.int n),some (.ae,.bl w),some (.ae,.int s),some (.own,aR F),some (.ae,.int i),some (.ae,.int z)]=.ok .nx [d0,d1,d2,some (.ae,.int n'),some (.ae,.bl w),some (.ae,.int s'),some (.own,aR (F++[x])),some (.ae,.int i),some (.ae,.int z)]/\(0<=s'/\s'<4294967296)/\0<=x/\x<z:=by
 have ln:=line;have sz:F.length<sizeLine:=by omega
 by_cases hw:w=true/\0<n
 .obtain⟨rfl,hn⟩:=hw;refine⟨n/z,s,n % z,?_,hs,qbs _ ω,qbr _ hz.1⟩;have z2:z<1073741824:=by omega
  simp[turn,hn,hz.1,z2,sz]
 .have m1:sj 104729 ((i:Int)+1)=true:=BG ω;have p1:(s+104729*((i:Int)+1)).natAbs<2 ^ 64:=by omega
  have p2:=zyp p1;generalize hq:(s+104729*((i:Int)+1)) ^ 2=q at p2;have r1:0<=q % 2147483587:=qbs _ ξ;have r2:q % 2147483587<2147483587:=qbr _ ξ;refine⟨n,q % 2147483587,q % 2147483587/16 % z,?_,⟨r1,ω⟩,qbs _ ω,qbr _ hz.1⟩;cases w with
  |false=>simp[turn,m1,p2,hz.1,sz]
  |true =>
    have hn:¬0<n:=λh=>hw ⟨rfl,h⟩;simp[turn,hn,m1,p2,hz.1,sz]
def zph(c:Int)(t:Nat)(ht:t<100)(sizes:u8)(hl:sizes.length<100)(hz:∀z∈sizes,0<z/\z<1000) :
 ∃F,yU [.int c,.int t,aR sizes]=some (.new (aR F))/\F.length=sizes.length/\Fits F sizes:=by
 have ln:=line;generalize ha:(if c<0 then -c else c)=n;have m1:sj 7919 (t:Int)=true:=BG ω;have q1:0<=n % 2147483647:=qbs _ ξ;have q2:n % 2147483647<2147483647:=qbr _ ξ
 obtain⟨Γ',hlp,n',s',F,t7,t8,rfl,hs',hF,hfit⟩:=BH (m:=gT 2 ζ8) (s:=turn)
  (λi Γ=>∃(n s:Int) (F:u8) (t7 t8:Sl),Γ=[some (.ae,.int c),some (.ae,.int t),some (.ae,aR sizes),some (.ae,.int n),some (.ae,.bl (decide (vz<=(if c<0 then -c else c)))),some (.ae,.int s),some (.own,aR F),t7,t8]/\(0<=s/\s<4294967296)/\F.length=i/\Fits F sizes)
  (ds:=o3 (sizes.map D.int)) (Γ:=[some (.ae,.int c),some (.ae,.int t),some (.ae,aR sizes),some (.ae,.int n),some (.ae,.bl (decide (vz<=(if c<0 then -c else c)))),some (.ae,.int (n % 2147483647+7919*t)),some (.own,.lst []),none,none])
  ⟨n,n % 2147483647+7919*t,[],none,none,rfl,⟨ω,ω⟩,rfl,⟨λj x e=>by simp at e⟩⟩ (by
   rintro i d Γ hd ⟨n,s,F,t7,t8,rfl,hs,hF,hfit⟩;obtain⟨e,he,rfl⟩:=Od hd;rw[qaE]at he;cases q:sizes[i]? with
   |none=>rw[q]at he;cases he
   |some z =>
     rw[q]at he;cases he;have hi:i<sizes.length:=(qac.mp q).1;obtain⟨n',s',x,h1,h2,h3,h4⟩:=zoX (d0:=some (.ae,.int c)) (d1:=some (.ae,.int t)) (d2:=some (.ae,aR sizes)) (n:=n) (s:=s) (w:=decide (vz<=(if c<0 then -c else c))) (F:=F) (i:=i) (z:=z) ω ω hs (hz z (qaB q));refine⟨_,_,by simp,.inl h1,n',s',F++[x],_,_,rfl,h2,by simp[hF],hfit.snoc (by rw[hF];exact q) h3 h4⟩)
 refine⟨F,?_,by simpa [o3]using hF,hfit⟩;unfold yU;unfold GK;simp only[ha]at hlp;simp[aP,gam,ha,VF,m1,eo,hlp]
def Dl{F:u8}{j:Nat}(h:j<F.length):F[j]?=some (gA F j):=by unfold gA;rw[List.getD_eq_getElem?_getD,Int.toNat_natCast,qae h];rfl
def Fits.in_{F sizes:u8}(h:Fits F sizes){z:Int}(hz:∀y∈sizes,y<=z){x:Int}(hx:x∈F):0<=x/\x<z:=by obtain⟨j,hj⟩:=List.getElem?_of_mem hx;obtain⟨y,hy,h0,h1⟩:=h.at_ j x hj;have:=hz y (qaB hy);omega
def Fits.key{F sizes:u8}(h:Fits F sizes){j:Nat}(hj:sizes[j]?=some 31)(hl:j<F.length):0<=gA F j/\gA F j<31:=by obtain⟨z,hz,h0,h1⟩:=h.at_ j _ (Dl hl);rw[hj]at hz;cases hz;exact⟨h0,h1⟩
noncomputable def qL:u8:=[8,12,12,6]++List.replicate 24 31++[400,400,30,7,400,400,30,7,400,400,30,7]
def zxX:lQ (.lst [.int 31]) (.int 24)=some (.new (aR η0)):=by show(if cd _=true then some (RV.new (.lst (List.replicate (24:Int).toNat [D.int 31]).flatten)) else none)=_;rw[qaz (iR ⟨ξ,ξ,by have:=line;simp;omega⟩)];rfl
def zyQ:lQ (.lst [.int 400,.int 400,.int 30,.int 7]) (.int 3)=some (.new (aR [400,400,30,7,400,400,30,7,400,400,30,7])):=by show(if cd _=true then some (RV.new (.lst (List.replicate (3:Int).toNat [D.int 400,.int 400,.int 30,.int 7]).flatten)) else none)=_;rw[qaz (iR ⟨ξ,ξ,by have:=line;simp;omega⟩)];rfl
def zyF:aS (.lst [.int 8,.int 12,.int 12,.int 6]) (aR η0)=some (.new (aR ([8,12,12,6]++List.replicate 24 31))):=by rw[sG (by have:=line;simp;omega)];rfl
def zyr:aS (aR ([8,12,12,6]++List.replicate 24 31)) (aR [400,400,30,7,400,400,30,7,400,400,30,7])=some (.new (aR qL)):=by rw[sG (by have:=line;simp;omega)];rfl
def wB{F:u8}{j:Nat}(h:j<F.length):L2.cn δz (j:Int)=some (.int (gA F j)):=by refine AI ?_;rw[qaE,Dl h];rfl
def H_{α β:Type}(f:α->β)(xs:δ5)(lo hi:zzf):jc ιv lo hi=(jc xs lo hi).map f:=by unfold jc;rw[qag,List.map_take,List.map_drop]
def Dm{F:u8}{a b:Nat}(hab:a<=b)(hb:b<=F.length):jc δz (some (a:Int)) (some (b:Int))=((F.drop a).take (b-a)).map D.int:=by rw[H_];congr 1;unfold jc;rw[HT.hV,HT.hV,Nat.min_eq_left ω,Nat.min_eq_left ω]
def zwU{F:u8}{a:Nat}(ha:a<=F.length):jc δz (some (a:Int)) none=(F.drop a).map D.int:=by rw[H_];congr 1;unfold jc;rw[HT.hV,Nat.min_eq_left ha];simp only[HT.iP];rw[qaX (by rw[qaR];exact qah _)]
def four{l:u8}(h:l.length=4):∃a b c d,l=[a,b,c,d]:=by
 match l,h with
 |[a,b,c,d],_=>exact⟨a,b,c,d,rfl⟩
def zyl{ks:u8}(h:mN ks):(tl (mO ks)).count 32<=ks.length:=by
 unfold mO;split
 .have:(tl ("-":Str)).count 32=0:=by decide +kernel
  rw[this];exact qaZ _
 .rename_i ne;have:=C5 (c:=32) (ps:=ks.map kt) (by simpa using ne) λp hp=>by obtain⟨k,hk,rfl⟩:=qaF.mp hp;exact G1 (h k hk) ξ
  rw[qag]at this;have e:ro ks=Str.join (ch 32) (ks.map kt):=by unfold ro jn;rw[uJ,nD]
  rw[e];omega
theorem OQ{y:Str}(hy:(tl y).count 32=0):∀ps:v6,(tl θh).count 32=(ps.map λp=>(tl p).count 32).sum
 |[]=>by show(tl Str.empty).count 32=0;decide +kernel
 |[q]=>by simp;rfl
 |q::q'::r=>by show(tl (q++y++Str.join y (q'::r))).count 32=_;rw[mM,mM,qbR,qbR,hy,OQ hy (q'::r)];simp only[List.map_cons,List.sum_cons];omega
theorem OR(n:Nat):∀S:P3,(S.filter λc=>decide (c.1<((n+1:Nat):Int))).length=(S.filter λc=>decide (c.1<(n:Int))).length+(gQ S n).length
 |[]=>rfl
 |c::r=>by
   have ih:=OR n r;unfold gQ at ih ⊢;rw[qag]at ih ⊢;simp only[List.filter_cons];by_cases h1:c.1<(n:Int)
   .have h2:c.1<((n+1:Nat):Int):=by omega
    have h3:(c.1 == (n:Int))=false:=by simp;omega
    simp only[h1,h2,h3,decide_true,if_true,List.length_cons,Bool.false_eq_true,if_false,ih];omega
   .by_cases h3:c.1=(n:Int)
    .have h2:c.1<((n+1:Nat):Int):=by omega
     have h4:(c.1 == (n:Int))=true:=by simp[h3]
     simp only[h1,h2,h4,decide_true,decide_false,if_true,List.length_cons,Bool.false_eq_true,if_false,ih];omega
    .have h2:¬c.1<((n+1:Nat):Int):=by omega
     have h4:(c.1 == (n:Int))=false:=by simp[h3]
     simp only[h1,h2,h4,decide_false,Bool.false_eq_true,if_false,ih]
theorem sum_rows{S:P3}(h:Ord S):∀n:Nat,((rws S n).map λp=>(tl p).count 32).sum<=(S.filter λc=>decide (c.1<(n:Int))).length
 |0=>by simp[rws]
 |n+1=>by rw[Oq,qbj,List.sum_append,OR];have:=sum_rows h n;have:=zyl (h.keys n);simp only[List.map_cons,List.map_nil,List.sum_cons,List.sum_nil];omega
def zyL{S:P3}(h:Ord S)(hl:S.length<=11){n:Nat}(hn:n<=6):Q 210 11 (pt S n):=by
 have kl:∀m:Nat,(gQ S m).length<=11:=λm=>by have:=Ol S m;omega
 have e:pt S n=Str.join "\n" (rws S n):=uJ _ _;refine⟨?_,?_,?_⟩
 .rw[e];refine HQ OI λp hp=>?_;obtain⟨m,rfl⟩:=HB hp;unfold mO;split
  .decide +kernel
  .exact ax.mpr λc hc=>by rcases HA (h.keys m) c hc with q|q<;>omega
 .have:=za wc (ts:=rws S n) (B:=33) λt ht=>by
   obtain⟨m,rfl⟩:=HB ht;unfold mO;split
   .have:("-":Str).length=1:=by decide +kernel
    omega
   .have:=Hm (h.keys m);have:=kl m;omega
  rw[C9]at this
  show(jn "\n" (rws S n)).length<=210
  omega
 .rw[e,OQ (by decide +kernel)];refine qaJ (sum_rows h n) (qaJ (List.length_filter_le ..) hl)
def zyy{ks:u8}(h:mN ks)(hl:ks.length<=12):Q 36 36 (ro ks):=by
 have l:=Hm h;have a:asc (ro ks)=true:=ax.mpr λc hc=>by rcases HA h c hc with q|q<;>omega
 refine⟨a,ω,?_⟩;have:(tl (ro ks)).count 32<=(tl (ro ks)).length:=List.count_le_length;rw[gn]at this;omega
theorem Ia:∀{t:T},AK t->∀c∈tl θM,c<128
 |.nil,_,c,hc=>by rw[zg]at hc;simp at hc;omega
 |.node k l r,⟨a,b,d⟩,c,hc=>by
   rw[we]at hc;simp only[List.mem_cons,List.mem_append,List.not_mem_nil,or_false]at hc;rcases hc with rfl|hc|rfl|hc|rfl|hc|rfl
   .omega
   .have:=CQ a c hc;omega
   .omega
   .exact Ia b c hc
   .omega
   .exact Ia d c hc
   .omega
def zyw{t:T}(hb:t.B (-1) 31):Q 218 218 θM:=by have l:=Hr hb (zc hb);refine⟨ax.mpr (Ia (zh hb)),l,?_⟩;have:(tl θM).count 32<=(tl θM).length:=List.count_le_length;rw[gn]at this;omega
section
variable{F:u8}(hl:F.length=40)(hf:Fits F qL)
include hl hf
theorem zz{j:Nat}{z:Int}(h:qL[j]?=some z)(hj:j<40):0<=gA F j/\gA F j<z:=by obtain⟨y,hy,h0,h1⟩:=hf.at_ j _ (Dl (F:=F) (j:=j) ω);rw[h]at hy;cases hy;exact⟨h0,h1⟩
theorem OS{j:Nat}(h1:3<=j)(h2:j<28):Key (gA F j):=by
 have s:∃z,qL[j]?=some z/\z<=31:=by
  have:∀j:Nat,j<28->3<=j->∃z:Int,z∈[6,31]/\qL[j]?=some z:=by decide +kernel
  obtain⟨z,hz,e⟩:=this j h2 h1;refine⟨z,e,?_⟩;simp at hz;omega
 obtain⟨z,hz,hz'⟩:=s;obtain⟨a,b⟩:=zz hl hf hz ω;exact⟨a,ω⟩
theorem OT{e:Nat}(he:e<=24):mN ((F.drop 4).take e):=λk hk=>by
 obtain⟨j,hj⟩:=List.getElem?_of_mem hk;have hj1:j<e:=by have:=(qac.mp hj).1;rw[qa0]at this;omega
 rw[List.getElem?_take_of_lt hj1,qbi]at hj;have h2:4+j<F.length:=(qac.mp hj).1;rw[Dl h2]at hj;cases hj;exact OS hl hf ω ω
def l8(F:u8)(j:Nat):Int×Int:=(gA F ((5+2*j:Nat):Int) % (1+gA F 3),gA F ((4+2*j:Nat):Int))
theorem F_3:0<=gA F 3/\gA F 3<6:=zz hl hf (j:=3) (z:=6) (by decide +kernel) ξ
theorem OU{j:Nat}(hj:j<11):eK (l8 F j)/\(l8 F j).1<=5:=by have k1:=OS hl hf (j:=4+2*j) ω ω;obtain⟨a,b⟩:=F_3 hl hf;have c:=qbs (gA F ((5+2*j:Nat):Int)) (b:=1+gA F 3) ω;have d:=qbr (gA F ((5+2*j:Nat):Int)) (b:=1+gA F 3) ω;exact⟨⟨⟨c,by show gA F ((5+2*j:Nat):Int) % (1+gA F 3)<=30;omega⟩,⟨k1.lo,k1.hi⟩⟩,by show gA F ((5+2*j:Nat):Int) % (1+gA F 3)<=5;omega⟩
theorem zwc{x0 x1 x2 x4 x5 x6 x7 x8 x9 x10 x11:Sl}{n:Nat}(hn:n<=11):fm [3] 1 ζh γn γU (ir 0 n) [x0,x1,x2,some (.own,aR F),x4,x5,x6,x7,x8,x9,x10,x11]=.ok (sw ((List.range n).map (l8 F))) [x0,x1,x2,some (.own,aR F),x4,x5,x6,x7,x8,x9,x10,x11]:=by
 have ln:=line;unfold sw;rw[qbo,qbo];refine uK (λj:Nat=>D.int (0+j)) (λj:Nat=>D.tup [.int (l8 F j).2,.int (l8 F j).1]) rfl λj hj=>?_;have hj:j<n:=qbA.mp hj;refine⟨[some (.ae,.int j),some (.own,aR F)],?_,rfl⟩;have e3:L2.cn δz 3=some (.int (gA F 3)):=wB (j:=3) ω;have q3:0<1+gA F 3:=by have:=(F_3 hl hf).1;omega
 have e1:L2.cn δz (4+2*(j:Int))=some (.int (gA F ((4+2*j:Nat):Int))):=by
  have:=wB (F:=F) (j:=4+2*j) ω;rw[<-this]
  push_cast
  rfl
 have e2:L2.cn δz (5+2*(j:Int))=some (.int (gA F ((5+2*j:Nat):Int))):=by
  have:=wB (F:=F) (j:=5+2*j) ω;rw[<-this]
  push_cast
  rfl
 have m1:sj 2 (j:Int)=true:=BG ω;have s1:(l8 F j).1=gA F ((5+2*j:Nat):Int) % (1+gA F 3):=rfl;have s2:(l8 F j).2=gA F ((4+2*j:Nat):Int):=rfl;rw[s1,s2];unfold aR at *;generalize gA F ((5+2*j:Nat):Int)=u at *;generalize gA F ((4+2*j:Nat):Int)=v at *;generalize gA F 3=w at *;generalize F.map D.int=W at *;simp[dU,e1,e2,e3,m1,q3,eo]
theorem zxN{x0 x1 x2 x4 x5 x6 x7 x8 x9 x10 x11:Sl}:∃(t1 t2 t3:Str) (y4 y5:Sl),(∀X:M Fl,aA GQ (aA GR (aA GS X)) [x0,x1,x2,some (.own,aR F),x4,x5,x6,x7,x8,x9,x10,x11]=X [x0,x1,x2,some (.own,aR F),y4,y5,some (.own,.lst [.str t1,.str t2,.str t3]),x7,x8,x9,x10,x11])/\Q 218 218 t1/\Q 218 218 t2/\Q 218 11 t3:=by
 have ln:=line;obtain⟨a0,b0⟩:=zz hl hf (j:=0) (z:=8) (by decide +kernel) ξ;obtain⟨a1,b1⟩:=zz hl hf (j:=1) (z:=12) (by decide +kernel) ξ;obtain⟨a2,b2⟩:=zz hl hf (j:=2) (z:=12) (by decide +kernel) ξ;obtain⟨p,hp⟩:∃p:Nat,gA F ((0:Nat):Int)=p:=⟨(gA F ((0:Nat):Int)).toNat,ω⟩;obtain⟨m,hm⟩:∃m:Nat,gA F ((1:Nat):Int)=m:=⟨(gA F ((1:Nat):Int)).toNat,ω⟩;obtain⟨n,hn⟩:∃n:Nat,gA F ((2:Nat):Int)=n:=⟨(gA F ((2:Nat):Int)).toNat,ω⟩;have e0:L2.cn δz 0=some (.int p):=by rw[<-hp];exact wB (j:=0) ω
 have e1:L2.cn δz 1=some (.int m):=by rw[<-hm];exact wB (j:=1) ω
 have e2:L2.cn δz 2=some ηk:=by rw[<-hn];exact wB (j:=2) ω
 have c0:jc δz (some 4) (some (4+(p:Int)))=((F.drop 4).take p).map D.int:=by have:=Dm (F:=F) (a:=4) (b:=4+p) ω ω;rw[show 4+p-4=p by omega]at this;rw[<-this];rfl
 have c1:jc δz (some 4) (some (5+(m:Int)))=((F.drop 4).take (m+1)).map D.int:=by have:=Dm (F:=F) (a:=4) (b:=5+m) ω ω;rw[show 5+m-4=m+1 by omega]at this;rw[<-this];rfl
 have k0:=OT hl hf (e:=p) ω;have k1:=OT hl hf (e:=m+1) ω;obtain⟨t,ht,hb⟩:=Zb k0 (by rw[qa0];omega);have tt:=Hs t _ _ 48 (wo hb) hb (zc hb);have s1:=λΓ=>Ho (Γ:=Γ) k1;have kl:((F.drop 4).take (m+1)).length<=12:=by rw[qa0];omega
 have j1:=y_ (Hn k1 ω);rw[show Txt.join " " (((F.drop 4).take (m+1)).map kt)=ro ((F.drop 4).take (m+1)) from rfl]at j1
 have sm:∀c∈(List.range n).map (l8 F),eK c:=λc hc=>by obtain⟨j,hj,rfl⟩:=qaF.mp hc;exact(OU hl hf (by have:=qbA.mp hj;omega)).1
 have sl:((List.range n).map (l8 F)).length<=11:=by simp;omega
 obtain⟨L,_,hL⟩:=Oo sm
 have hbL : -1<=L/\L<=5:=by
  rcases hL.one with ⟨e,_⟩|⟨c,hc,e⟩
  .omega
  .have:=(sm c hc).1.1;obtain⟨j,hj,rfl⟩:=qaF.mp hc;have:=(OU hl hf (j:=j) (by have:=qbA.mp hj;omega)).2;omega
 obtain⟨q,rfl⟩:∃q:Nat,L=(q:Int)-1:=⟨(L+1).toNat,ω⟩;have pe:=Zw sm ω (λm=>by have:=Ol ((List.range n).map (l8 F)) m;omega) (n:=q) ω hL;have pq:=zyL (zt sm) (by have:=Hy ((List.range n).map (l8 F));omega) (n:=q) ω;have l2:=zwc hl hf (x0:=x0) (x1:=x1) (x2:=x2) (x4:=x4) (x5:=x5) (x6:=x6) (x7:=x7) (x8:=x8) (x9:=x9) (x10:=x10) (x11:=x11) (n:=n) ω;have sn:small (n:Int)=true:=yh ω;have lu:(ir 0 n).length<sizeLine:=by simp[ir];omega
 have lk:(((F.drop 4).take (m+1)).map D.int).length<sizeLine:=by rw[qag];omega
 refine⟨tx t,ro ((F.drop 4).take (m+1)),pt (ef ((List.range n).map (l8 F))) q,some (.own,.lst (sw ((List.range n).map (l8 F)))),some (.ae,.str (ro ((F.drop 4).take (m+1)))),?_,zyw hb,?_,?_⟩
 .intro X;unfold aR at *;generalize pt (ef ((List.range n).map (l8 F))) q=Z3 at *;generalize sw ((List.range n).map (l8 F))=A at *;generalize ro ((F.drop 4).take (m+1))=Z2 at *;generalize (((F.drop 4).take (m+1)).map kt).map D.str=S at *;generalize ((F.drop 4).take (m+1)).map D.int=K1 at *;generalize ((F.drop 4).take p).map D.int=K0 at *;generalize F.map D.int=W at *;generalize tx t=Z1 at *;simp[GQ,GR,GS,e0,e1,e2,c0,c1,sn,lu,l2,lk,s1,j1,ht,tt,pe,eo]
 .have:=zyy k1 kl;exact⟨this.as,by have:=this.le;omega,by have:=this.bl;omega⟩
 .exact⟨pq.as,by have:=pq.le;omega,pq.bl⟩
end
def Ib:1<=("0123456789 ().-\n;+ab	":Str).length/\("0123456789 ().-\n;+ab	":Str).length<=100/\asc "0123456789 ().-\n;+ab	" = true:=by decide +kernel
def Ic:1<=("0 1 3 (). -\n- ":Str).length/\("0 1 3 (). -\n- ":Str).length<=100/\asc "0 1 3 (). -\n- " = true:=by decide +kernel
def Ie:1<=("0123456789 ().-\n":Str).length/\("0123456789 ().-\n":Str).length<=100/\asc "0123456789 ().-\n" = true:=by decide +kernel
def Dp{w b:Nat}{z:Str}(hw:w<3)(hz:Q 875 b z)(hb:w=2->b<63){x0 x1 x2 x3 x4 x5 x6 x8 x9 x10:Sl}:GU [x0,x1,x2,x3,x4,x5,x6,some (.ae,.int w),x8,x9,x10,some (.ae,.str z)]=.ok .nx [x0,x1,x2,x3,x4,x5,x6,some (.ae,.int w),x8,x9,x10,some (.ae,.str z)]:=by have zl:=hz.le;obtain⟨V,y,p,q,r⟩:=both w hw hz.as ω λe=>OH hz.as ω (by have:=hz.bl;have:=hb e;omega);simp[GU,p,q,r]
def Ig{F:u8}(hl:F.length=40){w b:Nat}{z:Str}(hw:w<3)(hz:Q 218 b z)(hb:w=2->4*b+3<63){x0 x1 x2 x4 x5 x6 x9 x10 x11:Sl}:∃y9 y10 y11,GV [x0,x1,x2,some (.own,aR F),x4,x5,x6,some (.ae,.int w),some (.ae,.str z),x9,x10,x11]=.ok .nx [x0,x1,x2,some (.own,aR F),x4,x5,x6,some (.ae,.int w),some (.ae,.str z),y9,y10,y11]:=by have ln:=line;obtain⟨a0,a1,a2,a3,ha⟩:=four (l:=(F.drop 28).take 4) (by rw[qa0,qaR];omega);obtain⟨b0,b1,b2,b3,hb4⟩:=four (l:=(F.drop 32).take 4) (by rw[qa0,qaR];omega);obtain⟨c0,c1,c2,c3,hc⟩:=four (l:=F.drop 36) (by rw[qaR];omega);have ca:=Dm (F:=F) (a:=28) (b:=32) ω ω;have cb:=Dm (F:=F) (a:=32) (b:=36) ω ω;have cc:=zwU (F:=F) (a:=36) ω;rw[ha,show((28:Nat):Int)=28 from rfl,show((32:Nat):Int)=32 from rfl]at ca;rw[hb4,show((32:Nat):Int)=32 from rfl,show((36:Nat):Int)=36 from rfl]at cb;rw[hc,show((36:Nat):Int)=36 from rfl]at cc;obtain⟨z1,e1,q1⟩:=HN (d0:=a0) (d1:=a1) (d2:=a2) (d3:=a3) hz ξ Ib.1 Ib.2.1 Ib.2.2;obtain⟨z2,e2,q2⟩:=HN (d0:=b0) (d1:=b1) (d2:=b2) (d3:=b3) hz ξ Ic.1 Ic.2.1 Ic.2.2;obtain⟨z3,e3,q3⟩:=HN (d0:=c0) (d1:=c1) (d2:=c2) (d3:=c3) q2 ξ Ie.1 Ie.2.1 Ie.2.2;have r0:=λ{x9 x10:Sl}=>Dp hw (hz.mono (n':=875) (b':=4*b+3) ξ ω) hb (x0:=x0) (x1:=x1) (x2:=x2) (x3:=some (.own,aR F)) (x4:=x4) (x5:=x5) (x6:=x6) (x8:=some (.ae,.str z)) (x9:=x9) (x10:=x10);have r1:=λ{x9 x10:Sl}=>Dp hw (q1.mono (n':=875) (b':=4*b+3) ξ ω) hb (x0:=x0) (x1:=x1) (x2:=x2) (x3:=some (.own,aR F)) (x4:=x4) (x5:=x5) (x6:=x6) (x8:=some (.ae,.str z)) (x9:=x9) (x10:=x10);have r2:=λ{x9 x10:Sl}=>Dp hw (q2.mono (n':=875) (b':=4*b+3) ξ ω) hb (x0:=x0) (x1:=x1) (x2:=x2) (x3:=some (.own,aR F)) (x4:=x4) (x5:=x5) (x6:=x6) (x8:=some (.ae,.str z)) (x9:=x9) (x10:=x10);have r3:=λ{x9 x10:Sl}=>Dp hw (q3.mono (n':=875) (b':=4*b+3) ξ ω) hb (x0:=x0) (x1:=x1) (x2:=x2) (x3:=some (.own,aR F)) (x4:=x4) (x5:=x5) (x6:=x6) (x8:=some (.ae,.str z)) (x9:=x9) (x10:=x10);refine⟨some (.ae,.str z1),some (.ae,.str z2),some (.ae,.str z),?_⟩;unfold aR at *;simp only[List.map_cons,List.map_nil]at *;generalize F.map D.int=W at *;simp[GV,Nj,Nk,Nl,ca,cb,cc,e1,e2,e3,eo,o7,r0,r1,r2,r3]
def zxw{c:Int}{t:Nat}(ht:t<100){x0 x3 x4 x5 x6 x7 x8 x9 x10 x11:Sl}:∃y3 y4 y5 y6 y7 y8 y9 y10 y11,lB [x0,some (.ae,.int t),some (.ae,.int c),x3,x4,x5,x6,x7,x8,x9,x10,x11]=.ok .nx [x0,some (.ae,.int t),some (.ae,.int c),y3,y4,y5,y6,y7,y8,y9,y10,y11]:=by
 have ln:=line;obtain⟨F,hF,hl,hf⟩:=zph c t ht qL ξ (by decide +kernel);have hl:F.length=40:=by rw[hl];decide
 have e1:GP [x0,some (.ae,.int t),some (.ae,.int c),x3,x4,x5,x6,x7,x8,x9,x10,x11]=.ok .nx [x0,some (.ae,.int t),some (.ae,.int c),some (.own,aR F),x4,x5,x6,x7,x8,x9,x10,x11]:=by have r:=zxX;have r':=zyQ;have a:=zyF;have a':=zyr;generalize aR qL=Y at *;generalize aR ([8,12,12,6]++List.replicate 24 31)=Y2 at *;generalize aR [400,400,30,7,400,400,30,7,400,400,30,7]=Y3 at *;generalize aR η0=Z at *;generalize aR F=W at *;simp[-sG,GP,eo,r,r',a,a',hF]
 obtain⟨t1,t2,t3,y4,y5,e2,q1,q2,q3⟩:=zxN hl hf (x0:=x0) (x1:=some (.ae,.int t)) (x2:=some (.ae,.int c)) (x4:=x4) (x5:=x5) (x6:=x6) (x7:=x7) (x8:=x8) (x9:=x9) (x10:=x10) (x11:=x11);obtain⟨u9,u10,u11,g1⟩:=Ig hl (w:=0) ξ q1 ξ (x0:=x0) (x1:=some (.ae,.int t)) (x2:=some (.ae,.int c)) (x4:=y4) (x5:=y5) (x6:=some (.ae,.lst [.str t1,.str t2,.str t3])) (x9:=x9) (x10:=x10) (x11:=x11);obtain⟨v9,v10,v11,g2⟩:=Ig hl (w:=1) ξ q2 ξ (x0:=x0) (x1:=some (.ae,.int t)) (x2:=some (.ae,.int c)) (x4:=y4) (x5:=y5) (x6:=some (.ae,.lst [.str t1,.str t2,.str t3])) (x9:=u9) (x10:=u10) (x11:=u11);obtain⟨w9,w10,w11,g3⟩:=Ig hl (w:=2) ξ q3 ξ (x0:=x0) (x1:=some (.ae,.int t)) (x2:=some (.ae,.int c)) (x4:=y4) (x5:=y5) (x6:=some (.ae,.lst [.str t1,.str t2,.str t3])) (x9:=v9) (x10:=v10) (x11:=v11);have nb:o3 [D.str t1,.str t2,.str t3]=[.tup [.int 0,.str t1],.tup [.int 1,.str t2],.tup [.int 2,.str t3]]:=rfl;rw[show((0:Nat):Int)=0 from rfl]at g1;rw[show((1:Nat):Int)=1 from rfl]at g2;rw[show((2:Nat):Int)=2 from rfl]at g3;refine⟨some (.own,aR F),y4,y5,some (.ae,.lst [.str t1,.str t2,.str t3]),some (.ae,.int 2),some (.ae,.str t3),w9,w10,w11,?_⟩;unfold lB;rw[Vy,e1];dsimp only;rw[e2];generalize aR F=W at *;simp[nb,o7,g1,g2,g3]
def zwC(ns:u8)(h:ns.length<=63):yX [.eZ ns]=some γy:=by
 have ln:=line;have e0:=Z_;have sa:ns.length+1<=sizeLine:=by omega
 have ct:jc (ns.map D.int++[D.int 1]) none (some 12)=((ns++[1]).take 12).map D.int:=by
  have:ns.map D.int++[D.int 1]=(ns++[1]).map D.int:=by rw[qbj];rfl
  rw[this,H_];congr 1;unfold jc;rw[show(some (12:Int))=some ((12:Nat):Int) from rfl,HT.hV];simp only[HT.iP,List.drop_zero,Nat.sub_zero,List.length_append,List.length_cons,List.length_nil];by_cases q:12<=ns.length+1
  .rw[Nat.min_eq_left q]
  .rw[Nat.min_eq_right ω,qaX (by simp),qaX (by simp;omega)]
 obtain⟨Γ',hlp,y1,y2,y3,y4,y5,y6,y7,y8,y9,y10,y11,rfl⟩:=BH (m:=gT 2 δN) (s:=lB) (λi Γ=>∃y1 y2 y3 y4 y5 y6 y7 y8 y9 y10 y11:Sl,Γ=[some (.ae,.eZ ns),y1,y2,y3,y4,y5,y6,y7,y8,y9,y10,y11]) (ds:=o3 (((ns++[1]).take 12).map D.int)) (Γ:=[some (.ae,.eZ ns),none,none,none,none,none,none,none,none,none,none,none]) ⟨none,none,none,none,none,none,none,none,none,none,none,rfl⟩ (by
  rintro i d Γ hd ⟨y1,y2,y3,y4,y5,y6,y7,y8,y9,y10,y11,rfl⟩;obtain⟨e,he,rfl⟩:=Od hd;rw[qaE]at he;cases q:((ns++[1]).take 12)[i]? with
  |none=>rw[q]at he;cases he
  |some c =>
    rw[q]at he;cases he;have hi:i<12:=by have:=(qac.mp q).1;rw[qa0]at this;omega
    obtain⟨z3,z4,z5,z6,z7,z8,z9,z10,z11,e⟩:=zxw (c:=c) (t:=i) ω (x0:=some (.ae,.eZ ns)) (x3:=y3) (x4:=y4) (x5:=y5) (x6:=y6) (x7:=y7) (x8:=y8) (x9:=y9) (x10:=y10) (x11:=y11);exact⟨[some (.ae,.eZ ns),some (.ae,.int i),some (.ae,.int c),y3,y4,y5,y6,y7,y8,y9,y10,y11],_,by simp,.inl e,_,_,_,_,_,_,_,_,_,_,_,rfl⟩)
 unfold yX;unfold GW;generalize ((ns++[1]).take 12).map D.int=N at *;simp[aP,gam,e0,eo,sa,ct,hlp]
end dW
namespace Hd
open PySem PySem.W PyProof.Rows
noncomputable def zA(tb:String->Option Builtin)(p:Program)(w:World)(m:Nat)(an:zzb):Nat->SharedT->Thread->Option SharedT
 |0,_,_=>none
 |k+1,x,y=>match through y with
   |true=>some x
   |false=>match stepOk m an y with
     |false=>none
     |true=>match stepT (denote tb) p w x y with
       |some (x',y')=>zA tb p w m an k x' y'
       |none=>none
theorem OV:∀{k:Nat}{x r:SharedT}{y:Thread},zA tb p w m an k x y=some r->topRun tb p w m an k x.abs y=some r.abs
 |0,_,_,_,h=>by cases h
 |k+1,x,r,y,h=>by
   unfold zA at h;unfold topRun;cases c1:through y with
   |true=>rw[c1]at h;cases h;rfl
   |false =>
     rw[c1]at h;cases c2:stepOk m an y with
     |false=>rw[c2]at h;cases h
     |true =>
       rw[c2]at h;cases c3:stepT (denote tb) p w x y with
       |none=>rw[c3]at h;cases h
       |some z=>obtain⟨x2,y2⟩:=z;rw[c3]at h;rw[stepT_spec c3];exact OV h
noncomputable def zB(tb:String->Option Builtin)(p:Program)(w:World)(m:Nat)(an:zzb):Nat->SharedT->Thread->Option SharedT
 |0,_,_=>none
 |k+1,x,y=>match through y with
   |true=>some x
   |false=>match Fast.tw6613529449190102663 m an y with
     |false=>none
     |true=>match Fast.tw10156331382660048174 (Fast.tw11892475500146522536 tb) p w x y with
       |some (x',y')=>zB tb p w m an k x' y'
       |none=>none
theorem OW:∀(k:Nat) (x:SharedT) (y:Thread),zA tb p w m an k x y=zB tb p w m an k x y
 |0,_,_=>rfl
 |k+1,x,y=>by
   unfold zA zB;rw[<-Fast.te6613529449190102663,<-Fast.te10156331382660048174,<-Fast.te11892475500146522536];split
   .rfl
   .split
    .rfl
    .split
     .exact OW k _ _
     .rfl
def Ih(P:Params)(os:OsState):SharedT:=
 ⟨(.node (boot_o_0 P) (.node (boot_o_1 P) (.node (boot_o_3 P) (.node (boot_o_7 P) .nil .nil) .nil) (.node (boot_o_5 P) (.node (boot_o_9 P) .nil .nil) .nil)) (.node (boot_o_2 P) (.node (boot_o_4 P) (.node (boot_o_8 P) .nil .nil) .nil) (.node (boot_o_6 P) (.node (boot_o_10 P) .nil .nil) .nil))),11,(boot_heap P).life,Array.mk [],boot_drawn,boot_toks,os⟩
def zpA(P:Params)(os:OsState):(Ih P os).abs=⟨boot_heap P,Array.mk [],boot_drawn,boot_toks,os⟩:=by kernel_rfl
def ztd{p r:Program}{keep:zzc}{R:WRecords}{K:Params->Frag}{as:zzd}{N:Nat}(ep:p=r)(e0:opening p=plainProg p.main.scope.names)(hN:Nat.ble 600 N=true)(f:∀s,fenceModules? p s=some s)
 (run:∀(w:World) (os:OsState),(zB Fast.tw14364793385576792824 r w 11 (some (.ref 6)) N (Ih w.params os) (topStub r)).map (λs=>((staticsOk (importedModules r.main.body) δ0 s.abs.heap&&namesBound r s.abs.heap&&gensDone s.abs&&laidKept δ0 s.abs.heap),
  Fast.tw4187177175401517315 (view r keep) [] (importedModules r.main.body) (λs=>xlAt (view r keep) [] s&&recOk R s) true s.abs,as.map s.abs.heap.get?))=some (true,openGood (view r keep) [],(K w.params).map λx=>some x.2)) :
 LeftO p (view p keep) [] (λs=>xlAt (view p keep) [] s&&recOk R s) (λs=>as.map s.heap.get?) (λw=>(K w.params).map λx=>some x.2) N:=by
 subst ep;intro w;obtain⟨⟨h,gs,d,k,os⟩,e,e'⟩:=qbw.mp (boot_open e0 hN f w);obtain⟨rfl,rfl,rfl,rfl⟩:h=boot_heap w.params/\gs=Array.mk []/\d=boot_drawn/\k=boot_toks:=by simpa using e'
 obtain⟨s,h1,h2⟩:=qbw.mp (run w os);rw[<-Fast.te14364793385576792824,<-OW]at h1;have h1:=OV h1;rw[zpA]at h1;rw[<-Fast.te4187177175401517315]at h2;obtain⟨l1,l2,l3⟩:_/\_/\_:=by simpa only [Prod.mk.injEq]using h2
 have z:((boot_heap w.params).isNs mainGlobals&&(Array.mk []:Array GenState).size == 0,(boot_heap w.params).objs.size,(boot_heap w.params).nsMap mainGlobals "__annotations__")=(true,11,some (.ref 6)):=by kernel_rfl
 obtain⟨z1,z2,z3⟩:_/\_/\_:=by simpa only [Prod.mk.injEq]using z
 have t:topFrom treeTable p w N ⟨boot_heap w.params,Array.mk [],boot_drawn,boot_toks,os⟩=some s.abs:=by unfold topFrom;dsimp only;rw[z1,z2,z3,h1];show(match staticsOk (importedModules p.main.body) δ0 s.abs.heap&&namesBound p s.abs.heap&&gensDone s.abs&&laidKept δ0 s.abs.heap with|true=>_|false=>_)=_;rw[l1]
 unfold openEnds;rw[e];show((topFrom treeTable p w N _).map _)=_;rw[t];exact congrArg some (Prod.ext l2 (by exact l3))
noncomputable abbrev vS(s:Str)(t:Tok):Value:=.str s t
noncomputable abbrev vI(i:Int)(t:Tok):Value:=.int i t
noncomputable abbrev de(s:Str)(t:Tok)(v:Value):Str×Tok×Value:=(s,t,v)
noncomputable abbrev dO(P:Params)(l:List (Str×Tok×Value))(n:Nat):Obj:={cls:=.type "dict",data:=.dict (l.map λx=>⟨PyData.keyHash P x.1,.str x.1 x.2.1,x.2.2⟩).toArray n}
noncomputable abbrev dN(P:Params)(l:List (Str×Tok×Value))(n:Nat):Obj:={cls:=.none,data:=.dict (l.map λx=>⟨PyData.keyHash P x.1,.str x.1 x.2.1,x.2.2⟩).toArray n}
abbrev fO(x q:Str)(st:Stmt)(dV pm:Value)(cd:Addr):Obj:={cls:=.type "function",data:=.func (fnOf x q (L2.aZ st) (L2.af st) (L2.aa st) dV .none .none pm none (.ref cd) .none)}
noncomputable abbrev kO(x q:Str)(t:Tok)(a b:Int)(l:v4):Obj:={cls:=.type "code",data:=.fields (.str x t :: .str q (t+1) :: .str "/claim/cut.py" (t+2) :: .int a 0 :: .int b 0::l).toArray}
noncomputable abbrev cO(x:Str)(bs mr:v4)(ns:Addr)(sb:v4)(sl:η4):Obj:={cls:=.type "type",data:=.cls {name:=x,bases:=bs,mro:=mr,ns:=ns,qualname:=x,subclasses:=sb},slots:=sl}
noncomputable def rf:Nat->Value
 |0=>.none
 |n=>.ref n
def kP(x q:Str)(t:Tok)(a b:Int)(r:Nat)(m:zzc)(e:Nat):Obj:=kO x q t a b ([vI 0 0,vI 0 0,vI 3 0,.ref r,.bool true,vI 181 0,.ref (r+1)]++m.map rf++[vI e 0,vI a 0,vS "/claim/cut.py" (e+1)])
def fQ(x:Str)(st:Stmt)(pm:Value)(cd:Addr):Obj:=fO x x st .none pm cd
def xD(P:Params)(pm:Value)(t:Tok)(l:Int)(i:List (Str×Tok×Value))(u:Tok)(r:Addr):Obj:=dO P ([de "__module__" t pm,de "__firstlineno__" (t+4) (vI l (t+3))]++i++[de "__static_attributes__" u (.ref r),de "__doc__" (u+1) .none]) 2
def xC(x:Str)(b:Value)(m:v4)(n:String)(a ns r:Addr)(t u:Tok):Obj:=cO x [b] ([.ref a,b]++m++[.type "Exception",.type "BaseException",.type "object"]) ns [] #[some (.ref r),none,some (vS x t),some (vS x u),some (.builtin (n ++ ".__new__")),some δ9]
end Hd
namespace dW
open PySem L2 Ex Dv
noncomputable abbrev qu:v6:=["points"]
noncomputable abbrev wC:v6:=["_law_way","_law_text"]
noncomputable abbrev ln2:v6:=["_law_word"]
noncomputable abbrev qv:v6:=["_law_tree_here"]
noncomputable abbrev td:v6:=["_law_row"]
noncomputable abbrev wD:v6:=["_law_tree_here","_law_key"]
noncomputable abbrev jZ:v6:=["thing"]
noncomputable abbrev zC:v6:=["text","place","sign"]
noncomputable abbrev OX:v6:=["_law_text","_law_d","_law_signs","_law_at","_law_to","_law_sign","_law_low","_law_high","_law_some"]
noncomputable abbrev Ii:v6:=["_law_row","_law_found"]
noncomputable abbrev ln10:v6:=["_law_text","_law_rows","_law_found","_law_moment","_law_row","_law_keys_here"]
noncomputable abbrev OY:v6:=["_law_text","_law_at","_law_end","_law_left","_law_right"]
noncomputable abbrev zD:v6:=["self","points"]
noncomputable abbrev OZ:v6:=["text","start","low","high","word","key","place","left","right"]
noncomputable abbrev O0:v6:=["_law_way","_law_text","_law_kept","_law_found","e"]
noncomputable abbrev O3:v6:=["_law_row","_law_texts","_law_last","_law_text","_law_way","_law_thing"]
noncomputable abbrev O4:v6:=["_law_cell","_law_turn","_law_sizes","_law_number","_law_wide","_law_seed","_law_found","_law_k","_law_size"]
noncomputable abbrev Dr:v6:=["_law_spots","_law_rows","_law_last","_law_moment","_law_row"]
noncomputable abbrev Ij:v6:=["_law_key","_law_when"]
noncomputable abbrev Ik:v6:=["_law_key","_law_when","_law_moment"]
noncomputable abbrev O5:v6:=["_law_digits_here","_law_tree_here","_law_digit"]
noncomputable abbrev Il:v6:=["_law_script","_law_turn","_law_cell","_law_d","_law_spots","_law_asks","_law_goods","_law_way","_law_good","_law_one","_law_other","_law_text"]
variable[KC]
def top(i:Nat):Stmt:=PySem.Challenge.pw_thirdpoint_k58_texts_of_none.main.body.getD i (.Pass ⟨0,0,0,0⟩)
structure Nm(mg:M2):Prop where
 zE:mg "abs" = none
 zF:mg "all" = none
 uQ:mg "bool" = none
 bE:mg "enumerate" = none
 kC:mg "int" = none
 aW:mg "isinstance" = none
 bU:mg "len" = none
 pN:mg "list" = none
 ti:mg "max" = none
 zG:mg "min" = none
 fV:mg "range" = none
 jK:mg "repr" = none
 mQ:mg "set" = none
 eA:mg "sorted" = none
 kD:mg "str" = none
 mR:mg "tuple" = none
 fJ:∃t,mg "LAST_KEY" = some (.int 30 t)
 kE:∃t,mg "MOST_ASKS" = some (.int 31 t)
 fv:∃t,mg "MOST_POINTS" = some (.int 200 t)
 jh:∃t,mg "FIGURES" = some (.str "0123456789" t)
 pP:mg "NoAsks" = some (.ref (KC.cls .NoAsks))
 l9:mg "NoPoints" = some (.ref (KC.cls .NoPoints))
 bH:mg "NoText" = some (.ref (KC.cls .NoText))
 pQ:mg "NoTree" = some (.ref (KC.cls .NoTree))
 jL:mg "PointError" = some (.ref θG)
 pR:mg "Points" = some (.ref (KC.cls .Points))
 cq:∀(P:Program) (w:World) (base:Heap),Me P w mg base .NoText ["self","row"] (FN (KC.cls .NoText) "row")
 pS:KitX n9 .NoAsks
 l_:KitX n9 .NoPoints
 pU:KitX n9 .NoText
 pV:KitX n9 .NoTree
 jM:∀C,Gx C=true->aV KC.K θ [.ref θG]=some true
 jN:W.typeIn KC.K (.ref θG)=some (.type "type")
 zH:∀C,n9.contains C=true->XC KC.K θ/\a9 KC.K θ "row"
 rC:Gk KC.K
 gp:k7 KC.K (KC.cls .Points)
 mS:a9 KC.K (KC.cls .Points) "held"
abbrev zI:Stmt:=top 38
abbrev zJ:Stmt:=top 32
abbrev wF:Stmt:=top 39
abbrev zK:Stmt:=top 40
abbrev zL:Stmt:=top 34
abbrev zM:Stmt:=top 33
abbrev zN:Stmt:=top 35
abbrev zP:Stmt:=top 41
abbrev zQ:Stmt:=(L2.inClass (top 14) 1)
abbrev zR:Stmt:=top 10
abbrev zS:Stmt:=top 18
abbrev wG:Stmt:=top 19
abbrev zT:Stmt:=top 20
abbrev zU:Stmt:=top 24
abbrev uR:Stmt:=top 13
abbrev zV:Stmt:=top 11
abbrev zW:Stmt:=top 12
abbrev rD:Stmt:=(L2.inClass (top 14) 0)
abbrev zX:Stmt:=top 25
abbrev zY:Stmt:=top 26
abbrev zZ:Stmt:=top 21
abbrev z_:Stmt:=top 22
abbrev Aa:Stmt:=top 23
abbrev Ab:Stmt:=top 42
abbrev Ac:Stmt:=top 43
abbrev Ad:Stmt:=top 28
abbrev Ae:Stmt:=top 36
abbrev uS:Stmt:=top 37
abbrev Af:Stmt:=top 29
abbrev Ag:Stmt:=top 30
abbrev Ah:Stmt:=top 31
abbrev tj:Stmt:=top 44
noncomputable def stV:Stmt->Expr
 |.Assign _ e _=>e
 |.Return (some e) _=>e
 |_=>.Constant .none 0 ⟨0,0,0,0⟩
abbrev O6:Stmt:=(af rD).getD 0 (.Pass ⟨0,0,0,0⟩)
abbrev O7:Stmt:=(af rD).getD 1 (.Pass ⟨0,0,0,0⟩)
abbrev O8:Expr:=stV ((af rD).getD 2 (.Pass ⟨0,0,0,0⟩))
section
variable{P:Program}{w:World}{mg:M2}{base:Heap}{fa:Addr}{cdv:Value}{A:Around}{outer:δu}{s:Shared}{H:Hp}{E:XK}{k:Nat}{ios:zzd}
abbrev fw(k:Nat)(A:Around)(s:Shared)(fa:Addr)(cdv:Value)(q:Str)(st:Stmt):Prop:=aH k (A.deeper (PyProof.Rows.envOfC q δy s.heap.objs.size fa cdv))
abbrev ig(P:Program)(w:World)(mg:M2)(base:Heap)(fa:Addr)(cdv:Value)(A:Around)(outer:δu)(s:Shared)(H:Hp)(E:XK)(N:v6)(q:Str)(st:Stmt):Cx:=(k9 jt P w KC.K mg base N q δy fa cdv A outer s H E).qD
abbrev qw(P:Program)(w:World)(mg:M2)(base:Heap)(fa:Addr)(cdv:Value)(A:Around)(outer:δu)(s:Shared)(H:Hp)(E:XK)(N:v6)(q:Str)(st:Stmt):Cx:=k9 ηg P w KC.K mg base N q δy fa cdv A outer s H E
variable(P)(w)(mg)(base)
abbrev zpH(k:Nat)(G:List D->Option Rx):Prop:=yz P w mg base "Points" k qu [.aq] .Points "held" G
abbrev zg0(k:Nat)(G:List D->Option Rt):Prop:=Cc P w mg base .Points "points" k ["self"] δ2
abbrev zgn(k:Nat)(G:List D->Option Rt):Prop:=cp P w mg base "_law_bent_text" k ["_law_text","_law_d","_law_signs"] δ2
abbrev ze6(k:Nat)(G:List D->Option Rt):Prop:=cp P w mg base "_law_bounds_right" k [] δ2
abbrev ziO(k:Nat)(G:List D->Option Rt):Prop:=cp P w mg base "_law_digits" k ["_law_cell","_law_turn","_law_sizes"] δ2
abbrev O9(k:Nat)(G:List D->Option Rt):Prop:=cp P w mg base "_law_due" k wC δ2
abbrev O_(k:Nat)(G:List D->Option Rt):Prop:=cp P w mg base "_law_key_of" k ln2 δ2
abbrev Pa(k:Nat)(G:List D->Option Rt):Prop:=cp P w mg base "_law_keys" k qv δ2
abbrev Pb(k:Nat)(G:List D->Option Rt):Prop:=cp P w mg base "_law_keys_in" k td δ2
abbrev zfD(k:Nat)(G:List D->Option Rt):Prop:=cp P w mg base "_law_points_due" k ["_law_text"] δ2
abbrev zfh(k:Nat)(G:List D->Option Rt):Prop:=cp P w mg base "_law_points_text" k ["_law_spots"] δ2
abbrev Pc(k:Nat)(G:List D->Option Rt):Prop:=cp P w mg base "_law_put_key" k wD δ2
abbrev zha(k:Nat)(G:List D->Option Rt):Prop:=cp P w mg base "_law_row_text" k td δ2
abbrev Pd(k:Nat)(G:List D->Option Rt):Prop:=cp P w mg base "_law_told" k wC δ2
abbrev zk3(k:Nat)(G:List D->Option Rt):Prop:=cp P w mg base "_law_tree" k ["_law_digits_here"] δ2
abbrev Pe(k:Nat)(G:List D->Option Rt):Prop:=cp P w mg base "_law_tree_at" k ["_law_text","_law_at"] δ2
abbrev ziJ(k:Nat)(G:List D->Option Rt):Prop:=cp P w mg base "_law_tree_of" k ["_law_text"] δ2
abbrev Pf(k:Nat)(G:List D->Option Rt):Prop:=cp P w mg base "_law_tree_text" k qv δ2
abbrev zmZ(k:Nat)(G:List D->Option Rt):Prop:=cp P w mg base "in_order" k qu δ2
abbrev Pg(k:Nat)(G:List D->Option Rt):Prop:=cp P w mg base "is_key" k jZ δ2
abbrev zmP(k:Nat)(G:List D->Option Rt):Prop:=cp P w mg base "is_point" k jZ δ2
abbrev Ph(k:Nat)(G:List D->Option Rt):Prop:=cp P w mg base "keys_in" k ["row"] δ2
abbrev ziX(k:Nat)(G:List D->Option Rx):Prop:=jY P w mg base "keys_of_row" k ["row","number","many"] ιf
abbrev zf9(k:Nat)(G:List D->Option Rt):Prop:=cp P w mg base "look_at_points" k jZ δ2
abbrev zhQ(k:Nat)(G:List D->Option Rx):Prop:=jY P w mg base "look_at_sign" k zC ιf
abbrev Im(k:Nat)(G:List D->Option Rx):Prop:=jY P w mg base "look_at_text" k jZ ιf
abbrev Pj(k:Nat)(G:List D->Option Rt):Prop:=cp P w mg base "number_of" k ["word"] δ2
abbrev Pl(k:Nat)(G:List D->Option Rx):Prop:=jY P w mg base "part_at" k ["text","start","low","high"] ιf
abbrev zlG(k:Nat)(G:List D->Option Rx):Prop:=jY P w mg base "read_asks" k ["text"] ιf
abbrev ziS(k:Nat)(G:List D->Option Rx):Prop:=jY P w mg base "read_points" k ["text"] ιf
abbrev zlZ(k:Nat)(G:List D->Option Rx):Prop:=jY P w mg base "read_tree" k ["text"] ιf
variable{P}{w}{mg}{base}
variable{kF dJ dz cx fz dF b7 cT bI cU cF bJ dM cV gH bK eB bj iy fW iz eO fA dB eC aT cW eP gI fB gJ:Nat}
def ay:ah OX ["_law_text","_law_d","_law_signs"] (aa zI):=fu
def zfE(M:Nm mg)  (hr:fw k A s fa cdv "_law_bent_text" zI) :
 cC (ig P w mg base fa cdv A outer s H E OX "_law_bent_text" zI) EN ios (af zI) (Gy ):=
 (aG (vS 3 ay.nd ιs)
  (aG (vS 4 ay.nd ιs)
  (aG (vS 5 ay.nd (cL εY (aL qE qP ζs εS)))
  (aG (VV (i:=6) (j:=7) rfl ay.nd rfl rfl ξ rfl rfl (Zj (vB (RT rfl) UN M.zG (Zj δi εL)) (Zj (vB (RS rfl) UM M.ti (Zj δi εL)) ai)) rfl)
  (aG (vS 8 ay.nd (cR (Zj (aL bg bh (aL bg bh θy ζG) (ix γa (dk δi) k_)) (Zj (aL bg bh (aL bg bh θy ζG) θ8) (Zj (aL bg bh θy θ8) ai)))))
  (aG (vS 8 ay.nd (aL bg bh (vn 8) (cR (Zj (aL bg bh (ix γa k_ (dk (vn 6))) (ix γa (dk (vn 7)) k_)) (Zj (aL bg bh (aL bg bh (ix γa k_ (dk (vn 7))) (ix γa (dk (vn 6)) (dk (vn 7)))) (ix γa (dk (vn 7)) k_)) (Zj (aL bg bh γa ζG) (Zj (aL bg bh ζG γa) ai)))))))
  (aN (bS (cL (vn 8) (aL qE qP ζs au))))))))))
def zhV:ah ln2 ln2 (aa zJ):=fu
def zih(M:Nm mg)  (hr:fw k A s fa cdv "_law_key_of" zJ) :
 cC (ig P w mg base fa cdv A outer s H E ln2 "_law_key_of" zJ) EN ios (af zJ) (sQ ):=
 (aG (cN (jA (jz ζj (jz (bw oH oW δD au γu) (lJ (bw ηm mE (sO (Na γa) (Lv (bw J_ M_ γa aU rfl)) γa) ζr γu)))))
  (aN (bS e_))
  dq)
  (aG (cN (jA (jz ε3 (lJ (bw oH oW (qm (λ_ ha=>qd Ng rfl M.kC (by decide +kernel) ha) Ni γt) au γu))))
  (aN (bS e_))
  dq)
  (aN (bS (qm (λ_ ha=>qd Ng rfl M.kC (by decide +kernel) ha) Ni γt)))))
def dP:ah Ii td (aa wF):=fu
def zg5(M:Nm mg)(b8:O_ P w mg base b7 lU)(b9:b7<=k)(hr:fw k A s fa cdv "_law_keys_in" wF) :
 cC (ig P w mg base fa cdv A outer s H E Ii "_law_keys_in" wF) EN ios (af wF) (Cw ):=
 (aG (E4 (i:=1) dP.nd rfl γw rfl (sF (Nc:=ln2) (own:=1) (fr:=[]) (sc:=aa wF) (N:=Ii) rfl rfl (by decide +kernel)) ξ (lb (kr (λ_ _ ho ha=>iJ qaD PySem.F.slot_str_split PySem.F.type_str_split Cp ho ha) Cq γa γR)) (AS ξ) (λ_ _ _ _ _ _=>(dH (i:=0) (show(ln2:v6).Nodup by decide +kernel) rfl γw)) (mH ξ) (vt ξ) (λ_ _ _ _ _ _=>nh) (λ_ _ _ _ _ _=>(dv b8 (hr.mono b9) rfl γt)))
  (aG (cN (bw SM UJ e_ γP rfl)
  (aN (bS e_))
  dq)
  ηK))
def av:ah ln10 ["_law_text"] (aa zK):=fu
def zfj(M:Nm mg)(cG:Pb P w mg base bI pj)(cH:bI<=k)(hr:fw k A s fa cdv "_law_points_due" zK) :
 cC (ig P w mg base fa cdv A outer s H E ln10 "_law_points_due" zK) EN ios (af zK) (Gz ):=
 (aG (vS 1 av.nd (kr (λ_ _ ho ha=>iJ qaD PySem.F.slot_str_split PySem.F.type_str_split Cp ho ha) Cq γa γR))
  (aG (vS 2 av.nd ζr)
  (aG (vF (n:=6) (vo (λ_ ha=>vb rfl M.bE ha) γp) ε7
  (aG (vS 5 av.nd (dv cG (hr.mono cH) rfl εL))
  (aG (cN (bw δM ic η8 aU γu)
  (aN (vS 5 av.nd ζr))
  dq)
  (aG (cN (jA (jz (bw mw mF ζG e_ γu) (jz (bw ηm mE ζG (BQ M.eA rfl M.mQ rfl rfl rfl (Zj ζG ai)) γu) (jz (bw oH oW δi au γu) (lJ (bw oH oW (aL bg bh εS (vB jT jU M.bU (Zj ζG ai))) au γu))))))
  (aN θp)
  dq)
  (aG (cN (jA (AZ (bw δM ic ζG ζr γu) (AY (jA (jz (bw δM ic δi au γu) (lJ (bw δM ic εS au γu)))))))
  (aN θp)
  dq)
  (aN (vS 2 av.nd (aL bg bh εY (sO (lb ζG) nh (gj (Zj γa γp)))))))))) qbd (mW rfl (gC (dH (i:=3) av.nd rfl γw) (gC (dH (i:=4) av.nd rfl γw) mV))))
  (aG (cN (bw δM ic ζG ζr γu)
  (aN (bS (gj (Zj aU (Zj θU ai)))))
  dq)
  (aN (bS (gj (Zj aU γV))))))))
def zjR:ah qv qv (aa zL):=fu
def zj4(M:Nm mg){mK:List D->Option Rt}(cX:Pa P w mg base cT mK)(cY:cT<=k)(hr:fw k A s fa cdv "_law_keys" zL) :
 cC (ig P w mg base fa cdv A outer s H E qv "_law_keys" zL) EN ios (af zL) (Cy mK):=
 (aG (cN θd
  (aN (bS ζr))
  dq)
  (aN (bS (aL bg bh (aL bg bh (dv cX (hr.mono cY) rfl εV) (cR εV)) (dv cX (hr.mono cY) rfl εV)))))
def bx:ah OY ["_law_text","_law_at"] (aa zM):=fu
def zhe(M:Nm mg){dX:List D->Option Rt}(b8:O_ P w mg base b7 lU)(b9:b7<=k)(bL:Pe P w mg base bK dX)(bM:bK<=k)(hr:fw k A s fa cdv "_law_tree_at" zM) :
 cC (ig P w mg base fa cdv A outer s H E OY "_law_tree_at" zM) EN ios (af zM) (sR dX):=
 (aG (cN (bw δM ic εC aU γu)
  (aN (bS (gj (Zj e_ (Zj δn ai)))))
  dq)
  (aG (vS 2 bx.nd (kr (λ_ _ ho ha=>iJ qaD PySem.F.slot_str_find PySem.F.type_str_find XU ho ha) XY γa (Zj aU γp)))
  (aG (cN (jA (jz (bw ηm mE εC aU γu) (jz (bw u6 vg εY au γu) (lJ (bw mw mF ζp e_ γu)))))
  (aN (bS e_))
  dq)
  (aG (vS 3 bx.nd (dv bL (hr.mono bM) rfl (Zj γa (Zj (aL bg bh εY au) ai))))
  (aG (cN (jA (jz (bw mw mF δi e_ γu) (lJ (bw ηm mE (ix γa (dk ζY) (dk (aL bg bh ζY au))) aU γu))))
  (aN (bS e_))
  dq)
  (aG (vS 4 bx.nd (dv bL (hr.mono bM) rfl (Zj γa (Zj (aL bg bh ζY au) ai))))
  (aG (cN (jA (jz (bw mw mF η8 e_ γu) (lJ (bw ηm mE (ix γa (dk (cL η8 au)) (dk (aL bg bh (cL η8 au) au))) aU γu))))
  (aN (bS e_))
  dq)
  (aN (bS (gj (Zj (gj (Zj ζp (Zj ζY (Zj (cL η8 au) ai)))) (Zj (aL bg bh (cL η8 au) au) ai))))))))))))
def bz:ah ["_law_text","_law_found","_law_keys_here"] ["_law_text"] (aa zN):=fu
def zgV(M:Nm mg)(cX:Pa P w mg base cT (mK 48))(cY:cT<=k)(bL:Pe P w mg base bK (dX 48))(bM:bK<=k)(hr:fw k A s fa cdv "_law_tree_of" zN) :
 cC (ig P w mg base fa cdv A outer s H E ["_law_text","_law_found","_law_keys_here"] "_law_tree_of" zN) EN ios (af zN) (uG ):=
 (aG (vS 1 bz.nd e_)
  (aG (cN (bw u6 vg (kr (λ_ _ ho ha=>iJ qaD PySem.F.slot_str_count PySem.F.type_str_count XW ho ha) XZ γa γR) au γu)
  (aN (vS 1 bz.nd (dv bL (hr.mono bM) rfl (Zj γa δw))))
  dq)
  (aG (cN (jA (jz θe (lJ (bw u6 vg ζs δD γu))))
  (aN (bS aU))
  dq)
  (aG (vS 2 bz.nd (dv cX (hr.mono cY) rfl (Zj ζs ai)))
  (aG (cN (bw ηm mE εY (BQ M.eA rfl M.mQ rfl rfl rfl γV) γu)
  (aN (bS aU))
  dq)
  (aN (bS ζs)))))))
def eD:ah ["_law_way","_law_text","_law_found"] wC (aa zP):=fu
def zl9(M:Nm mg)(cG:Pb P w mg base bI pj)(cH:bI<=k)(fX:zfD P w mg base cU yK)(fZ:cU<=k)(iA:ziJ P w mg base eB n_)(iB:eB<=k)(hr:fw k A s fa cdv "_law_due" zP) :
 cC (ig P w mg base fa cdv A outer s H E ["_law_way","_law_text","_law_found"] "_law_due" zP) EN ios (af zP) (rj ):=
 (aG (cN ζi
  (aG (vS 2 eD.nd (dv iA (hr.mono iB) rfl γp))
  (aN (bS (cL ζX (qm (λ_ ha=>qd JE rfl M.kC (by decide +kernel) ha) K9 (Zj (xx δM ic εY aU γu) ai))))))
  dq)
  (aG (cN ζi
  (aG (vS 2 eD.nd (dv cG (hr.mono cH) rfl γp))
  (aN (bS (cL ζX (qm (λ_ ha=>qd JE rfl M.kC (by decide +kernel) ha) K9 (Zj (UB (xx mw mF εY e_ γu) (EG (xx oH oW εS au γu))) ai))))))
  dq)
  (aG (cN (bw δM ic γP aU γu)
  (aN (bS (gj (Zj aU (Zj ζr ai)))))
  dq)
  (aN (bS (dv fX (hr.mono fZ) rfl γp))))))
def zgs:ah ["self"] ["self"] (aa zQ):=fu
def zgz(M:Nm mg)  (hr:fw k A s fa cdv "Points.points" zQ) :
 cC (ig P w mg base fa cdv A outer s H E ["self"] "Points.points" zQ) EN ios (af zQ) (GA ):=
 (aN (bS (qm (λ_ ha=>qd SQ rfl M.pN (by decide +kernel) ha) UO (Zj (Xr M.gp M.mS γa) ai))))
def zo4:ah jZ jZ (aa zR):=fu
def zoK(M:Nm mg)  (hr:fw k A s fa cdv "is_key" zR) :
 cC (ig P w mg base fa cdv A outer s H E jZ "is_key" zR) EN ios (af zR) (Cz ):=
 (aN (bS (xB (vT .int M.aW M.kC γa) (xB (UC (vT .bool M.aW M.uQ γa)) (EG (Uw JD JD K2 K2 au γa (vx M.fJ rfl)))))))
def cy:ah ["word","number","sign"] ["word"] (aa zS):=fu
def zkq(M:Nm mg)  (hr:fw k A s fa cdv "number_of" zS) :
 cC (ig P w mg base fa cdv A outer s H E ["word","number","sign"] "number_of" zS) EN ios (af zS) (GB ):=
 (aG (cN (jA (jz ζj (lJ ε3)))
  (aN (bS e_))
  dq)
  (aG (vS 1 cy.nd au)
  (aG (vF (n:=3) (Na γa) (mH ξ)
  (aG (cN (bw J_ M_ εY (Nb M.jh rfl) rfl)
  (aN (bS e_))
  dq)
  (aN (vS 1 cy.nd (aL bg bh (aL w6 xH au γP) (kr (λ_ _ ho ha=>iJ qaD PySem.F.slot_str_index PySem.F.type_str_index Xz ho ha) XA (Nb M.jh rfl) γV))))) qbd (dH (i:=2) cy.nd rfl γw))
  ηK)))
def iC:ah ["row","keys"] ["row"] (aa wG):=fu
def zml(M:Nm mg)(f_:Pg P w mg base fW nC)(gc:fW<=k)(eE:Pj P w mg base cW rn)(eF:cW<=k)(hr:fw k A s fa cdv "keys_in" wG) :
 cC (ig P w mg base fa cdv A outer s H E ["row","keys"] "keys_in" wG) EN ios (af wG) (CB ):=
 (aG (E4 (i:=1) iC.nd rfl γw rfl (sF (Nc:=["word"]) (own:=1) (fr:=[]) (sc:=aa wG) (N:=["row","keys"]) rfl rfl (by decide +kernel)) ξ (lb (kr (λ_ _ ho ha=>iJ qaD PySem.F.slot_str_split PySem.F.type_str_split Cp ho ha) Cq γa γR)) (AS ξ) (λ_ _ _ _ _ _=>(dH (i:=0) (show(["word"]:v6).Nodup by decide +kernel) rfl γw)) (mH ξ) (vt ξ) (λ_ _ _ _ _ _=>nh) (λ_ _ _ _ _ _=>(dv eE (hr.mono eF) rfl γt)))
  (aN (bS (EH (Xd (ud (vB (Uh rfl) UP M.zF (Zj (sO (lb γP) nh (dv f_ (hr.mono gc) rfl γt)) ai)))) γP e_))))
def zhf:ah jZ jZ (aa zT):=fu
def zgZ(M:Nm mg)  (hr:fw k A s fa cdv "look_at_text" zT) (hk2:2<=k) :
 cC (qw P w mg base fa cdv A outer s H E jZ "look_at_text" zT) (λ_=>E) ios (af zT) (GC ):=
 (aN (cN (xA (ud (vT .str M.aW M.kD γa)))
  (aN (sI iQ ε0 hr ω M.bH δw))
  dq))
def gf:ah ["text","asks"] ["text"] (aa zU):=fu
def zkz(M:Nm mg)(gq:Ph P w mg base eO sS)(gr:eO<=k)(a_:θ3)(ba:aT<=k)(hr:fw k A s fa cdv "read_asks" zU)(hk2:2<=k) :
 cC (qw P w mg base fa cdv A outer s H E ["text","asks"] "read_asks" zU) (λ_=>E) ios (af zU) (vU ):=
 (aG εJ
  (aG (vS 1 gf.nd (dv gq (hr.mono gr) rfl γt))
  (aG (cN (jA (jz θe (lJ (bw oH oW θU (vx M.kE rfl) γu))))
  (aN (sI iQ ε0 hr ω M.bH δw))
  dq)
  ηK)))
def zly:ah qu qu (aa uR):=fu
def zle(M:Nm mg)  (hr:fw k A s fa cdv "in_order" uR) :
 cC (ig P w mg base fa cdv A outer s H E qu "in_order" uR) EN ios (af uR) (GD ):=
 (aN (bS (Br rfl (sF (Nc:=["moment","key"]) (own:=2) (fr:=[]) (sc:=aa uR) (N:=qu) rfl rfl (by decide +kernel)) ξ (lb (WW M.eA rfl hr rfl (sF (Nc:=["key","moment"]) (own:=2) (fr:=[]) (sc:=aa uR) (N:=qu) rfl rfl (by decide +kernel)) ξ (lb γa) Ck (λ_ _ _ _ _ _=>(mW rfl (gC (dH (i:=0) (show(["key","moment"]:v6).Nodup by decide +kernel) rfl γw) (gC (dH (i:=1) (show(["key","moment"]:v6).Nodup by decide +kernel) rfl γw) mV)))) ε7 Cm (λ_ _ _ _ _ _=>nh) (λ_ _ _ _ _ _=>(gj (Zj γP γt))))) Ck (λ_ _ _ _ _ _=>(mW rfl (gC (dH (i:=0) (show(["moment","key"]:v6).Nodup by decide +kernel) rfl γw) (gC (dH (i:=1) (show(["moment","key"]:v6).Nodup by decide +kernel) rfl γw) mV)))) ε7 Cm (λ_ _ _ _ _ _=>nh) (λ_ _ _ _ _ _=>(gj (Zj γP γt))))))
def zlD:ah jZ jZ (aa zV):=fu
def zkR(M:Nm mg)(f_:Pg P w mg base fW nC)(gc:fW<=k)(hr:fw k A s fa cdv "is_point" zV) :
 cC (ig P w mg base fa cdv A outer s H E jZ "is_point" zV) EN ios (af zV) (GF ):=
 (aN (bS (xB (vT .tuple M.aW M.mR γa) (xB (xx δM ic δD au γu) (xB (dv f_ (hr.mono gc) rfl εV) (EG (dv f_ (hr.mono gc) rfl εV)))))))
def bN:ah ["thing","number","point"] jZ (aa zW):=fu
def zfU(M:Nm mg)(me:zmP P w mg base iz sT)(mf:iz<=k)(hr:fw k A s fa cdv "look_at_points" zW) :
 cC (ig P w mg base fa cdv A outer s H E ["thing","number","point"] "look_at_points" zW) EN ios (af zW) (GH ):=
 (aG (cN (jA (jz (xA (ud (W_ (λ_ ha=>tO W8 rfl M.aW (by decide +kernel) (jR ha (jR (D5 (jR (DO (v:=.ty "list") (u:=.type "list") rfl M.pN (by decide +kernel) rfl) (jR (DO (v:=.ty "tuple") (u:=.type "tuple") rfl M.mR (by decide +kernel) rfl) qc))) qc))) γa))) (lJ (bw oH oW δD (vx M.fv rfl) γu))))
  (aN Le)
  dq)
  (aN (vF (n:=3) (vo (λ_ ha=>vb rfl M.bE ha) γt) ε7
  (aN (cN (xA (ud (dv me (hr.mono mf) rfl γV)))
  (aN Le)
  dq)) qbd (mW rfl (gC (dH (i:=1) bN.nd rfl γw) (gC (dH (i:=2) bN.nd rfl γw) mV))))))
def ji:ah zD zD (aa rD):=fu
def zoH(M:Nm mg)(mh:zmZ P w mg base iy yM)(mi:iy<=k)(gu:zf9 P w mg base dB yN)(gy:dB<=k)(hr:fw k A s fa cdv "Points.__init__" rD)(hk2:2<=k) :
 VJ 0 (qw P w mg base fa cdv A outer s H E zD "Points.__init__" rD) (λ_=>E) ios O6 (CC )/\VJ 0 (qw P w mg base fa cdv A outer s H E zD "Points.__init__" rD) (λ_=>E) ios O7 (CD )/\VE (qw P w mg base fa cdv A outer s H E zD "Points.__init__" rD) (λ_=>E) ios O8 (CF ):=
 ⟨(W4 θe (W2 (W5 (i:=1) ξ ji.nd rfl γw ζr)) W0),
   (W3 (dv gu (hr.mono gy) rfl γp)),
   (dv mh (hr.mono mi) rfl γp)⟩
def cI:ah ["row","number","many","keys","lacking"] ["row","number","many"] (aa zX):=fu
def zio(M:Nm mg)(gq:Ph P w mg base eO sS)(gr:eO<=k)(hr:fw k A s fa cdv "keys_of_row" zX)(hk2:2<=k) :
 cC (qw P w mg base fa cdv A outer s H E ["row","number","many","keys","lacking"] "keys_of_row" zX) (λ_=>E) ios (af zX) (yQ ):=
 (aG (vS 3 cI.nd (EH ζj ζr (dv gq (hr.mono gr) rfl γt)))
  (aG (cN (jA (jz (bw mw mF δi e_ γu) (lJ (bw ηm mE δi (BQ M.eA rfl M.mQ rfl rfl rfl ζw) γu))))
  (aN (sI iQ ε0 hr ω M.bH γp))
  dq)
  (aG (vS 4 cI.nd (EH (bw δM ic δi ζr γu) au au))
  (aG (cN (jA (jz (bw oH oW (aL bg bh γP η8) (vx M.fJ rfl) γu) (lJ (bw oH oW (aL bg bh (aL bg bh εY (vB jT jU M.bU ζw)) η8) (vx M.fv rfl) γu))))
  (aN (sI iQ ε0 hr ω M.bH γp))
  dq)
  (aN (bS δi))))))
def bb:ah ["text","rows","points","moment","row"] ["text"] (aa zY):=fu
def zhN(M:Nm mg)(kG:zpH P w mg base kF sU)(kH:kF+1<=k)(iV:ziX P w mg base fA uH)(iW:fA<=k)(a_:θ3)(ba:aT<=k)(hr:fw k A s fa cdv "read_points" zY)(hk2:2<=k) :
 cC (qw P w mg base fa cdv A outer s H E ["text","rows","points","moment","row"] "read_points" zY) (λ_=>E) ios (af zY) (yR ):=
 (aG εJ
  (aG (cN ζj
  (aN (bS (Xm iQ kG (hr.mono kH) rfl)))
  dq)
  (aG (vS 1 bb.nd (kr (λ_ _ ho ha=>iJ qaD PySem.F.slot_str_split PySem.F.type_str_split Cp ho ha) Cq γa γR))
  (aG (vS 2 bb.nd ζr)
  (aG (vF (n:=5) (vo (λ_ ha=>vb rfl M.bE ha) γp) ε7
  (aN (nV (xQ (λ_ ha=>iJ qbN PySem.F.slot_list_extend PySem.F.type_list_extend SS (pv 2) ha) Xw (Zj (sO (lb (mJ iQ iV (hr.mono iW) rfl (Zj η8 (Zj δi (Zj εS ai))))) nh (gj (Zj γa γp))) ai)))) PassesOwn.leaving (mW rfl (gC (dH (i:=3) bb.nd rfl γw) (gC (dH (i:=4) bb.nd rfl γw) mV))))
  (aG (cN (bw δM ic (cL γP (EU au)) aU γu)
  (aN (sI iQ ε0 hr ω M.bH (Zj θU ai)))
  dq)
  (aN (bS (VY.ve (Xl iQ kG (hr.mono kH) rfl γV))))))))))
def zhc:ah zC zC (aa zZ):=fu
def zg9(M:Nm mg)  (hr:fw k A s fa cdv "look_at_sign" zZ) (hk2:2<=k) :
 cC (qw P w mg base fa cdv A outer s H E zC "look_at_sign" zZ) (λ_=>E) ios (af zZ) (CI ):=
 (aN (cN (bw ηm mE εC εY γu)
  (aN (sI iQ ε0 hr ω M.bH δw))
  dq))
def bf:ah OZ ["text","start","low","high"] (aa z_):=fu
def zm4(M:Nm mg){eg:List D->Option Rx}(bO:zhQ P w mg base eC pE)(bP:eC<=k)(eE:Pj P w mg base cW rn)(eF:cW<=k)(eQ:Pl P w mg base eP eg)(eS:eP<=k)(hr:fw k A s fa cdv "part_at" z_)(hk2:2<=k) :
 cC (qw P w mg base fa cdv A outer s H E OZ "part_at" z_) (λ_=>E) ios (af z_) (vV eg):=
 (aG (cN (bw δM ic εC aU γu)
  (aN (bS (gj (Zj e_ (Zj δn ai)))))
  dq)
  (aG (nV (mJ iQ bO (hr.mono bP) rfl (Zj γa (Zj γP γR))))
  (aG (vS 4 bf.nd (cL (kr (λ_ _ ho ha=>iJ qaD PySem.F.slot_str_partition PySem.F.type_str_partition XD ho ha) XE (ix γa (dk δn) k_) γR) au))
  (aG (vS 5 bf.nd (dv eE (hr.mono eF) rfl εL))
  (aG (cN (jA (jz (bw mw mF ζG e_ γu) (lJ (xA (Ux u6 u6 vg vg εY ζG δi)))))
  (aN (sI iQ ε0 hr ω M.bH δw))
  dq)
  (aG (vS 6 bf.nd (aL bg bh δn (vB jT jU M.bU εL)))
  (aG δr
  (aG (EV (n:=9) (mJ iQ eQ (hr.mono eS) rfl (Zj γa (Zj θB (Zj εY (Zj ζG ai))))) ε7 (λ_ h=>DQ h (mW rfl (gC (dH (i:=7) bf.nd rfl γw) (gC (dH (i:=6) bf.nd rfl γw) mV)))))
  (aG δr
  (aG (EV (n:=9) (mJ iQ eQ (hr.mono eS) rfl (Zj γa (Zj θB (Zj ζG ζw)))) ε7 (λ_ h=>DQ h (mW rfl (gC (dH (i:=8) bf.nd rfl γw) (gC (dH (i:=6) bf.nd rfl γw) mV)))))
  (aG δr
  (aN (bS (gj (Zj (gj (Zj ζG (Zj (vn 7) (Zj (vn 8) ai)))) (Zj θB ai))))))))))))))))
def dG:ah ["text","tree","place"] ["text"] (aa Aa):=fu
def zjP(M:Nm mg)(a_:θ3)(ba:aT<=k)(eQ:Pl P w mg base eP (eg 48))(eS:eP<=k)(hr:fw k A s fa cdv "read_tree" Aa)(hk2:2<=k) :
 cC (qw P w mg base fa cdv A outer s H E ["text","tree","place"] "read_tree" Aa) (λ_=>E) ios (af Aa) (vW ):=
 (aG εJ
  (aG (EV (n:=3) (mJ iQ eQ (hr.mono eS) rfl (Zj γa (Zj au (Zj (EU au) (Zj (aL bg bh (vx M.fJ rfl) au) ai))))) ε7 (λ_ h=>DQ h (mW rfl (gC (dH (i:=1) dG.nd rfl γw) (gC (dH (i:=2) dG.nd rfl γw) mV)))))
  (aG (cN (bw ηm mE εY δD γu)
  (aN (sI iQ ε0 hr ω M.bH δw))
  dq)
  ηK)))
def aQ:ah O0 wC (aa Ab):=fu
def zka(M:Nm mg)(gR:zg0 P w mg base dJ yL)(gS:dJ<=k)(kJ:zlG P w mg base gI og)(kK:gI<=k)(iX:ziS P w mg base fB pC)(iY:fB<=k)(kL:zlZ P w mg base gJ oh)(kM:gJ<=k)(hr:fw k A s fa cdv "_law_told" Ab) :
 cC (ig P w mg base fa cdv A outer s H E O0 "_law_told" Ab) EN ios (af Ab) (yS ):=
 (aG (vS 2 aQ.nd e_)
  (aG (vS 3 aQ.nd e_)
  (aG (XO (i:=4) aQ.nd rfl rfl rfl M.jL M.jN M.jM (λE0 pn0 EE0 ok =>
  (aN (cN ζi
  (aN (vS 3 aQ.nd (mJ ok kL (hr.mono kM) rfl γp)))
  (aN (cN ζi
  (aN (vS 3 aQ.nd (mJ ok kJ (hr.mono kK) rfl γp)))
  (aN (vS 3 aQ.nd (Xq M.gp gR (hr.mono gS) (mJ ok iX (hr.mono iY) rfl γp))))))))) (λa0 =>
  (aN (vS 2 aQ.nd η8))))
  (aG (cN (bw mw mF εY e_ γu)
  (aN θp)
  dq)
  (aG (cN (jA (jz (xA (ud (vI M.pU M.aW M.bH εY))) (lJ (ud (X8 M.pS M.l_ M.pV (λ_ ha=>tO XX rfl M.aW (by decide +kernel) (jR ha (jR (D5 (jR (tI (v:=.ref (KC.cls .NoAsks)) rfl M.pP rfl) (jR (tI (v:=.ref (KC.cls .NoPoints)) rfl M.l9 rfl) (jR (tI (v:=.ref (KC.cls .NoTree)) rfl M.pQ rfl) qc)))) qc))) εY)))))
  (aN (bS aU))
  dq)
  (aN (bS (gj (Zj aU (Zj (Wa M.zH εY rfl) ai))))))))))
def aj:ah O3 [] (aa Ac):=fu
def zeN(M:Nm mg)(fL:O9 P w mg base dF lh)(fM:dF<=k)(cZ:Pd P w mg base cV lV)(c7:cV<=k)(hr:fw k A s fa cdv "_law_bounds_right" Ac) :
 cC (ig P w mg base fa cdv A outer s H E O3 "_law_bounds_right" Ac) EN ios (af Ac) (GJ ):=
 (aG (vS 0 aj.nd (kr (λ_ _ ho ha=>iJ qaD qba qbb q_ ho ha) rg aU (Zj (sO (xT (λ_ ha=>wY rfl M.fV ha) δw) nh (qm (λ_ ha=>qd AH rfl M.kD (by decide +kernel) ha) Co γt)) ai)))
  (aG (vS 1 aj.nd (cR (Zj (kr (λ_ _ ho ha=>iJ qaD qba qbb q_ ho ha) rg aU ζ6) (Zj (kr (λ_ _ ho ha=>iJ qaD qba qbb q_ ho ha) rg aU (Zj (aL rO sH (cR γR) au) ai)) (Zj (kr (λ_ _ ho ha=>iJ qaD qba qbb q_ ho ha) rg aU ζ6) ai)))))
  (aG (vS 1 aj.nd (aL bg bh γP (cR (Zj aU (Zj aU γR)))))
  (aG (vF (n:=6) (lb (cR (Zj θX (Zj θX γt)))) (mH ξ)
  (aN (nV (xQ (λ_ ha=>iJ qbN PySem.F.slot_list_append PySem.F.type_list_append xi (pv 1) ha) Bg (Zj (kr (λ_ _ ho ha=>iJ qaD qba qbb q_ ho ha) rg aU (Zj (aL bg bh (aL rO sH (cR γt) au) (cR γV)) ai)) ai)))) qbd (dH (i:=2) aj.nd rfl γw))
  (aG (vS 1 aj.nd (aL bg bh γP (cR (Zj (kr (λ_ _ ho ha=>iJ qaD qba qbb q_ ho ha) rg aU (Zj (aL bg bh (aL rO sH (cR γt) au) (cR (Zj θX (Zj aU γR)))) ai)) (Zj γa (Zj (aL bg bh γa aU) (Zj aU γR)))))))
  (aG (vS 1 aj.nd (aL bg bh γP (cR (Zj aU (Zj aU (Zj aU (Zj aU γR)))))))
  (aG (vF (n:=6) (lb γP) (mH ξ)
  (aN (vF (n:=6) (xT (λ_ ha=>wY rfl M.fV ha) δw) (mH ξ)
  (aN (cN (bw ηm mE (vB (Cg hr M.rC) Ci M.jK (Zj (dv cZ (hr.mono c7) rfl (Zj η8 ζw)) ai)) (vB (Cg hr M.rC) Ci M.jK (Zj (dv fL (hr.mono fM) rfl (Zj η8 ζw)) ai)) γu)
  (aN (bS xw))
  dq)) qbd (dH (i:=4) aj.nd rfl γw))) qbd (dH (i:=3) aj.nd rfl γw))
  (aG (vF (n:=6) (lb (cR (Zj e_ (Zj au (Zj ζr (Zj (gj γR) (Zj xw (Zj VU (Zj (cR γR) ai))))))))) (mH ξ)
  (aN (cN (bw ηm mE (sO (xT (λ_ ha=>wY rfl M.fV ha) δw) nh (dv cZ (hr.mono c7) rfl (Zj γa γp))) (aL rO sH (cR (Zj (gj (Zj aU δw)) ai)) au) γu)
  (aN (bS xw))
  dq)) qbd (dH (i:=5) aj.nd rfl γw))
  (aN (bS xw))))))))))
def az:ah O4 ["_law_cell","_law_turn","_law_sizes"] (aa Ad):=fu
def ziB(M:Nm mg)  (hr:fw k A s fa cdv "_law_digits" Ad) :
 cC (ig P w mg base fa cdv A outer s H E O4 "_law_digits" Ad) EN ios (af Ad) (GK ):=
 (aG (vS 3 az.nd (vB RR UL M.zE γt))
  (aG (vS 4 az.nd (xx RL UG δi (aL Jv K4 au au) γu))
  (aG (vS 5 az.nd (aL bg bh (aL qE qP δi au) (aL w6 xH au γP)))
  (aG (vS 6 az.nd ζr)
  (aG (vF (n:=9) (vo (λ_ ha=>vb rfl M.bE ha) γV) ε7
  (aN (cN (jA (AZ (ud η8) (AY (bw oH oW δi au γu))))
  (aG (nV (xQ (λ_ ha=>iJ qbN PySem.F.slot_list_append PySem.F.type_list_append xi (pv 6) ha) Bg (Zj (aL qE qP δi (vn 8)) ai)))
  (aN (vS 3 az.nd (aL Ju K3 δi (vn 8)))))
  (aG (vS 5 az.nd (aL qE qP (aL Jv K4 (aL bg bh ζG (aL w6 xH au (aL bg bh (vn 7) au))) au) au))
  (aN (nV (xQ (λ_ ha=>iJ qbN PySem.F.slot_list_append PySem.F.type_list_append xi (pv 6) ha) Bg (Zj (aL qE qP (aL Ju K3 ζG au) (vn 8)) ai))))))) qbd (mW rfl (gC (dH (i:=7) az.nd rfl γw) (gC (dH (i:=8) az.nd rfl γw) mV))))
  (aN (bS (vn 6))))))))
def zga:ah td td (aa Ae):=fu
def zgE(M:Nm mg)  (hr:fw k A s fa cdv "_law_row_text" Ae) :
 cC (ig P w mg base fa cdv A outer s H E td "_law_row_text" Ae) EN ios (af Ae) (CM ):=
 (aG (cN (bw δM ic γa ζr γu)
  (aN (bS aU))
  dq)
  (aN (bS (kr (λ_ _ ho ha=>iJ qaD qba qbb q_ ho ha) rg aU (Zj (sO (lb γa) nh (qm (λ_ ha=>qd AH rfl M.kD (by decide +kernel) ha) Co γt)) ai)))))
def aJ:ah Dr ["_law_spots"] (aa uS):=fu
def ze5(M:Nm mg)(gU:zha P w mg base dM vY)(gV:dM<=k)(hr:fw k A s fa cdv "_law_points_text" uS) :
 cC (ig P w mg base fa cdv A outer s H E Dr "_law_points_text" uS) EN ios (af uS) (GL ):=
 (aG (vS 1 aJ.nd ζr)
  (aG (vS 2 aJ.nd (vB (Uq rfl) Vr M.ti (Zj (aL bg bh (Br rfl (sF (Nc:=Ij) (own:=2) (fr:=[]) (sc:=aa uS) (N:=Dr) rfl rfl (by decide +kernel)) ξ (lb γa) Ck (λ_ _ _ _ _ _=>(mW rfl (gC (dH (i:=0) (show(Ij:v6).Nodup by decide +kernel) rfl γw) (gC (dH (i:=1) (show(Ij:v6).Nodup by decide +kernel) rfl γw) mV)))) ε7 Cm (λ_ _ _ _ _ _=>nh) (λ_ _ _ _ _ _=>γP)) (cR (Zj (EU au) ai))) ai)))
  (aG (vF (n:=5) (xT (λ_ ha=>wY rfl M.fV ha) (Zj (aL bg bh εY au) ai)) (mH ξ)
  (aG (vS 4 aJ.nd (BQ M.eA rfl M.mQ rfl rfl rfl (Zj (Br rfl (sF (Nc:=Ik) (own:=2) (fr:=[3]) (sc:=aa uS) (N:=Dr) rfl rfl (by decide +kernel)) ξ (lb γa) Ck (λ_ _ _ _ _ _=>(mW rfl (gC (dH (i:=0) (show(Ik:v6).Nodup by decide +kernel) rfl γw) (gC (dH (i:=1) (show(Ik:v6).Nodup by decide +kernel) rfl γw) mV)))) ε7 Cm (λ_ _ _ _ _ _=>Lv (bw δM ic γP εY γu)) (λ_ _ _ _ _ _=>γa)) ai)))
  (aN (nV (xQ (λ_ ha=>iJ qbN PySem.F.slot_list_append PySem.F.type_list_append xi (pv 1) ha) Bg (Zj (dv gU (hr.mono gV) rfl εL) ai))))) qbd (dH (i:=3) aJ.nd rfl γw))
  (aN (bS (kr (λ_ _ ho ha=>iJ qaD qba qbb q_ ho ha) rg aU γp))))))
def zgU:ah wD wD (aa Af):=fu
def zgY(M:Nm mg){lj:List D->Option Rt}(bQ:Pc P w mg base bJ lj)(bR:bJ<=k)(hr:fw k A s fa cdv "_law_put_key" Af) :
 cC (ig P w mg base fa cdv A outer s H E wD "_law_put_key" Af) EN ios (af Af) (vZ lj):=
 (aG (cN θd
  (aN (bS (gj (Zj γP (Zj e_ (Zj e_ ai))))))
  dq)
  (aG (cN (bw u6 vg γP γ8 γu)
  (aN (bS (gj (Zj γ8 (Zj θz εV)))))
  dq)
  (aG (cN (bw oH oW γP γ8 γu)
  (aN (bS (gj (Zj γ8 (Zj γ8 (Zj θz ai))))))
  dq)
  (aN (bS γa)))))
def cz:ah O5 ["_law_digits_here"] (aa Ag):=fu
def zjO(M:Nm mg)(bQ:Pc P w mg base bJ (lj 48))(bR:bJ<=k)(hr:fw k A s fa cdv "_law_tree" Ag) :
 cC (ig P w mg base fa cdv A outer s H E O5 "_law_tree" Ag) EN ios (af Ag) (GO ):=
 (aG (vS 1 cz.nd e_)
  (aG (vF (n:=3) (lb γa) (mH ξ)
  (aN (vS 1 cz.nd (dv bQ (hr.mono bR) rfl (Zj γP γV)))) qbd (dH (i:=2) cz.nd rfl γw))
  ηK))
def c9:ah ["_law_tree_here","_law_branches"] qv (aa Ah):=fu
def zfS(M:Nm mg){mL:List D->Option Rt}(bo:Pf P w mg base bj mL)(bp:bj<=k)(hr:fw k A s fa cdv "_law_tree_text" Ah) :
 cC (ig P w mg base fa cdv A outer s H E ["_law_tree_here","_law_branches"] "_law_tree_text" Ah) EN ios (af Ah) (CO mL):=
 (aG (cN θd
  (aN (bS aU))
  dq)
  (aG (vS 1 c9.nd (aL bg bh (aL bg bh (dv bo (hr.mono bp) rfl εV) aU) (dv bo (hr.mono bp) rfl εV)))
  (aN (bS (aL bg bh (aL bg bh (aL bg bh (aL bg bh aU (qm (λ_ ha=>qd AH rfl M.kD (by decide +kernel) ha) Co εV)) aU) γP) aU)))))
def bV:ah Il ["_law_script"] (aa tj):=fu
def Pm(M:Nm mg)(bW:zgn P w mg base dz uF)(bX:dz<=k)(fc:ze6 P w mg base cx yT)(fh:cx<=k)(iZ:ziO P w mg base fz yU)(i4:fz<=k)(fL:O9 P w mg base dF lh)(fM:dF<=k)(fN:zfh P w mg base cF yV)(fP:cF<=k)(cZ:Pd P w mg base cV lV)(c7:cV<=k)(kQ:zk3 P w mg base gH yW)(kR:gH<=k)(bo:Pf P w mg base bj (mL 48))(bp:bj<=k)(hr:fw k A s fa cdv "law" tj) :
 cC (ig P w mg base fa cdv A outer s H E Il "law" tj) EN ios (af tj) (GW ):=
 (aG (vF (n:=12) (vo (λ_ ha=>vb rfl M.bE ha) (Zj (vi (aL XS XR γa (cR δw)) k_ (dk au)) ai)) ε7
  (aG (vS 3 bV.nd (dv iZ (hr.mono i4) rfl (Zj εY (Zj γP (Zj (aL bg bh (aL bg bh ιr (aL rO sH (cR δw) au)) (aL rO sH ιr au)) ai)))))
  (aG (E4 (i:=4) bV.nd rfl γw rfl (sF (Nc:=["_law_k","_law_d"]) (own:=1) (fr:=[3]) (sc:=aa tj) (N:=Il) rfl rfl (by decide +kernel)) ξ (xT (λ_ ha=>wY rfl M.fV ha) (Zj ζY ai)) (AS ξ) (λ_ _ _ _ _ _=>(dH (i:=0) (show(["_law_k","_law_d"]:v6).Nodup by decide +kernel) rfl γw)) (mH ξ) (vt ξ) (λ_ _ _ _ _ _=>nh) (λ_ _ _ _ _ _=>(gj (Zj η6 (Zj (aL qE qP η6 (aL bg bh au ζs)) ai)))))
  (aG (vS 5 bV.nd (kr (λ_ _ ho ha=>iJ qaD qba qbb q_ ho ha) rg aU (Zj (sO (lb θn) nh (qm (λ_ ha=>qd AH rfl M.kD (by decide +kernel) ha) Co γt)) ai)))
  (aG (vS 6 bV.nd (cR (Zj (dv bo (hr.mono bp) rfl (Zj (dv kQ (hr.mono kR) rfl (Zj θn ai)) ai)) (Zj ζG (Zj (dv fN (hr.mono fP) rfl εL) ai)))))
  (aN (vF (n:=12) (vo (λ_ ha=>vb rfl M.bE ha) (Zj (vn 6) ai)) ε7
  (aG (vS 9 bV.nd εH)
  (aG (vS 10 bV.nd εH)
  (aN (vF (n:=12) (lb (cR (Zj (vn 9) (Zj (vn 8) (Zj (vn 10) (Zj (dv bW (hr.mono bX) rfl (Zj (vn 10) (Zj (vi δi (dk au) k_) γR))) (Zj (vn 8) ai))))))) (mH ξ)
  (aN (cN (bw ηm mE (vB (Cg hr M.rC) Ci M.jK (Zj (dv cZ (hr.mono c7) rfl (Zj (vn 7) (Zj (vn 11) ai))) ai)) (vB (Cg hr M.rC) Ci M.jK (Zj (dv fL (hr.mono fM) rfl (Zj (vn 7) (Zj (vn 11) ai))) ai)) γu)
  (aN (bS xw))
  dq)) qbd (dH (i:=11) bV.nd rfl γw))))) qbd (mW rfl (gC (dH (i:=7) bV.nd rfl γw) (gC (dH (i:=8) bV.nd rfl γw) mV))))))))) qbd (mW rfl (gC (dH (i:=1) bV.nd rfl γw) (gC (dH (i:=2) bV.nd rfl γw) mV))))
  (aN (bS (Vq fc (hr.mono fh) rfl))))
end
end dW
namespace dW
open PySem L2 Ex Dv
section
variable[KC]{P:Program}{w:World}{mg:M2}{base:Heap}
structure eT(mg:M2):Prop where
 gz:At mg "_law_bent_text" zI
 i5:At mg "_law_key_of" zJ
 iD:At mg "_law_keys_in" wF
 gg:At mg "_law_points_due" zK
 gK:At mg "_law_keys" zL
 eI:At mg "_law_tree_at" zM
 iE:At mg "_law_tree_of" zN
 mj:At mg "_law_due" zP
 gW:Ge .Points "points" "Points.points" zQ
 pW:At mg "is_key" zR
 kT:At mg "number_of" zS
 nG:At mg "keys_in" wG
 iF:At mg "look_at_text" zT
 kU:At mg "read_asks" zU
 mn:At mg "in_order" uR
 mq:At mg "is_point" zV
 gB:At mg "look_at_points" zW
 pX:MU .Points "Points.__init__" rD qu
 i6:At mg "keys_of_row" zX
 i7:At mg "read_points" zY
 iG:At mg "look_at_sign" zZ
 jj:At mg "part_at" z_
 kW:At mg "read_tree" Aa
 kX:At mg "_law_told" Ab
 fj:At mg "_law_bounds_right" Ac
 i8:At mg "_law_digits" Ad
 gZ:At mg "_law_row_text" Ae
 fR:At mg "_law_points_text" uS
 eJ:At mg "_law_put_key" Af
 kY:At mg "_law_tree" Ag
 dC:At mg "_law_tree_text" Ah
 Ai:At mg "law" tj
def Pn(T:eT mg)(M:Nm mg):cp P w mg base "_law_bent_text" 1 ["_law_text","_law_d","_law_signs"] (bC uF):=
 iu (k:=0) T.gz ay (λ_ _ _ _ _ _=>yC λ_ _ _=>rfl) (λ_ _ _ _ _ _ _ hr=>zfE M  hr) (λ_ _ h=>gP h)
def Po(T:eT mg)(M:Nm mg):cp P w mg base "_law_key_of" 1 ln2 (bC lU):=
 iu (k:=0) T.i5 zhV (λ_ _ _ _ _ _=>ie λ_=>rfl) (λ_ _ _ _ _ _ _ hr=>zih M  hr) (λ_ _ h=>gP h)
def Pp(T:eT mg)(M:Nm mg):cp P w mg base "_law_keys_in" 2 td (bC pj):=
 iu (k:=1) T.iD dP (λ_ _ _ _ _ _=>ie λ_=>rfl) (λ_ _ _ _ _ _ _ hr=>zg5 M (Po T M) ω hr) (λ_ _ h=>gP h)
def ze4(T:eT mg)(M:Nm mg):cp P w mg base "_law_points_due" 3 ["_law_text"] (bC yK):=
 iu (k:=2) T.gg av (λ_ _ _ _ _ _=>ie λ_=>rfl) (λ_ _ _ _ _ _ _ hr=>zfj M (Pp T M) ω hr) (λ_ _ h=>gP h)
def ziL(T:eT mg)(M:Nm mg):cp P w mg base "_law_keys" 48 qv (bC (mK 48)):=by
 have go:∀n,cp P w mg base "_law_keys" (0+n) qv (bC (mK n)):=by
  intro n;induction n with
  |zero=>exact Bx T.gK (λ_ _ _ _ _ _=>ie λ_=>rfl)
  |succ n ih=>exact iu (k:=0+n) T.gK zjR (λ_ _ _ _ _ _=>ie λ_=>rfl) (λ_ _ _ _ _ _ _ hr=>zj4 M ih ω hr) (λ_ _ h=>gP h)
 exact go 48
def zgD(T:eT mg)(M:Nm mg):cp P w mg base "_law_tree_at" 49 ["_law_text","_law_at"] (bC (dX 48)):=by
 have go:∀n,cp P w mg base "_law_tree_at" (1+n) ["_law_text","_law_at"] (bC (dX n)):=by
  intro n;induction n with
  |zero=>exact Bx T.eI (λ_ _ _ _ _ _=>sN λ_ _=>rfl)
  |succ n ih=>exact iu (k:=1+n) T.eI bx (λ_ _ _ _ _ _=>sN λ_ _=>rfl) (λ_ _ _ _ _ _ _ hr=>zhe M (Po T M) ω ih ω hr) (λ_ _ h=>gP h)
 exact go 48
def zgC(T:eT mg)(M:Nm mg):cp P w mg base "_law_tree_of" 50 ["_law_text"] (bC n_):=
 iu (k:=49) T.iE bz (λ_ _ _ _ _ _=>ie λ_=>rfl) (λ_ _ _ _ _ _ _ hr=>zgV M (ziL T M) ω (zgD T M) ω hr) (λ_ _ h=>gP h)
def Io(T:eT mg)(M:Nm mg):cp P w mg base "_law_due" 51 wC (bC lh):=
 iu (k:=50) T.mj eD (λ_ _ _ _ _ _=>sN λ_ _=>rfl) (λ_ _ _ _ _ _ _ hr=>zl9 M (Pp T M) ω (ze4 T M) ω (zgC T M) ω hr) (λ_ _ h=>gP h)
def zfV(T:eT mg)(M:Nm mg):Cc P w mg base .Points "points" 1 ["self"] (bC yL):=
 Xn (k:=0) T.gW zgs (λ_ _ _ _ _ _=>ie λ_=>rfl) (λ_ _ _ _ _ _ _ hr=>zgz M  hr) (λ_ _ h=>gP h)
def Pq(T:eT mg)(M:Nm mg):cp P w mg base "is_key" 1 jZ (bC nC):=
 iu (k:=0) T.pW zo4 (λ_ _ _ _ _ _=>ie λ_=>rfl) (λ_ _ _ _ _ _ _ hr=>zoK M  hr) (λ_ _ h=>gP h)
def Pr(T:eT mg)(M:Nm mg):cp P w mg base "number_of" 1 ["word"] (bC rn):=
 iu (k:=0) T.kT cy (λ_ _ _ _ _ _=>ie λ_=>rfl) (λ_ _ _ _ _ _ _ hr=>zkq M  hr) (λ_ _ h=>gP h)
def Pt(T:eT mg)(M:Nm mg):cp P w mg base "keys_in" 2 ["row"] (bC sS):=
 iu (k:=1) T.nG iC (λ_ _ _ _ _ _=>ie λ_=>rfl) (λ_ _ _ _ _ _ _ hr=>zml M (Pq T M) ω (Pr T M) ω hr) (λ_ _ h=>gP h)
def Ip(T:eT mg)(M:Nm mg):jY P w mg base "look_at_text" 3 jZ (iT pB):=
 uq (k:=2) T.iF zhf (λ_ _ _ _ _ _=>ie λ_=>rfl) (λ_ _ _ _ _ _ _ hr=>zgZ M  hr ω) (λ_ _ h=>ur h)
def ziY(T:eT mg)(M:Nm mg):jY P w mg base "read_asks" 4 ["text"] (iT og):=
 uq (k:=3) T.kU gf (λ_ _ _ _ _ _=>ie λ_=>rfl) (λ_ _ _ _ _ _ _ hr=>zkz M (Pt T M) ω (Ip T M) ω hr ω) (λ_ _ h=>ur h)
def zke(T:eT mg)(M:Nm mg):cp P w mg base "in_order" 1 qu (bC yM):=
 iu (k:=0) T.mn zly (λ_ _ _ _ _ _=>ie λ_=>rfl) (λ_ _ _ _ _ _ _ hr=>zle M  hr) (λ_ _ h=>gP h)
def zj9(T:eT mg)(M:Nm mg):cp P w mg base "is_point" 2 jZ (bC sT):=
 iu (k:=1) T.mq zlD (λ_ _ _ _ _ _=>ie λ_=>rfl) (λ_ _ _ _ _ _ _ hr=>zkR M (Pq T M) ω hr) (λ_ _ h=>gP h)
def zfq(T:eT mg)(M:Nm mg):cp P w mg base "look_at_points" 3 jZ (bC yN):=
 iu (k:=2) T.gB bN (λ_ _ _ _ _ _=>ie λ_=>rfl) (λ_ _ _ _ _ _ _ hr=>zfU M (zj9 T M) ω hr) (λ_ _ h=>gP h)
def zmY(T:eT mg)(M:Nm mg):yz P w mg base "Points" 4 qu [.aq] .Points "held" sU:=
 Xp (k:=3) (st1:=O6) (st2:=O7) (e:=O8) T.pX M.pR ji rfl M.gp M.mS rfl ξ (λ_ _ _ _ _ _ _ hr=>let ⟨h1,h2,h3⟩:=zoH M (zke T M) ω (zfq T M) ω hr ω; ⟨h1,h2,h3,pv 0,rfl⟩)
def zg3(T:eT mg)(M:Nm mg):jY P w mg base "keys_of_row" 3 ["row","number","many"] (iT uH):=
 uq (k:=2) T.i6 cI (λ_ _ _ _ _ _=>yC λ_ _ _=>rfl) (λ_ _ _ _ _ _ _ hr=>zio M (Pt T M) ω hr ω) (λ_ _ h=>ur h)
def zhd(T:eT mg)(M:Nm mg):jY P w mg base "read_points" 6 ["text"] (iT pC):=
 uq (k:=5) T.i7 bb (λ_ _ _ _ _ _=>ie λ_=>rfl) (λ_ _ _ _ _ _ _ hr=>zhN M (zmY T M) ω (zg3 T M) ω (Ip T M) ω hr ω) (λ_ _ h=>ur h)
def zgh(T:eT mg)(M:Nm mg):jY P w mg base "look_at_sign" 3 zC (iT pE):=
 uq (k:=2) T.iG zhc (λ_ _ _ _ _ _=>yC λ_ _ _=>rfl) (λ_ _ _ _ _ _ _ hr=>zg9 M  hr ω) (λ_ _ h=>ur h)
def zl4(T:eT mg)(M:Nm mg):jY P w mg base "part_at" 51 ["text","start","low","high"] (iT (eg 48)):=by
 have go:∀n,jY P w mg base "part_at" (3+n) ["text","start","low","high"] (iT (eg n)):=by
  intro n;induction n with
  |zero=>exact X9 T.jj (λ_ _ _ _ _ _=>M3 λ_ _ _ _=>rfl)
  |succ n ih=>exact uq (k:=3+n) T.jj bf (λ_ _ _ _ _ _=>M3 λ_ _ _ _=>rfl) (λ_ _ _ _ _ _ _ hr=>zm4 M (zgh T M) ω (Pr T M) ω ih ω hr ω) (λ_ _ h=>ur h)
 exact go 48
def ziK(T:eT mg)(M:Nm mg):jY P w mg base "read_tree" 52 ["text"] (iT oh):=
 uq (k:=51) T.kW dG (λ_ _ _ _ _ _=>ie λ_=>rfl) (λ_ _ _ _ _ _ _ hr=>zjP M (Ip T M) ω (zl4 T M) ω hr ω) (λ_ _ h=>ur h)
def Iq(T:eT mg)(M:Nm mg):cp P w mg base "_law_told" 53 wC (bC lV):=
 iu (k:=52) T.kX aQ (λ_ _ _ _ _ _=>sN λ_ _=>rfl) (λ_ _ _ _ _ _ _ hr=>zka M (zfV T M) ω (ziY T M) ω (zhd T M) ω (ziK T M) ω hr) (λ_ _ h=>gP h)
def Pu(T:eT mg)(M:Nm mg):cp P w mg base "_law_bounds_right" 54 [] (bC yT):=
 iu (k:=53) T.fj aj (λ_ _ _ _ _ _ us hl=>match us,hl with|[],_=>rfl) (λ_ _ _ _ _ _ _ hr=>zeN M (Io T M) ω (Iq T M) ω hr) (λ_ _ h=>gP h)
def Pw(T:eT mg)(M:Nm mg):cp P w mg base "_law_digits" 1 ["_law_cell","_law_turn","_law_sizes"] (bC yU):=
 iu (k:=0) T.i8 az (λ_ _ _ _ _ _=>yC λ_ _ _=>rfl) (λ_ _ _ _ _ _ _ hr=>ziB M  hr) (λ_ _ h=>gP h)
def zfP(T:eT mg)(M:Nm mg):cp P w mg base "_law_row_text" 1 td (bC vY):=
 iu (k:=0) T.gZ zga (λ_ _ _ _ _ _=>ie λ_=>rfl) (λ_ _ _ _ _ _ _ hr=>zgE M  hr) (λ_ _ h=>gP h)
def Px(T:eT mg)(M:Nm mg):cp P w mg base "_law_points_text" 2 ["_law_spots"] (bC yV):=
 iu (k:=1) T.fR aJ (λ_ _ _ _ _ _=>ie λ_=>rfl) (λ_ _ _ _ _ _ _ hr=>ze5 M (zfP T M) ω hr) (λ_ _ h=>gP h)
def zgo(T:eT mg)(M:Nm mg):cp P w mg base "_law_put_key" 48 wD (bC (lj 48)):=by
 have go:∀n,cp P w mg base "_law_put_key" (0+n) wD (bC (lj n)):=by
  intro n;induction n with
  |zero=>exact Bx T.eJ (λ_ _ _ _ _ _=>sN λ_ _=>rfl)
  |succ n ih=>exact iu (k:=0+n) T.eJ zgU (λ_ _ _ _ _ _=>sN λ_ _=>rfl) (λ_ _ _ _ _ _ _ hr=>zgY M ih ω hr) (λ_ _ h=>gP h)
 exact go 48
def Py(T:eT mg)(M:Nm mg):cp P w mg base "_law_tree" 49 ["_law_digits_here"] (bC yW):=
 iu (k:=48) T.kY cz (λ_ _ _ _ _ _=>ie λ_=>rfl) (λ_ _ _ _ _ _ _ hr=>zjO M (zgo T M) ω hr) (λ_ _ h=>gP h)
def Pz(T:eT mg)(M:Nm mg):cp P w mg base "_law_tree_text" 48 qv (bC (mL 48)):=by
 have go:∀n,cp P w mg base "_law_tree_text" (0+n) qv (bC (mL n)):=by
  intro n;induction n with
  |zero=>exact Bx T.dC (λ_ _ _ _ _ _=>ie λ_=>rfl)
  |succ n ih=>exact iu (k:=0+n) T.dC c9 (λ_ _ _ _ _ _=>ie λ_=>rfl) (λ_ _ _ _ _ _ _ hr=>zfS M ih ω hr) (λ_ _ h=>gP h)
 exact go 48
def Ds(T:eT mg)(M:Nm mg):cp P w mg base "law" 55 ["_law_script"] (bC yX):=
 iu (k:=54) T.Ai bV (λ_ _ _ _ _ _=>ie λ_=>rfl) (λ_ _ _ _ _ _ _ hr=>Pm M (Pn T M) ω (Pu T M) ω (Pw T M) ω (Io T M) ω (Px T M) ω (Iq T M) ω (Py T M) ω (Pz T M) ω hr) (λ_ _ h=>gP h)
def zwg(T:eT mg)(M:Nm mg){f:Addr}{fd:FuncData}(U:nP KC.K "law" "law" tj f fd):bB P w KC.K mg base jt 55 f fd ["_law_script"] (bC yX):=
 E6 (k:=54) U bV (λ_ _ _ _ _ _ hr=>Pm M (Pn T M) ω (Pu T M) ω (Pw T M) ω (Io T M) ω (Px T M) ω (Iq T M) ω (Py T M) ω (Pz T M) ω hr) (λ_ _ h=>gP h)
end
end dW
namespace dW
open PySem PySem.W PyProof.Rows Hd
def xE(x:Str):=xC x (.ref 31) [(.type "ValueError")] "ValueError"
abbrev cP:Value:=vS "law_thirdpoint_k58_texts_of_none" 539
abbrev qz:Value:=vS "thirdpoint.errors" 194
abbrev nH:Value:=vS "thirdpoint.points" 305
abbrev pm4:Value:=vS "thirdpoint.texts" 455
def KK(P:Params):Frag:=[
 (1,dO P [de "builtins" 162 (.ref 4),de "__main__" 163 (.ref 5)] 2),
 (2,dN P [] 0),
 (3,dO P [de "__name__" 165 cP,de "__doc__" 166 .none,de "__package__" 167 .none,de "__loader__" 168 (.builtin "__main__.__loader__#opaque"),de "__spec__" 169 .none,de "__annotations__" 170 (.ref 6),de "__builtins__" 171 (.ref 4),de "__file__" 173 (vS "/claim/cut.py" 172),de "__cached__" 174 .none,de "_wall" 193 (.ref 21),de "PointError" 213 (.ref 31),de "NoPoints" 238 (.ref 51),de "NoAsks" 263 (.ref 70),de "NoText" 288 (.ref 89),de "NoTree" 304 (.ref 101),de "LAST_KEY" 308 (vI 30 307),de "MOST_POINTS" 310 (vI 200 309),de "is_key" 317 (.ref 110),de "is_point" 324 (.ref 117),de "look_at_points" 333 (.ref 124),de "in_order" 339 (.ref 129),de "Points" 452 (.ref 224),de "MOST_ASKS" 454 (vI 31 453),de "FIGURES" 458 (vS "0123456789" 457),de "number_of" 467 (.ref 235),de "keys_in" 473 (.ref 240),de "look_at_text" 480 (.ref 247),de "look_at_sign" 489 (.ref 254),de "part_at" 504 (.ref 261),de "read_tree" 513 (.ref 268),de "read_asks" 521 (.ref 275),de "keys_of_row" 532 (.ref 282),de "read_points" 538 (.ref 287),de "_law_digits" 555 (.ref 294),de "_law_put_key" 563 (.ref 301),de "_law_tree" 572 (.ref 308),de "_law_tree_text" 580 (.ref 315),de "_law_key_of" 586 (.ref 320),de "_law_tree_at" 597 (.ref 327),de "_law_keys" 604 (.ref 334),de "_law_tree_of" 613 (.ref 341),de "_law_row_text" 619 (.ref 346),de "_law_points_text" 625 (.ref 351),de "_law_bent_text" 640 (.ref 358),de "_law_keys_in" 646 (.ref 363),de "_law_points_due" 652 (.ref 368),de "_law_due" 661 (.ref 375),de "_law_told" 672 (.ref 382),de "_law_bounds_right" 678 (.ref 387),de "law" 684 (.ref 392)] 50),
 (30,dO P [de "__module__" 203 qz,de "__firstlineno__" 207 (vI 5 206),de "__static_attributes__" 208 (.ref 29),de "__weakref__" 210 (.ref 32),de "__doc__" 211 .none] 3),
 (31,cO "PointError" [(.type "ValueError")] [(.ref 31),(.type "ValueError"),(.type "Exception"),(.type "BaseException"),(.type "object")] 30 [(.ref 51),(.ref 70),(.ref 89),(.ref 101)] #[some (.ref 22),none,some (vS "PointError" 196),some (vS "PointError" 204),some (.builtin "ValueError.__new__"),some δ9]),
 (50,xD P qz 221 7 [de "__init__" 233 (.ref 48)] 235 49),
 (51,xE "NoPoints" 51 50 35 214 222),
 (69,xD P qz 246 12 [de "__init__" 258 (.ref 67)] 260 68),
 (70,xE "NoAsks" 70 69 54 239 247),
 (85,kP "__init__" "NoText.__init__" 276 19 2 80 [0,82,83,84] 281),
 (86,fO "__init__" "NoText.__init__" ζl .none qz 85),
 (88,xD P qz 271 17 [de "__init__" 283 (.ref 86)] 285 87),
 (89,xE "NoText" 89 88 73 264 272),
 (100,xD P qz 296 22 [] 301 99),
 (101,xE "NoTree" 101 100 92 289 297),
 (109,kP "is_key" "is_key" 311 27 1 104 [0,106,107,108] 315),
 (110,fQ "is_key" (top 10) nH 109),
 (116,kP "is_point" "is_point" 318 29 1 111 [0,113,114,115] 322),
 (117,fQ "is_point" (top 11) nH 116),
 (123,kP "look_at_points" "look_at_points" 325 31 1 118 [0,120,121,122] 331),
 (124,fQ "look_at_points" (top 12) nH 123),
 (128,kP "in_order" "in_order" 334 37 1 125 [0,0,0,127] 337),
 (129,fQ "in_order" (top 13) nH 128),
 (137,{cls:=.type "tuple",data:=.seq #[.none]}),
 (143,kP "__init__" "Points.__init__" 352 41 2 138 [0,140,141,142] 357),
 (144,fO "__init__" "Points.__init__" (L2.inClass (top 14) 0) (.ref 137) nH 143),
 (150,kP "points" "Points.points" 360 47 1 145 [0,147,148,149] 364),
 (151,fO "points" "Points.points" (L2.inClass (top 14) 1) .none nH 150),
 (223,dO P [de "__module__" 347 nH,de "__firstlineno__" 351 (vI 39 350),de "__init__" 359 (.ref 144),de "points" 366 (.ref 151),de "has" 374 (.ref 158),de "keys_at" 382 (.ref 165),de "moments_of" 390 (.ref 172),de "all_keys" 397 (.ref 179),de "all_moments" 404 (.ref 186),de "more" 412 (.ref 193),de "less" 420 (.ref 200),de "__eq__" 428 (.ref 207),de "__len__" 435 (.ref 214),de "__repr__" 442 (.ref 221),de "__static_attributes__" 444 (.ref 222),de "__dict__" 446 (.ref 225),de "__weakref__" 448 (.ref 226),de "__doc__" 449 .none,de "__hash__" 450 .none] 5),
 (224,cO "Points" [(.type "object")] [(.ref 224),(.type "object")] 223 [] #[none,none,some (vS "Points" 340),some (vS "Points" 348),some (.builtin "object.__new__"),some δ9]),
 (234,kP "number_of" "number_of" 459 82 1 229 [0,231,232,233] 465),
 (235,fQ "number_of" (top 18) pm4 234),
 (239,kP "keys_in" "keys_in" 468 91 1 236 [0,0,0,238] 471),
 (240,fQ "keys_in" (top 19) pm4 239),
 (246,kP "look_at_text" "look_at_text" 474 94 1 241 [0,243,244,245] 478),
 (247,fQ "look_at_text" (top 20) pm4 246),
 (253,kP "look_at_sign" "look_at_sign" 481 97 3 248 [0,250,251,252] 487),
 (254,fQ "look_at_sign" (top 21) pm4 253),
 (260,kP "part_at" "part_at" 490 100 4 255 [0,257,258,259] 502),
 (261,fQ "part_at" (top 22) pm4 260),
 (267,kP "read_tree" "read_tree" 505 115 1 262 [0,264,265,266] 511),
 (268,fQ "read_tree" (top 23) pm4 267),
 (274,kP "read_asks" "read_asks" 514 121 1 269 [0,271,272,273] 519),
 (275,fQ "read_asks" (top 24) pm4 274),
 (281,kP "keys_of_row" "keys_of_row" 522 127 3 276 [0,278,279,280] 530),
 (282,fQ "keys_of_row" (top 25) pm4 281),
 (286,kP "read_points" "read_points" 533 135 1 283 [0,0,0,285] 536),
 (287,fQ "read_points" (top 26) pm4 286),
 (293,kP "_law_digits" "_law_digits" 541 147 3 288 [0,290,291,292] 553),
 (294,fQ "_law_digits" (top 28) cP 293),
 (300,kP "_law_put_key" "_law_put_key" 556 160 2 295 [0,297,298,299] 561),
 (301,fQ "_law_put_key" (top 29) cP 300),
 (307,kP "_law_tree" "_law_tree" 564 168 1 302 [0,304,305,306] 570),
 (308,fQ "_law_tree" (top 30) cP 307),
 (314,kP "_law_tree_text" "_law_tree_text" 573 173 1 309 [0,311,312,313] 578),
 (315,fQ "_law_tree_text" (top 31) cP 314),
 (319,kP "_law_key_of" "_law_key_of" 581 178 1 316 [0,0,0,318] 584),
 (320,fQ "_law_key_of" (top 32) cP 319),
 (326,kP "_law_tree_at" "_law_tree_at" 587 184 2 321 [0,323,324,325] 595),
 (327,fQ "_law_tree_at" (top 33) cP 326),
 (333,kP "_law_keys" "_law_keys" 598 197 1 328 [0,330,331,332] 602),
 (334,fQ "_law_keys" (top 34) cP 333),
 (340,kP "_law_tree_of" "_law_tree_of" 605 201 1 335 [0,337,338,339] 611),
 (341,fQ "_law_tree_of" (top 35) cP 340),
 (345,kP "_law_row_text" "_law_row_text" 614 211 1 342 [0,0,0,344] 617),
 (346,fQ "_law_row_text" (top 36) cP 345),
 (350,kP "_law_points_text" "_law_points_text" 620 215 1 347 [0,0,0,349] 623),
 (351,fQ "_law_points_text" (top 37) cP 350),
 (357,kP "_law_bent_text" "_law_bent_text" 626 222 3 352 [0,354,355,356] 638),
 (358,fQ "_law_bent_text" (top 38) cP 357),
 (362,kP "_law_keys_in" "_law_keys_in" 641 230 1 359 [0,0,0,361] 644),
 (363,fQ "_law_keys_in" (top 39) cP 362),
 (367,kP "_law_points_due" "_law_points_due" 647 235 1 364 [0,0,0,366] 650),
 (368,fQ "_law_points_due" (top 40) cP 367),
 (374,kP "_law_due" "_law_due" 653 250 2 369 [0,371,372,373] 659),
 (375,fQ "_law_due" (top 41) cP 374),
 (381,kP "_law_told" "_law_told" 662 260 2 376 [0,378,379,380] 670),
 (382,fQ "_law_told" (top 42) cP 381),
 (386,kP "_law_bounds_right" "_law_bounds_right" 673 277 0 383 [0,0,0,385] 676),
 (387,fQ "_law_bounds_right" (top 43) cP 386),
 (391,kP "law" "law" 679 293 1 388 [0,0,0,390] 682),
 (392,fQ "law" (top 44) cP 391)]
noncomputable def tu:zzd:=[1,2,3,30,31,50,51,69,70,85,86,88,89,100,101,109,110,116,117,123,124,128,129,137,143,144,150,151,223,224,234,235,239,240,246,247,253,254,260,261,267,268,274,275,281,282,286,287,293,294,300,301,307,308,314,315,319,320,326,327,333,334,340,341,345,346,350,351,357,358,362,363,367,368,374,375,381,382,386,387,391,392]
def iH(P:Params):tu=(KK P).map (·.1):=by kernel_rfl
noncomputable def jk:zzc:=[0,2,3,4,5,6,8,9,10,11,12,13,14,15,17,18,19,20,21,22,23,24,25,26,28,29,30,31,32,33,34,35,36,37,38,39,40,41,42,43,44]
set_option maxHeartbeats 0 in
def run(w:World)(os:OsState):(zB Fast.tw14364793385576792824 PySem.Challenge.pw_thirdpoint_k58_texts_of_none w 11 (some (.ref 6)) 5534 (Ih w.params os) (topStub PySem.Challenge.pw_thirdpoint_k58_texts_of_none)).map (λs=>((staticsOk εt δ0 s.abs.heap&&namesBound PySem.Challenge.pw_thirdpoint_k58_texts_of_none s.abs.heap&&gensDone s.abs&&laidKept δ0 s.abs.heap),
 Fast.tw4187177175401517315 γq [] εt (λs=>xlAt γq [] s&&recOk [] s) true s.abs,tu.map s.abs.heap.get?))=some (true,openGood γq [],(KK w.params).map λx=>some x.2):=by kernel_rfl
def left:LeftO PySem.Challenge.pw_thirdpoint_k58_texts_of_none γq [] (λs=>xlAt γq [] s&&recOk [] s) (λs=>tu.map s.heap.get?) (λw=>(KK w.params).map λx=>some x.2) 5534:=
 ztd rfl (by kernel_rfl) rfl (λ_=>by kernel_rfl) run
end dW
namespace Xf
open PySem L2 Ex Dv
noncomputable abbrev PB:v4:=[.type "ValueError",.type "Exception",.type "BaseException",.type "object"]
noncomputable abbrev PC:v4:=[.type "KeyError",.type "LookupError",.type "Exception",.type "BaseException",.type "object"]
noncomputable abbrev PD:v4:=[.type "LookupError",.type "Exception",.type "BaseException",.type "object"]
noncomputable abbrev ir:v4:=[.type "IndexError",.type "LookupError",.type "Exception",.type "BaseException",.type "object"]
noncomputable abbrev PF:v4:=[.type "OverflowError",.type "ArithmeticError",.type "Exception",.type "BaseException",.type "object"]
def ly(self:Value):refuseLoop self "__setattr__" PB=pure ():=F.store_ValueError.passes self
def PH(self:Value):refuseLoop self "__setattr__" PC=pure ():=by kernel_rfl
def zvQ(self:Value):refuseLoop self "__setattr__" PD=pure ():=by kernel_rfl
def zuL(self:Value):refuseLoop self "__setattr__" ir=pure ():=by kernel_rfl
def zwf(self:Value):refuseLoop self "__setattr__" PF=pure ():=by kernel_rfl
def rE:Cn->v4
 |.jw|.lH=>PC
 |.oU=>PD
 |.lI=>ir
 |.jx=>PF
 |_=>PB
noncomputable def uT:Cn->String
 |.jw|.lH|.oU => "LookupError.__new__"
 |.lI => "IndexError.__new__"
 |.jx => "OverflowError.__new__"
 |_ => "ValueError.__new__"
theorem zvo:∀(C:Cn) (self:Value),refuseLoop self "__setattr__" (rE C)=pure ()
 |.PointError,s=>ly s
 |.NoPoints,s=>ly s
 |.rW,s=>ly s
 |.NoAsks,s=>ly s
 |.rX,s=>ly s
 |.NoText,s=>ly s
 |.oS,s=>ly s
 |.NoTree,s=>ly s
 |.rY,s=>ly s
 |.i_,s=>ly s
 |.rZ,s=>ly s
 |.jw,s=>PH s
 |.lH,s=>PH s
 |.oU,s=>zvQ s
 |.lI,s=>zuL s
 |.jx,s=>zwf s
 |.Points,s=>ly s
 |.t9,s=>ly s
 |.Search,s=>ly s
 |.t_,s=>ly s
 |.ED,s=>ly s
noncomputable def rF(K:zze)(C:Addr)(up:v4)(nw:String):Bool:=tV K C up nw&&(W.findIn K γb "__getattribute__" == some (some (.builtin "BaseException.__getattribute__")))&&(W.findIn K γb "__getattr__" == some none)&&
 (W.findIn K γb "__setattr__" == some (some (.builtin "object.__setattr__")))&&(W.mroIn K C (.type "BaseException") == some true)&&(W.mroIn K C (.type "object") == some true)&&(W.findIn K γb "__class__" == some (some (.builtin "object.__class__")))&&
 (W.specialIn K (.builtin "object.__class__") "__get__" == some (some (.builtin "getset_descriptor.__get__")))&&(W.takesIn K (.builtin "object.__class__") == some true)&&(W.kitCls K γb γb == some true)&&W.keepIn K γb
def zuB(ok:∀self,refuseLoop self "__setattr__" up=pure ())(h:rF K C up nw=true):tV K C up nw=true/\xm K C:=by unfold rF at h;simp only[Bool.and_eq_true,beq_iff_eq]at h;obtain⟨⟨⟨⟨⟨⟨⟨⟨⟨⟨a,b⟩,c⟩,d⟩,e⟩,f⟩,g⟩,i⟩,j⟩,k⟩,l⟩:=h;exact⟨a,TB ok a b c d e f g i j k l⟩
variable[KC]
def mT{L:ηe}(h:L.all (λC=>rF KC.K θ (rE C) (uT C))=true)(hc:L.contains C=true):tV KC.K θ (rE C) (uT C)=true/\xm KC.K θ:=
 zuB (zvo C) εf
def PJ(K:zze)(cls:Cn->Addr)(L:ηe)(T:Cn):Bool:=L.all (λC=>W.kitOne K (.ref (cls C)) (.ref (cls T)) == some (sub C T))&&o9.all (λt=>W.kitOne K (.type t) (.ref (cls T)) == some false)
def uU(h:PJ KC.K KC.cls L T=true)(hx:∀C,L.contains C=true->XC KC.K θ):KitX L T:=by unfold PJ at h;rw[qa1,qbH,qbH]at h;exact⟨λC hc=>⟨qau.mp (h.1 C (List.contains_iff_mem.mp hc)),hx C hc⟩,λt ht=>qau.mp (h.2 t ht)⟩
def Aj{L:ηe}(h:L.all (λC=>aV KC.K θ cs == some true)=true):∀C,L.contains C=true->aV KC.K θ cs=some true:=λC hc=>qau.mp εf
def Ak{L:ηe}(h:L.all (λC=>W.findIn KC.K ηw y == some none)=true)(hx:∀C,L.contains C=true->XC KC.K θ):∀C,L.contains C=true->XC KC.K θ/\a9 KC.K θ y:=λC hc=>⟨hx C hc,qau.mp εf⟩
def uV{K:zze}{D:Addr}(a:W.specialIn K εe "__getattribute__" = some (some (.builtin "type.__getattribute__")))(b:W.readsIn K D (.type "type")=true)(c:W.findCls K εe (.type "type") "__init__" = some (.val (.builtin "ValueError.__init__"))):Em K εe "ValueError" "ValueError.__init__":=
 ⟨.inl ⟨D,rfl,a,b,c⟩,by decide +kernel,_,XB.of F.excBase_ValueError⟩
def pY{K:zze}{x q:Str}{st:Stmt}{a cd:Addr}{pm:Value}(l:K.lookup a=some (Hd.fO x q st .none pm cd))(c:W.codeIn K (.ref cd) q=true)(k:W.keepIn K γz=true):∃fd,nP K x q st a fd:=⟨_,L2.oP l c k⟩
def bG{mg:M2}{x:Str}{st:Stmt}{a cd:Addr}{pm:Value}{h:Heap}(X:KC.K.In h)(G:h.Ns mainGlobals mg)(l:KC.K.lookup a=some (Hd.fO x x st .none pm cd):=by kernel_rfl)(c:W.codeIn KC.K (.ref cd) x=true:=by kernel_rfl)(k:W.keepIn KC.K γz=true:=by kernel_rfl)(n:W.nsIn KC.K mainGlobals x=some (some γz):=by kernel_rfl):At mg x st:=
 let ⟨fd,U⟩:=pY l c k; ⟨a,fd,U,W.mg_of X G n,k⟩
structure XT(K:zze)(C:Addr)(B:String)(x:Str):Prop where
 xc:XC K C
 sub:W.mroIn K C ιp=some true
 no:a9 K C x
end Xf
namespace Xf
open PySem L2 Ex Dv
def Am[KC]{C:Cn}{m q:Str}{st:Stmt}{a cd:Addr}{pm:Value}(l:KC.K.lookup a=some (Hd.fO m q st .none pm cd):=by kernel_rfl)(c:W.codeIn KC.K (.ref cd) q=true:=by kernel_rfl)(k:W.keepIn KC.K γz=true:=by kernel_rfl)(e:W.findIn KC.K ηw m=some (some γz):=by kernel_rfl)(f:W.isFn KC.K γz=true:=by kernel_rfl):Ge C m q st:=⟨a,_,L2.oP l c k,⟨e,f,k⟩⟩
end Xf
namespace dW
open PySem L2 Ex Dv
noncomputable def PK:Cn->Addr
 |.PointError=>31
 |.NoPoints=>51
 |.NoAsks=>70
 |.NoText=>89
 |.NoTree=>101
 |.Points=>224
 |_=>0
section
variable{P:Program}{w:World}{K:zze}{mg:M2}{base:Heap}
def zoM:ah ["self","row"] ["self","row"] (aa ζl):=⟨rfl,rfl,rfl,by decide +kernel,rfl,by decide +kernel,by decide +kernel⟩
def zpd{f C D:Addr}{fd:FuncData}{ini:String}(F:nP K "__init__" "NoText.__init__" ζl f fd)(T:Xf.XT K C "ValueError" "row")(Z:Em K εe "ValueError" ini)(hm:mg "PointError" = some εe):bB P w K mg base jt 1 f fd ["self","row"] (FN C "row"):=by
 refine F.ok zoM (λvs H Q E h=>?_) (λcdv A outer s H vs Q E hr h=>?_)
 .obtain⟨a,v,fr,rfl,_⟩:=h;rfl
 .obtain⟨a,v,fr,rfl,ha,k⟩:=h;refine⟨_,Az (DP (TH (tI (v:=.ref D) rfl hm rfl) Z (jR (pv 0) (jR Jj qc)))) (AA (Tn (pv 0) (pv 1) rfl)),?_⟩;refine⟨_,rfl,a,C,fr,_,rfl,ha,T.xc,T.sub,ξ,?_⟩;exact⟨_,rfl,_,rfl,a,C,fr,rfl,T.xc,T.no,.inl ⟨ha,λd hd ne=>k d hd ne⟩⟩
end
def Dt(K:zze):Sp:=λvs H Q _=>∃(a:Addr) (ns:u8),vs=[.ref a]/\cJ K H a γN/\ns.length<=63/\∀H',Q (.bl true) H'
def zsD[KC](vs:γv)(H:Hp)(Q:VK)(E:XK)(h:Dt KC.K vs H Q E):bC yX vs H Q E:=by obtain⟨a,ns,rfl,hS,hl,hQ⟩:=h;refine⟨H,[.eZ ns],λ_ _ z=>z,.cons (.eZ hS) .nil,?_⟩;rw[zwC ns hl];intro x H' R' _ hx;cases hx;exact hQ H'
def all_mk{l:W.OpenLaw}{w:World}{h:Heap}{mg:M2}{fa:Addr}(X:(KK w.params).In h)(G:h.Ns mainGlobals mg)(hfa:mg "law" = some θl) :
 ∃fd:FuncData,(∀(s:Shared) (v:Value),BindsTo s fd ⟨[v],[]⟩ [("_law_script",v)])/\∀base:Heap,(KK w.params).In base->base.Ns mainGlobals mg->bB l.prog w ιl mg base jt 55 fa fd ["_law_script"] (Dt ιl):=by
 letI:KC:=⟨KK w.params,PK⟩
 have mg0:∀{n:Str} (_:W.nsIn ιl mainGlobals n=some none:=by kernel_rfl),mg n=none:=λz=>W.mg_none_of X G z;have uW:∀{n:Str}{v:Value} (_:W.nsIn ιl mainGlobals n=some δR:=by kernel_rfl),mg n=some v:=λz=>W.mg_of X G z;have cl:n9.all (λC=>Xf.rF KC.K θ (Xf.rE C) (Xf.uT C))=true:=by kernel_rfl
 have xc:∀C,n9.contains C=true->XC KC.K θ:=λC hc=>(Xf.mT cl hc).2.xc;have xV:=Xf.uV (K:=KK w.params) (D:=PK .PointError) (by kernel_rfl) (by kernel_rfl) (by kernel_rfl);obtain⟨pZ,kZ⟩:=Xf.mT cl (C:=.NoText) ξ;obtain⟨nI,k5⟩:=Xf.pY (K:=KK w.params) (x:= "__init__") (q:= "NoText.__init__") (st:=ζl) (a:=86) (cd:=85) (pm:=qz) (by kernel_rfl) (by kernel_rfl) (by kernel_rfl)
 have M:Nm mg:=by
  constructor
  all_goals try first|exact mg0|exact uW|exact Xf.uU (by kernel_rfl) xc|exact Xf.Ak (by kernel_rfl) xc|exact Xf.Aj (by kernel_rfl)
  .exact⟨307,uW⟩
  .exact⟨453,uW⟩
  .exact⟨309,uW⟩
  .exact⟨457,uW⟩
  .exact λP w2 base=>⟨⟨86,nI,Tz F.excBase_ValueError (by decide +kernel) (XB.of F.excBase_ValueError) pZ (by kernel_rfl) (by kernel_rfl),zpd k5 ⟨kZ.xc,by kernel_rfl,by show W.findIn _ _ _=_;kernel_rfl⟩ xV (uW),k5.binds (ps:=["self","row"]) λ_ _ _ _ _ _=>sN λ_ _=>rfl⟩,kZ⟩
  .exact by kernel_rfl
  .exact⟨_,(by kernel_rfl:KC.K.lookup 1=some (Hd.dO w.params [Hd.de "builtins" 162 (.ref 4),Hd.de "__main__" 163 (.ref 5)] 2)),rfl⟩
  .exact⟨by kernel_rfl,by kernel_rfl,by kernel_rfl,by kernel_rfl⟩
  .exact(by show W.findIn _ _ _=_;kernel_rfl)
 have T:eT mg:=⟨Xf.bG (a:=358) (cd:=357) (pm:=cP) X G,
  Xf.bG (a:=320) (cd:=319) (pm:=cP) X G,
  Xf.bG (a:=363) (cd:=362) (pm:=cP) X G,
  Xf.bG (a:=368) (cd:=367) (pm:=cP) X G,
  Xf.bG (a:=334) (cd:=333) (pm:=cP) X G,
  Xf.bG (a:=327) (cd:=326) (pm:=cP) X G,
  Xf.bG (a:=341) (cd:=340) (pm:=cP) X G,
  Xf.bG (a:=375) (cd:=374) (pm:=cP) X G,
  Xf.Am (a:=151) (cd:=150) (pm:=nH),
  Xf.bG (a:=110) (cd:=109) (pm:=nH) X G,
  Xf.bG (a:=235) (cd:=234) (pm:=pm4) X G,
  Xf.bG (a:=240) (cd:=239) (pm:=pm4) X G,
  Xf.bG (a:=247) (cd:=246) (pm:=pm4) X G,
  Xf.bG (a:=275) (cd:=274) (pm:=pm4) X G,
  Xf.bG (a:=129) (cd:=128) (pm:=nH) X G,
  Xf.bG (a:=117) (cd:=116) (pm:=nH) X G,
  Xf.bG (a:=124) (cd:=123) (pm:=nH) X G,
  ⟨144,(.ref 137),.none,.none,nH,.ref 143,.none,.type "function",none,none, #[],by kernel_rfl,by kernel_rfl,⟨by kernel_rfl,by kernel_rfl,by kernel_rfl,by kernel_rfl⟩,(λs us X hl=>by rcases us with _|⟨a,_|⟨b,_|_⟩⟩<;>simp at hl;exact W.kp_binds X λS=>by kernel_rfl),(λs us X hl=>by rcases us with _|⟨a,_|_⟩<;>simp at hl;exact W.kp_binds X λS=>by kernel_rfl),(λs a us X hl=>by rcases us with _|⟨b,_|_⟩<;>simp at hl;exact W.kp_binds X λS=>by kernel_rfl)⟩,
  Xf.bG (a:=282) (cd:=281) (pm:=pm4) X G,
  Xf.bG (a:=287) (cd:=286) (pm:=pm4) X G,
  Xf.bG (a:=254) (cd:=253) (pm:=pm4) X G,
  Xf.bG (a:=261) (cd:=260) (pm:=pm4) X G,
  Xf.bG (a:=268) (cd:=267) (pm:=pm4) X G,
  Xf.bG (a:=382) (cd:=381) (pm:=cP) X G,
  Xf.bG (a:=387) (cd:=386) (pm:=cP) X G,
  Xf.bG (a:=294) (cd:=293) (pm:=cP) X G,
  Xf.bG (a:=346) (cd:=345) (pm:=cP) X G,
  Xf.bG (a:=351) (cd:=350) (pm:=cP) X G,
  Xf.bG (a:=301) (cd:=300) (pm:=cP) X G,
  Xf.bG (a:=308) (cd:=307) (pm:=cP) X G,
  Xf.bG (a:=315) (cd:=314) (pm:=cP) X G,
  Xf.bG (a:=392) (cd:=391) (pm:=cP) X G⟩
 obtain⟨d,U⟩:=Xf.pY (K:=KK w.params) (x:= "law") (q:= "law") (st:=tj) (a:=392) (cd:=391) (pm:=cP) (by kernel_rfl) (by kernel_rfl) (by kernel_rfl);have e:mg "law" = some (.ref 392):=uW (by kernel_rfl);rw[hfa]at e;cases e;refine⟨d,λs v=>?_,λbase _ _=>(zwg T M U).imp λvs H Q E q=>zsD vs H Q E q⟩;obtain⟨oc,od,kV,doc,pm,an,cdv,ct,osl,e,_,_⟩:=U.ex;rw[e];exact .of_eq rfl
end dW
namespace dW
open PySem L2 Ex
def walk{l:W.OpenLaw}{q:Program}{loose:v6}{XP:(M2)->Heap->Prop}{YP:World->Heap->Prop}{d:DefRec}{K:Params->zze}(hn:l.most=some 63)(hdf:d.params.defaults=[])
 (hY:∀(w:World) (h:Heap),YP w h->(K w.params).In h)
 (F:∀(w:World) (mg:M2) (fa:Addr) (h:Heap),(K w.params).In h->h.Ns mainGlobals mg->mg d.name=some θl ->
  ∃fd:FuncData,(∀(s:Shared) (u:Value),BindsTo s fd ⟨[u],[]⟩ [("_law_script",u)])/\∀base:Heap,(K w.params).In base->base.Ns mainGlobals mg->bB l.prog w θi mg base jt 55 fa fd ["_law_script"] (Dt θi)) :
 W.WalkO q loose XP YP l.row.toRowW d [] (λf vs=>PySem.call f vs):=
 L2.qJ (n:=63) (k:=55) (x:= "_law_script") (CX:=λ_=>jt) (sp:=λw=>Dt θi) hn ξ hdf ⟨rfl,ξ,ξ,rfl⟩ hY F (λ_ _ a ns hl _ hS=>⟨a,ns,rfl,hS,hl,λ_=>rfl⟩) λ_ _ _ _ _ z=>z
end dW
open PySem PySem.W PyProof.Rows
set_option maxRecDepth 100000 in
set_option maxHeartbeats 0 in
theorem PySem.Challenge.cw_thirdpoint_k58_texts_of_none_holds : PySem.Challenge.rw_thirdpoint_k58_texts_of_none.Holds := by
 refine holds_law (by kernel_rfl) λsaid=>?_;refine PySem.W.holds_open (q:=view PySem.Challenge.pw_thirdpoint_k58_texts_of_none dW.jk) (Yf:=Hook.obs δV) (Ya:=Hook.val δV) (YP:=Hook.says δV) dW.left (Hook.of δV) (Hook.keeps δV) (λs e=>xl_of s (Bool.and_eq_true_iff.mp e).1) XL.keeps (by rfl) (by rfl) (by rfl) (λs e=>recFacts_of (Bool.and_eq_true_iff.mp e).2) (by rfl) (by kernel_rfl) (by kernel_rfl) ⟨rfl,rfl,rfl,rfl,rfl,by kernel_rfl⟩ ?hw ?hc
 case hw=>exact⟨[.list []],by kernel_rfl,by kernel_rfl⟩
 case hc=>exact dW.walk (l:=PySem.Challenge.rw_thirdpoint_k58_texts_of_none) rfl rfl (λw h Y=>PySem.W.kIn_of Y) λw mg fa h KX G hmg=>dW.all_mk KX G hmg
