import PyProof.Rows.All
import Wide.All
import OpenK.AllK
import PySem.Challenge.RW_stirround_k43_loops_refused
set_option genSizeOf false
set_option linter.all false
set_option compiler.extract_closed false
set_option bootstrap.genMatcherCode false
noncomputable section
def dP:=@PySem.wpAny_bind
def nW:=@PySem.wpAny_pure
def nr:=@if_neg
def oM:=@if_pos
def oW:=@decide_eq_true
def pQ:=@of_decide_eq_true
def rG:=@PySem.wpAny_holding
def rX:=@PySem.wpAny_setState_of
def sE:=@PySem.wpAny_mono
def sX:=@decide_eq_false
def sg:=@congrArg
def t6:=@decide_eq_true_eq
def t8:=@PySem.wpAny_newObj_type
def u9:=@PySem.wpAny_askSetting
def uT:=@PySem.wpAny_call_entry
def vD:=@PySem.wpAny_callSpecial?_slot
def w8:=@PySem.wpAny_of_eq
def wD:=@PySem.wpAny_truthy_bool
def wF:=@PySem.wpAny_Call_Name_kw
def x6:=@PySem.wpAny_storeSet_of
def xO:=@PySem.fits_of_scanBound
def xU:=@PySem.wpAny_setEntries_of
def xv:=@PySem.wpAny_setField
def yC:=@PySem.isSubtype_type
def yJ:=@PySem.codeAny_builtin
def yN:=@beq_self_eq_true
def ya:=@PySem.tupleKind_room_in1
def yc:=@PySem.wpAny_passesOwn
def yp:=@or_false
def zZ:=@PySem.wpAny_typeOf
def zf:=@PySem.wpAny_setEpoch_of
def zi:=@PySem.wpAny_isInstance
def zt:=@PySem.wpAny_field
def ZA1:=@PySem.sizeLine_eq
def ZA8:=@PySem.wpAny_rule
def ZAD:=@PySem.codeAny_mono
def ZAE:=@decide_eq_true_iff
def ZAF:=@PySem.wpAny_attempt
def ZAI:=@PySem.wpAny_loadPart_at
def ZAJ:=@PySem.wpAny_call
def ZAM:=@beq_iff_eq
def ZAR:=@PySem.lookup_relabel_local
def ZAT:=@PySem.codeAny_call_builtin
def ZAU:=@PySem.wpAny_standAt
def ZAa:=@PySem.wpAny_specialOf
def ZAg:=@PySem.wpAny_execs_nil
def ZAj:=@decide_eq_false_iff_not
def ZAk:=@PySem.wpAny_pyIter_list
def ZAo:=@PySem.builtinLookup_eq_fast
def ZAv:=@PySem.wpAny_fieldsOf
def ZAw:=@PySem.wpAny_sequenceKey
def ZB0:=@PySem.wpAny_newList
def ZB2:=@PySem.plainId_quiet
def ZB9:=@PySem.noFill_tuple_add
def ZBJ:=@PySem.wpAny_load
def ZBN:=@PySem.wpAny_updateSeq
def ZBO:=@PySem.wpAny_ret_mkInt
def ZBR:=@PySem.typeLookup_type
def ZBU:=@PySem.codeAny_of_tree
def ZBZ:=@PySem.wpAny_alloc
def ZBb:=@PySem.wpAny_runValue
def ZBf:=@PySem.wpAny_listPart
def ZBh:=@PySem.entryFor_alias
def ZBr:=@if_false
def ZBw:=@if_true
def AG:=@List.length_map
def AY:=@PySem.Heap.lt_size
def Aa:=@Nat.le_refl
def Ah:=@List.getElem?_map
def Ai:=@PySem.W.mg_of
def Ao:=@PySem.Heap.get?_push_of_some
def Au:=@List.getElem?_eq_getElem
def Az:=@Ne.symm
def B1:=@List.mem_cons_self
def B7:=@Nat.ne_of_lt
def BF:=@List.not_mem_nil
def BG:=@Option.some.inj
def BI:=@List.length_append
def BJ:=@List.length_cons
def BM:=@List.mem_cons_of_mem
def BQ:=@PySem.Heap.get?_push_size
def Be:=@Nat.le_trans
def Bm:=@List.append_assoc
def Bn:=@List.size_toArray
def Bv:=@List.getElem?_set_ne
def C1:=@List.mem_append_right
def C7:=@Bool.and_eq_true
def C8:=@List.mem_of_getElem?
def CI:=@Nat.lt_of_lt_of_le
def CJ:=@Nat.zero_le
def Ca:=@List.getElem?_set_self
def Cj:=@Array.length_toList
def Cv:=@Bool.false_ne_true
def D4:=@List.map_cons
def DN:=@List.mem_append_left
def DU:=@List.getElem?_append_left
def Du:=@PySem.Heap.size_push
def Dv:=@List.map_append
def Dw:=@Nat.le_succ
def E9:=@Nat.ne_of_gt
def Eb:=@List.all_eq_true
def Ec:=@List.mem_cons
def Ep:=@List.length_range
def FJ:=@List.map_map
def Fe:=@PySem.Heap.get?_update_other
def Ff:=@List.getElem?_append_right
def Fg:=@List.length_take
def Fh:=@List.nodup_append
def Fi:=@PySem.PassesOwn.never
def GD:=@List.length_set
def GF:=@PySem.W.mg_none_of
def Gv:=@List.append_nil
def Gw:=@List.take_length
def Gx:=@Nat.lt_of_le_of_lt
def Hf:=@PySem.Heap.SameBut.update
def Hg:=@PySem.Heap.get?_update_self
def Hh:=@Nat.lt_succ_of_lt
def Hi:=@PySem.W.kia_one
def IK:=@Array.getElem?_eq_getElem
def IL:=@List.Perm.refl
def IM:=@List.length_drop
def IP:=@List.lookup_cons
def IQ:=@List.mem_singleton
def IS:=@PySem.Obj.data_mapFields
def IT:=@PySem.mem_of_lookup
def JF:=@Nat.le_of_lt
def KI:=@Bool.eq_iff_iff
def KJ:=@Int.emod_lt_of_pos
def KL:=@Int.emod_nonneg
def KN:=@List.getElem_mem
def KO:=@List.mem_append
def KP:=@Nat.succ.inj
def Lj:=@Bool.and_false
def Lk:=@Int.toNat_natCast
def Ll:=@List.nodup_nil
def Lm:=@Nat.lt_irrefl
def Ln:=@Option.map_some
def Lq:=@PySem.Value.isStrOf_shape
def NH:=@PySem.Heap.SameBut.refl
def NI:=@List.any_cons
def NJ:=@List.any_eq_true
def NL:=@List.getD_eq_getElem?_getD
def NM:=@List.length_erase_of_mem
def NN:=@List.take_of_length_le
def NO:=@Nat.lt_succ_self
def NP:=@Nat.zero_add
def NQ:=@PySem.F.plainAttrs_list
def Pe:=@PySem.Heap.get?_none_of_le
def Ph:=@List.all_cons
def Pj:=@List.find?_cons
def Pk:=@List.length_nil
def Pl:=@List.take_succ_eq_append_getElem
def Pm:=@Nat.le_add_right
def Pn:=@Nat.le_of_lt_succ
def Po:=@Nat.not_lt_of_le
def Pp:=@PySem.Obj.isFreed_of_fields
def Pq:=@Option.some.injEq
def Pr:=@PySem.Paired.length
def Pt:=@Prod.ext
def TR:=@PySem.Around.under_plainId
def TU:=@Array.getElem?_toList
def TV:=@Bool.false_and
def TX:=@PySem.Heap.size_after_update
def TY:=@Int.eq_ofNat_of_zero_le
def TZ:=@List.drop_eq_getElem_cons
def Ta:=@List.filterMap_cons
def Tc:=@List.foldl_cons
def Td:=@List.getElem?_eq_none
def Te:=@List.mem_erase_of_ne
def Tf:=@List.mem_range
def Tg:=@List.set_cons_succ
def Th:=@List.set_set
def Ti:=@Nat.le_total
def Tj:=@Nat.lt_trans
def Tn:=@Nat.min_eq_left
def To:=@Nat.min_eq_right
def Tp:=@Option.bind_some
def ZH:=@PySem.Around.in1_handled
def ZI:=@Array.getElem?_eq_none
def ZJ:=@Array.size_map
def ZK:=@Bool.false_or
def ZL:=@PySem.Code.quiet_builtin
def ZM:=@List.cons_append
def ZN:=@List.cons_lt_cons_iff
def ZO:=@List.drop_length
def ZP:=@List.ext_getElem
def ZQ:=@List.ext_getElem?
def ZR:=@List.forIn_nil
def ZS:=@List.getElem?_range
def ZT:=@List.length_pos_of_mem
def ZU:=@List.length_singleton
def ZV:=@List.map_nil
def ZW:=@List.mem_filter
def ZX:=@List.mem_of_mem_take
def ZY:=@List.pairwise_map
def ZZ:=@List.take_append_drop
def Za:=@List.zip_cons_cons
def Zb:=@Nat.le_of_eq
def Zc:=@Nat.le_of_not_lt
def Zd:=@Nat.mod_lt
def Ze:=@Nat.not_lt_zero
def Zf:=@Nat.sub_self
def Zh:=@PySem.Obj.cls_mapFields
def Zj:=@Option.isSome_map
def Zk:=@PyProof.Rows.callWith_type1
def Zl:=@PyProof.Rows.slot_tuple_getitem
def Zm:=@PySem.F.slot_list_append
def Zn:=@PySem.F.type_list_append
def Zo:=@PySem.W.any_some
def la:=@Array.getD_eq_getD_getElem?
def lb:=@Array.toList_append
def lg:=@Bool.and_true
def lh:=@Bool.or_false
def lq:=@Bool.true_and
def lr:=@PySem.Calls.evalArgs_plain
def lu:=@Classical.byContradiction
def lx:=@PySem.Heap.get?_update_ne
def ly:=@PySem.Heap.size_update
def m6:=@Int.toNat_of_nonneg
def m7:=@List.Pairwise.sublist
def m8:=@List.drop_zero
def m9:=@List.filter_cons_of_neg
def mB:=@List.filter_cons_of_pos
def mC:=@List.forIn_cons
def mD:=@List.getElem?_replicate
def mE:=@List.length_replicate
def mF:=@List.map_congr_left
def mG:=@List.map_id
def mH:=@List.map_set
def mI:=@List.mem_of_mem_drop
def mJ:=@List.nil_append
def mK:=@List.of_mem_zip
def mL:=@List.set_cons_zero
def mM:=@PySem.MeetsSeq2.wpAny_forIn_array
def mO:=@Nat.le_succ_of_le
def mP:=@Nat.lt_trichotomy
def mQ:=@Nat.sub_zero
def mR:=@Nat.succ_pos
def mS:=@PyProof.Rows.F.plain_set_update_loop
def mT:=@PySem.F.args_tuple_add_2
def mU:=@PySem.F.entry_tuple_add
def mV:=@PySem.F.excBase_ValueError
def mW:=@PySem.F.slot_tuple_add
def mX:=@PySem.W.callWith_K
def mY:=@PySem.W.looks_findIn
def ma:=@PySem.strKind_is
def ZGL:=@Array.eq_empty_of_size_eq_zero
def ZGM:=@Array.find?_toList
def ZGN:=@Array.forIn_toList
def ZGO:=@Array.toList_extract
def ZGP:=@Array.toList_filterMap
def ZGQ:=@Array.toList_push
def ZGR:=@Bool.eq_false_iff
def ZGS:=@PySem.Calls.Name_function_global
def ZGT:=@PySem.Calls.callWith_builtin
def ZGU:=@PySem.Calls.call_function_entry
def ZGV:=@Int.lt_of_le_of_lt
def ZGW:=@List.Pairwise.imp
def ZGX:=@List.contains_cons
def ZGY:=@List.countP_cons
def ZGZ:=@List.filterMap_append
def ZGa:=@List.filterMap_cons_some
def ZGb:=@List.filterMap_map
def ZGc:=@List.flatten_append
def ZGd:=@List.flatten_cons
def ZGe:=@List.foldl_append
def ZGf:=@List.getElem?_toArray
def ZGg:=@List.getElem?_zipWith
def ZGh:=@List.getElem_drop
def ZGi:=@List.getElem_idxOf
def ZGj:=@List.getElem_inj
def ZGk:=@List.length_eraseIdx_of_lt
def ZGl:=@List.length_filter_le
def ZGm:=@List.map_inj_right
def ZGn:=@List.mem_filterMap
def ZGp:=@List.pairwise_lt_range
def ZGq:=@List.perm_middle
def ZGr:=@List.replicate_succ
def ZGs:=@List.set_append_right
def ZGt:=@List.sublist_append_left
def ZGu:=@List.take_sublist
def ZGv:=@List.toList_toArray
def ZGw:=@List.zip_nil_right
def ZGx:=@Nat.eq_zero_or_pos
def ZGy:=@Nat.lt_or_eq_of_le
def ZGz:=@Nat.min_le_right
def ZH0:=@Nat.succ_le_succ
def ZH1:=@Option.getD_some
def ZH2:=@Option.isSome_some
def ZH3:=@PyProof.Rows.F.entry_set_update_loop
def ZH4:=@PySem.F.plain_set_new
def ZH5:=@PySem.F.slot_list_index
def ZH6:=@PySem.F.slot_list_insert
def ZH7:=@PySem.W.cellsFrom_some
def ZH8:=@PySem.W.codeHd_of_K
def ZH9:=@PySem.W.handedOut_of
def ZHA:=@PySem.W.kitx_dict
def ZHB:=@PySem.W.kitx_list
def ZHC:=@PySem.W.looks_clsIn
def ZHD:=@PySem.W.looks_find
def ZHE:=@PySem.W.looks_mroIn
def ZHF:=@PySem.SeqAt.RcNeAt.lists_lengths
open PySem PySem.Spec PyProof.Rows
abbrev ZHy:=PySem.W.Frag
abbrev ZHz:=(List (Addr×Obj))
abbrev ZI0:=(Str->Option Value)
namespace PySem.W.Fast
def t:=Nat
def tw8236664662502829371:=t
def tw13748154686189962543:=t
def tw3071700167785642145:=t
def tw13803198553674618009:=t
def tw4144531630676288117:=t
def tw7501619390710696358:=t
def tw17804494943347783004:=t
def tw5603097649939198539:=t
def tw16487488859913653189:=t
def tw11098825436654143236:=t
def tw9257887112165765605:=t
def tw3297700235854652996:=t
def tw883194043158959900:=t
def tw1445440243208106649:=t
def tw11944954396059115198:=t
def tw4384559926484843954:=t
def tw14489551250670766320:=t
def tw6998060880063890936:=t
def tw14172152719181160966:=t
def tw7193967996220469809:=t
def tw7066826789559135899:=t
def tw15313202889280851614:=t
def tw2063703995068996225:=t
def tw144963125198461089:=t
def tw9275621469158996344:=t
def tw12540047419606717429:=t
def tw582464000163353462:=t
def tw11522476463562752734:=t
def tw15449773424790467603:=t
def tw1981785726906264864:=t
def tw8803903639789045850:=t
def tw4548204259637283906:=t
def tw12672988132243195929:=t
def tw11323026111944313918:=t
def tw17428914700766951296:=t
def tw10651015000181987592:=t
def tw8014457836523192268:=t
def tw1112428110862244310:=t
def tw16020630935010285636:=t
def tw1376668355849277708:=t
def tw1369090688384143599:=t
def tw15483919947684687534:=t
def tw3751508085877149667:=t
def tw7330764758348200286:=t
def tw2186344846391437867:=t
def tw5089739547755081824:=t
def tw8982415808857844562:=t
def tw16023483983621541590:=t
def tw10626577264092070517:=t
def tw15989474620016047177:=t
def tw6470124396535774058:=t
def tw16181516708897120773:=t
def tw12092000137641573035:=t
def tw17937790211903732594:=t
def tw14658450670541176927:=t
def tw14399863445785979564:=t
def tw2815438989378933060:=t
def tw3645190252676166111:=t
def tw9899445005686412589:=t
def tw3965896933453914620:=t
def tw5766227297991162739:=t
def tw1169448501221149163:=t
def tw7518246893612571918:=t
def tw8270797447321128679:=t
def tw9552670088633067420:=t
def tw5467635528340475540:=t
def tw13754532114385709176:=t
def tw2332361137051301989:=t
def tw2203997414037475049:=t
def tw17496197321558475172:=t
def tw16233695309778784908:=t
def tw18222976782852376706:=t
def tw13276223562938134400:=t
def tw5284274462490548572:=t
def tw3724059243385579379:=t
def tw15307045549603180019:=t
def tw11434940640478058534:=t
def tw7119245141940845599:=t
def tw10124993432850218754:=t
def tw4230839974661836366:=t
def tw1912469613140477460:=t
def tw13491051260814501573:=t
def tw8508140354791450188:=t
def tw14660418862503923689:=t
def tw2990053518313083484:=t
def tw5713049752906878473:=t
def tw8275239048582064518:=t
def tw13508854172897304608:=t
def tw1571367450796318705:=t
def tw9892388178798302402:=t
def tw14405724737611175262:=t
def tw14106444951644568542:=t
def tw339025390894739645:=t
def tw5682099375645017580:=t
def tw16234195384953897473:=t
def tw7697153904551087764:=t
def tw11911901887025205201:=t
def tw13813087326389330153:=t
def tw1155253437178795646:=t
def tw17888210791992798508:=t
def tw8703984638498256169:=t
def tw13868785880148332011:=t
def tw5120564132936896831:=t
def tw13759799262703071834:=t
def tw1739516405693330778:=t
def tw14125632531409177741:=t
def tw11427108744229048767:=t
def tw8379916552707987779:=t
def tw12692881962186856472:=t
def tw4186034584057841407:=t
def tw13637298914711432063:=t
def tw3153500005853074898:=t
def tw18214874471048186944:=t
def tw2958345874943388736:=t
def tw7131994120550152758:=t
def tw15257428550663815162:=t
def tw16606494349572807767:=t
def tw9962863757890166498:=t
def tw12432773505115360463:=t
def tw3187953937614458654:=t
def tw17508132869347775869:=t
def tw9298025417424517950:=t
def tw15813745121791449656:=t
def tw723240942228331371:=t
def tw8512580171623419762:=t
def tw7420406239800788639:=t
def tw16639306596703417102:=t
def tw11191871289843659567:=t
def tw5592833514704656703:=t
def tw6581938293885489817:=t
def tw17562141022613556845:=t
def tw13924345082582019525:=t
def tw5140655841999668164:=t
def tw5091271206243143188:=t
def tw16544603723662382821:=t
def tw15825952409866733248:=t
def tw10341563423792710213:=t
def tw7215808181532441129:=t
def tw9079466571111217656:=t
def tw13873437557526767356:=t
def tw8514900011356720712:=t
def tw4595948814070472445:=t
def tw4443839488182623242:=t
def tw1996707359004191670:=t
def tw14762647852248689761:=t
def tw13448592507979255492:=t
def tw14249057549962342109:=t
def tw593777000619554788:=t
def tw9581325936406610225:=t
def tw11977509041974437017:=t
def tw12746147597635337877:=t
def tw18024235798972464537:=t
def tw6687172346586789757:=t
def tw13620788090106124190:=t
def tw9313506063218272408:=t
def tw10934677446804921076:=t
def tw11120928149597082657:=t
def tw17826088340781076636:=t
def tw13839282141688032603:=t
end PySem.W.Fast
set_option Elab.async false
set_option maxRecDepth 100000
namespace L2
variable{α κ:Type}{C a b dx it:Addr}{c cd u:Value}{w:World}{Yd h h':Heap}{name qual x:Str}{e tg:Expr}{eJ ZB:ZHz}{s s':Shared}{g':Array GenState}{i j n t' tk:Nat}{d':Drawn}{ch fp:List Addr}{N ks ps:List Str}{M:Model}{A:Around}{E Q:Value->Shared->Prop}{es rest:List Expr}{ZHq pos:Pos}{op:CmpOp}{f:Value->Value->Sem Value}{ds us:List Value}{mA mg:ZI0}{prog:Program}{kw:List (Str×Value)}{fd:FuncData}{outer:List Env}{sc scope:Scope}
abbrev Key:=Sum Int Str
noncomputable def MJ:Key->Value->Bool
 | .inl k,v=>Value.isInt k v
 | .inr x,v=>Value.isStrOf x v
noncomputable def yW(w:World):Key->Int
 | .inl k=>hashInt k
 | .inr x=>hashStr w x
theorem IV:∀{k:Key}{v:Value},MJ k v=true->(∃i t,k=Sum.inl i/\v=Value.int i t)∨(∃x t,k=Sum.inr x/\v=Value.str x t)
 | .inl i,v,h=>by
  obtain⟨t,e⟩:=Value.isInt_shape (k:=i) (v:=v) h;exact .inl ⟨i,t,rfl,e⟩
 | .inr x,v,h=>by
  obtain⟨t,e⟩:=Lq (x:=x) (v:=v) h;exact .inr ⟨x,t,rfl,e⟩
theorem oR(i:Int)(t:Tok):MJ (.inl i) (.int i t)=true:=by simp[MJ,Value.isInt]
theorem wq(x:Str)(t:Tok):MJ (.inr x) (.str x t)=true:=by simp[MJ,Value.isStrOf]
theorem uW(a b:Int):decide ((Sum.inl a:Key)=Sum.inl b)=(a == b):=by
 by_cases e:a=b
 .subst e;simp
 .have h:¬ (Sum.inl a:Key)=Sum.inl b:=λq=>e (Sum.inl.inj q);rw[sX h];exact(beq_eq_false_iff_ne.mpr e).symm
theorem ZFs(a b:Str):decide ((Sum.inr a:Key)=Sum.inr b)=decide (a=b):=by
 by_cases e:a=b
 .subst e;simp
 .have h:¬ (Sum.inr a:Key)=Sum.inr b:=λq=>e (Sum.inr.inj q);rw[sX h,sX e]
theorem ph(a:Int)(b:Str):decide ((Sum.inl a:Key)=Sum.inr b)=false:=sX (λq=>nomatch q)
theorem tN(a:Str)(b:Int):decide ((Sum.inr a:Key)=Sum.inl b)=false:=sX (λq=>nomatch q)
def G5(prog:Program)(w:World):PySem.KeyKind prog w Key where
 is:=MJ
 hash:=yW w
 inj:=λv a b g d=>by
  rcases IV g with⟨i,t,rfl,rfl⟩|⟨x,t,rfl,rfl⟩
  .rcases IV d with⟨j,u,rfl,e⟩|⟨y,u,rfl,e⟩
   .injection e with e1 _;rw[e1]
   .exact nomatch e
  .rcases IV d with⟨j,u,rfl,e⟩|⟨y,u,rfl,e⟩
   .exact nomatch e
   .injection e with e1 _;rw[e1]
 byValue:=λk v h=>by
  rcases IV h with⟨i,t,rfl,rfl⟩|⟨x,t,rfl,rfl⟩ <;> rfl
 pyHash:=λc h=>by
  rcases IV c with⟨i,t,rfl,rfl⟩|⟨x,t,rfl,rfl⟩
  .exact wpAny_pyHash_int h
  .exact wpAny_pyHash_str h
 eqBool:=λf c h=>by
  rcases IV f with⟨i,t,rfl,rfl⟩|⟨x,t,rfl,rfl⟩
  .rcases IV c with⟨j,u,rfl,rfl⟩|⟨y,u,rfl,rfl⟩
   .rw[uW]at h;exact wpAny_eqBool_int h
   .rw[ph]at h;exact SeqAt.EqAt.int_str i t y u _ _ _ _ h
  .rcases IV c with⟨j,u,rfl,rfl⟩|⟨y,u,rfl,rfl⟩
   .rw[tN]at h;exact SeqAt.EqAt.str_int x t j u _ _ _ _ h
   .rw[ZFs]at h;exact wpAny_eqBool_str h
 «strs»:=λk x t v h=>by
  rcases IV h with⟨i,u,rfl,e⟩|⟨y,u,rfl,e⟩
  .exact nomatch e
  .injection e with e1 _
   subst e1;cases v <;> rfl
theorem wo(prog:Program)(w:World)(i:Int)(t:Tok):(G5 prog w).is (.inl i) (.int i t)=true:=oR i t
theorem ZAY(prog:Program)(w:World)(x:Str)(t:Tok):(G5 prog w).is (.inr x) (.str x t)=true:=wq x t
inductive V where
 |A8|bl (b:Bool)|int (i:Int)|str (x:Str)|Gs (b:Array UInt8)|K3 (b:UInt64)|ref (a:Addr)|ty (n:String)
 deriving DecidableEq
variable{v:V}{JL vs:List V}
def RelV:V->Value->Prop
 | .A8,u=>u=Value.none
 | .bl b,u=>u=Value.bool b
 | .int i,u=>∃t,u=Value.int i t
 | .str x,u=>∃t,u=Value.str x t
 | .Gs b,u=>∃t,u=Value.bytes b t
 | .K3 b,u=>∃t,u=Value.float b t
 | .ref a,u=>u=Value.ref a
 | .ty n,u=>u=Value.type n
abbrev Vals:List V->List Value->Prop:=Paired RelV
theorem Vals.length{xs:List V}{us:List Value}(r:Vals xs us):xs.length=us.length:=Pr r
theorem Vals.get:∀{xs:List V}{us:List Value}{i:Nat}{x:V},Vals xs us->xs[i]?=some x->∃u,us[i]?=some u/\RelV x u
 |_,_,_,_,.nil,e=>by simp at e
 |_,_,0,_,.cons r _,e=>by simp at e;subst e;exact⟨_,rfl,r⟩
 |_,_,i+1,x,.cons _ t,e=>by
  obtain⟨u,h1,h2⟩:=Vals.get (i:=i) (x:=x) t (by simpa using e)
  exact⟨u,by simpa using h1,h2⟩
theorem Vals.set{x:V}{u:Value}(r:RelV x u):∀{xs:List V}{us:List Value}(i:Nat),Vals xs us->Vals (xs.set i x) (us.set i u)
 |_,_,_,.nil=>.nil
 |_,_,0,.cons _ t=>.cons r t
 |_,_,i+1,.cons q t=>.cons q (Vals.set r i t)
theorem Vals.append:∀{xs ys:List V}{us ws:List Value},Vals xs us->Vals ys ws->Vals (xs++ys) (us++ws)
 |_,_,_,_,.nil,s=>s
 |_,_,_,_,.cons r t,s=>.cons r (Vals.append t s)
theorem Vals.take:∀{xs:List V}{us:List Value}(n:Nat),Vals xs us->Vals (xs.take n) (us.take n)
 |_,_,0,_=>.nil
 |_,_,_+1,.nil=>.nil
 |_,_,n+1,.cons r t=>.cons r (Vals.take n t)
theorem Vals.drop:∀{xs:List V}{us:List Value}(n:Nat),Vals xs us->Vals (xs.drop n) (us.drop n)
 |_,_,0,r=>r
 |_,_,_+1,.nil=>.nil
 |_,_,n+1,.cons _ t=>Vals.drop n t
def EF:Option V->Option Value->Prop
 |some v,some u=>RelV v u
 |none,none=>True
 |_,_=>False
def KV:List (κ×V)->List (κ×Value)->Prop:=Paired λ(p:κ×V)(q:κ×Value)=>p.1=q.1/\RelV p.2 q.2
noncomputable def kV:Key->V
 | .inl i=>.int i
 | .inr x=>.str x
inductive Tb where
 |tab (pos:Pos) (q:Str)
 |Hj (q:Str)
inductive HO where
 /-- a list -/
 |lst (xs:List V)
 /-- a tuple (never changes) -/
 |tup (xs:List V)
 /-- a dict ZDi keys are ints and texts;one ZDi keys are tuples of ints and texts (Jw empty one is both) -/
 |dK (A6:List (Key×V))|dT (A6:List (List Key×V))
 /-- a set of ints: A3 members,A3 size -/
 |set (S:Int->Bool) (n:Nat)
 /-- an instance of Jw class at C,A3 dict at dx,A3 attributes -/
 |ins (C dx:Addr) (fs:List (Str×V))
 /-- Jw dict of Jw instance at x -/
 |own (x:Addr)
 /-- Jw dict of an exception -/
 |xd (fs:List (Str×V))
 /-- a bound method,f of x -/
 |met (f x:Addr)
 /-- a range object lo,lo+1,.. below hi -/
 |Rt (lo hi:Int)
 /-- a nc ZHw is known to Jw object (Jw ZHL;a dict while a loop walks it): read,never written while it is so -/
 |Et (o:Obj) (u:HO)
 /-- a code ZHi table,a code in it -/
 |C3 (t:Tb)
 /-- any other nc,by vK is true of A3 one object (a def of ZHJ own: uw a S n:=HO.ext λh=>..) -/
 |ext (φ:Heap->Prop)
variable{o o':HO}
abbrev Hp:=Addr->Option HO
variable{H H':Hp}
inductive M3 where
 |tup (xs:List V)
 |C3 (t:Tb)
noncomputable def M3.ho:M3->HO
 | .tup xs=>.tup xs
 | .C3 t=>.C3 t
noncomputable def upd(H:Hp)(a:Addr)(o:HO):Hp:=λb=>if b=a then some o else H b
theorem AV:upd H a o a=some o:=by unfold upd;rw[oM rfl]
theorem AK(h:b≠a):upd H a o b=H b:=by unfold upd;rw[nr h]
theorem bu{u:HO}(h:H a=some o)(h':H b=some u)(d:o≠u):a≠b:=by
 intro e;subst e;rw[h]at h';exact d (BG h')
theorem DS(h:H a=some o)(h':H b=none):a≠b:=by
 intro e;subst e;rw[h]at h';cases h'
section
variable(P:Program)(w:World)
def BZ(H:Hp)(h:Heap)(a:Addr):HO->Prop
 | .lst xs=>xs.length<=sizeLine/\∃(A3:List Value)(n:Nat),Vals xs A3/\h.get? a=some { cls:=.type "list", data:=.seq A3.toArray n }
 | .tup xs=>xs.length<=sizeLine/\∃A3:List Value,Vals xs A3/\(IsTup h a A3.toArray/\∀ob,h.get? a=some ob->ob.dict=none)
 | .dK A6=>A6.length<=sizeLine/\(a == sysModules)=false/\∃vs,KV A6 vs/\h.DictOf (G5 P w) a vs
 | .dT A6=>A6.length<=sizeLine/\(a == sysModules)=false/\∃xs:List (List Key×Addr×Value),
   Paired (λ(p:List Key×V)(q:List Key×Addr×Value)=>p.1=q.1/\H q.2.1=some (.tup (p.1.map kV))/\RelV p.2 q.2.2) A6 xs/\
   ∃o es ep,h.get? a=some o/\o.ExactDict/\o.data=.dict es ep/\es.toList=xs.map (entryOfKey (tupleKind (G5 P w)))/\(xs.map (·.1)).Nodup
 | .set S n=>h.SetOf (intKind P w) a S n
 | .ins C dx fs=>H dx=some (.own a)/\fs.length<=1000/\dx≠a/\h.get? a=some (PySem.W.instObj C dx)/\
   ∃mA,h.Ns1 dx mA/\(∀f,EF (fs.lookup f) (mA f))/\PySem.Within mA (fs.map (·.1))
 | .own _=>∃o,h.get? a=some o
 | .xd fs=>∃mA,h.Ns1 a mA/\∀f,EF (fs.lookup f) (mA f)
 | .Rt lo hi=>∃t u v,h.get? a=some { cls:=.type "range", data:=.fields #[.int lo t,.int hi u,.int 1 v] }
 | .Et o u=>h.get? a=some o/\BZ H h a u
 | .C3 (.tab pos q)=>∃ps:Array Value,h.get? a=some { cls:=.none,data:=.fields ps }/\TriplesOk ps.toList/\∀cv,codeAmong pos ps.toList=some cv->∃c,cv=.ref c/\H c=some (.C3 (.Hj q))
 | .C3 (.Hj q)=>∃b vs t,h.get? a=some b/\b.data=.fields vs/\vs[1]?=some (.str q t)
 | .met f x=>h.get? a=some (PySem.W.methodObj (.ref f) (.ref x))
 | .ext φ=>φ h/\(∃o,h.get? a=some o)/\∀h1 h2:Heap,φ h1->(∀o,h1.get? a=some o->h2.get? a=some o)->φ h2
def BX(H:Hp)(h:Heap):Prop:=∀a o,H a=some o->BZ P w H h a o
end
section
variable{P:Program}
theorem BZ.lt(x:BZ P w H h a o):a<h.objs.size:=by
 cases o with
 |lst xs=>obtain⟨_,_,_,_,e⟩:=x;exact AY e
 |tup xs=>obtain⟨_,_,_,p⟩:=x;exact p.1.lt
 |dK A6=>obtain⟨_,_,_,_,o,_,_,e,_⟩:=x;exact AY e
 |dT A6=>obtain⟨_,_,_,_,o,_,_,e,_⟩:=x;exact AY e
 |set S n=>obtain⟨o,_,_,_,e,_⟩:=x;exact AY e
 |ins C dx fs=>obtain⟨_,_,_,e,_⟩:=x;exact AY e
 |own y=>obtain⟨_,e⟩:=x;exact AY e
 |xd fs=>obtain⟨_,⟨_,_,_,e,_⟩,_⟩:=x;exact AY e
 |Rt lo hi=>obtain⟨_,_,_,e⟩:=x;exact AY e
 |Et ob u=>obtain⟨e,_⟩:=x;exact AY e
 |C3 t=>
  cases t with
  |tab pos q=>obtain⟨_,e,_⟩:=x;exact AY e
  |Hj q=>obtain⟨_,_,_,e,_⟩:=x;exact AY e
 |met f y=>exact AY (show h.get? a=some _ from x)
 |ext φ=>obtain⟨_,⟨_,e⟩,_⟩:=x;exact AY e
theorem Paired.Q9{α β:Type}{F G:α->β->Prop}:∀{l₁:List α}{l₂:List β},Paired F l₁ l₂->(∀a b,F a b->G a b)->Paired G l₁ l₂
 |_,_,.nil,_=>.nil
 |_,_,.cons r t,f=>.cons (f _ _ r) (Paired.Q9 t f)
theorem BZ.EZ(x:BZ P w H h a o)(k:∀b u,(b=a∨H b=some (.own a))->h.get? b=some u->h'.get? b=some u)
  (ho:∀b,H b=some (.own a)->H' b=some (.own a)) (g:∀b(x:M3),H b=some x.ho->H' b=some x.ho):BZ P w H' h' a o:=by
 induction o with
 |lst xs=>obtain⟨z,A3,n,r,e⟩:=x;exact⟨z,A3,n,r,k _ _ (.inl rfl) e⟩
 |tup xs=>obtain⟨z,A3,r,⟨ob,e,c⟩,A⟩:=x;exact⟨z,A3,r,⟨ob,k _ _ (.inl rfl) e,c⟩,λQX i=>by rw[k _ _ (.inl rfl) e]at i;cases i;exact A _ e⟩
 |dK A6=>obtain⟨z,y,vs,r,ob,es,ep,e,c⟩:=x;exact⟨z,y,vs,r,ob,es,ep,k _ _ (.inl rfl) e,c⟩
 |dT A6=>
  obtain⟨z,y,xs,r,ob,es,ep,e,c⟩:=x;exact⟨z,y,xs,Paired.Q9 r λp q z=>⟨z.1,g _ (.tup _) z.2.1,z.2.2⟩,ob,es,ep,k _ _ (.inl rfl) e,c⟩
 |set S n=>obtain⟨ob,es,ep,t,e,c⟩:=x;exact⟨ob,es,ep,t,k _ _ (.inl rfl) e,c⟩
 |ins C dx fs=>
  obtain⟨d,z,ne,e,mA,⟨od,es,ep,s,c⟩,r⟩:=x;exact⟨ho _ d,z,ne,k _ _ (.inl rfl) e,mA,⟨od,es,ep,k _ _ (.inr d) s,c⟩,r⟩
 |own y=>obtain⟨ob,e⟩:=x;exact⟨ob,k _ _ (.inl rfl) e⟩
 |xd fs=>obtain⟨mA,⟨od,es,ep,e,c⟩,r⟩:=x;exact⟨mA,⟨od,es,ep,k _ _ (.inl rfl) e,c⟩,r⟩
 |Rt lo hi=>obtain⟨t,u,v,e⟩:=x;exact⟨t,u,v,k _ _ (.inl rfl) e⟩
 |Et ob u l=>obtain⟨e,q⟩:=x;exact⟨k _ _ (.inl rfl) e,l q⟩
 |C3 t=>
  cases t with
  |tab pos q=>obtain⟨ps,e,ok,c⟩:=x;exact⟨ps,k a _ (.inl rfl) e,ok,λcv z=>by obtain⟨b,y,m⟩:=c cv z;exact⟨b,y,g b (.C3 _) m⟩⟩
  |Hj q=>obtain⟨j,vs,t,e,c⟩:=x;exact⟨j,vs,t,k a _ (.inl rfl) e,c⟩
 |met f y=>
  have e:h.get? a=some (PySem.W.methodObj (.ref f) (.ref y)):=x;show h'.get? a=some (PySem.W.methodObj (.ref f) (.ref y));exact k a _ (.inl rfl) e
 |ext φ=>obtain⟨p,⟨o,e⟩,st⟩:=x;exact⟨st _ _ p λo q=>k _ _ (.inl rfl) q,⟨o,k _ _ (.inl rfl) e⟩,st⟩
theorem BX.lt(x:BX P w H h)(e:H a=some o):a<h.objs.size:=(x a o e).lt
theorem BX.fresh(x:BX P w H h)(e:h.objs.size<=a):H a=none:=by
 cases q:H a with
 |none=>rfl
 |some u=>exact absurd (CI (x.lt q) e) (Lm _)
theorem BX.kept(x:BX P w H h)(k:∀b u,h.get? b=some u->h'.get? b=some u):BX P w H h':=λa o e=>
 (x a o e).EZ (λb u _ q=>k b u q) (λ_ q=>q) λ_ _ q=>q
theorem BX.laid(x:BX P w H h)(k:∀b u,h.get? b=some u->h'.get? b=some u)(g:h.objs.size<=a)(new:BZ P w (upd H a o) h' a o):BX P w (upd H a o) h':=λb u e=>by
 have d:=x.fresh g
 by_cases f:b=a
 .subst f;rw[AV]at e;cases e;exact new
 .rw[AK f]at e;exact(x b u e).EZ (λc v _ q=>k c v q) (λc q=>by rw[AK (DS q d)];exact q) λc xs q=>by rw[AK (DS q d)];exact q
end
def Rd(H:Hp)(a:Addr)(u:HO):Prop:=H a=some u∨∃o,H a=some (.Et o u)
theorem Rd.ok{P:Program}{u:HO}(r:Rd H a u)(x:BX P w H h):BZ P w H h a u:=by
 rcases r with r|⟨o,r⟩
 .exact x a u r
 .obtain⟨_,q⟩:=x a _ r;exact q
def MP:Option HO->Prop
 |some (.lst _)=>True
 |some (.dK _)=>True
 |some (.dT _)=>True
 |some (.set _ _)=>True
 |some (.ins _ _ _)=>True
 |some (.ext _)=>True
 |_=>False
section
variable{P:Program}{x e:Addr}
theorem BX.write(ok:BX P w H h)(mu:MP (H x))(j:e=x∨H e=some (.own x))(k:∀b u,b≠e->h.get? b=some u->h'.get? b=some u)(Jb:∃u,h'.get? e=some u)
  (new:BZ P w (upd H x o') h' x o'):BX P w (upd H x o') h':=λb u q=>by
 have l:∀c y,H c=some (.own y)->c≠x:=λc y r z=>by subst z;rw[r]at mu;exact mu
 have g:∀c(xs:M3),H c=some xs.ho->c≠x:=λc xs r z=>by subst z;rw[r]at mu;cases xs <;> exact mu
 by_cases d:b=x
 .subst d;rw[AV]at q;cases q;exact new
 .rw[AK d]at q
  by_cases f:b=e
  .have i:H b=some (.own x):=by
    rcases j with z|z
    .exact absurd (f.trans z) d
    .rw[f];exact z
   rw[q]at i;cases i;obtain⟨v,m⟩:=Jb;exact⟨v,by rw[f];exact m⟩
  .refine(ok b u q).EZ (λc v a r=>k c v ?_ r) (λc r=>by rw[AK (l c b r)];exact r) λc xs r=>by rw[AK (g c xs r)];exact r
   rcases a with rfl|a
   .exact f
   .rintro rfl;rcases j with z|z
    .exact l c b a z
    .rw[a]at z;cases z;exact d rfl
end
structure Un (fs ex:List Addr) (H H':Hp) (h h':Heap):Prop where
 keep:∀b o,h.get? b=some o->H b=none->b∉fs->b∉ex->h'.get? b=some o
 slot:∀b o,h.get? b=some o->H b=none->b∈fs->b∉ex->∃sl,h'.get? b=some { o with slots:=sl }
 free:∀b o,h.get? b=some o->H b=none->b∉ex->H' b=none
 there:∀b o,h.get? b=some o->b∉ex->∃o',h'.get? b=some o'
 FX:∀b(x:M3),H b=some x.ho->H' b=some x.ho
 Fd:∀b o u,H b=some (.Et o u)->H' b=some (.Et o u)
section
variable{fs oF ex ex':List Addr}{H1 H2:Hp}{h1 h2:Heap}{x e:Addr}
theorem Un.any(u:Un fs ex H H1 h h1){ob:Obj}(q:h.get? b=some ob)(n:H b=none)(hx:b∉ex):∃sl,h1.get? b=some { ob with slots:=sl }:=by
 by_cases a:b∈fs
 .exact u.slot b ob q n a hx
 .exact⟨ob.slots,u.keep b ob q n a hx⟩
theorem Un.kept(k:∀b u,h.get? b=some u->h'.get? b=some u):Un fs ex H H h h':=
 ⟨λb ob q _ _ _=>k b ob q,λb ob q _ _ _=>⟨ob.slots,k b ob q⟩,λ_ _ _ n _=>n,λb ob q _=>⟨ob,k b ob q⟩,λ_ _ q=>q,λ_ _ _ q=>q⟩
theorem Un.refl:Un fs ex H H h h:=Un.kept λ_ _ q=>q
theorem Un.laid(k:∀b u,h.get? b=some u->h'.get? b=some u)(d:h.objs.size<=a)(c:H a=none):Un fs ex H (upd H a o) h h' where
 keep:=λb u q _ _ _=>k b u q
 slot:=λb u q _ _ _=>⟨u.slots,k b u q⟩
 free:=λb u q n _=>by rw[AK (B7 (CI (AY q) d))];exact n
 there:=λb u q _=>⟨u,k b u q⟩
 FX:=λb xs q=>by rw[AK (DS q c)];exact q
 Fd:=λb u xs q=>by rw[AK (DS q c)];exact q
theorem Un.write(mu:MP (H x))(f:e=x∨H e=some (.own x))(k:∀b u,b≠e->h.get? b=some u->h'.get? b=some u)(Jb:∃u,h'.get? e=some u):Un fs ex H (upd H x o) h h':=by
 have hx:∀b,H b=none->b≠x:=λb n z=>by subst z;rw[n]at mu;exact mu
 have c:∀b,H b=none->b≠e:=λb n z=>by
  subst z;rcases f with r|r
  .exact hx b n r
  .rw[n]at r;cases r
 have a:∀b u,H b=some u->¬ MP (some u)->b≠x:=λb u q nm z=>by subst z;rw[q]at mu;exact nm mu
 refine⟨λb u q n _ _=>k b u (c b n) q,λb u q n _ _=>⟨u.slots,k b u (c b n) q⟩,λb u q n _=>by rw[AK (hx b n)];exact n,λb u q _=>?_,
  λb xs q=>by rw[AK (a b _ q λz=>by cases xs <;> exact z)];exact q,λb u xs q=>by rw[AK (a b _ q λz=>z)];exact q⟩
 by_cases d:b=e
 .subst d;exact Jb
 .exact⟨u,k b u d q⟩
end
def Qb(h:Heap)(H:Hp):List Addr:=(List.range h.objs.size).filter λa=>(H a).isSome
def IH(h:Heap)(H:Hp):Heap:=PySem.W.hideAll h (Qb h H)
theorem tw(h:Heap)(H:Hp):(IH h H).objs.size=h.objs.size:=PySem.W.hideAll_size _ _
theorem ZFu{o:Obj}(e:h.get? b=some o)(n:H b=none):(IH h H).get? b=some o:=
 PySem.W.hideAll_get _ e λa=>by
  have q:(H b).isSome=true:=(List.mem_filter.mp a).2;rw[n]at q;simp at q
theorem ZE8{o:Obj}(e:(IH h H).get? b=some o):h.get? b=some o/\H b=none:=by
 have a:h.get? b=some o:=PySem.W.of_hideAll (Qb h H) e;refine⟨a,?_⟩;cases q:H b with
 |none=>rfl
 |some x=>
  have c:b∈Qb h H:=List.mem_filter.mpr ⟨List.mem_range.mpr (AY a),by simp[q]⟩;have z:(IH h H).get? b=none:=PySem.W.hideAll_none (Qb h H) c;rw[z]at e;cases e
structure Mod (K:ZHy) (mg:ZI0) (Yd:Heap):Prop where
 HE:K.In Yd
 glob:Yd.Ns mainGlobals mg
 blt:∃mb,Yd.Ns builtinsNs mb/\∀x:Str,x ≠"__name__" -> mb x=bootBuiltins x
 nolimit:Yd.NoLimit
structure Cx where
 prog:Program
 w:World
 K:ZHy
 mg:ZI0
 base:Heap
 A:Around
 N:List Str
 s₀:Shared
 H₀:Hp
 env:Env
 outer:List Env
 stack:List Env
 ex:List Addr
 fn:Str->Bool
 calm:Bool
 pn:ZHz
 xe:Value->Shared->Prop
variable{X:Cx}
noncomputable def CK(l:List Env):List Addr:=l.filterMap (·.frame)
abbrev Cx.fs(X:Cx):List Addr:=CK X.outer
abbrev Cy(X:Cx)(e:Expr)(es:List Expr):Prop:=starEach (e::es) X.env=(false,eval e X.env)::starEach es X.env
abbrev BEq(X:Cx)(pos:Pos)(es:List Expr):Prop:=(backTo pos (starEach es X.env)).any (·.1)=false
def R0(sc:Scope)(x:Str):Prop:=sc.names.lookup x=some .local∨sc.names.lookup x=some .cell∨sc.names.lookup x=some .free
def Loc(sc:Scope)(x:Str):Prop:=sc.names.lookup x=some .local∨sc.names.lookup x=some .cell
def Look(env:Env)(h:Heap)(m:ZI0)(x:Str)(u:Value):Prop:=
 (env.kindOf x=some .local/\m x=some u)∨((env.kindOf x=some .cell∨env.kindOf x=some .free)/\∃c,env.cells.lookup x=some c/\h.IsCell c (some u))
structure Cx.Ok (X:Cx):Prop where
 mod:Mod X.K X.mg X.base
 kind:X.env.scope.kind=.function
 glob:X.env.globals=mainGlobals
 blt:X.env.builtins=builtinsNs
 above:X.s₀.heap.objs.size<=X.env.locals
 inj:∀x y c,X.env.cells.lookup x=some c->X.env.cells.lookup y=some c->x=y
 has:∀x,(X.env.kindOf x=some .cell∨X.env.kindOf x=some .free)->∃c,X.env.cells.lookup x=some c
 Jm:∀x c,X.fn x=true->X.env.cells.lookup x=some c->X.s₀.heap.objs.size<=c
 hd:X.calm=true->X.A.handled=none
 frames:X.A.frames=some X.stack
 JA:X.stack=X.outer∨(X.stack=X.env::X.outer/\X.env.frame=some X.env.locals)
 L4:∀b∈X.ex,b≠X.env.locals/\∀x c,X.env.cells.lookup x=some c->c≠b
 bs:∀b o,X.base.get? b=some o->X.s₀.heap.get? b=some o/\X.H₀ b=none
 FL:X.base.objs.size<=X.s₀.heap.objs.size
 K0:∀b o,X.base.get? b=some o->b∉X.ex
 Jz:∀b∈X.ex,b∉X.fs
 EV:X.s₀.heap.FunFrames X.base X.outer
 Gi:∀b∈X.fs,X.H₀ b=none
structure Inv (X:Cx) (ZB:ZHz) (Z:List (Option V)) (H:Hp) (s:Shared):Prop where
 ok:X.Ok
 os:s.os=X.s₀.os
 bare:AllBare s.gens
 base:Un X.fs X.ex X.H₀ H X.s₀.heap s.heap
 loc:∃m,s.heap.Ns X.env.locals m/\∀(i:Nat)(x:Str)(v:V),X.N[i]?=some x->Z[i]?=some (some v)->R0 X.env.scope x->∃u,RelV v u/\Look X.env s.heap m x u
 cell:∀x c,X.env.cells.lookup x=some c->∃v,s.heap.IsCell c v
 free:H X.env.locals=none
 DJ:∀x c,X.env.cells.lookup x=some c->H c=none
 pin:∀p∈X.pn++ZB,s.heap.get? p.1=some p.2/\H p.1=none/\p.1≠X.env.locals/\p.1∉X.fs/\∀v,p.2.data≠.cell v
 AB:BX X.prog X.w H s.heap
 len:Z.length=X.N.length
section
variable{Z:List (Option V)}
theorem Cx.Ok.x8(ok:X.Ok){o:Obj}(e:X.base.get? b=some o):b∉X.fs:=λa=>by
 have:=(ok.EV.mem a).1;rw[e]at this;cases this
theorem Inv.bs(I:Inv X ZB Z H s):∀b o,X.base.get? b=some o->s.heap.get? b=some o/\H b=none:=λb o e=>
 ⟨I.base.keep b o (I.ok.bs b o e).1 (I.ok.bs b o e).2 (I.ok.x8 e) (I.ok.K0 b o e),I.base.free b o (I.ok.bs b o e).1 (I.ok.bs b o e).2 (I.ok.K0 b o e)⟩
theorem Inv.bk(I:Inv X ZB Z H s):∀b o,X.base.get? b=some o->s.heap.get? b=some o:=λb o e=>(I.bs b o e).1
theorem Inv.mod(I:Inv X ZB Z H s):Mod X.K X.mg X.base:=I.ok.mod
theorem Inv.CB(I:Inv X ZB Z H s):X.K.In s.heap:=I.ok.mod.HE.keeps I.bk
theorem Inv.nolimit(I:Inv X ZB Z H s):s.heap.NoLimit:=I.ok.mod.nolimit.keeps I.bk
theorem Inv.lt(I:Inv X ZB Z H s):X.env.locals<s.heap.objs.size:=let ⟨_,hn,_⟩:=I.loc;hn.lt
theorem Inv.sz(I:Inv X ZB Z H s):X.s₀.heap.objs.size<=s.heap.objs.size:=Be I.ok.above (JF I.lt)
theorem Inv.PB(I:Inv X ZB Z H s)(h:s.heap.objs.size<=a):a∉X.fs:=λb=>by
 obtain⟨_,o,ho,_⟩:=I.ok.EV.mem b;exact absurd (CI (AY ho) (Be I.sz h)) (Lm _)
theorem Inv.G2(I:Inv X ZB Z H s):∀x c,X.env.cells.lookup x=some c->c≠X.env.locals:=λx c e z=>by
 obtain⟨v,o,ho,hd⟩:=I.cell x c e;obtain⟨m,⟨o',es,ep,CP,Gp,_⟩,_⟩:=I.loc;rw[z,CP]at ho;cases ho;rw[Gp]at hd;cases hd
theorem Inv.EV(I:Inv X ZB Z H s):s.heap.FunFrames X.base X.outer:=by
 have all:∀(l:List Env),(∀b∈CK l,b∈X.fs)->X.s₀.heap.FunFrames X.base l->s.heap.FunFrames X.base l:=by
  intro l
  induction l with
  |nil=>intro _ _;trivial
  |cons env r f=>
   intro d i;obtain⟨hk,⟨L,o,a,h,ho,hd⟩,g⟩:=i;have hL:L∈X.fs:=d L (by unfold CK;rw[Ta,a];exact B1);obtain⟨sl,e⟩:=I.base.slot L o ho (I.ok.Gi L hL) hL λz=>I.ok.Jz L z hL;exact⟨hk,⟨L,_,a,h,e,hd⟩,f (λb c=>d b (by unfold CK;rw[Ta,a];exact BM _ c)) g⟩
 exact all X.outer (λ_ c=>c) I.ok.EV
theorem Inv.stack(I:Inv X ZB Z H s):s.heap.FunFrames X.base X.stack:=by
 rcases I.ok.JA with e|⟨e,hf⟩
 .rw[e];exact I.EV
 .rw[e];obtain⟨m,a,_⟩:=I.loc;refine .cons (by rw[I.ok.kind];decide) hf a ?_ I.EV;exact Pe (Be I.ok.FL I.ok.above)
theorem Inv.Oi(I:Inv X ZB Z H s):∀b∈CK X.stack,b∈X.env.locals::X.fs:=λb a=>by
 rcases I.ok.JA with e|⟨e,hf⟩
 .rw[e]at a;exact BM _ a
 .rw[e]at a;unfold CK at a;rw[Ta,hf]at a;exact a
theorem Inv.T5(I:Inv X ZB Z H s):∀b∈CK X.stack,H b=none:=λb a=>by
 rcases List.mem_cons.mp (I.Oi b a)with e|a
 .rw[e];exact I.free
 .obtain⟨_,o,ho,_⟩:=I.ok.EV.mem a;exact I.base.free b o ho (I.ok.Gi b a) λz=>I.ok.Jz b z a
theorem Inv.step(I:Inv X ZB Z H s)
  (Em:∀b∈ch,(b∈X.ex∨X.s₀.heap.objs.size<=b)/\b≠X.env.locals/\(∀x c,X.env.cells.lookup x=some c->c≠b)/\∀p∈X.pn++ZB,p.1≠b)
  (keep:∀b o,b≠X.env.locals->b∉X.fs->b∉ch->s.heap.get? b=some o->H b=none->h'.get? b=some o)
  (slot:∀b o,b≠X.env.locals->b∈X.fs->b∉ch->s.heap.get? b=some o->H b=none->∃sl,h'.get? b=some { o with slots:=sl }) (free:∀b o,b∉ch->s.heap.get? b=some o->H b=none->H' b=none)
  (there:∀b o,b∉ch->s.heap.get? b=some o->∃o',h'.get? b=some o')
  (FX:∀b(x:M3),H b=some x.ho->H' b=some x.ho) (Fd:∀b o u,H b=some (.Et o u)->H' b=some (.Et o u))
  (ns:∀m,s.heap.Ns X.env.locals m->h'.Ns X.env.locals m) (AB:BX X.prog X.w H' h') (hg:AllBare g') :
  Inv X ZB Z H' { s with heap:=h',gens:=g',drawn:=d',toks:=t' }:=by
 have B:∀b o,X.s₀.heap.get? b=some o->b≠X.env.locals:=λb o e=>B7 (CI (AY e) I.ok.above);have h:∀b o,X.s₀.heap.get? b=some o->b∉X.ex->b∉ch:=λb o e hx f=>by
  rcases(Em b f).1 with z|z
  .exact hx z
  .exact absurd (CI (AY e) z) (Lm _)
 have a:∀x c,X.env.cells.lookup x=some c->∀v,s.heap.IsCell c v->h'.IsCell c v:=λx c e v AM=>by
  obtain⟨o,ho,hd⟩:=AM;have g:c∉ch:=λz=>(Em c z).2.2.1 x c e rfl
  by_cases A:c∈X.fs
  .obtain⟨sl,q⟩:=slot c o (I.G2 x c e) A g ho (I.DJ x c e);exact⟨_,q,hd⟩
  .exact⟨o,keep c o (I.G2 x c e) A g ho (I.DJ x c e),hd⟩
 refine⟨I.ok,I.os,hg,⟨λb o e n f hx=>?_,λb o e n f hx=>?_,λb o e n hx=>?_,λb o e hx=>?_,λb xs e=>FX b xs (I.base.FX b xs e),λb o xs e=>Fd b o xs (I.base.Fd b o xs e)⟩,?_,λx c e=>?_,?_,λx c e=>?_,λp y=>?_,AB,I.len⟩
 .exact keep b o (B b o e) f (h b o e hx) (I.base.keep b o e n f hx) (I.base.free b o e n hx)
 .obtain⟨sl,e1⟩:=I.base.slot b o e n f hx;obtain⟨Wc,j⟩:=slot b _ (B b o e) f (h b o e hx) e1 (I.base.free b o e n hx);exact⟨Wc,j⟩
 .obtain⟨o',e1⟩:=I.base.there b o e hx;exact free b o' (h b o e hx) e1 (I.base.free b o e n hx)
 .obtain⟨o',e1⟩:=I.base.there b o e hx;exact there b o' (h b o e hx) e1
 .obtain⟨m,C,D⟩:=I.loc;refine⟨m,ns m C,λi x v e1 j E=>?_⟩;obtain⟨u,r,l⟩:=D i x v e1 j E;refine⟨u,r,?_⟩;rcases l with l|⟨k,c,e,z⟩
  .exact .inl l
  .exact .inr ⟨k,c,e,a x c e _ z⟩
 .obtain⟨v,z⟩:=I.cell x c e;exact⟨v,a x c e v z⟩
 .obtain⟨m,⟨o,_,_,ho,_⟩,_⟩:=I.loc;exact free _ o (λz=>(Em _ z).2.1 rfl) ho I.free
 .obtain⟨v,o,ho,hd⟩:=I.cell x c e;exact free c o (λz=>(Em c z).2.2.1 x c e rfl) ho (I.DJ x c e)
 .obtain⟨e,n,ne,t,d⟩:=I.pin p y;have g:p.1∉ch:=λz=>(Em p.1 z).2.2.2 p y rfl;exact⟨keep p.1 p.2 ne t g e n,free p.1 p.2 g e n,ne,t,d⟩
theorem Inv.un(I:Inv X ZB Z H s)(u:Un X.fs [] H H' s.heap h')(AB:BX X.prog X.w H' h'):Inv X ZB Z H' { s with heap:=h',toks:=t' }:=by
 obtain⟨m,⟨o,es,ep,ho,r⟩,_⟩:=id I.loc;obtain⟨sl,hL⟩:=u.any ho I.free (by simp);exact I.step (g':=s.gens) (d':=s.drawn) (ch:=[]) (λ_ z=>nomatch z) (λb o _ a _ e n=>u.keep b o e n a (by simp)) (λb o _ a _ e n=>u.slot b o e n a (by simp)) (λb o _ e n=>u.free b o e n (by simp)) (λb o _ e=>u.there b o e (by simp)) u.FX u.Fd (λf d=>by
  obtain⟨o',BP,Hy,CP,c⟩:=d;rw[ho]at CP;cases CP;exact⟨_,BP,Hy,hL,c⟩) AB I.bare
theorem Inv.call(I:Inv X ZB Z H s)(u:Un (CK X.stack) ch H H' s.heap h')(AB:BX X.prog X.w H' h')(g:AllBare g')
  (Em:∀b∈ch,(b∈X.ex∨X.s₀.heap.objs.size<=b)/\b≠X.env.locals/\(∀x c,X.env.cells.lookup x=some c->c≠b)/\∀p∈X.pn++ZB,p.1≠b) :
  Inv X ZB Z H' { s with heap:=h',gens:=g',drawn:=d',toks:=t' }:=by
 obtain⟨m,⟨o,es,ep,ho,r⟩,_⟩:=id I.loc;obtain⟨sl,hL⟩:=u.any ho I.free λz=>(Em _ z).2.1 rfl;exact I.step (ch:=ch) Em (λb o hL h a e n=>u.keep b o e n (λz=>(List.mem_cons.mp (I.Oi b z)).elim hL h) a) (λb o _ _ a e n=>u.any e n a) (λb o a e n=>u.free b o e n a) (λb o a e=>u.there b o e a) u.FX u.Fd (λi f=>by
  obtain⟨o',BP,Hy,CP,d⟩:=f;rw[ho]at CP;cases CP;exact⟨_,BP,Hy,hL,d⟩) AB g
theorem Inv.turned(I:Inv X ZB Z H s)(k:∀b o,b≠it->s.heap.get? b=some o->h'.get? b=some o)(f:H it=none)(hL:it≠X.env.locals)
  (h1:it∈X.ex∨X.s₀.heap.objs.size<=it) (h2:∀x c,X.env.cells.lookup x=some c->c≠it) (i:∀p∈X.pn++ZB,p.1≠it):Inv X ZB Z H { s with heap:=h',toks:=t' }:=by
 have d:∀b u,H b=some u->b≠it:=λb u e z=>by rw[z,f]at e;cases e
 refine I.step (g':=s.gens) (d':=s.drawn) (ch:=[it]) (λb h=>?_) (λb o _ _ a e _=>k b o (λz=>a (by simp[z])) e) (λb o _ _ a e _=>⟨o.slots,k b o (λz=>a (by simp[z])) e⟩) (λ_ _ _ _ n=>n)
  (λb o a e=>⟨o,k b o (λz=>a (by simp[z])) e⟩) (λ_ _ e=>e) (λ_ _ _ e=>e) (λm g=>?_) (λb u e=>?_) I.bare
 .have e:b=it:=by simpa using h
  subst e;exact⟨h1,hL,h2,i⟩
 .obtain⟨o,es,ep,ho,r⟩:=g;exact⟨o,es,ep,k _ o (Az hL) ho,r⟩
 .refine(I.AB b u e).EZ (λc v a q=>k c v ?_ q) (λ_ q=>q) λ_ _ q=>q;rcases a with z|z
  .rw[z];exact d b u e
  .exact d c _ z
theorem Inv.tok(I:Inv X ZB Z H s)(t:Nat):Inv X ZB Z H { s with toks:=t }:=I.un (h':=s.heap) (t':=t) Un.refl I.AB
theorem Inv.kept(I:Inv X ZB Z H s)(k:∀b u,s.heap.get? b=some u->h'.get? b=some u):Inv X ZB Z H { s with heap:=h',toks:=t' }:=I.un (Un.kept k) (I.AB.kept k)
theorem Inv.laid(I:Inv X ZB Z H s)(k:∀b u,s.heap.get? b=some u->h'.get? b=some u)(c:s.heap.objs.size<=a)(new:BZ X.prog X.w (upd H a o) h' a o):
  Inv X ZB Z (upd H a o) { s with heap:=h',toks:=t' }:=I.un (Un.laid k c (I.AB.fresh c)) (I.AB.laid k c new)
theorem Inv.write{x e:Addr}(I:Inv X ZB Z H s)(mu:MP (H x))(a:e=x∨H e=some (.own x))(k:∀b u,b≠e->s.heap.get? b=some u->h'.get? b=some u)(Jb:∃u,h'.get? e=some u)
  (new:BZ X.prog X.w (upd H x o) h' x o):Inv X ZB Z (upd H x o) { s with heap:=h',toks:=t' }:=I.un (Un.write mu a k Jb) (I.AB.write mu a k Jb new)
theorem Inv.fP(I:Inv X ZB Z H s)(h:∀p∈eJ,s.heap.get? p.1=some p.2/\H p.1=none/\p.1≠X.env.locals/\p.1∉X.fs/\∀v,p.2.data≠.cell v):Inv X eJ Z H s:=
 ⟨I.ok,I.os,I.bare,I.base,I.loc,I.cell,I.free,I.DJ,λp a=>(List.mem_append.mp a).elim (λz=>I.pin p (DN _ z)) (h p),I.AB,I.len⟩
theorem YF(c:N.Nodup)(a:N[i]?=some x)(b:N[j]?=some x):i=j:=by
 obtain⟨h1,e1⟩:=List.getElem?_eq_some_iff.mp a;obtain⟨h2,d⟩:=List.getElem?_eq_some_iff.mp b;exact(ZGj c).mp (e1.trans d.symm)
theorem X8{Q:Unit->Shared->Prop}(I:Inv X ZB Z H s)(V:X.N.Nodup)(hi:X.N[i]?=some x)(hx:Loc X.env.scope x)(r:RelV v u)
  (h:∀s',Inv X ZB (Z.set i (some v)) H s'->(∃a,Heap.SameBut a s.heap s'.heap/\(a=X.env.locals∨X.env.cells.lookup x=some a))->Q () s') (hf:X.fn x=true∨X.env.scope.names.lookup x=some .local:=by first|exact .inl rfl|exact .inr rfl|assumption):wpAny M A (storeName X.env x u) Q E s:=by
 obtain⟨m,L,U⟩:=id I.loc;have Vr:(X.env.scope.kind == .class || (X.env.scope.kind == .module && X.env.locals != X.env.globals))=false:=by rw[I.ok.kind];rfl
 have hiσ:i<Z.length:=by rw[I.len];exact(List.getElem?_eq_some_iff.mp hi).1
 have G2:=I.G2;have g:∀{a:Addr}{h':Heap},(∃o,s.heap.get? a=some o/\H a=none)->Heap.SameBut a s.heap h'->BX X.prog X.w H h':=λ{a h'}ha f b ob e=>by
  obtain⟨_,_,T⟩:=ha;refine(I.AB b ob e).EZ (λc D l q=>(f.2 c ?_).trans q) (λ_ q=>q) λ_ _ q=>q;rintro rfl;rcases l with rfl|l
  .rw[T]at e;cases e
  .rw[T]at l;cases l
 rcases hx with hk|hk
 .refine wpAny_storeName_local hk L (λh' Ol f=>?_) Vr;obtain⟨oL,_,_,Fo,_⟩:=id L;refine h _ ⟨I.ok,I.os,I.bare,⟨λb o e n C hx=>?_,λb o e n C hx=>?_,I.base.free,λb o e hx=>?_,I.base.FX,I.base.Fd⟩,⟨_,Ol,λj y F e1 t O=>?_⟩,λy c e=>?_,I.free,I.DJ,λp K=>?_,g ⟨oL,Fo,I.free⟩ f,by simpa using I.len⟩ ⟨_,f,.inl rfl⟩
  .exact(f.2 b (B7 (CI (AY e) I.ok.above))).trans (I.base.keep b o e n C hx)
  .obtain⟨sl,e1⟩:=I.base.slot b o e n C hx;exact⟨sl,(f.2 b (B7 (CI (AY e) I.ok.above))).trans e1⟩
  .obtain⟨o',e1⟩:=I.base.there b o e hx;exact⟨o',(f.2 b (B7 (CI (AY e) I.ok.above))).trans e1⟩
  .by_cases B:j=i
   .subst B;rw[hi]at e1;cases e1;rw[Ca hiσ]at t;cases t;exact⟨u,r,.inl ⟨hk,by simp⟩⟩
   .rw[Bv (Az B)]at t;obtain⟨u',G,q⟩:=U j y F e1 t O;refine⟨u',G,?_⟩;rcases q with⟨k,e⟩|⟨k,c,e,z⟩
    .refine .inl ⟨k,?_⟩;have:y≠x:=λe=>B (YF V e1 (e▸hi));simp[this,e]
    .exact .inr ⟨k,c,e,z.sameBut f (G2 y c e)⟩
  .obtain⟨D,z⟩:=I.cell y c e;exact⟨D,z.sameBut f (G2 y c e)⟩
  .obtain⟨e,n,ne,J,d⟩:=I.pin p K;exact⟨(f.2 p.1 ne).trans e,n,ne,J,d⟩
 .have P:X.fn x=true:=by
   rcases hf with z|z
   .exact z
   .rw[z]at hk;cases hk
  obtain⟨c,l⟩:=I.ok.has x (.inl hk);obtain⟨D,z⟩:=I.cell x c l;refine wpAny_storeName_cell I.ok.kind hk l z (λh' GL f=>?_);obtain⟨R,R6,ZBT⟩:=id z;refine h { s with heap:=h' } ⟨I.ok,I.os,I.bare,⟨λb o e n C hx=>?_,λb o e n C hx=>?_,I.base.free,λb o e hx=>?_,I.base.FX,I.base.Fd⟩,⟨m,L.sameBut f (Az (G2 x c l)),λj y F e1 t O=>?_⟩,λy c' e=>?_,I.free,I.DJ,λp K=>?_,g ⟨R,R6,I.DJ x c l⟩ f,by simpa using I.len⟩ ⟨c,f,.inr l⟩
  .exact(f.2 b (B7 (CI (AY e) (I.ok.Jm x c P l)))).trans (I.base.keep b o e n C hx)
  .obtain⟨sl,e1⟩:=I.base.slot b o e n C hx;exact⟨sl,(f.2 b (B7 (CI (AY e) (I.ok.Jm x c P l)))).trans e1⟩
  .obtain⟨o',e1⟩:=I.base.there b o e hx;exact⟨o',(f.2 b (B7 (CI (AY e) (I.ok.Jm x c P l)))).trans e1⟩
  .by_cases B:j=i
   .subst B;rw[hi]at e1;cases e1;rw[Ca hiσ]at t;cases t;exact⟨u,r,.inr ⟨.inl hk,c,l,GL⟩⟩
   .rw[Bv (Az B)]at t;obtain⟨u',G,q⟩:=U j y F e1 t O;refine⟨u',G,?_⟩;rcases q with q|⟨k,c',e,z'⟩
    .exact .inl q
    .refine .inr ⟨k,c',e,z'.sameBut f ?_⟩;rintro rfl;exact B (YF V e1 (I.ok.inj _ _ _ e l▸hi))
  .by_cases S:c'=c
   .subst S;exact⟨_,GL⟩
   .obtain⟨Y,W⟩:=I.cell y c' e;exact⟨Y,W.sameBut f S⟩
  .obtain⟨e,n,ne,J,d⟩:=I.pin p K;refine⟨(f.2 p.1 ?_).trans e,n,ne,J,d⟩;intro q;rw[q,R6]at e;have σ:R=p.2:=BG e;exact d D (by rw[<- σ];exact ZBT)
theorem X5{Q:Unit->Shared->Prop}(I:Inv X ZB Z H s)(b:X.N.Nodup)(hi:X.N[i]?=some x)(hx:Loc X.env.scope x)(r:RelV v u)
  (h:∀s',Inv X ZB (Z.set i (some v)) H s'->Q () s') (a:X.fn x=true∨X.env.scope.names.lookup x=some .local:=by first|exact .inl rfl|exact .inr rfl|assumption):wpAny M A (storeName X.env x u) Q E s:=
 X8 I b hi hx r (λs' I' _=>h s' I') a
theorem Inv.ZDO(I:Inv X ZB Z H s)(ho:s'.os=s.os)(u:Un (CK X.stack) ch H H' s.heap s'.heap)(AB:BX X.prog X.w H' s'.heap)(a:AllBare s'.gens)
  (Em:∀b∈ch,(b∈X.ex∨X.s₀.heap.objs.size<=b)/\b≠X.env.locals/\(∀x c,X.env.cells.lookup x=some c->c≠b)/\∀p∈X.pn++ZB,p.1≠b):Inv X ZB Z H' s':=by
 obtain⟨h',g',d',t',o'⟩:=s';have e:o'=s.os:=ho;subst e;exact I.call (g':=g') (t':=t') (d':=d') u AB a Em
end
abbrev XK:=Value->Option Addr->Hp->Prop
abbrev St:=List (Option V)
variable{Z:St}
abbrev VK:=V->Hp->Prop
abbrev TE:=St->Hp->VK->Prop
variable{ta tb tc te:TE}
abbrev TT:=St->Hp->(Bool->Hp->Prop)->Prop
abbrev TA:=St->Hp->(List V->Hp->Prop)->Prop
variable{t:TA}
structure Ends where
 nx:St->Hp->Prop
 rt:VK
 bk:St->Hp->Prop:=λ_ _=>False
 ct:St->Hp->Prop:=λ_ _=>False
abbrev TS:=Ends->St->Hp->Prop
def EP(X:Cx)(ZB:ZHz)(Z:St)(Q:VK)(u:Value)(s':Shared):Prop:=∃v H',Inv X ZB Z H' s'/\RelV v u/\Q v H'
def TP(X:Cx)(ZB:ZHz)(Z:St)(Q:Bool->Hp->Prop)(b:Bool)(s':Shared):Prop:=∃H',Inv X ZB Z H' s'/\Q b H'
def AP(X:Cx)(ZB:ZHz)(Z:St)(Q:List V->Hp->Prop)(us:List Value)(s':Shared):Prop:=∃vs H',Inv X ZB Z H' s'/\Vals vs us/\Q vs H'
def SP(X:Cx)(ZB:ZHz)(D:Ends)(f:Flow)(s':Shared):Prop:=
 match f with
 | .next=>∃ σ' H',Inv X ZB σ' H' s'/\D.nx σ' H'
 | .brk=>∃ σ' H',Inv X ZB σ' H' s'/\D.bk σ' H'
 | .cont=>∃ σ' H',Inv X ZB σ' H' s'/\D.ct σ' H'
 | .ret u=>∃v σ' H',Inv X ZB σ' H' s'/\RelV v u/\D.rt v H'
def PE(X:Cx)(e:Expr)(t:TE):Prop:=
 ∀(ZB:ZHz)(s:Shared)(Z:St)(H:Hp)(Q:VK),Inv X ZB Z H s->t Z H Q->wpAny (model X.prog X.w) X.A (eval e X.env) (EP X ZB Z Q) X.xe s
def PT(X:Cx)(e:Expr)(t:TT):Prop:=
 ∀(ZB:ZHz)(s:Shared)(Z:St)(H:Hp)(Q:Bool->Hp->Prop),Inv X ZB Z H s->t Z H Q->wpAny (model X.prog X.w) X.A (isTrue e X.env (eval e X.env)) (TP X ZB Z Q) X.xe s
def PW(X:Cx)(e:Expr)(t:TT):Prop:=
 ∀(a:Sem Value)(ZB:ZHz)(s:Shared)(Z:St)(H:Hp)(Q:Bool->Hp->Prop),Inv X ZB Z H s->t Z H Q->wpAny (model X.prog X.w) X.A (isTrue e X.env a) (TP X ZB Z Q) X.xe s
theorem PW.pt{t:TT}(h:PW X e t):PT X e t:=h _
def PA(X:Cx)(es:List Expr)(t:TA):Prop:=
 ∀(pos:Pos)(ZB:ZHz)(s:Shared)(Z:St)(H:Hp)(Q:List V->Hp->Prop),Inv X ZB Z H s->t Z H Q->wpAny (model X.prog X.w) X.A (spliced (backTo pos (starEach es X.env))) (AP X ZB Z Q) X.xe s
def PS(X:Cx)(st:Stmt)(t:TS):Prop:=
 ∀(ZB:ZHz)(s:Shared)(Z:St)(H:Hp)(D:Ends),Inv X ZB Z H s->t D Z H->wpAny (model X.prog X.w) X.A (exec st X.env) (SP X ZB D) X.xe s
def Dc(X:Cx)(st:List Stmt)(t:TS):Prop:=
 ∀(ZB:ZHz)(s:Shared)(Z:St)(H:Hp)(D:Ends),Inv X ZB Z H s->t D Z H->wpAny (model X.prog X.w) X.A (execs st X.env) (SP X ZB D) X.xe s
theorem Aw{t:Sem α}{Q Q':α->Shared->Prop}(h:wpAny M A t Q E s)(b:∀a s,Q a s->Q' a s):wpAny M A t Q' E s:=sE h b λ_ _ x=>x
theorem PE.k{t:TE}{Q:VK}{Q':Value->Shared->Prop}(a:PE X e t)(I:Inv X ZB Z H s)(h:t Z H Q)(f:∀u s1 x H1,Inv X ZB Z H1 s1->RelV x u->Q x H1->Q' u s1):wpAny (model X.prog X.w) X.A (eval e X.env) Q' X.xe s:=
 Aw (a ZB s Z H Q I h) λu s1 z=>by obtain⟨x,H1,I1,r,q⟩:=z;exact f u s1 x H1 I1 r q
theorem PA.k(pos:Pos){Q:List V->Hp->Prop}{Q':List Value->Shared->Prop}(a:PA X es t)(I:Inv X ZB Z H s)(h:t Z H Q)(f:∀us s1 vs H1,Inv X ZB Z H1 s1->Vals vs us->Q vs H1->Q' us s1):wpAny (model X.prog X.w) X.A (spliced (backTo pos (starEach es X.env))) Q' X.xe s:=
 Aw (a pos ZB s Z H Q I h) λu s1 z=>by obtain⟨x,H1,I1,r,q⟩:=z;exact f u s1 x H1 I1 r q
section
def Aj(i:Nat):TE:=λZ H Q=>∃v,Z[i]?=some (some v)/\Q v H
def tC(v:V):TE:=λ_ H Q=>Q v H
theorem iW(j:X.N[i]?=some x)(b:R0 X.env.scope x)(hd:(x == ("__debug__":Str))=false:=by decide)(DK:(x == ("__classdict__":Str))=false:=by decide):PE X (.Name x pos) (Aj i):=by
 intro ZB s Z H Q I h;obtain⟨v,e,h⟩:=h;obtain⟨m,d,g⟩:=I.loc;obtain⟨u,r,l⟩:=g i x v j e b;have fin:EP X ZB Z Q u s:=⟨v,H,I,r,h⟩;rcases l with⟨hk,f⟩|⟨hk,c,a,Zt⟩
 .exact wpAny_Name (wpAny_loadName_local I.ok.kind hk d f fin) hd
 .rcases hk with hk|hk
  .exact wpAny_Name (wpAny_loadName_cell I.ok.kind hk a Zt fin) hd
  .exact wpAny_Name (wpAny_loadName_free I.ok.kind hk a Zt fin DK) hd
def Gl(X:Cx)(x:Str):Prop:=X.env.kindOf x=some .globalImplicit
theorem Ky(I:Inv X ZB Z H s)(b:Gl X x)(a:X.mg x=some u)(h:Q u s)
  (hd:(x == ("__debug__":Str))=false:=by decide):wpAny (model X.prog X.w) X.A (eval (.Name x pos) X.env) Q E s:=
 ZGS I.ok.kind b (Calls.loadGlobal_global (by rw[I.ok.glob];exact I.mod.glob.keeps I.bk) a h) hd
theorem Lg(I:Inv X ZB Z H s)(d:Gl X x)(c:X.mg x=none)(a:bootBuiltins x=some u)(h:Q u s)
  (b:x ≠"__name__" := by decide) (hd:(x == ("__debug__":Str))=false:=by decide):wpAny (model X.prog X.w) X.A (eval (.Name x pos) X.env) Q E s:=by
 obtain⟨mb,h1,h2⟩:=I.mod.blt;exact ZGS I.ok.kind d (Calls.loadGlobal_builtin (by rw[I.ok.glob];exact I.mod.glob.keeps I.bk) c (by rw[I.ok.blt];exact h1.keeps I.bk) ((h2 x b).trans a) h) hd
theorem pK(d:Gl X x)(c:X.mg x=none)(a:bootBuiltins x=some u)(r:RelV v u)(b:x ≠"__name__" := by decide)(hd:(x == ("__debug__":Str))=false:=by decide):PE X (.Name x pos) (tC v):=
 λ_ _ _ H _ I h=>Lg I d c a ⟨v,H,I,r,h⟩ b hd
variable{a b:Expr}
def PC(X:Cx)(op:CmpOp)(a b:Expr)(t:TE):Prop:=
 ∀(ZB:ZHz)(s:Shared)(Z:St)(H:Hp)(Q:VK),Inv X ZB Z H s->t Z H Q->
  wpAny (model X.prog X.w) X.A (eval a X.env) (λv s₁=>wpAny (model X.prog X.w) X.A (eval b X.env) (λu c=>wpAny (model X.prog X.w) X.A (compareOp op v u) (EP X ZB Z Q) X.xe c) X.xe s₁) X.xe s
theorem xS(b:Expr)(h:op≠.In)(h2:op≠.NotIn):behindInMarks op b=false:=by
 have e1:(op == CmpOp.In)=false:=by cases op <;> first|rfl|exact absurd rfl h
 have a:(op == CmpOp.NotIn)=false:=by cases op <;> first|rfl|exact absurd rfl h2
 cases b <;> simp[behindInMarks,e1,a]
def tB(t:TE):TT:=λZ H Q=>t Z H λx H1=>∃c,x=.bl c/\Q c H1
theorem bO{t:TE}(h:PC X op a b t)(h1:behindInMarks op b=false:=by first|exact xS _ (by decide) (by decide)|rfl):PT X (.Compare a [op] [b] pos) (tB t):=by
 intro ZB s Z H Q I hw;refine wpAny_isTrue_Compare1 (Aw (h ZB s Z H _ I hw) λv s1 h1=>Aw h1 λu s2 h2=>Aw h2 λc g⟨x,H1,I1,e,f⟩=>?_) h1;obtain⟨d,rfl,q⟩:=f;cases e;exact wD ⟨H1,I1,q⟩
variable{tA Ib:TT}
def WD(t u:TT):TT:=λZ H Q=>t Z H λc H1=>if c=true then u Z H1 Q else Q false H1
def OM(t u:TT):TT:=λZ H Q=>t Z H λc H1=>if c=true then Q true H1 else u Z H1 Q
def Ve(t:TT):TT:=λZ H Q=>t Z H λc H1=>Q (!c) H1
def Yy(ta tb:TE):TE:=λZ H Q=>ta Z H λx H1=>∃c,x=.bl c/\if c=true then tb Z H1 Q else Q (.bl false) H1
def Ya(ta tb:TE):TE:=λZ H Q=>ta Z H λx H1=>∃c,x=.bl c/\if c=true then Q (.bl true) H1 else tb Z H1 Q
def UB(ta:TE):TE:=λZ H Q=>ta Z H λx H1=>∃c,x=.bl c/\Q (.bl (!c)) H1
end
def AL(K:ZHy)(H:Hp)(a:Addr)(xs:List V):Prop:=
 Rd H a (.lst xs)∨
  ∃(o:Obj)(A3:Array Value)(n:Nat),K.lookup a=some o/\o.cls=.type "list" /\ o.dict=none/\o.data=.seq A3 n/\A3.size<=sizeLine/\Vals xs A3.toList
def Ax(K:ZHy)(H:Hp)(a:Addr)(xs:List V):Prop:=
 Rd H a (.tup xs)∨
  ∃(o:Obj)(A3:Array Value)(n:Nat),K.lookup a=some o/\o.cls=.type "tuple" /\ o.data=.seq A3 n/\A3.size<=sizeLine/\Vals xs A3.toList
noncomputable def ZDs:Value->Option V
 | .none=>some .A8
 | .bool b=>some (.bl b)
 | .int i _=>some (.int i)
 | .str x _=>some (.str x)
 | .bytes b _=>some (.Gs b)
 | .float b _=>some (.K3 b)
 | .ref a=>some (.ref a)
 | .type n=>some (.ty n)
 |_=>none
theorem RelV.abs{x:V}(r:RelV x u):ZDs u=some x:=by
 cases x with
 |A8=>cases r;rfl
 |bl _=>cases r;rfl
 |int _=>obtain⟨t,rfl⟩:=r;rfl
 |str _=>obtain⟨t,rfl⟩:=r;rfl
 |Gs _=>obtain⟨t,rfl⟩:=r;rfl
 |K3 _=>obtain⟨t,rfl⟩:=r;rfl
 |ref _=>cases r;rfl
 |ty _=>cases r;rfl
theorem RelV.inj{x y:V}{u:Value}(r:RelV x u)(q:RelV y u):x=y:=BG (r.abs.symm.trans q.abs)
theorem Vals.inj:∀{xs ys:List V}{us:List Value},Vals xs us->Vals ys us->xs=ys
 |_,_,_,.nil,.nil=>rfl
 |_,_,_,.cons r t,.cons r' t'=>by rw[r.inj r',Vals.inj t t']
section
variable{xs ys:List V}
theorem AL.of{K:ZHy}(h:H a=some (.lst xs)):AL K H a xs:=.inl (.inl h)
theorem Ax.of{K:ZHy}(h:H a=some (.tup xs)):Ax K H a xs:=.inl (.inl h)
theorem Inv.list(I:Inv X ZB Z H s)(h:AL X.K H a xs):∃A3:List Value,Vals xs A3/\PlainL s.heap a A3.toArray/\xs.length<=sizeLine:=by
 rcases h with h|⟨o,A3,n,hk,hc,hd,hs,hz,r⟩
 .obtain⟨z,A3,n,r,e⟩:=h.ok I.AB;exact⟨A3,r,⟨_,n,e,rfl,rfl,rfl⟩,z⟩
 .refine⟨A3.toList,r,⟨o,n,I.CB a o hk,hc,hd,by simpa using hs⟩,?_⟩
  have e:=r.length;simp only[Cj]at e;omega
theorem Inv.tuple(I:Inv X ZB Z H s)(h:Ax X.K H a xs):∃A3:List Value,Vals xs A3/\IsTup s.heap a A3.toArray/\xs.length<=sizeLine:=by
 rcases h with h|⟨o,A3,n,hk,hc,hs,hz,r⟩
 .obtain⟨z,A3,r,p⟩:=h.ok I.AB;exact⟨A3,r,p.1,z⟩
 .refine⟨A3.toList,r,⟨o,I.CB a o hk,hc,n,by simpa using hs⟩,?_⟩
  have e:=r.length;simp only[Cj]at e;omega
theorem Inv.ZDM(I:Inv X ZB Z H s)(h:AL X.K H a xs)(h':AL X.K H a ys):xs=ys:=by
 obtain⟨A3,r,⟨o,n,e,_,_,d⟩,_⟩:=I.list h;obtain⟨its',c,⟨o',f,b,_,_,d'⟩,_⟩:=I.list h';rw[e]at b;cases b;rw[d]at d';injection d' with d1 _
 have:A3=its':=by simpa using sg Array.toList d1
 subst this;exact r.inj c
theorem Inv.ZAO(I:Inv X ZB Z H s)(h:Ax X.K H a xs)(h':Ax X.K H a ys):xs=ys:=by
 obtain⟨A3,r,⟨o,e,_,n,d⟩,_⟩:=I.tuple h;obtain⟨its',c,⟨o',b,_,f,d'⟩,_⟩:=I.tuple h';rw[e]at b;cases b;rw[d]at d';injection d' with d1 _
 have:A3=its':=by simpa using sg Array.toList d1
 subst this;exact r.inj c
end
noncomputable abbrev Cx.Hs(X:Cx)(E:Value->Shared->Prop):Cx:={ X with xe:=E }
noncomputable abbrev Cx.Gz(X:Cx):Cx:=X.Hs λ_ _=>False
theorem Cx.Ok.Hs(ok:X.Ok)(E:Value->Shared->Prop):(X.Hs E).Ok:=
 ⟨ok.mod,ok.kind,ok.glob,ok.blt,ok.above,ok.inj,ok.has,ok.Jm,ok.hd,ok.frames,ok.JA,ok.L4,ok.bs,ok.FL,ok.K0,ok.Jz,ok.EV,ok.Gi⟩
theorem Cx.Ok.Jg(ok:(X.Hs E).Ok):X.Ok:=
 ⟨ok.mod,ok.kind,ok.glob,ok.blt,ok.above,ok.inj,ok.has,ok.Jm,ok.hd,ok.frames,ok.JA,ok.L4,ok.bs,ok.FL,ok.K0,ok.Jz,ok.EV,ok.Gi⟩
section
theorem Inv.Hs(I:Inv X ZB Z H s)(E:Value->Shared->Prop):Inv (X.Hs E) ZB Z H s:=⟨I.ok.Hs E,I.os,I.bare,I.base,I.loc,I.cell,I.free,I.DJ,I.pin,I.AB,I.len⟩
theorem Inv.Jg(I:Inv (X.Hs E) ZB Z H s):Inv X ZB Z H s:=⟨I.ok.Jg,I.os,I.bare,I.base,I.loc,I.cell,I.free,I.DJ,I.pin,I.AB,I.len⟩
theorem SP.Jg{D:Ends}{f:Flow}(h:SP (X.Hs E) ZB D f s'):SP X ZB D f s':=by
 cases f with
 |next=>obtain⟨σ',H',I,q⟩:=h;exact⟨σ',H',I.Jg,q⟩
 |brk=>obtain⟨σ',H',I,q⟩:=h;exact⟨σ',H',I.Jg,q⟩
 |cont=>obtain⟨σ',H',I,q⟩:=h;exact⟨σ',H',I.Jg,q⟩
 |ret u=>obtain⟨v,σ',H',I,r,q⟩:=h;exact⟨v,σ',H',I.Jg,r,q⟩
theorem Dc.Gz{st:List Stmt}{t:TS}(h:Dc X.Gz st t):Dc X st t:=λZB s Z H D I hw=>
 sE (h ZB s Z H D (I.Hs _) hw) (λ_ _ q=>q.Jg) λ_ _ z=>False.elim z
variable{st:Stmt}{rest:List Stmt}{t u:TS}
def MX:TS:=λD Z H=>D.nx Z H
def Hq(t u:TS):TS:=λD Z H=>t { D with nx:=u D } Z H
theorem Zp:Dc X [] MX:=λ_ _ Z H _ I h=>ZAg ⟨Z,H,I,h⟩
theorem XJ(h1:PS X st t)(h2:Dc X rest u):Dc X (st::rest) (Hq t u):=by
 intro ZB s Z H D I h;refine wpAny_execs_cons (Aw (h1 ZB s Z H { D with nx:=u D } I h) λf s1 q=>?_)
 cases f with
 |next=>
  obtain⟨σ',H',I',q⟩:=q;exact h2 ZB s1 σ' H' D I' q
 |ret v=>exact q
 |brk=>exact q
 |cont=>exact q
theorem ZEY(h1:PS X st t):Dc X [st] t:=by
 intro ZB s Z H D I h;refine wpAny_execs_cons (Aw (h1 ZB s Z H D I h) λf s1 q=>?_);cases f with
 |next=>exact ZAg q
 |ret v=>exact q
 |brk=>exact q
 |cont=>exact q
theorem Inv.quiet(I:Inv X ZB Z H s):interactive X.env=false:=by simp[interactive,I.ok.kind]
def Iv(te:TE):TS:=λD Z H=>te Z H λ_ H1=>D.nx Z H1
theorem j9(c:PE X e te)(b:swapsWith e none pos.line X.env=pure false:=by rfl):PS X (.Expr e pos) (Iv te):=by
 intro ZB s Z H D I h;exact wpAny_Expr_any (Aw (c ZB s Z H _ I h) λv s1 AM=>by obtain⟨x,H1,I1,d,a⟩:=AM;exact⟨Z,H1,I1,a⟩) I.quiet b
def Hw(te:TE):TS:=λD Z H=>te Z H D.rt
def Mt(c:TT)(t u:TS):TS:=λD Z H=>c Z H λb H1=>if b=true then t D Z H1 else u D Z H1
end
abbrev TG:=V->St->Hp->(St->Hp->Prop)->Prop
abbrev HM:=List V->St->Hp->(St->Hp->Prop)->Prop
def PG(X:Cx)(a:Expr)(t:TG):Prop:=
 ∀(ZB:ZHz)(s:Shared)(Z:St)(H:Hp)(v:V)(u:Value)(Q:St->Hp->Prop),Inv X ZB Z H s->RelV v u->t v Z H Q->
  wpAny (model X.prog X.w) X.A (assign a X.env u) (λ_ s'=>∃ σ' H',Inv X ZB σ' H' s'/\Q σ' H') X.xe s
def M4(X:Cx)(ts:List Expr)(t:HM):Prop:=
 ∀(ZB:ZHz)(s:Shared)(Z:St)(H:Hp)(vs:List V)(us:List Value)(Q:St->Hp->Prop),Inv X ZB Z H s->Vals vs us->t vs Z H Q->
  wpAny (model X.prog X.w) X.A (assignInOrder ((assignEach ts X.env).map (·.2)) us) (λ_ s'=>∃ σ' H',Inv X ZB σ' H' s'/\Q σ' H') X.xe s
abbrev Q2:=V->V->V->Hp->(Hp->Prop)->Prop
def W8(X:Cx)(t:Q2):Prop:=
 ∀(ZB:ZHz)(s:Shared)(Z:St)(H:Hp)(o i v:V)(a b u:Value)(Q:Hp->Prop),Inv X ZB Z H s->RelV o a->RelV i b->RelV v u->t o i v H Q->
  wpAny (model X.prog X.w) X.A (setItem a b u) (λ_ s'=>∃H',Inv X ZB Z H' s'/\Q H') X.xe s
def CZ(i:Nat):TG:=λv Z H Q=>Q (Z.set i (some v)) H
theorem Yz(b:X.N.Nodup)(hi:X.N[i]?=some x)(hx:Loc X.env.scope x)(a:X.fn x=true∨X.env.scope.names.lookup x=some .local:=by first|exact .inl rfl|exact .inr rfl|assumption):PG X (.Name x pos) (CZ i):=by
 intro ZB s Z H v u Q I r h;exact wpAny_assign_Name (X5 I b hi hx r (λs' I'=>⟨_,H,I',h⟩) a)
def Oy:HM:=λvs Z H Q=>vs=[]/\Q Z H
def JS(t:TG)(u:HM):HM:=λvs Z H Q=>∃v r,vs=v::r/\t v Z H λσ' H'=>u r σ' H' Q
theorem l5:M4 X [] Oy:=by
 intro ZB s Z H vs us Q I r h;obtain⟨e,h⟩:=h;subst e;cases r;exact assignInOrder_nil ⟨Z,H,I,h⟩
theorem fE{t:TG}{u:HM}(h1:PG X e t)(h2:M4 X es u)
  (d:(assignEach (e::es) X.env).map (·.2)=assign e X.env::(assignEach es X.env).map (·.2):=by rfl):M4 X (e::es) (JS t u):=by
 intro ZB s Z H vs us Q I r h;obtain⟨v,f,e1,h⟩:=h;subst e1;cases r with
 |cons r a=>
  rw[d];refine assignInOrder_cons (Aw (h1 ZB s Z H _ _ _ I r h) λ_ s1 c=>?_);obtain⟨σ1,H1,I1,b⟩:=c;exact h2 ZB s1 σ1 H1 _ _ Q I1 a b
def JY(K:ZHy)(n:Nat)(t:HM):TG:=λv Z H Q=>∃a xs,v=.ref a/\Ax K H a xs/\xs.length=n/\t xs Z H Q
theorem dq{k:Nat}{t:HM}(j:X.calm=true)(h:M4 X es t)
  (g:(assignEach es X.env).length=n:=by rfl) (CY:(assignEach es X.env).findIdx? (·.1)=none:=by rfl):PG X (.Tuple es k pos) (JY X.K n t):=by
 intro ZB s Z H v u Q I r hw;obtain⟨a,xs,e1,f,i,hw⟩:=hw;subst e1;cases r;obtain⟨A3,c,d,m⟩:=I.tuple f;refine assign_Tuple_tuple (I.ok.hd j) d (by simp[g,<- i,c.length]) CY λh' hx=>?_;have l:Inv X ZB Z H { s with heap:=h' }:=I.kept (t':=s.toks) λb o e=>hx b o (B7 (AY e)) e
 exact h ZB _ Z H xs _ Q l (by simpa using c) hw
def QU(to ti:TE)(t:Q2):TG:=λv Z H Q=>to Z H λo H1=>ti Z H1 λi H2=>t o i v H2 λH3=>Q Z H3
def Df(te:TE)(g:TG):TS:=λD Z H=>te Z H λx H1=>g x Z H1 D.nx
def ZA(c:TT)(tb:TS):TS:=λD Z H=>∃W:Nat->St->Hp->Prop,(∃m,W m Z H)/\∀m Z H,W m Z H->
 c Z H λb H1=>if b=true then ∃N:St->Hp->Prop,(∀ σ' H',N σ' H'->∃a,a < m/\W a σ' H')/\tb { D with nx:=N,ct:=N,bk:=D.nx } Z H1 else D.nx Z H1
structure It where
 go:Nat->Hp->Prop
 EK:Nat->Hp->V->Hp->Prop
 stop:Nat->Hp->Prop
def FA(X:Cx)(ZB:ZHz)(H:Hp)(b:Addr):Prop:=
 H b=none/\b≠X.env.locals/\b∉X.fs/\(b∈X.ex∨X.s₀.heap.objs.size<=b)/\(∀x c,X.env.cells.lookup x=some c->c≠b)/\∀p∈X.pn++ZB,p.1≠b
theorem Inv.O4(I:Inv X ZB Z H s)(a:s.heap.objs.size<=b)(f:H' b=none):FA X ZB H' b:=by
 refine⟨f,E9 (CI I.lt a),I.PB a,.inr (Be I.sz a),λx c e z=>?_,λp d z=>?_⟩
 .obtain⟨v,q⟩:=I.cell x c e;exact absurd (CI q.lt (by rw[z];exact a)) (Lm _)
 .exact absurd (CI (AY (I.pin p d).1) (by rw[z];exact a)) (Lm _)
structure Turn (P:Program) (w:World) (K:ZHy) (tg:Expr) (J:It) (fp:List Addr) (it:Addr) (tn:Nat->Heap->Prop):Prop where
 mem:it∈fp
 obj:∀i h,tn i h->∀b∈fp,∃o,h.get? b=some o/\∀v,o.data≠.cell v
 keep:∀i h h',tn i h->(∀b∈fp,∀o,h.get? b=some o->h'.get? b=some o)->tn i h'
 item:∀(X:Cx),X.prog=P->X.w=w->X.K=K->X.calm=true->∀(i:Nat)(ZB:ZHz)(s:Shared)(Z:St)(H:Hp)(E:Value->Shared->Prop),Inv X ZB Z H s->(∀b∈fp,FA X ZB H b)->tn i s.heap->J.go i H->
  wpAny (model P w) X.A (pyNext (.ref it)) (λr s1=>∃u,r=some u/\
   wpAny (model P w) X.A (letOwnedTupleGo tg (.ref it) u) (λ_ s2=>∃x H',Inv X ZB Z H' s2/\RelV x u/\J.EK i H x H'/\tn (i+1) s2.heap/\∀b∈fp,H' b=none) E s1) E s
 done:∀(X:Cx),X.prog=P->X.w=w->X.K=K->X.calm=true->∀(i:Nat)(ZB:ZHz)(s:Shared)(Z:St)(H:Hp)(E:Value->Shared->Prop),Inv X ZB Z H s->(∀b∈fp,FA X ZB H b)->tn i s.heap->J.stop i H->
  wpAny (model P w) X.A (pyNext (.ref it)) (λr s1=>r=none/\Inv X ZB Z H s1) E s
 self:∀(A:Around)(i:Nat)(s:Shared)(Q:Value->Shared->Prop)(E:Value->Shared->Prop),tn i s.heap->Q (.ref it) s->wpAny (model P w) A (pyIter (.ref it)) Q E s
abbrev TI:=St->Hp->(It->Hp->Prop)->Prop
def lQ(X:Cx)(ZB:ZHz)(Z:St)(tg:Expr)(R:It->Hp->Prop)(Q5:Value)(s2:Shared):Prop:=
 ∃(it:Addr)(fp:List Addr)(tn:Nat->Heap->Prop)(J:It)(H':Hp),Q5=.ref it/\Inv X ZB Z H' s2/\Turn X.prog X.w X.K tg J fp it tn/\tn 0 s2.heap/\(∀b∈fp,FA X ZB H' b)/\R J H'
def PI(X:Cx)(tg iter:Expr)(wi:TI):Prop:=
 ∀(ZB:ZHz)(s:Shared)(Z:St)(H:Hp)(R:It->Hp->Prop),Inv X ZB Z H s->wi Z H R->
  wpAny (model X.prog X.w) X.A (eval iter X.env) (λv s1=>wpAny (model X.prog X.w) X.A (pyIter v) (lQ X ZB Z tg R) X.xe s1) X.xe s
theorem UD{o:Obj}{n:String}{vs:Array Value}{Q:Unit->Shared->Prop}(ho:s.heap.get? it=some o)(c:o.cls=.type n)(hd:o.data=.fields vs)
  (b:["enumerate","zip","dict_itemiterator","dict_reverseitemiterator","odict_iterator","itertools.zip_longest","itertools.pairwise"].contains n=false) (a:Q () s):wpAny M A (letOwnedTupleGo tg (.ref it) u) Q E s:=by
 unfold letOwnedTupleGo;cases tg <;> first
  |exact nW a
  | (cases u <;> first
    |exact nW a
    | (
      refine dP (ZBJ ho ?_);rw[c,hd];show wpAny M A (if(["enumerate","zip","dict_itemiterator","dict_reverseitemiterator","odict_iterator","itertools.zip_longest","itertools.pairwise"].contains n && vs[0]? == some (rawInt _))=true then _ else _) Q E s
      rw[nr (by intro h;rw[b,TV]at h;cases h)];exact nW a))
noncomputable def tI(K:ZHy)(a:Addr):It:=
 ⟨λi H=>∃xs x,AL K H a xs/\xs[i]?=some x,λi H x H'=>H'=H/\∀xs,AL K H a xs->xs[i]?=some x,λi H=>∃xs,AL K H a xs/\xs.length<=i⟩
noncomputable def Itt(K:ZHy)(a:Addr):It:=
 ⟨λi H=>∃xs x,Ax K H a xs/\xs[i]?=some x,λi H x H'=>H'=H/\∀xs,Ax K H a xs->xs[i]?=some x,λi H=>∃xs,Ax K H a xs/\xs.length<=i⟩
noncomputable def N2(lo:Int)(n:Nat):It:=⟨λi _=>i<n,λi H x H'=>H'=H/\x=.int (lo+i),λi _=>n<=i⟩
theorem PZ{P:Program}{K:ZHy}(a it:Addr):Turn P w K tg (tI K a) [it] it (λi h=>h.IsListIter it a i) where
 mem:=by simp
 obj:=λi h st b f=>by
  have e:b=it:=by simpa using f
  subst e;obtain⟨o,e,c,d⟩:=st;exact⟨o,e,λv z=>by rw[d]at z;cases z⟩
 keep:=λi h h' st k=>st.at λo e=>k it (by simp) o e
 item:=by
  intro X n hw q B i ZB s Z H E I j st m;subst n hw q;obtain⟨xs,x,g,hx⟩:=m;obtain⟨A3,l,p,F⟩:=I.list g;obtain⟨u,J,D⟩:=l.get hx;obtain⟨f0,A,L,y,t,r⟩:=j it (by simp);refine wpAny_pyNext_list_item st p.isList (x:=u) (by simpa using J) λh' Fm C=>?_
  have N:Inv X ZB Z H { s with heap:=h' }:=I.turned (t':=s.toks) (λb o f e=>(C.2 b f).trans e) f0 A y t r
  obtain⟨o,e,c,d⟩:=id Fm;exact⟨u,rfl,UD (s:={ s with heap:=h' }) e c d (by decide) ⟨x,H,N,D,⟨rfl,λys G=>by rw[I.ZDM G g];exact hx⟩,Fm,λb f=>(j b f).1⟩⟩
 done:=by
  intro X n hw q B i ZB s Z H E I j st m;subst n hw q;obtain⟨xs,g,hx⟩:=m;obtain⟨A3,l,p,F⟩:=I.list g;obtain⟨f0,A,L,y,t,r⟩:=j it (by simp);have O:=l.length;exact wpAny_pyNext_list_end (I.ok.hd B) st p.isList (by simp;omega) λh' M=>⟨rfl,I.turned (t':=s.toks) (λb o f e=>M b o f e) f0 A y t r⟩
 self:=λ_ _ _ _ _ st h=>wpAny_pyIter_listiter st h
theorem Oq{P:Program}{K:ZHy}(a it:Addr):Turn P w K tg (Itt K a) [it] it (λi h=>h.IsTupleIter it a i) where
 mem:=by simp
 obj:=λi h st b f=>by
  have e:b=it:=by simpa using f
  subst e;obtain⟨o,e,c,d⟩:=st;exact⟨o,e,λv z=>by rw[d]at z;cases z⟩
 keep:=λi h h' st k=>st.at λo e=>k it (by simp) o e
 item:=by
  intro X n hw q B i ZB s Z H E I j st m;subst n hw q;obtain⟨xs,x,g,hx⟩:=m;obtain⟨A3,l,p,F⟩:=I.tuple g;obtain⟨u,J,D⟩:=l.get hx;obtain⟨f0,A,L,y,t,r⟩:=j it (by simp);refine wpAny_pyNext_tuple_item st (show s.heap.IsTuple a A3.toArray from p) (x:=u) (by simpa using J) λh' Fm C=>?_
  have N:Inv X ZB Z H { s with heap:=h' }:=I.turned (t':=s.toks) (λb o f e=>(C.2 b f).trans e) f0 A y t r
  obtain⟨o,e,c,d⟩:=id Fm;exact⟨u,rfl,UD (s:={ s with heap:=h' }) e c d (by decide) ⟨x,H,N,D,⟨rfl,λys G=>by rw[I.ZAO G g];exact hx⟩,Fm,λb f=>(j b f).1⟩⟩
 done:=by
  intro X n hw q B i ZB s Z H E I j st m;subst n hw q;obtain⟨xs,g,hx⟩:=m;obtain⟨A3,l,p,F⟩:=I.tuple g;obtain⟨f0,A,L,y,t,r⟩:=j it (by simp);have O:=l.length;exact wpAny_pyNext_tuple_end (I.ok.hd B) st (show s.heap.IsTuple a A3.toArray from p) (by simp;omega) λh' M=>⟨rfl,I.turned (t':=s.toks) (λb o f e=>M b o f e) f0 A y t r⟩
 self:=λ_ _ _ _ _ st h=>wpAny_pyIter_tupleiter st h
theorem wy{P:Program}{K:ZHy}(it:Addr)(lo:Int)(n:Nat):Turn P w K tg (N2 lo n) [it] it (λi h=>IsRangeIter h it (lo+(i:Nat) * 1) ((n:Int) - (i:Nat)) 1) where
 mem:=by simp
 obj:=λi h st b a=>by
  have e:b=it:=by simpa using a
  subst e;exact⟨_,st,λv z=>by
   have r:Data.fields _=Data.cell v:=z;cases r⟩
 keep:=λi h h' st k=>k it (by simp) _ st
 item:=by
  intro X g hw j f i ZB s Z H E I c st d;subst g hw j;obtain⟨f0,q,x,p,m,l⟩:=c it (by simp);have W:=Walks.range (prog:=X.prog) (w:=X.w) (I.ok.hd f) it lo 1 n;refine W.item i s _ _ d st λv h' tk u Fm kk=>?_;obtain⟨t,rfl⟩:=u;have A:Inv X ZB Z H { s with heap:=h',toks:=tk }:=I.turned (λb o a e=>kk b o (by simpa using a) e) f0 q p m l
  refine⟨_,rfl,UD (s:={ s with heap:=h',toks:=tk }) (n:="range_iterator") Fm rfl rfl (by decide) ⟨.int (lo+i),H,A,⟨t,?_⟩,⟨rfl,rfl⟩,Fm,λb a=>(c b a).1⟩⟩
  rw[Int.mul_one]
 done:=by
  intro X g hw j f i ZB s Z H E I c st d;subst g hw j;obtain⟨f0,q,x,p,m,l⟩:=c it (by simp);exact wpAny_pyNext_range_end (I.ok.hd f) st (by have:n<=i:=d;omega) λh' y=>⟨rfl,I.turned (t':=s.toks) (λb o a e=>y b o a e) f0 q p m l⟩
 self:=λ_ _ _ _ _ st h=>wpAny_pyIter_rangeiter st h
theorem ZE5{R:It->Hp->Prop}{lo hi:Int}{t u v:Tok}(I:Inv X ZB Z H s)(h1:-(2 ^ 62)<=lo)(h2:lo<2 ^ 62)(f:-(2 ^ 62)<=hi)(d:hi<2 ^ 62)
  (q:R (N2 lo (hi - lo).toNat) H):wpAny (model X.prog X.w) X.A (pyIter (.ref s.heap.objs.size)) (lQ X ZB Z tg R) E { s with heap:=s.heap.push { cls:=.type "range", data:=.fields #[.int lo t,.int hi u,.int 1 v] },toks:=tk }:=by
 refine wpAny_pyIter_range (IsRange.new ..) (small_one h1 h2 f d) ?_;have a:Inv X ZB Z H { s with heap:=s.heap.push { cls:=.type "range", data:=.fields #[.int lo t,.int hi u,.int 1 v] },toks:=tk }:=I.kept λb o e=>Ao _ e
 refine⟨(s.heap.push { cls:=.type "range", data:=.fields #[.int lo t,.int hi u,.int 1 v] }).objs.size,[(s.heap.push { cls:=.type "range", data:=.fields #[.int lo t,.int hi u,.int 1 v] }).objs.size],_,_,H,rfl,
  a.kept (t':=tk) λb o e=>Ao _ e,wy _ lo (hi - lo).toNat,?_,λb c=>?_,q⟩
 .have e1:lo+((0:Nat):Int) * 1=lo:=by simp
  have g:(((hi - lo).toNat:Nat):Int) - ((0:Nat):Int)=Builtin.Range.rangeSize lo hi 1:=by rw[rangeSize_one];split <;> omega
  show IsRangeIter _ _ (lo+((0:Nat):Int) * 1) ((((hi - lo).toNat:Nat):Int) - ((0:Nat):Int)) 1;rw[e1,g];exact BQ _ rfl
 .have e:b=(s.heap.push { cls:=.type "range", data:=.fields #[.int lo t,.int hi u,.int 1 v] }).objs.size:=by simpa using c
  subst e;exact a.O4 (Aa _) (a.AB.fresh (Aa _))
def WZ(ta:TA):TI:=λZ H R=>ta Z H λvs H1=>∃j:Int,vs=[.int j]/\-(2 ^ 62)<=j/\j<2 ^ 62/\R (N2 0 j.toNat) H1
def R1(wi:TI)(g:TG)(tb:TS):TS:=λD Z H=>wi Z H λJ H1=>∃W:Nat->Nat->St->Hp->Prop,(∃m,W 0 m Z H1)/\∀i m Z H,W i m Z H->
 (J.stop i H/\D.nx Z H)∨(J.go i H/\∃N:St->Hp->Prop,(∀ σ' H',N σ' H'->∃a,a < m/\W (i+1) a σ' H')/\∀x H',J.EK i H x H'->g x Z H' λσ2 H2=>tb { D with nx:=N,ct:=N,bk:=D.nx } σ2 H2)
noncomputable def NX(fp:List Addr)(h:Heap):ZHz:=fp.filterMap λb=>(h.get? b).map λo=>(b,o)
theorem Si{o:Obj}(a:b∈fp)(e:h.get? b=some o):(b,o)∈NX fp h:=List.mem_filterMap.mpr ⟨b,a,by rw[e];rfl⟩
theorem zA{p:Addr×Obj}(a:p∈NX fp h):p.1∈fp/\h.get? p.1=some p.2:=by
 obtain⟨b,c,e⟩:=List.mem_filterMap.mp a;cases q:h.get? b with
 |none=>rw[q]at e;cases e
 |some o=>
  rw[q]at e;have d:(b,o)=p:=BG e;subst d;exact⟨c,q⟩
theorem Inv.pinned(I:Inv X ZB Z H s)(g:∀b∈fp,FA X ZB H b)(ho:∀b∈fp,∃o,s.heap.get? b=some o/\∀v,o.data≠.cell v):Inv X (ZB++NX fp s.heap) Z H s:=
 I.fP λp f=>(List.mem_append.mp f).elim (λz=>I.pin p (C1 _ z)) λz=>by
  obtain⟨a,e⟩:=zA z;obtain⟨f0,i,h,_⟩:=g p.1 a;obtain⟨o,c,d⟩:=ho p.1 a;rw[e]at c;cases c;exact⟨e,f0,i,h,d⟩
theorem Inv.Oo{pl:ZHz}(I:Inv X (ZB++pl) Z H s):Inv X ZB Z H s:=I.fP λp a=>I.pin p (C1 _ (DN _ a))
theorem ZB3{lo:Int}{g:TG}{tb:TS}{D:Ends}(Pv:Nat->St->Hp->Prop)(f:Pv 0 Z H)
  (d:∀i Z H,i<n->Pv i Z H->g (.int (lo+i)) Z H λσ2 H2=>tb { D with nx:=Pv (i+1),ct:=Pv (i+1),bk:=D.nx } σ2 H2) (hd:∀ Z H,Pv n Z H->D.nx Z H) :
  ∃W:Nat->Nat->St->Hp->Prop,(∃m,W 0 m Z H)/\∀i m Z H,W i m Z H->
   ((N2 lo n).stop i H/\D.nx Z H)∨((N2 lo n).go i H/\∃N:St->Hp->Prop,(∀ σ' H',N σ' H'->∃b,b < m/\W (i+1) b σ' H')/\∀x H',(N2 lo n).EK i H x H'->g x Z H' λσ2 H2=>tb { D with nx:=N,ct:=N,bk:=D.nx } σ2 H2):=by
 refine⟨λi m Z H=>m=n - i/\i<=n/\Pv i Z H,⟨n,by simp,CJ _,f⟩,?_⟩;rintro i m Z H⟨rfl,hi,p⟩
 by_cases a:i<n
 .refine .inr ⟨a,Pv (i+1),λσ' H' c=>⟨n - (i+1),by omega,rfl,a,c⟩,λx H' y=>?_⟩;obtain⟨e,y⟩:=y;subst e y;exact d i Z _ a p
 .have e:i=n:=by omega
  subst e;exact .inl ⟨Aa _,hd Z H p⟩
abbrev R2:=V->V->Hp->VK->Prop
def BD(X:Cx)(f:Value->Value->Sem Value)(r:R2):Prop:=
 ∀(ZB:ZHz)(s:Shared)(Z:St)(H:Hp)(x y:V)(v u:Value)(Q:VK),Inv X ZB Z H s->RelV x v->RelV y u->r x y H Q->
  wpAny (model X.prog X.w) X.A (f v u) (EP X ZB Z Q) X.xe s
def SS(X:Cx)(f:Value->Sem Value)(r:V->Hp->VK->Prop):Prop:=
 ∀(ZB:ZHz)(s:Shared)(Z:St)(H:Hp)(x:V)(v:Value)(Q:VK),Inv X ZB Z H s->RelV x v->r x H Q->
  wpAny (model X.prog X.w) X.A (f v) (EP X ZB Z Q) X.xe s
def Bo(X:Cx)(f:Value)(r:List V->Hp->VK->Prop):Prop:=
 ∀(ZB:ZHz)(s:Shared)(Z:St)(H:Hp)(xs:List V)(us:List Value)(Q:VK),Inv X ZB Z H s->Vals xs us->r xs H Q->
  wpAny (model X.prog X.w) X.A (call f us) (EP X ZB Z Q) X.xe s
def BE(r:R2)(ta tb:TE):TE:=λZ H Q=>ta Z H λx H1=>tb Z H1 λy H2=>r x y H2 Q
def SJ(r:V->Hp->VK->Prop)(ta:TE):TE:=λZ H Q=>ta Z H λx H1=>r x H1 Q
def rI(C:Int->Int->Prop)(g:Int->Int->V):R2:=λx y H Q=>∃i j,x=.int i/\y=.int j/\C i j/\Q (g i j) H
def Gu(g:Int->Int->V):R2:=λx y H Q=>∃i j,x=.int i/\y=.int j/\Q (g i j) H
def rU(g:Int->V):V->Hp->VK->Prop:=λx H Q=>∃i,x=.int i/\Q (g i) H
section
variable{a b c:Expr}
theorem VB(l:PE X a ta)(k:PE X b tb){R:V->V->Hp->Prop}(I:Inv X ZB Z H s)
  (h:ta Z H λx H1=>tb Z H1 λy H2=>R x y H2)
  (j:∀v u s2 x y H2,Inv X ZB Z H2 s2->RelV x v->RelV y u->R x y H2->wpAny (model X.prog X.w) X.A (f v u) Q X.xe s2) :
  wpAny (model X.prog X.w) X.A (eval a X.env) (λv s₁=>wpAny (model X.prog X.w) X.A (eval b X.env) (λu c=>wpAny (model X.prog X.w) X.A (f v u) Q X.xe c) X.xe s₁) X.xe s:=by
 refine Aw (l ZB s Z H _ I h) λv s1 V8=>?_;obtain⟨x,H1,I1,e,i⟩:=V8;refine Aw (k ZB s1 Z H1 _ I1 i) λu s2 ZBd=>?_;obtain⟨y,H2,I2,d,g⟩:=ZBd;exact j v u s2 x y H2 I2 e d g
theorem T4{C:Int->Int->Prop}{g:Int->Int->Int}
  (rule:∀(i j:Int)(t u:Tok)(s:Shared)(Q:Value->Shared->Prop)(E:Value->Shared->Prop),C i j->Q (.int (g i j) s.toks) { s with toks:=s.toks+1 }->wpAny (model X.prog X.w) X.A (f (.int i t) (.int j u)) Q E s) :
  BD X f (rI C λi j=>.int (g i j)):=by
 intro ZB s Z H x y v u Q I b a h;obtain⟨i,j,rfl,rfl,c,q⟩:=h;obtain⟨t,rfl⟩:=b;obtain⟨t',rfl⟩:=a;exact rule i j t t' s _ _ c ⟨.int (g i j),H,I.tok _,⟨_,rfl⟩,q⟩
theorem aw{g:Int->Int->Int}
  (rule:∀(i j:Int)(t u:Tok)(s:Shared)(Q:Value->Shared->Prop)(E:Value->Shared->Prop),Q (.int (g i j) s.toks) { s with toks:=s.toks+1 }->wpAny (model X.prog X.w) X.A (f (.int i t) (.int j u)) Q E s) :
  BD X f (Gu λi j=>.int (g i j)):=by
 intro ZB s Z H x y v u Q I b a h;obtain⟨i,j,rfl,rfl,q⟩:=h;obtain⟨t,rfl⟩:=b;obtain⟨t',rfl⟩:=a;exact rule i j t t' s _ _ ⟨.int (g i j),H,I.tok _,⟨_,rfl⟩,q⟩
theorem Rz{g:Int->Int->Bool}
  (rule:∀(i j:Int)(t u:Tok)(s:Shared)(Q:Value->Shared->Prop)(E:Value->Shared->Prop),Q (.bool (g i j)) s->wpAny (model X.prog X.w) X.A (f (.int i t) (.int j u)) Q E s) :
  BD X f (Gu λi j=>.bl (g i j)):=by
 intro ZB s Z H x y v u Q I b a h;obtain⟨i,j,rfl,rfl,q⟩:=h;obtain⟨t,rfl⟩:=b;obtain⟨t',rfl⟩:=a;exact rule i j t t' s _ _ ⟨.bl (g i j),H,I,rfl,q⟩
def iQ(i j:Int):Prop:=0<=j/\j<=1000000/\i.natAbs<2 ^ 64
theorem FE:BD X (binaryOp .Add) (Gu λi j=>.int (i+j)):=aw λ_ _ _ _ _ _ _ q=>add_int q
theorem bN:BD X (binaryOp .Sub) (Gu λi j=>.int (i - j)):=aw λ_ _ _ _ _ _ _ q=>sub_int q
theorem JM:BD X (binaryOp .Mod) (rI (λ_ j=>0<j) λi j=>.int (i % j)):=T4 λi j _ _ _ _ _ a q=>by
 have h1:(0:Int)<j:=a;exact mod_int' (by omega) (by rw[Int.fmod_eq_emod_of_nonneg i (by omega)];exact q)
theorem Lc:BD X (binaryOp .Pow) (rI iQ λi j=>.int (i ^ j.toNat)):=T4 λ_ _ _ _ _ _ _ a q=>pow_int_small a.1 a.2.1 a.2.2 q
theorem pS{f:Value->Sem Value}{g:Int->Int}
  (rule:∀(i:Int)(t:Tok)(s:Shared)(Q:Value->Shared->Prop)(E:Value->Shared->Prop),Q (.int (g i) s.toks) { s with toks:=s.toks+1 }->wpAny (model X.prog X.w) X.A (f (.int i t)) Q E s) :
  SS X f (rU λi=>.int (g i)):=by
 intro ZB s Z H x v Q I a h;obtain⟨i,rfl,q⟩:=h;obtain⟨t,rfl⟩:=a;exact rule i t s _ _ ⟨.int (g i),H,I.tok _,⟨_,rfl⟩,q⟩
theorem Z4:SS X (unaryOp .USub) (rU λi=>.int (-i)):=pS λ_ _ _ _ _ q=>neg_int q
end
noncomputable def UJ:V->V->Bool
 | .A8,.A8=>true | .A8,.int _=>true | .int _,.A8=>true | .A8,.bl _=>true | .bl _,.A8=>true | .A8,.str _=>true | .str _,.A8=>true
 | .int _,.int _=>true | .bl _,.bl _=>true | .str _,.str _=>true | .Gs _,.Gs _=>true
 | .int _,.str _=>true | .str _,.int _=>true | .bl _,.str _=>true | .str _,.bl _=>true
 |_,_=>false
def cU:R2:=λx y H Q=>UJ x y=true/\Q (.bl (decide (x=y))) H
def ee:R2:=λx y H Q=>UJ x y=true/\Q (.bl (!decide (x=y))) H
theorem gW{i j:Int}:decide (V.int i=V.int j)=(i == j):=by
 rw[KI];simp
theorem lV{i j:Bool}:decide (V.bl i=V.bl j)=(i == j):=by
 rw[KI];simp
theorem j8{i j:Str}:decide (V.str i=V.str j)=(i == j):=by
 rw[KI];simp
theorem df{i j:Array UInt8}:decide (V.Gs i=V.Gs j)=(i.toList == j.toList):=by
 rw[KI];cases i;cases j;simp
section
variable{a b c:Expr}
theorem Bs{Q:VK}{k k':Bool}(I:Inv X ZB Z H s)(q:Q (.bl k) H)(e:k=k'):EP X ZB Z Q (.bool k') s:=by
 subst e;exact⟨.bl k,H,I,rfl,q⟩
theorem De:BD X (compareOp .Eq) cU:=by
 intro ZB s Z H x y v u Q I c a h;obtain⟨b,q⟩:=h;cases x with
 |A8=>
  cases c;cases y with
  |A8=>cases a;exact PySem.EqNone.eq_none_none (Bs I q (by simp))
  |bl j=>cases a;exact PySem.EqNone.eq_none_bool (Bs I q (by simp))
  |int j=>obtain⟨t',rfl⟩:=a;exact PySem.EqNone.eq_none_int (Bs I q (by simp))
  |str j=>obtain⟨t',rfl⟩:=a;exact PySem.EqNone.eq_none_str (Bs I q (by simp))
  |_=>exact absurd (show false=true from b) Cv
 |bl i=>
  cases c;cases y with
  |A8=>cases a;exact PySem.EqNone.eq_bool_none (Bs I q (by simp))
  |bl j=>cases a;exact eq_bool (Bs I q lV)
  |str j=>obtain⟨t',rfl⟩:=a;exact PySem.EqMixed.eq_bool_str (Bs I q (by simp))
  |_=>exact absurd (show false=true from b) Cv
 |int i=>
  obtain⟨t,rfl⟩:=c;cases y with
  |A8=>cases a;exact PySem.EqNone.eq_int_none (Bs I q (by simp))
  |int j=>obtain⟨t',rfl⟩:=a;exact eq_int (Bs I q gW)
  |str j=>obtain⟨t',rfl⟩:=a;exact PySem.EqMixed.eq_int_str (Bs I q (by simp))
  |_=>exact absurd (show false=true from b) Cv
 |str i=>
  obtain⟨t,rfl⟩:=c;cases y with
  |A8=>cases a;exact PySem.EqNone.eq_str_none (Bs I q (by simp))
  |bl j=>cases a;exact PySem.EqMixed.eq_str_bool (Bs I q (by simp))
  |int j=>obtain⟨t',rfl⟩:=a;exact PySem.EqMixed.eq_str_int (Bs I q (by simp))
  |str j=>obtain⟨t',rfl⟩:=a;exact eq_str (Bs I q j8)
  |_=>exact absurd (show false=true from b) Cv
 |Gs i=>
  obtain⟨t,rfl⟩:=c;cases y with
  |Gs j=>obtain⟨t',rfl⟩:=a;exact PySem.W.eq_bytes (Bs I q df)
  |_=>exact absurd (show false=true from b) Cv
 |_=>cases y <;> exact absurd (show false=true from b) Cv
theorem Sa:BD X (compareOp .NotEq) ee:=by
 intro ZB s Z H x y v u Q I c a h;obtain⟨b,q⟩:=h;cases x with
 |A8=>
  cases c;cases y with
  |A8=>cases a;exact PySem.EqNone.ne_none_none (Bs I q (by simp))
  |bl j=>cases a;exact PySem.EqNone.ne_none_bool (Bs I q (by simp))
  |int j=>obtain⟨t',rfl⟩:=a;exact PySem.EqNone.ne_none_int (Bs I q (by simp))
  |str j=>obtain⟨t',rfl⟩:=a;exact PySem.EqNone.ne_none_str (Bs I q (by simp))
  |_=>exact absurd (show false=true from b) Cv
 |bl i=>
  cases c;cases y with
  |A8=>cases a;exact PySem.EqNone.ne_bool_none (Bs I q (by simp))
  |bl j=>cases a;exact ne_bool (Bs I q (sg not lV))
  |str j=>obtain⟨t',rfl⟩:=a;exact PySem.EqMixed.ne_bool_str (Bs I q (by simp))
  |_=>exact absurd (show false=true from b) Cv
 |int i=>
  obtain⟨t,rfl⟩:=c;cases y with
  |A8=>cases a;exact PySem.EqNone.ne_int_none (Bs I q (by simp))
  |int j=>obtain⟨t',rfl⟩:=a;exact ne_int (Bs I q (sg not gW))
  |str j=>obtain⟨t',rfl⟩:=a;exact PySem.EqMixed.ne_int_str (Bs I q (by simp))
  |_=>exact absurd (show false=true from b) Cv
 |str i=>
  obtain⟨t,rfl⟩:=c;cases y with
  |A8=>cases a;exact PySem.EqNone.ne_str_none (Bs I q (by simp))
  |bl j=>cases a;exact PySem.EqMixed.ne_str_bool (Bs I q (by simp))
  |int j=>obtain⟨t',rfl⟩:=a;exact PySem.EqMixed.ne_str_int (Bs I q (by simp))
  |str j=>obtain⟨t',rfl⟩:=a;exact ne_str (Bs I q (sg not j8))
  |_=>exact absurd (show false=true from b) Cv
 |Gs i=>
  obtain⟨t,rfl⟩:=c;cases y with
  |Gs j=>obtain⟨t',rfl⟩:=a;exact PySem.W.ne_bytes (Bs I q (sg not df))
  |_=>exact absurd (show false=true from b) Cv
 |_=>cases y <;> exact absurd (show false=true from b) Cv
theorem MY:BD X (compareOp .Lt) (Gu λi j=>.bl (decide (i<j))):=Rz λ_ _ _ _ _ _ _ q=>lt_int q
theorem Y9:BD X (compareOp .LtE) (Gu λi j=>.bl (decide (i<=j))):=Rz λ_ _ _ _ _ _ _ q=>le_int q
theorem Ja:BD X (compareOp .Gt) (Gu λi j=>.bl (decide (j<i))):=Rz λ_ _ _ _ _ _ _ q=>gt_int q
theorem xm:BD X (compareOp .GtE) (Gu λi j=>.bl (decide (j<=i))):=Rz λ_ _ _ _ _ _ _ q=>ge_int q
theorem O3:BD X (compareOp .Is) (λx y H Q=>y=.A8/\Q (.bl (decide (x=.A8))) H):=by
 intro ZB s Z H x y v u Q I a b h;obtain⟨rfl,q⟩:=h;cases b;refine is_none_gen (Bs I q ?_);cases x <;> first
  | (cases a;rfl)
  | (obtain⟨t,rfl⟩:=a;rfl)
theorem aI:BD X (compareOp .IsNot) (λx y H Q=>y=.A8/\Q (.bl (!decide (x=.A8))) H):=by
 intro ZB s Z H x y v u Q I a b h;obtain⟨rfl,q⟩:=h;cases b;refine isnot_none_gen (Bs I q ?_);cases x <;> first
  | (cases a;rfl)
  | (obtain⟨t,rfl⟩:=a;rfl)
theorem iE(b:Expr)(h:op≠.In:=by decide)(h2:op≠.NotIn:=by decide):behindInMarks op b=false:=by
 have e1:(op == CmpOp.In)=false:=by cases op <;> first|rfl|exact absurd rfl h
 have a:(op == CmpOp.NotIn)=false:=by cases op <;> first|rfl|exact absurd rfl h2
 cases b <;> simp[behindInMarks,e1,a]
def Pa(t:TE):TT:=λZ H Q=>t Z H λx H'=>∃k,x=.bl k/\Q k H'
theorem oB{r:R2}(ho:BD X (compareOp op) r)(o:PE X a ta)(n:PE X b tb)(m:behindInMarks op b=false):PT X (.Compare a [op] [b] pos) (Pa (BE r ta tb)):=by
 intro ZB s Z H Q I h;refine wpAny_isTrue_Compare1 (o.k I h λv s1 x H1 I1 g l=>n.k I1 l λu s2 y H2 I2 f j=>
  Aw (ho ZB s2 Z H2 x y v u _ I2 g f j) λc p⟨z,H3,I3,d,k,e,i⟩=>?_) m
 subst e;cases d;exact wD ⟨H3,I3,i⟩
def V6(r b:R2)(ta tb tc:TE):TE:=λZ H Q=>ta Z H λx H1=>tb Z H1 λy H2=>r x y H2 λz H3=>∃k,z=.bl k/\
 (if k=true then tc Z H3 λa H4=>b y a H4 Q else Q (.bl false) H3)
theorem K8:(sizeLine:Nat)<2 ^ 63:=by rw[ZA1];decide
theorem ar:BD X (binaryOp .Add) (λx y H Q=>∃i j,x=.str i/\y=.str j/\i.length+j.length<=sizeLine/\Q (.str (i++j)) H):=by
 intro ZB s Z H x y v u Q I b a h;obtain⟨i,j,rfl,rfl,c,q⟩:=h;obtain⟨t,rfl⟩:=b;obtain⟨t',rfl⟩:=a;exact add_str (λt' tk=>⟨.str (i++j),H,I.tok _,⟨_,rfl⟩,q⟩) c
theorem vals1{x:V}(r:Vals [x] us):∃u,us=[u]/\RelV x u:=by
 cases r with
 |cons b a=>cases a;exact⟨_,rfl,b⟩
theorem vals2{x y:V}(r:Vals [x,y] us):∃u a,us=[u,a]/\RelV x u/\RelV y a:=by
 cases r with
 |cons e d=>
  cases d with
  |cons c b=>cases b;exact⟨_,_,rfl,e,c⟩
theorem oU(b:X.calm=true):Bo X (.builtin "max") (λxs H Q=>∃i j,xs=[.int i,.int j]/\Q (.int (if j > i then j else i)) H):=by
 intro ZB s Z H xs us Q I r h;obtain⟨i,j,rfl,q⟩:=h;obtain⟨u,c,rfl,⟨t,rfl⟩,⟨t',rfl⟩⟩:=vals2 r;refine max_two_ints (I.ok.hd b) λh' tk k=>⟨_,H,I.kept k,?_,q⟩
 by_cases a:j > i
 .rw[oM a,oM a];exact⟨_,rfl⟩
 .rw[nr a,nr a];exact⟨_,rfl⟩
theorem ZAn(b:X.calm=true):Bo X (.builtin "min") (λxs H Q=>∃i j,xs=[.int i,.int j]/\Q (.int (if j<i then j else i)) H):=by
 intro ZB s Z H xs us Q I r h;obtain⟨i,j,rfl,q⟩:=h;obtain⟨u,c,rfl,⟨t,rfl⟩,⟨t',rfl⟩⟩:=vals2 r;refine min_two_ints (I.ok.hd b) λh' tk k=>⟨_,H,I.kept k,?_,q⟩
 by_cases a:j<i
 .rw[oM a,oM a];exact⟨_,rfl⟩
 .rw[nr a,nr a];exact⟨_,rfl⟩
end
structure UE (h:Heap) (x dx C:Addr) (mA:ZI0):Prop where
 obj:h.get? x=some (PySem.W.instObj C dx)
 ns:h.Ns1 dx mA
 ne:dx≠x
theorem kQ(n:h.Ns1 dx mA):∃od,h.get? dx=some od/\∀name,PySem.W.lookIn name od=some (mA name):=by
 obtain⟨o,es,ep,ho,hd,hk,_,c⟩:=n;refine⟨o,ho,λname=>?_⟩;have e:=c name;unfold nsFind findBy at e;rw[<- ZGM]at e;unfold PySem.W.lookIn;rw[hd];dsimp only;split
 .rename_i y q;rw[q]at e;exact sg some e
 .rename_i q;rw[q]at e;have a:es.toList.any (·.refKey)=false:=by
   rw[List.any_eq_false];intro y b;obtain⟨z,t,L7⟩:=hk y (Array.mem_toList_iff.mp b);simp[DictEntry.refKey,L7]
  have d:¬ es.toList.any (·.refKey)=true:=by rw[a];exact Cv
  rw[nr d];exact sg some e
theorem UE.look{x:Addr}(I:UE h x dx C mA):∃od,PySem.W.InstAt h x (PySem.W.instObj C dx) C (some od)/\∀name,PySem.W.lookIn name od=some (mA name):=
 let ⟨od,ho,hl⟩:=kQ I.ns
 ⟨od,⟨I.obj,rfl,rfl,ho⟩,hl⟩
theorem EF.some_of{o:Option Value}(r:EF (some v) o):∃u,o=some u/\RelV v u:=by
 cases o with
 |none=>exact(show False from r).elim
 |some u=>exact⟨u,rfl,r⟩
theorem EF.none_of{o:Option Value}(r:EF none o):o=none:=by
 cases o with
 |none=>rfl
 |some u=>exact(show False from r).elim
theorem uh(r:RelV v u):PySem.W.handedIn u=true:=by
 cases v with
 |A8=>cases(show u=Value.none from r);rfl
 |bl b=>cases(show u=Value.bool b from r);rfl
 |int i=>obtain⟨t,e⟩:=(show ∃t,u=Value.int i t from r);cases e;rfl
 |str x=>obtain⟨t,e⟩:=(show ∃t,u=Value.str x t from r);cases e;rfl
 |Gs b=>obtain⟨t,e⟩:=(show ∃t,u=Value.bytes b t from r);cases e;rfl
 |K3 b=>obtain⟨t,e⟩:=(show ∃t,u=Value.float b t from r);cases e;rfl
 |ref a=>cases(show u=Value.ref a from r);rfl
 |ty n=>cases(show u=Value.type n from r);rfl
section
variable{P:Program}{fs oF:List (Str×V)}
theorem wV(AB:BX P w H h)(e:H a=some (.ins C dx fs)):∃mA,UE h a dx C mA/\(∀f,EF (fs.lookup f) (mA f))/\PySem.Within mA (fs.map (·.1))/\fs.length<=1000/\H dx=some (.own a):=by
 obtain⟨d,z,ne,ob,mA,n,r,q⟩:=(show BZ P w H h a (.ins C dx fs)from AB a _ e);exact⟨mA,⟨ob,n,ne⟩,r,q,z,d⟩
end
structure YA (K:ZHy) (C:Addr):Prop where
 pg:PySem.W.plainGet K C Str.empty=true
 hd:PySem.W.hasDictIn K C=true
 po:PySem.W.plainOver K C=true
 sa:PySem.W.findIn K (.ref C) "__setattr__"=some (some (.builtin "object.__setattr__"))
theorem YA.get{K:ZHy}{C:Addr}(c:YA K C)(f:Str):PySem.W.plainGet K C f=true:=c.pg
def kC(K:ZHy)(C:Addr)(f:Str):Prop:=PySem.W.findIn K (.ref C) f=some none
structure N1 (K:ZHy) (C:Addr) (f:Str) (v:V) (u:Value):Prop where
 at_:PySem.W.findIn K (.ref C) f=some (some u)
 rel:RelV v u
 get:PySem.W.specialIn K u "__get__"=some none
 cp:PySem.W.copiedNames.contains f=false
section
variable{fs:List (Str×V)}{f:Str}
theorem r9{env:Env}(a:attributeBase e f env (eval e env)=eval e env)
  (h:wpAny (model prog w) A (eval e env) (λo s₁=>wpAny (model prog w) A (getAttr o f true) Q E s₁) E s):wpAny (model prog w) A (eval (.Attribute e f pos) env) Q E s:=
 Attribute_any_ h (by rw[arm_eval_Attribute,a])
variable{o value:Expr}{pos' UT:Pos}{tv:TE}
variable{b:Bool}
inductive Fs (K:ZHy) (H:Hp):V->Value->Prop where
 |A8:Fs K H .A8 (.type "NoneType")
 |bl (x:Bool):Fs K H (.bl x) (.type "bool")
 |int (i:Int):Fs K H (.int i) (.type "int")
 |str (x:Str):Fs K H (.str x) (.type "str")
 |K3 (x:UInt64):Fs K H (.K3 x) (.type "float")
 |lst {a:Addr}{xs:List V}(e:H a=some (.lst xs)):Fs K H (.ref a) (.type "list")
 |Et {a:Addr}{o:Obj}{xs:List V}(e:H a=some (.Et o (.lst xs))):Fs K H (.ref a) (.type "list")
 |tup {a:Addr}{xs:List V}(e:H a=some (.tup xs)):Fs K H (.ref a) (.type "tuple")
 |dK {a:Addr}{A6:List (Key×V)}(e:H a=some (.dK A6)):Fs K H (.ref a) (.type "dict")
 |dT {a:Addr}{A6:List (List Key×V)}(e:H a=some (.dT A6)):Fs K H (.ref a) (.type "dict")
 |ins {a C dx:Addr}{fs:List (Str×V)}(e:H a=some (.ins C dx fs)) (cl:YA K C) (ha:PySem.W.findIn K (.ref C) "__class__"=some (some (.builtin "object.__class__")))
   (hn:PySem.W.specialIn K (.builtin "object.__class__") "__get__"=some (some (.builtin "getset_descriptor.__get__"))) (Jj:PySem.W.takesIn K (.builtin "object.__class__")=some true)
   (hm:PySem.W.mroIn K C (.type "object")=some true):Fs K H (.ref a) (.ref C)
theorem wM{x:V}{t:Value}(I:Inv X ZB Z H s)(d:RelV x u)(ty:Fs X.K H x t)(e:PySem.W.kitOne X.K t c=some b)(h:∀tk,Q (.bool b) { s with toks:=tk }):
  wpAny (model X.prog X.w) A (call (.builtin "isinstance") [u,c]) Q E s:=by
 cases ty with
 |A8=>cases(show u=Value.none from d);exact Hi PySem.W.kitx_none I.CB True.intro e (λz=>nomatch z) h
 |bl y=>cases(show u=Value.bool y from d);exact Hi PySem.W.kitx_bool I.CB True.intro e (λz=>nomatch z) h
 |int i=>obtain⟨t,q⟩:=(show ∃t,u=Value.int i t from d);cases q;exact Hi PySem.W.kitx_int I.CB True.intro e (λz=>nomatch z) h
 |str y=>obtain⟨t,q⟩:=(show ∃t,u=Value.str y t from d);cases q;exact Hi PySem.W.kitx_str I.CB True.intro e (λz=>nomatch z) h
 |K3 y=>obtain⟨t,q⟩:=(show ∃t,u=Value.float y t from d);cases q;exact Hi PySem.W.kitx_float I.CB True.intro e (λz=>nomatch z) h
 |@lst a xs ea=>
  cases(show u=Value.ref a from d);obtain⟨_,_,n,_,h1⟩:=(show BZ X.prog X.w H s.heap a (.lst xs)from I.AB a _ ea);exact Hi ZHB I.CB ⟨_,h1,rfl⟩ e (λz=>nomatch z) h
 |@Et a ob xs ea=>
  cases(show u=Value.ref a from d);obtain⟨_,_,_,n,_,h1⟩:=(show BZ X.prog X.w H s.heap a (.Et ob (.lst xs))from I.AB a _ ea);exact Hi ZHB I.CB ⟨_,h1,rfl⟩ e (λz=>nomatch z) h
 |@tup a xs ea=>
  cases(show u=Value.ref a from d);obtain⟨_,_,_,p⟩:=(show BZ X.prog X.w H s.heap a (.tup xs)from I.AB a _ ea);obtain⟨o,h1,h2,_⟩:=p.1;exact Hi PySem.W.kitx_tuple I.CB ⟨o,h1,h2⟩ e (λz=>nomatch z) h
 |@dK a A6 ea=>
  cases(show u=Value.ref a from d);obtain⟨_,_,vs,_,p⟩:=(show BZ X.prog X.w H s.heap a (.dK A6)from I.AB a _ ea);obtain⟨o,es,ep,h1,h2,_⟩:=p;exact Hi ZHA I.CB ⟨o,h1,h2.1⟩ e (λz=>nomatch z) h
 |@dT a A6 ea=>
  cases(show u=Value.ref a from d);obtain⟨_,_,xs,_,o,es,ep,h1,h2,_⟩:=(show BZ X.prog X.w H s.heap a (.dT A6)from I.AB a _ ea);exact Hi ZHA I.CB ⟨o,h1,h2.1⟩ e (λz=>nomatch z) h
 |@ins a C dx fs ea cl j f Jj g=>
  cases(show u=Value.ref a from d);obtain⟨mA,O,_⟩:=wV I.AB ea;obtain⟨od,J,_⟩:=O.look;exact Hi (PySem.W.kitx_own (cl.get _) cl.hd j f Jj g) I.CB J e (λz=>nomatch z) h
end
structure B8 (k:Nat) (A:Around):Prop where
 hd:A.handled=none
 dp:A.depth+3 * k+5<recursionLimit
 un:A.units+16 * k+200<cLine
theorem B8.mono{k:Nat}(r:B8 k A)(h:j<=k):B8 j A:=⟨r.hd,by have:=r.dp;omega,by have:=r.un;omega⟩
theorem B8.deeper{k:Nat}(r:B8 (k+1) A)(env:Env):B8 k (A.deeper env):=
 ⟨r.hd,by have:=r.dp;show A.depth+1+3 * k+5<_;omega,by have:=r.un;show A.units+3+16 * k+200<_;omega⟩
theorem B8.in1{k:Nat}(r:B8 (k+1) A):B8 k A.in1:=
 ⟨r.hd,by have:=r.dp;show A.depth+3 * k+5<_;omega,by have:=r.un;show A.units+1+16 * k+200<_;omega⟩
theorem vF:(A.under (.builtin "type.__call__" ⟨.ref C::us,kw⟩)).depth=A.depth+1:=by
 first|rfl|simp[Around.under,Code.weight,Code.isCreation,Code.isGuard,Code.isCaller,Code.frames,Code.isFrame,guardIds]
theorem pB:(A.under (.builtin "type.__call__" ⟨.ref C::us,kw⟩)).units=A.units+1:=by
 first|rfl|simp[Around.under,Code.cUnits,Code.frames,Code.isFrame]
theorem B8.make{k:Nat}(r:B8 (k+1) A)(C:Addr)(us:List Value)(kw:List (Str×Value)):B8 k (A.under (.builtin "type.__call__" ⟨.ref C::us,kw⟩)):=
 ⟨r.hd,by have:=r.dp;rw[vF];omega,by have:=r.un;rw[pB];omega⟩
theorem B8.depth{k:Nat}(r:B8 k A):A.depth<recursionLimit:=by have:=r.dp;omega
theorem B8.units{k:Nat}(r:B8 k A):A.units+64<cLine:=by have:=r.un;omega
theorem B8.HN{k:Nat}(r:B8 k A):A.units<cLine:=by have:=r.un;omega
def B6:TA:=λ_ H Q=>Q [] H
def AZ(ta:TE)(tr:TA):TA:=λZ H Q=>ta Z H λx H1=>tr Z H1 λxs H2=>Q (x::xs) H2
theorem d4:PA X [] B6:=λ_ _ _ _ H Q I h=>Calls.spliced_nil ⟨[],H,I,.nil,h⟩
theorem Wu(i:PE X e te)(g:PA X es t)(f:Cy X e es:=by rfl):PA X (e::es) (AZ te t):=by
 intro pos ZB s Z H Q I h;rw[f];show wpAny _ _ (spliced ((false,eval e X.env)::backTo pos (starEach es X.env))) _ _ s;refine Calls.spliced_cons (i.k I h λu s1 x H1 I1 b d=>?_);exact Aw (g pos ZB s1 Z H1 _ I1 d) λus s2 AM=>by obtain⟨xs,H2,I2,a,c⟩:=AM;exact⟨x::xs,H2,I2,.cons b a,c⟩
def Su(t:TA):TE:=λZ H Q=>t Z H λxs H1=>xs.length<=sizeLine/\∀p,H1 p=none->Q (.ref p) (upd H1 p (.tup xs))
def Sd(t:TA):TE:=λZ H Q=>t Z H λxs H1=>xs.length<=sizeLine/\∀p,H1 p=none->Q (.ref p) (upd H1 p (.lst xs))
theorem ZFY{x1}(h:PA X es t):PE X (.Tuple es x1 pos) (Su t):=by
 intro ZB s Z H Q I c;refine wpAny_Tuple_spliced (h.k pos I c λus s1 xs H1 I1 r⟨z,q⟩=>⟨by rw[<- r.length];exact z,?_⟩);have d:H1 s1.heap.objs.size=none:=I1.AB.fresh (Aa _);refine⟨.ref s1.heap.objs.size,upd H1 s1.heap.objs.size (.tup xs),I1.laid (t':=s1.toks) (λb u e=>Ao _ e) (Aa _) ?_,rfl,q _ d⟩;exact⟨z,us,r,⟨_,BQ _ rfl,rfl,_,rfl⟩,λQX a=>by rw[BQ _ rfl]at a;cases a;rfl⟩
theorem ZAN(h:PA X es t):PE X (.List es pos) (Sd t):=by
 intro ZB s Z H Q I a;refine wpAny_List_spliced (h.k pos I a λus s1 xs H1 I1 r⟨z,q⟩=>⟨by rw[<- r.length];exact z,?_⟩);have c:H1 s1.heap.objs.size=none:=I1.AB.fresh (Aa _);refine⟨.ref s1.heap.objs.size,upd H1 s1.heap.objs.size (.lst xs),I1.laid (t':=s1.toks) (λb u e=>Ao _ e) (Aa _) ?_,rfl,q _ c⟩;exact⟨z,us,0,r,BQ _ rfl⟩
abbrev Sp:=List V->Hp->VK->XK->Prop
abbrev Fj:=List Env->Hp->Shared->XK->Value->Shared->Prop
variable{CX:Fj}
structure Gb (P:Program) (w:World) (K:ZHy) (mg:ZI0) (Yd:Heap) (A:Around) (outer:List Env) (s:Shared) (H:Hp):Prop where
 frames:A.frames=some outer
 mod:Mod K mg Yd
 bs:∀b o,Yd.get? b=some o->s.heap.get? b=some o/\H b=none
 FL:Yd.objs.size<=s.heap.objs.size
 EV:s.heap.FunFrames Yd outer
 Gi:∀b∈CK outer,H b=none
 AB:BX P w H s.heap
 bare:AllBare s.gens
def CE(outer:List Env)(P:Program)(w:World)(H:Hp)(s:Shared)(Q:VK)(u:Value)(s':Shared):Prop:=
 ∃v H',s'.os=s.os/\AllBare s'.gens/\Un (CK outer) [] H H' s.heap s'.heap/\BX P w H' s'.heap/\RelV v u/\Q v H'
def CR(CX:Fj)(outer:List Env)(P:Program)(w:World)(H:Hp)(s:Shared)(Q:VK)(E:XK)(r:Result)(s':Shared):Prop:=
 match r with
 | .ok (.ret u)=>CE outer P w H s Q u s'
 | .ok _=>False
 | .error e=>CX outer H s E e s'
structure Cs (P:Program) (w:World) (K:ZHy) (mg:ZI0) (Yd:Heap) (CX:Fj) (k:Nat) (f:Addr) (fd:FuncData) (ps:List Str) (sp:Sp):Prop where
 len:∀vs H Q E,sp vs H Q E->vs.length=ps.length
 run:∀(A:Around)(outer:List Env)(s:Shared)(H:Hp)(args:Args)(us:List Value)(vs:List V)(Q:VK)(E:XK),B8 k A->Gb P w K mg Yd A outer s H->BindsTo s fd args (ps.zip us)->Vals vs us->sp vs H Q E->
  codeAny (model P w) A (.call (.ref f) args) (CR CX outer P w H s Q E) s
theorem Cs.mono{P:Program}{K:ZHy}{k:Nat}{f:Addr}{sp:Sp}(F:Cs P w K mg Yd CX j f fd ps sp)(h:j<=k):
  Cs P w K mg Yd CX k f fd ps sp:=⟨F.len,λA outer s H args us vs Q E a=>F.run A outer s H args us vs Q E (a.mono h)⟩
theorem Gb.make{P:Program}{K:ZHy}(e:Gb P w K mg Yd A outer s H)(C:Addr)(us:List Value)(kw:List (Str×Value)):
  Gb P w K mg Yd (A.under (.builtin "type.__call__" ⟨.ref C::us,kw⟩)) outer s H:=⟨by first|exact e.frames|(simpa[Around.under,Code.envs,Code.isFrame,pushEnvs]using e.frames),e.mod,e.bs,e.FL,e.EV,e.Gi,e.AB,e.bare⟩
theorem Gb.in1{P:Program}{K:ZHy}(e:Gb P w K mg Yd A outer s H):
  Gb P w K mg Yd A.in1 outer s H:=⟨e.frames,e.mod,e.bs,e.FL,e.EV,e.Gi,e.AB,e.bare⟩
theorem Inv.RP(I:Inv X ZB Z H s):Gb X.prog X.w X.K X.mg X.base X.A X.stack s H:=
 ⟨I.ok.frames,I.ok.mod,I.bs,Be I.ok.FL I.sz,I.stack,I.T5,I.AB,I.bare⟩
theorem Inv.after{Q:VK}(I:Inv X ZB Z H s)(h:CE X.stack X.prog X.w H s Q u s'):EP X ZB Z Q u s':=by
 obtain⟨v,H',os,bare,un,AB,r,q⟩:=h;obtain⟨hh,g,d,t,Nw⟩:=s';obtain rfl:Nw=s.os:=os;exact⟨v,H',I.call (h':=hh) (g':=g) (d':=d) (t':=t) (ch:=[]) un AB bare (λb z=>absurd z (by simp)),r,q⟩
def E7(sp:Sp)(JL:List V)(E:XK)(t:TA):TE:=λZ H Q=>t Z H λvs H1=>sp (vs++JL) H1 Q E
def Binds(K:ZHy)(fd:FuncData)(ps:List Str)(ds:List Value):Prop:=
 ∀(s:Shared)(us:List Value),K.In s.heap->(us++ds).length=ps.length->BindsTo s fd ⟨us,[]⟩ (ps.zip (us++ds))
theorem Binds.all{K:ZHy}(h:∀us:List Value,us.length=ps.length->bindArgs fd ⟨us,[]⟩=pure (ps.zip us)):Binds K fd ps []:=λs us _ a=>by
 rw[Gv]at a ⊢;exact .of_eq (h us a)
def Passes(CX:Fj)(X:Cx)(E:XK):Prop:=∀(ZB:ZHz)(Z:St)(H:Hp)(s:Shared)(e:Value)(s':Shared),Inv X ZB Z H s->CX X.stack H s E e s'->X.xe e s'
section
variable{k:Nat}{f:Addr}{sp:Sp}{E:XK}{m:Str}{p apos:Pos}{o:Expr}
theorem ZDm{Q:VK}(F:Cs X.prog X.w X.K X.mg X.base CX k f fd ps sp)(c:B8 k X.A)(g:Binds X.K fd ps ds)(hd:Vals JL ds)(hx:Passes CX X E)
  (I:Inv X ZB Z H s) (r:Vals vs us) (h:sp (vs++JL) H Q E):wpAny (model X.prog X.w) X.A (call (.ref f) us) (EP X ZB Z Q) X.xe s:=by
 have b:Vals (vs++JL) (us++ds):=r.append hd;have d:(us++ds).length=ps.length:=by rw[<- b.length];exact F.len _ _ _ _ h
 refine ZAJ (ZAD (F.run X.A X.stack s H ⟨us,[]⟩ (us++ds) (vs++JL) Q E c I.RP (g s us I.CB d) b h) λr s' a=>?_);cases r with
 |error e=>exact hx ZB Z H s e s' I a
 |ok i=>
  cases i with
  |ret u=>exact I.after a
  |next=>exact False.elim a
  |brk=>exact False.elim a
  |cont=>exact False.elim a
theorem uc(F:Cs X.prog X.w X.K X.mg X.base CX k f fd ps sp)(a:B8 k X.A)(c:Gl X x)(b:X.mg x=some (.ref f))(hk:PySem.W.keepIn X.K (.ref f)=true)(d:Binds X.K fd ps ds)(hd:Vals JL ds)(hx:Passes CX X E)
  (g:PA X (e::es) t) (BO:(x == ("__debug__":Str))=false:=by decide) (he:Cy X e es:=by rfl) (An:BEq X pos es:=by rfl) :
  PE X (.Call (.Name x p) (e::es) [] pos) (E7 sp JL E t):=by
 intro ZB s Z H Q I h;refine wF (Ky I c b ?_ BO);refine mX (h₀:=X.base) I.ok.mod.HE hk (g.k pos I h λus s1 vs H1 I1 r q=>⟨I1.CB,?_⟩) he An;exact ZDm F a d hd hx I1 r q
variable{kws:List Keyword}{tk:TA}{nm:Option Str}{g:List Value->List Value->List Value}{gV:List V->List V->List V}
end
structure Ap (N P:List Str) (sc:Scope):Prop where
 kind:sc.kind=.function
 co:sc.isCoroutine=false
 gen:sc.isGenerator=false
 nd:N.Nodup
 pre:N.take P.length=P
 par:∀x∈P,sc.names.lookup x=some .local∨sc.names.lookup x=some .cell
 qH:∀y∈sc.names,y.2≠.free
theorem jq{a:Str->Option NameKind}{x:Str}:∀{binds:List (Str×Value)}{m:ZI0},(∀v,(x,v)∉binds)->bindL a binds m x=m x
 | [],_,_=>rfl
 | (n,v)::r,m,h=>by
  unfold bindL;rw[jq λw hw=>h w (BM _ hw)];split
  .have:x≠n:=by rintro rfl;exact h v B1
   simp[this]
  .rfl
theorem gS{a:Str->Option NameKind}{x:Str}:∀{binds:List (Str×Value)}{m:ZI0},(∀v,(x,v)∉binds)->bindC a binds m x=m x
 | [],_,_=>rfl
 | (n,v)::r,m,h=>by
  unfold bindC;rw[gS λw hw=>h w (BM _ hw)];split
  .rfl
  .have:x≠n:=by rintro rfl;exact h v B1
   simp[this]
theorem k7{a:Str->Option NameKind}{x:Str}{v:Value}:∀{P:List Str}{vs:List Value}{i:Nat}{m:ZI0},P.Nodup->P[i]?=some x->vs[i]?=some v->a x=some .local->
  bindL a (P.zip vs) m x=some v
 | [],_,_,_,_,h,_,_=>by simp at h
 |_::_,[],_,_,_,_,h,_=>by simp at h
 |p::P,w::vs,0,m,nd,h1,h2,hk=>by
  simp at h1 h2;subst h1;subst h2;show bindL a ((p,w)::P.zip vs) m p=_;unfold bindL;rw[jq λv b=>(List.nodup_cons.mp nd).1 (mK b).1,oM hk];simp
 |p::P,w::vs,i+1,m,nd,h1,h2,hk=>by
  show bindL a ((p,w)::P.zip vs) m x=_;unfold bindL;exact k7 (i:=i) (List.nodup_cons.mp nd).2 (by simpa using h1) (by simpa using h2) hk
theorem iS{a:Str->Option NameKind}{x:Str}{v:Value}:∀{P:List Str}{vs:List Value}{i:Nat}{m:ZI0},P.Nodup->P[i]?=some x->vs[i]?=some v->a x≠some .local->
  bindC a (P.zip vs) m x=some v
 | [],_,_,_,_,h,_,_=>by simp at h
 |_::_,[],_,_,_,_,h,_=>by simp at h
 |p::P,w::vs,0,m,nd,h1,h2,hk=>by
  simp at h1 h2;subst h1;subst h2;show bindC a ((p,w)::P.zip vs) m p=_;unfold bindC;rw[gS λv b=>(List.nodup_cons.mp nd).1 (mK b).1,nr hk];simp
 |p::P,w::vs,i+1,m,nd,h1,h2,hk=>by
  show bindC a ((p,w)::P.zip vs) m x=_;unfold bindC;exact iS (i:=i) (List.nodup_cons.mp nd).2 (by simpa using h1) (by simpa using h2) hk
noncomputable def start(N:List Str)(vs:List V):St:=vs.map some++List.replicate (N.length - vs.length) none
noncomputable def Cn(CX:Fj)(P:Program)(w:World)(K:ZHy)(mg:ZI0)(Yd:Heap)(N:List Str)(qual:Str)(scope:Scope)(f:Addr)(cd:Value)(A:Around)(outer:List Env)(s:Shared)(H:Hp)(E:XK):Cx where
 prog:=P
 w:=w
 K:=K
 mg:=mg
 base:=Yd
 A:=A.deeper (envOfC qual scope s.heap.objs.size f cd)
 N:=N
 s₀:=s
 H₀:=H
 env:=envOfC qual scope s.heap.objs.size f cd
 outer:=outer
 stack:=envOfC qual scope s.heap.objs.size f cd::outer
 ex:=[]
 calm:=true
 fn:=λ_=>true
 pn:=[]
 xe:=λe s'=>wpAny (model P w) (A.deeper (envOfC qual scope s.heap.objs.size f cd)) (leaving (envOfC qual scope s.heap.objs.size f cd) e) (λ_ LD=>CX outer H s E e LD) (λa LD=>CX outer H s E a LD) s'
theorem bU(h:sc.names.lookup x=some .cell):∃c,(cellsFrom n sc.names []).lookup x=some c:=by
 have q:=ZH7 sc.names n [] (.inl h);exact Option.isSome_iff_exists.mp q
theorem ZAu{P:Program}{K:ZHy}{f:Addr}{s1:Shared}{E:XK}
  (S:Ap N ps scope) (hd:A.handled=none) (e0:Gb P w K mg Yd A outer s H) (B:vs.length=ps.length) (r:Vals vs us)
  (x:InCallC s s.heap.objs.size (bindL (envOfC qual scope s.heap.objs.size f cd).kindOf (ps.zip us) λ_=>none) (cellsFrom (s.heap.objs.size+1) scope.names []) (bindC (envOfC qual scope s.heap.objs.size f cd).kindOf (ps.zip us) λ_=>none) s1) :
  Inv (Cn CX P w K mg Yd N qual scope f cd A outer s H E) [] (start N vs) H s1:=by
 have D:ps.length<=N.length:=by have:=sg List.length S.pre;rw[Fg]at this;omega
 obtain⟨h1,tk,rfl,hk⟩:=x.done;have j:∀b:Addr,b∉(Cn CX P w K mg Yd N qual scope f cd A outer s H E).ex:=λb z=>absurd (show b∈([]:List Addr)from z) (by simp);refine⟨⟨e0.mod,S.kind,rfl,rfl,Aa _,λy z c h1 h2=>?_,λy d=>?_,λy c _ h=>?_,λ_=>hd,Around.frames_deeper e0.frames,.inr ⟨rfl,rfl⟩,λb z=>absurd z (j b),e0.bs,e0.FL,λb _ _=>j b,λb z=>absurd z (j b),e0.EV,e0.Gi⟩,
  rfl,e0.bare,Un.kept hk,⟨_,x.toInCall.ns,λi y v h1 h2 C=>?_⟩,λy c h=>⟨_,x.cell y c h⟩,e0.AB.fresh (Aa _),λy c h=>?_,λp g=>absurd (show p∈([]:ZHz)from g) (by simp),e0.AB.kept hk,?_⟩
 .exact name_of_addr x.apart (IT h1) (IT h2)
 .have d:scope.names.lookup y=some .cell∨scope.names.lookup y=some .free:=d;rcases d with d|d
  .exact bU d
  .exact absurd rfl (S.qH _ (IT d))
 .exact JF (x.above y c (IT h))
 .have hi:i<vs.length:=by
   unfold start at h2
   by_cases hi:i<vs.length
   .exact hi
   .rw[Ff (by simpa using hi)]at h2
    rw[mD]at h2;split at h2 <;> cases h2
  have t:vs[i]?=some v:=by
   unfold start at h2;rw[DU (by simpa using hi),Ah]at h2
   cases e:vs[i]? with
   |none=>rw[e]at h2;cases h2
   |some a=>rw[e]at h2;cases h2;rfl
  obtain⟨u,l,o⟩:=r.get t;have g:ps[i]?=some y:=by
   rw[<- S.pre,List.getElem?_take_of_lt (by omega)];exact h1
  have m:ps.Nodup:=by rw[<- S.pre];exact S.nd.sublist (ZGu _ _)
  refine⟨u,o,?_⟩;rcases S.par y (C8 g)with k|k
  .exact .inl ⟨k,k7 m g l k⟩
  .obtain⟨c,e⟩:=bU (n:=s.heap.objs.size+1) k;refine .inr ⟨.inl k,c,e,?_⟩;have q:=x.cell y c e;rw[iS m g l (by show scope.names.lookup y≠_;rw[k];decide)]at q;exact q
 .exact e0.AB.fresh (JF (x.above y c (IT h)))
 .unfold start;show _=N.length;rw[BI,AG,mE];omega
theorem XD{P:Program}{K:ZHy}{k:Nat}{f:Addr}{params:Arguments}{body:List Stmt}{j kV c i AU ct z:Value}{l od:Option Addr}
  {G3:Array (Option Value)}{sp:Sp}(B:K.lookup f=some ⟨z,od,.func (PySem.W.fnOf name qual params body scope j kV c i l AU ct),G3⟩) (DK:PySem.W.codeIn K AU qual=true) (S:Ap N ps scope)
  (len:∀vs H Q E,sp vs H Q E->vs.length=ps.length)
  (HD:∀(A:Around)(outer:List Env)(s:Shared)(H:Hp)(vs:List V)(Q:VK)(E:XK),B8 k (A.deeper (envOfC qual scope s.heap.objs.size f AU))->sp vs H Q E->
   ∃t,Dc (Cn CX P w K mg Yd N qual scope f AU A outer s H E) body t/\t { nx:=λ_ H'=>Q .A8 H',rt:=Q } (start N vs) H) :
  Cs P w K mg Yd CX (k+1) f (PySem.W.fnOf name qual params body scope j kV c i l AU ct) ps sp:=by
 refine⟨len,λA outer s H args us vs Q E h e0 M r Ey=>?_⟩;have G:=len _ _ _ _ Ey;have m:K.In s.heap:=e0.mod.HE.keeps λb o e=>(e0.bs b o e).1;have g:s.heap.NoLimit:=e0.mod.nolimit.keeps λb o e=>(e0.bs b o e).1;have p:∀y∈ps.zip us,scope.names.lookup y.1=some .local∨(scope.names.lookup y.1=some .cell/\((cellsFrom (s.heap.objs.size+1) scope.names []).lookup y.1).isSome=true):=λ⟨n,v⟩C=>by
  rcases S.par n (mK C).1 with q|q
  .exact .inl q
  .exact .inr ⟨q,ZH7 _ _ _ (.inl q)⟩
 refine codeAny_call_function h.depth (m _ _ B) rfl S.co S.gen rfl (PySem.W.codeRec_of m DK) (M _ _ _ _ ?_);refine wpAny_newFunctionEnv_cells S.kind p λenv L s1 x=>?_;subst L;refine⟨g.keeps x.toInCall.keep,codeAny_func ?_⟩;obtain⟨t,D,F⟩:=HD A outer s H vs Q E (h.deeper _) Ey;have I:Inv (Cn CX P w K mg Yd N qual scope f AU A outer s H E) [] (start N vs) H s1:=ZAu S h.hd e0 G r x;refine sE (D [] s1 (start N vs) H _ I F) (λO s' a=>?_) λe s' a=>a;have fin:∀{σ':St}{H':Hp}{v:V}{u:Value},Inv (Cn CX P w K mg Yd N qual scope f AU A outer s H E) [] σ' H' s'->RelV v u->Q v H'->CE outer P w H s Q u s':=
  λ{σ' H' v u}J d q=>⟨v,H',J.os,J.bare,J.base,J.AB,d,q⟩
 cases O with
 |ret u=>
  obtain⟨v,σ',H',J,d,q⟩:=a;exact fin J d q
 |next=>
  obtain⟨σ',H',J,q⟩:=a;exact fin (v:=V.A8) (u:=Value.none) J rfl q
 |brk=>
  obtain⟨_,_,_,q⟩:=a;exact False.elim q
 |cont=>
  obtain⟨_,_,_,q⟩:=a;exact False.elim q
section
variable{p:Pos}{id T:String}{r:List V->Hp->VK->Prop}
def CH(r:List V->Hp->VK->Prop)(t:TA):TE:=λZ H Q=>t Z H λvs H1=>r vs H1 Q
end
end L2
namespace HT
variable{E Q:Value->Shared->Prop}{sl t:Addr}{v vl vu:Value}{hi o:Option Int}
section
open PySem.SeqAt
open PySem.AutoSeq1 (wpAny_loadPart')
open PySem.MeetsSeq PySem.MeetsSeq2 PySem.MeetsSeq3
end
section
variable{prog:Program}{w:World}{A:Around}{s:Shared}
theorem uE{b:Addr}{vs ws:List Value}(g:IsTup s.heap t vs.toArray)(h:IsTup s.heap b ws.toArray)(d:vs≠[])
  (h1:ws=[]->Q (.ref t) s) (h2:ws≠[]->Q (.ref s.heap.objs.size) { s with heap:=s.heap.push { cls:=.type "tuple", data:=.seq (vs++ws).toArray } })
  (hsz:vs.length+ws.length<=sizeLine):wpAny (model prog w) A (binaryOp .Add (.ref t) (.ref b)) Q E s:=by
 obtain⟨⟨cls,dd,data,sl⟩,ho,f,n,hd⟩:=id g;obtain⟨⟨i,Sm,a,Ge⟩,DZ,Kh,c,hd2⟩:=id h;simp only at f hd Kh hd2;subst f hd Kh hd2;have e:vs.toArray++ws.toArray=(vs++ws).toArray:=by simp
 by_cases hw:ws=[]
 .exact concat_meets ⟨_,ho,rfl⟩ ⟨_,DZ,rfl⟩ ZB9 seq_tuple_add mW mU (mT _ _)
   (tuple_addW1 t b vs.toArray ws.toArray n c dd Sm sl Ge (by simpa using d) (by simp[hw])) ⟨ho,DZ,h1 hw⟩
 .refine concat_meets ⟨_,ho,rfl⟩ ⟨_,DZ,rfl⟩ ZB9 seq_tuple_add mW mU (mT _ _)
   (tuple_addW2 t b vs.toArray ws.toArray n c dd Sm sl Ge (by simpa using d) (by simpa using hw) (by rw[Bn,Bn];exact hsz)) ⟨ho,DZ,?_⟩
  rw[e];exact h2 hw
noncomputable def Aq(n d:Nat):Option Int->Nat
 |none=>d
 |some v=>if v<0 then(v+(n:Int)).toNat else min v.toNat n
theorem fQ(n d:Nat):Aq n d none=d:=rfl
theorem dj(n d k:Nat):Aq n d (some (k:Int))=min k n:=by
 show(if(k:Int)<0 then((k:Int)+(n:Int)).toNat else min (k:Int).toNat n)=min k n
 rw[nr (by omega),Lk]
theorem zN(n d:Nat)(hd:d<=n)(o:Option Int):Aq n d o<=n:=by
 cases o with
 |none=>exact hd
 |some v=>
  show(if v<0 then(v+(n:Int)).toNat else min v.toNat n)<=n
  by_cases a:v<0
  .rw[oM a];omega
  .rw[nr a];exact ZGz _ _
theorem fH(v:Int)(n d:Nat):(if v<0 then max (v+(n:Int)) 0 else min v (n:Int))=((Aq n d (some v):Nat):Int):=by
 show(if v<0 then max (v+(n:Int)) 0 else min v (n:Int))=(((if v<0 then(v+(n:Int)).toNat else min v.toNat n):Nat):Int)
 by_cases a:v<0
 .simp only[oM a];omega
 .simp only[nr a];omega
theorem qU(lo hi:Option Int)(n:Nat):Builtin.Slice.sliceAdjust lo hi 1 (n:Int)=(((Aq n 0 lo:Nat):Int),((Aq n n hi:Nat):Int)):=by
 have h1:¬ ((1:Int)<0):=by omega
 unfold Builtin.Slice.sliceAdjust;simp only[h1,ZBr];refine Pt ?_ ?_
 .cases lo with
  |none=>rfl
  |some v=>exact fH v n 0
 .cases hi with
  |none=>rfl
  |some v=>exact fH v n n
theorem vR(i j:Nat):Builtin.Slice.slicePlaces (i:Int) (j:Int) 1=j - i:=by
 unfold Builtin.Slice.slicePlaces;have h1:(1:Int) > 0:=by omega
 simp only[h1,ZBw,Int.ediv_one];split <;> omega
theorem lB{Q:Option Int->Shared->Prop}(p:IsPart v o)(h:Q o s):wpAny (model prog w) A (Builtin.Slice.slicePartIndex v) Q E s:=by
 cases p with
 |none=>exact slicePart_none h
 |int i t=>exact slicePart_int h
theorem fq{lo:Option Int}{n:Nat}{Q:Int×Int×Nat->Shared->Prop}(b:s.heap.IsSliceOf sl vl vu .none)(pl:IsPart vl lo)(a:IsPart vu hi)
  (h:Q (((Aq n 0 lo:Nat):Int),1,Aq n n hi - Aq n 0 lo) s):wpAny (model prog w) A (Builtin.Slice.sliceApplied (.ref sl) (pure (n:Int))) Q E s:=by
 obtain⟨os,Gg,N8,Ga⟩:=id b;unfold Builtin.Slice.sliceApplied Builtin.Slice.sliceFields;refine dP (dP (zt Gg Ga (x:=vl) rfl (dP (zt Gg Ga (x:=vu) rfl (dP (zt Gg Ga (x:=.none) rfl (nW ?_)))))));refine dP (slicePart_none ?_);show wpAny _ _ (if((1:Int) == 0)=true then _ else _) _ _ s
 rw[nr (by decide)];refine dP (lB pl (dP (lB a (dP (nW ?_)))));show wpAny _ _ (match Builtin.Slice.sliceAdjust lo hi 1 (n:Int)with|(lo,hi)=>pure (lo,(1:Int),Builtin.Slice.slicePlaces lo hi 1)) _ _ s
 rw[qU lo hi n];show wpAny _ _ (pure (((Aq n 0 lo:Nat):Int),(1:Int),Builtin.Slice.slicePlaces ((Aq n 0 lo:Nat):Int) ((Aq n n hi:Nat):Int) 1)) _ _ s;rw[vR];exact nW h
theorem wt(xs:Array Value)(i k:Nat):((List.range k).filterMap λ(m:Nat)=>xs[((i:Int)+(m:Int) * 1).toNat]?).toArray=((xs.toList.drop i).take k).toArray:=by
 have e:(λ(m:Nat)=>xs[((i:Int)+(m:Int) * 1).toNat]?)=λm=>xs[i+m]?:=by
  funext m
  have:((i:Int)+(m:Int) * 1).toNat=i+m:=by omega
  rw[this]
 rw[e];have:=pick_run xs i k;rw[ZGb]at this;have a:((λx=>xs[x]?) ∘ λx=>i+x)=λm=>xs[i+m]?:=rfl;rw[a]at this;rw[this]
theorem ZF6{items:Array Value}{lo:Option Int}(a:IsTup s.heap t items)(c:s.heap.IsSliceOf sl vl vu .none)(pl:IsPart vl lo)(d:IsPart vu hi)
  (hw:¬ (Aq items.size 0 lo=0/\Aq items.size items.size hi=items.size))
  (h:Q (.ref s.heap.objs.size) { s with heap:=s.heap.push { cls:=.type "tuple", data:=.seq ((items.toList.drop (Aq items.size 0 lo)).take (Aq items.size items.size hi - Aq items.size 0 lo)).toArray } })
  (hsz:items.size<=sizeLine):wpAny (model prog w) A (getItem (.ref t) (.ref sl)) Q E s:=by
 have b:sizeOk (.seq ((items.toList.drop (Aq items.size 0 lo)).take (Aq items.size items.size hi - Aq items.size 0 lo)).toArray):=by
  show((items.toList.drop (Aq items.size 0 lo)).take (Aq items.size items.size hi - Aq items.size 0 lo)).toArray.size<=sizeLine;rw[Bn,Fg,IM,Cj];omega
 have j:Aq items.size items.size hi<=items.size:=zN _ _ (Aa _) hi;obtain⟨os,Gg,N8,Ga⟩:=id c;have f:s.TypeIs (.ref sl) "slice" := ⟨os,Gg,N8⟩;unfold getItem
 try with_reducible refine rG ?_
 first|refine dP (nW ?_)|skip
 refine dP (ZAw a.typeIs (by decide) ?_);refine dP (vD (name:=Str.ofString "__getitem__") a.typeIs Zl
  (uT Zl a.typeIs entry_tuple_getitem ?_ (args_tuple_getitem _ _)))
 show wpAny _ _ (Builtin.Tuple.tupleItemsOf (.ref t) >>= _) _ _ s;refine dP (tupleItemsOf_ a ?_);refine dP (zZ f ?_);rw[oM (by decide)];refine dP (fq c pl d ?_);have e:¬ ((((Aq items.size 0 lo:Nat):Int) == 0 && (1:Int) == 1 && (Aq items.size items.size hi - Aq items.size 0 lo) == items.size)=true):=by
  intro q;rw[C7,C7]at q;have i:((Aq items.size 0 lo:Nat):Int)=0:=eq_of_beq q.1.1;have g:Aq items.size items.size hi - Aq items.size 0 lo=items.size:=eq_of_beq q.2;exact hw ⟨by omega,by omega⟩
 show wpAny _ _ (if(((Aq items.size 0 lo:Nat):Int) == 0 && (1:Int) == 1 && (Aq items.size items.size hi - Aq items.size 0 lo) == items.size)=true then _ else _) _ _ s
 rw[nr e,wt]
 first
  |exact dP (m:=Builtin.Tuple.tupleExact _) (t8 (nW ⟨_,rfl,nW h⟩) b)
  |exact dP (m:=Builtin.Tuple.tupleExact _) (t8 (dP (nW (nW ⟨_,rfl,nW h⟩))) b)
  |exact dP (dP (m:=Builtin.Tuple.tupleExact _) (t8 (nW (nW ⟨_,rfl,nW h⟩)) b))
  |exact dP (dP (m:=Builtin.Tuple.tupleExact _) (t8 (nW ⟨_,rfl,nW h⟩) b))
end
end HT
namespace L2
variable{X:Cx}{pos:Pos}{xs ys:List V}{A3 its' us:List Value}{α:Type}{j n t':Nat}{i:Int}{ZB:ZHz}{Z:St}{H:Hp}{s:Shared}{A:Around}{x y:V}{u v:Value}{T:String}
abbrev TO:=St->Hp->(Option Int->Hp->Prop)->Prop
def PO(X:Cx)(e:Option Expr)(t:TO):Prop:=
 ∀(ZB:ZHz)(s:Shared)(Z:St)(H:Hp)(Q:Option Int->Hp->Prop),Inv X ZB Z H s->t Z H Q->
  wpAny (model X.prog X.w) X.A (evalPart e X.env) (λu s'=>∃o H',Inv X ZB Z H' s'/\IsPart u o/\Q o H') X.xe s
def Va:TO:=λ_ H Q=>Q none H
def VH(t:TE):TO:=λZ H Q=>t Z H λx H1=>∃i,x=.int i/\Q (some i) H1
section
variable{e:Expr}{te:TE}{lo hi:Option Expr}{tl th:TO}{p2:Pos}
def OL(X:Cx)(r:V->Option Int->Option Int->Hp->VK->Prop):Prop:=
 ∀(ZB:ZHz)(s:Shared)(Z:St)(H:Hp)(x:V)(v vl vu:Value)(lo hi:Option Int)(sl:Addr)(Q:VK),Inv X ZB Z H s->RelV x v->s.heap.IsSliceOf sl vl vu .none->IsPart vl lo->IsPart vu hi->r x lo hi H Q->
  ∃T id,typeLookup (.type T) "__getitem__"=pure (some (.builtin id))/\s.TypeIs v T/\wpAny (model X.prog X.w) X.A (getItem v (.ref sl)) (EP X ZB Z Q) X.xe s
def U4(r:V->Option Int->Option Int->Hp->VK->Prop)(te:TE)(tl th:TO):TE:=λZ H Q=>te Z H λx H1=>tl Z H1 λl H2=>th Z H2 λu H3=>r x l u H3 Q
def KD(xs:List V)(lo hi:Option Int):List V:=(xs.drop (HT.Aq xs.length 0 lo)).take (HT.Aq xs.length xs.length hi - HT.Aq xs.length 0 lo)
theorem q8(xs:List V)(lo hi:Option Int):(KD xs lo hi).length<=xs.length:=by
 unfold KD;rw[Fg,IM];omega
def ZFT(K:ZHy):V->Option Int->Option Int->Hp->VK->Prop:=λx lo hi H Q=>∃a xs,x=.ref a/\Ax K H a xs/\
 ¬ (HT.Aq xs.length 0 lo=0/\HT.Aq xs.length xs.length hi=xs.length)/\∀p,H p=none->Q (.ref p) (upd H p (.tup (KD xs lo hi)))
theorem r6:OL X (ZFT X.K):=by
 intro ZB s Z H x v vl vu lo hi sl Q I g j pl i h;obtain⟨a,xs,rfl,hx,hw,q⟩:=h;cases g;obtain⟨A3,r,e,d⟩:=I.tuple hx;have c:A3.toArray.size=xs.length:=by rw[Bn];exact r.length.symm
 refine⟨"tuple", _,PyProof.Rows.slot_tuple_getitem.lookup,e.typeIs,?_⟩;refine HT.ZF6 e j pl i (by rw[c];exact hw) ?_ (by rw[c];exact d);rw[c];refine⟨.ref s.heap.objs.size,_,I.laid (t':=s.toks) (o:=.tup (KD xs lo hi)) (λb ob q=>Ao _ q) (Aa _) ?_,rfl,q _ (I.AB.fresh (Aa _))⟩;exact⟨Be (q8 xs lo hi) d,_,(r.drop (HT.Aq xs.length 0 lo)).take (HT.Aq xs.length xs.length hi - HT.Aq xs.length 0 lo),⟨IsTup.new _ _,λQX f=>by rw[BQ _ rfl]at f;cases f;rfl⟩⟩
def ZFD(K:ZHy):R2:=λx y H Q=>∃a b xs ys,x=.ref a/\y=.ref b/\Ax K H a xs/\Ax K H b ys/\xs≠[]/\xs.length+ys.length<=sizeLine/\
 (ys=[]->Q (.ref a) H)/\(ys≠[]->∀p,H p=none->Q (.ref p) (upd H p (.tup (xs++ys))))
theorem Vals.Ro(r:Vals xs us):us=[]↔xs=[]:=by
 cases r with
 |nil=>simp
 |cons _ _=>simp
theorem qe:BD X (binaryOp .Add) (ZFD X.K):=by
 intro ZB s Z H x y v u Q I i g h;obtain⟨a,b,xs,ys,rfl,rfl,m,l,hx,e,k,j⟩:=h;cases i;cases g;obtain⟨A3,d,p1,_⟩:=I.tuple m;obtain⟨D5,c,p2,_⟩:=I.tuple l;refine HT.uE p1 p2 (λz=>hx (d.Ro.mp z)) (λz=>⟨.ref a,H,I,rfl,k (c.Ro.mp z)⟩) (λz=>?_) (by rw[<- d.length,<- c.length];exact e);refine⟨.ref s.heap.objs.size,_,I.laid (t':=s.toks) (o:=.tup (xs++ys)) (λb ob q=>Ao _ q) (Aa _) ?_,rfl,j (λw=>z (c.Ro.mpr w)) _ (I.AB.fresh (Aa _))⟩;exact⟨by rw[BI];exact e,_,d.append c,⟨IsTup.new _ _,λQX f=>by rw[BQ _ rfl]at f;cases f;rfl⟩⟩
end
noncomputable def FU(n:Nat)(i:Int):Option Nat:=if 0<=i then(if i<n then some i.toNat else none)else if -(n:Int)<=i then some (i+n).toNat else none
def Bf(xs:List α)(i:Int):Option α:=(FU xs.length i).bind λj=>xs[j]?
theorem Zx(h:FU n i=some j):seqIndex? i n=some j/\j<n/\-(n:Int)<=i/\i<n:=by
 unfold FU at h
 by_cases a:0<=i
 .rw[oM a]at h
  by_cases h1:i<n
  .rw[oM h1]at h;have e:i.toNat=j:=BG h;exact⟨by rw[seqIndex_of a h1,e],by omega,by omega,h1⟩
  .rw[nr h1]at h;cases h
 .rw[nr a]at h
  by_cases h1:-(n:Int)<=i
  .rw[oM h1]at h;have e:(i+n).toNat=j:=BG h;exact⟨by rw[seqIndex_neg (by omega) h1,e],by omega,h1,by omega⟩
  .rw[nr h1]at h;cases h
theorem UM{xs:List α}{v:α}(h:Bf xs i=some v):∃j,seqIndex? i xs.length=some j/\xs[j]?=some v/\j<xs.length/\-(xs.length:Int)<=i/\i<xs.length:=by
 unfold Bf at h;cases e:FU xs.length i with
 |none=>rw[e]at h;cases h
 |some j=>
  rw[e]at h;obtain⟨h1,h2,b,a⟩:=Zx e;exact⟨j,h1,h,h2,b,a⟩
theorem Fl{xs:List α}{v:α}(h:xs[j]?=some v):Bf xs (j:Int)=some v:=by
 have a:j<xs.length:=(List.getElem?_eq_some_iff.mp h).1;have e:FU xs.length (j:Int)=some j:=by
  unfold FU;rw[oM (by omega),oM (by omega)];simp
 unfold Bf;rw[e];exact h
theorem ZET(xs:List α)(v:α):Bf (xs++[v]) (-1)=some v:=by
 have a:(xs++[v]).length=xs.length+1:=by simp
 have e:FU (xs++[v]).length (-1)=some xs.length:=by
  unfold FU;rw[a,nr (by decide),oM (by omega)]
  congr 1
  omega
 unfold Bf;rw[e];show(xs++[v])[xs.length]?=some v;simp
def VC(b:Expr):Prop:=∀o i,subscripted b false o i=operate [o,i] (getItem o i)
def HV(X:Cx)(r:R2):Prop:=
 ∀(value a:Expr)(ZB:ZHz)(s:Shared)(Z:St)(H:Hp)(x y:V)(v u:Value)(Q:VK),Inv X ZB Z H s->RelV x v->RelV y u->r x y H Q->
  subscripted a false v u=operate [v,u] (getItem v u)->wpAny (model X.prog X.w) X.A (subscriptTail value a v u) (EP X ZB Z Q) X.xe s
def ND(X:Cx)(id:String)(r:V->List V->Hp->VK->Prop):Prop:=
 ∀(ZB:ZHz)(s:Shared)(Z:St)(H:Hp)(x:V)(xs:List V)(v:Value)(us:List Value)(Q:VK),Inv X ZB Z H s->RelV x v->Vals xs us->r x xs H Q->
  wpAny (model X.prog X.w) X.A (call (.builtin id) (v::us)) (EP X ZB Z Q) X.xe s
section
variable{a b:Expr}{ta tb:TE}
def Iw(K:ZHy):R2:=λx y H Q=>∃p xs i v,x=.ref p/\y=.int i/\AL K H p xs/\Bf xs i=some v/\Q v H
def Ip(K:ZHy):R2:=λx y H Q=>∃p xs i v,x=.ref p/\y=.int i/\Ax K H p xs/\Bf xs i=some v/\Q v H
def ZGJ:R2:=λx y H Q=>∃z i c,x=.str z/\y=.int i/\z.length<=sizeLine/\Bf z.cps.toList i=some c/\Q (.str ⟨#[c]⟩) H
theorem CF:HV X (Iw X.K):=by
 intro value a ZB s Z H x y v u Q I g f h c;obtain⟨p,xs,i,z,rfl,rfl,k,m,q⟩:=h;cases g;obtain⟨t,rfl⟩:=f;obtain⟨A3,r,pl,A⟩:=I.list k;obtain⟨j,h1,h2,C,o,n⟩:=UM m;obtain⟨w,e,G1⟩:=r.get h2;have l:=r.length;have B:=K8;have fin:EP X ZB Z Q w s:=⟨z,H,I,G1,q⟩
 by_cases d:0<=i
 .have b:i.toNat=j:=by
   rw[seqIndex_of d n]at h1;exact BG h1
  exact item_listR pl.isList d (by omega) (by rw[b];simpa using e) fin c
 .have b:(i+(A3.toArray.size:Int)).toNat=j:=by
   rw[seqIndex_neg (by omega) o]at h1;rw[Bn,<- l];exact BG h1
  exact subscriptTail_builtinR (x:=w) pl.isList.typeIs slot_list_getitem.lookup
   (wpAny_getItem_list_neg (Q:=λr s'=>r=w/\EP X ZB Z Q r s') pl.isList (by omega) (by rw[Bn] <;> omega) (by omega) (by rw[b];simpa using e) ⟨rfl,fin⟩) c
theorem CD:HV X (Ip X.K):=by
 intro value a ZB s Z H x y v u Q I c b h d;obtain⟨p,xs,i,z,rfl,rfl,e,g,q⟩:=h;cases c;obtain⟨t,rfl⟩:=b;obtain⟨A3,r,pl,l⟩:=I.tuple e;obtain⟨j,h1,h2,A,o,n⟩:=UM g;obtain⟨w,k,G1⟩:=r.get h2;have f:=r.length;have m:=K8;have fin:EP X ZB Z Q w s:=⟨z,H,I,G1,q⟩;exact subscriptTail_builtinR (x:=w) pl.typeIs slot_tuple_getitem.lookup
  (getItem_tuple (j:=j) (Q:=λr s'=>r=w/\EP X ZB Z Q r s') pl (by omega) (by omega) (by rw[Bn,<- f];exact h1) (by simpa using k) ⟨rfl,fin⟩) d
theorem ZBg:HV X ZGJ:=by
 intro value a ZB s Z H x y v u Q I d b h e;obtain⟨z,i,c,rfl,rfl,n,g,q⟩:=h;obtain⟨t,rfl⟩:=d;obtain⟨t',rfl⟩:=b;obtain⟨j,h1,h2,p,l,k⟩:=UM g;have f:z.cps.toList.length=z.length:=by simp[Str.length]
 rw[f]at h1 l k;have o:=K8;exact tail_any (typeIs_str s z t) slot_str_getitem.lookup (getItem_str (c:=c) (by
  have e1:decide (i < -(2 ^ 63:Int))=false:=sX (by omega);have m:decide (i>=2 ^ 63)=false:=sX (by omega);rw[e1,m,lh]) (by rw[h1];simpa using h2) ⟨.str ⟨#[c]⟩,H,I.tok _,⟨_,rfl⟩,q⟩) e
theorem nU(A3:List Value)(n j:Nat)(u:Value):Obj.mapSeq (·.setIfInBounds j u) { cls:=.type "list", data:=.seq A3.toArray n }={ cls:=.type "list", data:=.seq (A3.set j u).toArray n }:=by
 simp[Obj.mapSeq]
theorem Inv.lst{ZB:ZHz}{Z:St}{H:Hp}{s:Shared}{p:Addr}{xs:List V}(I:Inv X ZB Z H s)(h:H p=some (.lst xs)):
  ∃(A3:List Value)(n:Nat),Vals xs A3/\s.heap.get? p=some { cls:=.type "list", data:=.seq A3.toArray n }/\xs.length<=sizeLine:=by
 obtain⟨z,A3,n,r,e⟩:=I.AB p _ h;exact⟨A3,n,r,e,z⟩
theorem Inv.xJ{p:Addr}{a:Nat}{f:Obj->Obj}(I:Inv X ZB Z H s)(h:H p=some (.lst xs))
  (ho:s.heap.get? p=some { cls:=.type "list", data:=.seq A3.toArray n }) (hf:f { cls:=.type "list", data:=.seq A3.toArray n }={ cls:=.type "list", data:=.seq its'.toArray a }) (r:Vals ys its') (hz:ys.length<=sizeLine) (t:Nat) :
  Inv X ZB Z (upd H p (.lst ys)) { s with heap:=s.heap.update p f,toks:=t }:=by
 have e:(s.heap.update p f).get? p=some { cls:=.type "list", data:=.seq its'.toArray a }:=by
  rw[Hg f ho (by rw[hf] <;> rfl),hf]
 refine I.write (x:=p) (e:=p) (by rw[h];trivial) (.inl rfl) (λb u c q=>(Fe _ _ (Az c)).trans q) ⟨_,e⟩ ?_;exact⟨hz,its',a,r,e⟩
def VR:V->V->V->Hp->(Hp->Prop)->Prop:=λo i v H Q=>∃p xs k j,o=.ref p/\i=.int k/\H p=some (.lst xs)/\FU xs.length k=some j/\Q (upd H p (.lst (xs.set j v)))
theorem set_list:W8 X VR:=by
 intro ZB s Z H o i v y z u Q I l m g h;obtain⟨p,xs,k,j,rfl,rfl,b,x,q⟩:=h;cases l;obtain⟨t,rfl⟩:=m;obtain⟨A3,n,r,ho,w⟩:=I.lst b;obtain⟨h1,h2,d,c⟩:=Zx x;have a:=r.length;have A:=K8;have f:Inv X ZB Z (upd H p (.lst (xs.set j v))) { s with heap:=s.heap.update p (Obj.mapSeq (·.setIfInBounds j u)) }:=
  I.xJ b ho (nU A3 n j u) (r.set g j) (by rw[GD];exact w) s.toks
 by_cases e:0<=k
 .have hk:k.toNat=j:=by
   rw[seqIndex_of e c]at h1;exact BG h1
  exact PySem.W.ki_setAt ho e (by omega) (by rw[Bn,<- a];exact c) (by rw[hk];exact⟨_,f,q⟩)
 .have hk:(k+(A3.toArray.size:Int)).toNat=j:=by
   rw[seqIndex_neg (by omega) d]at h1;rw[Bn,<- a];exact BG h1
  exact PySem.W.ki_setBack ho (by omega) (by rw[Bn,<- a];exact d) (by omega) (by rw[hk];exact⟨_,f,q⟩)
noncomputable def Cr:V->Bool
 | .A8=>true
 | .bl _=>true
 | .int _=>true
 | .str _=>true
 |_=>false
noncomputable def E5:V->V->Bool
 | .A8,.A8=>true
 | .bl a,.bl b=>a == b
 | .bl a,.int b=>(if a then 1 else 0) == b
 | .int a,.bl b=>a == (if b then 1 else 0)
 | .int a,.int b=>a == b
 | .str a,.str b=>a == b
 |_,_=>false
theorem di(d:RelV y u)(c:RelV x v)(f:Cr y=true)(e:Cr x=true):SeqAt.EqAt A s u v (E5 y x):=by
 cases y with
 |A8=>
  cases d;cases x with
  |A8=>cases c;exact SeqAt.EqAt.same _
  |bl b=>cases c;exact SeqAt.EqAt.none_bool b
  |int b=>obtain⟨t,rfl⟩:=c;exact SeqAt.EqAt.none_int b t
  |str b=>obtain⟨t,rfl⟩:=c;exact SeqAt.EqAt.none_str b t
  |_=>exact absurd (show false=true from e) Cv
 |bl a=>
  cases d;cases x with
  |A8=>cases c;exact SeqAt.EqAt.bool_none a
  |bl b=>cases c;exact SeqAt.EqAt.bool_bool a b
  |int b=>obtain⟨t,rfl⟩:=c;exact SeqAt.EqAt.bool_int a b t
  |str b=>obtain⟨t,rfl⟩:=c;exact SeqAt.EqAt.bool_str a b t
  |_=>exact absurd (show false=true from e) Cv
 |int a=>
  obtain⟨t',rfl⟩:=d;cases x with
  |A8=>cases c;exact SeqAt.EqAt.int_none a t'
  |bl b=>cases c;exact SeqAt.EqAt.int_bool a t' b
  |int b=>obtain⟨t,rfl⟩:=c;exact SeqAt.EqAt.int_int a t' b t
  |str b=>obtain⟨t,rfl⟩:=c;exact SeqAt.EqAt.int_str a t' b t
  |_=>exact absurd (show false=true from e) Cv
 |str a=>
  obtain⟨t',rfl⟩:=d;cases x with
  |A8=>cases c;exact SeqAt.EqAt.str_none a t'
  |bl b=>cases c;exact SeqAt.EqAt.str_bool a t' b
  |int b=>obtain⟨t,rfl⟩:=c;exact SeqAt.EqAt.str_int a t' b t
  |str b=>obtain⟨t,rfl⟩:=c;exact SeqAt.EqAt.str_str a t' b t
  |_=>exact absurd (show false=true from e) Cv
 |_=>exact absurd (show false=true from f) Cv
def Ds(x:V)(u:Value):Bool:=match u with
 | .none=>E5 .A8 x
 | .bool b=>E5 (.bl b) x
 | .int i _=>E5 (.int i) x
 | .str z _=>E5 (.str z) x
 |_=>false
theorem Yj(r:RelV y u)(f:Cr y=true):Ds x u=E5 y x:=by
 cases y with
 |A8=>cases r;rfl
 |bl b=>cases r;rfl
 |int i=>obtain⟨t,rfl⟩:=r;rfl
 |str z=>obtain⟨t,rfl⟩:=r;rfl
 |_=>exact absurd (show false=true from f) Cv
theorem OU{x:V}:∀{xs:List V}{us:List Value},Vals xs us->xs.all Cr=true->us.any (Ds x)=xs.any λy=>E5 y x
 |_,_,.nil,_=>rfl
 |y::xs,u::us,.cons r t,f=>by
  rw[Ph,C7]at f;rw[NI,NI,Yj r f.1,OU t f.2]
theorem Ko{A:Around}{s:Shared}{x:V}{v:Value}(b:RelV x v)(c:Cr x=true):∀{xs:List V}{us:List Value},Vals xs us->xs.all Cr=true->∀u∈us,SeqAt.EqAt A s u v (Ds x u)
 |_,_,.nil,_=>λu a=>by cases a
 |y::xs,u::us,.cons r t,f=>λu' a=>by
  rw[Ph,C7]at f;rcases List.mem_cons.mp a with rfl|a
  .rw[Yj r f.1];exact di r b f.1 c
  .exact Ko b c t f.2 u' a
def Iy(x:V)(xs:List V):Bool:=xs.any λy=>E5 y x
def FP(K:ZHy)(neg:Bool):R2:=λx y H Q=>∃p xs,y=.ref p/\(AL K H p xs∨Ax K H p xs)/\Cr x=true/\xs.all Cr=true/\Q (.bl (if neg then !Iy x xs else Iy x xs)) H
theorem Jd:BD X (compareOp .In) (FP X.K false):=by
 intro ZB s Z H x y v u Q I b d h;obtain⟨p,xs,rfl,a,c,fs,q⟩:=h;cases d;rcases a with a|a
 .obtain⟨A3,r,pl,e⟩:=I.list a;refine SeqAt.in_listAt (Ds x) pl.isList (λw hw=>Ko b c r fs w (by simpa using hw)) ⟨.bl _,H,I,rfl,?_⟩
  rw[show A3.toArray.any (Ds x)=A3.any (Ds x) by simp,OU r fs];exact q
 .obtain⟨A3,r,pl,e⟩:=I.tuple a;refine SeqAt.in_tupleAt (Ds x) pl (λw hw=>Ko b c r fs w (by simpa using hw)) ⟨.bl _,H,I,rfl,?_⟩
  rw[show A3.toArray.any (Ds x)=A3.any (Ds x) by simp,OU r fs];exact q
theorem YR:BD X (compareOp .NotIn) (FP X.K true):=by
 intro ZB s Z H x y v u Q I b d h;obtain⟨p,xs,rfl,a,c,fs,q⟩:=h;cases d;rcases a with a|a
 .obtain⟨A3,r,pl,e⟩:=I.list a;refine SeqAt.notIn_listAt (Ds x) pl.isList (λw hw=>Ko b c r fs w (by simpa using hw)) ⟨.bl _,H,I,rfl,?_⟩
  rw[show A3.toArray.any (Ds x)=A3.any (Ds x) by simp,OU r fs];exact q
 .obtain⟨A3,r,pl,e⟩:=I.tuple a;refine SeqAt.notIn_tupleAt (Ds x) pl (λw hw=>Ko b c r fs w (by simpa using hw)) ⟨.bl _,H,I,rfl,?_⟩
  rw[show A3.toArray.any (Ds x)=A3.any (Ds x) by simp,OU r fs];exact q
theorem OC:Bo X (.builtin "len") (λxs H Q=>∃p ys,xs=[.ref p]/\(AL X.K H p ys∨Ax X.K H p ys)/\Q (.int ys.length) H):=by
 intro ZB s Z H xs us Q I r h;obtain⟨p,ys,rfl,b,q⟩:=h;obtain⟨u,rfl,d⟩:=vals1 r;cases d;have f:=K8;rcases b with b|b
 .obtain⟨A3,c,pl,e⟩:=I.list b;have a:=c.length;exact Calls.call_len_list pl.isList (by simp only[Bn] <;> omega) ⟨.int ys.length,H,I.tok _,⟨s.toks+1,by rw[Bn,a]⟩,q⟩
 .obtain⟨A3,c,pl,e⟩:=I.tuple b;have a:=c.length;exact len_tuple pl (by simp only[Bn] <;> omega) ⟨.int ys.length,H,I.tok _,⟨s.toks+1,by rw[Bn,a]⟩,q⟩
theorem vc:Bo X (.builtin "len") (λxs H Q=>∃z,xs=[.str z]/\z.length<=sizeLine/\Q (.int z.length) H):=by
 intro ZB s Z H xs us Q I r h;obtain⟨z,rfl,a,q⟩:=h;obtain⟨u,rfl,t,rfl⟩:=vals1 r;have b:=K8;exact len_str (by omega) ⟨.int z.length,H,I.tok _,⟨_,rfl⟩,q⟩
theorem TH:Bo X (.type "list") (λxs H Q=>∃p ys,xs=[.ref p]/\(AL X.K H p ys∨Ax X.K H p ys)/\∀l,H l=none->Q (.ref l) (upd H l (.lst ys))):=by
 intro ZB s Z H xs us Q I r h;obtain⟨p,ys,rfl,d,q⟩:=h;obtain⟨u,rfl,i⟩:=vals1 r;cases i;have fin:∀(A3:List Value),Vals ys A3->ys.length<=sizeLine->∀(h':Heap)(c':Nat),(∀b o',s.heap.get? b=some o'->h'.get? b=some o')->
   h'.get? s.heap.objs.size=some { cls:=.type "list", dict:=none,data:=.seq A3.toArray c',slots:=#[] }->EP X ZB Z Q (.ref s.heap.objs.size) { s with heap:=h' }:=λA3 a c h' c' kp e=>
  ⟨.ref s.heap.objs.size,_,I.laid (t':=s.toks) kp (Aa _) (show BZ X.prog X.w _ h' _ (.lst ys)from⟨c,A3,c',a,e⟩),rfl,q _ (I.AB.fresh (Aa _))⟩
 rcases d with d|d
 .obtain⟨A3,a,pl,c⟩:=I.list d;have f:=a.length;obtain⟨o,ho,g,n,hd⟩:=pl.isList;exact call_list_seq p (.inl rfl) ho g hd (λh' c' kp e=>fin A3 a c h' c' kp e) (by simp only[Bn] <;> omega)
 .obtain⟨A3,a,pl,c⟩:=I.tuple d;have f:=a.length;obtain⟨o,ho,g,n,hd⟩:=pl;exact call_list_seq p (.inr rfl) ho g hd (λh' c' kp e=>fin A3 a c h' c' kp e) (by simp only[Bn] <;> omega)
theorem Ry:Bo X (.type "tuple") (λxs H Q=>∃p ys,xs=[.ref p]/\((AL X.K H p ys/\∀l,H l=none->Q (.ref l) (upd H l (.tup ys)))∨(Ax X.K H p ys/\Q (.ref p) H))):=by
 intro ZB s Z H xs us Q I r h;obtain⟨p,ys,rfl,h⟩:=h;obtain⟨u,rfl,j⟩:=vals1 r;cases j;rcases h with⟨c,q⟩|⟨c,q⟩
 .obtain⟨A3,a,pl,d⟩:=I.list c;have f:=a.length;refine call_tuple_list pl.isList (λh' kp=>?_) (by simp only[Bn] <;> omega)
  have i:Inv X ZB Z H { s with heap:=h' }:=I.kept (t':=s.toks) kp
  have k:Inv X ZB Z (upd H h'.objs.size (.tup ys)) { s with heap:=h'.push { cls:=.type "tuple", data:=.seq A3.toArray } }:=
   i.laid (t':=s.toks) (λb o e=>Ao _ e) (Aa _) (show BZ X.prog X.w _ _ _ (.tup ys)from⟨d,A3,a,⟨IsTup.new _ _,λQX g=>by rw[BQ _ rfl]at g;cases g;rfl⟩⟩)
  exact⟨.ref h'.objs.size,_,k,rfl,q _ (i.AB.fresh (Aa _))⟩
 .obtain⟨A3,a,pl,d⟩:=I.tuple c;exact call_tuple_same pl ⟨.ref p,H,I,rfl,q⟩
def Q6(K:ZHy)(T:String)(x:V)(H:Hp):Prop:=match x with
 | .str _=>T="str"
 | .int _=>T="int"
 | .ref p=>(T="list" /\ ∃xs,AL K H p xs)∨(T="tuple" /\ ∃o,K.lookup p=some o/\o.cls=.type "tuple" /\ o.dict=none)∨
   (T="dict" /\ ((∃A6,H p=some (.dK A6))∨∃A6,H p=some (.dT A6)))∨(T="set" /\ ∃S n,H p=some (.set S n))∨(T="tuple" /\ ∃xs,H p=some (.tup xs))
 |_=>False
theorem sO(I:Inv X ZB Z H s)(r:RelV x v)(ty:Q6 X.K T x H):
  s.TypeIs v T/\∀a,v=.ref a->∃ob,s.heap.get? a=some ob/\ob.dict=none:=by
 cases x with
 |str z=>
  obtain⟨t,rfl⟩:=r;cases(show T="str" from ty);exact⟨typeIs_str s z t,λ_ e=>nomatch e⟩
 |int i=>
  obtain⟨t,rfl⟩:=r;cases(show T="int" from ty);exact⟨typeIs_int s i t,λ_ e=>nomatch e⟩
 |ref p=>
  cases r;rcases ty with⟨rfl,xs,d⟩|⟨rfl,o,hk,f,hd⟩|⟨rfl,hk⟩|⟨rfl,S,n,hk⟩|⟨rfl,xs,hk⟩
  .obtain⟨A3,_,pl,_⟩:=I.list d;refine⟨pl.isList.typeIs,λa e=>?_⟩;cases e;obtain⟨o,n,e,c,hd,_⟩:=pl;exact⟨o,e,hd⟩
  .refine⟨⟨o,I.CB p o hk,f⟩,λa e=>?_⟩;cases e;exact⟨o,I.CB _ o hk,hd⟩
  .have z:∃o,s.heap.get? p=some o/\o.ExactDict:=by
    rcases hk with⟨A6,hk⟩|⟨A6,hk⟩
    .obtain⟨_,_,_,_,o,_,_,e,ex,_⟩:=I.AB p _ hk;exact⟨o,e,ex⟩
    .obtain⟨_,_,_,_,o,_,_,e,ex,_⟩:=I.AB p _ hk;exact⟨o,e,ex⟩
   obtain⟨o,e,ex⟩:=z;refine⟨⟨o,e,ex.1⟩,λa b=>?_⟩;cases b;exact⟨o,e,ex.2.1⟩
  .obtain⟨o,_,_,_,e,ex,_⟩:=I.AB p _ hk;refine⟨⟨o,e,ex.1⟩,λa b=>?_⟩;cases b;exact⟨o,e,ex.2.1⟩
  .obtain⟨_,A3,_,⟨o,e,c,_⟩,g⟩:=I.AB p _ hk;refine⟨⟨o,e,c⟩,λa b=>?_⟩;cases b;exact⟨o,e,g o e⟩
 |_=>exact False.elim ty
def LN(K:ZHy)(T:String)(r:V->List V->Hp->VK->Prop)(to:TE)(t:TA):TE:=λZ H Q=>to Z H λx H1=>Q6 K T x H1/\t Z H1 λxs H2=>r x xs H2 Q
variable{o e:Expr}{es:List Expr}{to:TE}{t:TA}{name:Str}{apos Bl:Pos}{id:String}{r:V->List V->Hp->VK->Prop}
end
def V4(X:Cx)(id:String)(r:V->List V->Hp->VK->Prop):Prop:=
 ∀(ZB:ZHz)(s:Shared)(Z:St)(H:Hp)(x:V)(xs:List V)(v:Value)(us:List Value)(Q:VK),Inv X ZB Z H s->RelV x v->Vals xs us->r x xs H Q->
  wpAny (model X.prog X.w) X.A (call (.builtin id) (v::us)) (EP X ZB Z Q) X.xe s
theorem Vals.one:∀{x:V}{us:List Value},Vals [x] us->∃u,us=[u]/\RelV x u:=λr=>vals1 r
theorem Vals.two:∀{x y:V}{us:List Value},Vals [x,y] us->∃u v,us=[u,v]/\RelV x u/\RelV y v:=λr=>vals2 r
section
variable{l b:Addr}{zs:List V}
theorem Inv.Yg{f:Array Value->Array Value}(I:Inv X ZB Z H s)(c:H l=some (.lst xs))
  (e:s.heap.get? l=some { cls:=.type "list", data:=.seq A3.toArray n }) (hf:f A3.toArray=its'.toArray) (hv:Vals ys its') (hz:ys.length<=sizeLine) :
  Inv X ZB Z (upd H l (.lst ys)) { s with heap:=s.heap.update l (Obj.mapSeq f),toks:=t' }:=by
 have q:=PySem.IsL.update e f;rw[hf]at q;refine I.write (x:=l) (e:=l) (by rw[c];exact trivial) (.inl rfl) (λd u b a=>(Fe s.heap (Obj.mapSeq f) (Az b)).trans a) ⟨_,q⟩ ?_;exact⟨hz,its',_,hv,q⟩
theorem Inv.jl(I:Inv X ZB Z H s)(b:Vals ys A3)(a:ys.length<=sizeLine):
  Inv X ZB Z (upd H s.heap.objs.size (.lst ys)) { s with heap:=s.heap.push { cls:=.type "list", data:=.seq A3.toArray },toks:=t' }:=
 I.laid (λ_ _ q=>Ao _ q) (Aa _) ⟨a,A3,0,b,BQ _ rfl⟩
theorem Inv.fresh(I:Inv X ZB Z H s):H s.heap.objs.size=none:=I.AB.fresh (Aa _)
theorem Inv.N7(I:Inv X ZB Z H s)(a:H l=some (.lst xs)):xs.length<=sizeLine/\∃(A3:List Value)(n:Nat),Vals xs A3/\xs.length=A3.length/\s.heap.get? l=some { cls:=.type "list", data:=.seq A3.toArray n }:=by
 obtain⟨z,A3,n,r,e⟩:=I.AB l _ a;exact⟨z,A3,n,r,r.length,e⟩
def Sl:V->List V->Hp->VK->Prop:=λx vs H Q=>∃l xs y,x=.ref l/\vs=[y]/\H l=some (.lst xs)/\xs.length<sizeLine/\Q .A8 (upd H l (.lst (xs++[y])))
theorem jj:V4 X "list.append" Sl:=by
 intro ZB s Z H x vs v us Q I b c h;obtain⟨l,xs,y,rfl,rfl,a,f,q⟩:=h;cases b;obtain⟨u,rfl,d⟩:=c.one;obtain⟨z,A3,n,r,g,e⟩:=I.N7 a;refine call_meets F.slot_list_append ⟨_,e,rfl⟩ F.entry_list_append (F.args_list_append_2 _ _) (PySem.list_append l A3.toArray n u (by rw[Bn];omega)) ⟨e,?_⟩;refine⟨.A8,_,I.Yg (its':=A3++[u]) a e (by simp) (r.append (.cons d .nil)) ?_,rfl,q⟩;rw[BI,ZU];omega
def cn:R2:=λx y H Q=>∃l b xs zs,x=.ref l/\y=.ref b/\H l=some (.lst xs)/\H b=some (.lst zs)/\xs.length+zs.length<=sizeLine/\∀p,H p=none->Q (.ref p) (upd H p (.lst (xs++zs)))
theorem vd:BD X (binaryOp .Add) cn:=by
 intro ZB s Z H x y v u Q I c a h;obtain⟨l,b,xs,zs,rfl,rfl,f,g,m,q⟩:=h;cases c;cases a;obtain⟨z,A3,n,r,o,e⟩:=I.N7 f;obtain⟨j,D5,k,d,Bk,i⟩:=I.N7 g;refine PySem.P.add_list e i ?_ (by rw[Bn,Bn];omega);have ea:A3.toArray++D5.toArray=(A3++D5).toArray:=by simp
 rw[ea];exact⟨.ref _,_,I.jl (t':=s.toks) (r.append d) (by rw[BI];omega),rfl,q _ I.fresh⟩
variable{prog:Program}{w:World}{E:Value->Shared->Prop}
set_option maxRecDepth 100000 in
end
end L2
namespace Hu
open PySem.W PySem.Calls
variable{h:Heap}{l:OpenLaw}{n:Nat}{prog q:Program}
theorem oJ{P:Params}:∀(ns:List Int)(vs:List Value),WellAll P h vs (ns.map WData.int)->IntsAre vs ns:=by
 intro ns
 induction ns with
 |nil=>
  intro vs w;rw[ZV]at w;cases w;exact .nil
 |cons n ns c=>
  intro vs w;rw[D4]at w;cases w with
  |cons a b=>
   cases a;exact .cons _ _ (c _ b)
theorem ZFx(m:l.most=some n){P:Params}{args:List WData}{vals:List Value}
  (T6:l.row.toRowW.claim.pre args=true) (UW:WellAll P h vals args) :
  ∃a vs ns,vals=[Value.ref a]/\args=[WData.list (ns.map WData.int)]/\h.get? a=some { cls:=.type "list", data:=.seq vs.toArray }/\IntsAre vs ns/\ns.length<=n:=by
 have f:WShape.hasAll [] args [.list .int]=true:=(pre_splitW T6).1;have g:l.pre.holds [] { args:=args }=true:=(pre_splitW T6).2;obtain⟨d,r,rfl,h1,h2⟩:=hasAllW_cons f;obtain rfl:=hasAllW_nil h2;obtain⟨xs,rfl,o⟩:=hasW_list h1;obtain⟨ns,rfl⟩:=items_int o;have b:ns.length<=n:=by
  unfold OpenLaw.pre at g;have e:(WTm.not (.lt (.lit (.int (n:Int))) (.len (.arg 0)))).holds [] { args:=[.list (ns.map .int)] }=true:=by
   have e:=(holds_andW g).1;rw[m]at e;exact e
  have c:=condW_of e (w_not (w_lt w_lit (w_len_list (w_arg rfl))));rw[AG]at c;refine Zc λq=>?_;have k:(n:Int)<((ns.length:Nat):Int):=by omega
  first
   | (rw[oW k]at c;exact absurd c (by decide))
   | (simp at c;omega)
 cases UW with
 |cons j i=>
  cases i;cases j with
  |list ho TN=>exact⟨_,_,ns,rfl,rfl,ho,oJ ns _ TN,b⟩
theorem ZD9(l:OpenLaw)(args:List WData):l.row.toRowW.claim.post args (.bool true) args=true:=
 postW_of (r:=l.row.toRowW) (X:=(true == true))
  (show WShape.has [] (.bool true) .bool=true by first|rfl|decide|simp[WShape.has,WShape.arms,WShape.armsAll])
  (show(WTm.eq .res (.lit (.bool true))).value [] { args:=args,res:=some (.bool true),after:=args }=some (.bool (true == true))from w_eq_bool (w_res rfl) w_lit) rfl
theorem wU{loose:List Str}{XP:(ZI0)->Heap->Prop}{YP:World->Heap->Prop}{d:DefRec}
  (m:l.most=some n) (Ob:d.params.defaults=[])
  (call:∀(w:World)(s₀ s₁:Shared)(mg mb:ZI0)(g:Addr)(o:Obj)(h cd c:Value)(a:Addr)(vs:List Value)(ns:List Int),
   Ground q loose [] XP w s₀ mg mb s₁.heap->YP w s₁.heap->
   s₁.heap.get? g=some o->o.data=.func (docDef d.name d.params d.body d.scope h cd c)->s₁.heap.CodeRec cd d.name->mg d.name=some (.ref g)->
   s₁.heap.get? a=some { cls:=.type "list", data:=.seq vs.toArray }->IntsAre vs ns->ns.length<=n->s₁.gens=#[]->
   codeAny (model l.prog w) callerA (.call (.ref g) ⟨[.ref a],[]⟩) (λr s'=>r=.ok (.ret (.bool true))/\OldK s₁.heap s'.heap/\s'.os=s₁.os/\AllBare s'.gens) s₁) :
  WalkO q loose XP YP l.row.toRowW d [] (λf vs=>PySem.call f vs):=by
 intro w s₀ s₁ mg mb G Y g o h cd c x kV ho hd DK i NT t args vals as T6 ZHv j UW s;obtain rfl:x=.none:=Dflts.none i Ob;obtain rfl:kV=.none:=Dflts.noKw i;obtain⟨a,vs,ns,rfl,rfl,Xi,b,e⟩:=ZFx m T6 UW;refine enter_call (ZAD (call w s₀ s₁ mg mb g o h cd c a vs ns G Y ho (fd_plain hd) DK NT Xi b e t) λr s' k=>?_);obtain⟨rfl,h2,v,u⟩:=k;exact⟨.inl ⟨.bool true,.bool true,[],rfl,λ_=>rfl,.bool true,ZD9 l _,λ_=>⟨List.Pairwise.nil,λ_ p=>(nomatch p)⟩⟩,h2,v,u⟩
section
variable{w:World}{A:Around}{E:Value->Shared->Prop}{s:Shared}{K:Frag}
noncomputable def QH(h:Heap):Heap:={ h with objs:=#[] }
theorem RN(h:Heap)(b:Addr):(QH h).get? b=none:=by
 cases e:(QH h).get? b with
 |none=>rfl
 |some o=>exact absurd (AY e) (Ze _)
noncomputable def ledger(h:Heap)(L d:Addr):ZHz:=(List.range h.objs.size).filterMap λa=>if a=L∨a=d then none else(h.get? a).map λo=>(a,o)
theorem z4{L d a:Addr}{o:Obj}:(a,o)∈ledger h L d↔a≠L/\a≠d/\h.get? a=some o:=by
 unfold ledger;rw[ZGn];constructor
 .rintro⟨b,_,e⟩;split at e
  .cases e
  .rename_i hb;obtain⟨o',ho,g⟩:=Option.map_eq_some_iff.mp e;cases g;exact⟨λq=>hb (.inl q),λq=>hb (.inr q),ho⟩
 .rintro⟨f,c,ho⟩;refine⟨a,List.mem_range.mpr (AY ho),?_⟩;rw[nr (show ¬ (a=L∨a=d)from λq=>q.elim f c),ho] <;> rfl
theorem ZFb{L:Addr}{m:ZI0}(n:h.Ns L m):Fr (QH h) L h m:=
 ⟨n,λb o e=>(by rw[RN]at e;cases e),CJ _⟩
end
end Hu
namespace L2
variable{X:Cx}{qual x:Str}{f:Addr}{fd:FuncData}{ps:List Str}{A B:Prop}
theorem iH:∀{vs:List Value}{ns:List Int},IntsAre vs ns->Vals (ns.map V.int) vs
 |_,_,.nil=>.nil
 |_,_,.cons n t h=>.cons ⟨t,rfl⟩ (iH h)
noncomputable def II(s:Stmt):Arguments:=match s with
 | .FunctionDef _ a _ _ _ _ _ _ _ _=>a
 |_=>{ posonlyargs:=[],args:=[],vararg:=none,kwonlyargs:=[],kw_defaults:=[],kwarg:=none,defaults:=[] }
noncomputable def DC(s:Stmt):List Stmt:=match s with
 | .FunctionDef _ _ b _ _ _ _ _ _ _=>b
 |_=>[]
noncomputable def AI(s:Stmt):Scope:=match s with
 | .FunctionDef _ _ _ _ _ _ sc _ _ _=>sc
 |_=>{ kind:=.function,names:=[],isGenerator:=false,isCoroutine:=false }
abbrev DD:Fj:=λ_ _ _ _ _ _=>False
abbrev E0:XK:=λ_ _ _=>False
theorem ZEH:Passes DD X E0:=λ_ _ _ _ _ _ _ h=>h.elim
structure AE (K:ZHy) (x qual:Str) (st:Stmt) (f:Addr) (fd:FuncData):Prop where
 ex:∃(oc:Value)(od:Option Addr)(kV doc pm:Value)(an:Option Addr)(AU ct:Value)(G3:Array (Option Value)),
  fd=PySem.W.fnOf x qual (II st) (DC st) (AI st) .none kV doc pm an AU ct/\K.lookup f=some ⟨oc,od,.func fd,G3⟩/\PySem.W.codeIn K AU qual=true
 kp:PySem.W.keepIn K (.ref f)=true
section
variable{P:Program}{w:World}{K:ZHy}{mg:ZI0}{Yd:Heap}
theorem AE.ok{st:Stmt}{N:List Str}{k:Nat}{sp:Sp}(F:AE K x qual st f fd)(S:Ap N ps (AI st))(len:∀vs H Q E,sp vs H Q E->vs.length=ps.length)
  (HD:∀(AU:Value)(A:Around)(outer:List Env)(s:Shared)(H:Hp)(vs:List V)(Q:VK)(E:XK),B8 k (A.deeper (envOfC qual (AI st) s.heap.objs.size f AU))->sp vs H Q E->
   ∃t,Dc (Cn DD P w K mg Yd N qual (AI st) f AU A outer s H E).Gz (DC st) t/\t { nx:=λ_ H'=>Q .A8 H',rt:=Q } (start N vs) H):Cs P w K mg Yd DD (k+1) f fd ps sp:=by
 obtain⟨e,od,kV,c,d,g,AU,ct,G3,rfl,a,DK⟩:=F.ex;refine XD a DK S len λA outer s H vs Q E b Ey=>?_;obtain⟨t,h,q⟩:=HD AU A outer s H vs Q E b Ey;exact⟨t,h.Gz,q⟩
theorem AE.binds{st:Stmt}(F:AE K x qual st f fd)
  (h:∀(kV a b:Value)(c:Option Addr)(AU ct:Value)(us:List Value),us.length=ps.length->bindArgs (PySem.W.fnOf x qual (II st) (DC st) (AI st) .none kV a b c AU ct) ⟨us,[]⟩=pure (ps.zip us)):Binds K fd ps []:=by
 obtain⟨d,od,kV,a,b,c,AU,ct,G3,rfl,e,DK⟩:=F.ex;exact .all (h kV a b c AU ct)
theorem ZAW{st:Stmt}{e:Value}{od d:Option Addr}{G3:Array (Option Value)}{kV a b AU ct:Value}(l:K.lookup f=some ⟨e,od,.func (PySem.W.fnOf x qual (II st) (DC st) (AI st) .none kV a b d AU ct),G3⟩)
  (c:PySem.W.codeIn K AU qual=true) (k:PySem.W.keepIn K (.ref f)=true):AE K x qual st f (PySem.W.fnOf x qual (II st) (DC st) (AI st) .none kV a b d AU ct):=⟨⟨e,od,kV,a,b,d,AU,ct,G3,rfl,l,c⟩,k⟩
end
theorem JJ{A:Around}{k:Nat}(a:B8 k A):A.units+1<cLine:=Gx (Nat.add_le_add_left (by decide:1<=64) _) a.units
theorem pv(i:Nat){pos:Pos}(a:X.N[i]?=some x:=by rfl)(hv:R0 X.env.scope x:=by first|exact Or.inl rfl|exact Or.inr (Or.inl rfl)|exact Or.inr (Or.inr rfl))(hd:(x == ("__debug__":Str))=false:=by decide)
  (DK:(x == ("__classdict__":Str))=false:=by decide):PE X (.Name x pos) (Aj i):=iW a hv hd DK
theorem HY(h:B):if false=true then A else B:=by
 rw[nr Cv];exact h
theorem Np(h:A):if true=true then A else B:=by
 rw[oM rfl];exact h
theorem BA{c:Prop}[Decidable c](h1:c->A)(h2:¬ c->B):if c then A else B:=by
 by_cases h:c
 .rw[oM h];exact h1 h
 .rw[nr h];exact h2 h
def AQ(H H':Hp):Prop:=∀b o,H b=some o->H' b=some o
theorem AQ.refl(H:Hp):AQ H H:=λ_ _ h=>h
theorem AQ.trans{H H1 H2:Hp}(a:AQ H H1)(b:AQ H1 H2):AQ H H2:=λc o h=>b c o (a c o h)
end L2
set_option maxHeartbeats 4000000
namespace L2
variable{α κ:Type}{o:Option V}{u v:Value}{A6:List (List Key×V)}{y:V}{w:World}{H H' H2 H4:Hp}{xs:List (List Key×Addr×Value)}{C a acc b it n:Addr}{h h' h1:Heap}{X Y:Cx}{ZB:ZHz}{ws Z:St}{s s2 s4:Shared}{A:Around}{E Q:Value->Shared->Prop}{i j n0 t' tk:Nat}{prog:Program}{env:Env}{c e elt tg value:Expr}{K7 pos px py:Pos}{td te ty:TE}{outer scope:Scope}{cl closure:List (Str×Addr)}{qual x:Str}{ce:Option Str}{es ifs:List Expr}{R:Result->Shared->Prop}{tn:Nat->Heap->Prop}{wi:TI}{CW:It->St->Hp->Addr->VK->Prop}{N:List Str}{ys:List V}{A3:List Value}
section
variable[DecidableEq κ]
noncomputable def CM(A6:List (κ×V))(k:κ):Option V:=(A6.find? λkv=>decide (kv.1=k)).map (·.2)
def putK(A6:List (κ×V))(k:κ)(v:V):List (κ×V):=
 if(A6.any λkv=>decide (kv.1=k))=true then A6.map (λkv=>if kv.1=k then(kv.1,v)else kv)else A6++[(k,v)]
theorem M0{p:κ×V}{r:List (κ×V)}{k:κ}(e:p.1=k):CM (p::r) k=some p.2:=by simp[CM,Pj,e]
theorem L6{p:κ×V}{r:List (κ×V)}{k:κ}(e:¬ p.1=k):CM (p::r) k=CM r k:=by simp[CM,Pj,e]
theorem Xa(k:κ):∀A6:List (κ×V),(A6.any λkv=>decide (kv.1=k))=(CM A6 k).isSome
 | []=>rfl
 |p::r=>by
  rw[NI]
  by_cases e:p.1=k
  .simp only[M0 e,oW e,Bool.true_or,ZH2]
  .rw[L6 e,sX e,ZK];exact Xa k r
theorem jX(A6:List (κ×V))(k:κ)(v:V):(putK A6 k v).length<=A6.length+1:=by
 unfold putK;split
 .rw[AG];omega
 .rw[BI,BJ,Pk];omega
theorem EF.RY{u:Option Value}(r:EF o u):o.isSome=u.isSome:=by
 cases o with
 |none=>cases u with
  |none=>rfl
  |some _=>exact(show False from r).elim
 |some _=>cases u with
  |none=>exact(show False from r).elim
  |some _=>rfl
theorem KV.val{A6:List (κ×V)}{vs:List (κ×Value)}(r:KV A6 vs)(k:κ):EF (CM A6 k) (valueAt vs k):=by
 unfold KV at r
 induction r with
 |nil=>exact True.intro
 |@cons p q ps a h t d=>
  obtain⟨h1,h2⟩:=h
  by_cases e:p.1=k
  .have c:q.1=k:=h1.symm.trans e;have b:valueAt (q::a) k=some q.2:=by simp[valueAt,Pj,c]
   rw[M0 e,b];exact h2
  .have c:¬ q.1=k:=λz=>e (h1.trans z);have b:valueAt (q::a) k=valueAt a k:=by simp[valueAt,Pj,c]
   rw[L6 e,b];exact d
theorem KV.any{A6:List (κ×V)}{vs:List (κ×Value)}(r:KV A6 vs)(k:κ):(A6.any λkv=>decide (kv.1=k))=vs.any λkv=>decide (kv.1=k):=by
 unfold KV at r
 induction r with
 |nil=>rfl
 |cons h t a=>rw[NI,NI,a,h.1]
theorem KV.Uo{A6:List (κ×V)}{vs:List (κ×Value)}(r:KV A6 vs)(k:κ)(a:RelV y u):
  KV (A6.map λkv=>if kv.1=k then(kv.1,y)else kv) (vs.map λkv=>if kv.1=k then(kv.1,u)else kv):=by
 unfold KV at r ⊢
 induction r with
 |nil=>exact .nil
 |@cons p q ps c h t b=>
  rw[D4,D4];refine .cons ?_ b;obtain⟨h1,h2⟩:=h
  by_cases e:p.1=k
  .rw[oM e,oM (h1.symm.trans e)];exact⟨h1,a⟩
  .rw[nr e,nr (λz=>e (h1.trans z))];exact⟨h1,h2⟩
theorem KV.put{A6:List (κ×V)}{vs:List (κ×Value)}(r:KV A6 vs)(k:κ)(a:RelV y u):KV (putK A6 k y) (stored vs k u):=by
 unfold putK stored;rw[r.any k]
 by_cases e:(vs.any λkv=>decide (kv.1=k))=true
 .rw[oM e,oM e];exact r.Uo k a
 .rw[nr e,nr e];exact Paired.snoc r ⟨rfl,a⟩
theorem KV.length{A6:List (κ×V)}{vs:List (κ×Value)}(r:KV A6 vs):A6.length=vs.length:=Pr r
end
theorem SH{P:Program}{k:Key}(r:RelV (kV k) u):(G5 P w).is k u=true:=by
 cases k with
 |inl i=>obtain⟨t,e⟩:=(show ∃t,u=Value.int i t from r);subst e;exact wo P w i t
 |inr x=>obtain⟨t,e⟩:=(show ∃t,u=Value.str x t from r);subst e;exact ZAY P w x t
theorem km{P:Program}{w:World}:∀{ks:List Key}{us:List Value},Vals (ks.map kV) us->ItemsAre (G5 P w) ks us
 | [],_,r=>by rw[ZV]at r;cases r;exact .nil
 |k::ks,_,r=>by
  rw[D4]at r;cases r with
  |cons h t=>exact .cons (SH h) (km t)
abbrev KT(H:Hp):List (List Key×V)->List (List Key×Addr×Value)->Prop:=Paired λp q=>p.1=q.1/\H q.2.1=some (.tup (p.1.map kV))/\RelV p.2 q.2.2
theorem KT.val(r:KT H A6 xs)(k:List Key):EF (CM A6 k) ((atKey xs k).map (·.2)):=by
 induction r with
 |nil=>exact True.intro
 |@cons p q ps a h t d=>
  obtain⟨h1,_,h2⟩:=h
  by_cases e:p.1=k
  .have c:q.1=k:=h1.symm.trans e;have b:atKey (q::a) k=some q.2:=by simp[atKey,Pj,c]
   rw[M0 e,b];exact h2
  .have c:¬ q.1=k:=λz=>e (h1.trans z);have b:atKey (q::a) k=atKey a k:=by simp[atKey,Pj,c]
   rw[L6 e,b];exact d
theorem KT.Uo(r:KT H A6 xs)(k:List Key)(a:RelV y u):
  KT H (A6.map λkv=>if kv.1=k then(kv.1,y)else kv) (xs.map (putAt k u)):=by
 induction r with
 |nil=>exact .nil
 |@cons p q ps d h t b=>
  rw[D4,D4];refine .cons ?_ b;obtain⟨h1,h2,c⟩:=h;unfold putAt
  by_cases e:p.1=k
  .rw[oM e,oM (h1.symm.trans e)];exact⟨h1,h2,a⟩
  .rw[nr e,nr (λz=>e (h1.trans z))];exact⟨h1,h2,c⟩
theorem KT.put(r:KT H A6 xs)(k:List Key)(c:H b=some (.tup (k.map kV)))(a:RelV y u):
  KT H (putK A6 k y) (storedH xs k b u):=by
 have e:(A6.any λkv=>decide (kv.1=k))=(atKey xs k).isSome:=by
  rw[Xa,(r.val k).RY,Zj]
 unfold putK storedH;rw[e]
 by_cases q:(atKey xs k).isSome=true
 .rw[oM q,oM q];exact r.Uo k a
 .rw[nr q,nr q];exact Paired.snoc r ⟨rfl,c,a⟩
theorem KT.keeps(r:KT H A6 xs)(a:∀b ys,H b=some (.tup ys)->H' b=some (.tup ys)):KT H' A6 xs:=
 Paired.Q9 r λ_ _ z=>⟨z.1,a _ _ z.2.1,z.2.2⟩
section
variable{P:Program}
theorem cX{u:HO}(ok:BX P w H h)(e:Rd H a u):BZ P w H h a u:=e.ok ok
theorem QJ{A6:List (Key×V)}(ok:BX P w H h)(e:Rd H a (.dK A6)):A6.length<=sizeLine/\(a == sysModules)=false/\∃vs,KV A6 vs/\h.DictOf (G5 P w) a vs:=
 show BZ P w H h a (.dK A6)from cX ok e
theorem ZAz{A6:List (Key×V)}(ok:BX P w H h)(e:H a=some (.dK A6)):A6.length<=sizeLine/\(a == sysModules)=false/\∃vs,KV A6 vs/\h.DictOf (G5 P w) a vs:=QJ ok (.inl e)
theorem Qa{ks:List Key}(ok:BX P w H h)(e:H a=some (.tup (ks.map kV))):(tupleKind (G5 P w)).is h ks a:=by
 obtain⟨_,A3,r,⟨o,h1,h2,n,b⟩,_⟩:=(show BZ P w H h a (.tup (ks.map kV))from ok a _ e);exact⟨o,A3.toArray,n,h1,h2,b,by simpa using km r⟩
theorem SR(ok:BX P w H h)(e:Rd H a (.dT A6)):A6.length<=sizeLine/\(a == sysModules)=false/\
  ∃xs,KT H A6 xs/\h.DictOfH (tupleKind (G5 P w)) a xs:=by
 obtain⟨z,y,xs,r,o,es,ep,h1,h2,g,f,d⟩:=(show BZ P w H h a (.dT A6)from cX ok e);refine⟨z,y,xs,r,o,es,ep,h1,h2,g,f,λx hx=>?_,d⟩;have all:∀{l:List (List Key×V)}{m:List (List Key×Addr×Value)},KT H l m->∀x∈m,(tupleKind (G5 P w)).is h x.1 x.2.1:=by
  intro l m q
  induction q with
  |nil=>intro x hx;exact nomatch hx
  |@cons p q ps i b t c=>
   intro x hx;rcases List.mem_cons.mp hx with e|hx
   .subst e;exact Qa ok (by rw[<- b.1];exact b.2.1)
   .exact c x hx
 exact all r x hx
theorem ZBV(ok:BX P w H h)(e:H a=some (.dT A6)):A6.length<=sizeLine/\(a == sysModules)=false/\
  ∃xs,KT H A6 xs/\h.DictOfH (tupleKind (G5 P w)) a xs:=SR ok (.inl e)
end
def Hk(H:Hp)(a:Addr)(y:V)(r:Option V):Prop:=
 (∃A6 k,Rd H a (.dK A6)/\y=kV k/\r=CM A6 k)∨∃A6 k b,Rd H a (.dT A6)/\y=.ref b/\H b=some (.tup (k.map kV))/\r=CM A6 k
def PX(H:Hp)(a:Addr)(y v:V)(H':Hp):Prop:=
 (∃A6 k,H a=some (.dK A6)/\y=kV k/\A6.length<sizeLine/\H'=upd H a (.dK (putK A6 k v)))∨
 ∃A6 k b,H a=some (.dT A6)/\y=.ref b/\H b=some (.tup (k.map kV))/\A6.length<sizeLine/\H'=upd H a (.dT (putK A6 k v))
theorem Hk.k{A6:List (Key×V)}{k:Key}(e:H a=some (.dK A6)):Hk H a (kV k) (CM A6 k):=.inl ⟨A6,k,.inl e,rfl,rfl⟩
theorem PX.k{A6:List (Key×V)}{k:Key}{v:V}(e:H a=some (.dK A6))(b:A6.length<sizeLine):PX H a (kV k) v (upd H a (.dK (putK A6 k v))):=.inl ⟨A6,k,e,rfl,b,rfl⟩
section
variable{v:V}{r:Value}
theorem Inv.big(I:Inv X ZB Z H s):sysModules<s.heap.objs.size:=by
 have h:mainGlobals<s.heap.objs.size:=(I.mod.glob.keeps I.bk).lt;exact Tj (by decide) h
theorem wH(i:A.units+1<cLine)(I:Inv X ZB Z H s)(g:Hk H a y (some v))(f:RelV y u)(h:∀c s',Inv X ZB Z H s'->RelV v c->Q c s'):
  wpAny (model X.prog X.w) A (getItem (.ref a) u) Q E s:=by
 rcases g with⟨A6,k,e,d,l⟩|⟨A6,k,b,e,d,m,l⟩
 .subst d;obtain⟨z,hd,vs,rel,dd⟩:=QJ I.AB e;obtain⟨c,hw,G1⟩:=EF.some_of (v:=v) (o:=valueAt vs k) (by rw[l];exact rel.val k);exact wpAny_getItem_of (SH f) dd.mapOf hw (h c _ (I.tok _) G1)
 .subst d;cases(show u=Value.ref b from f);obtain⟨z,hd,xs,rel,dd⟩:=SR I.AB e;obtain⟨c,hw,G1⟩:=EF.some_of (v:=v) (o:=(atKey xs k).map (·.2)) (by rw[l];exact rel.val k)
  obtain⟨p,j,WI⟩:=Option.map_eq_some_iff.mp hw;refine wpAny_getItem_heap (ya i) (Qa I.AB m) dd j ?_;rw[WI];exact h c _ (I.tok _) G1
theorem pN(f:A.units+1<cLine)(I:Inv X ZB Z H s)(g:Hk H a y o)(d:RelV y u)(h:∀s',Inv X ZB Z H s'->Q (.bool (!o.isSome)) s'):
  wpAny (model X.prog X.w) A (compareOp .NotIn u (.ref a)) Q E s:=by
 rcases g with⟨A6,k,e,c,l⟩|⟨A6,k,b,e,c,i,l⟩
 .subst c;obtain⟨z,hd,vs,rel,dd⟩:=QJ I.AB e;refine wpAny_notIn_of (SH d) hd dd.mapOf ?_;rw[<- (rel.val k).RY,<- l];exact h _ (I.tok _)
 .subst c;cases(show u=Value.ref b from d);obtain⟨z,hd,xs,rel,dd⟩:=SR I.AB e;refine wpAny_notIn_heap (ya f) (Qa I.AB i) hd dd ?_;have q:=(rel.val k).RY;rw[Zj]at q;rw[<- q,<- l];exact h _ (I.tok _)
theorem XA{ob:HO}(I:Inv X ZB Z H s)(mu:MP (H a))(c:Heap.SameBut a s.heap h')(d:∃q,h'.get? a=some q)(new:BZ X.prog X.w (upd H a ob) h' a ob):
  Inv X ZB Z (upd H a ob) { s with heap:=h',toks:=t' }:=
 I.write (x:=a) (e:=a) mu (.inl rfl) (λb q f z=>(c.2 b f).trans z) d new
theorem sN{P:Program}{A6:List (Key×V)}{vs:List (Key×Value)}(z:A6.length<=sizeLine)(hd:(a == sysModules)=false)(rel:KV A6 vs)(dd:h'.DictOf (G5 P w) a vs):
  BZ P w H' h' a (.dK A6):=⟨z,hd,vs,rel,dd⟩
theorem ZAP{Q:Unit->Shared->Prop}(B:A.units+1<cLine)(I:Inv X ZB Z H s)(g:PX H a y v H')(o:RelV y u)(p:RelV v r)(h:∀s',Inv X ZB Z H' s'->Q () s'):
  wpAny (model X.prog X.w) A (setItem (.ref a) u r) Q E s:=by
 rcases g with⟨A6,k,e,m,l,n⟩|⟨A6,k,b,e,m,x,l,n⟩
 .subst m n;obtain⟨z,hd,vs,rel,dd⟩:=ZAz I.AB e;have f:vs.length<=sizeLine:=by rw[<- rel.length];exact z
  have j:(putK A6 k v).length<=sizeLine:=by have:=jX A6 k v;omega
  refine wpAny_setItem_pairs (hsz:=f) (SH o) dd λh' K2 i=>h _ ?_;have C:∃q,h'.get? a=some q:=let ⟨q,_,_,d,_⟩:=K2;⟨q,d⟩;exact XA I (by rw[e];exact True.intro) i C (sN j hd (rel.put k p) K2)
 .subst m n;cases(show u=Value.ref b from o);obtain⟨z,hd,xs,rel,dd⟩:=ZBV I.AB e;have f:xs.length<=sizeLine:=by rw[<- Pr rel];exact z
  have j:(putK A6 k v).length<=sizeLine:=by have:=jX A6 k v;omega
  refine wpAny_setItem_heap (hsz:=f) (ya B) (Qa I.AB x) dd λh' K2 i=>h _ ?_;obtain⟨q,es,ep,d,h2,G,F,_,D⟩:=K2;refine XA I (by rw[e];exact True.intro) i ⟨q,d⟩ ⟨j,hd,_,(rel.put k x p).keeps λc ys t=>?_,q,es,ep,d,h2,G,F,D⟩;rw[AK (bu t e (λz=>nomatch z))];exact t
variable{A6:List (Key×V)}{k:Key}
end
def Ot(i:Expr):Prop:=∀a b,subscripted i false a b=operate [a,b] (getItem a b)
theorem j5{a:Expr}{T id:String}
  (k:typeLookup (.type T) "__getitem__"=pure (some (.builtin id))) (j:Ot a)
  (h:wpAny (model prog w) A (eval value env) (λo s₁=>wpAny (model prog w) A (eval a env) (λi b=>b.TypeIs o T/\wpAny (model prog w) A (getItem o i) Q E b) E s₁) E s) :
  wpAny (model prog w) A (eval (.Subscript value a pos) env) Q E s:=by
 refine Subscript_ (sE h (λo s₁ g=>sE g (λi b c=>?_) λ_ _ x=>x) λ_ _ x=>x);obtain⟨e,c⟩:=c;unfold subscriptTail;refine dP ?_;rw[getitemInPython_of_ne e.not_modules];refine dP (ZAa e k ?_);have fin:wpAny (model prog w) A (subscripted a false o i) (λr d=>wpAny (model prog w) A (letTemporaryGo value o r >>= λ_=>pure r) Q E d) E b:=by
  rw[j o i];exact wpAny_operating (sE c (λr d f=>dP (wpAny_letTemporaryGo (nW f))) λ_ _ x=>x)
 first
  |exact nW (dP fin)
  |exact dP (nW (dP fin))
  |exact dP fin
theorem qE(I:Inv X ZB Z H s)(g:Hk H a y o):s.TypeIs (.ref a) "dict" := by
 rcases g with⟨A6,k,e,_,_⟩|⟨A6,k,b,e,_,_,_⟩
 .obtain⟨_,_,vs,_,dd⟩:=QJ I.AB e;exact dd.typeIs
 .obtain⟨_,_,xs,_,dd⟩:=SR I.AB e;exact dd.typeIs
def VG(td ty:TE):TE:=λZ H Q=>td Z H λx H1=>ty Z H1 λy H2=>∃a v,x=.ref a/\Hk H2 a y (some v)/\Q v H2
def T7(ty td:TE):TE:=λZ H Q=>ty Z H λy H1=>td Z H1 λx H2=>∃a o,x=.ref a/\Hk H2 a y o/\Q (.bl (!o.isSome)) H2
def Sh(td ty tv:TE):TS:=λD Z H=>tv Z H λv H1=>td Z H1 λx H2=>ty Z H2 λy H3=>∃a H4,x=.ref a/\PX H3 a y v H4/\D.nx Z H4
section
variable{o i:Expr}{pos' UT:Pos}{tv:TE}
theorem oy(j:X.A.units+1<cLine)(hi:PE X i ty)(ho:PE X o td):PC X .NotIn i o (T7 ty td):=by
 intro ZB s Z H Q I h;refine hi.k I h λm s1 y H1 I1 b e=>ho.k I1 e λu s2 x H2 I2 c⟨a,f,ex,g,d⟩=>?_;subst ex;obtain rfl:u=Value.ref a:=c;exact pN j I2 g b λl I3=>⟨.bl (!f.isSome),H2,I3,rfl,d⟩
end
theorem ZCe{P:Program}(h:Heap)(a:sysModules<h.objs.size):BZ P w H (h.push { cls:=.type "dict", data:=.dict #[] }) h.objs.size (.dK []):=
 ⟨CJ _,beq_eq_false_iff_ne.mpr (Az (B7 a)),[],.nil,Heap.DictOf.new h⟩
def RT:TE:=λ_ H Q=>∀p,H p=none->Q (.ref p) (upd H p (.dK []))
theorem ZDo{β:Type}{l:List α}{f:α->β->Sem (ForInStep β)}(g:β->α->β)(h:∀x∈l,∀c,f x c=pure (.yield (g c x))):∀c,forIn l c f=pure (l.foldl g c):=by
 induction l with
 |nil=>intro c;rfl
 |cons x l a=>
  intro c;rw[mC,h x B1,pure_bind];exact a (λy b=>h y (BM _ b)) (g c x)
def Kx(cells:List (Str×Addr))(cs:List (Str×Addr))(x:Str×NameKind):List (Str×Addr):=
 if x.2=.free then(x.1,(cells.lookup x.1).getD 0)::cs else cs
noncomputable def BB(cells:List (Str×Addr))(names:List (Str×NameKind)):List (Str×Addr):=names.foldl (Kx cells) []
theorem br(h:∀x∈scope.names,x.2=.free->(env.cells.lookup x.1).isSome=true):closureFor scope env=pure (BB env.cells scope.names):=by
 simp only[closureFor];rw[ZDo (Kx env.cells) (λx hx c=>by
  obtain⟨n,k⟩:=x;unfold Kx
  by_cases hk:k=NameKind.free
  .subst hk;have q:=h _ hx rfl;obtain⟨a,e⟩:=Option.isSome_iff_exists.mp q;have b:env.cells.lookup n=some a:=e;have d:cellOf env n=pure a:=by unfold cellOf;rw[b]
   simp[d,b]
  .have:(k == NameKind.free)=false:=by simpa using hk
   simp[this,hk])]
 rfl
theorem V9{cells:List (Str×Addr)}:∀(names:List (Str×NameKind))(acc:List (Str×Addr)),(∀y∈names,y.2=.free->(cells.lookup y.1).isSome=true)->
  (∀x c,acc.lookup x=some c->cells.lookup x=some c)->∀x c,(names.foldl (Kx cells) acc).lookup x=some c->cells.lookup x=some c
 | [],acc,_,ha,x,c,e=>ha x c e
 | (n,k)::r,acc,hs,ha,x,c,e=>by
  rw[Tc]at e;refine V9 r _ (λy d=>hs y (BM _ d)) (λx c e=>?_) x c e;unfold Kx at e
  by_cases hk:k=NameKind.free
  .rw[oM hk]at e;have q:=hs _ B1 hk;obtain⟨a,q⟩:=Option.isSome_iff_exists.mp q;have b:cells.lookup n=some a:=q;rw[IP]at e
   by_cases hx:x=n
   .subst hx;simp only[yN,b,ZH1]at e;rw[b,<- e]
   .have f:(x == n)=false:=by simpa using hx
    rw[f]at e;exact ha x c e
  .rw[nr hk]at e;exact ha x c e
theorem OP{cells:List (Str×Addr)}{x:Str}:∀(names:List (Str×NameKind))(acc:List (Str×Addr)),((acc.lookup x).isSome=true∨(x,NameKind.free)∈names)->
  ((names.foldl (Kx cells) acc).lookup x).isSome=true
 | [],acc,h=>by
  rcases h with h|h
  .exact h
  .cases h
 | (n,k)::r,acc,h=>by
  rw[Tc];refine OP r _ ?_;unfold Kx;rcases h with h|h
  .refine .inl ?_;split
   .rw[IP];split
    .rfl
    .exact h
   .exact h
  .rcases List.mem_cons.mp h with e|h
   .cases e;refine .inl ?_;rw[oM rfl,IP];simp
   .exact .inr h
theorem Sw{env:Env}:∀(names:List (Str×NameKind))(x:Str),
  (names.map λ(n,k)=>if(k == NameKind.free && env.scope.kind == .function && env.kindOf n == some .cell)then(n,NameKind.cell)else(n,k)).lookup x =
   (names.lookup x).map λk=>if(k == NameKind.free && env.scope.kind == .function && env.kindOf x == some .cell)then NameKind.cell else k
 | [],x=>rfl
 | (n,k)::r,x=>by
  have c:=Sw (env:=env) r x;rw[D4]
  by_cases a:(k == NameKind.free && env.scope.kind == .function && env.kindOf n == some .cell)=true
  .show List.lookup x ((if(k == NameKind.free && env.scope.kind == .function && env.kindOf n == some .cell)=true then(n,NameKind.cell)else(n,k))::_)=_
   rw[oM a,IP,IP]
   by_cases hx:x=n
   .subst hx;simp only[yN,Ln];rw[oM a]
   .have b:(x == n)=false:=by simpa using hx
    rw[b];exact c
  .show List.lookup x ((if(k == NameKind.free && env.scope.kind == .function && env.kindOf n == some .cell)=true then(n,NameKind.cell)else(n,k))::_)=_
   rw[nr a,IP,IP]
   by_cases hx:x=n
   .subst hx;simp only[yN,Ln];rw[nr a]
   .have b:(x == n)=false:=by simpa using hx
    rw[b];exact c
noncomputable abbrev Ei(X:Cx)(N:List Str)(scope:Scope)(cl:List (Str×Addr))(C:Addr)(s:Shared)(H:Hp)(fp:List Addr):Cx:=
 { X with N:=N,s₀:=s,H₀:=H,env:=compEnvC scope cl C X.env,outer:=X.stack,ex:=fp,fn:=λ_=>false,pn:=[],xe:=λ_ _=>False }
noncomputable def As(js:List Nat)(Z:St):St:=js.map λj=>(Z[j]?).join
structure D7 (N:List Str) (outer scope:Scope) (x:Str) (AA:List Str) (js:List Nat):Prop where
 kind:scope.kind=.function
 Hd:∀y∈scope.names,y.2≠.cell
 loc:∀y∈scope.names,y.2=.local->scope.names.lookup y.1=some .local
 IG:scope.names.lookup x=some .local
 at':js.map (λj=>N[j]?)=AA.map some
 cell:∀y∈AA,outer.names.lookup y=some .cell
 free:∀y∈AA,scope.names.lookup y=some .free
 all:∀y∈scope.names,y.2=.free->outer.names.lookup y.1=some .cell
 nd:(AA++[x]).Nodup
def Hx(X:Cx)(ifs:List Expr)(t:TT):Prop:=
 ∀(ZB:ZHz)(s:Shared)(Z:St)(H:Hp)(Q:Bool->Hp->Prop),Inv X ZB Z H s->t Z H Q->
  wpAny (model X.prog X.w) X.A (forIn ifs true λc r=>if r=true then do let ok <- isTrue c X.env (eval c X.env);pure (ForInStep.yield ok)else pure (ForInStep.yield r)) (TP X ZB Z Q) X.xe s
def Ie:TT:=λ_ H Q=>Q true H
theorem dD:Hx X [] Ie:=λZB s Z H Q I h=>by
 rw[ZR];exact nW ⟨H,I,h⟩
theorem p9{t:TT}(a:PT X c t):Hx X [c] t:=λZB s Z H Q I h=>by
 rw[mC];refine dP ?_;rw[oM rfl];refine dP (Aw (a ZB s Z H Q I h) λb s1 q=>nW ?_);show wpAny _ _ (forIn [] b _) _ _ s1;rw[ZR];exact nW q
def OX(J:It)(js:List Nat)(tt:TT)(te:TE)(Z:St)(H1:Hp)(acc:Addr)(Q:VK):Prop:=
 ∃W:Nat->Nat->Hp->Prop,(∃m,W 0 m (upd H1 acc (.lst [])))/\∀i m H2,W i m H2->
  (J.stop i H2/\Q (.ref acc) H2)∨(J.go i H2/\∀x H3,J.EK i H2 x H3->tt (As js Z++[some x]) H3 λb H4=>
   if b=true then te (As js Z++[some x]) H4 λy H5=>∃ys,H5 acc=some (.lst ys)/\ys.length<sizeLine/\∃a,a < m/\W (i+1) a (upd H5 acc (.lst (ys++[y])))
   else ∃a,a < m/\W (i+1) a H4)
def Gk(wi:TI)(js:List Nat)(tt:TT)(te:TE):TE:=λZ H Q=>wi Z H λJ H1=>∀acc,H1 acc=none->OX J js tt te Z H1 acc Q
theorem pj(l:List α)(a b:α):(l++[a]).set l.length b=l++[b]:=by
 induction l with
 |nil=>rfl
 |cons x l c=>simp[c]
noncomputable def HH:Option Str->Addr->List (Str×Addr)
 |none,_=>[]
 |some x,n=>[(x,n)]
noncomputable def O2:Option Str->Heap->Heap
 |none,h=>h
 |some _,h=>h.push { cls:=.type "cell", data:=.cell none }
structure DR (N:List Str) (outer scope:Scope) (ce:Option Str) (zs AA:List Str) (js:List Nat):Prop where
 kind:scope.kind=.function
 loc:∀y∈scope.names,y.2=.local->scope.names.lookup y.1=some .local
 one:∀y∈scope.names,y.2=.cell->ce=some y.1
 sub:∀x,ce=some x->x∈zs
 cf:∀(n:Nat)(cl:List (Str×Addr)),cellsFrom n scope.names cl=HH ce n++cl
 pc:∀h:Heap,pushCells h scope.names=O2 ce h
 at':js.map (λj=>N[j]?)=AA.map some
 cell:∀y∈AA,outer.names.lookup y=some .cell∨outer.names.lookup y=some .free
 free:∀y∈AA,scope.names.lookup y=some .free
 all:∀y∈scope.names,y.2=.free->outer.names.lookup y.1=some .cell∨outer.names.lookup y.1=some .free
 nd:(AA++zs).Nodup
abbrev FF(X:Cx)(N:List Str)(scope:Scope)(ce:Option Str)(cl:List (Str×Addr))(C:Addr)(s:Shared)(H:Hp)(fp:List Addr):Cx:=
 { X with N:=N,s₀:=s,H₀:=H,env:=compEnvC scope (HH ce (C+1)++cl) C X.env,outer:=X.stack,ex:=fp,fn:=λy=>ce == some y,pn:=[],xe:=λ_ _=>False }
theorem ZFo{M:Model}{a:Addr}{b:Option Addr}{c:Value}{outer:Env}{Q:Env->Shared->Prop}
  (cf:∀(n:Nat)(cl:List (Str×Addr)),cellsFrom n scope.names cl=HH ce n++cl) (pc:∀h:Heap,pushCells h scope.names=O2 ce h)
  (d:Q (newEnv scope s.heap.objs.size a (HH ce (s.heap.objs.size+1)++closure) qual b c (some outer) builtinsNs) { s with heap:=O2 ce (s.heap.push { cls:=.type "dict", data:=.dict #[] }) }) :
  wpAny M A (newFunctionEnv scope a closure [] qual b c (some outer)) Q E s:=by
 simp only[newFunctionEnv,ZH2,ZBw];refine dP (ZBZ ?_);refine dP (wpAny_layCells _ (λname kind cells=>by cases e:kind == NameKind.cell <;> simp[e]) _ _ _ _ ?_)
 rw[cf,pc];rw[show({ s with heap:=s.heap.push { cls:=.type "dict", data:=.dict #[] } }:Shared).heap.objs.size=s.heap.objs.size+1 from Du ..]
 refine dP ?_;rw[ZR];exact nW (nW d)
theorem ax{y:Str}{c:Addr}(h:(HH ce n++cl).lookup y=some c):(ce=some y/\c=n)∨(ce≠some y/\cl.lookup y=some c):=by
 cases ce with
 |none=>exact .inr ⟨λz=>(by cases z),h⟩
 |some x=>
  have h:((x,n)::cl).lookup y=some c:=h;rw[IP]at h
  by_cases e:y=x
  .subst e;simp only[yN]at h;exact .inl ⟨rfl,(BG h).symm⟩
  .have a:(y == x)=false:=by simpa using e
   rw[a]at h;exact .inr ⟨λz=>e (BG z).symm,h⟩
theorem T1{y:Str}(h:ce≠some y):(HH ce n++cl).lookup y=cl.lookup y:=by
 cases ce with
 |none=>rfl
 |some x=>
  show((x,n)::cl).lookup y=_;have a:(y == x)=false:=beq_eq_false_iff_ne.mpr λz=>h (by rw[z]);rw[IP,a]
theorem Qq:(HH (some x) n++cl).lookup x=some n:=by
 show((x,n)::cl).lookup x=_;rw[IP,yN]
theorem ZEa{iter:Expr}{it acc:Value}(I:Nat->Shared->Prop)
  (a:∀n s,I n s->wpAny (model prog w) A (pyNext it) (λr s1=>match r with
   |none=>R (.ok .next) s1
   |some v=>wpAny (model prog w) A (letOwnedTupleGo tg it v) (λ_ s2=>wpAny (model prog w) A (assign tg env v) (λ_ g=>
     wpAny (model prog w) A (forIn ifs true λc r=>if r=true then do let ok <- isTrue c env (eval c env);pure (ForInStep.yield ok)else pure (ForInStep.yield r)) (λok s4=>if ok=true then
      wpAny (model prog w) A (eval elt env) (λx f=>wpAny (model prog w) A (call (.builtin "list.append") [acc,x]) (λ_ d=>∃m,m<n/\I m d) (notedBy (model prog w) A env λe s'=>R (.error e) s') f) (notedBy (model prog w) A env λe s'=>R (.error e) s') s4
      else ∃m,m<n/\I m s4) (notedBy (model prog w) A env λe s'=>R (.error e) s') g)
     (notedBy (model prog w) A env λe s'=>R (.error e) s') s2) (notedBy (model prog w) A env λe s'=>R (.error e) s') s1) (notedBy (model prog w) A env λe s'=>R (.error e) s') s)
  (n:Nat) (h:I n s):codeAny (model prog w) A (.compLoop (.ListComp elt [⟨tg,iter,ifs,0⟩] scope pos) 0 it acc env) R s:=by
 refine codeAny_loop rfl I (λn s p=>(show wpAny _ A ((compTurn (.ListComp elt [⟨tg,iter,ifs,0⟩] scope pos) 0 it acc env).onRaise (λx=>do noteFrame x env;theTreesLotGoes x)) _ _ s from wpAny_noted ?_)) n h
 rw[compTurn_list];refine dP (ZAU (dP (sE (a n s p) (λr s1 i=>?_) λ_ _ z=>z)));cases r with
 |none=>exact nW i
 |some v=>
  refine dP (sE i (λ_ s2 o=>dP (sE o (λ_ g l=>dP (sE l (λok s4 b=>?_) λ_ _ z=>z)) λ_ _ z=>z)) λ_ _ z=>z);cases ok with
  |false=>
   rw[nr (by decide)]at b;exact dP (nW (nW ⟨rfl,b⟩))
  |true=>
   rw[oM rfl]at b;exact dP (dP (sE b (λx f k=>dP (sE k (λ_ d j=>nW (nW ⟨rfl,j⟩)) λ_ _ z=>z)) λ_ _ z=>z))
abbrev QM(tt:TT)(te:TE)(acc:Addr)(W:Nat->Nat->Hp->Prop)(i m:Nat)(Z:St)(H:Hp):Prop:=
 tt Z H λb H4=>if b=true then te Z H4 λy H5=>∃ys,H5 acc=some (.lst ys)/\ys.length<sizeLine/\∃m',m' < m/\W (i+1) m' (upd H5 acc (.lst (ys++[y])))
  else ∃m',m' < m/\W (i+1) m' H4
def Mu(g:TG)(n:Nat)(J:It)(js:List Nat)(tt:TT)(te:TE)(Z:St)(H1:Hp)(acc:Addr)(Q:VK):Prop:=
 ∃W:Nat->Nat->Hp->Prop,(∃m,W 0 m (upd H1 acc (.lst [])))/\∀i m H2,W i m H2->
  (J.stop i H2/\Q (.ref acc) H2)∨(J.go i H2/\∀x H3,J.EK i H2 x H3->∀ws,ws.length=n->g x (As js Z++ws) H3 λσ8 H8=>∃us,us.length=n/\σ8=As js Z++us/\QM tt te acc W i m σ8 H8)
def aB(CW:It->St->Hp->Addr->VK->Prop)(wi:TI):TE:=λZ H Q=>wi Z H λJ H1=>∀acc,H1 acc=none->CW J Z H1 acc Q
section
variable{iter:Expr}{zs AA:List Str}{js:List Nat}{tt:TT}{J:It}{fp:List Addr}{g:TG}
theorem wx(h:scope.names.lookup x=some .cell):(relabel scope env).names.lookup x=some .cell:=by
 refine(Sw (env:=env) scope.names x).trans ?_;rw[h];simp
theorem zm{n:Nat}{v:V}(h:(List.replicate n (none:Option V))[i]?=some (some v)):False:=by
 rw[mD]at h
 by_cases c:i<n
 .rw[oM c]at h;cases h
 .rw[nr c]at h;cases h
theorem xn(S:DR X.N X.env.scope scope ce zs AA js)(I3:Inv X ZB Z H2 s2)(F:∀b∈fp,FA X ZB H2 b)(Qu:∀b∈fp,b<s2.heap.objs.size)
  {m:ZI0}(Er:h1.Ns s2.heap.objs.size m) (A:∀b o,s2.heap.get? b=some o->h1.get? b=some o) (E:∀x,ce=some x->h1.IsCell (s2.heap.objs.size+1) none) :
  Inv (FF X (AA++zs) scope ce (BB X.env.cells scope.names) s2.heap.objs.size s2 H2 fp) [] (As js Z++List.replicate zs.length none) H2 { s2 with heap:=h1,toks:=t' }:=by
 have V:∀y∈scope.names,y.2=.free->(X.env.cells.lookup y.1).isSome=true:=λy g hk=>by
  obtain⟨c,e⟩:=I3.ok.has y.1 (S.all y g hk);rw[e];rfl
 have M:∀y c,(BB X.env.cells scope.names).lookup y=some c->X.env.cells.lookup y=some c:=V9 scope.names [] V (λ_ _ e=>by cases e);have J:∀y k,(relabel scope X.env).names.lookup y=some k->k=.cell∨k=.free->scope.names.lookup y=some .free∨ce=some y:=λy k e hk=>by
  have t:=(Sw (env:=X.env) scope.names y).symm.trans e;cases q:scope.names.lookup y with
  |none=>rw[q]at t;cases t
  |some k0=>
   rw[q]at t;cases k0 with
   |free=>exact .inl rfl
   |cell=>exact .inr (S.one _ (IT q) rfl)
   |_=>simp at t;rcases hk with rfl|rfl <;> cases t
 have n:js.length=AA.length:=by have:=sg List.length S.at';simpa using this
 have K:∀y c,X.env.cells.lookup y=some c->c<s2.heap.objs.size:=λy c e=>by
  obtain⟨v,o,ho,_⟩:=I3.cell y c e;exact AY ho
 have f:∀c v,s2.heap.IsCell c v->h1.IsCell c v:=λc v AM=>by obtain⟨o,ho,hd⟩:=AM;exact⟨o,A c o ho,hd⟩
 have B:∀y c,(HH ce (s2.heap.objs.size+1)++BB X.env.cells scope.names).lookup y=some c->(ce=some y/\c=s2.heap.objs.size+1)∨(ce≠some y/\X.env.cells.lookup y=some c):=λy c e=>(ax e).imp id λz=>⟨z.1,M y c z.2⟩;have O:∀y∈AA,ce≠some y:=λy g z=>(List.nodup_append.mp S.nd).2.2 y g y (S.sub y z) rfl;refine⟨⟨I3.ok.mod,S.kind,I3.ok.glob,I3.ok.blt,Aa _,λy z c e1 D=>?_,λy g=>?_,λy c I e=>?_,I3.ok.hd,I3.ok.frames,.inl rfl,λb s=>⟨B7 (Qu b s),λy c e=>?_⟩,
  λb o e=>I3.bs b o e,Be I3.ok.FL I3.sz,λb o e s=>?_,λb s Q=>?_,I3.stack,I3.T5⟩,rfl,I3.bare,Un.kept A,⟨m,Er,λi y v e1 D Y=>?_⟩,λy c e=>?_,I3.AB.fresh (Aa _),λy c e=>?_,λp R=>(by cases R),I3.AB.kept A,?_⟩
 .rcases B y c e1 with⟨a1,rfl⟩|⟨_,EN⟩
  .rcases B z _ D with⟨a2,_⟩|⟨_,HU⟩
   .exact BG (a1.symm.trans a2)
   .exact absurd (K z _ HU) (Po (Dw _))
  .rcases B z c D with⟨_,rfl⟩|⟨_,HU⟩
   .exact absurd (K y _ EN) (Po (Dw _))
   .exact I3.ok.inj y z c EN HU
 .have I:scope.names.lookup y=some .free∨ce=some y:=g.elim (λg=>J y _ g (.inl rfl)) λg=>J y _ g (.inr rfl);show ∃c,List.lookup y (HH ce (s2.heap.objs.size+1)++BB X.env.cells scope.names)=some c
  by_cases ex:ce=some y
  .rw[ex];exact⟨_,Qq⟩
  .rw[T1 ex];exact Option.isSome_iff_exists.mp (OP scope.names [] (.inr (IT (I.resolve_right ex))))
 .rcases B y c e with⟨_,rfl⟩|⟨P,_⟩
  .exact Dw _
  .exact absurd (eq_of_beq I) P
 .rcases B y c e with⟨_,rfl⟩|⟨_,EN⟩
  .exact E9 (Hh (Qu b s))
  .exact(F b s).2.2.2.2.1 y c EN
 .rcases(F b s).2.2.2.1 with z|z
  .exact I3.ok.K0 b o e z
  .exact absurd (CI (CI (AY e) I3.ok.FL) z) (Lm _)
 .rcases List.mem_cons.mp (I3.Oi b Q)with z|z
  .exact(F b s).2.1 z
  .exact(F b s).2.2.1 z
 .have E:(As js Z).length=AA.length:=by unfold As;rw[AG,n]
  have hi:i<AA.length:=by
   by_cases hi:i<AA.length
   .exact hi
   .have d:(As js Z++List.replicate zs.length none)[i]?=some (some v):=D;rw[Ff (by rw[E];omega),E]at d;exact(zm d).elim
  have G:AA[i]?=some y:=by
   have G:(AA++zs)[i]?=some y:=e1
   rwa [DU hi]at G
  have d:(As js Z)[i]?=some (some v):=by
   have d:(As js Z++List.replicate zs.length none)[i]?=some (some v):=D
   rwa [DU (by rw[E];exact hi)]at d
  have C:y∈AA:=C8 G;unfold As at d;rw[Ah]at d;cases H:js[i]? with
  |none=>rw[H]at d;cases d
  |some j=>
   rw[H]at d;have U:X.N[j]?=some y:=by
    have q:=sg (λl=>l[i]?) S.at';simp only[Ah,H,G,Ln]at q;exact BG q
   have hσ:Z[j]?=some (some v):=by
    simp only[Ln,Pq]at d;cases q:Z[j]? with
    |none=>rw[q]at d;cases d
    |some w=>rw[q]at d;simp at d;rw[d]
   obtain⟨W,T,JT⟩:=I3.loc;obtain⟨u,r,l⟩:=JT j y v U hσ (.inr (S.cell y C));refine⟨u,r,?_⟩;rcases l with⟨k,_⟩|⟨_,c,e,z⟩
   .have k':X.env.scope.names.lookup y=some .local:=k;rcases S.cell y C with z|z <;> (rw[z]at k';cases k')
   .have hk:(relabel scope X.env).names.lookup y=some .cell∨(relabel scope X.env).names.lookup y=some .free:=by
     have e0:=Sw (env:=X.env) scope.names y;rw[S.free y C]at e0;rcases S.cell y C with Kn|Kn
     .exact .inl (e0.trans (by simp[I3.ok.kind,show X.env.kindOf y=some .cell from Kn]))
     .exact .inr (e0.trans (by simp[show X.env.kindOf y=some .free from Kn]))
    obtain⟨c',t⟩:=Option.isSome_iff_exists.mp (OP (cells:=X.env.cells) scope.names [] (.inr (IT (S.free y C))));have L:=M y c' t;rw[e]at L;cases L;exact .inr ⟨hk,c,(T1 (O y C)).trans t,f c _ z⟩
 .rcases B y c e with⟨a,rfl⟩|⟨_,EN⟩
  .exact⟨none,E _ a⟩
  .obtain⟨v,z⟩:=I3.cell y c EN;exact⟨v,f c v z⟩
 .rcases B y c e with⟨_,rfl⟩|⟨_,EN⟩
  .exact I3.AB.fresh (Dw _)
  .exact I3.DJ y c EN
 .show(As js Z++List.replicate zs.length none).length=(AA++zs).length;unfold As;simp[n]
theorem rZ(j:Y.prog=X.prog)(hw:Y.w=X.w)(O:Y.K=X.K)(hA:Y.A=X.A)(tF:Y.xe=λ_ _=>False)(N:Y.calm=true)
  (hg:PG Y tg g) (DI:Hx Y ifs tt) (Cg:PE Y elt te)
  (T:Turn X.prog X.w X.K tg J fp it tn) (u5:∀b∈fp,Y.Ok->FA Y [] (λ_=>none) b)
  (W:Nat->Nat->Hp->Prop) (Q:VK)
  (h:∀i m H2,W i m H2->(J.stop i H2/\Q (.ref acc) H2)∨(J.go i H2/\∀x H3,J.EK i H2 x H3->∀ws,ws.length=n0->g x (As js Z++ws) H3 λσ8 H8=>∃us,us.length=n0/\σ8=As js Z++us/\QM tt te acc W i m σ8 H8))
  (I4:Inv Y [] (As js Z++ws) H4 s4) (SO:tn 0 s4.heap) (V:∀b∈fp,H4 b=none) (L:Nat) (w4:W 0 L H4)
  (B:ws.length=n0) (hR:∀H' s' ws,Inv Y [] (As js Z++ws) H' s'->Q (.ref acc) H'->R (.ok .next) s') :
  codeAny (model X.prog X.w) X.A (.compLoop (.ListComp elt [⟨tg,iter,ifs,0⟩] scope pos) 0 (.ref it) (.ref acc) Y.env) R s4:=by
 have AB:=I4.ok;have F:∀{H':Hp},(∀b∈fp,H' b=none)->∀b∈fp,FA Y [] H' b:=λhn b c=>⟨hn b c,(u5 b c AB).2⟩;rw[<- j,<- hw,<- hA];have no:∀{σ:Value->Shared->Prop}v s,Y.xe v s->σ v s:=λv s z=>by rw[tF]at z;exact z.elim
 refine ZEa (λn s'=>∃i ws H',ws.length=n0/\Inv Y [] (As js Z++ws) H' s'/\tn i s'.heap/\(∀b∈fp,H' b=none)/\W i n H') ?_ L ⟨0,ws,H4,B,I4,SO,V,w4⟩;rintro n I⟨i,U,H5,tj,I5,M5,SY,w5⟩;rcases h i n H5 w5 with⟨stop,q⟩|⟨go,step⟩
 .have d:=T.done Y j hw O N i [] I _ H5 (λ_ _=>False) I5 (F SY) M5 stop;rw[<- j,<- hw]at d;refine sE d (λr H⟨C,I6⟩=>?_) λ_ _ z=>z.elim;subst C;exact hR H5 H U I6 q
 .have d:=T.item Y j hw O N i [] I _ H5 (λ_ _=>False) I5 (F SY) M5 go;rw[<- j,<- hw]at d;refine sE d (λr H⟨u,C,h6⟩=>?_) λ_ _ z=>z.elim;subst C;refine sE h6 (λ_ G⟨v,H7,I7,r7,y7,Um,vA⟩=>?_) λ_ _ z=>z.elim;have oN:=I7.pinned (F vA) (T.obj _ _ Um);refine sE (hg _ G _ H7 v u _ oN r7 (step v H7 y7 U tj)) (λ_ s8⟨σ8,H8,I8,us,M,e8,rl⟩=>?_) no;subst e8;have a:∀{σa:St}{Ha:Hp}{sa:Shared},Inv Y ([]++NX fp G.heap) σa Ha sa->tn (i+1) sa.heap/\(∀b∈fp,Ha b=none):=λ{σa Ha sa}Ia=>by
   refine⟨T.keep _ _ _ Um λb c o e=>(Ia.pin (b,o) (C1 _ (C1 _ (Si c e)))).1,λb c=>?_⟩;obtain⟨o,e,d⟩:=T.obj _ _ Um b c;exact(Ia.pin (b,o) (C1 _ (C1 _ (Si c e)))).2.1
  refine sE (DI _ s8 _ H8 _ I8 rl) (λb s9⟨H9,I9,t⟩=>?_) no;cases b with
  |false=>
   have p:∃f,f < n/\W (i+1) f H9:=t;obtain⟨f,D,w9⟩:=p;rw[nr (by decide)];exact⟨f,D,i+1,_,H9,M,I9.Oo,(a I9).1,(a I9).2,w9⟩
  |true=>
   rw[oM rfl];rw[oM rfl]at t;refine sE (Cg _ s9 _ H9 _ I9 t) (λyv GB⟨y,S,yi,l,ys,Ea,hz,f,D,k⟩=>?_) no;refine sE (jj (X:=Y) _ GB _ S (.ref acc) [y] (.ref acc) [yv] (λ_ P=>P=upd S acc (.lst (ys++[y]))) yi rfl (.cons l .nil) ⟨acc,ys,y,rfl,rfl,Ea,hz,rfl⟩)
    (λ_ EC⟨_,P,XZ,_,E⟩=>?_) no
   subst E;exact⟨f,D,i+1,_,_,M,XZ.Oo,(a XZ).1,(a XZ).2,k⟩
theorem dH{RR:Value->Addr->Result->Shared->Prop}(O:X.calm=true)(S:DR X.N X.env.scope scope ce zs AA js)
  (M:∀C s H,PG (FF X (AA++zs) scope ce (BB X.env.cells scope.names) C s H fp) tg g)
  (DI:∀C s H,Hx (FF X (AA++zs) scope ce (BB X.env.cells scope.names) C s H fp) ifs tt) (Cg:∀C s H,PE (FF X (AA++zs) scope ce (BB X.env.cells scope.names) C s H fp) elt te)
  (T:Turn X.prog X.w X.K tg J fp it tn) (I2:Inv X ZB Z H2 s2) (JI:tn 0 s2.heap) (u:∀b∈fp,FA X ZB H2 b) (Q:VK) (P:∀acc,H2 acc=none->Mu g zs.length J js tt te Z H2 acc Q)
  (F:∀acc C H' s' m,Inv X ZB Z H' s'->FA X ZB H' C->s'.heap.Ns C m->Q (.ref acc) H'->RR (.ref acc) C (.ok .next) s') :
  wpAny (model X.prog X.w) X.A (newList []) (λacc a=>wpAny (model X.prog X.w) X.A (newFunctionEnv scope X.env.globals (BB X.env.cells scope.names) [] X.env.qual none .none (some X.env)) (λt s4=>
   codeAny (model X.prog X.w) X.A (.compStart (.ListComp elt [⟨tg,iter,ifs,0⟩] scope pos) 0 (.ref it) acc { t with scope:=relabel scope X.env }) (RR acc t.locals) s4) E a) E s2:=by
 refine t8 (ZFo S.cf S.pc ?_);have j:Inv X ZB Z (upd H2 s2.heap.objs.size (.lst [])) { s2 with heap:=s2.heap.push { cls:=.type "list", data:=.seq ([]:List Value).toArray } }:=I2.jl (t':=s2.toks) .nil (CJ _)
 have z:∀b∈fp,b<s2.heap.objs.size:=λb c=>by
  obtain⟨o,e,_⟩:=T.obj _ _ JI b c;exact AY e
 have hsz:(s2.heap.push { cls:=.type "list", data:=.seq ([]:List Value).toArray }).objs.size=s2.heap.objs.size+1:=Du ..;have f:∀b∈fp,FA X ZB (upd H2 s2.heap.objs.size (.lst [])) b:=λb c=>⟨by rw[AK (B7 (z b c))];exact(u b c).1,(u b c).2⟩;generalize k:({ s2 with heap:=s2.heap.push { cls:=.type "list", data:=.seq ([]:List Value).toArray } }:Shared)=a at j ⊢
 have n:a.heap=s2.heap.push { cls:=.type "list", data:=.seq ([]:List Value).toArray }:=by rw[<- k]
 have D:∀b∈fp,b<a.heap.objs.size:=λb c=>by rw[n,hsz];exact Hh (z b c)
 generalize r:O2 ce (a.heap.push { cls:=.type "dict", data:=.dict #[] })=h1;have v:∀b o,(a.heap.push { cls:=.type "dict", data:=.dict #[] }).get? b=some o->h1.get? b=some o:=λb o e=>by
  rw[<- r];cases ce with
  |none=>exact e
  |some _=>exact Ao _ e
 have i:∀b o,a.heap.get? b=some o->h1.get? b=some o:=λb o e=>v b o (Ao _ e);have l:∀b o,s2.heap.get? b=some o->h1.get? b=some o:=λb o e=>i b o (by rw[n];exact Ao _ e);have U:h1.Ns a.heap.objs.size (λ_=>none):=(Heap.Ns.new a.heap (.type "dict")).keeps v;have V:∀x,ce=some x->h1.IsCell (a.heap.objs.size+1) none:=λx hx=>by
  subst hx;rw[<- r];have e:(a.heap.push { cls:=.type "dict", data:=.dict #[] }).objs.size=a.heap.objs.size+1:=Du ..;exact⟨_,by rw[<- e];exact BQ _ rfl,rfl⟩
 have R:=xn S j f D U i V (t':=a.toks);have y:tn 0 h1:=T.keep _ _ _ JI λb _ o e=>l b o e;obtain⟨W,⟨G,B⟩,h⟩:=P s2.heap.objs.size (I2.AB.fresh (Aa _));have d:codeAny (model X.prog X.w) X.A (.compLoop (.ListComp elt [⟨tg,iter,ifs,0⟩] scope pos) 0 (.ref it) (.ref s2.heap.objs.size) (compEnvC scope (HH ce (a.heap.objs.size+1)++BB X.env.cells scope.names) a.heap.objs.size X.env))
   (RR (.ref s2.heap.objs.size) a.heap.objs.size) { a with heap:=h1 }:=by
  refine rZ (X:=X) (Y:=FF X (AA++zs) scope ce (BB X.env.cells scope.names) a.heap.objs.size a (upd H2 s2.heap.objs.size (.lst [])) fp) (acc:=s2.heap.objs.size) (Q:=Q) rfl rfl rfl rfl rfl O (M _ _ _) (DI _ _ _) (Cg _ _ _) T (λb c ok=>⟨rfl,(ok.L4 b c).1,ok.Jz b c,.inl c,(ok.L4 b c).2,λp I=>by cases I⟩) W h R y (λb c=>(f b c).1) G B (mE ..) λH' s' w I' q=>?_;obtain⟨m,L,_⟩:=I'.loc;exact F _ _ H' s' m (j.ZDO (ch:=fp) I'.os I'.base I'.AB I'.bare λb c=>⟨(f b c).2.2.2.1,(f b c).2.1,(f b c).2.2.2.2.1,(f b c).2.2.2.2.2⟩) (j.O4 (Aa _) I'.free) L q
 exact codeAny_compStart_list d (T.self X.A 0 _ _ _ y d)
theorem jE(S:DR X.N X.env.scope scope ce zs AA js)(I:Inv X ZB Z H s):closureFor scope X.env=pure (BB X.env.cells scope.names):=br λy a hk=>by
 obtain⟨c,e⟩:=I.ok.has y.1 (S.all y a hk);rw[e];rfl
theorem Wj(l:∀J Z H1 acc Q,CW J Z H1 acc Q->Mu g zs.length J js tt te Z H1 acc Q)(i:X.calm=true)(S:DR X.N X.env.scope scope ce zs AA js)(hi:PI X tg iter wi)
  (f:∀fp C s H,PG (FF X (AA++zs) scope ce (BB X.env.cells scope.names) C s H fp) tg g)
  (DI:∀fp C s H,Hx (FF X (AA++zs) scope ce (BB X.env.cells scope.names) C s H fp) ifs tt) (Cg:∀fp C s H,PE (FF X (AA++zs) scope ce (BB X.env.cells scope.names) C s H fp) elt te)
  (c:∀v,foldedSetIterable iter X.env v=pure v):PE X (.ListComp elt [⟨tg,iter,ifs,0⟩] scope pos) (aB CW wi):=by
 intro ZB s Z H Q I h;rw[eval_ListComp];refine wpAny_comprehension_free (use:=none) rfl c (jE S I) S.kind S.loc (Aw (hi ZB s Z H _ I h) λv s1 h1=>Aw h1 λQ5 s2 h2=>?_);obtain⟨it,fp,tn,J,H2,e,I2,T,JI,n,hw⟩:=h2;subst e;refine dH (RR:=λacc C=>compPost (model X.prog X.w) X.A X.xe none (EP X ZB Z Q) acc C) i S (f fp) (DI fp) (Cg fp) T I2 JI n Q (λacc k=>l _ _ _ _ _ (hw acc k)) λacc C H' s' m I' a d q=>⟨m,d,λh' Jh=>?_⟩;exact⟨.ref acc,H',I'.turned (t':=s'.toks) (λb o j e=>(Jh.2 b j).trans e) a.1 a.2.1 a.2.2.2.1 a.2.2.2.2.1 a.2.2.2.2.2,rfl,q⟩
theorem sR(B:∀J Z H1 acc Q,CW J Z H1 acc Q->Mu g zs.length J js tt te Z H1 acc Q){y:Str}(E:X.N.Nodup)(C2:X.N[i]?=some y)(k:Loc X.env.scope y)(u:X.calm=true)(S:DR X.N X.env.scope scope ce zs AA js)(hi:PI X tg iter wi)
  (r:∀fp C s H,PG (FF X (AA++zs) scope ce (BB X.env.cells scope.names) C s H fp) tg g)
  (DI:∀fp C s H,Hx (FF X (AA++zs) scope ce (BB X.env.cells scope.names) C s H fp) ifs tt) (Cg:∀fp C s H,PE (FF X (AA++zs) scope ce (BB X.env.cells scope.names) C s H fp) elt te)
  (Nt:swapsWith (.ListComp elt [⟨tg,iter,ifs,0⟩] scope pos) (some (.Name y py)) K7.line X.env=pure true)
  (t:X.fn y=true∨X.env.scope.names.lookup y=some .local)
  (l:∀v,foldedSetIterable iter X.env v=pure v):PS X (.Assign [.Name y py] (.ListComp elt [⟨tg,iter,ifs,0⟩] scope pos) K7) (Df (aB CW wi) (CZ i)):=by
 intro ZB s Z H D I h;rw[exec_Assign_Name_used _ _ _ _ Nt];refine dP (ZAU (dP ?_));show wpAny _ X.A (do let _ <- comprehension (.ListComp elt [⟨tg,iter,ifs,0⟩] scope pos) scope X.env _ (newList []) false (eval iter X.env) (some (assign (.Name y py) X.env))) _ _ s
 refine dP (sE (wpAny_comprehension_free (use:=some (assign (.Name y py) X.env)) (Q:=λ_ s'=>SP X ZB D .next s') rfl l (jE S I) S.kind S.loc
  (Aw (hi ZB s Z H _ I h) λv s1 h1=>Aw h1 λQ5 s2 h2=>?_)) (λ_ s' n=>nW (nW n)) λ_ _ e=>e)
 obtain⟨it,fp,tn,J,H2,e,I2,T,JI,F,hw⟩:=h2;subst e;refine dH (RR:=λacc C=>compPost (model X.prog X.w) X.A X.xe (some (assign (.Name y py) X.env)) (λ_ s'=>SP X ZB D .next s') acc C) u S (r fp) (DI fp) (Cg fp) T I2 JI F _ (λacc d=>B _ _ _ _ _ (hw acc d)) λacc C H' s' m I' c p q=>?_;show wpAny _ X.A (assign (.Name y py) X.env (.ref acc)) _ _ s';refine wpAny_assign_Name (X8 (v:=.ref acc) I' E C2 k rfl (λLD j⟨a,f,d⟩=>?_) t);have G:C≠a:=by
  rcases d with z|z
  .rw[z];exact c.2.1
  .exact(c.2.2.2.2.1 y a z).symm
 refine⟨m,p.sameBut f G,λh' Jh=>?_⟩;exact⟨_,H',j.turned (t':=LD.toks) (λb o x e=>(Jh.2 b x).trans e) c.1 c.2.1 c.2.2.2.1 c.2.2.2.2.1 c.2.2.2.2.2,q⟩
theorem Uv{n:Nat}{cl:List (Str×Addr)}:∀{names:List (Str×NameKind)},(∀y∈names,y.2≠.cell)->cellsFrom n names cl=cl
 | [],_=>rfl
 | (x,k)::r,h=>by
  have hk:(k == NameKind.cell)=false:=beq_eq_false_iff_ne.mpr (h _ B1);rw[cellsFrom,hk];exact Uv λy a=>h y (BM _ a)
theorem Yl{a:Heap}:∀{names:List (Str×NameKind)},(∀y∈names,y.2≠.cell)->pushCells a names=a
 | [],_=>rfl
 | (x,k)::r,h=>by
  have hk:(k == NameKind.cell)=false:=beq_eq_false_iff_ne.mpr (h _ B1);rw[pushCells,hk];exact Yl λy b=>h y (BM _ b)
theorem DR.i3(kind:scope.kind=.function)(Hd:∀y∈scope.names,y.2≠.cell)(loc:∀y∈scope.names,y.2=.local->scope.names.lookup y.1=some .local)
  (at':js.map (λj=>N[j]?)=AA.map some) (cell:∀y∈AA,outer.names.lookup y=some .cell) (free:∀y∈AA,scope.names.lookup y=some .free)
  (all:∀y∈scope.names,y.2=.free->outer.names.lookup y.1=some .cell) (nd:(AA++zs).Nodup):DR N outer scope none zs AA js:=
 ⟨kind,loc,λy a e=>absurd e (Hd y a),λx e=>(by cases e),λn cl=>Uv Hd,λh=>Yl Hd,at',λy a=>.inl (cell y a),free,λy a e=>.inl (all y a e),nd⟩
theorem DR.len(S:DR N outer scope ce zs AA js)(Z:St):(As js Z).length=AA.length:=by
 unfold As;rw[AG];have:=sg List.length S.at';simpa using this
theorem Yu(S:DR N outer scope ce [x] AA js)(J:It)(Z:St)(H1:Hp)(acc:Addr)(Q:VK)(h:OX J js tt te Z H1 acc Q):Mu (CZ AA.length) 1 J js tt te Z H1 acc Q:=by
 obtain⟨W,a,h⟩:=h;refine⟨W,a,λi m H2 w=>(h i m H2 w).imp id λz=>⟨z.1,λx H3 y ws hw=>?_⟩⟩
 match ws,hw with
 | [w],_=>
  have e:(As js Z++[w]).set AA.length (some x)=As js Z++[some x]:=by rw[<- S.len Z];exact pj _ _ _
  exact⟨[some x],rfl,e,by rw[e];exact z.2 x H3 y⟩
theorem WC(S:DR X.N X.env.scope scope ce [x] AA js)(hx:scope.names.lookup x=some .local∨(ce=some x/\scope.names.lookup x=some .cell)):
  PG (FF X (AA++[x]) scope ce cl C s H fp) (.Name x px) (CZ AA.length):=
 Yz S.nd (by simp) (hx.imp (λh=>ZAR h) λh=>wx h.2) (hx.symm.imp (λh=>by show(ce == some x)=true;rw[h.1];exact yN _) λh=>ZAR h)
inductive P0:List Str->List Expr->Prop
 |nil:P0 [] []
 |cons {x:Str}{zs:List Str}{p:Pos}{es:List Expr}:P0 zs es->P0 (x::zs) (.Name x p::es)
def JW(i:Nat):Nat->HM
 | 0=>Oy
 |n+1=>JS (CZ i) (JW (i+1) n)
theorem c9{Q:St->Hp->Prop}{H:Hp}:∀{us:List V}{l ws:St},ws.length=us.length->Q (l++us.map some) H->JW l.length us.length us (l++ws) H Q
 | [],l,ws,h,q=>by
  rw[List.length_eq_zero_iff.mp h];exact⟨rfl,q⟩
 |u::us,l,w::ws,h,q=>by
  refine⟨u,us,rfl,?_⟩;show JW (l.length+1) us.length us ((l++w::ws).set l.length (some u)) H Q;have e:(l++w::ws).set l.length (some u)=(l++[some u])++ws:=by
   rw[ZGs _ _ (Aa _),Zf];simp
  have el:l.length+1=(l++[some u]).length:=by simp
  rw[e,el];refine c9 (l:=l++[some u]) (by simpa using h) ?_
  rw[Bm];exact q
theorem Zu{X:Cx}(a:X.N.Nodup):∀{zs:List Str}{es:List Expr}{i:Nat},P0 zs es->(∀(j:Nat)x,zs[j]?=some x->X.N[i+j]?=some x/\Loc X.env.scope x/\X.env.scope.names.lookup x=some .local)->M4 X es (JW i zs.length)
 |_,_,_,.nil,_=>l5
 |_,_,i,.cons (x:=x) (zs:=zs) r,h=>by
  obtain⟨h1,h2,c⟩:=h 0 _ rfl;refine fE (Yz a h1 h2 (.inr c)) (Zu a r λj y b=>?_);have:=h (j+1) y b
  rwa [show i+(j+1)=i+1+j by omega]at this
def qm(K:ZHy)(n:Nat)(J:It)(js:List Nat)(tt:TT)(te:TE)(Z:St)(H1:Hp)(acc:Addr)(Q:VK):Prop:=
 ∃W:Nat->Nat->Hp->Prop,(∃m,W 0 m (upd H1 acc (.lst [])))/\∀i m H2,W i m H2->
  (J.stop i H2/\Q (.ref acc) H2)∨(J.go i H2/\∀x H3,J.EK i H2 x H3->∃a us,x=.ref a/\Ax K H3 a us/\us.length=n/\QM tt te acc W i m (As js Z++us.map some) H3)
theorem qT{K:ZHy}(S:DR N outer scope ce zs AA js)(J:It)(Z:St)(H1:Hp)(acc:Addr)(Q:VK)(h:qm K zs.length J js tt te Z H1 acc Q):Mu (JY K zs.length (JW AA.length zs.length)) zs.length J js tt te Z H1 acc Q:=by
 obtain⟨W,d,h⟩:=h;refine⟨W,d,λi m H2 w=>(h i m H2 w).imp id λz=>⟨z.1,λx H3 y ws hw=>?_⟩⟩;obtain⟨a,us,e,c,b,q⟩:=z.2 x H3 y;refine⟨a,us,e,c,b,?_⟩;rw[<- b,<- S.len Z];exact c9 (by rw[hw,b]) ⟨us.map some,AG ..,rfl,q⟩
theorem yk{tp:Pos}(d:X.calm=true)(S:DR X.N X.env.scope scope ce zs AA js)(IG:∀x∈zs,scope.names.lookup x=some .local)(a:P0 zs es)(Pw:∀e,(assignEach es e).length=zs.length)(Iu:∀e,(assignEach es e).findIdx? (·.1)=none):
  PG (FF X (AA++zs) scope ce cl C s H fp) (.Tuple es tk tp) (JY X.K zs.length (JW AA.length zs.length)):=
 dq (X:=FF X (AA++zs) scope ce cl C s H fp) d (Zu S.nd (i:=AA.length) a λj y c=>by
  have b:=C8 c;exact⟨by show(AA++zs)[AA.length+j]?=_;rw[Ff (by omega),Nat.add_sub_cancel_left];exact c,.inl (ZAR (IG y b)),ZAR (IG y b)⟩) (Pw _) (Iu _)
theorem D7.G(S:D7 N outer scope x AA js):DR N outer scope none [x] AA js:=.i3 S.kind S.Hd S.loc S.at' S.cell S.free S.all S.nd
theorem ZBQ(b:X.calm=true)(S:D7 X.N X.env.scope scope x AA js)(hi:PI X (.Name x px) iter wi)
  (DI:∀fp C s H,Hx (Ei X (AA++[x]) scope (BB X.env.cells scope.names) C s H fp) ifs tt) (Cg:∀fp C s H,PE (Ei X (AA++[x]) scope (BB X.env.cells scope.names) C s H fp) elt te)
  (a:∀v,foldedSetIterable iter X.env v=pure v:=by intro _;rfl):PE X (.ListComp elt [⟨.Name x px,iter,ifs,0⟩] scope pos) (Gk wi js tt te):=
 Wj (CW:=λJ Z H1 acc Q=>OX J js tt te Z H1 acc Q) (Yu S.G) b S.G hi (λ_ _ _ _=>WC S.G (.inl S.IG)) DI Cg a
theorem yU{y:Str}(c:X.N.Nodup)(C2:X.N[i]?=some y)(a:Loc X.env.scope y)(b:X.calm=true)(S:D7 X.N X.env.scope scope x AA js)(hi:PI X (.Name x px) iter wi)
  (DI:∀fp C s H,Hx (Ei X (AA++[x]) scope (BB X.env.cells scope.names) C s H fp) ifs tt) (Cg:∀fp C s H,PE (Ei X (AA++[x]) scope (BB X.env.cells scope.names) C s H fp) elt te)
  (Nt:swapsWith (.ListComp elt [⟨.Name x px,iter,ifs,0⟩] scope pos) (some (.Name y py)) K7.line X.env=pure true:=by rfl)
  (hf:X.fn y=true∨X.env.scope.names.lookup y=some .local:=by first|exact .inl rfl|exact .inr rfl|assumption)
  (hs:∀v,foldedSetIterable iter X.env v=pure v:=by intro _;rfl):PS X (.Assign [.Name y py] (.ListComp elt [⟨.Name x px,iter,ifs,0⟩] scope pos) K7) (Df (Gk wi js tt te) (CZ i)):=
 sR (CW:=λJ Z H1 acc Q=>OX J js tt te Z H1 acc Q) (Yu S.G) c C2 a b S.G hi (λ_ _ _ _=>WC S.G (.inl S.IG)) DI Cg Nt hf hs
end
def Iq(K:ZHy)(tp:Bool)(H:Hp)(a:Addr)(xs:List V):Prop:=match tp with
 |false=>AL K H a xs
 |true=>Ax K H a xs
theorem Iq.or{K:ZHy}{tp:Bool}{xs:List V}(h:Iq K tp H a xs):AL K H a xs∨Ax K H a xs:=by
 cases tp
 .exact .inl h
 .exact .inr h
noncomputable def KZ(K:ZHy)(tp:Bool)(a:Addr)(xs:List V):It:=
 ⟨λi H=>Iq K tp H a xs/\i<xs.length,λi H x H'=>H'=H/\xs[i]?=some x,λi H=>Iq K tp H a xs/\xs.length<=i⟩
theorem ZA3{P:Program}{K:ZHy}(a it:Addr)(xs:List V):Turn P w K tg (KZ K false a xs) [it] it (λi h=>h.IsListIter it a i) where
 mem:=by simp
 obj:=(PZ (P:=P) (w:=w) (K:=K) (tg:=tg) a it).obj
 keep:=(PZ (P:=P) (w:=w) (K:=K) (tg:=tg) a it).keep
 item:=by
  intro X f hw g d i ZB s Z H E I c st b;obtain⟨j,hi⟩:=b;refine Aw ((PZ (P:=P) (w:=w) (K:=K) (tg:=tg) a it).item X f hw g d i ZB s Z H E I c st ⟨xs,xs[i],j,by simp[hi]⟩) λr s1 AM=>by obtain⟨u,e,h⟩:=AM;exact⟨u,e,Aw h λ_ s2 IY=>by obtain⟨x,H',I',k,y,Fm,l⟩:=IY;exact⟨x,H',I',k,⟨y.1,y.2 xs j⟩,Fm,l⟩⟩
 done:=by
  intro X f hw g d i ZB s Z H E I c st b;exact(PZ (P:=P) (w:=w) (K:=K) (tg:=tg) a it).done X f hw g d i ZB s Z H E I c st ⟨xs,b.1,b.2⟩
 self:=(PZ (P:=P) (w:=w) (K:=K) (tg:=tg) a it).self
theorem qk{P:Program}{K:ZHy}(a it:Addr)(xs:List V):Turn P w K tg (KZ K true a xs) [it] it (λi h=>h.IsTupleIter it a i) where
 mem:=by simp
 obj:=(Oq (P:=P) (w:=w) (K:=K) (tg:=tg) a it).obj
 keep:=(Oq (P:=P) (w:=w) (K:=K) (tg:=tg) a it).keep
 item:=by
  intro X f hw g d i ZB s Z H E I c st b;obtain⟨j,hi⟩:=b;refine Aw ((Oq (P:=P) (w:=w) (K:=K) (tg:=tg) a it).item X f hw g d i ZB s Z H E I c st ⟨xs,xs[i],j,by simp[hi]⟩) λr s1 AM=>by obtain⟨u,e,h⟩:=AM;exact⟨u,e,Aw h λ_ s2 IY=>by obtain⟨x,H',I',k,y,Fm,l⟩:=IY;exact⟨x,H',I',k,⟨y.1,y.2 xs j⟩,Fm,l⟩⟩
 done:=by
  intro X f hw g d i ZB s Z H E I c st b;exact(Oq (P:=P) (w:=w) (K:=K) (tg:=tg) a it).done X f hw g d i ZB s Z H E I c st ⟨xs,b.1,b.2⟩
 self:=(Oq (P:=P) (w:=w) (K:=K) (tg:=tg) a it).self
def QV(K:ZHy)(tl:TE):TI:=λZ H R=>tl Z H λx H1=>∃tp a xs,x=.ref a/\Iq K tp H1 a xs/\R (KZ K tp a xs) H1
theorem Cb{p:Addr}(h:H p=none)(o:HO):AQ H (upd H p o):=λb u q=>by rw[AK (DS q h)];exact q
def GU(xs ys:List V):Bool:=xs.length == ys.length && (List.range xs.length).all λj=>E5 (xs.getD j .A8) (ys.getD j .A8)
theorem K6{xs:List V}{x:V}(h:xs[j]?=some x):xs.getD j .A8=x:=by rw[NL,h];rfl
theorem fw{xs:List V}{x:V}(h:xs.all Cr=true)(e:xs[j]?=some x):Cr x=true:=List.all_eq_true.mp h x (C8 e)
theorem RD{xs:List V}{D5:List Value}(c:Vals xs A3)(b:Vals ys D5)(k:xs.all Cr=true)(i:ys.all Cr=true):
  ∀j(h1:j<A3.toArray.size)(h2:j<D5.toArray.size),SeqAt.EqAt A s A3.toArray[j] D5.toArray[j] (E5 (xs.getD j .A8) (ys.getD j .A8)):=λj h1 h2=>by
 have l1:=c.length;have l2:=b.length;have n:j<A3.length:=by simpa using h1
 have m:j<D5.length:=by simpa using h2
 have e1:xs[j]?=some (xs[j]'(by omega)):=Au _;have a:ys[j]?=some (ys[j]'(by omega)):=Au _;obtain⟨u,e,h⟩:=c.get e1;obtain⟨v,d,g⟩:=b.get a;rw[Au n]at e;rw[Au m]at d;have l:A3[j]=u:=BG e;have f:D5[j]=v:=BG d;rw[K6 e1,K6 a];have q:=di (A:=A) (s:=s) h g (fw k e1) (fw i a);rw[<- l,<- f]at q
 simpa using q
def Jo(K:ZHy)(neg:Bool):R2:=λx y H Q=>∃p q xs ys,x=.ref p/\y=.ref q/\((AL K H p xs/\AL K H q ys)∨(Ax K H p xs/\Ax K H q ys))/\xs.all Cr=true/\ys.all Cr=true/\
 Q (.bl (if neg then !GU xs ys else GU xs ys)) H
theorem LM{xs:List V}(h:xs.length≠ys.length):GU xs ys=false:=by
 unfold GU;have:(xs.length == ys.length)=false:=by simpa using h
 rw[this,TV]
theorem La{xs:List V}(h:xs.length=ys.length):GU xs ys=(List.range xs.length).all λj=>E5 (xs.getD j .A8) (ys.getD j .A8):=by
 unfold GU;have:(xs.length == ys.length)=true:=by simpa using h
 rw[this,lq]
theorem YD(f:X.A.units<cLine):BD X (compareOp .Eq) (Jo X.K false):=by
 intro ZB s Z H x y v u Q I r o h;obtain⟨p,q,xs,ys,rfl,rfl,t,l,k,w⟩:=h;cases r;cases o;have b:Q (.bl (GU xs ys)) H:=w;rcases t with⟨i,g⟩|⟨i,g⟩
 .obtain⟨A3,d,p1,n⟩:=I.list i;obtain⟨D5,c,p2,m⟩:=I.list g;have l1:=d.length;have l2:=c.length
  by_cases a:xs.length=ys.length
  .refine SeqAt.eq_listAt (e:=λj=>E5 (xs.getD j .A8) (ys.getD j .A8)) p1.isList p2.isList (by simp;omega) f (RD d c l k) ⟨.bl _,H,I,rfl,?_⟩;rw[La a]at b;simp only[Bn,<- l1];exact b
  .rw[LM a]at b;exact SeqAt.eq_list_lengthsAt p1.isList p2.isList (by simp;omega) f ⟨.bl false,H,I,rfl,b⟩
 .obtain⟨A3,d,p1,n⟩:=I.tuple i;obtain⟨D5,c,p2,m⟩:=I.tuple g;have l1:=d.length;have l2:=c.length;refine SeqAt.eq_tupleAt (e:=λj=>E5 (xs.getD j .A8) (ys.getD j .A8)) p1 p2 f (RD d c l k) ⟨.bl _,H,I,rfl,?_⟩;simp only[Bn,<- l1,<- l2]
  by_cases a:xs.length=ys.length
  .rw[La a]at b;have:(xs.length == ys.length)=true:=by simpa using a
   rw[this,lg,<- a,Nat.min_self];exact b
  .rw[LM a]at b;have:(xs.length == ys.length)=false:=by simpa using a
   rw[this,Lj];exact b
theorem Pb(f:X.A.units<cLine):BD X (compareOp .NotEq) (Jo X.K true):=by
 intro ZB s Z H x y v u Q I r o h;obtain⟨p,q,xs,ys,rfl,rfl,t,l,k,w⟩:=h;cases r;cases o;have b:Q (.bl (!GU xs ys)) H:=w;rcases t with⟨i,g⟩|⟨i,g⟩
 .obtain⟨A3,d,p1,n⟩:=I.list i;obtain⟨D5,c,p2,m⟩:=I.list g;have l1:=d.length;have l2:=c.length
  by_cases a:xs.length=ys.length
  .refine SeqAt.RcNeAt.lists (e:=λj=>E5 (xs.getD j .A8) (ys.getD j .A8)) p1.isList p2.isList (by simp;omega) f (RD d c l k) _ _ _ _ ⟨.bl _,H,I,rfl,?_⟩;rw[La a]at b;simp only[Bn,<- l1];exact b
  .rw[LM a]at b;exact ZHF p1.isList p2.isList (by simp;omega) f _ _ _ _ ⟨.bl true,H,I,rfl,b⟩
 .obtain⟨A3,d,p1,n⟩:=I.tuple i;obtain⟨D5,c,p2,m⟩:=I.tuple g;have l1:=d.length;have l2:=c.length;refine SeqAt.RcNeAt.tuples (e:=λj=>E5 (xs.getD j .A8) (ys.getD j .A8)) p1 p2 f (RD d c l k) _ _ _ _ ⟨.bl _,H,I,rfl,?_⟩;simp only[Bn,<- l1,<- l2]
  by_cases a:xs.length=ys.length
  .rw[La a]at b;have:(xs.length == ys.length)=true:=by simpa using a
   rw[this,lg,<- a,Nat.min_self];exact b
  .rw[LM a]at b;have:(xs.length == ys.length)=false:=by simpa using a
   rw[this,Lj];exact b
theorem eW{bs:List Bool}(r:Vals (bs.map V.bl) A3)(e:A3[i]?=some v):v=.bool (bs.getD i false):=by
 have c:=r.length;rw[AG]at c;have hi:i<A3.length:=(List.getElem?_eq_some_iff.mp e).1;have e1:(bs.map V.bl)[i]?=some (.bl (bs[i]'(by omega))):=by rw[Ah,Au (by omega)];rfl
 obtain⟨u,a,b⟩:=r.get e1;rw[e]at a;cases a;cases b;rw[NL,Au (by omega)];rfl
theorem range_all(bs:List Bool):(List.range bs.length).all (λi=>bs.getD i false)=bs.all id:=by
 rw[KI,Eb,Eb];constructor
 .intro h x hx;obtain⟨i,hi,rfl⟩:=List.mem_iff_getElem.mp hx;have:=h i (List.mem_range.mpr hi);rw[NL,Au hi]at this;exact this
 .intro h i hi;rw[NL,Au (List.mem_range.mp hi)];exact h _ (KN _)
theorem range_any(bs:List Bool):(List.range bs.length).any (λi=>bs.getD i false)=bs.any id:=by
 rw[KI,NJ,NJ];constructor
 .rintro⟨i,hi,h⟩;have a:=List.mem_range.mp hi;rw[NL,Au a]at h;exact⟨_,KN a,h⟩
 .rintro⟨x,hx,h⟩;obtain⟨i,hi,rfl⟩:=List.mem_iff_getElem.mp hx;refine⟨i,List.mem_range.mpr hi,?_⟩;rw[NL,Au hi];exact h
theorem Qm(j:X.calm=true):Bo X (.builtin "all") (λxs H Q=>∃(p:Addr)(bs:List Bool),xs=[.ref p]/\AL X.K H p (bs.map V.bl)/\Q (.bl (bs.all id)) H):=by
 intro ZB s Z H xs us Q I r h;obtain⟨p,bs,rfl,g,q⟩:=h;obtain⟨u,rfl,d⟩:=vals1 r;cases d;obtain⟨A3,a,pl,m⟩:=I.list g;have c:=a.length;rw[AG]at c;refine call_all_walk (ZAk pl.isList ?_);obtain⟨o,n,ho,_⟩:=id pl;have l:p≠s.heap.objs.size:=B7 (AY ho);refine⟨s.heap.objs.size,_,_,_,_,_,λi=>bs.getD i false,rfl,Walks.list (by rw[ZH];exact I.ok.hd j) _ p l A3.toArray,⟨⟨_,BQ _ rfl,rfl,rfl⟩,pl.isList.push _⟩,λi v s' Q' E' f DM=>?_,λh' tk kp=>?_⟩
 .have k:v=.bool (bs.getD i false):=eW a (by simpa using f)
  rw[k];exact wD DM
 .refine⟨.bl _,H,I.kept (t':=tk) λb ob e=>kp b ob (by simpa using B7 (AY e)) (Ao _ e),rfl,?_⟩
  rw[Bn,<- c,range_all];exact q
theorem ZCg(j:X.calm=true):Bo X (.builtin "any") (λxs H Q=>∃(p:Addr)(bs:List Bool),xs=[.ref p]/\AL X.K H p (bs.map V.bl)/\Q (.bl (bs.any id)) H):=by
 intro ZB s Z H xs us Q I r h;obtain⟨p,bs,rfl,g,q⟩:=h;obtain⟨u,rfl,d⟩:=vals1 r;cases d;obtain⟨A3,a,pl,m⟩:=I.list g;have c:=a.length;rw[AG]at c;refine call_any_walk (ZAk pl.isList ?_);obtain⟨o,n,ho,_⟩:=id pl;have l:p≠s.heap.objs.size:=B7 (AY ho);refine⟨s.heap.objs.size,_,_,_,_,_,λi=>bs.getD i false,rfl,Walks.list (by rw[ZH];exact I.ok.hd j) _ p l A3.toArray,⟨⟨_,BQ _ rfl,rfl,rfl⟩,pl.isList.push _⟩,λi v s' Q' E' f DM=>?_,λh' tk kp=>?_⟩
 .have k:v=.bool (bs.getD i false):=eW a (by simpa using f)
  rw[k];exact wD DM
 .refine⟨.bl _,H,I.kept (t':=tk) λb ob e=>kp b ob (by simpa using B7 (AY e)) (Ao _ e),rfl,?_⟩
  rw[Bn,<- c,range_any];exact q
def V7:V->List V->Hp->VK->Prop:=λx vs H Q=>∃(l:Addr)(xs:List V)(j:Int)(y:V),x=.ref l/\vs=[.int j,y]/\H l=some (.lst xs)/\0<=j/\j<=xs.length/\xs.length<sizeLine/\Q .A8 (upd H l (.lst (xs.take j.toNat++y::xs.drop j.toNat)))
theorem ZFV:V4 X "list.insert" V7:=by
 intro ZB s Z H x vs v us Q I d f h;obtain⟨l,xs,j,y,rfl,rfl,b,o,m,B,q⟩:=h;cases d;obtain⟨A,a,rfl,g,c⟩:=f.two;obtain⟨t,rfl⟩:=g;obtain⟨z,A3,n,r,k,e⟩:=I.N7 b;have h2:j<2 ^ 63:=by
  have C:(xs.length:Int)<=(sizeLine:Int):=Int.ofNat_le.mpr z;have D:((sizeLine:Nat):Int)<2 ^ 63:=by exact_mod_cast K8
  omega
 have u:(!Builtin.List.listFitsIndex j)=true->False:=by
  have h1:Builtin.List.listFitsIndex j=true:=by
   unfold Builtin.List.listFitsIndex;rw[C7];exact⟨oW (by omega),oW h2⟩
  rw[h1];exact λh=>nomatch h
 have w:A3.toArray.size<=sizeLine:=Be (Zb (List.size_toArray.trans k.symm)) z;refine call_meets ZH6 ⟨_,e,rfl⟩ PySem.F.entry_list_insert (PySem.F.args_list_insert_3 _ _ _) (PySem.AutoSeq1.list_insert_list_int_val_1 l A3.toArray n j t a u w) ⟨e,?_⟩;refine⟨.A8,_,I.Yg (its':=A3.take j.toNat++a::A3.drop j.toNat) b e ?_ ((r.take _).append (.cons c (r.drop _))) ?_,rfl,q⟩
 .have p:¬ (j<0):=by omega
  have i:min j.toNat A3.toArray.size=j.toNat:=by simp;omega
  simp only[p,ZBr,i];apply Array.toList_inj.mp;simp;exact NN (by simp)
 .rw[BI,BJ,Fg,IM];omega
def O5(x:V)(xs:List V):Nat:=xs.countP λy=>E5 y x
theorem bI{x:V}:∀{xs:List V}{us:List Value},Vals xs us->xs.all Cr=true->us.countP (Ds x)=O5 x xs
 |_,_,.nil,_=>rfl
 |y::xs,u::us,.cons r t,h=>by
  have h1:Cr y=true/\xs.all Cr=true:=by simpa[Ph]using h
  unfold O5;rw[ZGY,ZGY,Yj r h1.1,bI t h1.2];rfl
def Vk(K:ZHy):V->List V->Hp->VK->Prop:=λx vs H Q=>∃l xs y,x=.ref l/\vs=[y]/\AL K H l xs/\Cr y=true/\xs.all Cr=true/\Q (.int (O5 y xs)) H
theorem ZGH:V4 X "list.count" (Vk X.K):=by
 intro ZB s Z H x vs v us Q I b e h;obtain⟨l,xs,y,rfl,rfl,g,i,fs,q⟩:=h;cases b;obtain⟨u,rfl,f⟩:=e.one;obtain⟨A3,r,pl,j⟩:=I.list g;obtain⟨⟨c,d,dt,sl⟩,n,ho,a,hd,G9⟩:=id pl;simp only at a hd G9;subst a;subst hd;subst G9;refine call_meets F.slot_list_count ⟨_,ho,rfl⟩ F.entry_list_count (F.args_list_count_2 _ _) (SeqAt.list_countAt l A3.toArray n none sl u (Ds y)) ⟨ho,λz Ii=>Ko f i r fs z (by simpa using Ii),?_⟩
 refine⟨.int _,H,I.tok _,⟨_,rfl⟩,?_⟩;rw[ZGv,bI r fs];exact q
def wg:V->Option Int->Option Int->Hp->VK->Prop:=λx lo hi H Q=>∃z,x=.str z/\z.length<=sizeLine/\Q (.str (Txt.slice z lo hi)) H
theorem part_of{o:Option Int}(p:IsPart v o):∃l:Option (Int×Tok),v=partValue l/\l.map (·.1)=o:=by
 cases p with
 |none=>exact⟨none,rfl,rfl⟩
 |int i t=>exact⟨some (i,t),rfl,rfl⟩
theorem cM:OL X wg:=by
 intro ZB s Z H x v vl vu lo hi sl Q I a e pl b h;obtain⟨z,rfl,c,q⟩:=h;obtain⟨t,rfl⟩:=a;obtain⟨l,rfl,f⟩:=part_of pl;obtain⟨u,rfl,d⟩:=part_of b;subst f;subst d;refine⟨"str", _,F.slot_str_getitem.lookup,typeIs_str _ _ _,wpAny_getItem_str_slice (l:=l) (u:=u) (st:=none) e rfl (post_val_or_str ⟨Be (Txt.slice_le z _ _) c,λt' k=>?_⟩)⟩;exact⟨.str _,H,I.tok k,⟨t',rfl⟩,q⟩
end L2
set_option exponentiation.threshold 5000
namespace L2
variable{a f p:Addr}{H:Hp}
def AH(P:Program)(w:World)(K:ZHy)(mg:ZI0)(Yd:Heap)(x:Str)(k:Nat)(ps:List Str)(sp:Sp):Prop:=
 ∃f fd,Cs P w K mg Yd DD k f fd ps sp/\Binds K fd ps []/\PySem.W.keepIn K (.ref f)=true/\mg x=some (.ref f)
section
variable{P:Program}{w:World}{K:ZHy}{mg:ZI0}{Yd:Heap}{x qual:Str}{k:Nat}{ps:List Str}{sp:Sp}{st:Stmt}{fd:FuncData}
theorem AH.mk(F:AE K x qual st f fd)(b:Binds K fd ps [])(m:mg x=some (.ref f))(h:Cs P w K mg Yd DD k f fd ps sp):AH P w K mg Yd x k ps sp:=⟨f,fd,h,b,F.kp,m⟩
variable{X:Cx}{j:Nat}{p pos:Pos}{e:Expr}{es:List Expr}{t:TA}
def Jk(K:ZHy):List V->Hp->VK->Prop:=λxs H Q=>∃(p:Addr)(ys:List V),xs=[.ref p]/\(AL K H p ys∨Ax K H p ys)/\Q (.int ys.length) H
theorem D2:Bo X (.builtin "len") (Jk X.K):=OC
theorem Sn:ND X "list.append" Sl:=jj
theorem yw:ND X "list.insert" V7:=ZFV
theorem wI:ND X "list.count" (Vk X.K):=ZGH
def ZEF(i j:Int):Prop:=i.natAbs<2 ^ 1000/\j.natAbs<2 ^ 1000
theorem iu{n:Nat}(h:n<2 ^ 1000):n.log2<1000:=by
 rcases ZGx n with e|e
 .subst e;exact(show(0:Nat).log2<1000 by decide)
 .exact(Nat.log2_lt (E9 e)).mpr h
theorem bits_le{i:Int}(h:i.natAbs<2 ^ 1000):Builtin.Int.intBits i<=2 ^ 20:=by
 unfold Builtin.Int.intBits;split
 .exact CJ _
 .have:=iu h;have e:(2:Nat) ^ 20=1048576:=by decide
  omega
theorem LV:BD X (binaryOp .Mult) (rI ZEF λi j=>.int (i * j)):=T4 λ_ _ _ _ _ _ _ a q=>mul_int q (.of_bits (bits_le a.1) (bits_le a.2))
theorem Vm:BD X (binaryOp .FloorDiv) (rI (λ_ j=>0<j/\j.natAbs<2 ^ 1000) λi j=>.int (i / j)):=T4 λi j _ _ _ _ _ a q=>by
 have h1:(0:Int)<j:=a.1;have h2:=iu a.2;exact floordiv_int (by omega) (by rw[Int.fdiv_eq_ediv_of_nonneg i (by omega)];exact q) (.inl (PyProof.noPylong_of_log2 (by omega)))
theorem y4{body rest:List Stmt}{t u:TS}(e:body=st::rest)(h:PS X st t)(h2:Dc X rest u):Dc X body (Hq t u):=by rw[e];exact XJ h h2
def Qh(t:TS):TS:=λD Z H=>∃J:St->Hp->Prop,t { D with nx:=J } Z H/\∀ σ' H',J σ' H'->D.nx σ' H'
end
theorem ZC7{K:ZHy}{tp:Bool}{xs:List V}{g:TG}{tb:TS}{D:Ends}{Z:St}(Pv:Nat->St->Hp->Prop)(j:Pv 0 Z H)(h:∀i Z H,i<=xs.length->Pv i Z H->Iq K tp H a xs)
  (f:∀i x Z H,xs[i]?=some x->Pv i Z H->g x Z H λσ2 H2=>tb { D with nx:=Pv (i+1),ct:=Pv (i+1),bk:=D.nx } σ2 H2) (hd:∀ Z H,Pv xs.length Z H->D.nx Z H) :
  ∃W:Nat->Nat->St->Hp->Prop,(∃m,W 0 m Z H)/\∀i m Z H,W i m Z H->
   ((KZ K tp a xs).stop i H/\D.nx Z H)∨((KZ K tp a xs).go i H/\∃N:St->Hp->Prop,(∀ σ' H',N σ' H'->∃b,b < m/\W (i+1) b σ' H')/\∀x H',(KZ K tp a xs).EK i H x H'->g x Z H' λσ2 H2=>tb { D with nx:=N,ct:=N,bk:=D.nx } σ2 H2):=by
 refine⟨λi m Z H=>m=xs.length - i/\i<=xs.length/\Pv i Z H,⟨xs.length,by simp,CJ _,j⟩,λi m Z H⟨e,hi,p⟩=>?_⟩;subst e;have q:=h i Z H hi p
 by_cases c:i<xs.length
 .refine .inr ⟨⟨q,c⟩,Pv (i+1),λσ' H' d=>⟨xs.length - (i+1),by omega,rfl,c,d⟩,λx H' y=>?_⟩;obtain⟨e,y⟩:=y;subst e;exact f i x Z _ y p
 .have e:i=xs.length:=by omega
  subst e;exact .inl ⟨⟨q,Aa _⟩,hd Z H p⟩
def GG(p:Addr)(H H':Hp):Prop:=∀b o,b≠p->H b=some o->H' b=some o
theorem GG.trans{H1 H2:Hp}(a:GG p H H1)(b:GG p H1 H2):GG p H H2:=λc o d e=>b c o d (a c o d e)
theorem GG.of{H':Hp}(a:AQ H H'):GG p H H':=λc o _ e=>a c o e
theorem GG.upd{o:HO}:GG p H (upd H p o):=λc u a e=>by rw[AK a];exact e
end L2
set_option maxHeartbeats 8000000
namespace L2
variable{ss:List Str}
section
variable{α:Type}[DecidableEq α]
noncomputable def Eu(acc:List α)(x:α):List α:=if acc.any (· == x)then acc else acc++[x]
def dd(ss:List α):List α:=ss.foldl Eu []
theorem ZDe(acc:List α)(x k:α):(Eu acc x).any (· == k)=(acc.any (· == k) || decide (k=x)):=by
 unfold Eu
 by_cases h:acc.any (· == x)=true
 .rw[oM h]
  by_cases e:k=x
  .subst e;rw[h];simp
  .simp[e]
 .rw[nr h,List.any_append]
  by_cases e:k=x
  .subst e;simp
  .have a:(x == k)=false:=by simpa[ZAM]using(λh':x=k=>e h'.symm)
   simp[a,e]
theorem aS(acc:List α)(x:α):(Eu acc x).length=if acc.any (· == x)then acc.length else acc.length+1:=by
 unfold Eu;split <;> simp
theorem cW(ss:List α)(i:Nat)(h:i<ss.length):dd (ss.take (i+1))=Eu (dd (ss.take i)) ss[i]:=by
 unfold dd;rw[Pl h,ZGe];rfl
theorem Px(ss:List α):(dd ss).length<=ss.length:=by
 have:∀(l acc:List α),(l.foldl Eu acc).length<=acc.length+l.length:=by
  intro l
  induction l with
  |nil=>intro acc;simp
  |cons x r a=>
   intro acc;rw[Tc];have h1:=a (Eu acc x);rw[aS]at h1;simp only[BJ];split at h1 <;> omega
 have q:=this ss [];simp only[Pk,NP]at q;exact q
end
section
variable{prog:Program}{w:World}{A:Around}{R:Result->Shared->Prop}{I:Addr}{fp wr:List Addr}{G:Array GenState->Array GenState->Prop}{n:Nat}{P:Nat->Value->Prop}{St:Nat->Shared->Prop}
variable{E:Value->Shared->Prop}{s:Shared}
theorem sub_tuple_set:isSubtype (.type "tuple") (.type "set")=pure false:=by rw[yC];kernel_rfl
theorem sub_tuple_frozenset:isSubtype (.type "tuple") (.type "frozenset")=pure false:=by rw[yC];kernel_rfl
end
noncomputable def uw(P:Program)(w:World)(a:Addr)(f:Str->Bool)(n:Nat):HO:=.ext λh=>h.SetOf (strKind P w) a f n
section
variable{X:Cx}
theorem v7{A3:List Value}(r:Vals (ss.map V.str) A3){i:Nat}{v:Value}(e:A3[i]?=some v):∃(h:i<ss.length)(t:Tok),v=.str ss[i] t:=by
 have d:=r.length;rw[AG]at d;have hi:i<A3.length:=(List.getElem?_eq_some_iff.mp e).1;have b:i<ss.length:=by omega
 have e1:(ss.map V.str)[i]?=some (.str ss[i]):=by rw[Ah,Au b];rfl
 obtain⟨u,a,c⟩:=r.get e1;rw[e]at a;cases a;obtain⟨t,q⟩:=c;exact⟨b,t,q⟩
end
end L2
set_option maxHeartbeats 4000000
namespace L2
variable{X:Cx}{a c e l o tg:Expr}{es ifs:List Expr}{body rest:List Stmt}{t tb:TS}{tc tt:TT}{te tl to:TE}{p pos pos' px:Pos}{name x y:Str}{op:CmpOp}{r:List V->Hp->VK->Prop}{ps ss:List Str}{sp:Sp}{T:String}{wi:TI}{i n:Nat}{g:TG}{w:World}{I f:Addr}
structure QE (X:Cx) (e:Expr) (t:TE):Prop where h:PE X e t
structure QT (X:Cx) (e:Expr) (t:TT):Prop where h:PT X e t
structure QW (X:Cx) (e:Expr) (t:TT):Prop where h:PW X e t
structure QA (X:Cx) (es:List Expr) (t:TA):Prop where h:PA X es t
structure QS (X:Cx) (st:Stmt) (t:TS):Prop where h:PS X st t
structure Dl (X:Cx) (st:List Stmt) (t:TS):Prop where h:Dc X st t
structure QG (X:Cx) (tg:Expr) (t:TG):Prop where h:PG X tg t
structure RH (X:Cx) (ts:List Expr) (t:HM):Prop where h:M4 X ts t
structure QI (X:Cx) (tg iter:Expr) (wi:TI):Prop where h:PI X tg iter wi
structure M1 (X:Cx) (ifs:List Expr) (t:TT):Prop where h:Hx X ifs t
structure QO (X:Cx) (e:Option Expr) (t:TO):Prop where h:PO X e t
section
variable{b:Expr}{rest:List Expr}{ta tb tc:TE}{tA Ib:TT}{t:TA}{p2 apos Bl:Pos}
theorem qv(i:Nat)(a:X.N[i]?=some x:=by rfl)(hv:R0 X.env.scope x:=by first|exact Or.inl rfl|exact Or.inr (Or.inl rfl)|exact Or.inr (Or.inr rfl))(hd:(x == ("__debug__":Str))=false:=by decide)
  (DK:(x == ("__classdict__":Str))=false:=by decide):QE X (.Name x pos) (Aj i):=⟨iW a hv hd DK⟩
theorem A9{i j pos}:QE X (.Constant (.int i) j pos) (tC (.int i)):=⟨λ_ _ _ H _ I h=>wpAny_Constant_int ⟨.int i,H,I.tok _,⟨_,rfl⟩,h⟩⟩
theorem GC{b j pos}:QE X (.Constant (.bool b) j pos) (tC (.bl b)):=⟨λ_ _ _ H _ I h=>Constant_bool ⟨.bl b,H,I,rfl,h⟩⟩
theorem HZ{j pos}:QE X (.Constant .none j pos) (tC .A8):=⟨λ_ _ _ H _ I h=>Constant_none ⟨.A8,H,I,rfl,h⟩⟩
theorem CA{x j pos}:QE X (.Constant (.str x) j pos) (tC (.str x)):=⟨λ_ _ _ H _ I h=>Calls.Constant_str ⟨.str x,H,I.tok _,⟨_,rfl⟩,h⟩⟩
theorem Dp{v:V}{u:Value}(b:Gl X x)(a:X.mg x=some u)(r:RelV v u)(hd:(x == ("__debug__":Str))=false:=by decide):QE X (.Name x pos) (tC v):=⟨λ_ _ _ H _ I h=>Ky I b a ⟨v,H,I,r,h⟩ hd⟩
theorem vy(T:String)(a:X.mg x=none)(b:Gl X x:=by rfl)(hv:bootBuiltins x=some (.type T):=by decide +kernel)(hn:x ≠"__name__" := by decide)(hd:(x == ("__debug__":Str))=false:=by decide):
  QE X (.Name x pos) (tC (.ty T)):=⟨pK b a hv rfl hn hd⟩
theorem B5{op:Operator}{r:R2}(ho:BD X (binaryOp op) r)(d:QE X a ta)(c:QE X b tb):QE X (.BinOp a op b pos) (BE r ta tb):=⟨by
 have d:=d.h;have c:=c.h;intro ZB s Z H Q I h;exact wpAny_BinOp (VB d c I h λv u s2 x y H2 I2 f e q=>ho ZB s2 Z H2 x y v u Q I2 f e q)⟩
theorem XW{op:UnaryOp}{r:V->Hp->VK->Prop}(ho:SS X (unaryOp op) r)(b:QE X a ta):QE X (.UnaryOp op a pos) (SJ r ta):=⟨by
 have b:=b.h;intro ZB s Z H Q I h;exact UnaryOp_ (Aw (b ZB s Z H _ I h) λv s1 AM=>by obtain⟨x,H1,I1,c,d⟩:=AM;exact ho ZB s1 Z H1 x v Q I1 c d)⟩
theorem ZEA{r:R2}(ho:BD X (compareOp op) r)(d:QE X a ta)(c:QE X b tb)(g:behindInMarks op b=false):QE X (.Compare a [op] [b] pos) (BE r ta tb):=⟨by
 have d:=d.h;have c:=c.h;intro ZB s Z H Q I h;exact wpAny_Compare1 (VB d c I h λv u s2 x y H2 I2 f e q=>ho ZB s2 Z H2 x y v u Q I2 f e q) g⟩
theorem ZBv{r:R2}(ho:BD X (compareOp op) r)(e:QE X a ta)(d:QE X b tb)(c:behindInMarks op b=false):QT X (.Compare a [op] [b] pos) (Pa (BE r ta tb)):=⟨oB ho e.h d.h c⟩
theorem jr{Li:CmpOp}{r l:R2}(ho:BD X (compareOp op) r)(CP:BD X (compareOp Li) l)(i:QE X a ta)(g:QE X b tb)(f:QE X c tc)
  (D:lastMarks [op,Li] [b,c]=false:=by with_unfolding_all rfl):QE X (.Compare a [op,Li] [b,c] pos) (V6 r l ta tb tc):=⟨by
 have i:=i.h;have g:=g.h;have f:=f.h;intro ZB s Z H Q I h;refine Compare_chain (i.k I h λv s1 x H1 I1 w C=>chain_link (g.k I1 C λu s2 y H2 I2 j B=>
  Aw (ho ZB s2 Z H2 x y v u _ I2 w j B) λd p⟨z,H3,I3,t,k,e,m⟩=>?_)) D
 subst e;cases t;refine wD ?_;cases k with
 |false=>exact ite_ff ⟨.bl false,H3,I3,rfl,m⟩
 |true=>exact ite_tt (chain_last (Aw (f ZB p Z H3 _ I3 m) λo s4⟨n,H4,I4,q,A⟩=>CP ZB s4 Z H4 y n u o Q I4 j q A))⟩
theorem LA{op}(h:QE X a ta):QE X (.BoolOp op [a] pos) ta:=⟨by have h:=h.h;exact λZB s Z H Q I hw=>BoolOp_one (h ZB s Z H Q I hw)⟩
theorem Jn(f:QE X a ta)(e:QE X (.BoolOp .And (b::rest) pos) tb):QE X (.BoolOp .And (a::b::rest) pos) (Yy ta tb):=⟨by
 have f:=f.h;have e:=e.h;intro ZB s Z H Q I h;refine BoolOp_and (f.k I h λv s1 x H1 I1 g d=>?_);obtain⟨c,rfl,d⟩:=d;cases g;refine wD ?_;cases c with
 |true=>exact e ZB s1 Z H1 Q I1 d
 |false=>exact⟨.bl false,H1,I1,rfl,d⟩⟩
theorem ZDg(f:QE X a ta)(e:QE X (.BoolOp .Or (b::rest) pos) tb):QE X (.BoolOp .Or (a::b::rest) pos) (Ya ta tb):=⟨by
 have f:=f.h;have e:=e.h;intro ZB s Z H Q I h;refine BoolOp_or (f.k I h λv s1 x H1 I1 g d=>?_);obtain⟨c,rfl,d⟩:=d;cases g;refine wD ?_;cases c with
 |false=>exact e ZB s1 Z H1 Q I1 d
 |true=>exact⟨.bl true,H1,I1,rfl,d⟩⟩
theorem rK(d:QE X a ta):QE X (.UnaryOp .Not a pos) (UB ta):=⟨by
 have d:=d.h;intro ZB s Z H Q I h;refine UnaryOp_ (d.k I h λv s1 x H1 I1 e b=>?_);obtain⟨c,rfl,b⟩:=b;cases e;exact not_of (wD ⟨.bl (!c),H1,I1,rfl,b⟩)⟩
theorem Jr(b:QT X a tA):QW X (.BoolOp .And [a] pos) tA:=⟨by
 have b:=b.h;intro d ZB s Z H Q I h;refine isTrue_and (Aw (b ZB s Z H Q I h) λc s1 e=>?_);cases c with
 |true=>exact isTrue_and_nil e
 |false=>exact e⟩
theorem Nd(b:QT X a tA):QW X (.BoolOp .Or [a] pos) tA:=⟨by
 have b:=b.h;intro d ZB s Z H Q I h;refine isTrue_or (Aw (b ZB s Z H Q I h) λc s1 e=>?_);cases c with
 |false=>exact isTrue_or_nil e
 |true=>exact e⟩
theorem Il(e:QT X a tA)(d:QW X (.BoolOp .And (b::rest) pos) Ib):QW X (.BoolOp .And (a::b::rest) pos) (WD tA Ib):=⟨by
 have e:=e.h;have d:=d.h;intro g ZB s Z H Q I h;refine isTrue_and (Aw (e ZB s Z H _ I h) λc s1 OO=>?_);obtain⟨H1,I1,f⟩:=OO;cases c with
 |true=>exact d g ZB s1 Z H1 Q I1 f
 |false=>exact⟨H1,I1,f⟩⟩
theorem O9(e:QT X a tA)(d:QW X (.BoolOp .Or (b::rest) pos) Ib):QW X (.BoolOp .Or (a::b::rest) pos) (OM tA Ib):=⟨by
 have e:=e.h;have d:=d.h;intro g ZB s Z H Q I h;refine isTrue_or (Aw (e ZB s Z H _ I h) λc s1 OO=>?_);obtain⟨H1,I1,f⟩:=OO;cases c with
 |true=>exact⟨H1,I1,f⟩
 |false=>exact d g ZB s1 Z H1 Q I1 f⟩
theorem QW.pt{t:TT}(h:QW X e t):QT X e t:=⟨h.h.pt⟩
theorem O6(b:QT X a tA):QT X (.UnaryOp .Not a pos) (Ve tA):=⟨by
 have b:=b.h;intro ZB s Z H Q I h;exact isTrue_not (b ZB s Z H (λc H1=>Q (!c) H1) I h)⟩
theorem JN(h:QE X e te)(f:∀a,isTrue e X.env a=(do let v <- a;standAt e.pos;holding [v] (truthy v)):=by intro _;rfl):QT X e (tB te):=⟨by
 have h:=h.h;intro ZB s Z H Q I hw;refine isTrue_plain (h.k I hw λv s1 x H1 I1 b c=>?_) (f _);obtain⟨d,rfl,q⟩:=c;cases b;exact wD ⟨H1,I1,q⟩⟩
theorem A4:QA X [] B6:=⟨d4⟩
theorem A0(c:QE X e te)(b:QA X es t)(a:Cy X e es:=by rfl):QA X (e::es) (AZ te t):=⟨Wu c.h b.h a⟩
theorem Cq{x1}(h:QA X es t):QE X (.Tuple es x1 pos) (Su t):=⟨ZFY h.h⟩
theorem E4(h:QA X es t):QE X (.List es pos) (Sd t):=⟨ZAN h.h⟩
theorem OE:QO X none Va:=⟨by
 intro ZB s Z H Q I h;rw[evalPart_none];exact nW ⟨none,H,I,.none,h⟩⟩
theorem Kj(h:QE X e te):QO X (some e) (VH te):=⟨by
 have h:=h.h;intro ZB s Z H Q I hw;rw[evalPart_some];refine Aw (h ZB s Z H _ I hw) λu s1 ZBt=>?_;obtain⟨x,H1,I1,a,b⟩:=ZBt;obtain⟨i,rfl,q⟩:=b;obtain⟨t,rfl⟩:=a;exact⟨some i,H1,I1,.int i t,q⟩⟩
theorem Oc{r:V->Option Int->Option Int->Hp->VK->Prop}{lo hi:Option Expr}{tl th:TO}(p:OL X r)(f:QE X e te)(d:QO X lo tl)(c:QO X hi th):QE X (.Subscript e (.Slice lo hi none p2) pos) (U4 r te tl th):=⟨by
 have f:=f.h;have d:=d.h;have c:=c.h;intro ZB s Z H Q I h;refine Subscript_ (f.k I h λv s1 x H1 I1 g m=>?_);refine wpAny_Slice (Aw (d ZB s1 Z H1 _ I1 m) λvl s2⟨l,H2,I2,pl,j⟩=>Aw (c ZB s2 Z H2 _ I2 j) λvu a V8=>?_);obtain⟨u,H3,I3,n,i⟩:=V8;rw[evalPart_none];refine nW ?_;have z:Inv X ZB Z H3 { a with heap:=a.heap.push { cls:=.type "slice", data:=.fields #[vl,vu,.none] } }:=I3.kept (t':=a.toks) λb ob q=>Ao _ q
 obtain⟨T,id,y,o,t⟩:=p ZB { a with heap:=a.heap.push { cls:=.type "slice", data:=.fields #[vl,vu,.none] } } Z H3 x v vl vu l u a.heap.objs.size Q z g (Heap.IsSliceOf.new ..) pl n i
 show wpAny (model X.prog X.w) X.A (subscriptTail e (.Slice lo hi none p2) v (.ref a.heap.objs.size)) (EP X ZB Z Q) X.xe { a with heap:=a.heap.push { cls:=.type "slice", data:=.fields #[vl,vu,.none] } }
 exact tail_any (ops:=[.ref a.heap.objs.size,v]) o y t (by with_unfolding_all rfl)⟩
theorem ZCI{r:R2}(i:HV X r)(d:QE X a ta)(c:QE X b tb)(g:VC b):QE X (.Subscript a b pos) (BE r ta tb):=⟨by
 have d:=d.h;have c:=c.h;intro ZB s Z H Q I h;exact Subscript_ (VB d c I h λv u s2 x y H2 I2 f e q=>i a b ZB s2 Z H2 x y v u Q I2 f e q (g _ _))⟩
theorem ZFB{j k:Nat}(h:AH X.prog X.w X.K X.mg X.base x k ps sp)(c:B8 j X.A)(hk:k<=j)(a:QA X (e::es) t)(d:Gl X x:=by rfl)(BO:(x == ("__debug__":Str))=false:=by decide)
  (he:Cy X e es:=by rfl) (An:BEq X pos es:=by rfl):QE X (.Call (.Name x p) (e::es) [] pos) (E7 sp [] E0 t):=⟨by
 have a:=a.h;obtain⟨f,fd,F,b,kp,m⟩:=h;exact uc (F.mono hk) c d m kp b .nil ZEH a BO he An⟩
theorem ZGK{id:String}(j:Bo X (.builtin id) r)(i:Gl X x)(g:X.mg x=none)(d:bootBuiltins x=some (.builtin id))(a:QA X (e::es) t)(f:x ≠"__name__" := by decide)(BO:(x == ("__debug__":Str))=false:=by decide)
  (he:Cy X e es:=by rfl) (An:BEq X pos es:=by rfl):QE X (.Call (.Name x p) (e::es) [] pos) (CH r t):=⟨by
 have a:=a.h;intro ZB s Z H Q I h;refine wF (Lg I i g d ?_ f BO);exact PyProof.Rows.callWith_builtin1 (Aw (a pos ZB s Z H _ I h) λus s1 AM=>by obtain⟨vs,H1,I1,b,c⟩:=AM;exact j ZB s1 Z H1 vs us Q I1 b c) he An⟩
theorem ZEC(j:Bo X (.type T) r)(i:Gl X x)(g:X.mg x=none)(d:bootBuiltins x=some (.type T))(a:QA X (e::es) t)(f:x ≠"__name__" := by decide)(BO:(x == ("__debug__":Str))=false:=by decide)
  (he:Cy X e es:=by rfl) (An:BEq X pos es:=by rfl):QE X (.Call (.Name x p) (e::es) [] pos) (CH r t):=⟨by
 have a:=a.h;intro ZB s Z H Q I h;refine wF (Lg I i g d ?_ f BO);exact Zk (Aw (a pos ZB s Z H _ I h) λus s1 AM=>by obtain⟨vs,H1,I1,b,c⟩:=AM;exact j ZB s1 Z H1 vs us Q I1 b c) he An⟩
theorem LH{id:String}{r:V->List V->Hp->VK->Prop}(i:PlainAttrs T)(slot:Slot T name id)(Tw:typeOf (.builtin id)=pure (.type "method_descriptor"))(j:ND X id r)(ho:QE X o to)(a:QA X (e::es) t)
  (UY:attributeBase o name X.env (eval o X.env)=eval o X.env:=by rfl)
  (Ui:((backTo Bl (starEach (e::es) X.env)).all (λx=>!x.1) && (backToKw Bl (keywordEach [] X.env)).all (λx=>x.1.isSome)
   && decide ((e::es).length+([]:List Keyword).length+(if([]:List Keyword).isEmpty then 0 else 1)<30))=true:=by rfl)
  (Qg:(apos.endLine == Bl.line)=true:=by rfl) (hs:Cy X e es:=by rfl) (Xs:BEq X Bl es:=by rfl) :
  QE X (.Call (.Attribute o name apos) (e::es) [] Bl) (LN X.K T r to t):=⟨by
 have ho:=ho.h;have a:=a.h;intro ZB s Z H Q I h;refine wpAny_Call_method_late UY Ui Qg rfl (ho.k I h λv s1 x H1 I1 b ZCO=>?_);obtain⟨ty,g⟩:=ZCO;obtain⟨h1,h2⟩:=sO I1 b ty;refine⟨T,id,i,slot,Tw,h1,h2,?_⟩;have c:=a Bl ZB s1 Z H1 _ I1 g;rw[hs]at c ⊢;refine ZGT (by show(false || (backTo Bl (starEach es X.env)).any (·.1))=false;rw[Xs] <;> rfl) (lr ?_)
 exact Aw c λus s2 AM=>by obtain⟨vs,H2,I2,d,f⟩:=AM;exact j ZB s2 Z H2 x vs v us Q I2 b d f⟩
variable{elt iter:Expr}{scope:Scope}{AA:List Str}{js:List Nat}
theorem DO(c:QE X l tl):QI X tg l (QV X.K tl):=⟨by
 have c:=c.h;intro ZB s Z H R I h;refine c.k I h λv s1 x H1 I1 g i=>?_;obtain⟨tp,a,xs,e,d,q⟩:=i;subst e;cases g;have fin:∀b∈[s1.heap.objs.size],FA X ZB H1 b:=λb m=>by
  have e:b=s1.heap.objs.size:=by simpa using m
  subst e;exact I1.O4 (Aa _) (I1.AB.fresh (Aa _))
 cases tp with
 |false=>
  obtain⟨A3,f,p,j⟩:=I1.list d;refine ZAk p.isList ?_;exact⟨s1.heap.objs.size,[s1.heap.objs.size],_,_,H1,rfl,I1.kept (t':=s1.toks) λb o e=>Ao _ e,ZA3 a _ xs,⟨_,BQ _ rfl,rfl,rfl⟩,fin,q⟩
 |true=>
  obtain⟨A3,f,p,j⟩:=I1.tuple d;refine wpAny_pyIter_tuple (show s1.heap.IsTuple a A3.toArray from p) ?_;exact⟨s1.heap.objs.size,[s1.heap.objs.size],_,_,H1,rfl,I1.kept (t':=s1.toks) λb o e=>Ao _ e,qk a _ xs,⟨_,BQ _ rfl,rfl,rfl⟩,fin,q⟩⟩
theorem J8{ta:TA}(m:Gl X "range")(l:X.mg "range"=none)(c:QA X [a] ta)(i:starEach [a] X.env=[(false,eval a X.env)]:=by rfl):QI X tg (.Call (.Name "range" p) [a] [] pos) (WZ ta):=⟨by
 have c:=c.h;intro ZB s Z H R I h;refine Call_ (Lg I m l boot_range (Zk (c.k pos I h λus s1 vs H1 I1 f b=>?_) i rfl));obtain⟨j,e,b,g,q⟩:=b;subst e;cases f with
 |cons r d=>
  cases d;obtain⟨t,rfl⟩:=r;exact call_range_1 (ZE5 I1 (by omega) (by omega) b g (by simpa using q))⟩
theorem Hc:M1 X [] Ie:=⟨dD⟩
theorem KQ{t:TT}(a:QT X c t):M1 X [c] t:=⟨p9 a.h⟩
theorem Jp(b:X.calm=true)(S:D7 X.N X.env.scope scope x AA js)(hi:QI X (.Name x px) iter wi)
  (DI:∀fp C s H,M1 (Ei X (AA++[x]) scope (BB X.env.cells scope.names) C s H fp) ifs tt) (Cg:∀fp C s H,QE (Ei X (AA++[x]) scope (BB X.env.cells scope.names) C s H fp) elt te)
  (a:∀v,foldedSetIterable iter X.env v=pure v:=by intro _;rfl):QE X (.ListComp elt [⟨.Name x px,iter,ifs,0⟩] scope pos) (Gk wi js tt te):=⟨ZBQ b S hi.h (λfp C s H=>(DI fp C s H).h) (λfp C s H=>(Cg fp C s H).h) a⟩
theorem JO{py K7:Pos}(c:X.N.Nodup)(C2:X.N[i]?=some y)(a:Loc X.env.scope y)(b:X.calm=true)(S:D7 X.N X.env.scope scope x AA js)(hi:QI X (.Name x px) iter wi)
  (DI:∀fp C s H,M1 (Ei X (AA++[x]) scope (BB X.env.cells scope.names) C s H fp) ifs tt) (Cg:∀fp C s H,QE (Ei X (AA++[x]) scope (BB X.env.cells scope.names) C s H fp) elt te)
  (Nt:swapsWith (.ListComp elt [⟨.Name x px,iter,ifs,0⟩] scope pos) (some (.Name y py)) K7.line X.env=pure true:=by rfl)
  (hf:X.fn y=true∨X.env.scope.names.lookup y=some .local:=by first|exact .inl rfl|exact .inr rfl|assumption)
  (hs:∀v,foldedSetIterable iter X.env v=pure v:=by intro _;rfl):QS X (.Assign [.Name y py] (.ListComp elt [⟨.Name x px,iter,ifs,0⟩] scope pos) K7) (Df (Gk wi js tt te) (CZ i)):=
 ⟨yU c C2 a b S hi.h (λfp C s H=>(DI fp C s H).h) (λfp C s H=>(Cg fp C s H).h) Nt hf hs⟩
theorem ZFW(b:X.N.Nodup)(hi:X.N[i]?=some x)(hx:Loc X.env.scope x)(a:X.fn x=true∨X.env.scope.names.lookup x=some .local:=by first|exact .inl rfl|exact .inr rfl|assumption):QG X (.Name x pos) (CZ i):=⟨Yz b hi hx a⟩
theorem UG:RH X [] Oy:=⟨l5⟩
theorem LO{t:TG}{u:HM}(h1:QG X e t)(h2:RH X es u)
  (a:(assignEach (e::es) X.env).map (·.2)=assign e X.env::(assignEach es X.env).map (·.2):=by rfl):RH X (e::es) (JS t u):=⟨fE h1.h h2.h a⟩
theorem Y3{k:Nat}{t:HM}(b:X.calm=true)(h:RH X es t)(a:(assignEach es X.env).length=n:=by rfl)(CY:(assignEach es X.env).findIdx? (·.1)=none:=by rfl):QG X (.Tuple es k pos) (JY X.K n t):=⟨dq b h.h a CY⟩
theorem WS{i:Expr}{ti:TE}{t:Q2}(ho:QE X o to)(hi:QE X i ti)(l:W8 X t)
  (m:∀v,assign (.Subscript o i pos) X.env v=(do
   let a <- holding [v] (eval o X.env)
   let b <- holding [v,a] (eval i X.env)
   standAt pos
   holding [v,a,b] (setItem a b v)
   release [v,a,b] []):=by intro _;rfl):QG X (.Subscript o i pos) (QU to ti t):=⟨by
 have ho:=ho.h;have hi:=hi.h;intro ZB s Z H v u Q I r h;rw[m];refine dP (rG (ho.k I h λa s1 x H1 I1 d g=>?_));refine dP (rG (hi.k I1 g λb s2 y H2 I2 c f=>?_));refine dP (ZAU (dP (rG (Aw (l ZB s2 Z H2 x y v a b u _ I2 d c r f) λ_ n j=>?_))));obtain⟨H3,I3,e⟩:=j;exact wpAny_release ⟨Z,H3,I3,e⟩⟩
end
section
variable{st:Stmt}{u:TS}
theorem BR:Dl X [] MX:=⟨Zp⟩
theorem AF(e:body=st::rest)(h:QS X st t)(h2:Dl X rest u):Dl X body (Hq t u):=⟨y4 e h.h h2.h⟩
theorem AJ(e:body=[st])(h:QS X st t):Dl X body t:=⟨by have h:=h.h;rw[e];exact ZEY h⟩
theorem FI(b:QE X e te)(a:swapsWith e none pos.line X.env=pure false:=by rfl):QS X (.Expr e pos) (Iv te):=⟨j9 b.h a⟩
theorem Ak(a:QE X e te):QS X (.Return (some e) pos) (Hw te):=⟨by
 have a:=a.h;intro ZB s Z H D I h;exact wpAny_Return_some (Aw (a ZB s Z H _ I h) λv s1 AM=>by obtain⟨x,H1,I1,b,c⟩:=AM;exact⟨x,Z,H1,I1,b,c⟩)⟩
theorem BS{a b:List Stmt}(e:QT X c tc)(g:Dl X a t)(f:Dl X b u):QS X (.If c a b pos) (Mt tc t u):=⟨by
 have e:=e.h;have g:=g.h;have f:=f.h;intro ZB s Z H D I h;refine wpAny_If (Aw (e ZB s Z H _ I h) λd s1 OO=>?_);obtain⟨H1,I1,i⟩:=OO;cases d with
 |true=>exact g ZB s1 Z H1 D I1 i
 |false=>exact f ZB s1 Z H1 D I1 i⟩
theorem NU(b:QE X e te)(a:QG X tg g)(f:swapsWithSole [tg] e pos.line X.env=pure false:=by rfl)(hw:swappedStores [tg] e X.env=pure none:=by rfl)
  (h1:(assignEach [tg] X.env).map (·.2)=[assign tg X.env]:=by rfl):QS X (.Assign [tg] e pos) (Df te g):=⟨by
 have b:=b.h;have a:=a.h;intro ZB s Z H D I h;refine wpAny_Assign_stores (b.k I h λv s1 x H1 I1 c d=>?_) f hw;rw[h1];exact Aw (a ZB s1 Z H1 x v _ I1 c d) λ_ s2 q=>q⟩
theorem vC(f:X.N.Nodup)(hi:X.N[i]?=some x)(hx:Loc X.env.scope x)(a:QE X e te)(d:swapsWith e (some (.Name x pos')) pos.line X.env=pure false:=by rfl)(hf:X.fn x=true∨X.env.scope.names.lookup x=some .local:=by first|exact .inl rfl|exact .inr rfl|assumption):
  QS X (.Assign [.Name x pos'] e pos) (Df te (CZ i)):=⟨by
 have a:=a.h;intro ZB s Z H D I h;refine wpAny_Assign_Name (a.k I h λv s1 y H1 I1 b c=>?_) d;exact X5 I1 f hi hx b (λs2 I2=>⟨_,H1,I2,c⟩) hf⟩
theorem VX(o:PassesOwn (model X.prog X.w) X.A X.env X.xe)(l:QT X c tc)(m:Dl X body tb):QS X (.While c body [] pos) (ZA tc tb):=⟨by
 have l:=l.h;have m:=m.h;intro ZB s Z H D I h;obtain⟨W,⟨t,r⟩,a⟩:=h;refine wpAny_While (codeAny_whileLoop (λn s'=>∃ σ' H',Inv X ZB σ' H' s'/\W n σ' H') ?_ t ⟨Z,H,I,r⟩);rintro n s1⟨σ1,H1,I1,q⟩;refine yc o (Aw (l ZB s1 σ1 H1 _ I1 (a n σ1 H1 q)) λb s2 ZCV=>?_);obtain⟨H2,I2,e⟩:=ZCV;cases b with
 |true=>
  obtain⟨N,p,e⟩:=e;rw[oM rfl];refine yc o (Aw (m ZB s2 σ1 H2 _ I2 e) λf u d=>?_);cases f with
  |next=>
   obtain⟨σ3,H3,I3,i⟩:=d;obtain⟨j,k,g⟩:=p σ3 H3 i;exact⟨j,k,σ3,H3,I3,g⟩
  |cont=>
   obtain⟨σ3,H3,I3,i⟩:=d;obtain⟨j,k,g⟩:=p σ3 H3 i;exact⟨j,k,σ3,H3,I3,g⟩
  |brk=>exact d
  |ret v=>exact d
 |false=>
  rw[nr Cv];exact ZAg ⟨σ1,H2,I2,e⟩⟩
theorem FQ{iter:Expr}(p:PassesOwn (model X.prog X.w) X.A X.env X.xe)(E:X.calm=true)(hi:QI X tg iter wi)(y:QG X tg g)(a:Dl X body tb)
  (hs:∀x,foldedSetIterable iter X.env x=pure x:=by intro _;rfl):QS X (.For tg iter body [] pos) (R1 wi g tb):=⟨by
 have hi:=hi.h;have y:=y.h;have a:=a.h;intro ZB s Z H D I h;refine wpAny_For (Aw (hi ZB s Z H _ I h) λv s1 h1=>Aw h1 λQ5 s2 h2=>?_) hs;obtain⟨it,fp,tn,J,H2,e,I2,T,JI,G,W,⟨m0,R⟩,k⟩:=h2;subst e
 -- vK stays true of Jw ZHQ objects through Jw loop
 have z:∀{H':Hp},(∀b∈fp,H' b=none)->∀b∈fp,FA X ZB H' b:=λhn b a=>⟨hn b a,(G b a).2⟩;refine codeAny_forLoop_any (λn s'=>∃i σ' H',Inv X ZB σ' H' s'/\tn i s'.heap/\(∀b∈fp,H' b=none)/\W i n σ' H') ?_ m0 ⟨0,Z,H2,I2,JI,λb a=>(G b a).1,R⟩;rintro n C⟨i,σ3,H3,I3,K,F,Q⟩;rcases k i n σ3 H3 Q with⟨stop,qn⟩|⟨go,N,hN,step⟩
 .refine yc p (Aw (T.done X rfl rfl rfl E i ZB C σ3 H3 X.xe I3 (z F) K stop) λr s4 ZB1=>?_);obtain⟨t,I4⟩:=ZB1;subst t;exact ZAg ⟨σ3,H3,I4,qn⟩
 .refine yc p (Aw (T.item X rfl rfl rfl E i ZB C σ3 H3 X.xe I3 (z F) K go) λr s4 qN=>?_);obtain⟨u,t,h4⟩:=qN;subst t;refine yc p (Aw h4 λ_ B L=>?_);obtain⟨x,H5,I5,σ,M,M5,SY⟩:=L;have S:=I5.pinned (z SY) (T.obj _ _ M5);refine yc p (Aw (y _ B σ3 H5 x u _ S σ (step x H5 M)) λ_ V U=>?_);obtain⟨σ6,H6,I6,q6⟩:=U;refine yc p (Aw (a _ V σ6 H6 _ I6 q6) λf q j=>?_);have c:∀{σ7:St}{H7:Hp},Inv X (ZB++NX fp B.heap) σ7 H7 q->N σ7 H7->∃m,m<n/\∃i σ' H',Inv X ZB σ' H' q/\tn i q.heap/\(∀b∈fp,H' b=none)/\W i m σ' H':=λ{σ7 H7}I7 l=>by
   obtain⟨m',hm,P⟩:=hN σ7 H7 l;refine⟨m',hm,i+1,σ7,H7,I7.Oo,T.keep _ _ _ M5 λb a o e=>(I7.pin (b,o) (C1 _ (C1 _ (Si a e)))).1,λb a=>?_,P⟩;obtain⟨o,e,d⟩:=T.obj _ _ M5 b a;exact(I7.pin (b,o) (C1 _ (C1 _ (Si a e)))).2.1
  cases f with
  |next=>obtain⟨σ7,H7,I7,l⟩:=j;exact c I7 l
  |cont=>obtain⟨σ7,H7,I7,l⟩:=j;exact c I7 l
  |brk=>obtain⟨σ7,H7,I7,j⟩:=j;exact⟨σ7,H7,I7.Oo,j⟩
  |ret v=>obtain⟨O,σ7,H7,I7,Y,j⟩:=j;exact⟨O,σ7,H7,I7.Oo,Y,j⟩⟩
theorem CV(h:QS X st t):QS X st (Qh t):=⟨by
 have h:=h.h;intro ZB s Z H D I hw;obtain⟨J,h1,h2⟩:=hw;refine Aw (h ZB s Z H _ I h1) λf s' q=>?_;cases f with
 |next=>obtain⟨σ',H',I',q⟩:=q;exact⟨σ',H',I',h2 σ' H' q⟩
 |ret v=>exact q
 |brk=>exact q
 |cont=>exact q⟩
end
theorem AE.Gr{P:Program}{K:ZHy}{mg:ZI0}{Yd:Heap}{qual:Str}{st:Stmt}{fd:FuncData}{N:List Str}{k:Nat}(F:AE K x qual st f fd)(S:Ap N ps (AI st))(len:∀vs H Q E,sp vs H Q E->vs.length=ps.length)
  (HD:∀(AU:Value)(A:Around)(outer:List Env)(s:Shared)(H:Hp)(vs:List V)(Q:VK)(E:XK),B8 k (A.deeper (envOfC qual (AI st) s.heap.objs.size f AU))->sp vs H Q E->
   ∃t,Dl (Cn DD P w K mg Yd N qual (AI st) f AU A outer s H E).Gz (DC st) t/\t { nx:=λ_ H'=>Q .A8 H',rt:=Q } (start N vs) H):Cs P w K mg Yd DD (k+1) f fd ps sp:=
 F.ok S len λAU A outer s H vs Q E a h=>let ⟨t,q,r⟩:=HD AU A outer s H vs Q E a h;⟨t,q.h,r⟩
section
theorem aW{t:Tok}:Ds (.str x) (.str y t)=(y == x):=rfl
theorem cR(x:Str):∀(ss:List Str)(m:Nat)(b:m<ss.length),m<ss.idxOf x->ss[m]≠x
 | [],_,b,_=>absurd b (Ze _)
 |a::r,m,b,h=>by
  rw[List.idxOf_cons]at h
  by_cases e:a=x
  .have:(a == x)=true:=by simpa using e
   rw[this]at h;exact absurd h (Ze _)
  .have c:(a == x)=false:=by simpa using e
   rw[c]at h;cases m with
   |zero=>exact e
   |succ k=>
    have h':k+1<r.idxOf x+1:=h;exact cR x r k (by simpa using b) (by omega)
theorem iP(h:x∈ss):∃a:ss.idxOf x<ss.length,ss[ss.idxOf x]=x/\∀m(b:m<ss.length),m<ss.idxOf x->ss[m]≠x:=by
 have a:ss.idxOf x<ss.length:=List.idxOf_lt_length_iff.mpr h;exact⟨a,ZGi a,λm b AO=>cR x ss m b AO⟩
def ay(K:ZHy):V->List V->Hp->VK->Prop:=λx vs H Q=>∃(l:Addr)(ss:List Str)(y:Str),x=.ref l/\vs=[.str y]/\AL K H l (ss.map V.str)/\y∈ss/\Q (.int (ss.idxOf y:Nat)) H
theorem ZDw:ND X "list.index" (ay X.K):=by
 intro ZB s Z H x vs v us Q I j k h;obtain⟨l,ss,y,rfl,rfl,A,p,q⟩:=h;cases j;obtain⟨u,rfl,o⟩:=k.one;obtain⟨A3,r,pl,b⟩:=I.list A;obtain⟨⟨c,d,dt,sl⟩,n,ho,f,hd,G9⟩:=id pl;simp only at f hd G9;subst f;subst hd;subst G9;have B:=r.length;rw[AG]at B;obtain⟨E,i,Tv⟩:=iP p;have at':∀(m:Nat)(a:m<A3.toArray.size),∃t,A3.toArray[m]=.str (ss[m]'(by simp at a;omega)) t:=λm a=>by
  have C:m<A3.length:=by simpa using a
  obtain⟨h2,t,e⟩:=v7 r (Au C);exact⟨t,by simpa using e⟩
 have g:ss.idxOf y<A3.toArray.size:=by simp;omega
 refine call_meets ZH5 ⟨_,ho,rfl⟩ PySem.F.entry_list_index (PySem.F.args_list_index_2 _ _) (SeqAt.list_indexAt l A3.toArray n none sl u (Ds (.str y)) (ss.idxOf y) g ?_ ?_ (λm a AO=>?_)) ⟨ho,λz Ii=>Ko o rfl r (by
   rw[Eb];intro w hw;obtain⟨D,_,rfl⟩:=List.mem_map.mp hw;rfl) z (by simpa using Ii),?_⟩
 .have h1:ss.length<=sizeLine:=by rw[AG]at b;exact b
  have h2:=K8;have G:((sizeLine:Nat):Int)<2 ^ 63:=by exact_mod_cast h2
  omega
 .obtain⟨t,e⟩:=at' _ g;rw[e,aW];simpa using i
 .obtain⟨t,e⟩:=at' _ a;rw[e,aW];have:=Tv m (by simp at a;omega) AO
  simpa using this
 .exact⟨.int _,H,I.tok _,⟨_,rfl⟩,q⟩
variable{prog:Program}{A:Around}{s:Shared}{R:Result->Shared->Prop}{fp wr:List Addr}{G:Array GenState->Array GenState->Prop}{P:Nat->Value->Prop}{St:Nat->Shared->Prop}
variable{E:Value->Shared->Prop}
variable{l:Addr}{items:Array Value}
end
end L2
namespace HT
variable{E Q:Value->Shared->Prop}
section
variable{prog:Program}{w:World}{A:Around}{s:Shared}
theorem ZE6{t sl:Addr}{items:Array Value}{vl vu:Value}{lo hi:Option Int}(a:IsTup s.heap t items)(c:s.heap.IsSliceOf sl vl vu .none)(pl:IsPart vl lo)(d:IsPart vu hi)
  (hw:Aq items.size 0 lo=0/\Aq items.size items.size hi=items.size) (h:Q (.ref t) s):wpAny (model prog w) A (getItem (.ref t) (.ref sl)) Q E s:=by
 obtain⟨os,Gg,N8,Ga⟩:=id c;have e:s.TypeIs (.ref sl) "slice" := ⟨os,Gg,N8⟩;unfold getItem
 try with_reducible refine rG ?_
 first|refine dP (nW ?_)|skip
 refine dP (ZAw a.typeIs (by decide) ?_);refine dP (vD (name:=Str.ofString "__getitem__") a.typeIs Zl
  (uT Zl a.typeIs entry_tuple_getitem ?_ (args_tuple_getitem _ _)))
 show wpAny _ _ (Builtin.Tuple.tupleItemsOf (.ref t) >>= _) _ _ s;refine dP (tupleItemsOf_ a ?_);refine dP (zZ e ?_);rw[oM (by decide)];refine dP (fq c pl d ?_);have b:((((Aq items.size 0 lo:Nat):Int) == 0 && (1:Int) == 1 && (Aq items.size items.size hi - Aq items.size 0 lo) == items.size)=true):=by
  rw[hw.1,hw.2];simp
 first
 |rw[oM b]
 |simp only[b,ZBw]
 refine dP ?_;unfold Builtin.Tuple.tupleIsExact;refine dP (zZ a.typeIs (nW ?_));rw[oM (by decide)];exact dP (ZA8 (nW ⟨_,rfl,nW h⟩))
end
end HT
namespace L2
variable{X:Cx}{ZB:ZHz}{Z σ1:St}{H:Hp}{s:Shared}{h h':Heap}{ep i k1 n nT nl pl sl t':Nat}{fp:List Addr}{I S a it:Addr}{o oT:Obj}{w:World}{es:Array (Int×Value)}{t:SetTable}{α:Type}{prog:Program}{A:Around}{E Q₁:Value->Shared->Prop}{tk:Tok}{Q:Option Value->Shared->Prop}{e:Int×Value}{f v x:Value}{items out ps:Array Value}{A3 vs:List Value}
def jF(K:ZHy):V->Option Int->Option Int->Hp->VK->Prop:=λx lo hi H Q=>∃a xs,x=.ref a/\Ax K H a xs/\
 ((HT.Aq xs.length 0 lo=0/\HT.Aq xs.length xs.length hi=xs.length)->Q (.ref a) H)/\(¬ (HT.Aq xs.length 0 lo=0/\HT.Aq xs.length xs.length hi=xs.length)->∀p,H p=none->Q (.ref p) (upd H p (.tup (KD xs lo hi))))
theorem UA:OL X (jF X.K):=by
 intro ZB s Z H x v vl vu lo hi sl Q I c f pl d h;obtain⟨a,xs,rfl,hx,i,g⟩:=h
 by_cases hw:HT.Aq xs.length 0 lo=0/\HT.Aq xs.length xs.length hi=xs.length
 .cases c;obtain⟨A3,r,e,j⟩:=I.tuple hx;have b:A3.toArray.size=xs.length:=by rw[Bn];exact r.length.symm
  refine⟨"tuple", _,PyProof.Rows.slot_tuple_getitem.lookup,e.typeIs,?_⟩;exact HT.ZE6 e f pl d (by rw[b];exact hw) ⟨.ref a,H,I,rfl,i hw⟩
 .exact r6 ZB s Z H _ v vl vu lo hi sl Q I c f pl d ⟨a,xs,rfl,hx,hw,g hw⟩
theorem Inv.lC(I:Inv X ZB Z H s)(d:∀b∈fp,FA X ZB H b)(k:∀b o,b∉fp->s.heap.get? b=some o->h'.get? b=some o):
  Inv X ZB Z H { s with heap:=h',toks:=t' }:=by
 have f:∀b u,H b=some u->b∉fp:=λb u e z=>by rw[(d b z).1]at e;cases e
 refine I.step (g':=s.gens) (d':=s.drawn) (ch:=fp) (λb h=>?_) (λb o _ _ a e _=>k b o a e) (λb o _ _ a e _=>⟨o.slots,k b o a e⟩) (λ_ _ _ _ n=>n)
  (λb o a e=>⟨o,k b o a e⟩) (λ_ _ e=>e) (λ_ _ _ e=>e) (λm g=>?_) (λb u e=>?_) I.bare
 .obtain⟨_,h1,_,l,j,i⟩:=d b h;exact⟨l,h1,j,i⟩
 .obtain⟨o,es,ep,ho,r⟩:=g;exact⟨o,es,ep,k _ o (λz=>(d _ z).2.1 rfl) ho,r⟩
 .refine(I.AB b u e).EZ (λc v a q=>k c v ?_ q) (λ_ q=>q) λ_ _ q=>q;rcases a with z|z
  .rw[z];exact f b u e
  .exact f c _ z
theorem Inv.il{o:HO}(I:Inv X ZB Z H s)(h:∀b∈fp,FA X ZB H b)(k:∀b o,b∉fp->s.heap.get? b=some o->h'.get? b=some o)
  (i:s.heap.objs.size<=a) (new:BZ X.prog X.w (upd H a o) h' a o):Inv X ZB Z (upd H a o) { s with heap:=h',toks:=t' }:=by
 have l:H a=none:=I.AB.fresh i;have j:∀b u,H b=some u->b∉fp:=λb u e z=>by rw[(h b z).1]at e;cases e
 have ne:∀b u,H b=some u->b≠a:=λb u e=>DS e l;have g:∀b u,s.heap.get? b=some u->b≠a:=λb u e=>B7 (CI (AY e) i);refine I.step (g':=s.gens) (d':=s.drawn) (ch:=fp) (λb f=>?_) (λb o _ _ d e _=>k b o d e) (λb o _ _ d e _=>⟨o.slots,k b o d e⟩) (λb o _ e n=>by rw[AK (g b o e)];exact n)
  (λb o d e=>⟨o,k b o d e⟩) (λb _ e=>by rw[AK (ne b _ e)];exact e) (λb _ _ e=>by rw[AK (ne b _ e)];exact e) (λm p=>?_) (λb u e=>?_) I.bare
 .obtain⟨_,h1,_,y,x,t⟩:=h b f;exact⟨y,h1,x,t⟩
 .obtain⟨o,es,ep,ho,r⟩:=p;exact⟨o,es,ep,k _ o (λz=>(h _ z).2.1 rfl) ho,r⟩
 .by_cases f:b=a
  .subst f;rw[AV]at e;cases e;exact new
  .rw[AK f]at e;refine(I.AB b u e).EZ (λc v d q=>k c v ?_ q) (λc q=>by rw[AK (ne c _ q)];exact q) λc _ q=>by rw[AK (ne c _ q)];exact q
   rcases d with z|z
   .rw[z];exact j b u e
   .exact j c _ z
noncomputable def gE(K:ZHy)(a:Addr)(xs:List V):It:=
 ⟨λi H=>AL K H a xs/\i<xs.length,λi H x H'=>∃p y,xs[i]?=some y/\x=.ref p/\H p=none/\H'=upd H p (.tup [.int i,y]),λi H=>AL K H a xs/\xs.length<=i⟩
theorem ZCZ{P:Program}{K:ZHy}{es:List Expr}{p1:Pos}(a e it:Addr)(xs:List V)(D:e≠it):
  Turn P w K (.Tuple es k1 p1) (gE K a xs) [e,it] e (λi h=>(∃c,IsEnum h e it i c)/\h.IsListIter it a i) where
 mem:=by simp
 obj:=λi h st b g=>by
  obtain⟨⟨c,h1⟩,o,h2,_,d⟩:=st;rcases List.mem_cons.mp g with z|z
  .subst z;exact⟨_,h1,λv z=>by cases z⟩
  .have:b=it:=by simpa using z
   subst this;exact⟨o,h2,λv z=>by rw[d]at z;cases z⟩
 keep:=λi h h' st k=>⟨let ⟨c,h1⟩:=st.1;⟨c,k e (by simp) _ h1⟩,st.2.at λo q=>k it (by simp) o q⟩
 item:=by
  intro X A hw B F i ZB s Z H E I l st t;subst A hw B;obtain⟨n,hi⟩:=t;obtain⟨⟨c,j⟩,f⟩:=st;obtain⟨A3,m,p,M⟩:=I.list n;obtain⟨u,N,L⟩:=m.get (Au hi);refine wpAny_pyNext_enum_item j f p.isList (x:=u) (by simpa using N) D λh1 Jb Mn Ru R r=>⟨_,rfl,?_⟩
  refine wpAny_letOwnedTupleGo_enum Jb λh2 y Eo=>?_;have J:e<s.heap.objs.size:=AY j;have G:h2.get? s.heap.objs.size=some { cls:=.type "tuple", data:=.seq #[.int i s.toks,u] }:=(Eo.2 _ (E9 J)).trans Ru;have kp:∀b o,b∉[e,it]->s.heap.get? b=some o->h2.get? b=some o:=λb o g q=>by
   have C:b≠e/\b≠it:=by simpa using g
   exact(Eo.2 b C.1).trans (r b o C.1 C.2 q)
  refine⟨.ref s.heap.objs.size,_,I.il (t':=s.toks+1) (a:=s.heap.objs.size) (o:=.tup [.int i,xs[i]]) l kp (Aa _) ?_,rfl,⟨_,_,Au hi,rfl,I.AB.fresh (Aa _),rfl⟩,⟨⟨_,y⟩,Mn.at λo q=>(Eo.2 it (Az D)).trans q⟩,λb g=>?_⟩
  .exact⟨(by show 2<=sizeLine;decide),[.int i s.toks,u],.cons ⟨_,rfl⟩ (.cons L .nil),⟨_,G,rfl,_,rfl⟩,λob q=>by rw[G]at q;cases q;rfl⟩
  .have Q:b<s.heap.objs.size:=by
    rcases List.mem_cons.mp g with z|z
    .rw[z];exact J
    .have:b=it:=by simpa using z
     obtain⟨o,q,_⟩:=f;rw[this];exact AY q
   rw[AK (B7 Q)];exact(l b g).1
 done:=by
  intro X A hw B F i ZB s Z H E I l st t;subst A hw B;obtain⟨n,hx⟩:=t;obtain⟨⟨c,j⟩,f⟩:=st;obtain⟨A3,m,p,M⟩:=I.list n;have S:=m.length;exact wpAny_pyNext_enum_end (I.ok.hd F) j f p.isList (by simp;omega) λh' O=>⟨rfl,I.lC (t':=s.toks) l λb o g q=>O b o (λz=>g (by simp[z])) q⟩
 self:=λ_ _ _ _ _ st h=>let ⟨⟨_,j⟩,_⟩:=st;wpAny_pyIter_enum j h
def Vl(K:ZHy)(t:TA):TI:=λZ H R=>t Z H λvs H1=>∃a xs,vs=[.ref a]/\AL K H1 a xs/\R (gE K a xs) H1
theorem Z6{es:List Expr}{p1 p pos:Pos}{l:Expr}{t:TA}(r:Gl X "enumerate")(o:X.mg "enumerate"=none)(d:QA X [l] t)(m:starEach [l] X.env=[(false,eval l X.env)]:=by rfl):
  QI X (.Tuple es k1 p1) (.Call (.Name "enumerate" p) [l] [] pos) (Vl X.K t):=⟨by
 have d:=d.h;intro ZB s Z H R I h;refine wF (Lg I r o (show bootBuiltins "enumerate"=some (.type "enumerate") by decide +kernel) ?_ (by decide) (by decide));refine Zk (d.k pos I h λus s1 vs H1 I1 i j=>?_) m rfl;obtain⟨a,xs,rfl,n,q⟩:=j;obtain⟨u,rfl,g⟩:=vals1 i;cases g;obtain⟨A3,x,p,y⟩:=I1.list n;refine call_enumerate_list p.isList λh' e c hsz kp=>?_;refine wpAny_pyIter_enum e ?_;have w:s1.heap.objs.size+1≠s1.heap.objs.size:=Nat.succ_ne_self _;refine⟨s1.heap.objs.size+1,[s1.heap.objs.size+1,s1.heap.objs.size],_,_,H1,rfl,I1.kept (t':=s1.toks) kp,ZCZ a _ _ xs w,⟨⟨_,e⟩,c⟩,λb v=>?_,q⟩;have f:s1.heap.objs.size<=b:=by
  rcases List.mem_cons.mp v with z|z
  .rw[z];exact Dw _
  .have:b=s1.heap.objs.size:=by simpa using z
   rw[this];exact Aa _
 exact I1.O4 f (I1.AB.fresh f)⟩
theorem uL(t:SetTable)(n:Nat):(t.orStandIn n).led=t.led:=by unfold SetTable.orStandIn;split <;> rfl
theorem mi(t:SetTable)(es:Array (Int×Value))(h:Int)(x:Value):(layNew t es h x).2.1.led=t.led:=by
 unfold layNew;split
 .show(SetTable.orStandIn (t.put _).1 _).led=t.led;rw[uL];rfl
 .rfl
theorem ml{mask b c:Nat}{d a:Bool}{e:Array Int}{p:SetTable×Array Nat}(h:SetTable.laid mask b c d a e=some p):p.1.led=d/\p.1.plain=a:=by
 unfold SetTable.laid at h;cases f:SetTable.layClean mask e with
 |none=>rw[f]at h;cases h
 |some ow=>rw[f]at h;cases h;exact⟨rfl,rfl⟩
theorem bS(t:SetTable)(es:Array (Int×Value))(n:Nat):(relayAll t es n).2.1.led=t.led/\(t.plain=false->(relayAll t es n).2.1.plain=false):=by
 unfold relayAll;split
 .next t' order hr=>
  have q:=ml (p:=(t',order)) hr;dsimp only at q ⊢;split
  .exact⟨q.1,q.2.trans⟩
  .exact⟨rfl,λ_=>rfl⟩
 .exact⟨rfl,λ_=>rfl⟩
noncomputable def BY(w:World):Bool:=w.params.followText "set-order"
noncomputable def IZ(f:Value)(i:Nat)(S:Addr)(n ep:Nat):Array Value:=#[f,rawInt (i:Int),.ref S,rawInt (n:Int),rawInt (ep:Int)]
def ES(h:Heap)(I:Addr)(f:Value)(i:Nat)(S:Addr)(n ep:Nat):Prop:=∃o,h.get? I=some o/\o.cls=.type "set_iterator" /\ o.data=.fields (IZ f i S n ep)
structure GS (α:Type) where
 sV:α->V
 M6:List α->Prop
 Wh:∀{p:Program}{w:World}{A:Around}{E:Value->Shared->Prop}{s:Shared}{a:Addr}{vs:List Value}{ss:List α}{n:Nat}{P:PySem.Fin->Shared->Prop},s.heap.get? a=some (seqObj "list" vs.toArray n)->Vals (ss.map sV) vs->vs.length<64->
  (∀(out:Array Value)(A5:List α),Vals (A5.map sV) out.toList->A5.Perm ss->M6 A5->P (Fin.done (Flow.ret .none)) { s with heap:=sortedHeap s.heap a vs out })->wpAny (model p w) A (Builtin.«list.sort» ⟨[.ref a],[]⟩) P E s
structure GK {α:Type} [DecidableEq α] (Z:GS α) where
 gM:α->Tok->Value
 TC:∀{k u},RelV (Z.sV k) u->∃t,u=gM k t
 UH:∀k t,RelV (Z.sV k) (gM k t)
 gK:∀(p:Program)(w:World),PySem.KeyKind p w α
 Pz:∀p w k t,(gK p w).is k (gM k t)=true
 Vd:∀{p w k u},(gK p w).is k u=true->∃t,u=gM k t
 Xy:∀k t,(gM k t).scannable=true
 Ld:Nat->SetTable->Prop
 J9:SetTable->Prop
 gZ:∀b,Ld 0 (.fresh 0 0 b)
 Vq:∀{n t},J9 t->Ld n t
 SD:∀{n t}es h k tk,Ld n t->J9 (if plainKind (gM k tk)=true then(layNew t es h (gM k tk)).2.1 else { (layNew t es h (gM k tk)).2.1 with plain:=false })/\((layNew t es h (gM k tk)).2.1.plain=false->J9 (layNew t es h (gM k tk)).2.1)
 VT:∀{t}es n,J9 t->J9 (relayAll t es n).2.1
 W0:∀{p:Program}{w:World},BY w=false->∀(I S:Addr),S≠I->∀{o:Obj}{es:Array (Int×Value)}{ep:Nat}{t:SetTable},o.data=.set es ep t->t.fits es.size=true->(!t.plain && decide (es.size > 1))=false->t.led=true->Ld es.size t->
  ∃St:Nat->Heap->Prop,(∀A:Around,A.handled=none->Walks p w A I [I,S] [I] es.size (λi v=>(es.toList.map (·.2))[i]?=some v) St)/\∀h,ES h I (rawInt 0) 0 S es.size ep->h.get? S=some o->St 0 h
def Ce[DecidableEq α]{Z:GS α}(g:GK Z)(prog:Program)(w:World)(h:Heap)(a:Addr)(S:α->Bool)(n:Nat):Prop:=
 ∃o es ep t,h.get? a=some o/\o.ExactSet/\o.data=.set es ep t/\ElemsOf (g.gK prog w) es.toList/\(∀k,S k=true↔∃e∈es.toList,(g.gK prog w).is k e.2=true)/\
  es.size<scanBound/\t.fits es.size=true/\es.size=n/\(t.led=!BY w)/\g.Ld es.size t
theorem Ce.keep[DecidableEq α]{Z:GS α}{g:GK Z}{S:α->Bool}(x:Ce g prog w h a S n)(k:∀o,h.get? a=some o->h'.get? a=some o):Ce g prog w h' a S n:=by
 obtain⟨o,es,ep,t,ho,r⟩:=x;exact⟨o,es,ep,t,k o ho,r⟩
theorem Ce.congr[DecidableEq α]{Z:GS α}{g:GK Z}{S S':α->Bool}{b:Nat}(x:Ce g prog w h a S n)(e:∀k,S k=S' k)(p:n=b):Ce g prog w h a S' b:=by
 obtain⟨o,es,ep,t,h1,h2,m,l,j,i,f,d,c⟩:=x;exact⟨o,es,ep,t,h1,h2,m,l,λk=>by rw[<- e k];exact j k,i,f,d.trans p,c⟩
section
variable[DecidableEq α]{Z:GS α}{g:GK Z}
theorem JR(ho:h.get? a=some o)(hd:o.data=.set es ep t)(BP:Array (Int×Value))(t':SetTable):
  (h.update a (Obj.putSet BP t')).get? a=some { o with data:=.set BP (ep+1) t' }:=by
 have q:=Hg (Obj.putSet BP t') ho (by rw[putSet_of BP t' hd];rfl);rw[q,putSet_of BP t' hd]
theorem Ce.put{S:α->Bool}{k:α}{Q:Bool->Shared->Prop}(hS:Ce g prog w s.heap a S n)(Lh:n+1<scanBound)
  (h:∀h',Heap.SameBut a s.heap h'->Ce g prog w h' a (λk'=>S k' || decide (k'=k)) (if S k then n else n+1)->Q (!S k) { s with heap:=h' }) :
  wpAny (model prog w) A (setAddHashed a (g.gM k tk) ((g.gK prog w).hash k)) Q E s:=by
 obtain⟨o,es,ep,t,ho,d,hd,Bt,Bc,M,B,y,Cd,An⟩:=hS;have F:(g.gK prog w).is k (g.gM k tk)=true:=g.Pz prog w k tk;have G:(g.gM k tk).scannable=true:=g.Xy k tk;have rm:es.size+1<scanBound:=by rw[y];exact Lh
 have N:∀(b:Bool)(s1:Shared)(Q1:Unit->Shared->Prop),Q1 () s1->wpAny (model prog w) A (match b with|true=>rule "set.scan.the-table-gave-way" |false=>pure ()) Q1 E s1:=by
  intro b s1 Q1 q;cases b
  .exact nW q
  .exact ZA8 q
 unfold setAddHashed setAddHashedIn;refine rG ?_;refine dP (rX ho hd B ?_);dsimp only;rw[byScan_of G M Bt];simp only[↓reduceIte];unfold setAddByScan;refine dP ?_;refine dP (ZA8 ?_);refine dP (wpAny_setScan_of F ho hd B Bt ?_);cases K:List.findIdx? (λe=>(g.gK prog w).is k e.2) es.toList with
 |some j=>
  dsimp only;obtain⟨hj,TM,_⟩:=List.findIdx?_eq_some_iff_getElem.mp K;have hk:S k=true:=(Bc k).mpr ⟨es.toList[j],KN hj,TM⟩;refine nW ?_;refine nW ?_;have q:=h s.heap (NH a s.heap) ⟨o,es,ep,t,ho,d,hd,Bt,λk'=>by
   rw[<- Bc k',Bool.or_eq_true,t6];exact⟨λz=>z.elim id λe=>e▸hk,Or.inl⟩,M,B,by rw[oM hk];exact y,Cd,An⟩
  rw[hk]at q;exact q
 |none=>
  dsimp only;have hk:S k=false:=by
   cases e:S k with
   |false=>rfl
   |true=>
    obtain⟨x,hx,hp⟩:=(Bc k).mp e;have q:=List.findIdx?_eq_none_iff.mp K x hx;rw[hp]at q;exact Bool.noConfusion q
  have p1:=layNew_perm t es ((g.gK prog w).hash k) (g.gM k tk);have f:=layNew_fits t es ((g.gK prog w).hash k) (g.gM k tk);have l1:=mi t es ((g.gK prog w).hash k) (g.gM k tk);have i:=g.SD es ((g.gK prog w).hash k) k tk An;generalize layNew t es ((g.gK prog w).hash k) (g.gM k tk)=L at p1 f l1 i ⊢;obtain⟨CL,t1,U,gv⟩:=L;dsimp only at p1 f l1 i ⊢;rw[ZGQ]at p1;have W:ElemsOf (g.gK prog w) CL.toList:=(Bt.push F G).perm p1;have Y:∀k',(S k' || decide (k'=k))=true↔∃e∈CL.toList,(g.gK prog w).is k' e.2=true:=mem_push_iff F Bc p1;have I:CL.size=n+1:=by rw[<- Cj,p1.length_eq,BI,Cj,y];rfl
  have O:CL.size<scanBound:=by rw[I];exact Lh
  have fin:∀(h':Heap)(o':Obj)(BP:Array (Int×Value))(Hy:Nat)(t':SetTable),Heap.SameBut a s.heap h'->h'.get? a=some o'->o'.ExactSet->o'.data=.set BP Hy t'->BP.toList.Perm CL.toList->t'.fits BP.size=true->t'.led=t.led->g.J9 t'->
    Q true { s with heap:=h' }:=by
   intro h' o' BP Hy t' V go T d' l ff σ X;have H:BP.size=n+1:=by rw[<- I,<- Cj,l.length_eq,Cj]
   have q:=h h' V ⟨o',BP,Hy,t',go,T,d',W.perm l,λk'=>(Y k').trans ⟨λ⟨e,C,q⟩=>⟨e,l.mem_iff.mpr C,q⟩,λ⟨e,C,q⟩=>⟨e,l.mem_iff.mp C,q⟩⟩,by rw[H];exact Lh,ff,by rw[hk];exact H,σ.trans Cd,g.Vq X⟩;rw[hk]at q;exact q
  have c:∀(t2:SetTable),t2.fits CL.size=true->t2.led=t.led->g.J9 t2->wpAny (model prog w) A (do
    storeSet a CL t2
    if(
      !U && t2.tooFull)=true then do
      (match(relayAll t2 CL (SetTable.grown CL.size)).2.2 with|true=>rule "set.scan.the-table-gave-way" |false=>pure ())
      storeSet a (relayAll t2 CL (SetTable.grown CL.size)).1 (relayAll t2 CL (SetTable.grown CL.size)).2.1
      pure (some true)
     else pure (some true)) (λr s'=>match r with|some b=>Q b s'|none=>False) E s:=by
   intro t2 f2 l2 IU;refine dP (x6 ho hd ?_ (xO O));have u:=JR ho hd CL t2;have P:=Hf s.heap a (Obj.putSet CL t2);split
   .have p3:=relayAll_perm t2 CL (SetTable.grown CL.size);have D:=relayAll_fits t2 CL (SetTable.grown CL.size);have v:=bS t2 CL (SetTable.grown CL.size);have m:=g.VT CL (SetTable.grown CL.size) IU;generalize relayAll t2 CL (SetTable.grown CL.size)=Rl at p3 D v m ⊢;obtain⟨LP,J,g3⟩:=Rl;dsimp only at p3 D v m ⊢;have R:LP.size=CL.size:=by rw[<- Cj,p3.length_eq,Cj]
    refine dP (N _ _ _ ?_);refine dP (x6 u rfl ?_ (xO (by rw[R];exact O)));refine nW ?_;exact fin _ _ LP _ J (P.trans (Hf _ a _)) (JR u rfl LP J) d rfl p3 D (v.1.trans l2) m
   .exact nW (fin _ _ CL _ t2 P u d rfl (IL _) f2 l2 IU)
  refine dP (N _ _ _ ?_);split
  .next bX=>
   refine dP ?_;rw[hashByValue_scannable 8 G];refine nW ?_;have p:=i.1;generalize plainKind (g.gM k tk)=b at p ⊢;cases b
   .refine sE (c { t1 with plain:=false } (SetTable.fits_plain_off f) l1 p) (λr s' q=>?_) λ_ _ e=>e
    cases r with
    |none=>exact q.elim
    |some b=>exact nW q
   .refine sE (c t1 f l1 p) (λr s' q=>?_) λ_ _ e=>e;cases r with
    |none=>exact q.elim
    |some b=>exact nW q
  .next bX=>
   refine dP (nW ?_);simp only[↓reduceIte];refine sE (c t1 f l1 (i.2 (by simpa using bX))) (λr s' q=>?_) λ_ _ e=>e
   cases r with
   |none=>exact q.elim
   |some b=>exact nW q
end
theorem Uk{α:Type}:∀(l:List α)(i:Nat)(h:i<l.length),(l[i]::l.eraseIdx i).Perm l
 |_::_,0,_=>IL _
 |x::r,i+1,h=>(List.Perm.swap x (r[i]'(by simpa using h)) (r.eraseIdx i)).trans ((Uk r i (by simpa using h)).cons x)
theorem yE(nx:Nat->Nat):∀(n k:Nat)(l:List α)(out:Array α),l.length=n->(pickOrder.go nx n k l out).toList.Perm (out.toList++l):=by
 intro n
 induction n with
 |zero=>
  intro k l out b;rw[List.length_eq_zero_iff.mp b];unfold pickOrder.go;simp
 |succ n c=>
  intro k l out b;have a:nx k % l.length<l.length:=Zd _ (by omega);unfold pickOrder.go;rw[Au a];dsimp only;refine(c _ _ _ (by rw[ZGk a];omega)).trans ?_;rw[ZGQ,Bm];exact List.Perm.append_left _ (Uk l _ a)
theorem Rx(nx:Nat->Nat)(xs:Array α):(pickOrder nx xs).toList.Perm xs.toList:=by
 have q:=yE nx xs.size 0 xs.toList #[] (by simp)
 simpa[pickOrder]using q
theorem uC{a:Source}{Q:Nat->Shared->Prop}(b:n≠0)(h:∀k d,k<n->Q k { s with drawn:=d }):wpAny (model prog w) A (choose a n) Q E s:=by
 intro Γ p hΓ;show Sem.wp _ _ (.choose a n .pure) _ _ _ _;rw[Sem.wp_choose];refine⟨b,?_⟩;rw[Sem.wp_pure];exact h _ _ (Zd _ (Nat.pos_of_ne_zero b))
theorem z6:∀(n:Nat)(xs:List α)(s:Shared)(Q:List α->Shared->Prop),xs.length<=n->(∀ys d,ys.Perm xs->Q ys { s with drawn:=d })->wpAny (model prog w) A (drawOrder n xs) Q E s:=by
 intro n
 induction n with
 |zero=>
  intro xs s Q a h;rw[List.length_eq_zero_iff.mp (Nat.le_zero.mp a)]at h ⊢;exact nW (h [] s.drawn (IL _))
 |succ n b=>
  intro xs s Q a h;cases xs with
  |nil=>exact nW (h [] s.drawn (IL _))
  |cons x r=>
   unfold drawOrder;refine dP (uC (by simp) λk d hk=>?_);rw[Au hk];dsimp only;refine dP (b _ _ _ (by rw[ZGk hk];simp only[BJ]at a ⊢;omega) λys d' c=>?_);exact nW (h _ d' ((c.cons _).trans (Uk (x::r) _ hk)))
theorem yY{Q:Bool->Shared->Prop}(ho:s.heap.get? a=some o)(hd:o.data=.set es ep t)(b:t.fits es.size=true)
  (h:Q (!BY w && (!t.plain && decide (es.size > 1))) s):wpAny (model prog w) A (setDrawn a) Q E s:=by
 unfold setDrawn;refine dP (rX ho hd b ?_);dsimp only;unfold setsByText;refine dP (dP (u9 (nW ?_)));exact nW h
theorem eD{Q:Option (Value×Nat)->Shared->Prop}(d:BY w=true)(ho:s.heap.get? a=some o)(hd:o.data=.set es ep t)(b:t.fits es.size=true)
  (h:Q (((pickOrder (w.params.setOrder a ep) es)[i]?).map λe=>(e.2,sl)) s):wpAny (model prog w) A (setNext a sl i ep) Q E s:=by
 have c:w.params.followText "set-order"=true:=d;unfold setNext;refine dP (rX ho hd b ?_);dsimp only;unfold setsByText;refine dP (dP (u9 (nW ?_)));show wpAny _ _ (if w.params.followText "set-order"=true then _ else _) _ _ _
 rw[oM c,nr (by simp)];refine dP ?_;unfold setWalk setsByText;refine dP (rX ho hd b ?_);dsimp only;refine dP (dP (u9 (nW ?_)));show wpAny _ _ (if w.params.followText "set-order"=true then _ else _) _ _ _
 rw[oM c];exact dP (u9 (nW (nW h)))
theorem kh{Q:Option (Value×Nat)->Shared->Prop}(d:BY w=false)(ho:s.heap.get? a=some o)(hd:o.data=.set es ep t)(c:t.fits es.size=true)
  (h1:es.size<=1) (b:t.led=true)
  (h:Q (match es[SetTable.below t.place sl]?,t.place[SetTable.below t.place sl]? with|some (_,x),some j=>some (x,j+1)|_,_=>none) s):wpAny (model prog w) A (setNext a sl i ep) Q E s:=by
 have e:w.params.followText "set-order"=false:=d;unfold setNext;refine dP (rX ho hd c ?_);dsimp only;unfold setsByText;refine dP (dP (u9 (nW ?_)));show wpAny _ _ (if w.params.followText "set-order"=true then _ else _) _ _ _
 rw[nr (by rw[e];decide)];show wpAny _ _ (if(!t.plain && decide (es.size > 1))=true then _ else _) _ _ _
 rw[nr (by rw[sX (by omega)];simp)];refine dP (m:=_) ?_
 wp_delta
 rw[b];exact nW (nW h)
theorem ZDH{Q:Value->Shared->Prop}(ho:s.heap.get? a=some o)(hd:o.data=.set es ep t)(b:t.fits es.size=true)(c:es[pl]?=some e)
  (h:Q e.2 s):wpAny (model prog w) A (setNextDrawn a pl ep) Q E s:=by
 unfold setNextDrawn;refine dP (rX ho hd b ?_);dsimp only;rw[nr (by simp),c];exact nW h
theorem gY:Manifest.owners.lookup (String.ofList ['r','o','t','a','r','e','t','i','_','t','e','s'].reverse)=some Manifest.sig_set_iterator:=by kernel_rfl
theorem HW:Slot "set_iterator" "__next__" "set_iterator.__next__" :=
 .of (owner:="set_iterator") (n:="__next__") (by rw[ZBR,ZAo];kernel_rfl) (by decide +kernel) (by decide +kernel) (by decide +kernel)
  (by first|exact .inl (by decide +kernel)|exact .inr (by decide +kernel)) (by rw[yC];kernel_rfl)
theorem RM:entryFor table "set_iterator.__next__"=some Builtin.«set_iterator.__next__»:=entryFor_of_tree (by kernel_rfl)
theorem TB(a:Value):argsOk "set_iterator.__next__" ⟨[a],[]⟩:=by
 unfold argsOk;rw[signature?_of (id:="set_iterator.__next__") (n:=['_','_','t','x','e','n','_','_']) (o:=['r','o','t','a','r','e','t','i','_','t','e','s']) (by kernel_rfl) gY];kernel_rfl
theorem kr:Slot "set_iterator" "__iter__" "set_iterator.__iter__" :=
 .of (owner:="set_iterator") (n:="__iter__") (by rw[ZBR,ZAo];kernel_rfl) (by decide +kernel) (by decide +kernel) (by decide +kernel)
  (by first|exact .inl (by decide +kernel)|exact .inr (by decide +kernel)) (by rw[yC];kernel_rfl)
theorem ZFR(a:Value):argsOk "set_iterator.__iter__" ⟨[a],[]⟩:=by
 unfold argsOk;rw[signature?_of (id:="set_iterator.__iter__") (n:=['_','_','r','e','t','i','_','_']) (o:=['r','o','t','a','r','e','t','i','_','t','e','s']) (by kernel_rfl) gY];kernel_rfl
theorem wz:entryFor table "set_iterator.__iter__"=some Builtin.«dict_keyiterator.__iter__»:=
 ZBh (id' := "dict_keyiterator.__iter__") (by kernel_rfl) (by first|rfl|decide +kernel|(unfold String.splitOn;simp +decide [String.splitOnAux])) (by decide +kernel) (by kernel_rfl)
theorem oE:entryFor table "set.__iter__"=some Builtin.«frozenset.__iter__»:=
 ZBh (id' := "frozenset.__iter__") (by kernel_rfl) (by first|rfl|decide +kernel|(unfold String.splitOn;simp +decide [String.splitOnAux])) (by decide +kernel) (by kernel_rfl)
theorem ES.typeIs(x:ES s.heap I f i S n ep):s.TypeIs (.ref I) "set_iterator" := let ⟨o,ho,hc,_⟩:=x;⟨o,ho,hc⟩
theorem ES.at(x:ES h I f i S n ep)(e:∀o,h.get? I=some o->h'.get? I=some o):ES h' I f i S n ep:=let ⟨o,ho,r⟩:=x;⟨o,e _ ho,r⟩
theorem jz{Q:α->Shared->Prop}{F:Value->Shared->Prop}(hh:A.handled=none)
  (hF:∀e h',(∀b o,s.heap.get? b=some o->h'.get? b=some o)->(Shared.TypeIs { s with heap:=h' } e "StopIteration")->F e { s with heap:=h' }) :
  wpAny (model prog w) A (newExc (.type "StopIteration") [] >>= λe=>raiseNew e) Q F s:=by
 refine dP ?_;simp only[newExc,newTuple];refine dP (t8 ?_ (by size_fits));refine dP (m:=firstArgMember _ _) (w8 (a:=Value.none) (by first|rfl|(simp only[firstArgMember];rfl)) ?_)
 refine t8 ?_ (by size_fits);simp only[raiseNew];refine dP (wpAny_handled ?_);rw[hh];refine dP (nW (wpAny_throw ?_));exact hF _ _ (λb o e=>Ao _ (Ao _ e)) ⟨_,BQ _ rfl,rfl⟩
theorem YG{nx:Nat}(b:ES s.heap it (rawInt (sl:Int)) i S n ep)
  (ho:s.heap.get? S=some o) (hd:o.data=.set es ep t) (f:t.fits es.size=true) (e:es.size=n)
  (Xb:∀(A1:Around)(E1:Value->Shared->Prop)(Q1:Option (Value×Nat)->Shared->Prop),Q1 (some (x,nx)) s->wpAny (model prog w) A1 (setNext S sl i ep) Q1 E1 s)
  (h:∀h',ES h' it (rawInt (nx:Int)) (i+1) S n ep->Heap.SameBut it s.heap h'->Q (some x) { s with heap:=h' }):wpAny (model prog w) A (pyNext (.ref it)) Q E s:=by
 obtain⟨j,Fc,g,ER⟩:=id b;subst e;unfold pyNext;refine dP (ZAF (vD (name:=Str.ofString "__next__") b.typeIs HW
  (uT HW b.typeIs RM ?_ (TB _))))
 unfold Builtin.«set_iterator.__next__»;refine dP (w8 (a:=(Value.ref it,[])) rfl ?_)
 try dsimp only
 refine dP (ZAv Fc ER ?_);show wpAny _ _ (setEntries S >>= _) _ _ s;refine dP (xU ho hd f ?_);rw[nr (by simp)];show wpAny _ _ (setNext S sl i ep >>= _) _ _ s;refine dP (Xb _ _ _ ?_);dsimp only;refine dP (xv Fc ER (by simp[IZ]) ?_);have d:=Hg (λob=>Obj.mapFields (·.setIfInBounds 0 (rawInt (nx:Int))) ob) Fc (Pp (IS ER _))
 have c:=IS ER (·.setIfInBounds 0 (rawInt (nx:Int)))
 refine dP (xv (s:={ s with heap:=_ }) d c (by simp[IZ]) ?_)
 refine nW ⟨x,rfl,nW (h _ ⟨_,Hg _ d (Pp (IS c _)),?_,?_⟩ ((Hf ..).trans (Hf ..)))⟩
 .exact(Zh ..).trans ((Zh ..).trans g)
 .rw[IS c];simp[IZ]
theorem Tz(hh:A.handled=none)(c:ES s.heap it (rawInt (sl:Int)) i S n ep)
  (ho:s.heap.get? S=some o) (hd:o.data=.set es ep t) (f:t.fits es.size=true) (d:es.size=n)
  (Xb:∀(A1:Around)(E1:Value->Shared->Prop)(Q1:Option (Value×Nat)->Shared->Prop),Q1 none s->wpAny (model prog w) A1 (setNext S sl i ep) Q1 E1 s)
  (j:∀h',Heap.ExtBut it s.heap h'->Q none { s with heap:=h' }):wpAny (model prog w) A (pyNext (.ref it)) Q E s:=by
 obtain⟨l,Fc,m,ER⟩:=id c;subst d;unfold pyNext;refine dP (ZAF (vD (name:=Str.ofString "__next__") c.typeIs HW
  (uT HW c.typeIs RM ?_ (TB _))))
 unfold Builtin.«set_iterator.__next__»;refine dP (w8 (a:=(Value.ref it,[])) rfl ?_)
 try dsimp only
 refine dP (ZAv Fc ER ?_);show wpAny _ _ (setEntries S >>= _) _ _ s;refine dP (xU ho hd f ?_);rw[nr (by simp)];show wpAny _ _ (setNext S sl i ep >>= _) _ _ s;refine dP (Xb _ _ _ ?_);dsimp only;refine dP (xv Fc ER (by simp[IZ]) ?_);refine jz (A:=A.in1) hh λe h' k h=>?_;refine dP (zi (T:="StopIteration") (b:=true) h isSubtype_stop ?_);refine nW (j _ (λb ob g e=>?_));exact k b ob ((Fe _ _ (Az g)).trans e)
theorem wC{T:Addr}(b:ES s.heap it (.ref T) i S n ep)
  (ho:s.heap.get? S=some o) (hd:o.data=.set es ep t) (c:t.fits es.size=true) (f:es.size=n) (j:s.heap.get? T=some oT) (Ez:oT.data=.seq ps nT) (d:ps[i]?=some (rawInt (pl:Int))) (g:es[pl]?=some e)
  (k:∀h',ES h' it (.ref T) (i+1) S n ep->Heap.SameBut it s.heap h'->Q (some e.2) { s with heap:=h' }):wpAny (model prog w) A (pyNext (.ref it)) Q E s:=by
 obtain⟨l,Fc,h,ER⟩:=id b;subst f;unfold pyNext;refine dP (ZAF (vD (name:=Str.ofString "__next__") b.typeIs HW
  (uT HW b.typeIs RM ?_ (TB _))))
 unfold Builtin.«set_iterator.__next__»;refine dP (w8 (a:=(Value.ref it,[])) rfl ?_)
 try dsimp only
 refine dP (ZAv Fc ER ?_);show wpAny _ _ (setEntries S >>= _) _ _ s;refine dP (xU ho hd c ?_);rw[nr (by simp)];show wpAny _ _ (seqItems? (.ref T) >>= _) _ _ s;refine dP ?_;unfold seqItems?;refine dP (ZBJ j ?_);rw[Ez];refine nW ?_;show wpAny _ _ (match ps[i]? with|some (.int place _)=>_|some _=>_|none=>_) _ _ s
 rw[d];show wpAny _ _ (setNextDrawn S pl ep >>= _) _ _ s;refine dP (ZDH ho hd c g ?_);refine dP (xv Fc ER (by simp[IZ]) ?_);refine nW ⟨e.2,rfl,nW (k _ ⟨_,Hg _ Fc (Pp (IS ER _)),?_,?_⟩ (Hf ..))⟩
 .exact(Zh ..).trans h
 .rw[IS ER];simp[IZ]
theorem yI{T:Addr}(hh:A.handled=none)(c:ES s.heap it (.ref T) i S n ep)
  (ho:s.heap.get? S=some o) (hd:o.data=.set es ep t) (l:t.fits es.size=true) (j:es.size=n) (d:s.heap.get? T=some oT) (Ez:oT.data=.seq ps nT) (h:ps[i]?=none)
  (m:∀h',Heap.ExtBut it s.heap h'->Q none { s with heap:=h' }):wpAny (model prog w) A (pyNext (.ref it)) Q E s:=by
 obtain⟨q,Fc,r,ER⟩:=id c;subst j;unfold pyNext;refine dP (ZAF (vD (name:=Str.ofString "__next__") c.typeIs HW
  (uT HW c.typeIs RM ?_ (TB _))))
 unfold Builtin.«set_iterator.__next__»;refine dP (w8 (a:=(Value.ref it,[])) rfl ?_)
 try dsimp only
 refine dP (ZAv Fc ER ?_);show wpAny _ _ (setEntries S >>= _) _ _ s;refine dP (xU ho hd l ?_);rw[nr (by simp)];show wpAny _ _ (seqItems? (.ref T) >>= _) _ _ s;refine dP ?_;unfold seqItems?;refine dP (ZBJ d ?_);rw[Ez];refine nW ?_;show wpAny _ _ (match ps[i]? with|some (.int place _)=>_|some _=>_|none=>_) _ _ s
 rw[h];dsimp only;refine dP (xv Fc ER (by simp[IZ]) ?_);have g:=Hg (λob=>Obj.mapFields (·.setIfInBounds 0 (rawInt 0)) ob) Fc (Pp (IS ER _))
 have p:=IS ER (·.setIfInBounds 0 (rawInt 0))
 refine dP (xv (s:={ s with heap:=_ }) g p (by simp[IZ]) ?_)
 refine jz (A:=A.in1) hh λe h' k d=>?_;refine dP (zi (T:="StopIteration") (b:=true) d isSubtype_stop ?_);refine nW (m _ (λb ob f e=>?_));exact k b ob ((Fe _ _ (Az f)).trans ((Fe _ _ (Az f)).trans e))
theorem TL{Q:Value->Shared->Prop}(a:ES s.heap it f i S n ep)(h:Q (.ref it) s):wpAny (model prog w) A (pyIter (.ref it)) Q E s:=by
 refine wpAny_pyIter_slot a.typeIs kr (uT kr a.typeIs wz ?_ (ZFR _));show wpAny _ _ (ret (.ref it)) _ _ s;exact nW ⟨_,rfl, "set_iterator", _,a.typeIs,HW.lookup,h⟩
theorem z5(a:BY w=true)(hh:A.handled=none)(I S:Addr)(Ab:S≠I)(hd:o.data=.set es ep t)(d:t.fits es.size=true):
  Walks prog w A I [I,S] [I] es.size (λi v=>((pickOrder (w.params.setOrder S ep) es).toList.map (·.2))[i]?=some v) (λi h=>ES h I (rawInt ((0:Nat):Int)) i S es.size ep/\h.get? S=some o) where
 sub:=λb a=>by simp at a;simp[a]
 frame:=λ_ _ _ x hk=>⟨x.1.at λo e=>hk I (by simp) o e,hk S (by simp) _ x.2⟩
 item:=λi s Q E hi x c=>by
  have k:(pickOrder (w.params.setOrder S ep) es).size=es.size:=by
   have q:=(Rx (w.params.setOrder S ep) es).length_eq
   simpa using q
  have j:i<(pickOrder (w.params.setOrder S ep) es).size:=by omega
  refine YG (x:=((pickOrder (w.params.setOrder S ep) es)[i]).2) (nx:=0) x.1 x.2 hd d rfl (λA1 E1 Q1 q=>eD a x.2 hd d (by rw[IK j];exact q)) λh' LQ g=>?_;exact c _ h' s.toks (by rw[Ah,TU,IK j];rfl) ⟨LQ,g.extBut S o Ab x.2⟩ λb ob a f=>g.extBut b ob (λh=>a (by simp[h])) f
 done:=λs Q E x c=>by
  have k:(pickOrder (w.params.setOrder S ep) es).size=es.size:=by
   have q:=(Rx (w.params.setOrder S ep) es).length_eq
   simpa using q
  refine Tz hh x.1 x.2 hd d rfl (λA1 E1 Q1 q=>eD a x.2 hd d (by rw[ZI (by omega)];exact q)) λh' l=>?_;exact c h' s.toks λb ob a f=>l b ob (λh=>a (by simp[h])) f
 self:=λ_ _ _ _ x c=>TL x.1 c
theorem Vf:∀(a:Array α),a.size=1->∃x,a=#[x]
 | ⟨[x]⟩,_=>⟨x,rfl⟩
 | ⟨[]⟩,h=>by simp at h
 | ⟨_::_::_⟩,h=>by simp at h
theorem vP(p:Nat):SetTable.below #[p] 0=0:=by simp[SetTable.below,SetTable.below.go]
theorem below_1(p:Nat):SetTable.below #[p] (p+1)=1:=by simp[SetTable.below,SetTable.below.go]
theorem P7(h:t.fits n=true):t.place.size=n:=by
 simp only[SetTable.fits,C7,ZAM]at h;exact h.1
theorem ZBi(a:BY w=false)(hh:A.handled=none)(I S:Addr)(Ab:S≠I)(hd:o.data=.set es ep t)(c:t.fits es.size=true)(h1:es.size<=1)(n:t.led=true):
  Walks prog w A I [I,S] [I] es.size (λi v=>(es.toList.map (·.2))[i]?=some v) (λi h=>ES h I (rawInt (((if i=0 then 0 else t.place.getD 0 0+1:Nat)):Int)) i S es.size ep/\h.get? S=some o) where
 sub:=λb a=>by simp at a;simp[a]
 frame:=λ_ _ _ x hk=>⟨x.1.at λo e=>hk I (by simp) o e,hk S (by simp) _ x.2⟩
 item:=λi s Q E hi x d=>by
  obtain rfl:i=0:=by omega
  have z:es.size=1:=by omega
  have g:t.place.size=1:=(P7 c).trans z;obtain⟨e,rfl⟩:=Vf es z;obtain⟨p,f⟩:=Vf t.place g;have k:=x.1;refine YG (x:=e.2) (nx:=p+1) k x.2 hd c rfl (λA1 E1 Q1 q=>kh a x.2 hd c h1 n (by rw[f,oM rfl,vP];exact q)) λh' LQ m=>?_;refine d _ h' s.toks rfl ⟨?_,m.extBut S o Ab x.2⟩ λb ob a l=>m.extBut b ob (λh=>a (by simp[h])) l;rw[nr (by omega),f];exact LQ
 done:=λs Q E x d=>by
  refine Tz hh x.1 x.2 hd c rfl (λA1 E1 Q1 q=>kh a x.2 hd c h1 n ?_) λh' u=>?_
  .by_cases z:es.size=0
   .rw[ZI (by omega)];exact q
   .have r:es.size=1:=by omega
    have g:t.place.size=1:=(P7 c).trans r;obtain⟨p,f⟩:=Vf t.place g;rw[nr z,f];show Q1 (match es[SetTable.below #[p] (p+1)]?,(#[p]:Array Nat)[SetTable.below #[p] (p+1)]? with|some (_,x),some j=>some (x,j+1)|_,_=>none) s
    rw[below_1,ZI (by omega)];exact q
  .exact d h' s.toks λb ob a l=>u b ob (λh=>a (by simp[h])) l
 self:=λ_ _ _ _ x d=>TL x.1 d
theorem ZBu(hh:A.handled=none)(I S T:Addr)(Ab:S≠I)(n:T≠I)(hd:o.data=.set es ep t)(k:t.fits es.size=true){ps:List Nat}(f:ps.Perm (List.range es.size))(m:oT.data=.seq (ps.map λi:Nat=>rawInt i).toArray nT):
  Walks prog w A I [I,S,T] [I] es.size (λi v=>(ps.map λp=>(es[p]?.map (·.2)).getD .none)[i]?=some v) (λi h=>ES h I (.ref T) i S es.size ep/\h.get? S=some o/\h.get? T=some oT) where
 sub:=λb a=>by simp at a;simp[a]
 frame:=λ_ _ _ x hk=>⟨x.1.at λo e=>hk I (by simp) o e,hk S (by simp) _ x.2.1,hk T (by simp) _ x.2.2⟩
 item:=λi s Q E hi x c=>by
  have u:ps.length=es.size:=by have q:=f.length_eq;simpa using q
  have j:i<ps.length:=by omega
  have r:ps[i]<es.size:=by
   have q:=f.mem_iff.mp (KN j)
   simpa using q
  have l:es[ps[i]]?=some es[ps[i]]:=IK r;refine wC (pl:=ps[i]) (e:=es[ps[i]]) x.1 x.2.1 hd k rfl x.2.2 m (by rw[ZGf,Ah,Au j];rfl) l λh' LQ d=>?_;exact c _ h' s.toks (by rw[Ah,Au j];simp only[Ln,l,ZH1]) ⟨LQ,d.extBut S o Ab x.2.1,d.extBut T oT n x.2.2⟩ λb ob a g=>d.extBut b ob (λh=>a (by simp[h])) g
 done:=λs Q E x c=>by
  have u:ps.length=es.size:=by have q:=f.length_eq;simpa using q
  refine yI hh x.1 x.2.1 hd k rfl x.2.2 m (by rw[ZGf,Ah,Td (by omega)];rfl) λh' y=>?_;exact c h' s.toks λb ob a g=>y b ob (λh=>a (by simp[h])) g
 self:=λ_ _ _ _ x c=>TL x.1 c
theorem rN(es:Array (Int×Value)):(List.range es.size).map (λp=>(es[p]?.map (·.2)).getD Value.none)=es.toList.map (·.2):=by
 refine ZP (by simp) λi h1 h2=>?_;have hi:i<es.size:=by simpa using h1
 simp[IK hi]
theorem iq:∀{ss:List Str}{us:List Value},Vals (ss.map V.str) us->StrsAre us ss
 | [],_,.nil=>.nil
 |x::r,_,.cons ⟨t,e⟩ h=>by rw[e];exact .cons x t (iq h)
theorem kW:∀{ss:List Str}{us:List Value},StrsAre us ss->Vals (ss.map V.str) us
 |_,_,.nil=>.nil
 |_,_,.cons x t h=>.cons ⟨t,rfl⟩ (kW h)
noncomputable def sT:GS Str where
 sV:=.str
 M6:=λss=>sortedS ss=true
 Wh:=λho b DV h=>by
  have a:=iq b;refine list_sort_treeK strKind_oneLt ho a.keysOf (λi g rest e=>keyKind_strs (by rw[<- e];exact a)) DV λFm a1 a2=>?_;obtain⟨A5,f,d,c⟩:=sorted_out_str a a1 a2;exact h _ A5 (kW f) d c
noncomputable def gT:GK sT where
 gM:=.str
 TC:=id
 UH:=λ_ t=>⟨t,rfl⟩
 gK:=PySem.strKind
 Pz:=ma
 Vd:=Lq
 Xy:=λ_ _=>rfl
 Ld:=λn t=>0<n->t.plain=false
 J9:=λt=>t.plain=false
 gZ:=λ_ z=>absurd z (Lm 0)
 Vq:=λh _=>h
 SD:=λ_ _ _ _ _=>⟨rfl,id⟩
 VT:=λes n h=>(bS _ es n).2 h
 W0:=λ{p w}e I S Ab{o es ep t}hd d h1 c ho=>by
  have h2:es.size<=1:=by
   by_cases z:es.size<=1
   .exact z
   .rw[ho (by omega),oW (by omega:es.size > 1)]at h1;exact absurd h1 (by decide)
  exact⟨_,λA hh=>ZBi e hh I S Ab hd d h2 c,λh a b=>⟨a,b⟩⟩
abbrev B4:=Ce gT
theorem qZ[DecidableEq α]{Z:GS α}{g:GK Z}{l:List (Int×Value)}(h:ElemsOf (g.gK prog w) l):∃ts:List α,Vals (ts.map Z.sV) (l.map (·.2))/\∀k,k∈ts↔∃e∈l,(g.gK prog w).is k e.2=true:=by
 induction l with
 |nil=>exact⟨[],.nil,λk=>by simp⟩
 |cons e r a=>
  obtain⟨ts,h1,h2⟩:=a h.tail;obtain⟨⟨k,hk,_⟩,_⟩:=h.head;obtain⟨tk,b⟩:=g.Vd hk;refine⟨k::ts,?_,λk'=>?_⟩
  .rw[D4,D4,b];exact .cons (g.UH k tk) h1
  .rw[Ec,h2 k'];constructor
   .rintro(rfl|⟨x,hx,q⟩)
    .exact⟨e,B1,hk⟩
    .exact⟨x,BM _ hx,q⟩
   .rintro⟨x,hx,q⟩;rcases List.mem_cons.mp hx with rfl|hx
    .exact .inl ((g.gK prog w).inj x.2 k' k q hk)
    .exact .inr ⟨x,hx,q⟩
theorem vY{f:α->V}{Bx:List Value}(p:Bx.Perm vs):∀{ts:List α},Vals (ts.map f) vs->∃c:List α,Vals (c.map f) Bx/\c.Perm ts:=by
 induction p with
 |nil=>exact λh=>⟨_,h,.refl _⟩
 |cons x p d=>
  intro ts h;cases ts with
  |nil=>cases h
  |cons t r=>
   cases h with
   |cons a b=>
    obtain⟨q,h1,h2⟩:=d b;exact⟨t::q,.cons a h1,h2.cons t⟩
 |swap x y l=>
  intro ts h;rcases ts with _|⟨a,_|⟨b,r⟩⟩
  .cases h
  .cases h with|cons _ h=>cases h
  .cases h with
   |cons a1 h=>
    cases h with
    |cons i h=>exact⟨b::a::r,.cons i (.cons a1 h),.swap ..⟩
 |trans p q KR Kf=>
  intro ts h;obtain⟨u,h1,h2⟩:=Kf h;obtain⟨v,g,e⟩:=KR h1;exact⟨v,g,e.trans h2⟩
theorem pI:typeLookup (.type "set") "__len__"=pure (some (.builtin "set.__len__")):=by rw[ZBR,ZAo];kernel_rfl
section
variable[DecidableEq α]{Z:GS α}{g:GK Z}
theorem ZBA{f:α->Bool}{Q:Value->Shared->Prop}(J:Ce g prog w s.heap S f n)
  (h:∀(I:Addr)(h1:Heap)(d:_)(fp:List Addr)(vs:List Value)(ts:List α)(St:Nat->Heap->Prop),(∀A2:Around,A2.handled=none->Walks prog w A2 I fp [I] n (λi v=>vs[i]?=some v) St)->St 0 h1->(∀b∈fp,b=S∨s.heap.objs.size<=b/\b<h1.objs.size)->s.heap.objs.size<=I->s.heap.objs.size<=h1.objs.size->
   (∀b o,s.heap.get? b=some o->h1.get? b=some o)->Vals (ts.map Z.sV) vs->ts.length=n->(∀k,f k=true↔k∈ts)->Q (.ref I) { s with heap:=h1,drawn:=d }):wpAny (model prog w) A (pyIter (.ref S)) Q E s:=by
 obtain⟨o,es,ep,t,ho,r,hd,Bt,Bc,H,c,G,Cd,An⟩:=J;subst G;have y:s.TypeIs (.ref S) "set" := ⟨o,ho,r.1⟩;have u:S<s.heap.objs.size:=AY ho;obtain⟨C,t1,t2⟩:=qZ Bt;have fin:∀(I:Addr)(h1:Heap)(d:_)(fp:List Addr)(vs:List Value)(St:Nat->Heap->Prop),(∀A2:Around,A2.handled=none->Walks prog w A2 I fp [I] es.size (λi v=>vs[i]?=some v) St)->St 0 h1->(∀b∈fp,b=S∨s.heap.objs.size<=b/\b<h1.objs.size)->s.heap.objs.size<=I->s.heap.objs.size<=h1.objs.size->
   (∀b o,s.heap.get? b=some o->h1.get? b=some o)->vs.Perm (es.toList.map (·.2))->Q (.ref I) { s with heap:=h1,drawn:=d }:=by
  intro I h1 d fp vs St a1 a2 O N M L K;obtain⟨ts,D,x⟩:=vY K t1;refine h I h1 d fp vs ts St a1 a2 O N M L D ?_ λk=>?_
  .exact x.length_eq.trans (by simpa using t1.length)
  .rw[Bc k,<- t2 k];exact x.mem_iff.symm
 refine wpAny_pyIter_slot y F.slot_set_iter (uT F.slot_set_iter y oE ?_ (F.args_set_iter_1 _));unfold Builtin.«frozenset.__iter__»;refine dP (w8 (a:=S) rfl ?_);refine dP ?_;unfold Builtin.Frozenset.sizeOf;refine dP (xU ho hd c (nW ?_));refine dP (yY ho hd c ?_)
 by_cases l:(!BY w && (!t.plain && decide (es.size > 1)))=true
 .rw[oM l];refine dP ?_;refine z6 es.size (List.range es.size) _ _ (by rw[Ep];exact Aa _) λps d p=>?_;have pz:(ps.map λi:Nat=>rawInt i).length<=sizeLine:=by rw[AG,p.length_eq,Ep];exact xO H
  refine dP (wpAny_newTuple ?_ pz);dsimp only;refine dP (zf (s:={ s with heap:=_,drawn:=d }) (Ao _ ho) hd c ?_)
  refine dP (t8 ?_);have g0:∀(q:Obj)(b:Addr)(ob:Obj),s.heap.get? b=some ob->((s.heap.push (seqObj "tuple" (ps.map λi:Nat=>rawInt i).toArray 0)).push q).get? b=some ob:=λq b ob e=>Ao _ (Ao _ e);have j:(s.heap.push (seqObj "tuple" (ps.map λi:Nat=>rawInt i).toArray 0)).objs.size=s.heap.objs.size+1:=Du ..;refine nW ⟨_,rfl, "set_iterator", _,⟨_,BQ _ rfl,rfl⟩,HW.lookup,?_⟩;refine fin _ _ d [(s.heap.push (seqObj "tuple" (ps.map λi:Nat=>rawInt i).toArray 0)).objs.size,S,s.heap.objs.size] _ _ (λA2 hh=>ZBu hh _ S s.heap.objs.size (by rw[j];exact B7 (Hh u)) (by rw[j];exact B7 (NO _)) hd c p (oT:=seqObj "tuple" (ps.map λi:Nat=>rawInt i).toArray 0) rfl) ⟨⟨_,BQ _ rfl,rfl,rfl⟩,g0 _ _ _ ho,Ao _ (BQ _ rfl)⟩ ?_ (by show s.heap.objs.size<=(s.heap.push (seqObj "tuple" (ps.map λi:Nat=>rawInt i).toArray 0)).objs.size;rw[j];exact Dw _) ?_ (g0 _) ?_
  .intro b C4;simp only[Ec,BF,yp]at C4;rw[Du,j];rcases C4 with rfl|rfl|rfl
   .right;rw[j];exact⟨Dw _,NO _⟩
   .left;rfl
   .right;exact⟨Aa _,Hh (NO _)⟩
  .rw[Du,j];exact mO (Dw _)
  .rw[<- rN];exact p.map _
 .rw[nr l];refine dP (nW ?_);refine dP (zf ho hd c ?_);refine dP (t8 ?_);have g0:∀(q:Obj)(b:Addr)(ob:Obj),s.heap.get? b=some ob->(s.heap.push q).get? b=some ob:=λq b ob e=>Ao _ e;refine nW ⟨_,rfl, "set_iterator", _,⟨_,BQ _ rfl,rfl⟩,HW.lookup,?_⟩;have B:∀(q:Obj),∀b∈[s.heap.objs.size,S],b=S∨s.heap.objs.size<=b/\b<(s.heap.push q).objs.size:=by
   intro q b C4;simp only[Ec,BF,yp]at C4;rw[Du];rcases C4 with rfl|rfl
   .right;omega
   .left;rfl
  cases m:BY w with
  |true=>
   refine fin _ _ s.drawn [s.heap.objs.size,S] _ _ (λA2 hh=>z5 m hh _ S (B7 u) hd c) ⟨⟨_,BQ _ rfl,rfl,rfl⟩,g0 _ _ _ ho⟩ (B _) (Aa _) (by rw[Du];omega) (g0 _) ?_;exact(Rx _ _).map _
  |false=>
   have h1:(!t.plain && decide (es.size > 1))=false:=by
    rw[m]at l
    simpa using l
   obtain⟨St,W,z⟩:=g.W0 m s.heap.objs.size S (B7 u) hd c h1 (by rw[Cd,m];rfl) An;refine fin _ _ s.drawn [s.heap.objs.size,S] _ _ W (z _ ⟨_,BQ _ rfl,rfl,rfl⟩ (g0 _ _ _ ho)) (B _) (Aa _) (by rw[Du];omega) (g0 _) (IL _)
theorem ZBK{f:α->Bool}{Q:List Value->Shared->Prop}(hh:A.handled=none)(v:Ce g prog w s.heap S f n)(R:n<=sizeLine)
  (h:∀(s':Shared)(vs:List Value)(ts:List α),(∀b o,s.heap.get? b=some o->s'.heap.get? b=some o)->s.heap.objs.size<=s'.heap.objs.size->s'.gens=s.gens->s'.os=s.os->Vals (ts.map Z.sV) vs->ts.length=n->(∀k,f k=true↔k∈ts)->Q vs s') :
  wpAny (model prog w) A (collect (.ref S)) Q E s:=by
 have X:S<s.heap.objs.size:=by obtain⟨o,_,_,_,ho,_⟩:=v;exact AY ho
 have y:s.heap.objs.size≠S:=E9 X;unfold collect;refine dP (ZBb (yJ F.entry_proto_collect ?_));rw[TR F.plain_proto_collect _];show wpAny _ A.in1 (newList [] >>= λl=>again (.builtin "list.__iadd__" ⟨[l,.ref S],[]⟩)) _ _ s;refine dP (t8 ?_);refine nW ⟨ZB2 F.plain_list_iadd _,yJ F.entry_list_iadd ?_⟩;rw[TR F.plain_list_iadd _];generalize t:({ cls:=.type "list", data:=.seq ([]:List Value).toArray }:Obj)=so;have G:Ce g prog w (s.heap.push so) S f n:=v.keep λo e=>Ao _ e;have H:(s.heap.push so).get? s.heap.objs.size=some so:=BQ _ (by rw[<- t];rfl);have sz:(s.heap.push so).objs.size=s.heap.objs.size+1:=Du ..;have x:Shared.TypeIs { s with heap:=s.heap.push so } (.ref S) "set" := by obtain⟨o,_,_,_,ho,j,_⟩:=G;exact⟨o,ho,j.1⟩
 have h1:Builtin.List.listSameRef (.ref s.heap.objs.size) (.ref S)=false:=by simp[Builtin.List.listSameRef,y]
 show wpAny _ A.in1 (Builtin.List.listExtendWith (.ref s.heap.objs.size) (.ref S) (.ref s.heap.objs.size)) _ _ { s with heap:=s.heap.push so }
 unfold Builtin.List.listExtendWith;refine dP (zZ x ?_);rw[nr (by rw[h1];decide)];refine dP (ZBA (s:={ s with heap:=s.heap.push so }) G λI h2 d fp vs ts St W Uy RI U ZHl kp V3 tl N=>?_)
 have C:s.heap.objs.size∉fp:=λc=>by
  rcases RI _ c with z|⟨z,_⟩
  .exact y z
  .have M:(s.heap.push so).objs.size<=s.heap.objs.size:=z;rw[sz]at M;omega
 have p:Shared.TypeIs { s with heap:=h2,drawn:=d } (.ref S) "set" := by obtain⟨o,ho,T⟩:=x;exact⟨o,kp _ _ ho,T⟩
 refine dP (rG ?_);unfold Builtin.List.listLengthHint;refine dP (ZAa p pI ?_);generalize B:("set.__len__":String)=ni
 wp_delta
 rw[show splitId ni=some ("set","__len__")from by subst B;decide +kernel];subst B;refine dP (zi (b:=true) p (by rw[yC];kernel_rfl) ?_);rw[nr (by decide)];refine wpAny_ite_split (λ_=>?_) (λBu=>absurd (by decide +kernel) Bu);refine dP (zZ p ?_);refine nW ?_;refine wpAny_ite_split (λ_=>?_) (λBu=>absurd (by decide +kernel) Bu);refine dP (ZA8 ?_);refine dP ?_;show wpAny _ _ (updateSeq s.heap.objs.size (·.push .none) >>= λ_=>updateSeq s.heap.objs.size (·.pop)) _ _ _
 have L:(#[]:Array Value).size<=sizeLine:=CJ _;have q:((#[]:Array Value).push Value.none).size<=sizeLine:=by show 1<=sizeLine;decide
 have K:((#[]:Array Value).push Value.none).size<=sizeLine+1:=mO q;have J:(((#[]:Array Value).push Value.none).pop).size<=sizeLine+1:=CJ _;have u:=kp _ _ H;subst t;refine dP (ZBN (s:={ s with heap:=h2,drawn:=d }) u rfl ?_ L K)
 have r:=Hg (Obj.mapSeq (·.push Value.none)) u rfl
 refine ZBN r rfl ?_ q J;have O:=Hg (Obj.mapSeq (·.pop)) r rfl
 have D:∀b o,b≠s.heap.objs.size->h2.get? b=some o->((h2.update s.heap.objs.size (Obj.mapSeq (·.push Value.none))).update s.heap.objs.size (Obj.mapSeq (·.pop))).get? b=some o:=
  λb o a e=>(Fe _ _ (Az a)).trans ((Fe _ _ (Az a)).trans e)
 refine nW ⟨ZB2 PySem.F.plain_extend_loop _,codeAny_extend_loopS (W A.in1 hh).toS R _ C _ n 0 _ #[] _ rfl (CJ _) ?_ O (ItemsOf.nil _) λs' Sy c' c Hr Ea=>?_⟩
 .exact(W A.in1 hh).frame 0 h2 _ Uy λb a o e=>D b o (λz=>C (z▸a)) e
 .show wpAny _ A (load s.heap.objs.size >>= _) _ _ s';refine dP (ZBJ Hr ?_);have V:Sy.toList=vs:=by
   have P:vs.length=n:=V3.length.symm.trans ((AG ..).trans tl);refine ZQ λi=>?_
   by_cases hi:i<n
   .have h1:Sy[i]?=some (Sy[i]'(by rw[Ea.1];exact hi)):=IK _;rw[TU,h1];exact(Ea.2 i _ h1).symm
   .rw[Td (by rw[Cj,Ea.1];omega),Td (by omega)]
  refine nW ?_;rw[<- V]at V3;refine h s' Sy.toList ts (λb o e=>?_) (JF (AY Hr)) c.gens c.os V3 tl N;have a:b<s.heap.objs.size:=AY e;refine c.heap b o ?_ (D b o (B7 a) (kp b o (Ao _ e)));simp only[Ec,BF,yp,not_or];refine⟨B7 a,?_⟩;have m:s.heap.objs.size+1<=I:=by rw[<- sz];exact U
  exact B7 (CI a (Nat.le_of_succ_le m))
theorem B4.put{S:Str->Bool}{k:Str}{Q:Bool->Shared->Prop}(b:B4 prog w s.heap a S n)(Lh:n+1<scanBound)
  (h:∀h',Heap.SameBut a s.heap h'->B4 prog w h' a (λk'=>S k' || decide (k'=k)) (if S k then n else n+1)->Q (!S k) { s with heap:=h' }) :
  wpAny (model prog w) A (setAddHashed a (.str k tk) ((gT.gK prog w).hash k)) Q E s:=Ce.put (g:=gT) b Lh h
variable{R:Result->Shared->Prop}{wr:List Addr}{G:Array GenState->Array GenState->Prop}{P:Nat->Value->Prop}{St:Nat->Shared->Prop}{ss:List α}
theorem ZDJ(W:WalksS prog w A.in1 I fp wr G ss.length P St)(S:Addr)(LC:S∉fp)(XO:∀i v,P i v->∃(h:i<ss.length)(t:Tok),v=g.gM ss[i] t)(a:ss.length+1<scanBound):
  ∀(k i:Nat)(s:Shared),ss.length - i=k->i<=ss.length->St i s->Ce g prog w s.heap S (λk'=>(dd (ss.take i)).any (· == k')) (dd (ss.take i)).length->
   (∀s',Moved (S::wr) G s s'->Ce g prog w s'.heap S (λk'=>(dd ss).any (· == k')) (dd ss).length->R (.ok (.ret .none)) s')->
   codeAny (model prog w) A (.builtin "set.update.loop" ⟨[.ref S,.ref I],[]⟩) R s:=by
 have p:S∉wr:=λh=>LC (W.sub _ h);have n:∀{s s':Shared}{f:α->Bool}{m:Nat},Moved wr G s s'->Ce g prog w s.heap S f m->Ce g prog w s'.heap S f m:=λc d=>d.keep λo ho=>c.heap S _ p ho;intro k
 induction k with
 |zero=>
  intro i s hk hi CY d fin;have e:i=ss.length:=by omega
  subst e;refine yJ ZH3 ?_;rw[TR mS _];show wpAny _ A.in1 (pyNext (.ref I) >>= _) _ _ s;refine dP (W.done s _ _ CY λs' c=>?_);show wpAny _ A.in1 (ret Value.none) _ _ s';rw[Gw]at d;exact nW (fin s' (c.mono λb a=>BM _ a) (n c d))
 |succ k x=>
  intro i s hk hi CY d fin;have j:i<ss.length:=by omega
  refine yJ ZH3 ?_;rw[TR mS _];show wpAny _ A.in1 (pyNext (.ref I) >>= _) _ _ s;refine dP (W.item i s _ _ j CY λv s' y ZDh c=>?_);obtain⟨_,t,rfl⟩:=XO i v y;have B:=n c d;show wpAny _ A.in1 (holding [g.gM ss[i] t] (setAdd S (g.gM ss[i] t)) >>= _) _ _ s';refine dP (rG ?_);unfold setAdd;have q:(g.gK prog w).is ss[i] (g.gM ss[i] t)=true:=g.Pz prog w ss[i] t;refine rG (dP ((g.gK prog w).pyHash q ?_));have z:(dd (ss.take i)).length+1<scanBound:=by
   have:=Px (ss.take i);rw[Fg]at this;omega
  refine Ce.put (k:=ss[i]) (s:={ s' with toks:=s'.toks+1 }) B z λh' Jh Of=>?_
  have l:Ce g prog w h' S (λk'=>(dd (ss.take (i+1))).any (· == k')) (dd (ss.take (i+1))).length:=
   Of.congr (λk'=>by rw[cW ss i j,ZDe]) (by rw[cW ss i j,aS])
  refine nW ⟨ZB2 mS _,x (i+1) _ (by omega) j (W.frame _ s' _ _ ZDh (Dw _) λb a o e=>?_) l λLD u r=>?_⟩
  .rw[Jh.2 b (by rintro rfl;exact LC a)];exact e
  .refine fin LD (Moved.trans W.gtrans ((c.mono λb a=>BM _ a).then_heap (Dw _) λb o a e=>?_) u) r;rw[Jh.2 b (by rintro rfl;exact a B1)];exact e
theorem xq(a:Value)
  (h:Q₁ (.ref s.heap.objs.size) { s with heap:=s.heap.push { cls:=.type "set", dict:=none,data:=.set #[] 0 (.fresh 0 0 (!BY w)) } }) :
  codeAny (model prog w) A (.call (.builtin "set.__new__") ⟨[.type "set", a],[]⟩) (wants Q₁ E) s:=by
 refine ZBU ?_;show wpAny _ A.in1 (do checkBuiltinCall "set.__new__" ⟨[.type "set", a],[]⟩;again (.builtin "set.__new__" ⟨[.type "set", a],[]⟩)) _ _ s
 refine dP (w8 (PySem.F.newCall_set_1 a) ?_);refine nW ⟨ZB2 ZH4 _,yJ PySem.F.entry_set_new ?_⟩;rw[TR ZH4 _];unfold Builtin.«set.__new__» Builtin.Frozenset.newClass;have c:isSubtype (.type "set") (.type "set")=pure true:=by rw[yC];kernel_rfl
 obtain⟨b,g,d,tk,os⟩:=s;dsimp only
 wp_walk
 refine u9 (nW ?_);dsimp only;simp only[newObj];refine dP (ZBZ (nW ?_));exact nW h
theorem dS{l:Addr}{T:String}{od:Option Addr}{G3:Array (Option Value)}{Q:Value->Shared->Prop}(ho:s.heap.get? l=some { cls:=.type T,dict:=od,data:=.seq items nl,slots:=G3 })
  (hs1:isSubtype (.type T) (.type "set")=pure false) (Eo:isSubtype (.type T) (.type "frozenset")=pure false) (Ab:(Value.type T == Value.type "dict")=false) (hb:ss.length+1<scanBound)
  (hit:∀(s1:Shared)(A1:Around)(Q1:Value->Shared->Prop),A1.handled=A.handled->s1.heap.get? l=s.heap.get? l->l<s1.heap.objs.size->
   (∀ob St P,WalksS prog w A1.in1 s1.heap.objs.size [s1.heap.objs.size,l] [s1.heap.objs.size] (λa b=>b=a) ss.length P St->(∀i v,P i v->∃(h:i<ss.length)(t:Tok),v=g.gM ss[i] t)->St 0 { s1 with heap:=s1.heap.push ob }->Q1 (.ref s1.heap.objs.size) { s1 with heap:=s1.heap.push ob })->
   wpAny (model prog w) A1 (pyIter (.ref l)) Q1 E s1)
  (h:∀(h':Heap)(tk:Nat),Ce g prog w h' s.heap.objs.size (λk'=>(dd ss).any (· == k')) (dd ss).length->(∀b o,b<s.heap.objs.size->s.heap.get? b=some o->h'.get? b=some o)->Q (.ref s.heap.objs.size) { s with heap:=h',toks:=tk }) :
  wpAny (model prog w) A (call (.type "set") [.ref l]) Q E s:=by
 have y:l<s.heap.objs.size:=AY ho;obtain⟨c,tl,ZHg⟩:=PySem.F.called_set.mro;have O:=PySem.F.called_set.made;have U:=PySem.F.called_set.sub;refine ZAJ (ZBU (by
  show wpAny _ _ (callAny (.type "set") _) _ _ _;refine nW ⟨ZL _ (by decide +kernel),yJ PySem.F.entry_type_call ?_⟩;rw[Around.under_plain (weight_type_call_type "set" [.ref l] []) rfl];have h1:=PySem.F.called_set.notType;have h2:=PySem.F.called_set.canCreate;have D:=PySem.F.typeCall_set_1 (.ref l)
  repeat (any_goals (first|assumption|wp_step))
  refine ZAD (xq (.ref l) (E:=E) (Q₁:=λobj s₁=>obj=.ref s.heap.objs.size/\s₁={ s with heap:=s.heap.push { cls:=.type "set", dict:=none,data:=.set #[] 0 (.fresh 0 0 (!BY w)) } }) ⟨rfl,rfl⟩) λr s₁ m=>?_
  cases r with
  |error e=>exact m
  |ok I=>
   cases I with
   |ret obj=>
    obtain⟨rfl,rfl⟩:=m;generalize q:({ cls:=.type "set", dict:=none,data:=.set #[] 0 (.fresh 0 0 (!BY w)) }:Obj)=so;have hsz:(s.heap.push so).objs.size=s.heap.objs.size+1:=Du ..;have x:(s.heap.push so).get? s.heap.objs.size=some so:=BQ _ (by rw[<- q];rfl);have H:Shared.TypeIs { s with heap:=s.heap.push so } (.ref s.heap.objs.size) "set" := ⟨_,x,by rw[<- q]⟩
    have S:=PySem.F.called_set.init.lookup;have G:=PySem.F.called_set.init.bind (.ref s.heap.objs.size)
    repeat (any_goals (first|assumption|wp_step))
    refine ZAD (ZAT (R:=wants (λr u=>r=.none/\∃h' tk,u={ s with heap:=h',toks:=tk }/\Ce g prog w h' s.heap.objs.size (λk'=>(dd ss).any (· == k')) (dd ss).length/\
      (∀b o,b<s.heap.objs.size->s.heap.get? b=some o->h'.get? b=some o)) E) PySem.F.called_set.init.plain PySem.F.entry_set_init (check_set_init_1 H ?_)) λz u d=>?_
    .have N:(s.heap.push so).get? l=some { cls:=.type T,dict:=od,data:=.seq items nl,slots:=G3 }:=Ao _ ho;subst q;unfold Builtin.«set.__init__» noKeywords Builtin.Frozenset.updateFrom;generalize n:pyIter=PI
     wp_walk
     subst n;refine hit { s with heap:=s.heap.push _ } _ _ rfl (N.trans ho.symm) (Nat.lt_of_lt_of_eq (Hh y) hsz.symm) λob St P W XO Uy=>?_
     refine dP (ZBb ?_);have M:s.heap.objs.size∉[(s.heap.push { cls:=.type "set", dict:=none,data:=.set #[] 0 (.fresh 0 0 (!BY w)) }).objs.size,l]:=by
      rw[hsz];simp only[Ec,BF,yp,not_or];exact⟨B7 (NO _),E9 y⟩
     refine ZDJ W s.heap.objs.size M XO hb (ss.length - 0) 0 _ rfl (CJ _) Uy ?_ ?_
     .have B:=Ao ob x;exact⟨_,#[],0,_,B,⟨rfl,rfl,rfl⟩,rfl,λe C=>by simp at C,λk=>by simp[dd],by decide,by rfl,rfl,rfl,g.gZ _⟩
     .intro s' f Hr;obtain⟨h',g',d',j,Nw⟩:=s';have K:g'=s.gens:=f.gens;have L:d'=s.drawn:=f.drawn;have J:Nw=s.os:=f.os;subst K;subst L;subst J;show wpAny _ _ _ _ _ _;refine nW ?_;show wpAny _ _ (ret Value.none) _ _ _;refine nW ⟨rfl,h',j,rfl,Hr,λb o C4 e=>?_⟩;refine f.heap b o ?_ (Ao _ (Ao _ e));rw[hsz];simp only[Ec,BF,yp,not_or];exact⟨B7 C4,B7 (Hh C4)⟩
    .cases z with
     |error e=>exact d
     |ok p=>
      cases p with
      |ret r=>
       obtain⟨rfl,h',tk,rfl,Hr,LL⟩:=d
       repeat (any_goals (first|assumption|wp_step))
       exact h _ _ Hr LL
      |_=>exact d.elim
   |_=>exact m.elim))
end
theorem ai{g:α->V}{ss:List α}(r:Vals (ss.map g) A3)(e:A3[i]?=some v):∃(h:i<ss.length),RelV (g ss[i]) v:=by
 have d:=r.length;rw[AG]at d;have hi:i<A3.length:=(List.getElem?_eq_some_iff.mp e).1;have b:i<ss.length:=by omega
 have e1:(ss.map g)[i]?=some (g ss[i]):=by rw[Ah,Au b];rfl
 obtain⟨u,a,c⟩:=r.get e1;rw[e]at a;cases a;exact⟨b,c⟩
noncomputable def Nr[DecidableEq α]{Z:GS α}(g:GK Z)(P:Program)(w:World)(a:Addr)(f:α->Bool)(n:Nat):HO:=.ext λh=>Ce g P w h a f n
noncomputable abbrev HI:=Nr gT
def MM[DecidableEq α]{Z:GS α}(g:GK Z)(K:ZHy)(P:Program)(w:World):List V->Hp->VK->Prop:=λxs H Q=>∃(p:Addr)(tp:Bool)(ss:List α),xs=[.ref p]/\Iq K tp H p (ss.map Z.sV)/\ss.length<4000/\
  ∀l,H l=none->Q (.ref l) (upd H l (Nr g P w l (λk'=>(dd ss).any (· == k')) (dd ss).length))
section
variable[DecidableEq α]{Z:GS α}{g:GK Z}
theorem kJ(x:X.calm=true):Bo X (.type "set") (MM g X.K X.prog X.w):=by
 intro ZB s σ1 H xs us Q I r h;obtain⟨p,tp,ss,rfl,t,C,q⟩:=h;obtain⟨u,rfl,B⟩:=vals1 r;cases B;have y:ss.length+1<scanBound:=by unfold scanBound;omega
 have fin:∀(h':Heap)(tk:Nat),Ce g X.prog X.w h' s.heap.objs.size (λk'=>(dd ss).any (· == k')) (dd ss).length->(∀b o,b<s.heap.objs.size->s.heap.get? b=some o->h'.get? b=some o)->
   EP X ZB σ1 Q (.ref s.heap.objs.size) { s with heap:=h',toks:=tk }:=λh' tk z kp=>by
  refine⟨.ref s.heap.objs.size,_,I.laid (t':=tk) (λb o e=>kp b o (AY e) e) (Aa _) (show BZ X.prog X.w _ h' _ (Nr g X.prog X.w s.heap.objs.size _ _)from⟨z,?_,λh1 h2 HQ HA=>?_⟩),rfl,q _ (I.AB.fresh (Aa _))⟩
  .obtain⟨o,_,_,_,ho,_⟩:=z;exact⟨o,ho⟩
  .exact HQ.keep HA
 cases tp with
 |false=>
  obtain⟨A3,f,pl,Ii⟩:=I.list t;have j:=f.length;rw[AG]at j;obtain⟨⟨c,d,dt,sl⟩,n,ho,Bw,hd,G9⟩:=id pl;simp only at Bw hd G9;subst Bw;subst hd;subst G9;refine dS ho PySem.F.sub_list_set PySem.F.sub_list_frozenset (by decide) y (λs1 A1 Q1 l e1 l1 Xg=>?_) fin;have k:s1.heap.IsList p A3.toArray:=⟨_,e1.trans ho,rfl,n,rfl⟩;have m:A3.toArray.size=ss.length:=List.size_toArray.trans j.symm;refine ZAk k (Xg _ (λi s=>s.heap.IsListIter s1.heap.objs.size p i/\s.heap.IsList p A3.toArray) (λi v=>A3.toArray[i]?=some v) (by
   have W:=(Walks.list (prog:=X.prog) (w:=X.w) (A:=A1.in1) (by rw[ZH,l];exact I.ok.hd x) s1.heap.objs.size p (B7 l1) A3.toArray).toS;rw[m]at W;exact W) (λi v e=>have ⟨a,b⟩:=ai f (by simpa using e);⟨a,g.TC b⟩) ⟨⟨_,BQ _ rfl,rfl,rfl⟩,k.push _⟩)
 |true=>
  obtain⟨A3,f,pl,Ii⟩:=I.tuple t;have j:=f.length;rw[AG]at j;obtain⟨⟨c,d,dt,sl⟩,ho,Bw,n,G9⟩:=id pl;simp only at Bw G9;subst Bw;subst G9;refine dS ho sub_tuple_set sub_tuple_frozenset (by decide) y (λs1 A1 Q1 l e1 l1 Xg=>?_) fin;have k:s1.heap.IsTuple p A3.toArray:=⟨_,e1.trans ho,rfl,n,rfl⟩;have m:A3.toArray.size=ss.length:=List.size_toArray.trans j.symm;refine wpAny_pyIter_tuple k (Xg _ (λi s=>s.heap.IsTupleIter s1.heap.objs.size p i/\s.heap.IsTuple p A3.toArray) (λi v=>A3.toArray[i]?=some v) (by
   have W:=(Walks.tuple (prog:=X.prog) (w:=X.w) (A:=A1.in1) (by rw[ZH,l];exact I.ok.hd x) s1.heap.objs.size p (B7 l1) A3.toArray).toS;rw[m]at W;exact W) (λi v e=>have ⟨a,b⟩:=ai f (by simpa using e);⟨a,g.TC b⟩) ⟨⟨_,BQ _ rfl,rfl,rfl⟩,?_⟩)
  exact⟨_,Ao _ (e1.trans ho),rfl,n,rfl⟩
theorem Inv.drew(I:Inv X ZB σ1 H s)(d:Drawn):Inv X ZB σ1 H { s with drawn:=d }:=
 I.step (h':=s.heap) (g':=s.gens) (t':=s.toks) (d':=d) (ch:=[]) (λ_ z=>nomatch z) (λb o _ _ _ e _=>e) (λb o _ _ _ e _=>⟨o.slots,e⟩) (λ_ _ _ _ n=>n) (λb o _ e=>⟨o,e⟩) (λ_ _ e=>e) (λ_ _ _ e=>e) (λm a=>a) I.AB I.bare
end
theorem ZDy{l:Addr}{Q:List Value->Shared->Prop}(a:IsTup s.heap l vs.toArray)(h:Q vs { s with heap:=(s.heap.push (seqObj "list" #[] 0)).update s.heap.objs.size (Obj.mapSeq (·++vs.toArray)) })(hsz:vs.length<=sizeLine):
  wpAny (model prog w) A (collect (.ref l)) Q E s:=by
 obtain⟨o,ho,b,n,hd⟩:=id a;unfold collect;refine dP (ZBb (yJ entry_proto_collect' ?_));show wpAny _ _ (newList [] >>= λx=>again (.builtin "list.__iadd__" ⟨[x,.ref l],[]⟩)) _ _ s;refine dP (ZB0 ?_);refine nW ⟨ZL _ (by decide +kernel),yJ entry_list_iadd' ?_⟩;show wpAny _ _ (Builtin.List.listExtendWith (.ref s.heap.objs.size) (.ref l) (.ref s.heap.objs.size)) _ _ { s with heap:=s.heap.push (seqObj "list" #[] 0) }
 unfold Builtin.List.listExtendWith;have g:(s.heap.push (seqObj "list" #[] 0)).get? l=some o:=Ao _ ho;refine dP (zZ (T:="tuple") ⟨o,g,b⟩ ?_);rw[oM (by simp)];refine dP (listItems_at g hd ?_);refine dP (listItems_at (xs:=#[]) (n:=0) (BQ _ rfl) rfl ?_);rw[nr (by simp)];refine dP (listUpdate_at (xs:=#[]) (n:=0) (BQ _ rfl) rfl ?_ (CJ _) (by show(#[]++vs.toArray).size<=sizeLine+1;simp only[Array.size_append,Bn,Pk];omega));refine nW ?_;show wpAny (model prog w) A (load s.heap.objs.size >>= λo=>(match o.data with | .seq xs _=>pure xs.toList|_=>unsupported "internal:collect")) Q E _
 refine dP (ZBJ (get?_update_seq (BQ _ rfl) _) ?_);show wpAny _ _ (pure ((#[]:Array Value)++vs.toArray).toList) Q E _;have e:((#[]:Array Value)++vs.toArray).toList=vs:=by simp
 rw[e];exact nW h
theorem gm{Z:GS α}{Pc:List Value->Shared->Prop}{Q:Value->Shared->Prop}
  (i:∀(A1:Around)(E1:Value->Shared->Prop)(Q1:List Value->Shared->Prop),A1.handled=A.handled->(∀vs s1,Pc vs s1->Q1 vs s1)->wpAny (model prog w) A1 (collect v) Q1 E1 s)
  (h:∀vs s1,Pc vs s1->vs.length<64/\∃ss:List α,Vals (ss.map Z.sV) vs/\∀out A5 e h',(∀b o,s1.heap.get? b=some o->h'.get? b=some o)->h'.get? s1.heap.objs.size=some (seqObj "list" out e)->Vals (A5.map Z.sV) out.toList->A5.Perm ss->Z.M6 A5->Q (.ref s1.heap.objs.size) { s1 with heap:=h' }) :
  wpAny (model prog w) A (call (.builtin "sorted") [v]) Q E s:=by
 refine ZGU kind_sorted plain_sorted entry_sorted (args_sorted1 _) ?_;unfold Builtin.«sorted»;refine dP (m:=checkCount "sorted" 1 1 _) (nW ?_);refine dP (i _ _ _ rfl λvs s1 f=>?_);obtain⟨DV,ss,JP,k⟩:=h vs s1 f;refine dP (ZB0 ?_);have a:(s1.heap.push (seqObj "list" vs.toArray 0)).get? s1.heap.objs.size=some (seqObj "list" vs.toArray 0):=BQ _ rfl;refine dP (rG (uT slot_list_sort ⟨_,a,rfl⟩ entry_list_sort (Z.Wh (s:={ s1 with heap:=s1.heap.push (seqObj "list" vs.toArray 0) }) a JP DV λout A5 n l j=>⟨_,rfl,?_⟩) (args_list_sort _)))
 obtain⟨e,g⟩:=sortedHeap_at (out:=out) a;refine nW ⟨_,rfl,k _ A5 e _ (λb o c=>?_) g n l j⟩;have d:=AY c;rw[sortedHeap_old (B7 d) (by rw[Du];exact Hh d)];exact Ao _ c
section
variable[DecidableEq α]{Z:GS α}{g:GK Z}
theorem cN{s1:Shared}{Q:VK}(I:Inv X ZB σ1 H s)(d:s1.gens=s.gens)(ho:s1.os=s.os)(hk:∀b o,s.heap.get? b=some o->s1.heap.get? b=some o)(c:s.heap.objs.size<=s1.heap.objs.size)
  {A5:List α}{e:Nat}(kp:∀b o,s1.heap.get? b=some o->h'.get? b=some o) (f:h'.get? s1.heap.objs.size=some (seqObj "list" out e)) (g:Vals (A5.map Z.sV) out.toList) (DV:A5.length<64)
  (q:∀l,H l=none->Q (.ref l) (upd H l (.lst (A5.map Z.sV)))):EP X ZB σ1 Q (.ref s1.heap.objs.size) { s1 with heap:=h' }:=by
 obtain⟨h1,g1,h,t1,i⟩:=s1;simp only at d ho hk c kp f;subst d;subst ho;refine⟨.ref _,_,(I.drew h).laid (a:=h1.objs.size) (h':=h') (t':=t1) (o:=.lst (A5.map Z.sV)) (λb o q=>kp b o (hk b o q)) c ?_,rfl,q _ (I.AB.fresh c)⟩;refine⟨?_,out.toList,e,g,by simpa[seqObj]using f⟩
 rw[AG];exact Be (JF DV) (by decide +kernel)
def U7(Z:GS α)(K:ZHy):List V->Hp->VK->Prop:=λxs H Q=>∃(p:Addr)(tp:Bool)(ss:List α),xs=[.ref p]/\Iq K tp H p (ss.map Z.sV)/\ss.length<64/\∀l A5,H l=none->A5.Perm ss->Z.M6 A5->Q (.ref l) (upd H l (.lst (A5.map Z.sV)))
theorem cQ:Bo X (.builtin "sorted") (U7 Z X.K):=by
 intro ZB s σ1 H xs us Q I r h;obtain⟨p,tp,ss,rfl,d,DV,q⟩:=h;obtain⟨u,rfl,i⟩:=vals1 r;cases i;have key:∀A3:List Value,Vals (ss.map Z.sV) A3->(∀(A1:Around)(E1:Value->Shared->Prop)(Q1:List Value->Shared->Prop),Q1 A3 { s with heap:=(s.heap.push (seqObj "list" #[] 0)).update s.heap.objs.size (Obj.mapSeq (·++A3.toArray)) }->wpAny (model X.prog X.w) A1 (collect (.ref p)) Q1 E1 s)->
   wpAny (model X.prog X.w) X.A (call (.builtin "sorted") [.ref p]) (EP X ZB σ1 Q) X.xe s:=by
  intro A3 c ZB4;have a:=c.length;rw[AG]at a;refine gm (Z:=Z) (Pc:=λvs s1=>vs=A3/\s1={ s with heap:=(s.heap.push (seqObj "list" #[] 0)).update s.heap.objs.size (Obj.mapSeq (·++A3.toArray)) }) (λA1 E1 Q1 _ k=>ZB4 A1 E1 Q1 (k _ _ ⟨rfl,rfl⟩)) ?_
  rintro vs s1⟨rfl,rfl⟩;refine⟨by omega,ss,c,λout A5 e h' kp t v f m=>?_⟩;refine cN (s1:={ s with heap:=(s.heap.push (seqObj "list" #[] 0)).update s.heap.objs.size (Obj.mapSeq (·++vs.toArray)) }) I rfl rfl (λb o g=>?_) (by show s.heap.objs.size<=((s.heap.push (seqObj "list" #[] 0)).update s.heap.objs.size (Obj.mapSeq (·++vs.toArray))).objs.size;rw[ly,Du];exact Dw _) kp t v (by rw[f.length_eq];exact DV) λl n=>q l A5 n f m
  show((s.heap.push _).update _ _).get? b=some o;rw[lx _ _ _ _ (B7 (AY g))];exact Ao _ g
 cases tp with
 |false=>
  obtain⟨A3,c,pl,j⟩:=I.list d;have a:=c.length;exact key A3 c λA1 E1 Q1 k=>collect_list pl.isList k (by omega)
 |true=>
  obtain⟨A3,c,pl,j⟩:=I.tuple d;have a:=c.length;exact key A3 c λA1 E1 Q1 k=>ZDy pl k (by omega)
def W5[DecidableEq α]{Z:GS α}(g:GK Z)(P:Program)(w:World):List V->Hp->VK->Prop:=λxs H Q=>∃(p:Addr)(f:α->Bool)(n:Nat),xs=[.ref p]/\H p=some (Nr g P w p f n)/\n<64/\∀(l:Addr)(ts:List α),H l=none->ts.length=n->(∀k,f k=true↔k∈ts)->Z.M6 ts->Q (.ref l) (upd H l (.lst (ts.map Z.sV)))
theorem aA(z:X.calm=true):Bo X (.builtin "sorted") (W5 g X.prog X.w):=by
 intro ZB s σ1 H xs us Q I r h;obtain⟨p,f,n,rfl,C,DV,q⟩:=h;obtain⟨u,rfl,t⟩:=vals1 r;cases t;have B:Ce g X.prog X.w s.heap p f n:=(I.AB p _ C).1;have hh:X.A.handled=none:=I.ok.hd z;refine gm (Z:=Z) (Pc:=λvs s1=>∃ts:List α,(∀b o,s.heap.get? b=some o->s1.heap.get? b=some o)/\s.heap.objs.size<=s1.heap.objs.size/\s1.gens=s.gens/\s1.os=s.os/\Vals (ts.map Z.sV) vs/\ts.length=n/\(∀k,f k=true↔k∈ts)) (λA1 E1 Q1 D k=>?_) ?_
 .exact ZBK (D.trans hh) B (Be (JF DV) (by decide +kernel)) λs' vs ts a1 a2 m j c a i=>k vs s' ⟨ts,a1,a2,m,j,c,a,i⟩
 .rintro vs s1⟨ts,a1,a2,m,j,c,a,i⟩;refine⟨by have:=c.length;rw[AG]at this;omega,ts,c,λout A5 e h' kp y Hr d v=>?_⟩;exact cN I m j a1 a2 kp y Hr (by rw[d.length_eq,a];exact DV) λl x=>q l A5 x (d.length_eq.trans a) (λk=>(i k).trans d.mem_iff.symm) v
abbrev RF:=U7 sT
abbrev cm:=W5 gT
theorem RL:Bo X (.builtin "sorted") (RF X.K):=cQ
theorem ZFQ(a:X.calm=true):Bo X (.builtin "sorted") (cm X.prog X.w):=aA a
theorem Ys(a:X.calm=true):Bo X (.type "set") (MM gT X.K X.prog X.w):=kJ a
end
theorem kP:∀{ss:List Int}{us:List Value},Vals (ss.map V.int) us->IntsAre us ss
 | [],_,.nil=>.nil
 |x::r,_,.cons ⟨t,e⟩ h=>by rw[e];exact .cons x t (kP h)
theorem bB:∀{ss:List Int}{us:List Value},IntsAre us ss->Vals (ss.map V.int) us
 |_,_,.nil=>.nil
 |_,_,.cons x t h=>.cons ⟨t,rfl⟩ (bB h)
noncomputable def sI:GS Int where
 sV:=.int
 M6:=λss=>ss.Pairwise (·<=·)
 Wh:=λho a DV h=>list_sort_tree ho (kP a) DV λout A5 d c b=>h out A5 (bB d) c b
abbrev lL:=U7 sI
theorem ZEN:Bo X (.builtin "sorted") (lL X.K):=cQ
end L2
namespace L2
variable{es:List Expr}{k1:Nat}
section
variable{X:Cx}
noncomputable def iw(K:ZHy)(a b:Addr)(xs ys:List V):It:=
 ⟨λi H=>AL K H a xs/\AL K H b ys/\i<xs.length/\i<ys.length,λi H x H'=>∃p d c,xs[i]?=some d/\ys[i]?=some c/\x=.ref p/\H p=none/\H'=upd H p (.tup [d,c]),λi H=>AL K H a xs/\AL K H b ys/\(xs.length<=i∨ys.length<=i)⟩
theorem ZG9{P:Program}{w:World}{K:ZHy}{p1:Pos}(a b z TI TO i1 i2:Addr)(xs ys:List V)(D:ZipApart z TI TO i1 i2 a b):
  Turn P w K (.Tuple es k1 p1) (iw K a b xs ys) [z,TI,TO,i1,i2] z (λi h=>(IsZip h z TI TO .none/\IsPair h TI (.ref i1) (.ref i2))/\(∃c d,IsPair h TO c d)/\h.IsListIter i1 a i/\h.IsListIter i2 b i) where
 mem:=by simp
 obj:=λi h st c g=>by
  obtain⟨⟨s1,s2⟩,⟨d,e,p⟩,⟨O,M,_,T⟩,N,L,_,S⟩:=st;simp only[Ec,BF,yp]at g;rcases g with rfl|rfl|rfl|rfl|rfl
  .exact⟨_,s1,λv y=>by cases y⟩
  .exact⟨_,s2,λv y=>by cases y⟩
  .exact⟨_,p,λv y=>by cases y⟩
  .exact⟨O,M,λv y=>by rw[T]at y;cases y⟩
  .exact⟨N,L,λv y=>by rw[S]at y;cases y⟩
 keep:=λi h h' st k=>⟨⟨k z (by simp) _ st.1.1,k TI (by simp) _ st.1.2⟩,let ⟨c,d,p⟩:=st.2.1;⟨c,d,k TO (by simp) _ p⟩,st.2.2.1.at λo q=>k i1 (by simp) o q,st.2.2.2.at λo q=>k i2 (by simp) o q⟩
 item:=by
  intro X B hw C g i ZB s Z H E I l st A;subst B hw C;obtain⟨Ku,OQ,G,FH⟩:=A;obtain⟨⟨j,Ox⟩,⟨c,d,Pu⟩,Mn,TJ⟩:=st;obtain⟨U,MZ,Mc,_⟩:=I.list Ku;obtain⟨D5,Je,IU,_⟩:=I.list OQ;obtain⟨n,u,r⟩:=MZ.get (Au G);obtain⟨m,t,Q⟩:=Je.get (Au FH);refine wpAny_pyNext_zip_item D j Ox Pu Mn TJ Mc.isList IU.isList (x:=n) (y:=m) (by simpa using u) (by simpa using t) λh1 a1 a2 σ Y W a6 hk=>⟨_,rfl,?_⟩
  refine wpAny_letOwnedTupleGo_zip a1 λh2 N6 Eo=>?_;have F:z<s.heap.objs.size:=AY j;have up:∀b o,b≠z->h1.get? b=some o->h2.get? b=some o:=λb o f q=>(Eo.2 b f).trans q;have J:IsPair h2 s.heap.objs.size n m:=up _ _ (E9 F) W;have kp:∀b o,b∉[z,TI,TO,i1,i2]->s.heap.get? b=some o->h2.get? b=some o:=λb o f q=>by
   simp only[Ec,BF,yp,not_or]at f;exact up b o f.1 (hk b o f.1 f.2.2.1 f.2.2.2.1 f.2.2.2.2 q)
  refine⟨.ref s.heap.objs.size,_,I.il (t':=s.toks) (a:=s.heap.objs.size) (o:=.tup [xs[i],ys[i]]) l kp (Aa _) ?_,rfl,⟨_,_,_,Au G,Au FH,rfl,I.AB.fresh (Aa _),rfl⟩,?_,λb f=>?_⟩
  .exact⟨(by show 2<=sizeLine;decide),[n,m],.cons r (.cons Q .nil),⟨_,J,rfl,_,rfl⟩,λob q=>by rw[show h2.get? s.heap.objs.size=_ from J]at q;cases q;rfl⟩
  .exact⟨⟨N6,up _ _ D.TIz (hk _ _ D.TIz D.TITO D.TIi1 D.TIi2 Ox)⟩,⟨_,_,up _ _ D.TOz a2⟩,σ.at λo q=>up _ _ D.i1z q,Y.at λo q=>up _ _ D.i2z q⟩
  .have y:b<s.heap.objs.size:=by
    simp only[Ec,BF,yp]at f;rcases f with rfl|rfl|rfl|rfl|rfl
    .exact F
    .exact AY Ox
    .exact AY Pu
    .obtain⟨o,q,_⟩:=Mn;exact AY q
    .obtain⟨o,q,_⟩:=TJ;exact AY q
   rw[AK (B7 y)];exact(l b f).1
 done:=by
  intro X B hw C g i ZB s Z H E I l st A;subst B hw C;obtain⟨Ku,OQ,hx⟩:=A;obtain⟨⟨j,Ox⟩,⟨c,d,Pu⟩,Mn,TJ⟩:=st;obtain⟨U,MZ,Mc,_⟩:=I.list Ku;obtain⟨D5,Je,IU,_⟩:=I.list OQ;have l1:=MZ.length;have l2:=Je.length;exact wpAny_pyNext_zip_end (I.ok.hd g) D j Ox Pu Mn TJ Mc.isList IU.isList (hx.imp (λh=>by simp;omega) (λh=>by simp;omega)) λh' R=>⟨rfl,I.lC (t':=s.toks) l λb o f q=>by
   simp only[Ec,BF,yp,not_or]at f;exact R b o f.1 f.2.2.1 f.2.2.2.1 f.2.2.2.2 q⟩
 self:=λ_ _ _ _ _ st h=>wpAny_pyIter_zip st.1.1 h
def Vt(K:ZHy)(t:TA):TI:=λZ H R=>t Z H λvs H1=>∃a b xs ys,vs=[.ref a,.ref b]/\AL K H1 a xs/\AL K H1 b ys/\R (iw K a b xs ys) H1
theorem gD{p1 p pos:Pos}{l l2:Expr}{t:TA}(o:Gl X "zip")(n:X.mg "zip"=none)(c:QA X [l,l2] t)(m:starEach [l,l2] X.env=(false,eval l X.env)::starEach [l2] X.env:=by rfl)(hp:(backTo pos (starEach [l2] X.env)).any (·.1)=false:=by rfl):
  QI X (.Tuple es k1 p1) (.Call (.Name "zip" p) [l,l2] [] pos) (Vt X.K t):=⟨by
 have c:=c.h;intro ZB s Z H R I h;refine wF (Lg I o n (show bootBuiltins "zip"=some (.type "zip") by decide +kernel) ?_ (by decide) (by decide));refine Zk (c.k pos I h λus s1 vs H1 I1 i j=>?_) m hp;obtain⟨a,b,xs,ys,rfl,Ku,OQ,q⟩:=j;obtain⟨z,x,rfl,g,f⟩:=vals2 i;cases g;cases f;obtain⟨A,MZ,Mc,_⟩:=I1.list Ku;obtain⟨D5,Je,IU,_⟩:=I1.list OQ;have e1:a<s1.heap.objs.size:=by obtain⟨_,e,_⟩:=Mc.isList;exact AY e
 have r:b<s1.heap.objs.size:=by obtain⟨_,e,_⟩:=IU.isList;exact AY e
 refine call_zip_2 Mc.isList IU.isList λh' c1 c2 w v u hsz kp=>?_;refine wpAny_pyIter_zip c1 ?_;refine⟨_,[s1.heap.objs.size+4,s1.heap.objs.size+2,s1.heap.objs.size+3,s1.heap.objs.size,s1.heap.objs.size+1],_,_,H1,rfl,I1.kept (t':=s1.toks) kp,ZG9 a b _ _ _ _ _ xs ys (zipApart_new e1 r),⟨⟨c1,c2⟩,⟨_,_,w⟩,v,u⟩,λb d=>?_,q⟩;have y:s1.heap.objs.size<=b:=by
  simp only[Ec,BF,yp]at d;rcases d with rfl|rfl|rfl|rfl|rfl
  .exact Pm _ 4
  .exact Pm _ 2
  .exact Pm _ 3
  .exact Aa _
  .exact Pm _ 1
 exact I1.O4 y (I1.AB.fresh y)⟩
variable{ZB:ZHz}{Z:St}{H:Hp}{s:Shared}
end
end L2
namespace MA
noncomputable def OD:Nat->Nat->List Nat
 | 0,n=>[97+n]
 |k+1,n=>if n<26 then[97+n]else(97+n % 26)::OD k (n / 26)
theorem KS:∀(k:Nat){n:Nat},n<26->OD k n=[97+n]
 | 0,_,_=>rfl
 |_+1,_,h=>oM h
theorem kX:∀(k j n:Nat),n<=k->n<=j->OD k n=OD j n
 | 0,j,n,h,_=>by rw[KS 0 (Gx h (by decide)),KS j (Gx h (by decide))]
 |k+1,0,n,_,h=>by rw[KS (k+1) (Gx h (by decide)),KS 0 (Gx h (by decide))]
 |k+1,j+1,n,h1,h2=>by
  by_cases c:n<26
  .rw[KS _ c,KS _ c]
  .have d:n / 26<n:=Nat.div_lt_self (CI (by decide) (Zc c)) (by decide);show(if n<26 then _ else _)=(if n<26 then _ else _)
   rw[nr c,nr c,kX k j (n / 26) (Pn (CI d h1)) (Pn (CI d h2))]
def lets(n:Nat):List Nat:=OD n n
noncomputable def vals:List Nat->Nat
 | []=>0
 |c::r=>(c - 97)+26 * vals r
theorem NG{n:Nat}(h:n<26):lets n=[97+n]:=KS n h
theorem NZ{n:Nat}(h:¬ n<26):lets n=(97+n % 26)::lets (n / 26):=by
 cases n with
 |zero=>exact absurd (by decide) h
 |succ k=>
  have d:(k+1) / 26<k+1:=Nat.div_lt_self (mR k) (by decide);show(if k+1<26 then _ else _)=_
  rw[nr h,kX k ((k+1) / 26) ((k+1) / 26) (Pn d) (Aa _)];rfl
theorem cK:∀n,vals (lets n)=n:=by
 intro n
 induction n using Nat.strongRecOn with
 |_ n a=>
  by_cases h:n<26
  .rw[NG h];simp[vals]
  .rw[NZ h];have:=a (n / 26) (by omega);simp only[vals,this];omega
theorem yf{a b:Nat}(h:lets a=lets b):a=b:=by rw[<- cK a,h,cK]
theorem Yf(n:Nat):1<=(lets n).length:=by
 by_cases h:n<26
 .rw[NG h];simp
 .rw[NZ h];simp
theorem Sj:∀(k n:Nat),n<26 ^ (k+1)->(lets n).length<=k+1
 | 0,n,h=>by rw[NG (by simpa using h)];simp
 |k+1,n,h=>by
  by_cases h1:n<26
  .rw[NG h1];simp
  .rw[NZ h1];have:=Sj k (n / 26) (by rw[Nat.pow_succ]at h;exact Nat.div_lt_of_lt_mul (by rw[Nat.mul_comm];exact h));simp only[BJ];omega
theorem vS:∀n,∀c∈lets n,97<=c/\c<=122:=by
 intro n
 induction n using Nat.strongRecOn with
 |_ n b=>
  by_cases h:n<26
  .rw[NG h];intro c a;simp at a;omega
  .rw[NZ h];intro c a;rcases List.mem_cons.mp a with e|e
   .omega
   .exact b (n / 26) (by omega) c e
theorem lG{α:Type}[DecidableEq α]:∀(k:Nat)(f:Nat->α)(l:List α),(∀i j,i<k->j<k->f i=f j->i=j)->(∀i,i<k->f i∈l)->k<=l.length
 | 0,_,_,_,_=>CJ _
 |k+1,f,l,hi,hm=>by
  have h1:=hm k (NO k);have:=lG k f (l.erase (f k)) (λi j a b e=>hi i j (by omega) (by omega) e) (λi a=>by
   have c:f i≠f k:=λe=>by have:=hi i k (by omega) (by omega) e;omega
   exact(Te c).mpr (hm i (by omega)))
  rw[NM h1]at this;have d:=ZT h1;omega
end MA
namespace Lw
open L2
variable{a l p:Addr}{H H' H2:Hp}{xs:List V}{o:HO}{α:Type}{n:Nat}{i j r:Int}{ns:List Str}
def Bi(H:Hp)(p:Addr):Prop:=∃a b:Int,H p=some (.lst [.int a,.int b])/\0<=a/\a<10 ^ 256/\0<=b/\b<2147483647
structure BH (p:Addr) (H H':Hp):Prop where
 AD:Bi H' p
 same:GG p H H'
theorem BH.trans{H1:Hp}(a:BH p H H1)(b:BH p H1 H2):BH p H H2:=⟨b.AD,a.same.trans b.same⟩
theorem BH.of(h:Bi H p)(s:AQ H H'):BH p H H':=by
 obtain⟨a,b,e,r⟩:=h;exact⟨⟨a,b,s _ _ e,r⟩,GG.of s⟩
theorem BH.P6{K:ZHy}(s:BH p H H')(h:AL K H a xs)(Ab:a≠p):AL K H' a xs:=by
 rcases h with(h|⟨o,h⟩)|h
 .exact .inl (.inl (s.same _ _ Ab h))
 .exact .inl (.inr ⟨o,s.same _ _ Ab h⟩)
 .exact .inr h
theorem BH.at'(s:BH p H H')(h:H a=some o)(Ab:a≠p):H' a=some o:=s.same _ _ Ab h
theorem Mq{a:Int}(c:-(10 ^ 20)<a)(h1:a<10 ^ 20):a.natAbs<2 ^ 1000:=by
 have b:a.natAbs<10 ^ 20:=by omega
 exact Tj b (by decide +kernel)
def WM(K:ZHy):Sp:=λvs H Q _=>∃(a:Addr)(ns:List Int)(k:Int),vs=[.ref a,.int k]/\AL K H a (ns.map V.int)/\0<=k/\k<=1000/\∀p H',H p=none->AQ H H'->Bi H' p->Q (.ref p) H'
def Hn:Sp:=λvs H Q _=>∃(p:Addr)(m:Int),vs=[.ref p,.int m]/\Bi H p/\0<m/\m<10 ^ 18/\∀r H',0<=r->r<m->BH p H H'->Q (.int r) H'
noncomputable def DE(l:List Nat):Str:=⟨l.toArray⟩
def eU:Sp:=λvs H Q _=>∃r:Int,vs=[.int r]/\0<=r/\r<26 ^ 8/\∀H',AQ H H'->Q (.str (DE (MA.lets r.toNat))) H'
theorem QZ{xs:List α}{k:Int}{v:α}(b:0<=k)(h:xs[k.toNat]?=some v):Bf xs k=some v:=by
 have a:k=((k.toNat:Nat):Int):=by omega
 have q:=Fl h;rw[<- a]at q;exact q
noncomputable abbrev gB:Str:="abcdefghijklmnopqrstuvwxyz"
theorem nM:∀j,j<26->gB.cps.toList[j]?=some (97+j):=by decide +kernel
theorem kH{k:Int}(a:0<=k)(h1:k<26):Bf gB.cps.toList k=some (97+k.toNat):=QZ a (nM _ (by omega))
theorem cq(l:List Nat)(c:Nat):DE l++(⟨#[c]⟩:Str)=DE (l++[c]):=by
 show(⟨l.toArray++#[c]⟩:Str)=⟨(l++[c]).toArray⟩;simp
theorem SG(l:List Nat):(DE l).length=l.length:=by simp[DE,Str.length]
theorem fR{l:List Nat}:(V.str (DE l)=V.str (Str.ofString ""))↔l=[]:=by
 constructor
 .intro h;injection h with h
  have h2:=sg (λx=>x.cps.toList) h;have e:(Str.ofString "").cps.toList=[]:=by decide +kernel
  rw[e]at h2
  simpa[DE]using h2
 .rintro rfl;rfl
theorem small(h:n<=100000):n<=sizeLine:=Be h (by decide +kernel)
theorem dA{k:Nat}{pre:List Nat}(h:pre++MA.lets k=MA.lets n):(0<k / 26->(pre++[97+k % 26])++MA.lets (k / 26)=MA.lets n)/\(k / 26=0->pre++[97+k % 26]=MA.lets n):=by
 constructor
 .intro h1;rw[MA.NZ (by omega)]at h;rw[<- h,Bm];rfl
 .intro h1;have h2:k<26:=by omega
  rw[MA.NG h2]at h;rw[<- h,Nat.mod_eq_of_lt h2]
def Nm(x:Str):Prop:=1<=x.length/\x.length<=8/\∀c∈x.cps.toList,97<=c/\c<=122
instance (x:Str):Decidable (Nm x):=by unfold Nm;exact inferInstance
theorem Io(x:Str):x.length=x.cps.toList.length:=by simp[Str.length]
theorem UI(h:n<26 ^ 8):Nm (DE (MA.lets n)):=by
 refine⟨by rw[SG];exact MA.Yf n,by rw[SG];exact MA.Sj 7 n h,λc a=>MA.vS n c (by simpa[DE]using a)⟩
noncomputable def menu:List Str:=["put","take","none","ahead","all","over","next","a","ab","abc","abcdefgh","b","step"]
theorem ZAX:∀x∈menu,Nm x:=by decide +kernel
noncomputable def Sr:List V:=[.str "put",.str "take",.str "none",.str "ahead",.str "all",.str "over",.str "next",.str "a",.str "ab",.str "abc",.str "abcdefgh",.str "b",.str "step"]
theorem ZAS(a:0<=i)(h1:i<13):∃x,Bf Sr i=some (.str x)/\Nm x:=by
 have b:menu.length=13:=rfl;have hi:i.toNat<menu.length:=by omega
 have e:Sr=menu.map V.str:=rfl;refine⟨menu[i.toNat],QZ a ?_,ZAX _ (KN hi)⟩;rw[e,Ah,Au hi];rfl
theorem XM(a:0<=i)(h1:i<ns.length):∃x,Bf (ns.map V.str) i=some (.str x)/\x∈ns/\ns[i.toNat]?=some x:=by
 have hi:i.toNat<ns.length:=by omega
 exact⟨ns[i.toNat],QZ a (by rw[Ah,Au hi];rfl),KN hi,Au hi⟩
theorem Kw(ns:List Str):(ns.map V.str).all Cr=true:=by
 rw[Eb];intro x hx;obtain⟨y,_,rfl⟩:=List.mem_map.mp hx;rfl
theorem Xv(x:Str)(ns:List Str):Iy (.str x) (ns.map V.str)=decide (x∈ns):=by
 unfold Iy;rw[KI,NJ,ZAE];constructor
 .rintro⟨v,b,h⟩;obtain⟨y,a,rfl⟩:=List.mem_map.mp b;have h':(y == x)=true:=h;have:y=x:=by simpa using h'
  rw[<- this];exact a
 .intro h;exact⟨.str x,List.mem_map.mpr ⟨x,h,rfl⟩,by show(x == x)=true;simp⟩
theorem dz(xs:List V):GU xs []=decide (xs=[]):=by
 cases xs with
 |nil=>rfl
 |cons x r=>rw[LM (by simp)];simp
theorem oo{x y:Str}(h:x.cps.toList=y.cps.toList):x=y:=by
 cases x;cases y;simp only[Str.mk.injEq];exact Array.toList_inj.mp h
theorem ZAA(z:Str){a b:Nat}{lo hi:Option Int}(Bu:a<=b)(c:b<=z.length)(e:Builtin.Str.strSliceIndices lo hi 1 z.length=Builtin.Str.strSliceIndices (some (a:Int)) (some (b:Int)) 1 z.length):
  (Txt.slice z lo hi).cps.toList=(z.cps.toList.drop a).take (b - a):=by
 have q:=StrLaws.sliced_plain z Bu c;rw[<- e]at q;unfold Txt.slice;split
 .rename_i h;have d:(Builtin.Str.strSliceIndices lo hi 1 z.length).length=z.length:=by simpa using h
  rw[e,StrLaws.strSliceIndices_plain Bu c,AG,Ep]at d;have h1:a=0:=by omega
  have h2:b=z.length:=by omega
  subst h1;subst h2;rw[m8,mQ,Io,Gw]
 .rw[<- q]
theorem ZGB(h:0<=j):max (0:Int) (min j (n:Int))=max 0 (min ((min j.toNat n:Nat):Int) (n:Int)):=by
 have e:((min j.toNat n:Nat):Int)=min j n:=by
  rcases Ti j.toNat n with c|c
  .rw[Tn c,m6 h,Int.min_eq_left (by have:=Int.ofNat_le.mpr c;rw[m6 h]at this;exact this)]
  .rw[To c,Int.min_eq_right (by have:=Int.ofNat_le.mpr c;rw[m6 h]at this;exact this)]
 rw[e,Int.min_assoc,Int.min_self]
theorem xf(z:Str)(h:0<=j):(Txt.slice z none (some j)).cps.toList=z.cps.toList.take j.toNat:=by
 have e:=ZAA z (a:=0) (b:=min j.toNat z.length) (lo:=none) (hi:=some j) (CJ _) (ZGz _ _) (by
  have h1:¬ j<0:=by omega
  have h2:¬ (((min j.toNat z.length:Nat):Int)<0):=Int.not_lt.mpr (Int.natCast_nonneg _);have c:max (0:Int) (min j (z.length:Int))=max 0 (min ((min j.toNat z.length:Nat):Int) (z.length:Int)):=ZGB h;simp only[Builtin.Str.strSliceIndices,h1,h2,ZBr,c];rfl)
 rw[e,m8,mQ];rcases Ti j.toNat z.length with h1|h1
 .rw[Tn h1]
 .rw[To h1,Io,Gw,NN (by rw[<- Io];exact h1)]
theorem ba{z:Str}(h:1<=j)(d:j<=8)(b:1<=z.length)(a:∀c∈z.cps.toList,97<=c/\c<=122):Nm (Txt.slice z none (some j)):=by
 have e:=xf z (j:=j) (by omega);refine⟨?_,?_,λc GL=>a c ?_⟩
 .rw[Io,e,Fg,<- Io];omega
 .rw[Io,e,Fg];omega
 .rw[e]at GL;exact ZX GL
theorem dE(x y:Str):(x++y).cps.toList=x.cps.toList++y.cps.toList:=by
 show(x.cps++y.cps).toList=_;simp
theorem dX(x y:Str):(x++y).length=x.length+y.length:=by rw[Io,dE,BI,<- Io,<- Io]
def Mw(K:ZHy):Sp:=λvs H Q _=>∃(p q:Addr)(ns:List Str),vs=[.ref p,.ref q]/\Bi H p/\H q=some (.lst (ns.map V.str))/\q≠p/\(∀x∈ns,Nm x)/\ns.length<=1000/\∀x H',Nm x->x∉ns->BH p H H'->Q (.str x) H'
theorem zX{k:Nat}(h:∀j,j<k->DE (MA.lets j)∈ns):k<=ns.length:=
 MA.lG k (λj=>DE (MA.lets j)) ns (λi j _ _ e=>MA.yf (by
  have:=sg (λx=>x.cps.toList) e
  simpa[DE]using this)) h
theorem tH:1000<26 ^ 8:=by decide +kernel
theorem ZCS:(1000:Int)<26 ^ 8:=by decide +kernel
theorem uk:(26:Int) ^ (8:Int).toNat - 26<26 ^ 8:=by decide +kernel
theorem rV:(26:Int)<26 ^ 8:=by decide +kernel
theorem sU:(0:Int)<26 ^ (8:Int).toNat - 26:=by decide +kernel
theorem ZAq:(26:Int) ^ (8:Int).toNat - 26<10 ^ 18:=by decide +kernel
theorem ir(a:0<=r)(h:r<26 ^ 8):r.toNat<26 ^ 8:=by omega
theorem BH.upd(s:BH p H H2)(h:H l=none)(Ab:l≠p):BH p H (upd H2 l o):=by
 obtain⟨a,b,e,r⟩:=s.AD;refine⟨⟨a,b,by rw[AK (Az Ab)];exact e,r⟩,λc u d q=>?_⟩;rw[AK (DS q h)];exact s.same c u d q
theorem BH.none(s:BH p H H2)(h:H2 l=none):H l=none:=by
 cases q:H l with
 |none=>rfl
 |some o=>
  by_cases e:l=p
  .obtain⟨a,b,c,_⟩:=s.AD;rw[<- e,h]at c;cases c
  .rw[s.same l o e q]at h;cases h
theorem Bi.ne(h:Bi H p)(a:H l=none):l≠p:=by
 obtain⟨_,_,e,_⟩:=h;exact(DS e a).symm
theorem AQ.none(s:AQ H H2)(h:H2 l=none):H l=none:=by
 cases q:H l with
 |none=>rfl
 |some o=>rw[s l o q]at h;cases h
def bj:Sp:=λvs H Q _=>∃(p:Addr)(m:Int),vs=[.ref p,.int m]/\Bi H p/\0<=m/\m<=100/\
 ∀l H'(ns:List Str),H l=none->BH p H H'->H' l=some (.lst (ns.map V.str))->(ns.length:Int)=m->(∀x∈ns,Nm x)->ns.Nodup->Q (.ref l) H'
def Us:Sp:=λvs H Q _=>∃(p:Addr)(m:Int),vs=[.ref p,.int m]/\Bi H p/\1<=m/\m<=100/\
 ∀l H'(ns:List Str),H l=none->BH p H H'->H' l=some (.lst (ns.map V.str))->(ns.length:Int)<=m->(∀x∈ns,Nm x)->ns.Nodup->Q (.ref l) H'
theorem Vv{l:List α}{x:α}(h:l.Nodup)(hx:x∉l):(l++[x]).Nodup:=by
 rw[Fh];exact⟨h,by simp,λa d b c=>by
  have:b=x:=by simpa using c
  subst this;rintro rfl;exact hx d⟩
theorem zF{m:Int}(b:0<=j)(h1:j<3)(a:1<=m):∃k:Int,Bf [V.int 0,V.int 1,V.int m] j=some (.int k)/\0<=k/\k<=m:=by
 have:j=0∨j=1∨j=2:=by omega
 rcases this with rfl|rfl|rfl
 .exact⟨0,rfl,by omega,by omega⟩
 .exact⟨1,rfl,by omega,by omega⟩
 .exact⟨m,rfl,by omega,by omega⟩
theorem tE(xs:List Str):GU (xs.map V.str) (xs.map V.str)=true:=by
 rw[La rfl,Eb];intro j a;have b:j<xs.length:=by simpa using a
 have e:(xs.map V.str)[j]?=some (.str xs[j]):=by rw[Ah,Au b];rfl
 rw[K6 e];show(xs[j] == xs[j])=true;simp
def tQ(K:ZHy):Sp:=λvs H Q _=>∃(a:Addr)(ns:List Int),vs=[.ref a]/\AL K H a (ns.map V.int)/\ns.length<=63/\∀H',Q (.bl true) H'
noncomputable def Ej(tp:Bool)(xs:List V):HO:=match tp with
 |false=>.lst xs
 |true=>.tup xs
theorem Ej.sq{K:ZHy}{tp:Bool}(h:H a=some (Ej tp xs)):Iq K tp H a xs:=by
 cases tp
 .exact AL.of h
 .exact Ax.of h
theorem LJ{c A B:Prop}[Decidable c](h:¬ c)(b:B):if c then A else B:=by rw[nr h];exact b
theorem JQ(ns:List Str):(ns.map V.str).length=ns.length:=AG _
end Lw
namespace Fz
open L2 Lw
variable{F F' F1 H H' H1:Hp}{v:V}{Bx vs:List V}{i i0 j n:Nat}{t:TA}{a acc l:Addr}{r:List V->Hp->VK->Prop}{Z:L2.St}{ta tc te:TE}{tb u:TS}{b neg tp:Bool}{A:List Addr}{α:Type}{Q:VK}{f:Int->Int->Int}{g:TG}{c tt:TT}{wi:TI}{js:List Nat}{X:XK}
inductive PV where
 |A8|bl (b:Bool)|int (i:Int)|str (x:Str)|lst (xs:List PV)|tup (xs:List PV)
 |B2 (ks:List Key) (xs:List PV)|obj (C:Addr) (ns:List Str) (xs:List PV)|exc (C:Addr) (ns:List Str) (xs:List PV)|con (a:Addr) (xs:List PV)
variable{p:PV}{ps xs ys:List PV}
noncomputable def He(a C:Addr)(dx:Option Addr):HO:=.ext λh=>∃ob vs,h.get? a=some ob/\ob.cls=.ref C/\ob.dict=dx/\ob.data=.fields vs
mutual
inductive Rep (F:Hp):V->PV->Prop where
 |A8:Rep F .A8 .A8
 |bl (b:Bool):Rep F (.bl b) (.bl b)
 |int (i:Int):Rep F (.int i) (.int i)
 |str (x:Str):Rep F (.str x) (.str x)
 |lst {a:Addr}{vs:List V}{xs:List PV}:F a=some (.lst vs)->AN F vs xs->Rep F (.ref a) (.lst xs)
 |tup {a:Addr}{vs:List V}{xs:List PV}:F a=some (.tup vs)->AN F vs xs->Rep F (.ref a) (.tup xs)
 |B2 {a:Addr}{ks:List Key}{vs:List V}{xs:List PV}:F a=some (.dK (ks.zip vs))->ks.length=vs.length->AN F vs xs->Rep F (.ref a) (.B2 ks xs)
 |obj {a C dx:Addr}{ns:List Str}{vs:List V}{xs:List PV}:F a=some (.ins C dx (ns.zip vs))->F dx=some (.own a)->ns.length=vs.length->AN F vs xs->Rep F (.ref a) (.obj C ns xs)
 |con {a:Addr}{xs:List PV}:Rep F (.ref a) (.con a xs)
 |QL {a C:Addr}:F a=some (He a C none)->Rep F (.ref a) (.exc C [] [])
 |exc {a C dx:Addr}{ns:List Str}{vs:List V}{xs:List PV}:F a=some (He a C (some dx))->F dx=some (.xd (ns.zip vs))->ns.length=vs.length->AN F vs xs->Rep F (.ref a) (.exc C ns xs)
inductive AN (F:Hp):List V->List PV->Prop where
 |nil:AN F [] []
 |cons {v:V}{p:PV}{vs:List V}{ps:List PV}:Rep F v p->AN F vs ps->AN F (v::vs) (p::ps)
end
theorem Rep.mono(s:AQ F F')(r:Rep F v p):Rep F' v p:=
 Rep.rec (motive_1:=λv p _=>Rep F' v p) (motive_2:=λvs ps _=>AN F' vs ps) .A8 .bl .int .str (λh _ i=>.lst (s _ _ h) i) (λh _ i=>.tup (s _ _ h) i) (λh e _ i=>.B2 (s _ _ h) e i) (λh h2 e _ i=>.obj (s _ _ h) (s _ _ h2) e i) .con (λh=>.QL (s _ _ h)) (λh h2 e _ i=>.exc (s _ _ h) (s _ _ h2) e i) .nil (λ_ _ i k=>.cons i k) r
def vV(F:Hp)(v:V):PV->Prop
 | .A8=>v=.A8
 | .bl b=>v=.bl b
 | .int i=>v=.int i
 | .str x=>v=.str x
 | .lst xs=>∃a vs,v=.ref a/\F a=some (.lst vs)/\AN F vs xs
 | .tup xs=>∃a vs,v=.ref a/\F a=some (.tup vs)/\AN F vs xs
 | .B2 ks xs=>∃a vs,v=.ref a/\F a=some (.dK (ks.zip vs))/\ks.length=vs.length/\AN F vs xs
 | .obj C ns xs=>∃a dx vs,v=.ref a/\F a=some (.ins C dx (ns.zip vs))/\F dx=some (.own a)/\ns.length=vs.length/\AN F vs xs
 | .con a _=>v=.ref a
 | .exc C ns xs=>(∃a,v=.ref a/\F a=some (He a C none)/\ns=[]/\xs=[])∨∃a dx vs,v=.ref a/\F a=some (He a C (some dx))/\F dx=some (.xd (ns.zip vs))/\ns.length=vs.length/\AN F vs xs
theorem Rep.inv(r:Rep F v p):vV F v p:=by
 cases r with
 |lst h r=>exact⟨_,_,rfl,h,r⟩
 |tup h r=>exact⟨_,_,rfl,h,r⟩
 |B2 h l r=>exact⟨_,_,rfl,h,l,r⟩
 |obj h h2 l r=>exact⟨_,_,_,rfl,h,h2,l,r⟩
 |QL h=>exact .inl ⟨_,rfl,h,rfl,rfl⟩
 |exc h h2 l r=>exact .inr ⟨_,_,_,rfl,h,h2,l,r⟩
 |_=>exact rfl
theorem AN.inv(r:AN F vs (p::ps)):∃v ws,vs=v::ws/\Rep F v p/\AN F ws ps:=by
 cases r with
 |cons r t=>exact⟨_,_,rfl,r,t⟩
theorem AN.DL(r:AN F vs []):vs=[]:=by
 cases r;rfl
theorem AN.mono(s:AQ F F')(r:AN F vs ps):AN F' vs ps:=by
 induction ps generalizing vs with
 |nil=>cases r.DL;exact .nil
 |cons p ps c=>obtain⟨v,ws,rfl,a,b⟩:=r.inv;exact .cons (a.mono s) (c b)
theorem AN.length{F:Hp}{vs:List V}{ps:List PV}(r:AN F vs ps):vs.length=ps.length:=by
 induction ps generalizing vs with
 |nil=>cases r.DL;rfl
 |cons p ps c=>obtain⟨v,ws,rfl,a,b⟩:=r.inv;exact sg (· + 1) (c b)
theorem AN.get{F:Hp}{vs:List V}{ps:List PV}{i:Nat}{p:PV}(r:AN F vs ps)(e:ps[i]?=some p):∃v,vs[i]?=some v/\Rep F v p:=by
 induction ps generalizing vs i with
 |nil=>cases e
 |cons q ps c=>
  obtain⟨v,ws,rfl,a,b⟩:=r.inv;cases i with
  |zero=>cases e;exact⟨_,rfl,a⟩
  |succ i=>exact c (vs:=ws) (i:=i) b e
theorem AN.get'(r:AN F vs ps)(e:vs[i]?=some v):∃p,ps[i]?=some p/\Rep F v p:=by
 induction ps generalizing vs i with
 |nil=>cases r.DL;cases e
 |cons q ps c=>
  obtain⟨u,ws,rfl,a,b⟩:=r.inv;cases i with
  |zero=>cases e;exact⟨_,rfl,a⟩
  |succ i=>exact c (vs:=ws) (i:=i) b e
theorem AN.append{ws:List V}{c:List PV}(r:AN F vs ps)(s:AN F ws c):AN F (vs++ws) (ps++c):=by
 induction ps generalizing vs with
 |nil=>cases r.DL;exact s
 |cons p ps d=>obtain⟨v,us,rfl,a,b⟩:=r.inv;exact .cons a (d b)
theorem AN.take(n:Nat)(r:AN F vs ps):AN F (vs.take n) (ps.take n):=by
 induction ps generalizing vs n with
 |nil=>cases r.DL;rw[List.take_nil,List.take_nil];exact .nil
 |cons p ps c=>
  obtain⟨v,us,rfl,a,b⟩:=r.inv;cases n with
  |zero=>exact .nil
  |succ n=>exact .cons a (c n b)
theorem AN.drop(n:Nat)(r:AN F vs ps):AN F (vs.drop n) (ps.drop n):=by
 induction ps generalizing vs n with
 |nil=>cases r.DL;rw[List.drop_nil,List.drop_nil];exact .nil
 |cons p ps c=>
  cases n with
  |zero=>exact r
  |succ n=>obtain⟨v,us,rfl,a,b⟩:=r.inv;exact c n b
theorem AN.one{F:Hp}{v:V}{p:PV}(r:Rep F v p):AN F [v] [p]:=.cons r .nil
noncomputable def flat:PV->Bool
 | .lst _=>false
 | .tup _=>false
 | .B2 _ _=>false
 | .obj _ _ _=>false
 | .exc _ _ _=>false
 | .con _ _=>false
 |_=>true
noncomputable def enc:PV->V
 | .bl b=>.bl b
 | .int i=>.int i
 | .str x=>.str x
 |_=>.A8
theorem Rep.enc(h:flat p=true)(r:Rep F v p):v=enc p:=by
 cases r <;> first|rfl|cases h
theorem ZBF(h:flat p=true):Rep F (enc p) p:=by
 cases p with
 |A8=>exact .A8
 |bl b=>exact .bl b
 |int i=>exact .int i
 |str x=>exact .str x
 |lst xs=>cases h
 |tup xs=>cases h
 |B2 ks xs=>cases h
 |obj C ns xs=>cases h
 |exc C ns xs=>cases h
 |con a xs=>cases h
theorem AN.enc(h:ps.all flat=true)(r:AN F vs ps):vs=ps.map enc:=by
 induction ps generalizing vs with
 |nil=>exact r.DL
 |cons p ps c=>
  obtain⟨v,us,rfl,a,b⟩:=r.inv;rw[Ph,C7]at h;rw[D4,<- Rep.enc h.1 a,<- c h.2 b]
theorem W4(h:ps.all flat=true):AN F (ps.map enc) ps:=by
 induction ps with
 |nil=>exact .nil
 |cons p r a=>
  rw[Ph,C7]at h;exact .cons (ZBF h.1) (a h.2)
theorem dh(h:flat p=true):Cr (Fz.enc p)=true:=by cases p <;> first|rfl|cases h
theorem ZBy(h:ps.all flat=true):(ps.map Fz.enc).all Cr=true:=by
 rw[Eb];intro x hx;obtain⟨y,a,rfl⟩:=List.mem_map.mp hx;exact dh (List.all_eq_true.mp h y a)
theorem aJ(ns:List Str):(ns.map PV.str).all flat=true:=by
 rw[Eb];intro x hx;obtain⟨y,_,rfl⟩:=List.mem_map.mp hx;rfl
theorem Ww(ns:List Int):(ns.map PV.int).all flat=true:=by
 rw[Eb];intro x hx;obtain⟨y,_,rfl⟩:=List.mem_map.mp hx;rfl
theorem ZFN(ns:List Bool):(ns.map PV.bl).all flat=true:=by
 rw[Eb];intro x hx;obtain⟨y,_,rfl⟩:=List.mem_map.mp hx;rfl
theorem VJ(ns:List Str):(ns.map PV.str).map Fz.enc=ns.map V.str:=by rw[FJ];rfl
theorem ZFJ(ns:List Bool):(ns.map PV.bl).map Fz.enc=ns.map V.bl:=by rw[FJ];rfl
theorem Yq(ns:List Int):(ns.map PV.int).map Fz.enc=ns.map V.int:=by rw[FJ];rfl
theorem AN.strs{ns:List Str}(r:AN F vs (ns.map PV.str)):vs=ns.map V.str:=(r.enc (aJ ns)).trans (VJ ns)
theorem Rv(ns:List Str):AN F (ns.map V.str) (ns.map PV.str):=by rw[<- VJ];exact W4 (aJ ns)
theorem AN.Xk{ns:List Bool}(r:AN F vs (ns.map PV.bl)):vs=ns.map V.bl:=(r.enc (ZFN ns)).trans (ZFJ ns)
theorem AN.ints{ns:List Int}(r:AN F vs (ns.map PV.int)):vs=ns.map V.int:=(r.enc (Ww ns)).trans (Yq ns)
inductive NK where
 |lst|B2 (ks:List Key)|obj (C dx:Addr) (ns:List Str)|Ss (ks:List (List Key))
noncomputable def NK.ho:NK->List V->HO
 | .lst,vs=>.lst vs
 | .B2 ks,vs=>.dK (ks.zip vs)
 | .obj C dx ns,vs=>.ins C dx (ns.zip vs)
 | .Ss ks,vs=>.dT (ks.zip vs)
noncomputable def NK.more:NK->List Addr
 | .obj _ dx _=>[dx]
 |_=>[]
def NK.side(k:NK)(a:Addr)(H:Hp):Prop:=match k with
 | .obj _ dx _=>H dx=some (.own a)
 |_=>True
def NK.fit(k:NK)(n:Nat):Prop:=match k with
 | .B2 ks=>ks.length=n
 | .obj _ _ ns=>ns.length=n
 | .Ss ks=>ks.length=n
 |_=>True
inductive OV where
 |fz (p:PV)
 |tp (xs:List OV)
 |nd (k:NK) (a:Addr) (xs:List OV)
mutual
def OV.addrs:OV->List Addr
 | .fz _=>[]
 | .tp xs=>OV.B3 xs
 | .nd k a xs=>a::(k.more++OV.B3 xs)
def OV.B3:List OV->List Addr
 | []=>[]
 |x::r=>x.addrs++OV.B3 r
end
mutual
def OV.pv:OV->PV
 | .fz p=>p
 | .tp xs=>.tup (OV.HP xs)
 | .nd .lst _ xs=>.lst (OV.HP xs)
 | .nd (.B2 ks) _ xs=>.B2 ks (OV.HP xs)
 | .nd (.obj C _ ns) _ xs=>.obj C ns (OV.HP xs)
 | .nd (.Ss _) a _=>.con a []
def OV.HP:List OV->List PV
 | []=>[]
 |x::r=>x.pv::OV.HP r
end
mutual
inductive Al (F H:Hp):V->OV->Prop where
 |fz {v:V}{p:PV}:Rep F v p->Al F H v (.fz p)
 |tp {a:Addr}{vs:List V}{xs:List OV}:F a=some (.tup vs)->BW F H vs xs->Al F H (.ref a) (.tp xs)
 |nd {k:NK}{a:Addr}{vs:List V}{xs:List OV}:H a=some (k.ho vs)->k.side a H->k.fit vs.length->BW F H vs xs->Al F H (.ref a) (.nd k a xs)
inductive BW (F H:Hp):List V->List OV->Prop where
 |nil:BW F H [] []
 |cons {v:V}{t:OV}{vs:List V}{ts:List OV}:Al F H v t->BW F H vs ts->BW F H (v::vs) (t::ts)
end
def ZFp(F H:Hp)(v:V):OV->Prop
 | .fz p=>Rep F v p
 | .tp xs=>∃a vs,v=.ref a/\F a=some (.tup vs)/\BW F H vs xs
 | .nd k a xs=>∃vs,v=.ref a/\H a=some (k.ho vs)/\k.side a H/\k.fit vs.length/\BW F H vs xs
theorem Al.inv{t:OV}(r:Al F H v t):ZFp F H v t:=by
 cases r with
 |fz r=>exact r
 |tp h r=>exact⟨_,_,rfl,h,r⟩
 |nd h a b r=>exact⟨_,rfl,h,a,b,r⟩
theorem BW.inv{t:OV}{ts:List OV}(r:BW F H vs (t::ts)):∃v ws,vs=v::ws/\Al F H v t/\BW F H ws ts:=by
 cases r with
 |cons r t=>exact⟨_,_,rfl,r,t⟩
theorem BW.DL(r:BW F H vs []):vs=[]:=by
 cases r;rfl
theorem OV.EI{k:NK}{xs:List OV}:(OV.nd k a xs).addrs=a::(k.more++OV.B3 xs):=by rw[OV.addrs]
theorem OV.Hz{xs:List OV}:(OV.tp xs).addrs=OV.B3 xs:=by rw[OV.addrs]
theorem OV.MS:(OV.fz p).addrs=[]:=by rw[OV.addrs]
theorem OV.Dm{x:OV}{r:List OV}:OV.B3 (x::r)=x.addrs++OV.B3 r:=by rw[OV.B3]
theorem OV.KY:OV.B3 []=[]:=by rw[OV.B3]
theorem NK.b9{k:NK}(h:k.side a H)(s:∀b∈k.more,∀o,H b=some o->H' b=some o):k.side a H':=by
 cases k with
 |obj C dx ns=>exact s dx (by simp[NK.more]) _ h
 |_=>trivial
theorem Al.mono(f:AQ F F'){t:OV}(r:Al F H v t):(∀a∈t.addrs,∀o,H a=some o->H' a=some o)->Al F' H' v t:=
 Al.rec (motive_1:=λv t _=>(∀a∈t.addrs,∀o,H a=some o->H' a=some o)->Al F' H' v t) (motive_2:=λvs ts _=>(∀a∈OV.B3 ts,∀o,H a=some o->H' a=some o)->BW F' H' vs ts)
  (λr _=>.fz (r.mono f))
  (λh _ i s=>.tp (f _ _ h) (i (by rw[OV.Hz]at s;exact s)))
  (λh d g _ i s=>by
   rw[OV.EI]at s;exact .nd (s _ B1 _ h) (NK.b9 d λb e=>s b (BM _ (DN _ e))) g (i λa c=>s a (BM _ (C1 _ c))))
  (λ_=>.nil)
  (λ_ _ i k s=>by
   rw[OV.Dm]at s;exact .cons (i λa c=>s a (DN _ c)) (k λa c=>s a (C1 _ c)))
  r
theorem BW.mono(f:AQ F F'){ts:List OV}(r:BW F H vs ts)(s:∀a∈OV.B3 ts,∀o,H a=some o->H' a=some o):BW F' H' vs ts:=by
 induction ts generalizing vs with
 |nil=>cases r.DL;exact .nil
 |cons p ps d=>
  obtain⟨v,ws,rfl,a,b⟩:=r.inv;rw[OV.Dm]at s;exact .cons (a.mono f λa c=>s a (DN _ c)) (d b λa c=>s a (C1 _ c))
theorem Al.there{t:OV}(r:Al F H v t):∀a∈t.addrs,H a≠none:=
 Al.rec (motive_1:=λv t _=>∀a∈t.addrs,H a≠none) (motive_2:=λvs ts _=>∀a∈OV.B3 ts,H a≠none)
  (λ_ a c=>by rw[OV.MS]at c;cases c)
  (λ_ _ i a c=>i a (by rw[OV.Hz]at c;exact c))
  (λ{k b vs xs}h d f _ i a c=>by
   rw[OV.EI,Ec,KO]at c;rcases c with rfl|c|c
   .rw[h];exact λz=>by cases z
   .cases k with
    |obj C dx ns=>
     have e:a=dx:=List.mem_singleton.mp c;rw[e,show H dx=some (.own b)from d];exact λz=>by cases z
    |_=>cases c
   .exact i a c)
  (λa c=>by rw[OV.KY]at c;cases c)
  (λ_ _ i k a c=>by
   rw[OV.Dm,KO]at c;exact c.elim (i a) (k a))
  r
theorem BW.length{F H:Hp}{vs:List V}{ts:List OV}(r:BW F H vs ts):vs.length=ts.length:=by
 induction ts generalizing vs with
 |nil=>cases r.DL;rfl
 |cons p ps c=>obtain⟨v,ws,rfl,a,b⟩:=r.inv;exact sg (· + 1) (c b)
inductive Slot where
 |any|is (p:PV)|own (xs:List PV)|AD|sq (tp:Bool) (xs:List PV)|raw (P:Hp->V->Prop)|ow (lt:Bool) (t:OV)
variable{ss:List Slot}{s:Slot}{l8 nx:List Slot->Prop}
structure Ent0 where
 A:List Addr
 F0:Hp
 H0:Hp
 B:List Addr
variable{E:Ent0}
noncomputable abbrev E3(A:List Addr)(F H:Hp):Ent0:=⟨A,F,H,[]⟩
def Ok(E:Ent0)(F H:Hp):Slot->Option (Option V)->Prop
 | .any,_=>True
 | .is p,o=>∃v,o=some (some v)/\Rep F v p
 | .own xs,o=>∃l vs,o=some (some (.ref l))/\F l=none/\E.H0 l=none/\H l=some (.lst vs)/\AN F vs xs
 | .AD,o=>∃l,o=some (some (.ref l))/\F l=none/\(E.H0 l=none∨l∈E.A)/\Bi H l
 | .sq true xs,o=>∃v,o=some (some v)/\Rep F v (.tup xs)
 | .sq false xs,o=>∃l vs,o=some (some (.ref l))/\(l∉E.A/\l∉E.B)/\E.H0 l=some (.lst vs)/\AN F vs xs
 | .raw P,o=>∃v,o=some (some v)/\P F v/\∀F F',AQ F F'->P F v->P F' v
 | .ow lt t,o=>∃v,o=some (some v)/\Al F H v t/\t.addrs.Nodup/\∀a∈t.addrs,F a=none/\(E.H0 a=none∨(lt=true/\a∈E.B))
def Bg:Slot->Option (Option V)->Addr->Prop
 | .own _,o,l=>o=some (some (.ref l))
 | .AD,o,l=>o=some (some (.ref l))
 | .ow _ t,_,l=>l∈t.addrs
 |_,_,_=>False
structure Fin (E:Ent0) (F H:Hp):Prop where
 fh:AQ F H
 f0:AQ E.F0 F
 keep:∀a o,(a∉E.A/\a∉E.B)->E.H0 a=some o->H a=some o
 fresh:∀a o,F a=some o->E.F0 a=some o∨E.H0 a=none
 Dk:∀a,a∈E.A->Bi H a
 JZ:∀a,a∈E.A->F a=none
 a0:∀a,a∈E.A->E.H0 a≠none
 bF:∀a,a∈E.B->F a=none
 bH:∀a,a∈E.B->H a≠none
 b0:∀a,a∈E.B->E.H0 a≠none/\a∉E.A
structure Sg (E:Ent0) (ss:List Slot) (Z:L2.St) (F H:Hp):Prop extends Fin E F H where
 len:ss.length=Z.length
 ok:∀(i:Nat)s,ss[i]?=some s->Ok E F H s Z[i]?
 Ba:∀(i j:Nat)s u l,i≠j->ss[i]?=some s->ss[j]?=some u->Bg s Z[i]? l->¬ Bg u Z[j]? l
structure Ex where
 C:Addr
 ns:List Str
 xs:List PV
def Ex.at(x:Ex)(F:Hp)(C:Value)(dx:Option Addr):Prop:=
 C=.ref x.C/\((x.ns=[]/\x.xs=[]/\dx=none)∨∃a vs,dx=some a/\F a=some (.xd (x.ns.zip vs))/\x.ns.length=vs.length/\AN F vs x.xs)
class Xw where
 e:L2.St->XK
 J:List Slot->Prop
 D:Ex->Prop
structure Ent [Xw] extends Ent0 where
 hx:∀(ss:List Slot)(Z:L2.St)(F H:Hp)(x:Ex)(C:Value)(dx:Option Addr),Xw.J ss->Sg toEnt0 ss Z F H->Xw.D x->x.at F C dx->Xw.e Z C dx H
instance [Xw]:CoeOut Ent Ent0:=⟨Ent.toEnt0⟩
noncomputable instance noX:Xw:=⟨λ_=>E0,λ_=>True,λ_=>False⟩
def DF(ss:List Slot)(Z:L2.St)(a:Addr):Prop:=∀i:Nat,ss[i]?=some .AD->Z[i]?≠some (some (.ref a))
structure Mv (E:Ent0) (ss:List Slot) (Z:L2.St) (F H F' H':Hp):Prop where
 st:Sg E ss Z F' H'
 ff:AQ F F'
 hh:∀a o,DF ss Z a->H a=some o->H' a=some o
 nn:∀a o,F' a=some o->F a=some o∨H a=none
theorem Sg.P9(S:Sg E ss Z F H)(h:H l=none):DF ss Z l:=λi hi e=>by
 obtain⟨b,e1,_,_,_,_,a,_⟩:=S.ok i _ hi;rw[e]at e1;cases e1;rw[h]at a;cases a
theorem Mv.none(m:Mv E ss Z F H F' H')(h:H' a=none):H a=none:=by
 cases e:H a with
 |none=>rfl
 |some o=>rw[m.hh a o (m.st.P9 h) e]at h;cases h
theorem Mv.refl{E:Ent0}{ss:List Slot}{Z:L2.St}{F H:Hp}(S:Sg E ss Z F H):Mv E ss Z F H F H:=⟨S,AQ.refl _,λ_ _ _ e=>e,λ_ _ e=>.inl e⟩
theorem Mv.trans{F2 H2:Hp}(a:Mv E ss Z F H F1 H1)(b:Mv E ss Z F1 H1 F2 H2):Mv E ss Z F H F2 H2:=
 ⟨b.st,a.ff.trans b.ff,λc o n e=>b.hh c o n (a.hh c o n e),λc o e=>(b.nn c o e).elim (λe=>a.nn c o e) λe=>.inr (a.none e)⟩
theorem Sg.E6(S:Sg E ss Z F H){p:Addr}(h:H p=none):E.H0 p=none:=by
 cases e:E.H0 p with
 |none=>rfl
 |some o=>
  by_cases q:p∈E.A
  .obtain⟨_,_,e1,_⟩:=S.Dk p q;rw[h]at e1;cases e1
  .by_cases a:p∈E.B
   .exact absurd h (S.bH p a)
   .rw[S.keep p o ⟨q,a⟩ e]at h;cases h
theorem Sg.Bp(S:Sg E ss Z F H){p:Addr}(h:H p=none):F p=none:=AQ.none S.fh h
theorem Bi.keep(h:Bi H l)(k:∀o,H l=some o->H' l=some o):Bi H' l:=by
 obtain⟨a,b,e,r⟩:=h;exact⟨a,b,k _ e,r⟩
theorem Sg.jP(S:Sg E ss Z F H){o:HO}(h:F l=some o):DF ss Z l:=λi hi e=>by
 obtain⟨b,e1,a,_⟩:=S.ok i _ hi;rw[e]at e1;cases e1;rw[h]at a;cases a
theorem Sg.cj(S:Sg E ss Z F H){o:HO}(a:l∉E.A)(h:E.H0 l=some o):DF ss Z l:=λi hi e=>by
 obtain⟨b,e1,_,q,_⟩:=S.ok i _ hi;rw[e]at e1;cases e1;rcases q with q|q
 .rw[h]at q;cases q
 .exact a q
theorem Sg.ZE4(S:Sg E ss Z F H)(h:l∈E.B):DF ss Z l:=λi hi e=>by
 obtain⟨c,e1,_,q,_⟩:=S.ok i _ hi;rw[e]at e1;cases e1;obtain⟨b,a⟩:=S.b0 l h;rcases q with q|q
 .exact b q
 .exact a q
theorem Sg.HX(S:Sg E ss Z F H)(h:ss[i]?=some s)(m:Bg s Z[i]? l):H l≠none:=by
 have k:=S.ok i s h;cases s with
 |own xs=>obtain⟨b,vs,e1,_,_,a,_⟩:=k;rw[show Z[i]?=some (some (.ref l))from m]at e1;cases e1;rw[a];simp
 |AD=>obtain⟨b,e1,_,_,_,_,a,_⟩:=k;rw[show Z[i]?=some (some (.ref l))from m]at e1;cases e1;rw[a];simp
 |ow lt t=>obtain⟨v,_,r,_⟩:=k;exact r.there l m
 |_=>cases m
theorem Sg.OJ(S:Sg E ss Z F H)(h:ss[i]?=some s)(a:H l=none):¬ Bg s Z[i]? l:=λm=>S.HX h m a
theorem Sg.VL(S:Sg E ss Z F H)(h:ss[i]?=some s)(m:Bg s Z[i]? l)(np:s≠.AD):DF ss Z l:=λj a b=>
 S.Ba i j s _ l (by rintro rfl;rw[h]at a;exact np (BG a)) h a m b
theorem Ok.go(S:Sg E ss Z F H){i:Nat}{s:Slot}(hi:ss[i]?=some s)(ff:AQ F F')(hk:∀a o,Bg s Z[i]? a->H a=some o->H' a=some o)(Bp:∀a,H a≠none->F a=none->F' a=none)(np:s≠.AD):Ok E F' H' s Z[i]?:=by
 have k:=S.ok i s hi;cases s with
 |any=>trivial
 |is p=>obtain⟨v,e,r⟩:=k;exact⟨v,e,r.mono ff⟩
 |own xs=>
  obtain⟨l,vs,e,e1,c,d,r⟩:=k;exact⟨l,vs,e,Bp l (by rw[d];simp) e1,c,hk l _ e d,r.mono ff⟩
 |AD=>exact absurd rfl np
 |sq tp xs=>
  cases tp with
  |true=>obtain⟨v,e,r⟩:=k;exact⟨v,e,r.mono ff⟩
  |false=>obtain⟨l,vs,e,e1,c,r⟩:=k;exact⟨l,vs,e,e1,c,r.mono ff⟩
 |raw P=>obtain⟨v,e,r,st⟩:=k;exact⟨v,e,st _ _ ff r,st⟩
 |ow lt t=>
  obtain⟨v,e,r,nd,q⟩:=k;exact⟨v,e,r.mono ff λa b o=>hk a o b,nd,λa b=>⟨Bp a (r.there a b) (q a b).1,(q a b).2⟩⟩
theorem Sg.step(S:Sg E ss Z F H)(ff:AQ F F')(fh:AQ F' H')(hk:∀a o,DF ss Z a->H a=some o->H' a=some o)(d:∀a o,F' a=some o->F a=some o∨H a=none)
  (f:∀(i:Nat)l,ss[i]?=some .AD->Z[i]?=some (some (.ref l))->Bi H' l):Mv E ss Z F H F' H':=by
 have Bp:∀a,H a≠none->F a=none->F' a=none:=λa h1 h2=>by
  cases e:F' a with
  |none=>rfl
  |some o=>
   rcases d a o e with q|q
   .rw[h2]at q;cases q
   .exact absurd q h1
 have g:∀a,Bi H a->DF ss Z a->Bi H' a:=λa p n=>Bi.keep p λo e=>hk a o n e;refine⟨⟨⟨fh,S.f0.trans ff,λa o b e=>?_,λa o e=>?_,λa b=>?_,λa b=>?_,S.a0,λa c=>Bp a (S.bH a c) (S.bF a c),λa c=>?_,S.b0⟩,S.len,λi s hi=>?_,S.Ba⟩,ff,hk,d⟩
 .exact hk a o (S.cj b.1 e) (S.keep a o b e)
 .rcases d a o e with q|q
  .exact S.fresh a o q
  .exact .inr (S.E6 q)
 .by_cases q:∃i:Nat,ss[i]?=some .AD/\Z[i]?=some (some (.ref a))
  .obtain⟨i,j,h⟩:=q;exact f i a j h
  .exact g a (S.Dk a b) λi h1 h2=>q ⟨i,h1,h2⟩
 .refine Bp a ?_ (S.JZ a b);obtain⟨_,_,e1,_⟩:=S.Dk a b;rw[e1];simp
 .obtain⟨o,e⟩:=Option.ne_none_iff_exists'.mp (S.bH a c);rw[hk a o (S.ZE4 c) e];simp
 .by_cases np:s=.AD
  .subst np;obtain⟨l,e,e1,t,r⟩:=S.ok i _ hi;have u:=r;obtain⟨_,_,k,_⟩:=u;exact⟨l,e,Bp l (by rw[k];simp) e1,t,f i l hi e⟩
  .exact Ok.go S hi ff (λa o m=>hk a o (S.VL hi m np)) Bp np
theorem Sg.Fy(S:Sg E ss Z F H)(hi:ss[i]?=some .AD)(e:Z[i]?=some (some (.ref l))):Bi H l:=by
 obtain⟨a,e1,_,_,p⟩:=S.ok i _ hi;rw[e]at e1;cases e1;exact p
theorem Sg.alloc(S:Sg E ss Z F H){p:Addr}(h:H p=none)(o:HO):Mv E ss Z F H (upd F p o) (upd H p o):=by
 refine S.step (Cb (S.Bp h) _) (λa u e=>?_) (λa u _ e=>Cb h o a u e) (λa u e=>?_) λi l hi e=>Bi.keep (S.Fy hi e) λu e=>Cb h o l u e
 .by_cases q:a=p
  .subst q;rw[AV]at e ⊢;exact e
  .rw[AK q]at e ⊢;exact S.fh a u e
 .by_cases q:a=p
  .subst q;exact .inr h
  .rw[AK q]at e;exact .inl e
theorem Sg.make(S:Sg E ss Z F H){p:Addr}(h:H p=none)(o:HO):Mv E ss Z F H F (upd H p o):=
 S.step (AQ.refl _) (S.fh.trans (Cb h o)) (λa u _ e=>Cb h o a u e) (λa u e=>.inl e) λi l hi e=>Bi.keep (S.Fy hi e) λu e=>Cb h o l u e
theorem Sg.grow(S:Sg E ss Z F H)(s:AQ H H'):Mv E ss Z F H F H':=
 S.step (AQ.refl _) (S.fh.trans s) (λa u _ e=>s a u e) (λa u e=>.inl e) λi l hi e=>Bi.keep (S.Fy hi e) λu e=>s l u e
theorem Sg.setG(S:Sg E ss Z F H)(AB:Ok E F H s (some (some v)))(d:∀l,Bg s (some (some v)) l->∀(i:Nat)u,i≠j->ss[i]?=some u->¬ Bg u Z[i]? l):Sg E (ss.set j s) (Z.set j (some v)) F H:=by
 refine⟨S.toFin,by rw[GD,GD];exact S.len,λi u hi=>?_,λi k u w l MT hi hk mu b=>?_⟩
 .by_cases q:i=j
  .subst q;have a:i<ss.length:=by have:=(List.getElem?_eq_some_iff.mp hi).1;simpa using this
   rw[Ca a]at hi;cases hi;rw[Ca (by rw[<- S.len];exact a)];exact AB
  .rw[Bv (Az q)]at hi ⊢;exact S.ok i u hi
 .by_cases q:i=j
  .subst q;have a:i<ss.length:=by have:=(List.getElem?_eq_some_iff.mp hi).1;simpa using this
   rw[Ca a]at hi;rw[Ca (by rw[<- S.len];exact a)]at mu;cases hi;rw[Bv MT]at hk b;exact d l mu k w (Az MT) hk b
  .rw[Bv (Az q)]at hi mu
   by_cases c:k=j
   .subst c;have a:k<ss.length:=by have:=(List.getElem?_eq_some_iff.mp hk).1;simpa using this
    rw[Ca a]at hk;cases hk;rw[Ca (by rw[<- S.len];exact a)]at b;exact d l b i u MT hi mu
   .rw[Bv (Az c)]at hk b;exact S.Ba i k u w l MT hi hk mu b
theorem Sg.GZ(S:Sg E ss Z F H)(r:Rep F v p):Sg E (ss.set j (.is p)) (Z.set j (some v)) F H:=S.setG ⟨v,rfl,r⟩ λ_ h=>by cases h
def Sv(ss:List Slot)(Z:L2.St)(F H:Hp)(v:V):Bool->List PV->Prop
 |true,xs=>Rep F v (.tup xs)
 |false,xs=>∃l vs,v=.ref l/\DF ss Z l/\H l=some (.lst vs)/\AN F vs xs
def Fv(E:Ent0)(F:Hp)(v:V):Bool->List PV->Prop
 |true,xs=>Rep F v (.tup xs)
 |false,xs=>∃l vs,v=.ref l/\(F l=some (.lst vs)∨((l∉E.A/\l∉E.B)/\E.H0 l=some (.lst vs)))/\AN F vs xs
structure Wp [Xw] (ss:List Slot) (t:TE) (k:PV->Prop):Prop where
 go:∀(E:Ent)(Z:L2.St)(F H:Hp)(Q:VK),Sg E ss Z F H->(∀v p F' H',Mv E ss Z F H F' H'->Rep F' v p->k p->Q v H')->t Z H Q
structure Wn [Xw] (ss:List Slot) (t:TE) (k:List PV->Prop):Prop where
 go:∀(E:Ent)(Z:L2.St)(F H:Hp)(Q:VK),Sg E ss Z F H->(∀l vs xs F' H',Mv E ss Z F H F' H'->F' l=none->H l=none->H' l=some (.lst vs)->AN F' vs xs->k xs->Q (.ref l) H')->t Z H Q
structure Wq [Xw] (ss:List Slot) (t:TE) (k:Bool->List PV->Prop):Prop where
 go:∀(E:Ent)(Z:L2.St)(F H:Hp)(Q:VK),Sg E ss Z F H->(∀v tp xs F' H',Mv E ss Z F H F' H'->Sv ss Z F' H' v tp xs->k tp xs->Q v H')->t Z H Q
structure Wz [Xw] (ss:List Slot) (t:TE) (k:Bool->List PV->Prop):Prop where
 go:∀(E:Ent)(Z:L2.St)(F H:Hp)(Q:VK),Sg E ss Z F H->(∀v tp xs F' H',Mv E ss Z F H F' H'->Fv E F' v tp xs->k tp xs->Q v H')->t Z H Q
structure Wt [Xw] (ss:List Slot) (t:TT) (k:Bool->Prop):Prop where
 go:∀(E:Ent)(Z:L2.St)(F H:Hp)(Q:Bool->Hp->Prop),Sg E ss Z F H->(∀b F' H',Mv E ss Z F H F' H'->k b->Q b H')->t Z H Q
def Av(ss:List Slot)(Z:L2.St)(F H:Hp)(v:V):Slot->Prop
 | .is p=>Rep F v p
 | .sq tp xs=>Sv ss Z F H v tp xs
 | .raw P=>P F v/\∀F F',AQ F F'->P F v->P F' v
 |_=>False
inductive IJ (ss:List Slot) (Z:L2.St) (F H:Hp):List V->List Slot->Prop where
 |nil:IJ ss Z F H [] []
 |cons {v:V}{s:Slot}{vs:List V}{l:List Slot}:Av ss Z F H v s->IJ ss Z F H vs l->IJ ss Z F H (v::vs) (s::l)
structure Wa [Xw] (ss:List Slot) (t:TA) (k:List Slot->Prop):Prop where
 go:∀(E:Ent)(Z:L2.St)(F H:Hp)(Q:List V->Hp->Prop),Sg E ss Z F H->(∀vs l F' H',Mv E ss Z F H F' H'->IJ ss Z F' H' vs l->k l->Q vs H')->t Z H Q
inductive Ae where
 |is (k:PV->Prop)|new (k:List PV->Prop)|AD|ow (k:OV->Prop)|mt (k:PV->OV->Prop)|K4 (k:PV->OV->OV->Prop)|rk (k:PV->OV->OV->OV->Prop)
noncomputable def OV.val:OV->V
 | .nd _ a _=>.ref a
 |_=>.A8
def Ae.ok(R:Ae)(E:Ent0)(F' H':Hp)(v:V):Prop:=match R with
 | .is k=>∃p,Rep F' v p/\k p
 | .new k=>∃l vs xs,v=.ref l/\F' l=none/\E.H0 l=none/\H' l=some (.lst vs)/\AN F' vs xs/\k xs
 | .AD=>∃l,v=.ref l/\F' l=none/\E.H0 l=none/\Bi H' l
 | .ow k=>∃t,Al F' H' v t/\t.addrs.Nodup/\(∀a∈t.addrs,F' a=none/\E.H0 a=none)/\k t
 | .mt k=>∃p t,Rep F' v p/\Al F' H' t.val t/\t.addrs.Nodup/\(∀a∈t.addrs,F' a=none/\(E.H0 a=none∨a∈E.B))/\k p t
 | .K4 k=>∃p t u,Rep F' v p/\Al F' H' t.val t/\Al F' H' u.val u/\(t.addrs++u.addrs).Nodup/\(∀a∈t.addrs++u.addrs,F' a=none/\(E.H0 a=none∨a∈E.B))/\k p t u
 | .rk k=>∃p t u z,Rep F' v p/\Al F' H' t.val t/\Al F' H' u.val u/\Al F' H' z.val z/\(t.addrs++u.addrs++z.addrs).Nodup/\(∀a∈t.addrs++u.addrs++z.addrs,F' a=none/\(E.H0 a=none∨a∈E.B))/\k p t u z
structure Ws [Xw] (ss:List Slot) (t:TS) (nx:List Slot->Prop) (R:Ae):Prop where
 go:∀(E:Ent)(D:Ends)(Z:L2.St)(F H:Hp),Sg E ss Z F H->(∀A5 σ' F' H',nx A5->Sg E A5 σ' F' H'->AQ F F'->D.nx σ' H')->(∀v F' H',Fin E F' H'->R.ok E F' H' v->D.rt v H')->t D Z H
section
variable[Xw]
variable{K:ZHy}{tb:TE}{k:PV->Prop}{R:Ae}
theorem Sv.mv(h:Sv ss Z F H v tp xs)(m:Mv E ss Z F H F' H'):Sv ss Z F' H' v tp xs:=by
 cases tp with
 |true=>exact Rep.mono m.ff h
 |false=>
  obtain⟨l,vs,e,n,r,q⟩:=h;exact⟨l,vs,e,n,m.hh l _ n r,q.mono m.ff⟩
theorem Sv.seq(S:Sg E ss Z F H)(h:Sv ss Z F H v tp xs):∃l vs,v=.ref l/\H l=some (Ej tp vs)/\AN F vs xs:=by
 cases tp with
 |true=>cases h with|tup e r=>exact⟨_,_,rfl,S.fh _ _ e,r⟩
 |false=>obtain⟨l,vs,e,_,r,q⟩:=h;exact⟨l,vs,e,r,q⟩
theorem Fv.sv(S:Sg E ss Z F H)(h:Fv E F v tp xs):Sv ss Z F H v tp xs:=by
 cases tp with
 |true=>exact h
 |false=>
  obtain⟨l,vs,e,h1|⟨a,h1⟩,r⟩:=h
  .exact⟨l,vs,e,S.jP h1,S.fh _ _ h1,r⟩
  .exact⟨l,vs,e,S.cj a.1 h1,S.keep _ _ a h1,r⟩
theorem ofT{A B:Prop}(h:if true=true then A else B):A:=h
theorem T9{A B:Prop}(h:if false=true then A else B):B:=h
class Flt {α:Type} (f:α->PV) (g:outParam (α->V)):Prop where
 eq:∀{F:Hp}{v:V}{i:α},Rep F v (f i)->v=g i
instance:Flt PV.int V.int:=⟨λr=>r.inv⟩
instance:Flt PV.str V.str:=⟨λr=>r.inv⟩
instance:Flt PV.bl V.bl:=⟨λr=>r.inv⟩
instance:Flt (λn:Nat=>PV.int n) λn:Nat=>V.int n:=⟨λr=>r.inv⟩
theorem Wp.el{f:α->PV}{g:α->V}[i:Flt f g]{k:α->Prop}(h:Wp ss te λx=>∃i,x=f i/\k i)(E:Ent)(S:Sg E ss Z F H)(q:∀i F1 H1,Mv E ss Z F H F1 H1->k i->Q (g i) H1):te Z H Q:=
 h.go E Z F H Q S λv p F1 H1 m r z=>by
  obtain⟨j,e,kk⟩:=z;subst e;rw[i.eq r];exact q j F1 H1 m kk
theorem Wp.mono{k':PV->Prop}(h:Wp ss te k)(i:∀p,k p->k' p):Wp ss te k':=⟨λE Z F H Q S q=>h.go E Z F H Q S λv p F' H' m r kk=>q v p F' H' m r (i p kk)⟩
theorem A7(h:ss[i]?=some (.is p))(hk:k p):Wp ss (Aj i) k:=⟨λE Z F H Q S q=>by
 obtain⟨v,a,r⟩:=S.ok i _ h;exact⟨v,a,q v p F H (.refl S) r hk⟩⟩
theorem CQ{i:Int}(hk:k (.int i)):Wp ss (tC (.int i)) k:=⟨λE Z F H Q S q=>q _ _ F H (.refl S) (.int i) hk⟩
theorem sD{x:Str}(hk:k (.str x)):Wp ss (tC (.str x)) k:=⟨λE Z F H Q S q=>q _ _ F H (.refl S) (.str x) hk⟩
theorem GO(hk:k (.bl b)):Wp ss (tC (.bl b)) k:=⟨λE Z F H Q S q=>q _ _ F H (.refl S) (.bl b) hk⟩
theorem EE(hk:k .A8):Wp ss (tC .A8) k:=⟨λE Z F H Q S q=>q _ _ F H (.refl S) .A8 hk⟩
theorem CC(h:Wn ss te (λxs=>k (.lst xs))):Wp ss te k:=⟨λE Z F H Q S q=>h.go E Z F H Q S λl vs xs F' H' m c f DX r kk=>by
 have b:=m.st;have fr:Mv E ss Z F H (upd F' l (.lst vs)) H':=by
  have z:∀a,H' a≠none->a≠l->F' a=none->upd F' l (.lst vs) a=none:=λa _ h1 h2=>by rw[AK h1];exact h2
  refine⟨⟨⟨λa u e=>?_,b.f0.trans (Cb c _),b.keep,λa u e=>?_,b.Dk,λa y=>?_,b.a0,λa x=>?_,b.bH,b.b0⟩,b.len,λi s hi=>?_,b.Ba⟩,m.ff.trans (Cb c _),m.hh,λa u e=>?_⟩
  .by_cases q:a=l
   .subst q;rw[AV]at e;rw[<- e];exact DX
   .rw[AK q]at e;exact b.fh a u e
  .by_cases q:a=l
   .subst q;exact .inr (S.E6 f)
   .rw[AK q]at e;exact b.fresh a u e
  .by_cases q:a=l
   .subst q;obtain⟨_,_,e,_⟩:=S.Dk _ y;rw[f]at e;cases e
   .rw[AK q];exact b.JZ a y
  .by_cases q:a=l
   .subst q;exact absurd f (S.bH _ x)
   .rw[AK q];exact b.bF a x
  .have w:∀a,Bg s Z[i]? a->a≠l:=by
    rintro a m rfl;exact S.OJ hi f m
   have kk:=b.ok i s hi;cases s with
   |any=>trivial
   |is p=>obtain⟨v,e,r⟩:=kk;exact⟨v,e,r.mono (Cb c _)⟩
   |own ys=>
    obtain⟨d,ws,e,e1,g,n,r⟩:=kk;exact⟨d,ws,e,by rw[AK (w d e)];exact e1,g,n,r.mono (Cb c _)⟩
   |AD=>
    obtain⟨d,e,e1,g,n⟩:=kk;exact⟨d,e,by rw[AK (w d e)];exact e1,g,n⟩
   |sq tp ys=>
    cases tp with
    |true=>obtain⟨v,e,r⟩:=kk;exact⟨v,e,r.mono (Cb c _)⟩
    |false=>obtain⟨d,ws,e,e1,g,r⟩:=kk;exact⟨d,ws,e,e1,g,r.mono (Cb c _)⟩
   |raw P=>obtain⟨v,e,r,st⟩:=kk;exact⟨v,e,st _ _ (Cb c _) r,st⟩
   |ow lt t=>
    obtain⟨v,e,r,nd,q⟩:=kk;exact⟨v,e,r.mono (Cb c _) λa _ o h=>h,nd,λa j=>⟨by rw[AK (w a j)];exact(q a j).1,(q a j).2⟩⟩
  .by_cases q:a=l
   .subst q;exact .inr f
   .rw[AK q]at e;exact m.nn a u e
 exact q _ _ _ _ fr (.lst AV (r.mono (Cb c _))) kk⟩
theorem D3{k:Bool->List PV->Prop}(h:Wp ss te (λp=>∃xs,(p=.lst xs/\k false xs)∨(p=.tup xs/\k true xs))):Wq ss te k:=⟨λE Z F H Q S q=>h.go E Z F H Q S λv p F' H' m r AM=>by
 obtain⟨xs,h⟩:=AM;rcases h with⟨rfl,kk⟩|⟨rfl,kk⟩
 .cases r with|lst h r=>exact q _ false xs F' H' m ⟨_,_,rfl,m.st.jP h,m.st.fh _ _ h,r⟩ kk
 .exact q v true xs F' H' m r kk⟩
theorem Bj{k:Bool->List PV->Prop}(h:ss[i]?=some (.is (.lst xs)))(hk:k false xs):Wq ss (Aj i) k:=D3 (A7 h ⟨xs,.inl ⟨rfl,hk⟩⟩)
theorem J6{k:Bool->List PV->Prop}(h:ss[i]?=some (.is (.tup xs)))(hk:k true xs):Wq ss (Aj i) k:=D3 (A7 h ⟨xs,.inr ⟨rfl,hk⟩⟩)
theorem Km{k:Bool->List PV->Prop}(h:ss[i]?=some (.own xs))(hk:k false xs):Wq ss (Aj i) k:=⟨λE Z F H Q S q=>by
 obtain⟨l,vs,e,e1,b,a,r⟩:=S.ok i _ h;exact⟨_,e,q _ false xs F H (.refl S) ⟨l,vs,rfl,S.VL h e (by simp),a,r⟩ hk⟩⟩
theorem XH{k:Bool->List PV->Prop}(h:ss[i]?=some (.sq tp xs))(hk:k tp xs):Wz ss (Aj i) k:=⟨λE Z F H Q S q=>by
 have kk:=S.ok i _ h;cases tp with
 |true=>obtain⟨v,e,r⟩:=kk;exact⟨_,e,q _ true xs F H (.refl S) r hk⟩
 |false=>
  obtain⟨l,vs,e,a,b,r⟩:=kk;exact⟨_,e,q _ false xs F H (.refl S) ⟨l,vs,rfl,.inr ⟨a,b⟩,r⟩ hk⟩⟩
theorem DG{k:Bool->List PV->Prop}(h:Wp ss te (λp=>∃xs,(p=.lst xs/\k false xs)∨(p=.tup xs/\k true xs))):Wz ss te k:=⟨λE Z F H Q S q=>h.go E Z F H Q S λv p F' H' m r AM=>by
 obtain⟨xs,h⟩:=AM;rcases h with⟨rfl,kk⟩|⟨rfl,kk⟩
 .cases r with|lst h r=>exact q _ false xs F' H' m ⟨_,_,rfl,.inl h,r⟩ kk
 .exact q _ true xs F' H' m r kk⟩
theorem ZBB{k:Bool->List PV->Prop}(h:Wz ss te k):Wq ss te k:=⟨λE Z F H Q S q=>h.go E Z F H Q S λv tp xs F' H' m f kk=>q v tp xs F' H' m (f.sv m.st) kk⟩
theorem Mb{k:Bool->List PV->Prop}(h:ss[i]?=some (.sq tp xs))(hk:k tp xs):Wq ss (Aj i) k:=ZBB (XH h hk)
theorem ZCs{C:Int->Int->Prop}(h:Wp ss ta λx=>∃i,x=.int i/\Wp ss tb λy=>∃j,y=.int j/\C i j/\k (.int (f i j))):Wp ss (BE (rI C λi j=>.int (f i j)) ta tb) k:=⟨λE Z F H Q S q=>
 h.el E S λi F1 H1 a h2=>
  h2.el E a.st λj F2 H2 m2 b=>by
   obtain⟨c,kk⟩:=b;exact⟨i,j,rfl,rfl,c,q _ _ F2 H2 (a.trans m2) (.int _) kk⟩⟩
theorem bg(h:Wp ss ta λx=>∃i,x=.int i/\Wp ss tb λy=>∃j,y=.int j/\k (.int (f i j))):Wp ss (BE (Gu λi j=>.int (f i j)) ta tb) k:=⟨λE Z F H Q S q=>
 h.el E S λi F1 H1 a h2=>
  h2.el E a.st λj F2 H2 m2 kk=>by
   exact⟨i,j,rfl,rfl,q _ _ F2 H2 (a.trans m2) (.int _) kk⟩⟩
theorem dN{f:Int->Int->Bool}(h:Wp ss ta λx=>∃i,x=.int i/\Wp ss tb λy=>∃j,y=.int j/\k (.bl (f i j))):Wp ss (BE (Gu λi j=>.bl (f i j)) ta tb) k:=⟨λE Z F H Q S q=>
 h.el E S λi F1 H1 a h2=>
  h2.el E a.st λj F2 H2 m2 kk=>by
   exact⟨i,j,rfl,rfl,q _ _ F2 H2 (a.trans m2) (.bl _) kk⟩⟩
theorem fN{f:Int->Int}(h:Wp ss ta λx=>∃i,x=.int i/\k (.int (f i))):Wp ss (SJ (rU λi=>.int (f i)) ta) k:=⟨λE Z F H Q S q=>
 h.el E S λi F1 H1 a kk=>by
  exact⟨i,rfl,q _ _ F1 H1 a (.int _) kk⟩⟩
noncomputable def alike:PV->PV->Bool
 | .int i,.int j=>decide (i=j)
 | .str i,.str j=>decide (i=j)
 | .bl i,.bl j=>decide (i=j)
 | .A8,.A8=>true
 |_,_=>false
def MR(p q:PV):Bool:=flat p && flat q && UJ (Fz.enc p) (Fz.enc q)
theorem cG{q:PV}(h:MR p q=true):decide (Fz.enc p=Fz.enc q)=alike p q:=by
 unfold MR at h;rw[C7,C7]at h;obtain⟨⟨h1,h2⟩,a⟩:=h;cases p <;> first|exact Bool.noConfusion h1|skip
 all_goals cases q <;> first|exact Bool.noConfusion h2|exact Bool.noConfusion a|rfl|exact decide_eq_decide.mpr ⟨λe=>by injection e,sg _⟩
theorem Q7(h:Wp ss ta λx=>Wp ss tb λy=>MR x y=true/\k (.bl (alike x y))):Wp ss (BE cU ta tb) k:=⟨λE Z F H Q S q=>
 h.go E Z F H _ S λv p F1 H1 a c h2=>h2.go E Z F1 H1 _ a.st λv2 p2 F2 H2 m2 b AM=>by
  obtain⟨sc,kk⟩:=AM;have d:=sc;unfold MR at sc;rw[C7,C7]at sc;rw[c.enc sc.1.1,b.enc sc.1.2];refine⟨sc.2,?_⟩;rw[cG d];exact q _ _ F2 H2 (a.trans m2) (.bl _) kk⟩
theorem yd(h:Wp ss ta λx=>Wp ss tb λy=>MR x y=true/\k (.bl (!alike x y))):Wp ss (BE ee ta tb) k:=⟨λE Z F H Q S q=>
 h.go E Z F H _ S λv p F1 H1 a c h2=>h2.go E Z F1 H1 _ a.st λv2 p2 F2 H2 m2 b AM=>by
  obtain⟨sc,kk⟩:=AM;have d:=sc;unfold MR at sc;rw[C7,C7]at sc;rw[c.enc sc.1.1,b.enc sc.1.2];refine⟨sc.2,?_⟩;rw[cG d];exact q _ _ F2 H2 (a.trans m2) (.bl _) kk⟩
theorem Ht(h:Wp ss ta λx=>∃c,x=.bl c/\if c=true then Wp ss tb k else k (.bl false)):Wp ss (Yy ta tb) k:=⟨λE Z F H Q S q=>
 h.el E S λc F1 H1 a h2=>by
  refine⟨c,rfl,?_⟩;cases c with
  |true=>exact Np ((ofT h2).go E Z F1 H1 _ a.st λv2 p2 F2 H2 m2 b kk=>q _ _ F2 H2 (a.trans m2) b kk)
  |false=>exact HY (q _ _ F1 H1 a (.bl _) (T9 h2))⟩
theorem qV(h:Wp ss ta λx=>∃c,x=.bl c/\if c=true then k (.bl true)else Wp ss tb k):Wp ss (Ya ta tb) k:=⟨λE Z F H Q S q=>
 h.el E S λc F1 H1 a h2=>by
  refine⟨c,rfl,?_⟩;cases c with
  |true=>exact Np (q _ _ F1 H1 a (.bl _) (ofT h2))
  |false=>exact HY ((T9 h2).go E Z F1 H1 _ a.st λv2 p2 F2 H2 m2 b kk=>q _ _ F2 H2 (a.trans m2) b kk)⟩
theorem cw(h:Wp ss ta λx=>∃c,x=.bl c/\k (.bl (!c))):Wp ss (UB ta) k:=⟨λE Z F H Q S q=>
 h.el E S λc F1 H1 a kk=>⟨c,rfl,q _ _ F1 H1 a (.bl _) kk⟩⟩
theorem jV{f g:Int->Int->Bool}(h:Wp ss ta λx=>∃i,x=.int i/\Wp ss tb λy=>∃j,y=.int j/\if f i j=true then Wp ss tc (λz=>∃l,z=.int l/\k (.bl (g j l)))else k (.bl false)):
  Wp ss (V6 (Gu λi j=>.bl (f i j)) (Gu λi j=>.bl (g i j)) ta tb tc) k:=⟨λE Z F H Q S q=>
 h.el E S λi F1 H1 b h2=>
  h2.el E b.st λj F2 H2 m2 a=>by
   refine⟨i,j,rfl,rfl,f i j,rfl,?_⟩;cases c:f i j with
   |true=>
    rw[c,oM rfl]at a;rw[oM rfl];exact a.el E m2.st λl F3 H3 d kk=>by
     exact⟨j,l,rfl,rfl,q _ _ F3 H3 (b.trans (m2.trans d)) (.bl _) kk⟩
   |false=>
    rw[c,nr (by decide)]at a;rw[nr (by decide)];exact q _ _ F2 H2 (b.trans m2) (.bl _) a⟩
theorem D9{k:Bool->Prop}(h:Wp ss te λx=>∃c,x=.bl c/\k c):Wt ss (Pa te) k:=⟨λE Z F H Q S q=>
 h.el E S λc F1 H1 a kk=>⟨c,rfl,q _ F1 H1 a kk⟩⟩
theorem IF{k:Bool->Prop}(h:Wp ss te λx=>∃c,x=.bl c/\k c):Wt ss (tB te) k:=⟨λE Z F H Q S q=>
 h.el E S λc F1 H1 a kk=>⟨c,rfl,q _ F1 H1 a kk⟩⟩
theorem Gy{k:Bool->Prop}(h:k true):Wt ss Ie k:=⟨λE Z F H Q S q=>q _ F H (.refl S) h⟩
theorem Lx{t:TT}{k:Bool->Prop}(h:Wt ss t λc=>k (!c)):Wt ss (Ve t) k:=⟨λE Z F H Q S q=>h.go E Z F H _ S λc F1 H1 a kk=>q _ F1 H1 a kk⟩
theorem P5{t u:TT}{k:Bool->Prop}(h:Wt ss t λc=>if c=true then Wt ss u k else k false):Wt ss (WD t u) k:=⟨λE Z F H Q S q=>
 h.go E Z F H _ S λc F1 H1 a h2=>by
  show if c=true then _ else _
  cases c with
  |true=>exact Np ((ofT h2).go E Z F1 H1 _ a.st λc2 F2 H2 m2 kk=>q _ F2 H2 (a.trans m2) kk)
  |false=>exact HY (q _ F1 H1 a (T9 h2))⟩
theorem KU{t u:TT}{k:Bool->Prop}(h:Wt ss t λc=>if c=true then k true else Wt ss u k):Wt ss (OM t u) k:=⟨λE Z F H Q S q=>
 h.go E Z F H _ S λc F1 H1 a h2=>by
  show if c=true then _ else _
  cases c with
  |true=>exact Np (q _ F1 H1 a (ofT h2))
  |false=>exact HY ((T9 h2).go E Z F1 H1 _ a.st λc2 F2 H2 m2 kk=>q _ F2 H2 (a.trans m2) kk)⟩
end
structure We [Xw] (ss:List Slot) (t:TA) (k:List PV->Prop):Prop where
 go:∀(E:Ent)(Z:L2.St)(F H:Hp)(Q:List V->Hp->Prop),Sg E ss Z F H->(∀vs ps F' H',Mv E ss Z F H F' H'->AN F' vs ps->k ps->Q vs H')->t Z H Q
structure Wo [Xw] (ss:List Slot) (t:TO) (k:Option Int->Prop):Prop where
 go:∀(E:Ent)(Z:L2.St)(F H:Hp)(Q:Option Int->Hp->Prop),Sg E ss Z F H->(∀o F' H',Mv E ss Z F H F' H'->k o->Q o H')->t Z H Q
section
variable[Xw]
variable{K:ZHy}{tb:TE}{k:PV->Prop}{R:Ae}
theorem E8{k:List PV->Prop}(h:k []):We ss B6 k:=⟨λE Z F H Q S q=>q _ _ F H (.refl S) .nil h⟩
theorem Bz{k:List PV->Prop}(h:Wp ss te λp=>We ss t λps=>k (p::ps)):We ss (AZ te t) k:=⟨λE Z F H Q S q=>
 h.go E Z F H _ S λv p F1 H1 a c h2=>h2.go E Z F1 H1 _ a.st λvs ps F2 H2 m2 b kk=>q _ _ F2 H2 (a.trans m2) (.cons (c.mono m2.ff) b) kk⟩
theorem BL{k:List Slot->Prop}(h:k []):Wa ss B6 k:=⟨λE Z F H Q S q=>q _ _ F H (.refl S) .nil h⟩
theorem AR{k:List Slot->Prop}(h:Wp ss te λp=>Wa ss t λl=>k (.is p::l)):Wa ss (AZ te t) k:=⟨λE Z F H Q S q=>
 h.go E Z F H _ S λv p F1 H1 a c h2=>h2.go E Z F1 H1 _ a.st λvs l F2 H2 m2 b kk=>q _ _ F2 H2 (a.trans m2) (.cons (s:=.is p) (c.mono m2.ff) b) kk⟩
theorem DW{k:List Slot->Prop}(h:Wq ss te λtp xs=>Wa ss t λl=>k (.sq tp xs::l)):Wa ss (AZ te t) k:=⟨λE Z F H Q S q=>
 h.go E Z F H _ S λv tp xs F1 H1 a c h2=>h2.go E Z F1 H1 _ a.st λvs l F2 H2 m2 b kk=>q _ _ F2 H2 (a.trans m2) (.cons (s:=.sq tp xs) (c.mv m2) b) kk⟩
theorem Yb{k:List Slot->Prop}{P:Hp->V->Prop}(hi:ss[i]?=some (.raw P))(h:Wa ss t λl=>k (.raw P::l)):Wa ss (AZ (Aj i) t) k:=⟨λE Z F H Q S q=>by
 obtain⟨v,e,r,st⟩:=S.ok i _ hi;exact⟨v,e,h.go E Z F H _ S λvs l F2 H2 m2 a kk=>q _ _ F2 H2 m2 (.cons (s:=.raw P) ⟨st _ _ m2.ff r,st⟩ a) kk⟩⟩
theorem Ql{k:Option Int->Prop}(h:k none):Wo ss Va k:=⟨λE Z F H Q S q=>q _ F H (.refl S) h⟩
theorem MN{k:Option Int->Prop}(h:Wp ss te λp=>∃i,p=.int i/\k (some i)):Wo ss (VH te) k:=⟨λE Z F H Q S q=>
 h.el E S λi F1 H1 a kk=>⟨i,rfl,q _ F1 H1 a kk⟩⟩
theorem N4(h:n<=99999):n<sizeLine:=CI (Nat.lt_succ_of_le h) (small (Aa 100000))
theorem GY(h:We ss t λps=>ps.length<=100000/\k (.tup ps)):Wp ss (Su t) k:=⟨λE Z F H Q S q=>
 h.go E Z F H _ S λvs ps F1 H1 c b AM=>by obtain⟨d,kk⟩:=AM;exact⟨small (by rw[b.length];exact d),λa e=>by
  have m2:=c.st.alloc e (.tup vs);exact q _ _ _ _ (c.trans m2) (.tup AV (b.mono m2.ff)) kk⟩⟩
theorem Mx{k:List PV->Prop}(h:We ss t λps=>ps.length<=100000/\k ps):Wn ss (Sd t) k:=⟨λE Z F H Q S q=>
 h.go E Z F H _ S λvs ps F1 H1 b d AM=>by obtain⟨f,kk⟩:=AM;exact⟨small (by rw[d.length];exact f),λa c=>by
  have m2:=b.st.make c (.lst vs);refine q a vs ps F1 _ (b.trans m2) (b.st.Bp c) ?_ AV d kk;cases e:H a with
  |none=>rfl
  |some o=>rw[b.hh a o (b.st.P9 c) e]at c;cases c⟩⟩
theorem Kr(h:Wq ss te λ_ xs=>k (.int xs.length)):Wp ss (CH (Jk K) (AZ te B6)) k:=⟨λE Z F H Q S q=>
 h.go E Z F H _ S λv tp xs F1 H1 a sv kk=>by
  obtain⟨l,vs,rfl,b,r⟩:=sv.seq a.st;refine⟨l,vs,rfl,(Ej.sq (K:=K) b).or,?_⟩;rw[r.length];exact q _ _ F1 H1 a (.int _) kk⟩
theorem AN.Bf{i:Int}(r:AN F vs xs)(h:L2.Bf xs i=some p):∃u,L2.Bf vs i=some u/\Rep F u p:=by
 unfold L2.Bf at h ⊢;rw[r.length];cases e:FU xs.length i with
 |none=>rw[e]at h;cases h
 |some j=>
  rw[e]at h;exact r.get h
theorem GW(h:Wq ss ta λtp xs=>tp=false/\Wp ss tb λy=>∃i p,y=.int i/\L2.Bf xs i=some p/\k p):Wp ss (BE (Iw K) ta tb) k:=⟨λE Z F H Q S q=>
 h.go E Z F H _ S λv tp xs F1 H1 a sv⟨j,h2⟩=>h2.go E Z F1 H1 _ a.st λv2 p2 F2 H2 m2 c⟨i,p,e,g,kk⟩=>by
  subst e;cases c.inv;subst j;obtain⟨l,vs,rfl,f,r⟩:=(sv.mv m2).seq m2.st;obtain⟨u,d,b⟩:=r.Bf g;exact⟨l,vs,i,u,rfl,rfl,AL.of f,d,q _ _ F2 H2 (a.trans m2) b kk⟩⟩
theorem Nx(h:Wq ss ta λtp xs=>tp=true/\Wp ss tb λy=>∃i p,y=.int i/\L2.Bf xs i=some p/\k p):Wp ss (BE (Ip K) ta tb) k:=⟨λE Z F H Q S q=>
 h.go E Z F H _ S λv tp xs F1 H1 a sv⟨j,h2⟩=>h2.go E Z F1 H1 _ a.st λv2 p2 F2 H2 m2 c⟨i,p,e,g,kk⟩=>by
  subst e;cases c.inv;subst j;obtain⟨l,vs,rfl,f,r⟩:=(sv.mv m2).seq m2.st;obtain⟨u,d,b⟩:=r.Bf g;exact⟨l,vs,i,u,rfl,rfl,Ax.of f,d,q _ _ F2 H2 (a.trans m2) b kk⟩⟩
theorem i4(h:Wp ss ta λp=>∃x,p=.str x/\Wq ss tb λ_ ys=>∃ns:List Str,ys=ns.map PV.str/\k (.bl (if neg then !decide (x∈ns)else decide (x∈ns)))):Wp ss (BE (FP K neg) ta tb) k:=⟨λE Z F H Q S q=>
 h.el E S λx F1 H1 a h2=>by
  exact h2.go E Z F1 H1 _ a.st λv2 tp ys F2 H2 m2 sv IY=>by
   obtain⟨ns,c,kk⟩:=IY;subst c;obtain⟨l,vs,rfl,b,r⟩:=sv.seq m2.st;rw[r.strs]at b;refine⟨l,_,rfl,(Ej.sq (K:=K) b).or,rfl,Kw ns,?_⟩;rw[Xv];exact q _ _ F2 H2 (a.trans m2) (.bl _) kk⟩
theorem QC{k:List PV->Prop}(d:r=λxs H Q=>∃p ys,xs=[.ref p]/\(AL K H p ys∨Ax K H p ys)/\∀l,H l=none->Q (.ref l) (upd H l (.lst ys)))(h:Wq ss te λ_ xs=>k xs):Wn ss (CH r (AZ te B6)) k:=⟨λE Z F H Q S q=>
 h.go E Z F H _ S λv tp xs F1 H1 b sv kk=>by
  subst d;obtain⟨l,vs,rfl,e,r⟩:=sv.seq b.st;refine⟨l,vs,rfl,(Ej.sq (K:=K) e).or,λa c=>?_⟩;have m2:=b.st.make c (.lst vs);exact q a vs xs F1 _ (b.trans m2) (b.st.Bp c) (b.none c) AV r kk⟩
theorem U8(c:r=λxs H Q=>∃p ys,xs=[.ref p]/\((AL K H p ys/\∀l,H l=none->Q (.ref l) (upd H l (.tup ys)))∨(Ax K H p ys/\Q (.ref p) H)))(h:Wq ss te λ_ xs=>k (.tup xs)):Wp ss (CH r (AZ te B6)) k:=⟨λE Z F H Q S q=>
 h.go E Z F H _ S λv tp xs F1 H1 b sv kk=>by
  subst c;cases tp with
  |false=>
   obtain⟨l,vs,rfl,d,r⟩:=sv.seq b.st;refine⟨l,vs,rfl,.inl ⟨AL.of d,λa f=>?_⟩⟩;have m2:=b.st.alloc f (.tup vs);exact q _ _ _ _ (b.trans m2) (.tup AV (r.mono m2.ff)) kk
  |true=>
   have g:Rep F1 v (.tup xs):=sv;cases g with
   |tup e r=>exact⟨_,_,rfl,.inr ⟨Ax.of (b.st.fh _ _ e),q _ _ F1 H1 b (.tup e r) kk⟩⟩⟩
theorem lO{k:List PV->Prop}(h:Wq ss ta λtp xs=>tp=false/\Wq ss tb λCo ys=>Co=false/\xs.length+ys.length<=100000/\k (xs++ys)):Wn ss (BE cn ta tb) k:=⟨λE Z F H Q S q=>
 h.go E Z F H _ S λv tp xs F1 H1 b sv⟨i,h2⟩=>h2.go E Z F1 H1 _ b.st λv2 Co ys F2 H2 m2 Ih⟨OA,f,kk⟩=>by
  subst i;subst OA;obtain⟨l,vs,rfl,g,r⟩:=(sv.mv m2).seq m2.st;obtain⟨l2,HC,rfl,Bk,d⟩:=Ih.seq m2.st;refine⟨l,l2,vs,HC,rfl,rfl,g,Bk,small (by rw[r.length,d.length];exact f),λa c=>?_⟩;have e:=m2.st.make c (.lst (vs++HC));exact q a _ _ F2 _ (b.trans (m2.trans e)) (m2.st.Bp c) ((b.trans m2).none c) AV (r.append d) kk⟩
def Es(xs:List α)(lo hi:Option Int):List α:=(xs.drop (HT.Aq xs.length 0 lo)).take (HT.Aq xs.length xs.length hi - HT.Aq xs.length 0 lo)
theorem AN.cut(r:AN F vs xs)(lo hi:Option Int):AN F (KD vs lo hi) (Es xs lo hi):=by
 unfold KD Es;rw[r.length];exact(r.drop _).take _
theorem kD{k:List PV->Prop}(h:Wq ss te λ_ xs=>∃ns:List Str,xs=ns.map PV.str/\ns.length<64/\∀Dj:List Str,Dj.Perm ns->sortedS Dj=true->k (Dj.map PV.str)):Wn ss (CH (RF K) (AZ te B6)) k:=⟨λE Z F H Q S q=>
 h.go E Z F H _ S λv tp xs F1 H1 b sv AM=>by
  obtain⟨ns,e,f,kk⟩:=AM;subst e;obtain⟨l,vs,rfl,d,r⟩:=sv.seq b.st;rw[r.strs]at d;refine⟨l,tp,ns,rfl,Ej.sq d,f,λa Dj c i g=>?_⟩;have m2:=b.st.make c (.lst (Dj.map V.str));exact q a _ _ F1 _ (b.trans m2) (b.st.Bp c) (b.none c) AV (Rv Dj) (kk Dj i g)⟩
theorem xE(xs ys:List Str):GU (xs.map V.str) (ys.map V.str)=decide (xs=ys):=by
 by_cases h:xs=ys
 .subst h;rw[tE,oW rfl]
 .rw[sX h]
  by_cases a:xs.length=ys.length
  .rw[La (by simpa using a)]
   cases c:(List.range (xs.map V.str).length).all λj=>E5 ((xs.map V.str).getD j .A8) ((ys.map V.str).getD j .A8)with
   |false=>rfl
   |true=>
    exfalso;apply h;apply ZP a;intro j h1 h2;have q:=List.all_eq_true.mp c j (List.mem_range.mpr (by simpa using h1))
    have e1:(xs.map V.str)[j]?=some (.str xs[j]):=by rw[Ah,Au h1];rfl
    have d:(ys.map V.str)[j]?=some (.str ys[j]):=by rw[Ah,Au h2];rfl
    rw[K6 e1,K6 d]at q;have b:(xs[j] == ys[j])=true:=q
    simpa using b
  .rw[LM (by simpa using a)]
theorem eM(h:Wq ss ta λtp xs=>∃ns:List Str,xs=ns.map PV.str/\Wq ss tb λCo ys=>Co=tp/\∃ms:List Str,ys=ms.map PV.str/\k (.bl (if neg then !decide (ns=ms)else decide (ns=ms)))):Wp ss (BE (Jo K neg) ta tb) k:=⟨λE Z F H Q S q=>
 h.go E Z F H _ S λv tp xs F1 H1 a sv⟨ns,e1,h2⟩=>h2.go E Z F1 H1 _ a.st λv2 Co ys F2 H2 m2 Ih⟨d,ms,e,kk⟩=>by
  subst e1;subst e;subst d;obtain⟨l,vs,rfl,b,r⟩:=(sv.mv m2).seq m2.st;obtain⟨l2,HC,rfl,Bk,c⟩:=Ih.seq m2.st;rw[r.strs]at b;rw[c.strs]at Bk;refine⟨l,l2,ns.map V.str,ms.map V.str,rfl,rfl,?_,Kw _,Kw _,?_⟩
  .cases Co
   .exact .inl ⟨AL.of b,AL.of Bk⟩
   .exact .inr ⟨Ax.of b,Ax.of Bk⟩
  .rw[xE];cases neg
   .exact q _ _ F2 H2 (a.trans m2) (.bl _) kk
   .exact q _ _ F2 H2 (a.trans m2) (.bl _) kk⟩
theorem SK(c:r=λxs H Q=>∃(p:Addr)(bs:List Bool),xs=[.ref p]/\AL K H p (bs.map V.bl)/\Q (.bl (bs.all id)) H)(h:Wq ss te λtp xs=>tp=false/\∃bs:List Bool,xs=bs.map PV.bl/\k (.bl (bs.all id))):Wp ss (CH r (AZ te B6)) k:=⟨λE Z F H Q S q=>
 h.go E Z F H _ S λv tp xs F1 H1 a sv AM=>by
  obtain⟨d,bs,e,kk⟩:=AM;subst c;subst e;subst d;obtain⟨l,vs,rfl,b,r⟩:=sv.seq a.st;rw[r.Xk]at b;exact⟨l,bs,rfl,AL.of b,q _ _ F1 H1 a (.bl _) kk⟩⟩
theorem i5(c:r=λxs H Q=>∃(p:Addr)(bs:List Bool),xs=[.ref p]/\AL K H p (bs.map V.bl)/\Q (.bl (bs.any id)) H)(h:Wq ss te λtp xs=>tp=false/\∃bs:List Bool,xs=bs.map PV.bl/\k (.bl (bs.any id))):Wp ss (CH r (AZ te B6)) k:=⟨λE Z F H Q S q=>
 h.go E Z F H _ S λv tp xs F1 H1 a sv AM=>by
  obtain⟨d,bs,e,kk⟩:=AM;subst c;subst e;subst d;obtain⟨l,vs,rfl,b,r⟩:=sv.seq a.st;rw[r.Xk]at b;exact⟨l,bs,rfl,AL.of b,q _ _ F1 H1 a (.bl _) kk⟩⟩
noncomputable def tyP:PV->String
 | .A8 => "NoneType"
 | .bl _ => "bool"
 | .int _ => "int"
 | .str _ => "str"
 | .lst _ => "list"
 | .tup _ => "tuple"
 | .B2 _ _ => "dict"
 |_ => ""
def Q6:PV->Value
 | .obj _ _ _=>.none
 | .exc _ _ _=>.none
 | .con _ _=>.none
 |p=>.type (tyP p)
theorem pW(c:r=λxs H Q=>∃i j,xs=[.int i,.int j]/\Q (.int (if j > i then j else i)) H)(h:Wp ss ta λx=>∃i,x=.int i/\Wp ss tb λy=>∃j,y=.int j/\k (.int (if j > i then j else i))):Wp ss (CH r (AZ ta (AZ tb B6))) k:=⟨λE Z F H Q S q=>
 h.go E Z F H _ S λv p F1 H1 a b AM=>by
  obtain⟨i,e1,h2⟩:=AM;subst c;subst e1;cases b.inv;exact h2.el E a.st λj F2 H2 m2 kk=>by
   exact⟨i,j,rfl,q _ _ F2 H2 (a.trans m2) (.int _) kk⟩⟩
theorem ux(c:r=λxs H Q=>∃i j,xs=[.int i,.int j]/\Q (.int (if j<i then j else i)) H)(h:Wp ss ta λx=>∃i,x=.int i/\Wp ss tb λy=>∃j,y=.int j/\k (.int (if j<i then j else i))):Wp ss (CH r (AZ ta (AZ tb B6))) k:=⟨λE Z F H Q S q=>
 h.go E Z F H _ S λv p F1 H1 a b AM=>by
  obtain⟨i,e1,h2⟩:=AM;subst c;subst e1;cases b.inv;exact h2.el E a.st λj F2 H2 m2 kk=>by
   exact⟨i,j,rfl,q _ _ F2 H2 (a.trans m2) (.int _) kk⟩⟩
end
structure Src (E:Ent0) (F1:Hp) (J:It) (xs:List PV):Prop where
 go:∀(ss:List Slot)(Z:L2.St)(F H:Hp)(i:Nat),AQ F1 F->Sg E ss Z F H->i<xs.length->J.go i H
 stop:∀(ss:List Slot)(Z:L2.St)(F H:Hp),AQ F1 F->Sg E ss Z F H->J.stop xs.length H
 EK:∀(ss:List Slot)(Z:L2.St)(F H:Hp)(i:Nat)(x:V)(H':Hp),AQ F1 F->Sg E ss Z F H->i<xs.length->J.EK i H x H'->∃p F',xs[i]?=some p/\Mv E ss Z F H F' H'/\Rep F' x p
structure Wi [Xw] (ss:List Slot) (wi:TI) (k:List PV->Prop):Prop where
 go:∀(E:Ent)(Z:L2.St)(F H:Hp)(R:It->Hp->Prop),Sg E ss Z F H->(∀J xs F' H',Mv E ss Z F H F' H'->Src E F' J xs->k xs->R J H')->wi Z H R
structure Wg [Xw] (ss:List Slot) (g:TG) (p:PV) (k:List Slot->Prop):Prop where
 go:∀(E:Ent)(Z:L2.St)(F H:Hp)(v:V)(Q:L2.St->Hp->Prop),Sg E ss Z F H->Rep F v p->(∀A5 σ',k A5->Sg E A5 σ' F H->Q σ' H)->g v Z H Q
section
variable[Xw]
variable{K:ZHy}{tb:TE}{k:PV->Prop}{R:Ae}
theorem ka(h:∀(ss:List Slot)(Z:L2.St)(F H:Hp),AQ F' F->Sg E ss Z F H->H l=some (Ej tp vs))(r:AN F' vs xs):Src E F' (KZ K tp l vs) xs where
 go:=λss Z F H i s S hi=>⟨Ej.sq (h ss Z F H s S),by rw[r.length];exact hi⟩
 stop:=λss Z F H s S=>⟨Ej.sq (h ss Z F H s S),by rw[r.length];exact Aa _⟩
 EK:=λss Z F H i x H' s S hi y=>by
  obtain⟨e,hx⟩:=y;subst e;obtain⟨p,b,a⟩:=r.get' hx;exact⟨p,F,b,.refl S,a.mono s⟩
theorem Ef{k:List PV->Prop}(h:Wz ss te λ_ xs=>k xs):Wi ss (QV K te) k:=⟨λE Z F H R S q=>
 h.go E Z F H _ S λv tp xs F1 H1 a f kk=>by
  cases tp with
  |true=>
   have c:Rep F1 v (.tup xs):=f;cases c with
   |tup e r=>exact⟨true,_,_,rfl,Ax.of (a.st.fh _ _ e),q _ _ F1 H1 a (ka (tp:=true) (λss Z F H s S=>S.fh _ _ (s _ _ e)) r) kk⟩
  |false=>
   obtain⟨l,vs,rfl,h1,r⟩:=f;have b:∀(ss:List Slot)(Z:L2.St)(F H:Hp),AQ F1 F->Sg E ss Z F H->H l=some (.lst vs):=λss Z F H s S=>by
    rcases h1 with h1|⟨hA,h1⟩
    .exact S.fh _ _ (s _ _ h1)
    .exact S.keep _ _ hA h1
   exact⟨false,l,vs,rfl,AL.of (b ss Z F1 H1 (AQ.refl _) a.st),q _ _ F1 H1 a (ka (tp:=false) b r) kk⟩⟩
noncomputable def KW(n:Nat):List PV:=(List.range n).map λi:Nat=>PV.int (i:Int)
theorem Hv(n:Nat):(KW n).length=n:=by simp[KW]
theorem RK(h:(KW n)[i]?=some p):i<n/\p=.int (i:Int):=by
 have hi:i<n:=by have:=(List.getElem?_eq_some_iff.mp h).1;rwa [Hv]at this
 unfold KW at h;rw[Ah,ZS hi]at h;exact⟨hi,(BG h).symm⟩
theorem O8{k:List PV->Prop}(h:Wp ss te λp=>∃j:Int,p=.int j/\j<=1000000/\-1000000<=j/\k (KW j.toNat)):Wi ss (WZ (AZ te B6)) k:=⟨λE Z F H R S q=>
 h.el E S λj F1 H1 b a=>by
  obtain⟨h1,h2,kk⟩:=a;refine⟨j,rfl,by omega,by omega,q _ (KW j.toNat) F1 H1 b ⟨λss Z F H i s S hi=>?_,λss Z F H s S=>?_,λss Z F H i x H' s S hi y=>?_⟩ kk⟩
  .rw[Hv]at hi;exact hi
  .show _<=_;rw[Hv];exact Aa _
  .obtain⟨e,hx⟩:=y;subst e;subst hx;rw[Hv]at hi;refine⟨.int (i:Int),F,?_,.refl S,?_⟩
   .unfold KW;rw[Ah,ZS hi];rfl
   .rw[Int.zero_add];exact .int _⟩
theorem IE{k:List Slot->Prop}(h:k (ss.set j (.is p))):Wg ss (CZ j) p k:=⟨λE Z F H v Q S r q=>q _ _ h (S.GZ r)⟩
theorem iy{k:List Slot->Prop}(h:∃a b,p=.tup [a,b]/\k ((ss.set i (.is a)).set j (.is b))):Wg ss (JY K 2 (JS (CZ i) (JS (CZ j) Oy))) p k:=⟨λE Z F H v Q S r q=>by
 obtain⟨a,b,rfl,kk⟩:=h;obtain⟨_,_,rfl,e,r⟩:=r.inv;obtain⟨_,_,rfl,d,r⟩:=r.inv;obtain⟨_,_,rfl,c,r⟩:=r.inv;obtain rfl:=r.DL;exact⟨_,_,rfl,Ax.of (S.fh _ _ e),rfl,_,_,rfl,_,_,rfl,rfl,q _ _ kk ((S.GZ d).GZ c)⟩⟩
theorem qw{l:Nat}{k:List Slot->Prop}(h:∃a b c,p=.tup [a,b,c]/\k (((ss.set i (.is a)).set j (.is b)).set l (.is c))):Wg ss (JY K 3 (JS (CZ i) (JS (CZ j) (JS (CZ l) Oy)))) p k:=⟨λE Z F H v Q S r q=>by
 obtain⟨a,b,c,rfl,kk⟩:=h;obtain⟨_,_,rfl,e,r⟩:=r.inv;obtain⟨_,_,rfl,g,r⟩:=r.inv;obtain⟨_,_,rfl,f,r⟩:=r.inv;obtain⟨_,_,rfl,d,r⟩:=r.inv;obtain rfl:=r.DL;exact⟨_,_,rfl,Ax.of (S.fh _ _ e),rfl,_,_,rfl,_,_,rfl,_,_,rfl,rfl,q _ _ kk (((S.GZ g).GZ f).GZ d)⟩⟩
theorem B0{t:TS}(h:Ws ss t (λA5=>Ws A5 u nx R) R):Ws ss (Hq t u) nx R:=⟨λE D Z F H S c a=>
 h.go E { D with nx:=u D } Z F H S (λA5 σ' F' H' w S' s=>w.go E D σ' F' H' S' (λC6 σ2 F2 H2 b S2 s2=>c C6 σ2 F2 H2 b S2 (s.trans s2)) a) a⟩
theorem Ek{t:TS}(h:Ws ss t nx R):Ws ss (Qh t) nx R:=⟨λE D Z F H S b a=>⟨D.nx,h.go E { D with nx:=D.nx } Z F H S b a,λ_ _ q=>q⟩⟩
theorem Ws.mono{t:TS}(h:Ws ss t nx R)(i:∀s,nx s->l8 s):Ws ss t l8 R:=⟨λE D Z F H S b a=>h.go E D Z F H S (λA5 σ' F' H' n=>b A5 σ' F' H' (i _ n)) a⟩
theorem MQ{t:TS}(J:List Slot->Prop)(h:Ws ss t J R)(h2:∀A5,J A5->Ws A5 u nx R):Ws ss (Hq t u) nx R:=B0 (h.mono h2)
theorem KG(h:Wp ss te λp=>nx (ss.set i (.is p))):Ws ss (Df te (CZ i)) nx R:=⟨λE D Z F H S b c=>
 h.go E Z F H _ S λv p F1 H1 a r kk=>b _ _ F1 H1 kk (a.st.GZ r) a.ff⟩
theorem r8(h:Wp ss te λp=>Wg ss g p nx):Ws ss (Df te g) nx R:=⟨λE D Z F H S b c=>
 h.go E Z F H _ S λv p F1 H1 a r kk=>kk.go E Z F1 H1 v _ a.st r λA5 σ' n S'=>b _ _ F1 H1 n S' a.ff⟩
theorem Fx(h:Wn ss te λxs=>nx (ss.set i (.own xs))):Ws ss (Df te (CZ i)) nx R:=⟨λE D Z F H S d k=>
 h.go E Z F H _ S λl vs xs F1 H1 a f b HJ r kk=>d _ _ F1 H1 kk (a.st.setG ⟨l,vs,rfl,f,S.E6 b,HJ,r⟩ λg e j u _ c mu=>by cases e;exact S.OJ c b mu) a.ff⟩
theorem Bq(h:Wp ss te k):Ws ss (Hw te) nx (.is k):=⟨λE D Z F H S c b=>
 h.go E Z F H _ S λv p F1 H1 a r kk=>b v F1 H1 a.st.toFin ⟨p,r,kk⟩⟩
theorem NA{k:List PV->Prop}(h:Wn ss te k):Ws ss (Hw te) nx (.new k):=⟨λE D Z F H S e b=>
 h.go E Z F H _ S λl vs xs F1 H1 a d c HJ r kk=>b _ F1 H1 a.st.toFin ⟨l,vs,xs,rfl,d,S.E6 c,HJ,r,kk⟩⟩
theorem RB{k:List PV->Prop}(h:ss[i]?=some (.own xs))(kk:k xs):Ws ss (Hw (Aj i)) nx (.new k):=⟨λE D Z F H S d a=>by
 obtain⟨l,vs,e,e1,c,b,r⟩:=S.ok i _ h;exact⟨_,e,a _ F H S.toFin ⟨l,vs,xs,rfl,e1,c,b,r,kk⟩⟩⟩
theorem D8{t:TS}(h:Wt ss c λb=>if b=true then Ws ss t nx R else Ws ss u nx R):Ws ss (Mt c t u) nx R:=⟨λE D Z F H S e d=>
 h.go E Z F H _ S λb F1 H1 a w=>by
  show if b=true then _ else _
  cases b with
  |true=>rw[oM rfl]at w ⊢;exact w.go E D Z F1 H1 a.st (λC6 σ2 F2 H2 n S2 s2=>e C6 σ2 F2 H2 n S2 (a.ff.trans s2)) d
  |false=>rw[nr (by decide)]at w ⊢;exact w.go E D Z F1 H1 a.st (λC6 σ2 F2 H2 n S2 s2=>e C6 σ2 F2 H2 n S2 (a.ff.trans s2)) d⟩
theorem BU(h:nx ss):Ws ss MX nx R:=⟨λE D Z F H S a b=>a ss Z F H h S (AQ.refl _)⟩
theorem JX(h:Wp ss te λ_=>nx ss):Ws ss (Iv te) nx R:=⟨λE D Z F H S b c=>
 h.go E Z F H _ S λv p F1 H1 a r kk=>b ss Z F1 H1 kk a.st a.ff⟩
theorem Sg.drop(S:Sg E ss Z F H)(i:Nat):Sg E (ss.set i .any) Z F H:=by
 have b:∀(j:Nat)u,(ss.set i .any)[j]?=some u->u=.any∨ss[j]?=some u:=λj u a=>by
  by_cases q:j=i
  .subst q;have d:j<ss.length:=by have:=(List.getElem?_eq_some_iff.mp a).1;simpa using this
   rw[Ca d]at a;exact .inl (BG a).symm
  .rw[Bv (Az q)]at a;exact .inr a
 refine⟨S.toFin,by rw[GD];exact S.len,λj u a=>?_,λj k u w l RJ a hk mu c=>?_⟩
 .rcases b j u a with rfl|h
  .trivial
  .exact S.ok j u h
 .rcases b j u a with rfl|h
  .cases mu
  .rcases b k w hk with rfl|h2
   .cases c
   .exact S.Ba j k u w l RJ h h2 mu c
theorem MC(e:Z[i]?=some (some v)):Z.set i (some v)=Z:=by
 apply ZQ;intro j
 by_cases q:j=i
 .subst q;rw[Ca (List.getElem?_eq_some_iff.mp e).1,e]
 .rw[Bv (Az q)]
theorem Sg.Qs(S:Sg E ss Z F H){o:HO}(k:F a=none)(c:E.H0 a=none∨a∈E.B)(g:∀(i:Nat)s,ss[i]?=some s->¬ Bg s Z[i]? a):Sg E ss Z F (upd H a o):=by
 have f:∀b u,b≠a->H b=some u->upd H a o b=some u:=λb u h e=>by rw[AK h];exact e
 refine⟨⟨λb u e=>?_,S.f0,λb u d e=>?_,S.fresh,λb d=>?_,S.JZ,S.a0,S.bF,λb j=>?_,S.b0⟩,S.len,λi s hi=>?_,S.Ba⟩
 .exact f b u (DS e k) (S.fh b u e)
 .refine f b u ?_ (S.keep b u d e);rintro rfl;rcases c with c|c
  .rw[c]at e;cases e
  .exact d.2 c
 .refine Bi.keep (S.Dk b d) λu e=>f b u ?_ e;rintro rfl;rcases c with c|c
  .exact S.a0 _ d c
  .exact(S.b0 _ c).2 d
 .by_cases q:b=a
  .subst q;rw[AV];simp
  .rw[AK q];exact S.bH b j
 .by_cases np:s=.AD
  .subst np;obtain⟨l,e,e1,p,n⟩:=S.ok i _ hi;exact⟨l,e,e1,p,Bi.keep n λu h=>f l u (by rintro rfl;exact g i _ hi e) h⟩
  .exact Ok.go S hi (AQ.refl _) (λb u m h=>f b u (by rintro rfl;exact g i _ hi m) h) (λ_ _ h=>h) np
theorem Sg.put(S:Sg E ss Z F H)(hi:ss[i]?=some (.own xs))(e:Z[i]?=some (some (.ref l)))(f:F l=none)(d:E.H0 l=none)(r:AN F Bx ys):Sg E (ss.set i (.own ys)) Z F (upd H l (.lst Bx)):=by
 have a:∀(j:Nat)s,(ss.set i .any)[j]?=some s->¬ Bg s Z[j]? l:=λj s b c=>by
  by_cases q:j=i
  .subst q;have n:j<ss.length:=(List.getElem?_eq_some_iff.mp hi).1;rw[Ca n]at b;cases b;cases c
  .rw[Bv (Az q)]at b;exact S.Ba j i s _ l q b hi c e
 have m:=(S.drop i).Qs (o:=.lst Bx) f (.inl d) a;have g:=m.setG (j:=i) (s:=.own ys) (v:=.ref l) ⟨l,Bx,rfl,f,d,AV,r⟩ λp k j u b h mu=>by cases k;exact a j u h mu
 rw[MC e,Th]at g;exact g
theorem jo(hi:ss[i]?=some (.own xs))(h:Wp ss te λp=>xs.length<=99999/\nx (ss.set i (.own (xs++[p])))):Ws ss (Iv (LN K "list" Sl (Aj i) (AZ te B6))) nx R:=⟨λE D Z F H S g m=>by
 obtain⟨l,vs,e,e1,n,j,r⟩:=S.ok i _ hi;refine⟨_,e,.inl ⟨rfl,_,AL.of j⟩,h.go E Z F H _ S λv p F1 H1 a d⟨f,kk⟩=>?_⟩;obtain⟨k,Bx,c,CO,B9,IA,b⟩:=a.st.ok i _ hi;rw[e]at c;cases c;refine⟨l,Bx,v,rfl,rfl,IA,N4 (by rw[b.length];exact f),?_⟩;exact g _ Z F1 _ kk (a.st.put hi e CO B9 (b.append (.one d))) a.ff⟩
theorem jc(hi:ss[i]?=some (.own xs))(h:Wp ss ta λa=>∃j:Int,a=.int j/\0<=j/\j<=xs.length/\Wp ss te λp=>xs.length<=99999/\nx (ss.set i (.own (xs.take j.toNat++p::xs.drop j.toNat)))):
  Ws ss (Iv (LN K "list" V7 (Aj i) (AZ ta (AZ te B6)))) nx R:=⟨λE D Z F H S n t=>by
 obtain⟨l,vs,e,e1,u,q,r⟩:=S.ok i _ hi;refine⟨_,e,.inl ⟨rfl,_,AL.of q⟩,h.go E Z F H _ S λv1 p1 F1 H1 c MZ⟨j,o,k,g,h2⟩=>?_⟩;subst o;cases MZ.inv;refine h2.go E Z F1 H1 _ c.st λv p F2 H2 m2 f⟨m,kk⟩=>?_;obtain⟨s,Bx,d,CO,B9,IA,b⟩:=m2.st.ok i _ hi;rw[e]at d;cases d;refine⟨l,Bx,j,v,rfl,rfl,IA,k,by rw[b.length];exact g,N4 (by rw[b.length];exact m),?_⟩;exact n _ Z F2 _ kk (m2.st.put hi e CO B9 ((b.take _).append (.cons f (b.drop _)))) (c.ff.trans m2.ff)⟩
noncomputable def FO(F H:Hp)(as:List Addr):Hp:=λa=>if a∈as then H a else F a
theorem Sg.lay(S:Sg E ss Z F H)(as:List Addr)(g:∀a∈as,F a=none/\E.H0 a=none/\H a≠none)(w:∀a∈as,∀(i:Nat)s,ss[i]?=some s->¬ Bg s Z[i]? a):Sg E ss Z (FO F H as) H/\AQ F (FO F H as):=by
 have x:∀a,a∈as->FO F H as a=H a:=λa h=>oM h;have j:∀a,a∉as->FO F H as a=F a:=λa h=>nr h;have ff:AQ F (FO F H as):=λa o e=>by
  by_cases q:a∈as
  .rw[(g a q).1]at e;cases e
  .rw[j a q];exact e
 have f:∀a,a∉as->F a=none->FO F H as a=none:=λa q h=>by rw[j a q];exact h
 refine⟨⟨⟨λa o e=>?_,S.f0.trans ff,S.keep,λa o e=>?_,S.Dk,λa u=>?_,S.a0,λa n=>?_,S.bH,S.b0⟩,S.len,λi s hi=>?_,S.Ba⟩,ff⟩
 .by_cases q:a∈as
  .rw[x a q]at e;exact e
  .rw[j a q]at e;exact S.fh a o e
 .by_cases q:a∈as
  .exact .inr (g a q).2.1
  .rw[j a q]at e;exact S.fresh a o e
 .exact f a (λq=>S.a0 a u (g a q).2.1) (S.JZ a u)
 .exact f a (λq=>(S.b0 a n).1 (g a q).2.1) (S.bF a n)
 .have no:∀a,Bg s Z[i]? a->a∉as:=λa m q=>w a q i s hi m;have kk:=S.ok i s hi;cases s with
  |any=>trivial
  |is p=>obtain⟨v,e,r⟩:=kk;exact⟨v,e,r.mono ff⟩
  |own ys=>
   obtain⟨b,ws,q,d,c,k,r⟩:=kk;exact⟨b,ws,q,f b (no b q) d,c,k,r.mono ff⟩
  |AD=>
   obtain⟨b,q,d,c,k⟩:=kk;exact⟨b,q,f b (no b q) d,c,k⟩
  |sq tp ys=>
   cases tp with
   |true=>obtain⟨v,e,r⟩:=kk;exact⟨v,e,r.mono ff⟩
   |false=>obtain⟨b,ws,q,d,c,r⟩:=kk;exact⟨b,ws,q,d,c,r.mono ff⟩
  |raw P=>obtain⟨v,e,r,st⟩:=kk;exact⟨v,e,st _ _ ff r,st⟩
  |ow lt t=>
   obtain⟨v,e,r,nd,q⟩:=kk;exact⟨v,e,r.mono ff λa _ o h=>h,nd,λa l=>⟨f a (no a l) (q a l).1,(q a l).2⟩⟩
theorem JV{t:TS}(i:Nat)(hi:ss[i]?=some (.own xs))(h:Ws (ss.set i (.is (.lst xs))) t nx R):Ws ss t nx R:=⟨λE D Z F H S k g=>by
 obtain⟨l,vs,e,e1,o,f,r⟩:=S.ok i _ hi;have one:∀a,a∈[l]->a=l:=λa h=>by simpa using h
 obtain⟨S1,d⟩:=(S.drop i).lay [l] (λa h=>by rw[one a h,f];exact⟨e1,o,by simp⟩) λa h j s b m=>by
  rw[one a h]at m
  by_cases q:j=i
  .subst q;rw[Ca (List.getElem?_eq_some_iff.mp hi).1]at b;cases b;cases m
  .rw[Bv (Az q)]at b;exact S.Ba j i s _ l q b hi m e
 have c:=S1.GZ (j:=i) (v:=.ref l) (p:=.lst xs) (.lst (by unfold FO;rw[oM (by simp)];exact f) (r.mono d));rw[MC e,Th]at c;exact h.go E D Z _ H c (λC6 σ2 F2 H2 n c s2=>k C6 σ2 F2 H2 n c (d.trans s2)) g⟩
theorem GJ{tb:TS}(I:List PV->Nat->List Slot->Prop)(h:Wi ss wi λxs=>I xs 0 ss/\(∀(i:Nat)p A5,xs[i]?=some p->I xs i A5->Wg A5 g p λC6=>Ws C6 tb (I xs (i+1)) R)/\∀A5,I xs xs.length A5->nx A5):Ws ss (R1 wi g tb) nx R:=⟨λE D Z F H S v t=>
 h.go E Z F H _ S λJ xs F1 H1 k d AM=>by
  obtain⟨i0,s,hd⟩:=AM;refine⟨λi m σ' H'=>m=xs.length - i/\i<=xs.length/\∃A5 F',I xs i A5/\Sg E A5 σ' F' H'/\AQ F1 F',⟨_,rfl,CJ _,ss,F1,i0,k.st,AQ.refl _⟩,?_⟩;rintro i m σ' H'⟨rfl,hi,A5,F',l,S',s'⟩
  by_cases f:i<xs.length
  .refine .inr ⟨d.go A5 σ' F' H' i s' S' f,λσ2 H2=>∃C6 F2,I xs (i+1) C6/\Sg E C6 σ2 F2 H2/\AQ F1 F2,λσ2 H2 IY=>by obtain⟨C6,F2,a,b,c⟩:=IY;exact⟨_,by omega,rfl,f,C6,F2,a,b,c⟩,λx H3 y=>?_⟩;obtain⟨p,F3,u,j,q⟩:=d.EK A5 σ' F' H' i x H3 s' S' f y;refine(s i p A5 u l).go E σ' F3 H3 x _ j.st q λn σ4 w S4=>?_;exact w.go E _ σ4 F3 H3 S4 (λNu σ5 F5 H5 r S5 o=>⟨Nu,F5,r,S5,(s'.trans j.ff).trans o⟩) t
  .have e:i=xs.length:=by omega
   subst e;exact .inl ⟨d.stop A5 σ' F' H' s' S',v A5 σ' F' H' (hd A5 l) S' (k.ff.trans s')⟩⟩
theorem ym{tb:TS}(I:Nat->List Slot->Prop)(e:Nat)(o:I e ss)(h:∀m A5,I m A5->Wt A5 c λb=>if b=true then Ws A5 tb (λC6=>∃a,a < m/\I a C6) R else nx A5):Ws ss (ZA c tb) nx R:=⟨λE D Z F H S k j=>by
 refine⟨λm σ' H'=>∃A5 F',I m A5/\Sg E A5 σ' F' H'/\AQ F F',⟨e,ss,F,o,S,AQ.refl _⟩,?_⟩;rintro m σ' H'⟨A5,F',n,S',s'⟩;refine(h m A5 n).go E σ' F' H' _ S' λb F1 H1 d w=>?_;cases b with
 |true=>
  rw[oM rfl]at w;refine⟨λσ2 H2=>∃C6 F2,(∃a,a < m/\I a C6)/\Sg E C6 σ2 F2 H2/\AQ F F2,λσ2 H2 AM=>by obtain⟨C6,F2,⟨a,l,i⟩,b,c⟩:=AM;exact⟨a,l,C6,F2,i,b,c⟩,?_⟩;exact w.go E _ σ' F1 H1 d.st (λNu σ5 F5 H5 g S5 f=>⟨Nu,F5,g,S5,(s'.trans d.ff).trans f⟩) j
 |false=>
  rw[nr (by decide)]at w;exact k A5 σ' F1 H1 w d.st (s'.trans d.ff)⟩
end
noncomputable def Br(js:List Nat)(ss:List Slot):List Slot:=js.map λj=>(ss[j]?).getD .any
def Ks(js:List Nat)(ss:List Slot):Bool:=js.all λj=>match ss[j]? with
 |some .AD=>false
 |_=>true
section
variable[Xw]
variable{K:ZHy}
theorem sG(h:js[i]?=some j)(e:(Br js ss)[i]?=some s):s=(ss[j]?).getD .any:=by
 unfold Br at e;rw[Ah,h]at e;exact(BG e).symm
theorem Sg.AA(S:Sg E ss Z F H)(nd:js.Nodup)(r:AN F vs ps):Sg E (Br js ss++ps.map .is) (As js Z++vs.map some) F H:=by
 have d:(Br js ss).length=js.length:=by simp[Br]
 have f:(As js Z).length=js.length:=by simp[As]
 have k:∀(i:Nat)(hi:i<js.length),(Br js ss++ps.map .is)[i]?=some ((ss[js[i]]?).getD .any)/\(As js Z++vs.map some)[i]?=some ((Z[js[i]]?).join):=λi hi=>by
  rw[DU (by rw[d];exact hi),DU (by rw[f];exact hi)];unfold Br As;rw[Ah,Ah,Au hi];exact⟨rfl,rfl⟩
 have c:∀(i:Nat)s,js.length<=i->(Br js ss++ps.map .is)[i]?=some s->∃p v,s=.is p/\(As js Z++vs.map some)[i]?=some (some v)/\Rep F v p:=λi s hi e=>by
  rw[Ff (by rw[d];exact hi),d,Ah]at e;rw[Ff (by rw[f];exact hi),f,Ah];cases q:ps[i - js.length]? with
  |none=>rw[q]at e;cases e
  |some p=>
   rw[q]at e;obtain⟨v,h,g⟩:=r.get q;rw[h];exact⟨p,v,(BG e).symm,rfl,g⟩
 have C:∀(s:Slot)(m:Nat)(l:Addr),Bg s (some (Z[m]?).join) l->Bg s Z[m]? l:=λs m l o=>by
  have w:∀l,some (Z[m]?).join=some (some (V.ref l))->Z[m]?=some (some (.ref l)):=λl e=>by
   cases q:Z[m]? with
   |none=>rw[q]at e;cases e
   |some o=>rw[q]at e;cases o with
    |none=>cases e
    |some v=>simpa using e
  cases s with
  |own xs=>exact w l o
  |AD=>exact w l o
  |ow lt t=>exact o
  |_=>exact o
 have n:∀(i:Nat)s l,(Br js ss++ps.map .is)[i]?=some s->Bg s (As js Z++vs.map some)[i]? l->∃hi:i<js.length,ss[js[i]]?=some s/\Bg s Z[js[i]]? l:=λi s l e m=>by
  by_cases hi:i<js.length
  .rw[(k i hi).2]at m;refine⟨hi,?_,C s _ l m⟩;rw[(k i hi).1]at e;cases q:ss[js[i]]? with
   |none=>rw[q]at e;cases e;cases m
   |some u=>rw[q]at e;exact e
  .obtain⟨p,v,rfl,_⟩:=c i s (by omega) e;cases m
 refine⟨S.toFin,?_,λi s e=>?_,λi j s u l BV hi B ms mu=>?_⟩
 .rw[BI,BI,d,f,AG,AG,r.length]
 .by_cases hi:i<js.length
  .obtain⟨a,b⟩:=k i hi;rw[a]at e;rw[b];cases q:ss[js[i]]? with
   |none=>rw[q]at e;cases e;trivial
   |some u=>
    rw[q]at e;have D:u=s:=BG e;subst D;have kk:=S.ok _ _ q;cases u with
    |any=>trivial
    |is p=>obtain⟨v,e,r⟩:=kk;rw[e];exact⟨v,rfl,r⟩
    |own xs=>obtain⟨l,vs,e,r⟩:=kk;rw[e];exact⟨l,vs,rfl,r⟩
    |AD=>obtain⟨l,e,r⟩:=kk;rw[e];exact⟨l,rfl,r⟩
    |sq tp xs=>
     cases tp with
     |true=>obtain⟨v,e,r⟩:=kk;rw[e];exact⟨v,rfl,r⟩
     |false=>obtain⟨l,vs,e,r⟩:=kk;rw[e];exact⟨l,vs,rfl,r⟩
    |raw P=>obtain⟨v,e,r⟩:=kk;rw[e];exact⟨v,rfl,r⟩
    |ow lt t=>obtain⟨v,e,r⟩:=kk;rw[e];exact⟨v,rfl,r⟩
  .obtain⟨p,v,rfl,h,g⟩:=c i s (by omega) e;rw[h];exact⟨v,rfl,g⟩
 .obtain⟨I,y,A⟩:=n i s l hi ms;obtain⟨G,x,z⟩:=n j u l B mu;refine S.Ba js[i] js[j] s u l (λe=>BV ?_) y x A z;exact(ZGj nd).mp e
theorem lM(h:js[i]?=some j):(As js Z)[i]?=some ((Z[j]?).join):=by
 unfold As;rw[Ah,h];rfl
theorem join_some{o:Option (Option V)}(h:some o.join=some (some (V.ref a))):o=some (some (.ref a)):=by
 cases o with
 |none=>cases h
 |some q=>cases q with
  |none=>cases h
  |some v=>simpa using h
theorem Mv.Oa(S:Sg E ss Z F H)(m:Mv E (Br js ss++ps.map .is) (As js Z++vs.map some) F H F' H'):Mv E ss Z F H F' H':=by
 have r:(Br js ss).length=js.length:=by simp[Br]
 have s:(As js Z).length=js.length:=by simp[As]
 have k:∀(i:Nat)(a:Addr),(Br js ss++ps.map .is)[i]?=some .AD->(As js Z++vs.map some)[i]?=some (some (.ref a))->∃j,js[i]?=some j/\ss[j]?=some .AD/\Z[j]?=some (some (.ref a)):=λi a hi f=>by
  by_cases h:i<js.length
  .rw[DU (by rw[r];exact h)]at hi;rw[DU (by rw[s];exact h)]at f;have d:=Au h;have q:=sG d hi;rw[lM d]at f;refine⟨js[i],d,?_,join_some f⟩;cases w:ss[js[i]]? with
   |none=>rw[w]at q;cases q
   |some u=>rw[w]at q;cases q;rfl
  .rw[Ff (by omega),Ah]at hi;cases w:ps[i - (Br js ss).length]? with
   |none=>rw[w]at hi;cases hi
   |some p=>rw[w]at hi;cases hi
 refine S.step m.ff m.st.fh (λa o n e=>m.hh a o (λi hi f=>?_) e) m.nn λi l hi e=>?_
 .obtain⟨j,_,h1,h2⟩:=k i a hi f;exact n j h1 h2
 .by_cases c:∃b:Nat,js[b]?=some i
  .obtain⟨b,c⟩:=c;have lt:b < js.length:=(List.getElem?_eq_some_iff.mp c).1;refine m.st.Fy (i:=b) ?_ ?_
   .rw[DU (by rw[r];exact lt)];unfold Br;rw[Ah,c];show some ((ss[i]?).getD .any)=_;rw[hi];rfl
   .rw[DU (by rw[s];exact lt),lM c,e];rfl
  .refine Bi.keep (S.Fy hi e) λo v=>m.hh l o (λb C2 g=>?_) v;obtain⟨j,t,h1,h2⟩:=k b l C2 g;have d:j≠i:=by rintro rfl;exact c ⟨b,t⟩
   exact S.Ba j i _ _ l d h1 hi h2 e
variable{k:PV->Prop}
theorem Wi.mono{k k':List PV->Prop}(h:Wi ss wi k)(i:∀xs,k xs->k' xs):Wi ss wi k':=⟨λE Z F H R S q=>h.go E Z F H R S λJ xs F' H' m s kk=>q J xs F' H' m s (i xs kk)⟩
theorem Wt.mono{t:TT}{k k':Bool->Prop}(h:Wt ss t k)(i:∀b,k b->k' b):Wt ss t k':=⟨λE Z F H Q S q=>h.go E Z F H Q S λb F' H' m kk=>q b F' H' m (i b kk)⟩
theorem gh{E:Ent}{J:It}{k:List PV->Prop}(b:Mv E ss Z F H F1 H1)(t:Src E F1 J xs)(T:xs.length<=100000)(Ea:H1 acc=none)
  (q:∀a vs ys F' H',Mv E ss Z F H F' H'->F' a=none->H a=none->H' a=some (.lst vs)->AN F' vs ys->k ys->Q (.ref a) H')
  (B:V->Hp->(V->Hp->Prop)->(Hp->Prop)->Prop) (I:List PV->List PV->Prop) (i0:I [] [])
  (S:∀F2 H2 x p,Sg E ss Z F2 H2->Rep F2 x p->p∈xs->∀(yes:V->Hp->Prop)(no:Hp->Prop),(∀w y F5 H5,Mv E ss Z F2 H2 F5 H5->Rep F5 w y->(∀pre ys,I pre ys->I (pre++[p]) (ys++[y]))->yes w H5)->
   (∀F4 H4,Mv E ss Z F2 H2 F4 H4->(∀pre ys,I pre ys->I (pre++[p]) ys)->no H4)->B x H2 yes no)
  (kk:∀ys,I xs ys->k ys):∃W:Nat->Nat->Hp->Prop,(∃m,W 0 m (upd H1 acc (.lst [])))/\∀i m H2,W i m H2->
   (J.stop i H2/\Q (.ref acc) H2)∨(J.go i H2/\∀x H3,J.EK i H2 x H3->B x H3 (λy H5=>∃ys,H5 acc=some (.lst ys)/\ys.length<sizeLine/\∃d,d < m/\W (i+1) d (upd H5 acc (.lst (ys++[y])))) (λH4=>∃d,d < m/\W (i+1) d H4)):=by
 have D:DF ss Z acc:=b.st.P9 Ea;have N:=b.st.E6 Ea;have u:∀(i:Nat)s,ss[i]?=some s->¬ Bg s Z[i]? acc:=λi s hi=>b.st.OJ hi Ea;refine⟨λi m H2=>m=xs.length - i/\i<=xs.length/\∃F2 vs ys,Mv E ss Z F1 H1 F2 H2/\F2 acc=none/\H2 acc=some (.lst vs)/\AN F2 vs ys/\ys.length<=i/\I (xs.take i) ys,⟨_,rfl,CJ _,F1,[],[],b.st.make Ea _,b.st.Bp Ea,AV,.nil,Aa _,i0⟩,?_⟩;rintro i m H2⟨rfl,hi,F2,vs,ys,m2,G,g,f,C,h⟩
 by_cases c:i<xs.length
 .refine .inr ⟨t.go ss Z F2 H2 i m2.ff m2.st c,λx H3 y=>?_⟩;obtain⟨p,F3,z,v,O⟩:=t.EK ss Z F2 H2 i x H3 m2.ff m2.st c y;have L:(xs.take (i+1))=xs.take i++[p]:=by
   rw[Au c]at z;rw[Pl c,BG z]
  have K:∀{F4:Hp},(∀a o,F4 a=some o->F2 a=some o∨H2 a=none)->F4 acc=none:=λ{F4}n=>by
   cases e:F4 acc with
   |none=>rfl
   |some o=>
    rcases n acc o e with w|w
    .rw[G]at w;cases w
    .rw[g]at w;cases w
  refine S F3 H3 x p v.st O (C8 z) _ _ (λw py F5 H5 P M st=>?_) λF4 H4 R st=>?_
  .have j:=v.trans P;have l:=m2.trans j;have A:=K j.nn;refine⟨vs,j.hh acc _ D g,N4 (by rw[f.length];omega),xs.length - (i+1),by omega,rfl,c,F5,vs++[w],ys++[py],⟨l.st.Qs A (.inl N) u,l.ff,λa o n e=>?_,l.nn⟩,A,AV,(f.mono j.ff).append (.one M),by rw[BI];exact ZH0 C,L▸st _ _ h⟩;rw[AK (DS e Ea)];exact l.hh a o n e
  .have r:=v.trans R;exact⟨xs.length - (i+1),by omega,rfl,c,F4,vs,ys,m2.trans r,K r.nn,r.hh acc _ D g,f.mono r.ff,mO C,L▸st _ _ h⟩
 .obtain rfl:i=xs.length:=by omega
  rw[Gw]at h;exact .inl ⟨t.stop ss Z F2 H2 m2.ff m2.st,q acc vs _ F2 H2 (b.trans m2) G (b.none Ea) g f (kk ys h)⟩
theorem Y1{k:List PV->Prop}(I:List PV->List PV->Prop)(i0:I [] [])
  (h:Wi ss wi λxs=>xs.length<=100000/\(∀x∈xs,Wt (Br js ss++[.is x]) tt λb=>if b=true then Wp (Br js ss++[.is x]) te λy=>∀pre ys,I pre ys->I (pre++[x]) (ys++[y])else ∀pre ys,I pre ys->I (pre++[x]) ys)/\∀ys,I xs ys->k ys)
  (nd:js.Nodup:=by decide):Wn ss (Gk wi js tt te) k:=⟨λE Z F H Q S q=>
 h.go E Z F H _ S λJ xs F1 H1 l f⟨m,o,kk⟩acc Ea=>gh l f m Ea q (λx H yes no=>tt (As js Z++[some x]) H λb H4=>if b=true then te (As js Z++[some x]) H4 yes else no H4) I i0 (λF2 H2 x p S2 c r yes no n s=>by
  refine(o p r).go E _ F2 H2 _ (S2.AA (js:=js) nd (.one c)) λb F4 H4 j d=>?_;have a:=j.Oa (ps:=[p]) (vs:=[x]) S2;cases b with
  |true=>exact(show Wp _ _ _ from d).go E _ F4 H4 _ (a.st.AA (js:=js) nd (.one (c.mono a.ff))) λw y F5 H5 i g e=>n w y F5 H5 (a.trans (i.Oa (ps:=[p]) (vs:=[x]) a.st)) g e
  |false=>exact s F4 H4 a d) kk⟩
theorem Ug{c:α->PV}(inj:∀x y,c x=c y->x=y){f:α->Bool}{g:α->PV}{y:α}(e:b=f y){pre:List PV}(h:∀ms:List α,pre=ms.map c->ys=(ms.filter f).map g):
  (b=true->∀ms:List α,pre++[c y]=ms.map c->ys++[g y]=(ms.filter f).map g)/\(b=false->∀ms:List α,pre++[c y]=ms.map c->ys=(ms.filter f).map g):=by
 have key:∀ms:List α,pre++[c y]=ms.map c->∃l,ms=l++[y]/\ys=(l.filter f).map g:=λms a=>by
  obtain⟨l,r,rfl,e1,i⟩:=List.map_eq_append_iff.mp a.symm;obtain⟨z,rfl,d⟩:=List.map_eq_singleton_iff.mp i;exact⟨l,by rw[inj _ _ d],h l e1.symm⟩
 subst e;constructor <;> intro e ms a <;> obtain⟨l,rfl,rfl⟩:=key ms a <;> simp[e]
theorem Fw{k:List PV->Prop}(c:α->PV)(f:α->Bool)(g:α->PV)
  (h:Wi ss wi λxs=>∃ns:List α,xs=ns.map c/\ns.length<=100000/\(∀x∈ns,Wt (Br js ss++[.is (c x)]) tt λb=>b=f x)/\(∀x∈ns,f x=true->Wp (Br js ss++[.is (c x)]) te λp=>p=g x)/\k ((ns.filter f).map g))
  (inj:∀x y,c x=c y->x=y) (nd:js.Nodup:=by decide) (np:Ks js ss=true:=by rfl):Wn ss (Gk wi js tt te) k:=
 Y1 (λpre ys=>∀ms:List α,pre=ms.map c->ys=(ms.filter f).map g) (λms e=>by rw[List.map_eq_nil_iff.mp e.symm];rfl) (h.mono λxs⟨ns,e,i,j,l,kk⟩=>⟨by rw[e,AG];exact i,λx hx=>by
  rw[e]at hx;obtain⟨y,d,rfl⟩:=List.mem_map.mp hx;refine(j y d).mono λb a=>?_;cases b with
  |true=>exact(l y d a.symm).mono λp ep pre ys h=>ep▸(Ug inj a h).1 rfl
  |false=>exact λpre ys h=>(Ug inj a h).2 rfl,λys h=>h ns e▸kk⟩) nd
theorem ZEl{k:List PV->Prop}(f:PV->Bool)(g:PV->PV)
  (h:Wi ss wi λxs=>xs.length<=100000/\(∀x∈xs,Wt (Br js ss++[.is x]) tt λb=>b=f x)/\(∀x∈xs,f x=true->Wp (Br js ss++[.is x]) te λp=>p=g x)/\k ((xs.filter f).map g))
  (nd:js.Nodup:=by decide) (np:Ks js ss=true:=by rfl):Wn ss (Gk wi js tt te) k:=Fw id f g (h.mono λxs e=>⟨xs,(mG xs).symm,e⟩) (λ_ _=>id) nd np
end
abbrev Pre:=List Slot->Ae->Prop
def Af(pre:Pre):Sp:=λvs H Q _=>∃(ss:List Slot)(R:Ae)(F:Hp)(A:List Addr),pre ss R/\Sg (E3 A F H) ss (vs.map some) F H/\∀v F' H',Fin (E3 A F H) F' H'->R.ok (E3 A F H) F' H' v->Q v H'
section
variable[Xw]
variable{pre:Pre}{k:PV->Prop}
theorem IJ.at{l:List Slot}(h:IJ ss Z F H vs l):∀{i:Nat}{s:Slot},l[i]?=some s->∃v,vs[i]?=some v/\Av ss Z F H v s:=by
 induction h with
 |nil=>intro i s e;simp at e
 |cons a _ b=>
  intro i s e;cases i with
  |zero=>simp at e;subst e;exact⟨_,rfl,a⟩
  |succ i=>exact b (by simpa using e)
theorem IJ.len{l:List Slot}(h:IJ ss Z F H vs l):l.length=vs.length:=by
 induction h with
 |nil=>rfl
 |cons a _ b=>rw[BJ,BJ,b]
theorem Av.ok(S:Sg E ss Z F H)(a:Av ss Z F H v s)(b:∀l,DF ss Z l->l∉A):Ok (E3 A F H) F H s (some (some v))/\∀o l,¬ Bg s o l:=by
 cases s with
 |is p=>exact⟨⟨v,rfl,a⟩,λ_ _ z=>z⟩
 |sq tp xs=>
  cases tp with
  |true=>exact⟨⟨v,rfl,a⟩,λ_ _ z=>z⟩
  |false=>obtain⟨l,vs,rfl,n,h,r⟩:=a;exact⟨⟨l,vs,rfl,⟨b l n,BF⟩,h,r⟩,λ_ _ z=>z⟩
 |raw P=>exact⟨⟨v,rfl,a⟩,λ_ _ z=>z⟩
 |any=>exact a.elim
 |own xs=>exact a.elim
 |AD=>exact a.elim
 |ow lt t=>exact a.elim
theorem Sg.YC(S:Sg E ss Z F H){l:List Slot}(a:IJ ss Z F H vs l):Sg (E3 [] F H) l (vs.map some) F H:=by
 have nn:∀{p:Prop}(a:Addr),a∈([]:List Addr)->p:=λa h=>absurd h BF;refine⟨⟨S.fh,AQ.refl _,λ_ _ _ e=>e,λ_ _ e=>.inl e,λa h=>nn a h,λa h=>nn a h,λa h=>nn a h,λa h=>nn a h,λa h=>nn a h,λa h=>nn a h⟩,by rw[AG];exact a.len,λi s hi=>?_,λi j s u l BV hi c ms mu=>?_⟩
 .obtain⟨v,b,q⟩:=a.at hi;rw[Ah,b];exact(q.ok S λ_ _ h=>absurd h BF).1
 .obtain⟨v,b,q⟩:=a.at hi;exact(q.ok S (A:=[]) λ_ _ h=>absurd h BF).2 _ _ ms
theorem Sg.jk(S:Sg E ss Z F H){p:Addr}(hi:ss[i0]?=some .AD)(e:Z[i0]?=some (some (.ref p))){l:List Slot}(a:IJ ss Z F H vs l):Sg (E3 [p] F H) (.AD::l) ((V.ref p::vs).map some) F H:=by
 obtain⟨r,g,fp,_,b⟩:=S.ok i0 _ hi;rw[e]at g;cases g;have f:∀l,DF ss Z l->l∉[p]:=λl n h=>by
  have:l=p:=by simpa using h
  subst this;exact n i0 hi e
 have one:∀a,a∈[p]->a=p:=λa h=>by simpa using h
 have nn:∀{p:Prop}(a:Addr),a∈([]:List Addr)->p:=λa h=>absurd h BF;refine⟨⟨S.fh,AQ.refl _,λ_ _ _ e=>e,λ_ _ e=>.inl e,λa h=>(one a h)▸b,λa h=>(one a h)▸fp,λa h=>?_,λa h=>nn a h,λa h=>nn a h,λa h=>nn a h⟩,by rw[AG,BJ,BJ];rw[a.len],λi s hi=>?_,λi j s u c BV hi k ms mu=>?_⟩
 .rw[one a h];obtain⟨_,_,q,_⟩:=b;show H p≠none;rw[q];simp
 .cases i with
  |zero=>simp at hi;subst hi;exact⟨p,rfl,fp,.inr (by simp),b⟩
  |succ i=>
   obtain⟨v,d,q⟩:=a.at (i:=i) (s:=s) (by simpa using hi)
   have:((V.ref p::vs).map some)[i+1]?=some (some v):=by rw[D4,List.getElem?_cons_succ,Ah,d];rfl
   rw[this];exact(q.ok S f).1
 .have z:∀(i:Nat)s o c,(Slot.AD::l)[i]?=some s->Bg s o c->i=0:=λi s o c h m=>by
   cases i with
   |zero=>rfl
   |succ i=>
    obtain⟨v,d,q⟩:=a.at (i:=i) (s:=s) (by simpa using h)
    exact((q.ok S f).2 _ _ m).elim
  exact absurd ((z i s _ _ hi ms).trans (z j u _ _ k mu).symm) BV
theorem Sg.back(S:Sg E ss Z F H)(d:∀a,a∈A->∃i:Nat,ss[i]?=some .AD/\Z[i]?=some (some (.ref a)))(f:Fin (E3 A F H) F' H'):Mv E ss Z F H F' H':=by
 refine S.step f.f0 f.fh (λa o n e=>f.keep a o ⟨λh=>?_,BF⟩ e) f.fresh λi l hi e=>?_
 .obtain⟨i,c,b⟩:=d a h;exact n i c b
 .by_cases q:l∈A
  .exact f.Dk l q
  .exact Bi.keep (S.Fy hi e) λo e=>f.keep l o ⟨q,BF⟩ e
theorem wp_call(h:Wa ss t λl=>∃k',pre l (.is k')/\∀p,k' p->k p):Wp ss (E7 (Af pre) [] E0 t) k:=⟨λE Z F H Q S q=>
 h.go E Z F H _ S λvs l F1 H1 b a⟨k',c,kk⟩=>by
  rw[Gv];refine⟨l,.is k',F1,[],c,b.st.YC a,λv F' H' f⟨p,r,kp⟩=>?_⟩;exact q v p F' H' (b.trans (b.st.back (λ_ h=>absurd h BF) f)) r (kk p kp)⟩
theorem JK{k:List PV->Prop}(h:Wa ss t λl=>∃k',pre l (.new k')/\∀xs,k' xs->k xs):Wn ss (E7 (Af pre) [] E0 t) k:=⟨λE Z F H Q S q=>
 h.go E Z F H _ S λvs l F1 H1 b a⟨k',d,kk⟩=>by
  rw[Gv];refine⟨l,.new k',F1,[],d,b.st.YC a,λv F' H' f⟨l,vs,xs,e,i,g,DX,r,c⟩=>?_⟩;subst e;exact q l vs xs F' H' (b.trans (b.st.back (λ_ h=>absurd h BF) f)) i (b.none g) DX r (kk xs c)⟩
theorem VS(hi:ss[i]?=some .AD)(h:Wa ss t λl=>∃k',pre (.AD::l) (.is k')/\∀p,k' p->k p):Wp ss (E7 (Af pre) [] E0 (AZ (Aj i) t)) k:=⟨λE Z F H Q S q=>by
 obtain⟨p,e,_⟩:=S.ok i _ hi;refine⟨_,e,h.go E Z F H _ S λvs l F1 H1 b a⟨k',c,kk⟩=>?_⟩;show Af pre ((V.ref p::vs)++[]) H1 Q E0;rw[Gv];refine⟨.AD::l,.is k',F1,[p],c,b.st.jk hi e a,λv F' H' f⟨pv,r,kp⟩=>?_⟩;exact q v pv F' H' (b.trans (b.st.back (A:=[p]) (λa h=>⟨i,hi,(show a=p from by simpa using h)▸e⟩) f)) r (kk pv kp)⟩
theorem qR{k:List PV->Prop}(hi:ss[i]?=some .AD)(h:Wa ss t λl=>∃k',pre (.AD::l) (.new k')/\∀xs,k' xs->k xs):Wn ss (E7 (Af pre) [] E0 (AZ (Aj i) t)) k:=⟨λE Z F H Q S q=>by
 obtain⟨p,e,_⟩:=S.ok i _ hi;refine⟨_,e,h.go E Z F H _ S λvs l F1 H1 b a⟨k',d,kk⟩=>?_⟩;show Af pre ((V.ref p::vs)++[]) H1 Q E0;rw[Gv];refine⟨.AD::l,.new k',F1,[p],d,b.st.jk hi e a,λv F' H' f⟨l,vs,xs,m,j,g,DX,r,c⟩=>?_⟩;subst m;exact q l vs xs F' H' (b.trans (b.st.back (A:=[p]) (λa h=>⟨i,hi,(show a=p from by simpa using h)▸e⟩) f)) j (b.none g) DX r (kk xs c)⟩
theorem Sg.grown(S:Sg E ss Z F H)(n:Nat):Sg E (ss++List.replicate n .any) (Z++List.replicate n none) F H:=by
 have f:∀(i:Nat)s,(ss++List.replicate n .any)[i]?=some s->s≠.any->ss[i]?=some s/\(Z++List.replicate n none)[i]?=Z[i]?:=λi s e k=>by
  by_cases h:i<ss.length
  .rw[DU h]at e;rw[DU (by rw[<- S.len];exact h)];exact⟨e,rfl⟩
  .rw[Ff (by omega),mD]at e;split at e
   .exact absurd (BG e).symm k
   .cases e
 refine⟨S.toFin,by simp[S.len],λi s e=>?_,λi j s u l BV hi m ms mu=>?_⟩
 .cases s with
  |any=>trivial
  |_=>obtain⟨a,b⟩:=f i _ e (by simp);rw[b];exact S.ok i _ a
 .have ns:s≠.any:=by rintro rfl;cases ms
  have g:u≠.any:=by rintro rfl;cases mu
  obtain⟨a,b⟩:=f i s hi ns;obtain⟨c,d⟩:=f j u m g;rw[b]at ms;rw[d]at mu;exact S.Ba i j s u l BV a c ms mu
end
section
variable{pre:Pre}{k:PV->Prop}
noncomputable def VN(E:Ent0):Ent:=⟨E,λ_ _ _ _ _ _ _ _ _ d=>d.elim⟩
theorem cu{N:List Str}{t:TS}(h:Af pre vs H Q X)(c:∀ss R,pre ss R->ss.length=n)
  (hw:∀ss R,pre ss R->Ws (ss++List.replicate (N.length - n) .any) t (λ_=>∃k,R=.is k/\k .A8) R):t { nx:=λ_ H'=>Q .A8 H',rt:=Q } (L2.start N vs) H:=by
 obtain⟨ss,R,F,A,a,S,q⟩:=h;have e:vs.length=n:=by have:=S.len;rw[AG]at this;rw[<- this];exact c ss R a
 unfold L2.start;rw[e];refine(hw ss R a).go (VN (E3 A F H)) _ _ F H (S.grown _) (λA5 σ' F' H'⟨k,e,b⟩S' _=>?_) λv F' H' f ok=>q v F' H' f ok;subst e;exact q .A8 F' H' S'.toFin ⟨.A8,.A8,b⟩
theorem dY(b:∀ss R,pre ss R->ss.length=n)(h:Af pre vs H Q X):vs.length=n:=by
 obtain⟨ss,R,F,A,a,S,q⟩:=h;have:=S.len;rw[AG]at this;rw[<- this];exact b ss R a
end
end Fz
namespace L2
section
variable{X:Cx}
def i8(K:ZHy):R2:=λx y H Q=>∃p q xs,x=.ref p/\y=.ref q/\AL K H p xs/\AL K H q []/\Q (.bl (!decide (xs=[]))) H
theorem SU(a:X.A.units<cLine):BD X (compareOp .NotEq) (i8 X.K):=by
 intro ZB s Z H x y v u Q I f e h;obtain⟨p,q,xs,rfl,rfl,c,b,d⟩:=h;cases f;cases e;obtain⟨A3,i,p1,l⟩:=I.list c;obtain⟨D5,g,p2,k⟩:=I.list b;have l1:=i.length;have l2:=g.length;cases xs with
 |nil=>exact Pb a ZB s Z H _ _ _ _ Q I (show RelV (.ref p) (.ref p)from rfl) (show RelV (.ref q) (.ref q)from rfl) ⟨p,q,[],[],rfl,rfl,.inl ⟨c,b⟩,rfl,rfl,d⟩
 |cons y ys=>
  have j:(A3.toArray.size != D5.toArray.size)=true:=by simp only[Bn,<- l1,<- l2];simp
  exact ZHF p1.isList p2.isList j a _ _ _ _ ⟨.bl true,H,I,rfl,d⟩
end
end L2
namespace Lw
open L2
variable{l ss:List Str}{α:Type}
theorem Nv:∀l:List Nat,¬ l<l
 | [],h=>by simp at h
 |a::r,h=>by
  rw[ZN]at h;rcases h with h|⟨_,h⟩
  .omega
  .exact Nv r h
theorem W3:∀{a b c:List Nat},a<b->b<c->a<c
 |_,[],_,h,_=>by simp at h
 |_,_::_,[],_,h=>by simp at h
 | [],_::_,_::_,_,_=>by simp
 |a::r,b::s,c::t,h,h'=>by
  rw[ZN]at h h' ⊢;rcases h with h|⟨rfl,h⟩
  .rcases h' with h'|⟨rfl,h'⟩
   .left;omega
   .left;exact h
  .rcases h' with h'|⟨rfl,h'⟩
   .left;exact h'
   .right;exact⟨rfl,W3 h h'⟩
theorem gJ:∀a b:List Nat,a<b∨a=b∨b<a
 | [],[]=>.inr (.inl rfl)
 | [],_::_=>.inl (by simp)
 |_::_,[]=>.inr (.inr (by simp))
 |a::r,b::s=>by
  rw[ZN,ZN];rcases mP a b with h|rfl|h
  .exact .inl (.inl h)
  .rcases gJ r s with h|rfl|h
   .exact .inl (.inr ⟨rfl,h⟩)
   .exact .inr (.inl rfl)
   .exact .inr (.inr (.inr ⟨rfl,h⟩))
  .exact .inr (.inr (.inl h))
abbrev Jf(a b:Str):Prop:=a.cps.toList<b.cps.toList
theorem bW(a b:Str):Jf a b∨a=b∨Jf b a:=by
 rcases gJ a.cps.toList b.cps.toList with h|h|h
 .exact .inl h
 .exact .inr (.inl (oo h))
 .exact .inr (.inr h)
abbrev Up(ss:List Str):Prop:=ss.Pairwise Jf
theorem Qi(h:Up ss):ss.Nodup:=by
 refine ZGW (λ{a b}(Bu:Jf a b)(e:a=b)=>?_) h;subst e;exact Nv _ Bu
theorem Zy:∀(l:List Str)(p:Str),risingS p l=true->(∀x∈l,¬ Jf x p)/\l.Pairwise λa b=>¬ Jf b a
 | [],p,_=>⟨λx hx=>absurd hx (by simp),.nil⟩
 |y::r,p,h=>by
  have h1:(!ltCps y.cps.toList p.cps.toList && risingS y r)=true:=h;rw[C7,ltCps_eq]at h1;have c:¬ Jf y p:=by
   intro z;rw[oW z]at h1;exact absurd h1.1 (by decide)
  obtain⟨h2,d⟩:=Zy r y h1.2;refine⟨λx hx=>?_,List.pairwise_cons.mpr ⟨λx hx=>h2 x hx,d⟩⟩;rcases List.mem_cons.mp hx with rfl|hx
  .exact c
  .intro z;rcases bW y p with q|q|q
   .exact c q
   .exact h2 x hx (q▸z)
   .exact h2 x hx (W3 z q)
theorem uO(h:sortedS l=true):l.Pairwise λa b=>¬ Jf b a:=by
 cases l with
 |nil=>exact .nil
 |cons x r=>
  obtain⟨h1,h2⟩:=Zy r x h;exact List.pairwise_cons.mpr ⟨h1,h2⟩
theorem kY(h:sortedS l=true)(nd:l.Nodup):Up l:=by
 have w:=uO h;have q:=List.Pairwise.and w nd;refine q.imp λ{a b}Bu=>?_;rcases bW a b with z|z|z
 .exact z
 .exact absurd z Bu.2
 .exact absurd z Bu.1
theorem Ra:∀{as bs:List Str},Up as->Up bs->(∀x,x∈as↔x∈bs)->as=bs
 | [],[],_,_,_=>rfl
 | [],b::bs,_,_,h=>absurd ((h b).mpr B1) (by simp)
 |a::as,[],_,_,h=>absurd ((h a).mp B1) (by simp)
 |a::as,b::bs,ha,hb,h=>by
  obtain⟨a1,a2⟩:=List.pairwise_cons.mp ha;obtain⟨c,d⟩:=List.pairwise_cons.mp hb;have e:a=b:=by
   rcases List.mem_cons.mp ((h a).mp B1)with z|z
   .exact z
   .rcases List.mem_cons.mp ((h b).mpr B1)with y|y
    .exact y.symm
    .exact absurd (W3 (a1 b y) (c a z)) (Nv _)
  subst e
  congr 1
  refine Ra a2 d λx=>⟨λhx=>?_,λhx=>?_⟩
  .rcases List.mem_cons.mp ((h x).mp (BM _ hx))with z|z
   .exact absurd (z▸a1 x hx) (Nv _)
   .exact z
  .rcases List.mem_cons.mp ((h x).mpr (BM _ hx))with z|z
   .exact absurd (z▸c x hx) (Nv _)
   .exact z
theorem YS{α:Type}[DecidableEq α]:∀{as bs:List α},as.Nodup->(∀x∈as,x∈bs)->as.length<=bs.length
 | [],_,_,_=>CJ _
 |a::as,bs,nd,h=>by
  obtain⟨h1,h2⟩:=List.nodup_cons.mp nd;have b:=h a B1;have q:=YS (bs:=bs.erase a) h2 λx hx=>(Te (λe:x=a=>h1 (by rw[<- e];exact hx))).mpr (h x (BM _ hx));have e:=NM b;have p:=ZT b;simp only[BJ];omega
theorem Ub{α:Type}[DecidableEq α]:∀{as bs:List α},as.Nodup->(∀x∈as,x∈bs)->bs.length=as.length->bs.Nodup
 | [],bs,_,_,hl=>by
  have e:bs=[]:=List.length_eq_zero_iff.mp (by simpa using hl)
  rw[e];exact Ll
 |a::as,bs,nd,h,hl=>by
  obtain⟨h1,h2⟩:=List.nodup_cons.mp nd;have b:=h a B1;have d:bs.length=as.length+1:=by simpa using hl
  have sub:∀x∈as,x∈bs.erase a:=λx hx=>(Te (λe:x=a=>h1 (by rw[<- e];exact hx))).mpr (h x (BM _ hx));have e:=NM b;have q:=Ub (bs:=bs.erase a) h2 sub (by omega);have p:=List.perm_cons_erase b;rw[p.nodup_iff,List.nodup_cons];refine⟨λc=>?_,q⟩;have r:=YS (as:=a::as) (bs:=bs.erase a) nd λx hx=>by
   rcases List.mem_cons.mp hx with rfl|hx
   .exact c
   .exact sub x hx
  simp only[BJ]at r;omega
theorem ZDW[DecidableEq α]{acc:List α}{x k:α}:k∈Eu acc x↔k∈acc∨k=x:=by
 unfold Eu
 by_cases h:acc.any (· == x)=true
 .rw[oM h];refine⟨.inl,λq=>q.elim id λe=>?_⟩;obtain⟨y,a,b⟩:=List.any_eq_true.mp h;have:y=x:=by simpa using b
  rw[e,<- this];exact a
 .rw[nr h];simp
theorem XY{α:Type}[DecidableEq α]:∀(l acc:List α),acc.Nodup->(l.foldl Eu acc).Nodup/\∀k,k∈l.foldl Eu acc↔k∈acc∨k∈l
 | [],acc,h=>⟨h,λk=>by simp⟩
 |x::r,acc,h=>by
  have a:(Eu acc x).Nodup:=by
   unfold Eu
   by_cases c:acc.any (· == x)=true
   .rw[oM c];exact h
   .rw[nr c];exact Vv h λb=>c (List.any_eq_true.mpr ⟨x,b,by simp⟩)
  obtain⟨h1,h2⟩:=XY r (Eu acc x) a;refine⟨h1,λk=>?_⟩;rw[Tc,h2 k,ZDW,Ec,or_assoc]
theorem Ua[DecidableEq α](ss:List α):(dd ss).Nodup:=(XY ss [] Ll).1
theorem LR[DecidableEq α](ss:List α)(k:α):k∈dd ss↔k∈ss:=by
 have q:=(XY ss [] Ll).2 k;refine(show(k∈dd ss↔_)from q).trans ⟨λz=>z.elim (λy=>absurd y (by simp)) id,.inr⟩
theorem Ul[DecidableEq α](l:List α)(k:α):l.any (· == k)=true↔k∈l:=by
 rw[NJ];exact⟨λ⟨y,a,e⟩=>by
   have:y=k:=by simpa using e
   rw[<- this];exact a,λh=>⟨k,h,by simp⟩⟩
theorem vG{ts:List Str}(d:ts.length=(dd ss).length)(b:∀k,(dd ss).any (· == k)=true↔k∈ts)(c:sortedS ts=true):(ss=ts)↔Up ss:=by
 have nd:ts.Nodup:=Ub (Ua ss) (λx hx=>(b x).mp ((Ul _ _).mpr hx)) d;have a:=kY c nd;constructor
 .rintro rfl;exact a
 .intro us;exact Ra us a λx=>by rw[<- b x,Ul,LR]
noncomputable def LG:List Str:=["none","ahead","all"]
def tD(p:Addr)(H:Hp)(Q:VK)(W:Str->Int->List Str->Prop):Prop:=∀t c r g ss H',H t=none->H c=none->BH p H H'->H' t=some (.tup [.str r,.int g,.ref c])->H' c=some (.tup (ss.map V.str))->W r g ss->Q (.ref t) H'
def RQ:Sp:=λvs H Q _=>∃(p q:Addr)(ns:List Str),vs=[.ref p,.ref q]/\Bi H p/\H q=some (.lst (ns.map V.str))/\q≠p/\ns.length<=40/\ns.Nodup/\
 tD p H Q λr g ss=>r∈LG/\0<=g/\g<=(ns.length:Int)/\Up ss/\(∀x∈ss,x∈ns)/\ss.length<=40
theorem wY{i:Nat}{v:V}(h:(ss.map V.str)[i]?=some v):∃x,v=.str x/\ss[i]?=some x:=by
 rw[Ah]at h;cases q:ss[i]? with
 |none=>rw[q]at h;cases h
 |some x=>rw[q]at h;simp at h;exact⟨x,h.symm,rfl⟩
theorem eQ{j:Int}(c:0<=j)(h1:j<3):∃r,Bf (LG.map V.str) j=some (.str r)/\r∈LG:=by
 obtain⟨x,a,b,_⟩:=XM (ns:=LG) c h1;exact⟨x,a,b⟩
structure D1 (ns:List Str) (r:Str) (g:Int) (ss:List Str):Prop where
 rule:r∈LG
 g0:0<=g
 g1:g<=(ns.length:Int)
 up:Up ss
 sub:∀x∈ss,x∈ns
structure Ent where
 a:Addr
 ns:List Str
 t:Addr
 r:Str
 g:Nat
 ss:List Str
end Lw
namespace Lw
open L2
variable{ns rs ss:List Str}
noncomputable def SD(i g:Nat):Nat:=if i<g then g+1 else g
theorem D1.len{r:Str}{g:Int}(h:D1 ns r g ss):ss.length<=ns.length:=YS (Qi h.up) h.sub
theorem iP(nd:rs.Nodup){g:Nat}{x:Str}(h:rs[g]?=some x):rs.idxOf x=g:=by
 obtain⟨d,e⟩:=List.getElem?_eq_some_iff.mp h;have hx:x∈rs:=C8 h;have a:rs.idxOf x<rs.length:=List.idxOf_lt_length_iff.mpr hx;have f:rs[rs.idxOf x]=x:=ZGi a;have b:=List.pairwise_iff_getElem.mp nd;rcases mP (rs.idxOf x) g with c|c|c
 .exact absurd (f.trans e.symm) (b _ _ a d c)
 .exact c
 .exact absurd (e.trans f.symm) (b _ _ d a c)
end Lw
namespace L2
variable{s s2:Shared}{outer scope:Scope}{C it:Addr}{N:List Str}{wi:TI}
structure GR (N:List Str) (outer scope:Scope) (x z:Str) (AA:List Str) (js:List Nat):Prop where
 kind:scope.kind=.function
 Hd:∀y∈scope.names,y.2≠.cell
 loc:∀y∈scope.names,y.2=.local->scope.names.lookup y.1=some .local
 IG:scope.names.lookup x=some .local
 xG:scope.names.lookup z=some .local
 at':js.map (λj=>N[j]?)=AA.map some
 cell:∀y∈AA,outer.names.lookup y=some .cell
 free:∀y∈AA,scope.names.lookup y=some .free
 all:∀y∈scope.names,y.2=.free->outer.names.lookup y.1=some .cell
 nd:(AA++[x,z]).Nodup
def cC(K:ZHy)(J:It)(js:List Nat)(tt:TT)(te:TE)(Z:St)(H1:Hp)(acc:Addr)(Q:VK):Prop:=
 ∃W:Nat->Nat->Hp->Prop,(∃m,W 0 m (upd H1 acc (.lst [])))/\∀i m H2,W i m H2->
  (J.stop i H2/\Q (.ref acc) H2)∨(J.go i H2/\∀x H3,J.EK i H2 x H3->∃a u v,x=.ref a/\Ax K H3 a [u,v]/\tt (As js Z++[some u,some v]) H3 λb H4=>if b=true then te (As js Z++[some u,some v]) H4 λy H5=>∃ys,H5 acc=some (.lst ys)/\ys.length<sizeLine/\∃c,c < m/\W (i+1) c (upd H5 acc (.lst (ys++[y])))else ∃c,c < m/\W (i+1) c H4)
def Kq(K:ZHy)(wi:TI)(js:List Nat)(tt:TT)(te:TE):TE:=λZ H Q=>wi Z H λJ H1=>∀acc,H1 acc=none->cC K J js tt te Z H1 acc Q
abbrev TQ(K:ZHy)(wi:TI)(js:List Nat)(te:TE):TE:=Kq K wi js Ie te
section
variable{X:Cx}{ZB:ZHz}{Z:St}{H2:Hp}{elt iter:Expr}{ifs:List Expr}{x z:Str}{px pz tp pos:Pos}{tk:Nat}{AA:List Str}{js:List Nat}{tt:TT}{te:TE}{J:It}{fp:List Addr}{tn:Nat->Heap->Prop}
theorem GR.G(S:GR N outer scope x z AA js):DR N outer scope none [x,z] AA js:=.i3 S.kind S.Hd S.loc S.at' S.cell S.free S.all S.nd
theorem GR.pg{H:Hp}{cl:List (Str×Addr)}(b:X.calm=true)(S:GR X.N X.env.scope scope x z AA js):PG (FF X (AA++[x,z]) scope none cl C s H fp) (.Tuple [.Name x px,.Name z pz] tk tp) (JY X.K 2 (JW AA.length 2)):=
 yk b S.G (λy a=>by rcases List.mem_cons.mp a with rfl|a;exact S.IG;rw[List.mem_singleton.mp a];exact S.xG) (.cons (.cons .nil)) (λ_=>rfl) (λ_=>rfl)
theorem xK{K:ZHy}(S:GR N outer scope x z AA js)(J:It)(Z:St)(H1:Hp)(acc:Addr)(Q:VK)
  (h:∃W:Nat->Nat->Hp->Prop,(∃m,W 0 m (upd H1 acc (.lst [])))/\∀i m H2,W i m H2->
   (J.stop i H2/\Q (.ref acc) H2)∨(J.go i H2/\∀x H3,J.EK i H2 x H3->∃a u v,x=.ref a/\Ax K H3 a [u,v]/\QM tt te acc W i m (As js Z++[some u,some v]) H3)):Mu (JY K 2 (JW AA.length 2)) 2 J js tt te Z H1 acc Q:=by
 obtain⟨W,c,h⟩:=h;refine qT S.G J Z H1 acc Q ⟨W,c,λi m H2 w=>(h i m H2 w).imp id λz=>⟨z.1,λx H3 y=>?_⟩⟩;obtain⟨a,u,v,e,b,q⟩:=z.2 x H3 y;exact⟨a,[u,v],e,b,rfl,q⟩
theorem kq(a:X.calm=true)(S:GR X.N X.env.scope scope x z AA js)(hi:PI X (.Tuple [.Name x px,.Name z pz] tk tp) iter wi)
  (DI:∀fp C s H,Hx (Ei X (AA++[x,z]) scope (BB X.env.cells scope.names) C s H fp) ifs tt) (Cg:∀fp C s H,PE (Ei X (AA++[x,z]) scope (BB X.env.cells scope.names) C s H fp) elt te)
  (b:∀v,foldedSetIterable iter X.env v=pure v:=by intro _;rfl):PE X (.ListComp elt [⟨.Tuple [.Name x px,.Name z pz] tk tp,iter,ifs,0⟩] scope pos) (Kq X.K wi js tt te):=
 Wj (CW:=λJ Z H1 acc Q=>cC X.K J js tt te Z H1 acc Q) (λJ Z H1 acc Q h=>xK S J Z H1 acc Q h) a S.G hi (λ_ _ _ _=>S.pg a) DI Cg b
theorem xa(b:X.calm=true)(S:GR X.N X.env.scope scope x z AA js)(hi:QI X (.Tuple [.Name x px,.Name z pz] tk tp) iter wi)(DI:∀fp C s H,M1 (Ei X (AA++[x,z]) scope (BB X.env.cells scope.names) C s H fp) ifs tt)(Cg:∀fp C s H,QE (Ei X (AA++[x,z]) scope (BB X.env.cells scope.names) C s H fp) elt te)
  (a:∀v,foldedSetIterable iter X.env v=pure v:=by intro _;rfl):QE X (.ListComp elt [⟨.Tuple [.Name x px,.Name z pz] tk tp,iter,ifs,0⟩] scope pos) (Kq X.K wi js tt te):=⟨kq b S hi.h (λfp C s H=>(DI fp C s H).h) (λfp C s H=>(Cg fp C s H).h) a⟩
theorem jd(c:X.calm=true)(S:GR X.N X.env.scope scope x z AA js)(hi:QI X (.Tuple [.Name x px,.Name z pz] tk tp) iter wi)(a:∀fp C s H,QE (Ei X (AA++[x,z]) scope (BB X.env.cells scope.names) C s H fp) elt te)
  (b:∀v,foldedSetIterable iter X.env v=pure v:=by intro _;rfl):QE X (.ListComp elt [⟨.Tuple [.Name x px,.Name z pz] tk tp,iter,[],0⟩] scope pos) (TQ X.K wi js te):=⟨by have hi:=hi.h;have a:=λfp C s H=>(a fp C s H).h;exact kq c S hi (λ_ _ _ _=>dD) a b⟩
end
end L2
namespace Fz
open L2 Lw
variable{E:Ent0}{ss:List Slot}{Z:L2.St}{F F' H H':Hp}{js:List Nat}{ta tb te:TE}{nx:List Slot->Prop}{R:Ae}{wi:TI}{i:Nat}{α:Type}{xs:List PV}
section
variable[Xw]
variable{K:ZHy}{k:PV->Prop}
theorem WK{tt:TT}{k:List PV->Prop}(I:List PV->List PV->Prop)(i0:I [] [])
  (h:Wi ss wi λxs=>xs.length<=100000/\(∀x∈xs,∃a b,x=.tup [a,b]/\Wt (Br js ss++[.is a,.is b]) tt λc=>if c=true then Wp (Br js ss++[.is a,.is b]) te λy=>∀pre ys,I pre ys->I (pre++[x]) (ys++[y])else ∀pre ys,I pre ys->I (pre++[x]) ys)/\∀ys,I xs ys->k ys)
  (nd:js.Nodup:=by decide):Wn ss (Kq K wi js tt te) k:=⟨λE Z F H Q S q=>
 h.go E Z F H _ S λJ xs F1 H1 t l⟨z,f,kk⟩acc Ea=>gh t l z Ea q (λx H yes no=>∃a u v,x=.ref a/\Ax K H a [u,v]/\tt (As js Z++[some u,some v]) H λb H4=>if b=true then te (As js Z++[some u,some v]) H4 yes else no H4) I i0 (λF2 H2 x p S2 m B yes no A C=>by
  obtain⟨a,b,rfl,f⟩:=f p B;obtain⟨_,_,rfl,e,r⟩:=m.inv;obtain⟨u,_,rfl,i,r⟩:=r.inv;obtain⟨v,_,rfl,g,r⟩:=r.inv;obtain rfl:=r.DL;refine⟨_,_,_,rfl,Ax.of (S2.fh _ _ e),f.go E _ F2 H2 _ (S2.AA (js:=js) nd (.cons i (.one g))) λc F4 H4 s j=>?_⟩;have d:=s.Oa (ps:=[a,b]) (vs:=[u,v]) S2;cases c with
  |true=>exact(show Wp _ _ _ from j).go E _ F4 H4 _ (d.st.AA (js:=js) nd (.cons (i.mono d.ff) (.one (g.mono d.ff)))) λw y F5 H5 o n e=>A w y F5 H5 (d.trans (o.Oa (ps:=[a,b]) (vs:=[u,v]) d.st)) n e
  |false=>exact C F4 H4 d j) kk⟩
theorem ZDL{k:List PV->Prop}(g:PV->PV)
  (h:Wi ss wi λxs=>xs.length<=100000/\(∀x∈xs,∃a b,x=.tup [a,b]/\Wp (Br js ss++[.is a,.is b]) te λp=>p=g x)/\k (xs.map g))
  (nd:js.Nodup:=by decide) (np:Ks js ss=true:=by rfl):Wn ss (TQ K wi js te) k:=(WK (tt:=Ie) (λpre ys=>ys=pre.map g) rfl (h.mono λxs⟨c,d,kk⟩=>⟨c,λx hx=>let ⟨a,b,ex,ht⟩:=d x hx;⟨a,b,ex,Gy (ht.mono λy f pre ys h=>by subst f;subst h;simp)⟩,λys e=>e▸kk⟩) nd:Wn ss (Kq K wi js Ie te) k)
theorem Sg.QF(S:Sg E ss Z F H){p:Addr}(hi:ss[i]?=some .AD)(e:Z[i]?=some (some (.ref p)))(s:BH p H H'):Mv E ss Z F H F H':=by
 obtain⟨g,b,fp,_,f⟩:=S.ok i _ hi;rw[e]at b;cases b;refine S.step (AQ.refl _) (λa o q=>s.same a o (DS q fp) (S.fh a o q)) (λa o n q=>s.same a o (λz=>?_) q) (λa o q=>.inl q) λj l c d=>?_
 .rw[z]at n;exact n i hi e
 .by_cases z:l=p
  .rw[z];exact s.AD
  .exact Bi.keep (S.Fy c d) λo q=>s.same l o z q
theorem nV(hi:ss[i]?=some .AD)(h:Wp ss te λx=>∃m,x=.int m/\0<m/\m<10 ^ 18/\∀r:Int,0<=r->r<m->k (.int r)):Wp ss (E7 Hn [] E0 (AZ (Aj i) (AZ te B6))) k:=⟨λE Z F H Q S q=>by
 obtain⟨p,e,_⟩:=S.ok i _ hi;refine⟨_,e,h.go E Z F H _ S λv x F1 H1 a r⟨m,f,d,Pd,kk⟩=>?_⟩;subst f;cases r.inv;exact⟨p,m,rfl,a.st.Fy hi e,d,Pd,λr H2 c b s=>q _ _ F1 H2 (a.trans (a.st.QF hi e s)) (.int r) (kk r c b)⟩⟩
theorem ZBX{sp:Sp}{k:List PV->Prop}(Ey:sp=Us)(hi:ss[i]?=some .AD)(h:Wp ss te λx=>∃m,x=.int m/\1<=m/\m<=100/\∀ns:List Str,(ns.length:Int)<=m->(∀x∈ns,Nm x)->ns.Nodup->k (ns.map PV.str)):Wn ss (E7 sp [] E0 (AZ (Aj i) (AZ te B6))) k:=⟨λE Z F H Q S q=>by
 subst Ey;obtain⟨p,e,_⟩:=S.ok i _ hi;refine⟨_,e,h.go E Z F H _ S λv x F1 H1 a r⟨m,g,c,Pd,kk⟩=>?_⟩;subst g;cases r.inv;refine⟨p,m,rfl,a.st.Fy hi e,c,Pd,λl H2 ns b s Bk d f nd=>?_⟩;have m2:=a.st.QF hi e s;exact q l _ _ F1 H2 (a.trans m2) (a.st.Bp b) (a.none b) Bk (Rv ns) (kk ns d f nd)⟩
def VV(K:ZHy)(ns:List Int):Hp->V->Prop:=λF v=>∃a,v=.ref a/\AL K F a (ns.map V.int)
theorem Y5(K:ZHy)(ns:List Int):∀(v:V)(F F':Hp),AQ F F'->VV K ns F v->VV K ns F' v:=λv F F' s AM=>by obtain⟨a,e,h⟩:=AM;exact⟨a,e,by
 rcases h with(h|⟨o,h⟩)|h
 .exact .inl (.inl (s _ _ h))
 .exact .inl (.inr ⟨o,s _ _ h⟩)
 .exact .inr h⟩
end
section
variable[Xw]
variable{K:ZHy}{k:PV->Prop}
theorem str_inj:∀x y:Str,PV.str x=PV.str y->x=y:=λ_ _ e=>by injection e
theorem Vs:∀x y:Nat,PV.int (x:Int)=PV.int (y:Int)->x=y:=λ_ _ e=>by injection e with e;omega
theorem ZCn(h:Wp ss ta λp=>∃x,p=.str x/\Wq ss tb λ_ ys=>∃ns:List Str,ys=ns.map PV.str/\k (.bl (decide (x∈ns)))):Wp ss (BE (FP K false) ta tb) k:=i4 h
theorem uF(h:Wp ss ta λp=>∃x,p=.str x/\Wq ss tb λ_ ys=>∃ns:List Str,ys=ns.map PV.str/\k (.bl (!decide (x∈ns)))):Wp ss (BE (FP K true) ta tb) k:=i4 h
theorem xP(h:Wq ss ta λtp xs=>∃ns:List Str,xs=ns.map PV.str/\Wq ss tb λCo ys=>Co=tp/\∃ms:List Str,ys=ms.map PV.str/\k (.bl (decide (ns=ms)))):Wp ss (BE (Jo K false) ta tb) k:=eM h
theorem iR(h:Wq ss ta λtp xs=>∃ns:List Str,xs=ns.map PV.str/\Wq ss tb λCo ys=>Co=tp/\∃ms:List Str,ys=ms.map PV.str/\k (.bl (!decide (ns=ms)))):Wp ss (BE (Jo K true) ta tb) k:=eM h
theorem QY(xs:List α)(g:Nat):Es xs none (some (g:Int))=xs.take g:=by
 unfold Es;rw[HT.dj,HT.fQ,m8,mQ];rcases Ti g xs.length with h|h
 .rw[Tn h]
 .rw[To h,Gw,NN h]
theorem Zz(xs:List α)(g:Nat):Es xs (some (g:Int)) none=xs.drop g:=by
 unfold Es;rw[HT.dj,HT.fQ];rcases Ti g xs.length with h|h
 .rw[Tn h,NN (by rw[IM];omega)]
 .rw[To h,ZO,List.drop_of_length_le h];simp
theorem ZA0(g:α->Bool)(xs:List α):xs.map (λx=>PV.bl (g x))=(xs.map g).map PV.bl:=by rw[FJ];rfl
variable{ys:List PV}
theorem ud(h:Wq ss ta λtp xs=>tp=false/\∃ns:List Str,xs=ns.map PV.str/\Wp ss tb λp=>∃x,p=.str x/\x∈ns/\k (.int (ns.idxOf x:Nat))):Wp ss (LN K "list" (ay K) ta (AZ tb B6)) k:=⟨λE Z F H Q S q=>
 h.go E Z F H _ S λv tp xs F1 H1 a sv⟨f,ns,e,h2⟩=>by
  subst e;subst f;obtain⟨l,vs,rfl,d,r⟩:=sv.seq a.st;refine⟨.inl ⟨rfl,_,AL.of d⟩,h2.go E Z F1 H1 _ a.st λv2 p2 F2 H2 m2 b⟨x,g,hx,kk⟩=>?_⟩;subst g;cases b.inv;obtain⟨j,Bx,i,DX,c⟩:=(sv.mv m2).seq m2.st;cases i;rw[c.strs]at DX;exact⟨l,ns,x,rfl,rfl,AL.of DX,hx,q _ _ F2 H2 (a.trans m2) (.int _) kk⟩⟩
noncomputable def Ji(xs:List PV):List PV:=(List.range xs.length).map λi:Nat=>.tup [.int (i:Int),xs.getD i .A8]
theorem OT(xs:List PV):(Ji xs).length=xs.length:=by simp[Ji]
theorem VF{x:PV}(h:xs[i]?=some x):(Ji xs)[i]?=some (.tup [.int (i:Int),x]):=by
 have hi:i<xs.length:=(List.getElem?_eq_some_iff.mp h).1;unfold Ji;rw[Ah,ZS hi];show some (PV.tup [PV.int (i:Int),xs.getD i PV.A8])=_;rw[NL,h];rfl
theorem gG{p:PV}(h:(Ji xs)[i]?=some p):∃x,xs[i]?=some x/\p=.tup [.int (i:Int),x]:=by
 have hi:i<xs.length:=by have:=(List.getElem?_eq_some_iff.mp h).1;rwa [OT]at this
 have e:=Au hi;refine⟨xs[i],e,?_⟩;rw[VF e]at h;exact(BG h).symm
theorem oz{k:List PV->Prop}(c d:α->PV)(g:α->PV)
  (h:Wi ss wi λxs=>∃ns:List α,xs=ns.map (λx=>.tup [c x,d x])/\ns.length<=100000/\(∀x∈ns,Wp (Br js ss++[.is (c x),.is (d x)]) te λp=>p=g x)/\k (ns.map g))
  (inj:∀x y,c x=c y->d x=d y->x=y) (nd:js.Nodup:=by decide) (np:Ks js ss=true:=by rfl):Wn ss (TQ K wi js te) k:=
 have a:∀x y,PV.tup [c x,d x]=.tup [c y,d y]->x=y:=λx y e=>by
  injection e with e
  injection e with e1 e
  injection e with e2 _
  exact inj x y e1 e2
 (WK (tt:=Ie) (λpre ys=>∀ms:List α,pre=ms.map (λx=>PV.tup [c x,d x])->ys=(ms.filter λ_=>true).map g) (λms e=>by rw[List.map_eq_nil_iff.mp e.symm];rfl) (h.mono λxs⟨ns,e,b,i,kk⟩=>⟨by rw[e,AG];exact b,λx hx=>by
  rw[e]at hx;obtain⟨y,f,rfl⟩:=List.mem_map.mp hx;exact⟨_,_,rfl,Gy ((i y f).mono λp ep pre ys h=>ep▸(Ug a rfl h).1 rfl)⟩,λys h=>by rw[h ns e,List.filter_eq_self.mpr λ_ _=>rfl];exact kk⟩) nd:Wn ss (Kq K wi js Ie te) k)
theorem ZDu{k:List PV->Prop}(c:α->PV)(g:α->PV)
  (h:Wi ss wi λxs=>∃ns:List α,xs=ns.map c/\ns.length<=100000/\(∀x∈ns,Wp (Br js ss++[.is (c x)]) te λp=>p=g x)/\k (ns.map g))
  (inj:∀x y,c x=c y->x=y) (nd:js.Nodup:=by decide) (np:Ks js ss=true:=by rfl):Wn ss (Gk wi js Ie te) k:=
 Fw c (λ_=>true) g (h.mono λxs AM=>by obtain⟨ns,e,a,h1,kk⟩:=AM;exact⟨ns,e,a,λx hx=>Gy rfl,λx hx _=>h1 x hx,by rw[List.filter_eq_self.mpr (λ_ _=>rfl)];exact kk⟩) inj nd np
end
theorem Jv{c A B:Prop}[Decidable c](h:c)(a:A):if c then A else B:=by rw[oM h];exact a
end Fz
namespace Fz
open L2 Lw
section
variable[Xw]
variable{E:Ent0}{ss:List Slot}{Z:L2.St}{F H F' H':Hp}{K:ZHy}{js:List Nat}{ta tb tc te:TE}{k:PV->Prop}{nx:List Slot->Prop}{R:Ae}{xs ys:List PV}{P:Program}{w:World}
theorem Yi(h:Wq ss ta λtp xs=>tp=false/\Wq ss tb λCo ys=>Co=false/\ys=[]/\k (.bl (!decide (xs.length=0)))):Wp ss (BE (i8 K) ta tb) k:=⟨λE Z F H Q S q=>
 h.go E Z F H _ S λv tp xs F1 H1 a sv⟨f,h2⟩=>h2.go E Z F1 H1 _ a.st λv2 Co ys F2 H2 m2 Ih⟨OA,d,kk⟩=>by
  subst f;subst OA;subst d;obtain⟨l,vs,rfl,c,r⟩:=(sv.mv m2).seq m2.st;obtain⟨l2,HC,rfl,Bk,b⟩:=Ih.seq m2.st;cases b;refine⟨l,l2,vs,rfl,rfl,AL.of c,AL.of Bk,?_⟩;have e:decide (vs=[])=decide (xs.length=0):=by
   rw[<- r.length];cases vs <;> simp
  rw[e];exact q _ _ F2 H2 (a.trans m2) (.bl _) kk⟩
theorem xB{k:List PV->Prop}(h:Wq ss te λ_ xs=>∃ns:List Str,xs=ns.map PV.str/\ns.length<64/\∀ts:List Str,ts.length=(dd ns).length->(∀x,(dd ns).any (· == x)=true↔x∈ts)->sortedS ts=true->k (ts.map PV.str)):
  Wn ss (CH (cm P w) (AZ (CH (MM gT K P w) (AZ te B6)) B6)) k:=⟨λE Z F H Q S q=>
 h.go E Z F H _ S λv tp xs F1 H1 c sv AM=>by
  obtain⟨ns,e,i,kk⟩:=AM;subst e;obtain⟨l,vs,rfl,f,r⟩:=sv.seq c.st;rw[r.strs]at f;refine⟨l,tp,ns,rfl,Ej.sq f,by omega,λa n=>?_⟩;have m2:=c.st.make n (HI P w a (λk'=>(dd ns).any (· == k')) (dd ns).length)
  refine⟨a,_,_,rfl,AV,Gx (Px ns) i,λb ts d Bk m j=>?_⟩;have g:=m2.st.make d (.lst (ts.map V.str));exact q b _ _ F1 _ (c.trans (m2.trans g)) (m2.st.Bp d) ((c.trans m2).none d) AV (Rv ts) (kk ts Bk m j)⟩
end
end Fz
namespace Lw
open L2
def ZA7(H:Hp)(t c:Addr)(r:Str)(g:Int)(ss:List Str):Prop:=H t=some (.tup [.str r,.int g,.ref c])/\H c=some (.tup (ss.map V.str))
end Lw
namespace Fz
open L2 Lw
variable{E:Ent0}{ss:List Slot}{Z:L2.St}{F F' F0 F1 H H' H0:Hp}{js m p:List Nat}{ta tb tc te ti:TE}{nx:List Slot->Prop}{R:Ae}{n t u x y:OV}{g i j:Nat}{us xs:List OV}{Bx vs:List V}{a:Addr}{v:V}{cS ps:List PV}{as:List Addr}
noncomputable def PJ(r:Str)(g:Nat)(ss:List Str):PV:=.tup [.str r,.int g,.tup (ss.map .str)]
section
variable[Xw]
variable{K:ZHy}{k:PV->Prop}
theorem Mv.adopt(m:Mv E ss Z F H F1 H')(S:Sg E ss Z F H){t:Addr}{o:HO}(c:H t=Option.none)(e:H' t=some o):Mv E ss Z F H (upd F1 t o) H':=by
 have b:AQ F1 (upd F1 t o):=λa u q=>by
  by_cases z:a=t
  .subst z;have w:=m.st.fh _ _ q;rw[e]at w;rw[AV];exact w
  .rw[AK z];exact q
 refine S.step (m.ff.trans b) (λa u q=>?_) m.hh (λa u q=>?_) λi l hi d=>m.st.Fy hi d
 .by_cases z:a=t
  .subst z;rw[AV]at q;rw[<- q];exact e
  .rw[AK z]at q;exact m.st.fh a u q
 .by_cases z:a=t
  .subst z;exact .inr c
  .rw[AK z]at q;exact m.nn a u q
theorem tS{t c:Addr}{r:Str}{cs:List Str}(h:ZA7 F t c r g cs):Rep F (.ref t) (PJ r g cs):=.tup h.1 (.cons (.str _) (.cons (.int _) (.one (.tup h.2 (Rv cs)))))
theorem Vu(hi:ss[i]?=some .AD)(h:Wq ss ta λtp xs=>tp=false/\∃ns:List Str,xs=ns.map PV.str/\ns.length<=40/\ns.Nodup/\∀(r:Str)(g:Nat)(cs:List Str),D1 ns r g cs->cs.length<=40->k (PJ r g cs)):
  Wp ss (E7 RQ [] E0 (AZ (Aj i) (AZ ta B6))) k:=⟨λE Z F H Q S q=>by
 obtain⟨p,e,_⟩:=S.ok i _ hi;refine⟨_,e,h.go E Z F H _ S λv tp xs F1 H1 a sv⟨J,ns,ex,A,nd,kk⟩=>?_⟩;subst J;subst ex;obtain⟨l,vs,I,C,d,r⟩:=sv;subst I;rw[r.strs]at d;refine⟨p,l,ns,rfl,a.st.Fy hi e,d,λz=>C i hi (z▸e),A,nd,λt c r g cs H3 B D s e1 f G=>?_⟩;obtain⟨w,b,u,o,m,j⟩:=G;obtain⟨n,rfl⟩:=TY b;have y:=(a.st.QF hi e s).adopt a.st D f;have x:=y.adopt a.st B e1;refine q _ _ _ H3 (a.trans x) (tS (c:=c) ⟨AV,?_⟩) (kk r n cs ⟨w,b,u,o,m⟩ j)
 by_cases z:c=t
 .subst z;rw[AV];exact e1.symm.trans f
 .rw[AK z,AV]⟩
variable{xs:List PV}
theorem cA{n:Nat}(h:j<n):FU n (j:Int)=some j:=by
 unfold FU;simp;omega
theorem AN.set:∀{xs:List PV}(j:Nat){v:V}{p:PV},AN F vs xs->Rep F v p->AN F (vs.set j v) (xs.set j p):=by
 intro xs
 induction vs generalizing xs with
 |nil=>intro j v p h r;cases h;exact .nil
 |cons a vs c=>
  intro j v p h r;cases h with
  |cons b t=>
   cases j with
   |zero=>exact .cons r t
   |succ j=>exact .cons b (c j t r)
end
noncomputable def OV.at(t:OV):List Nat->Option OV
 | []=>some t
 |j::p=>match t with
  | .nd _ _ xs=>(xs[j]?).bind λx=>OV.at x p
  | .tp xs=>(xs[j]?).bind λx=>OV.at x p
  | .fz _=>none
noncomputable def OV.put(t:OV)(l:List Nat)(n:OV):OV:=match l with
 | []=>n
 |j::p=>match t with
  | .nd k a xs=>match xs[j]? with
   |some x=>.nd k a (xs.set j (OV.put x p n))
   |none=>.nd k a xs
  | .tp xs=>match xs[j]? with
   |some x=>.tp (xs.set j (OV.put x p n))
   |none=>.tp xs
  | .fz q=>.fz q
theorem OV.MB:t.at []=some t:=by rw[OV.at]
theorem OV.Oe{k:NK}:(OV.nd k a xs).at (j::p)=(xs[j]?).bind λx=>x.at p:=by rw[OV.at]
theorem OV.O7:(OV.tp xs).at (j::p)=(xs[j]?).bind λx=>x.at p:=by rw[OV.at]
theorem OV.Nf:t.put [] n=n:=by rw[OV.put]
theorem OV.RV{k:NK}(h:xs[j]?=some x):(OV.nd k a xs).put (j::p) n=.nd k a (xs.set j (x.put p n)):=by rw[OV.put,h]
theorem OV.RE(h:xs[j]?=some x):(OV.tp xs).put (j::p) n=.tp (xs.set j (x.put p n)):=by rw[OV.put,h]
theorem OV.S6{u w:OV}:∀{p:List Nat}{t:OV}{j:Nat},t.at p=some u->u.at [j]=some w->t.at (p++[j])=some w
 | [],t,j,h,h2=>by rw[OV.MB]at h;cases h;exact h2
 |i::p,.nd k a xs,j,h,h2=>by
  rw[OV.Oe]at h;rw[ZM,OV.Oe];cases e:xs[i]? with
  |none=>rw[e]at h;cases h
  |some x=>rw[e]at h;exact OV.S6 (t:=x) h h2
 |i::p,.tp xs,j,h,h2=>by
  rw[OV.O7]at h;rw[ZM,OV.O7];cases e:xs[i]? with
  |none=>rw[e]at h;cases h
  |some x=>rw[e]at h;exact OV.S6 (t:=x) h h2
 |i::p,.fz q,j,h,h2=>by rw[OV.at]at h;cases h
theorem Kk:∀{xs:List OV}{j:Nat}{x:OV},xs[j]?=some x->∃l r,OV.B3 xs=l++x.addrs++r/\∀y:OV,OV.B3 (xs.set j y)=l++y.addrs++r
 |x::xs,0,z,h=>by
  simp at h;subst h;exact⟨[],OV.B3 xs,by rw[OV.Dm];rfl,λy=>by rw[mL,OV.Dm];rfl⟩
 |x::xs,j+1,z,h=>by
  obtain⟨l,r,e1,a⟩:=Kk (xs:=xs) (j:=j) (x:=z) (by simpa using h)
  refine⟨x.addrs++l,r,by rw[OV.Dm,e1];simp[Bm],λy=>by rw[Tg,OV.Dm,a];simp[Bm]⟩
theorem OV.split{u:OV}:∀{p:List Nat}{t:OV},t.at p=some u->∃l r,t.addrs=l++u.addrs++r/\∀n:OV,(t.put p n).addrs=l++n.addrs++r
 | [],t,h=>by rw[OV.MB]at h;cases h;exact⟨[],[],by simp,λn=>by rw[OV.Nf];simp⟩
 |j::p,.nd k a xs,h=>by
  rw[OV.Oe]at h;cases e:xs[j]? with
  |none=>rw[e]at h;cases h
  |some x=>
   rw[e]at h;obtain⟨l,r,e1,f⟩:=Kk e;obtain⟨l2,b,d,c⟩:=OV.split (t:=x) h;refine⟨a::(k.more++(l++l2)),b++r,by rw[OV.EI,e1,d];simp[Bm],λn=>by rw[OV.RV e,OV.EI,f,c];simp[Bm]⟩
 |j::p,.tp xs,h=>by
  rw[OV.O7]at h;cases e:xs[j]? with
  |none=>rw[e]at h;cases h
  |some x=>
   rw[e]at h;obtain⟨l,r,e1,f⟩:=Kk e;obtain⟨l2,b,d,c⟩:=OV.split (t:=x) h;refine⟨l++l2,b++r,by rw[OV.Hz,e1,d];simp[Bm],λn=>by rw[OV.RE e,OV.Hz,f,c];simp[Bm]⟩
 |j::p,.fz q,h=>by rw[OV.at]at h;cases h
theorem BW.get{F H:Hp}{vs:List V}{ts:List OV}{j:Nat}{t:OV}(r:BW F H vs ts)(e:ts[j]?=some t):∃v,vs[j]?=some v/\Al F H v t:=by
 induction ts generalizing vs j with
 |nil=>cases e
 |cons q ps c=>
  obtain⟨v,ws,rfl,a,b⟩:=r.inv;cases j with
  |zero=>cases e;exact⟨_,rfl,a⟩
  |succ j=>exact c (vs:=ws) (j:=j) b e
theorem BW.append{ws:List V}{ys:List OV}(r:BW F H vs xs)(s:BW F H ws ys):BW F H (vs++ws) (xs++ys):=by
 induction xs generalizing vs with
 |nil=>cases r.DL;exact s
 |cons p ps c=>obtain⟨v,us,rfl,a,b⟩:=r.inv;exact .cons a (c b)
theorem BW.one{F H:Hp}{v:V}{t:OV}(r:Al F H v t):BW F H [v] [t]:=.cons r .nil
theorem jS{xs:List PV}(r:AN F vs xs):BW F H vs (xs.map .fz):=by
 induction xs generalizing vs with
 |nil=>cases r.DL;exact .nil
 |cons p ps c=>obtain⟨v,us,rfl,a,b⟩:=r.inv;exact .cons (.fz a) (c b)
theorem BW.u6{xs:List PV}(r:BW F H vs (xs.map .fz)):AN F vs xs:=by
 induction xs generalizing vs with
 |nil=>cases r.DL;exact .nil
 |cons p ps c=>obtain⟨v,us,rfl,a,b⟩:=r.inv;exact .cons a.inv (c b)
theorem TK:∀(xs:List PV),OV.B3 (xs.map .fz)=[]
 | []=>by rw[ZV,OV.B3]
 |x::r=>by rw[D4,OV.Dm,OV.MS,TK r];rfl
theorem BW.set(j:Nat)(r:BW F H vs xs)(q:Al F H v t):BW F H (vs.set j v) (xs.set j t):=by
 induction xs generalizing vs j with
 |nil=>cases r.DL;exact .nil
 |cons p ps c=>
  obtain⟨u,us,rfl,a,b⟩:=r.inv;cases j with
  |zero=>exact .cons q b
  |succ j=>exact .cons a (c j b)
theorem BW.swap(r:BW F H vs xs)(h:xs[j]?=some x)(e:vs[j]?=some v)(hk:∀l r,OV.B3 xs=l++x.addrs++r->(∀z:OV,OV.B3 (xs.set j z)=l++z.addrs++r)->∀b∈l++r,∀o,H b=some o->H' b=some o)(f:Al F H' v y):BW F H' vs (xs.set j y):=by
 induction xs generalizing vs j with
 |nil=>cases h
 |cons p ps k=>
  obtain⟨u,us,rfl,a,b⟩:=r.inv;cases j with
  |zero=>
   cases h;cases e;refine .cons f (b.mono (AQ.refl _) λc d o=>hk [] (OV.B3 ps) (by rw[OV.Dm];rfl) (λz=>by rw[mL,OV.Dm];rfl) c d o)
  |succ j=>
   rw[Tg];obtain⟨l,q,e1,m⟩:=Kk (xs:=ps) (j:=j) h;refine .cons (a.mono (AQ.refl _) λc d o=>hk (p.addrs++l) q (by rw[OV.Dm,e1,Bm,Bm,Bm]) (λz=>by rw[Tg,OV.Dm,m,Bm,Bm,Bm]) c (DN _ (DN _ d)) o) (k (vs:=us) (j:=j) b h e λi g CO B9 c d o=>?_);refine hk (p.addrs++i) g (by rw[OV.Dm,CO,Bm,Bm,Bm]) (λz=>by rw[Tg,OV.Dm,B9,Bm,Bm,Bm]) c ?_ o;rcases List.mem_append.mp d with hz|hz
   .exact DN _ (C1 _ hz)
   .exact C1 _ hz
theorem Al.at{F H:Hp}{u:OV}:∀{p:List Nat}{t:OV}{v:V},Al F H v t->t.at p=some u->∃w,Al F H w u/\∀(H':Hp)(n:OV),Al F H' w n->(∀l r,t.addrs=l++u.addrs++r->(∀n:OV,(t.put p n).addrs=l++n.addrs++r)->∀b∈l++r,∀o,H b=some o->H' b=some o)->Al F H' v (t.put p n)
 | [],t,v,h,e=>by rw[OV.MB]at e;cases e;exact⟨v,h,λH' n r _=>by rw[OV.Nf];exact r⟩
 |j::p,.fz q,v,h,e=>by rw[OV.at]at e;cases e
 |j::p,.nd k a xs,_,.nd h sd ft r,e=>by
  rw[OV.Oe]at e;cases ex:xs[j]? with
  |none=>rw[ex]at e;cases e
  |some x=>
   rw[ex]at e;obtain⟨D,WE,y⟩:=r.get ex;obtain⟨w,d,go⟩:=Al.at (t:=x) y e;refine⟨w,d,λH' n s hk=>?_⟩;obtain⟨l2,m,C,B⟩:=OV.split e;have key:∀l r,OV.B3 xs=l++x.addrs++r->(∀z:OV,OV.B3 (xs.set j z)=l++z.addrs++r)->∀b,b∈(a::(k.more++(l++l2)))++(m++r)->∀o,H b=some o->H' b=some o:=λl r e1 i b c o=>
    hk (a::(k.more++(l++l2))) (m++r) (by rw[OV.EI,e1,C];simp[Bm]) (λn=>by rw[OV.RV ex,OV.EI,i,B];simp[Bm]) b c o
   obtain⟨l,q,e1,i⟩:=Kk ex;rw[OV.RV ex];refine .nd (key l q e1 i a (by simp) _ h) (NK.b9 sd λb c=>key l q e1 i b (by simp[c])) ft ?_;refine r.swap ex WE (λg f CO B9 b c o=>key g f CO B9 b (by rcases List.mem_append.mp c with hz|hz <;> simp[hz]) o) ?_
   refine go H' n s λg f g1 A b c o=>?_;refine hk (a::(k.more++(l++g))) (f++q) (by rw[OV.EI,e1,g1];simp[Bm]) (λn=>by rw[OV.RV ex,OV.EI,i,A];simp[Bm]) b (by rcases List.mem_append.mp c with hz|hz <;> simp[hz]) o
 |j::p,.tp xs,_,.tp h r,e=>by
  rw[OV.O7]at e;cases ex:xs[j]? with
  |none=>rw[ex]at e;cases e
  |some x=>
   rw[ex]at e;obtain⟨D,WE,y⟩:=r.get ex;obtain⟨w,d,go⟩:=Al.at (t:=x) y e;refine⟨w,d,λH' n s hk=>?_⟩;obtain⟨l2,m,C,B⟩:=OV.split e;obtain⟨l,q,e1,i⟩:=Kk ex;rw[OV.RE ex];refine .tp h (r.swap ex WE (λg f CO B9 b c o=>?_) (go H' n s λg f g1 A b c o=>?_))
   .exact hk (g++l2) (m++f) (by rw[OV.Hz,CO,C];simp[Bm]) (λn=>by rw[OV.RE ex,OV.Hz,B9,B];simp[Bm]) b (by rcases List.mem_append.mp c with hz|hz <;> simp[hz]) o
   .exact hk (l++g) (f++q) (by rw[OV.Hz,e1,g1];simp[Bm]) (λn=>by rw[OV.RE ex,OV.Hz,i,A];simp[Bm]) b (by rcases List.mem_append.mp c with hz|hz <;> simp[hz]) o
theorem jU{l u r n:List Addr}(h:(l++u++r).Nodup)(g:n.Nodup)(hd:∀b∈n,b∈u∨b∉l++u++r):(l++n++r).Nodup:=by
 rw[Fh]at h ⊢;obtain⟨h1,h2,f⟩:=h;rw[Fh]at h1 ⊢;obtain⟨a1,a2,i⟩:=h1;refine⟨⟨a1,g,λa c b d e=>?_⟩,h2,λa c b d e=>?_⟩
 .subst e;rcases hd a d with z|z
  .exact i a c a z rfl
  .exact z (by simp[c])
 .subst e;rcases List.mem_append.mp c with c|c
  .exact f a (by simp[c]) a d rfl
  .rcases hd a c with z|z
   .exact f a (by simp[z]) a d rfl
   .exact z (by simp[d])
theorem Sg.du(S:Sg E ss Z F H){k:NK}{ho:HO}{lt:Bool}(hi:ss[i]?=some (.ow lt t))(By:t.at p=some (.nd k a xs))(L:Al F (upd H a ho) (.ref a) n)(nd:n.addrs.Nodup)
  (C:∀b∈n.addrs,b∈(OV.nd k a xs).addrs∨(F b=none/\E.H0 b=none/\∀(j:Nat)s,ss[j]?=some s->¬ Bg s Z[j]? b)):Sg E (ss.set i (.ow lt (t.put p n))) Z F (upd H a ho):=by
 obtain⟨v,e,r,YI,q⟩:=S.ok i _ hi;obtain⟨l,J,e1,B⟩:=OV.split By;have f:a∈(OV.nd k a xs).addrs:=by rw[OV.EI];simp
 have h:∀b∈(OV.nd k a xs).addrs,b∈t.addrs:=λb c=>by rw[e1];simp[c]
 have R:∀b∈n.addrs,b∈(OV.nd k a xs).addrs∨b∉t.addrs:=λb c=>(C b c).imp id λz m=>z.2.2 i _ hi m;obtain⟨w,u,go⟩:=r.at By;have M:w=.ref a:=by cases u;rfl
 subst M;have g:∀(j:Nat)s,(ss.set i .any)[j]?=some s->∀b,b∈t.addrs->¬ Bg s Z[j]? b:=λj s d b c m=>by
  by_cases z:j=i
  .subst z;rw[Ca (List.getElem?_eq_some_iff.mp hi).1]at d;cases d;cases m
  .rw[Bv (Az z)]at d;exact S.Ba j i s _ b z d hi m c
 have Q:=(S.drop i).Qs (o:=ho) (q a (h a f)).1 ((q a (h a f)).2.imp id λz=>z.2) λj s d=>g j s d a (h a f);have A:=YI;rw[e1,Fh,Fh]at A;obtain⟨⟨_,_,O⟩,_,N⟩:=A;have P:∀b,b∈l++J->b≠a:=λb c z=>by
  subst z;rcases List.mem_append.mp c with c|c
  .exact O b c b f rfl
  .exact N b (by simp[f]) b c rfl
 have K:Al F (upd H a ho) v (t.put p n):=go _ n L λU T g1 V b c o I=>by
  rw[AK ?_];exact I;rintro rfl;have y:=YI;rw[g1,Fh,Fh]at y;obtain⟨⟨_,_,c1⟩,_,c2⟩:=y;rcases List.mem_append.mp c with c|c
  .exact c1 b c b f rfl
  .exact c2 b (by simp[f]) b c rfl
 have D:∀b∈(t.put p n).addrs,b∈t.addrs∨(F b=none/\E.H0 b=none/\∀(j:Nat)s,ss[j]?=some s->¬ Bg s Z[j]? b):=λb c=>by
  rw[B]at c;rcases List.mem_append.mp c with c|c
  .rcases List.mem_append.mp c with c|c
   .exact .inl (by rw[e1];simp[c])
   .exact(C b c).imp (h b) id
  .exact .inl (by rw[e1];simp[c])
 have G:=Q.setG (j:=i) (s:=.ow lt (t.put p n)) (v:=v) ⟨v,rfl,K,by rw[B];exact jU (e1▸YI) nd λb c=>(R b c).imp id (by rw[e1];exact id),λb c=>(D b c).elim (q b) λz=>⟨z.1,.inl z.2.1⟩⟩ λb c j s d x m=>by
  rcases D b c with z|z
  .exact g j s x b z m
  .rw[Bv (Az d)]at x;exact z.2.2 j s x m
 rw[MC e,Th]at G;exact G
structure Wl [Xw] (ss:List Slot) (i:Nat) (t:OV) (te:TE) (k:List Nat->OV->Prop):Prop where
 hi:∃lt,ss[i]?=some (.ow lt t)
 go:∀(E:Ent)(Z:L2.St)(F H:Hp)(Q:VK),Sg E ss Z F H->(∀v p u F' H',Mv E ss Z F H F' H'->Al F' H' v u->t.at p=some u->k p u->Q v H')->te Z H Q
noncomputable def ED:List Nat->List Slot->List Slot
 | [],ss=>ss
 |i::m,ss=>ED m (ss.set i .any)
structure Wx [Xw] (ss:List Slot) (te:TE) (k:List Nat->OV->Prop):Prop where
 go:∀(E:Ent)(Z:L2.St)(F H:Hp)(Q:VK),Sg E ss Z F H->(∀v m u F' H',Mv E ss Z F H F' H'->Al F' H' v u->u.addrs.Nodup->(∀a∈u.addrs,F' a=none/\E.H0 a=none/\((∃i∈m,∃s,s≠Slot.AD/\ss[i]?=some s/\Bg s Z[i]? a)∨H a=none))->k m u->Q v H')->te Z H Q
section
variable[Xw]
variable{K:ZHy}{k:PV->Prop}{xs:List PV}
theorem OV.Rj(h:t.at p=some u):∀a∈u.addrs,a∈t.addrs:=λa b=>by
 obtain⟨l,r,e,_⟩:=OV.split h;rw[e];simp[b]
theorem Al.mv(r:Al F H v u)(S:Sg E ss Z F H)(hi:∃lt,ss[i]?=some (.ow lt t))(h:t.at p=some u)(m:Mv E ss Z F H F' H'):Al F' H' v u:=
 r.mono m.ff λa b o e=>m.hh a o (S.VL hi.choose_spec (OV.Rj h a b) (by simp)) e
theorem HB{lt:Bool}{k:List Nat->OV->Prop}(hi:ss[i]?=some (.ow lt t))(hk:k [] t):Wl ss i t (Aj i) k:=⟨⟨lt,hi⟩,λE Z F H Q S q=>by
 obtain⟨v,e,r,_,_⟩:=S.ok i _ hi;exact⟨v,e,q v [] t F H (.refl S) r OV.MB hk⟩⟩
theorem Ni{k:List Nat->OV->Prop}(h:Wl ss i t ta λp u=>∃a xs,u=.nd .lst a xs/\Wp ss tb λq=>∃(j:Int)(n:Nat)(w:OV),q=.int j/\FU xs.length j=some n/\xs[n]?=some w/\k (p++[n]) w):Wl ss i t (BE (Iw K) ta tb) k:=⟨h.hi,λE Z F H Q S q=>
 h.go E Z F H _ S λv p u F1 H1 b l h1⟨a,xs,r,h2⟩=>h2.go E Z F1 H1 _ b.st λv2 p2 F2 H2 m2 g⟨j,n,w,e,m,hw,kk⟩=>by
  subst e;cases g.inv;have f:=l.mv b.st h.hi h1 m2;subst r;obtain⟨_,rfl,o,s,y,c⟩:=f.inv;obtain⟨x,hx,d⟩:=c.get hw;refine⟨a,_,j,x,rfl,rfl,AL.of o,?_,q x (p++[n]) w F2 H2 (b.trans m2) d (OV.S6 h1 (by rw[OV.Oe,hw];exact OV.MB)) kk⟩;unfold L2.Bf;rw[c.length,m];exact hx⟩
theorem QB{k:List Nat->OV->Prop}(h:Wl ss i t ta λp u=>∃xs,u=.tp xs/\Wp ss tb λq=>∃(j:Int)(n:Nat)(w:OV),q=.int j/\FU xs.length j=some n/\xs[n]?=some w/\k (p++[n]) w):Wl ss i t (BE (Ip K) ta tb) k:=⟨h.hi,λE Z F H Q S q=>
 h.go E Z F H _ S λv p u F1 H1 a g h1⟨xs,o,h2⟩=>h2.go E Z F1 H1 _ a.st λv2 p2 F2 H2 m2 f⟨j,n,w,e,l,hw,kk⟩=>by
  subst e;cases f.inv;have d:=g.mv a.st h.hi h1 m2;subst o;obtain⟨_,_,rfl,m,b⟩:=d.inv;obtain⟨x,hx,c⟩:=b.get hw;refine⟨_,_,j,x,rfl,rfl,Ax.of (m2.st.fh _ _ m),?_,q x (p++[n]) w F2 H2 (a.trans m2) c (OV.S6 h1 (by rw[OV.O7,hw];exact OV.MB)) kk⟩;unfold L2.Bf;rw[b.length,l];exact hx⟩
theorem MV(h:Wl ss i t te λ_ u=>∃p,u=.fz p/\k p):Wp ss te k:=⟨λE Z F H Q S q=>
 h.go E Z F H _ S λv p u F1 H1 b a h1 AM=>by obtain⟨p,c,kk⟩:=AM;subst c;cases a with|fz r=>exact q v p F1 H1 b r kk⟩
theorem eN{k:List Nat->OV->Prop}(h:Wp ss te λp=>k [] (.fz p)):Wx ss te k:=⟨λE Z F H Q S q=>
 h.go E Z F H _ S λv p F1 H1 c r kk=>q v [] (.fz p) F1 H1 c (.fz r) (by rw[OV.MS];exact Ll) (λa b=>by rw[OV.MS]at b;cases b) kk⟩
theorem QR(a:Addr)(xs:List PV):(OV.nd .lst a (xs.map .fz)).addrs=[a]:=by rw[OV.EI,TK];rfl
theorem SW{j:Nat}{s:Slot}:∀{m:List Nat}{ss:List Slot},(ED m ss)[j]?=some s->s=.any∨(ss[j]?=some s/\j∉m)
 | [],ss,h=>.inr ⟨h,by simp⟩
 |i::m,ss,h=>by
  rcases SW (m:=m) (ss:=ss.set i .any) h with e|⟨e,hm⟩
  .exact .inl e
  .by_cases q:j=i
   .subst q;have a:j<ss.length:=by have:=(List.getElem?_eq_some_iff.mp e).1;simpa using this
    rw[Ca a]at e;exact .inl (BG e).symm
   .rw[Bv (Az q)]at e;exact .inr ⟨e,by simp[q,hm]⟩
theorem Sg.ED{E:Ent0}{Z:L2.St}{F H:Hp}:∀(m:List Nat){ss:List Slot},Sg E ss Z F H->Sg E (Fz.ED m ss) Z F H
 | [],_,S=>S
 |i::m,_,S=>Sg.ED m (S.drop i)
theorem Sg.bG(S0:Sg E ss Z F0 H0)(S:Sg E ss Z F H)(r:Al F H v u)(nd:u.addrs.Nodup)(c:∀a∈u.addrs,F a=none/\E.H0 a=none/\((∃i∈m,∃s,s≠Slot.AD/\ss[i]?=some s/\Bg s Z[i]? a)∨H0 a=none)):
  Sg E ((Fz.ED m ss).set j (.ow false u)) (Z.set j (some v)) F H:=by
 refine(S.ED m).setG ⟨v,rfl,r,nd,λa b=>⟨(c a b).1,.inl (c a b).2.1⟩⟩ λa b i s BV f o=>?_;rcases SW f with e|⟨GV,hm⟩
 .subst e;cases o
 .rcases(c a b).2.2 with⟨i2,FH,s2,_,Eo,d⟩|z
  .exact S.Ba i i2 s s2 a (by rintro rfl;exact hm FH) GV Eo o d
  .exact S0.HX GV o z
theorem kg(h:Wx ss te λm u=>nx ((Fz.ED m ss).set j (.ow false u))):Ws ss (Df te (CZ j)) nx R:=⟨λE D Z F H S c d=>
 h.go E Z F H _ S λv m u F1 H1 a r nd b kk=>c _ _ F1 H1 kk (Sg.bG S a.st r nd b) a.ff⟩
theorem yG{t':TS}(i:Nat)(hi:ss[i]?=some (.own xs))(h:∀l,Ws (ss.set i (.ow false (.nd .lst l (xs.map .fz)))) t' nx R):Ws ss t' nx R:=⟨λE D Z F H S f d=>by
 obtain⟨l,vs,e,e1,o,n,r⟩:=S.ok i _ hi;have b:=Sg.bG (j:=i) (m:=[i]) (v:=.ref l) (u:=.nd .lst l (xs.map .fz)) S S (.nd (k:=.lst) n trivial trivial (jS r)) (by rw[QR];simp) λa c=>by
  rw[QR]at c;have ea:a=l:=by simpa using c
  subst ea;exact⟨e1,o,.inl ⟨i,by simp,_,by simp,hi,e⟩⟩
 rw[MC e]at b;have g:(Fz.ED [i] ss).set i (.ow false (.nd .lst l (xs.map .fz)))=ss.set i (.ow false (.nd .lst l (xs.map .fz))):=by show(ss.set i .any).set i _=_;rw[Th]
 rw[g]at b;exact(h l).go E D Z F H b f d⟩
theorem Al.rep(ff:AQ F F1):∀{v:V}{t:OV},Al F H v t->(∀a∈t.addrs,∀o,H a=some o->F1 a=some o)->Rep F1 v t.pv:=by
 intro v t r h;exact Al.rec (motive_1:=λv t _=>(∀a∈t.addrs,∀o,H a=some o->F1 a=some o)->Rep F1 v t.pv) (motive_2:=λvs ts _=>(∀a∈OV.B3 ts,∀o,H a=some o->F1 a=some o)->AN F1 vs (OV.HP ts))
  (λ{v p}r _=>by rw[OV.pv];exact r.mono ff)
  (λ{a vs xs}e _ c h=>by rw[OV.pv];exact .tup (ff _ _ e) (c (by rw[OV.Hz]at h;exact h)))
  (λ{k a vs xs}e i g _ c h=>by
   rw[OV.EI]at h;have f:=c λa b=>h a (by simp[b]);have d:=h a (by simp) _ e;cases k with
   |lst=>rw[OV.pv];exact .lst d f
   |B2 ks=>rw[OV.pv];exact .B2 d g f
   |obj C dx ns=>rw[OV.pv];exact .obj d (h dx (by simp[NK.more]) _ i) g f
   |Ss ks=>rw[OV.pv];exact .con)
  (λ_=>by rw[OV.HP];exact .nil)
  (λ_ _ KR Kf h=>by
   rw[OV.Dm]at h;rw[OV.HP];exact .cons (KR λa b=>h a (by simp[b])) (Kf λa b=>h a (by simp[b])))
  r h
variable{lt:Bool}
theorem Qx:(OV.nd .lst a us).addrs=a::OV.B3 us:=by rw[OV.EI];rfl
theorem Yx:∀(us ws:List OV),OV.B3 (us++ws)=OV.B3 us++OV.B3 ws
 | [],ws=>by rw[mJ,OV.KY,mJ]
 |u::us,ws=>by rw[ZM,OV.Dm,OV.Dm,Yx us ws,Bm]
theorem l6(u:OV):OV.B3 [u]=u.addrs:=by rw[OV.Dm,OV.KY,Gv]
theorem Sg.ZAK{Cf:List OV}(S0:Sg E ss Z F0 H0)(S:Sg E ss Z F H)(hi:ss[i]?=some (.ow lt t))(By:t.at p=some (.nd .lst a us))
  (d:∀a∈u.addrs,F a=none/\E.H0 a=none/\((∃i∈m,∃s,s≠Slot.AD/\ss[i]?=some s/\Bg s Z[i]? a)∨H0 a=none)) (K5:i∉m)
  (G:BW F H Bx Cf) (Xx:(OV.B3 Cf).Nodup) (LW:∀b∈OV.B3 Cf,b∈OV.B3 us∨b∈u.addrs):Sg E ((Fz.ED m ss).set i (.ow lt (t.put p (.nd .lst a Cf)))) Z F (upd H a (.lst Bx)):=by
 have K:(Fz.ED m ss)[i]?=some (.ow lt t):=by
  have n:∀(m:List Nat)(ss:List Slot),ss[i]?=some (.ow lt t)->i∉m->(Fz.ED m ss)[i]?=some (.ow lt t):=by
   intro m
   induction m with
   |nil=>intro ss h _;exact h
   |cons j m D=>
    intro ss h f;refine D _ ?_ λz=>f (by simp[z]);rw[Bv (by rintro rfl;exact f (by simp))];exact h
  exact n m ss hi K5
 obtain⟨v,e,r,nd,q⟩:=S.ok i _ hi;have B:∀b,b∈a::OV.B3 us->b∈t.addrs:=λb c=>OV.Rj By b (by rw[Qx];exact c);have J:∀b∈u.addrs,b∉t.addrs:=λb c z=>by
  rcases(d b c).2.2 with⟨j,I,s,_,g,o⟩|w
  .exact S.Ba j i s _ b (by rintro rfl;exact K5 I) g hi o z
  .exact S0.HX hi z w
 have A:(OV.nd .lst a us).addrs.Nodup:=by
  obtain⟨l,L,e1,_⟩:=OV.split By;rw[e1,Fh,Fh]at nd;exact nd.1.2.1
 rw[Qx]at A;have x:∀b∈OV.B3 Cf,b≠a:=λb c z=>by
  subst z;rcases LW b c with w|w
  .exact(List.nodup_cons.mp A).1 w
  .exact J b w (B b (by simp))
 refine(S.ED m).du K By (.nd (k:=.lst) AV trivial trivial (G.mono (AQ.refl _) λb c o ho=>by rw[AK (x b c)];exact ho)) (by rw[Qx];exact List.nodup_cons.mpr ⟨λz=>x a z rfl,Xx⟩) λb c=>?_;rw[Qx]at c ⊢;rcases List.mem_cons.mp c with w|w
 .exact .inl (by simp[w])
 .rcases LW b w with z|z
  .exact .inl (by simp[z])
  .refine .inr ⟨(d b z).1,(d b z).2.1,λj s g o=>?_⟩;rcases SW g with y|⟨GV,f⟩
   .subst y;cases o
   .rcases(d b z).2.2 with⟨i2,FH,s2,_,Eo,C⟩|y
    .exact S.Ba j i2 s s2 b (by rintro rfl;exact f FH) GV Eo o C
    .exact S0.HX GV o y
end
def ptr(a:Addr):Hp->V->Prop:=λ_ v=>v=.ref a
section
variable[Xw]
variable{K:ZHy}{k:PV->Prop}{xs:List PV}{lt:Bool}
theorem Sg.ZAp(S:Sg E ss Z F H)(hi:ss[i]?=some (.ow lt t))(By:t.at p=some (.nd .lst a (ps.map .fz)))(e:AN F Bx cS):Sg E (ss.set i (.ow lt (t.put p (.nd .lst a (cS.map .fz))))) Z F (upd H a (.lst Bx)):=
 Sg.ZAK (m:=[]) (u:=.fz .A8) S S hi By (λa d=>by rw[OV.MS]at d;cases d) (by simp) (jS e) (by rw[TK];exact Ll) λb c=>by rw[TK]at c;cases c
theorem Sg.ZE1(S:Sg E ss Z F H)(hi:ss[i]?=some (.ow lt t))(By:t.at p=some (.nd .lst a (ps.map .fz))):∃vs,H a=some (.lst vs)/\AN F vs ps:=by
 obtain⟨v,e,r,_,_⟩:=S.ok i _ hi;obtain⟨w,b,_⟩:=r.at By;obtain⟨_,rfl,d,_,_,c⟩:=b.inv;exact⟨_,d,c.u6⟩
theorem yx(h:Wp ss te λq=>Wl ss i t ta λp u=>∃(lt:Bool)(a:Addr)(ps:List PV),ss[i]?=some (.ow lt t)/\u=.nd .lst a (ps.map .fz)/\Wp ss ti λj=>∃n:Nat,j=.int n/\n<ps.length/\nx (ss.set i (.ow lt (t.put p (.nd .lst a ((ps.set n q).map .fz)))))):Ws ss (Df te (QU ta ti VR)) nx R:=⟨λE D Z F H S l y=>
 h.go E Z F H _ S λv q F1 H1 d e h2=>h2.go E Z F1 H1 _ d.st λv2 p u F2 H2 m2 g By⟨lt,a,ps,hi,r,m⟩=>by
  subst r;have o:v2=.ref a:=by cases g;rfl
  subst o;refine m.go E Z F2 H2 _ m2.st λw x F3 H3 b f⟨n,s,Ol,kk⟩=>?_;subst s;cases f;obtain⟨vs,k,c⟩:=b.st.ZE1 hi By;refine⟨a,vs,_,n,rfl,rfl,k,cA (by rw[c.length];exact Ol),?_⟩;exact l _ Z F3 _ kk (b.st.ZAp hi By (c.set n (e.mono (m2.ff.trans b.ff)))) (d.ff.trans (m2.ff.trans b.ff))⟩
end
theorem Al.ZDd(r:Al F H v t):∀a∈t.addrs,∀vs,H a≠some (.tup vs):=
 Al.rec (motive_1:=λ_ t _=>∀a∈t.addrs,∀vs,H a≠some (.tup vs)) (motive_2:=λ_ ts _=>∀a∈OV.B3 ts,∀vs,H a≠some (.tup vs))
  (λ_ a c _=>by rw[OV.MS]at c;cases c)
  (λ_ _ i a c vs=>by rw[OV.Hz]at c;exact i a c vs)
  (λ{k}{b}{_}{_}h f _ _ i a c vs=>by
   rw[OV.EI,Ec,KO]at c;rcases c with rfl|c|c
   .rw[h];cases k <;> (intro z;cases z)
   .cases k with
    |obj C dx ns=>
     have e:a=dx:=List.mem_singleton.mp c;subst e;have d:H a=some (.own b):=f;rw[d];intro z;cases z
    |_=>exact absurd c BF
   .exact i a c vs)
  (λa c _=>by rw[OV.KY]at c;cases c)
  (λ_ _ i k a c ws=>by
   rw[OV.Dm,KO]at c;rcases c with c|c
   .exact i a c ws
   .exact k a c ws)
  r
mutual
def Od:PV->Bool
 | .lst _=>false
 | .B2 _ _=>false
 | .obj _ _ _=>false
 | .exc _ _ _=>false
 | .tup xs=>LY xs
 |_=>true
def LY:List PV->Bool
 | []=>true
 |x::r=>Od x && LY r
end
noncomputable def Ho(F:Hp)(as:List Addr):Hp:=λa=>if a∈as then none else F a
theorem Rep.sub(h:∀a∈as,∀vs,F a≠some (.tup vs)):∀{v:V}{p:PV},Rep F v p->Od p=true->Rep (Ho F as) v p:=by
 intro v p r d;exact Rep.rec (motive_1:=λv p _=>Od p=true->Rep (Ho F as) v p) (motive_2:=λvs ps _=>LY ps=true->AN (Ho F as) vs ps)
  (λ_=>.A8) (λb _=>.bl b) (λi _=>.int i) (λx _=>.str x)
  (λ_ _ _ z=>Bool.noConfusion (show false=true from z))
  (λ{a vs xs}e _ c z=>.tup (by unfold Ho;rw[nr (λq=>h a q vs e)];exact e) (c z))
  (λ_ _ _ _ z=>Bool.noConfusion (show false=true from z))
  (λ_ _ _ _ _ z=>Bool.noConfusion (show false=true from z))
  (λ_=>.con)
  (λ_ z=>Bool.noConfusion (show false=true from z))
  (λ_ _ _ _ _ z=>Bool.noConfusion (show false=true from z))
  (λ_=>.nil)
  (λ_ _ KR Kf z=>by
   have z:=(C7 _ _).mp z;exact .cons (KR z.1) (Kf z.2))
  r d
theorem AN.sub(h:∀a∈as,∀vs,F a≠some (.tup vs))(r:AN F vs ps)(z:LY ps=true):AN (Ho F as) vs ps:=by
 induction ps generalizing vs with
 |nil=>cases r.DL;exact .nil
 |cons p ps c=>
  obtain⟨v,ws,rfl,a,b⟩:=r.inv;have z:=(C7 _ _).mp z;exact .cons (a.sub h z.1) (c b z.2)
theorem Z5:∀(xs:List PV),OV.HP (xs.map .fz)=xs
 | []=>by rw[ZV,OV.HP]
 |x::r=>by rw[D4,OV.HP,OV.pv,Z5 r]
end Fz
namespace L2
variable{M:Model}{A:Around}{E Q xe:Value->Shared->Prop}{s s':Shared}{Yd h h':Heap}{env:Env}{l outer:List Env}{C S a b ea f fI:Addr}{dx fr tb:Option Addr}{o:HO}{vs:Array Value}{cd head u v:Value}{oI oe ox:Obj}{w:World}{mN mg:ZI0}{N ps sn:List Str}{n name par qual x:Str}{scope:Scope}{H H':Hp}{e e0:Expr}{X:Cx}{α:Type}{GX r:Option Value}{E':St->XK}{Bl KH np p pos:Pos}{es:List Expr}{t:TA}{ab hdct:Bool}{prog:Program}{Sz us:List Value}{od:Option Obj}{tk:Tok}{ZB pn:ZHz}{Z:St}{j kk t':Nat}{ta te:TE}{fd:FuncData}{b0:Stmt}{Mh:(St->XK)->TS}{th:TS}{sp:Sp}
structure FV (h:Heap) (ea:Addr) (C:Value) (dx tb:Option Addr):Prop where
 obj:∃oe vs,h.get? ea=some oe/\oe.cls=C/\oe.dict=dx/\oe.data=.fields vs/\1<vs.size/\vs[1]?=some (tb.elim Value.none Value.ref)
 ent:∀T,tb=some T->T≠ea/\∃oT ts,h.get? T=some oT/\oT.data=.fields ts/\3<ts.size
section
variable{L:Addr}{C:Value}{Q:Unit->Shared->Prop}
theorem tu(o:Obj)(g:Array Value->Array Value):(o.mapFields g).dict=o.dict:=by
 obtain⟨c,d,dt,sl⟩:=o;cases dt <;> rfl
structure Kp (l:List Env) (ea:Addr) (tb:Option Addr) (h h':Heap):Prop where
 keep:∀b o,h.get? b=some o->b∉CK l->b≠ea->tb≠some b->h'.get? b=some o
 slot:∀b o,h.get? b=some o->b∈CK l->∃sl,h'.get? b=some { o with slots:=sl }
 size:h.objs.size<=h'.objs.size
theorem ah(e:s.heap.FunFrames Yd (env::outer)){o:Obj}(ho:s.heap.get? b=some o)(hd:o.data=.fields vs):b∉CK (env::outer):=λd=>by
 obtain⟨_,u,a,c⟩:=e.mem d;rw[ho]at a;cases a;exact c vs hd
theorem kl{more:Bool}(JU:A.frames=some (env::outer))(i:s.heap.FunFrames Yd (env::outer))(r:env.frame=some L)
  (j:s.heap.get? ea=some oe) (t:oe.cls=C) (c:oe.dict=dx) (hd:oe.data=.fields vs) (a:1<vs.size)
  (h:∀h' T,Kp (env::outer) ea none s.heap h'->s.heap.objs.size<=T->FV h' ea C dx (some T)->Q () { s with heap:=h' }) :
  wpAny M A (do
   let fr <- frameOf env
   let pl <- entryPlaceOf L more
   let b <- EntryCells.newEntry head fr Value.none (rawInt L) Value.none pl
   setField (.ref ea) 1 b) Q E s:=by
 have f:=ah i j hd;refine dP (wpAny_frameOf_fun JU i r λg so=>?_);refine dP (wpAny_entryPlaceOf λpl q=>?_);unfold EntryCells.newEntry newFields;refine dP (t8 ?_ (q.sizeOk5 _ _ _ _ _));generalize u:([head,Value.ref L,Value.none,rawInt L,Value.none]++(if pl.isEmpty then List.replicate 6 Value.none else pl)).toArray=ts
 have p:3<ts.size:=by
  rw[<- u];simp only[Bn,BI,BJ,Pk];omega
 have l:g.get? ea=some oe:=(so.2.1 ea f).trans j;have gT:(g.push { cls:=.type "traceback", dict:=none,data:=.fields ts }).get? g.objs.size=some { cls:=.type "traceback", dict:=none,data:=.fields ts }:=BQ g rfl;have k:=Ao (h:=g) { cls:=.type "traceback", dict:=none,data:=.fields ts } l;have n:g.objs.size≠ea:=E9 (AY l);have m:=IS hd (·.setIfInBounds 1 (Value.ref g.objs.size))
 have w:=Hg (Obj.mapFields (·.setIfInBounds 1 (Value.ref g.objs.size))) k (Pp m)
 have x:=(Fe (g.push { cls:=.type "traceback", dict:=none,data:=.fields ts }) (Obj.mapFields (·.setIfInBounds 1 (Value.ref g.objs.size))) (Az n)).trans gT
 refine xv k hd a (h _ g.objs.size ⟨λb o d N5 FY _=>?_,λb o d Ik=>?_,?_⟩ ?_ ⟨⟨_,_,w,?_,?_,m,?_,?_⟩,λT v=>?_⟩)
 .have e:g.get? b=some o:=(so.2.1 b N5).trans d;rw[Fe _ _ (Az FY)];exact Ao _ e
 .obtain⟨sl,e⟩:=so.2.2 b o d;refine⟨sl,?_⟩;rw[Fe _ _ (by rintro rfl;exact f Ik)];exact Ao _ e
 .rw[TX,Du,so.1];exact Dw _
 .rw[so.1];exact Aa _
 .rw[Zh];exact t
 .rw[tu];exact c
 .simpa using a
 .simp[a]
 .cases v;exact⟨n,_,_,x,rfl,p⟩
theorem Kp.refl{l:List Env}{ea:Addr}{tb:Option Addr}{h:Heap}:Kp l ea tb h h:=⟨λ_ _ a _ _ _=>a,λ_ o a _=>⟨o.slots,a⟩,Aa _⟩
theorem vL(JU:A.frames=some (env::outer))(f:s.heap.FunFrames Yd (env::outer))(g:env.frame=some L)(hx:FV s.heap ea C dx tb)
  (h:∀h' T,Kp (env::outer) ea tb s.heap h'->s.heap.objs.size<=T∨tb=some T->FV h' ea C dx (some T)->Q () { s with heap:=h' }) :
  wpAny M A (noteFrame (.ref ea) env) Q E s:=by
 obtain⟨oe,vs,i,n,hd,Fu,l,h1⟩:=hx.obj;unfold noteFrame;simp only[g];refine dP (zt i Fu h1 ?_);cases tb with
 |none=>
  rw[nr (by decide)];exact kl JU f g i n hd Fu l λh' T k q=>h h' T k (.inl q)
 |some T=>
  obtain⟨LU,oT,ts,c,Ez,j⟩:=hx.ent T rfl;show wpAny M A (do if(Value.ref T != Value.none)=true then _ else _) _ _ _
  rw[oM (show(Value.ref T != Value.none)=true from by simp)];refine dP (zt c Ez (IK j) ?_)
  by_cases m:(ts[3] == rawInt L)=true
  .rw[oM m];exact nW (h s.heap T Kp.refl (.inr rfl) hx)
  rw[nr m];refine dP (xv c Ez j ?_);have d:∀b,b≠T->(s.heap.update T (Obj.mapFields (·.setIfInBounds 3 Value.none))).get? b=s.heap.get? b:=λb a=>Fe _ _ (Az a)
  have nT:=ah f c Ez;refine kl (s:={ s with heap:=s.heap.update T (Obj.mapFields (·.setIfInBounds 3 Value.none)) }) JU (f.of_keeps λb o a e=>⟨o,(d b (by rintro rfl;rw[c]at a;cases a;exact e ts Ez)).trans a,rfl⟩) g ((d ea (Az LU)).trans i) n hd Fu l λh' T' k e x=>?_
  refine h h' T' ⟨λb o a N5 FY FC=>k.keep b o ((d b (by rintro rfl;exact FC rfl)).trans a) N5 FY (by simp),λb o a Ik=>k.slot b o ((d b (by rintro rfl;exact nT Ik)).trans a) Ik,?_⟩ (.inl ?_) x
  .have z:=k.size;rw[show(s.heap.update T (Obj.mapFields (·.setIfInBounds 3 Value.none))).objs.size=s.heap.objs.size from TX ..]at z
   exact z
  .have z:=e;rw[show(s.heap.update T (Obj.mapFields (·.setIfInBounds 3 Value.none))).objs.size=s.heap.objs.size from TX ..]at z
   exact z
theorem Zq(x:FV s.heap ea C dx tb)(k:∀b∈CK l,∃o,s.heap.get? b=some o/\∀vs,o.data≠.fields vs)
  (h:∀h',Kp l ea tb s.heap h'->FV h' ea C dx tb->Q () { s with heap:=h' }):wpAny M A (setFlight (.ref ea) fr) Q E s:=by
 obtain⟨oe,vs,g,m,hd,Fu,i,h1⟩:=x.obj;unfold setFlight;refine dP (zt g Fu h1 ?_);cases tb with
 |none=>
  rw[nr (by decide)];exact nW (h s.heap Kp.refl x)
 |some T=>
  obtain⟨LU,oT,ts,c,Ez,e⟩:=x.ent T rfl;rw[oM (show((some T).elim Value.none Value.ref != Value.none)=true from by simp)];generalize (fr.elim Value.none λf=>rawInt f)=mk;have d:∀b,b≠T->(s.heap.update T (Obj.mapFields (·.setIfInBounds 3 mk))).get? b=s.heap.get? b:=λb a=>Fe _ _ (Az a)
  have p:=Hg (Obj.mapFields (·.setIfInBounds 3 mk)) c (Pp (IS Ez _))
  refine xv c Ez e (h _ ⟨λb o a _ _ FC=>(d b (by rintro rfl;exact FC rfl)).trans a,λb o a Ik=>⟨o.slots,(d b ?_).trans a⟩,by rw[TX];exact Aa _⟩ ⟨⟨oe,vs,(d ea (Az LU)).trans g,m,hd,Fu,i,h1⟩,λT' n=>?_⟩)
  .rintro rfl;obtain⟨o',CP,j⟩:=k b Ik;rw[c]at CP;cases CP;exact j ts Ez
  .cases n;exact⟨LU,_,_,p,IS Ez _,by simpa using e⟩
theorem Kp.frames(k:Kp l ea tb h h')(d:h.FunFrames Yd l):∀b∈CK l,∃o,h'.get? b=some o/\∀vs,o.data≠.fields vs:=λb a=>by
 obtain⟨_,o,ho,c⟩:=d.mem a;obtain⟨sl,e⟩:=k.slot b o ho a;exact⟨_,e,c⟩
theorem Kp.trans{T:Addr}{h1 h2:Heap}(k:Kp l ea tb h h1)(c:h.objs.size<=T∨tb=some T)(k2:Kp l ea (some T) h1 h2):Kp l ea tb h h2:=
 ⟨λb o a N5 FY FC=>k2.keep b o (k.keep b o a N5 FY FC) N5 FY (λz=>c.elim (λy=>absurd (AY a) (Nat.not_lt.mpr (BG z▸y))) λy=>FC (y.trans z)),
  λb o a Ik=>by
  obtain⟨sl,e⟩:=k.slot b o a Ik;obtain⟨Ge,d⟩:=k2.slot b _ e Ik;exact⟨Ge,d⟩,Be k.size k2.size⟩
theorem aN(JU:A.frames=some (env::outer))(a:s.heap.FunFrames Yd (env::outer))(d:env.frame=some L)(hx:FV s.heap ea C dx tb)
  (h:∀h' T,Kp (env::outer) ea tb s.heap h'->s.heap.objs.size<=T∨tb=some T->FV h' ea C dx (some T)->Q () { s with heap:=h' }) :
  wpAny M A (noteFrame (.ref ea) env) (λ_ s'=>wpAny M A (setFlight (.ref ea) none) Q E s') E s:=
 vL JU a d hx λh1 T k b x=>Zq x (k.frames a) λh2 k2 c=>h h2 T (k.trans b k2) b c
theorem ZEL(JU:A.frames=some (env::outer))(a:s.heap.FunFrames Yd (env::outer))(b:env.frame=some L)(hx:FV s.heap ea C dx tb)
  (h:∀h' T,Kp (env::outer) ea tb s.heap h'->s.heap.objs.size<=T∨tb=some T->FV h' ea C dx (some T)->Q () { s with heap:=h' }):wpAny M A (leaving env (.ref ea)) Q E s:=by
 unfold leaving;exact dP (aN JU a b hx h)
end
def FT(P:Program)(w:World):Fj:=λouter H s E e s'=>∃(ea C:Addr)(dx tb:Option Addr)(H':Hp),e=.ref ea/\s'.os=s.os/\AllBare s'.gens/\Un (CK outer) [] H H' s.heap s'.heap/\BX P w H' s'.heap/\
 FV s'.heap ea (.ref C) dx tb/\(H' ea=none/\s.heap.get? ea=none)/\(∀T,tb=some T->H' T=none/\s.heap.get? T=none)/\E (.ref C) dx H'
def UL(X:Cx)(E:XK)(e:Value)(s':Shared):Prop:=∃(ZB:ZHz)(Z:St)(H':Hp)(ea C:Addr)(dx tb:Option Addr),e=.ref ea/\Inv X ZB Z H' s'/\
 FV s'.heap ea (.ref C) dx tb/\(H' ea=none/\X.s₀.heap.get? ea=none)/\(∀T,tb=some T->H' T=none/\X.s₀.heap.get? T=none)/\E (.ref C) dx H'
section
variable{P:Program}{K:ZHy}{E:XK}
theorem BX.eS(ok:BX P w H' h)(k:∀b u,H' b≠none->h.get? b=some u->h'.get? b=some u):BX P w H' h':=λa o e=>
 (ok a o e).EZ (λb u c d=>k b u (by rcases c with rfl|c;(rw[e];simp);(rw[c];simp)) d) (λ_ z=>z) λ_ _ z=>z
theorem UL.leave{e:Value}(r:UL (Cn (FT P w) P w K mg Yd N qual scope f cd A outer s H E) E e s'):(Cn (FT P w) P w K mg Yd N qual scope f cd A outer s H E).xe e s':=by
 obtain⟨ZB,Z,H',ea,C,dx,tb,rfl,I,x,⟨k,h⟩,g,p⟩:=r;have fr:=I.ok.frames
 change s.heap.get? ea=none at h
 have g:∀T,tb=some T->H' T=none/\s.heap.get? T=none:=g;refine ZEL (outer:=outer) (L:=s.heap.objs.size) fr I.stack rfl x λh' T kp i n=>?_;have m:∀b o,s.heap.get? b=some o->b≠s.heap.objs.size:=λb o a=>B7 (AY a);have mem:∀b,b∈CK (envOfC qual scope s.heap.objs.size f cd::outer)->b=s.heap.objs.size∨b∈CK outer:=λb a=>by
  rcases List.mem_cons.mp (I.Oi b a)with z|z
  .exact .inl z
  .exact .inr z
 have j:∀b o,s'.heap.get? b=some o->H' b≠none->h'.get? b=some o:=λb o a c=>kp.keep b o a (λz=>c (I.T5 b z)) (λz=>c (z▸k)) λz=>c (g b z).1;refine⟨ea,C,dx,some T,H',rfl,I.os,I.bare,⟨λb o a c d _=>?_,λb o a c d _=>?_,λb o a c hx=>I.base.free b o a c hx,λb o a hx=>?_,I.base.FX,I.base.Fd⟩,I.AB.eS λb u c a=>j b u a c,n,⟨k,h⟩,λT' q=>?_,p⟩
 .refine kp.keep b o (I.base.keep b o a c d (by simp[Cn])) (λz=>(mem b z).elim (m b o a) d) (by rintro rfl;rw[h]at a;cases a) λz=>?_;rw[(g b z).2]at a;cases a
 .obtain⟨sl,h1⟩:=I.base.slot b o a c d (by simp[Cn]);have t:b∈CK (envOfC qual scope s.heap.objs.size f cd::outer):=by
   show b∈List.filterMap _ (_::_);rw[Ta];exact BM _ d
  obtain⟨Ge,h2⟩:=kp.slot b _ h1 t;exact⟨Ge,h2⟩
 .obtain⟨l,h1⟩:=I.base.there b o a (by simp[Cn])
  by_cases d:b∈CK (envOfC qual scope s.heap.objs.size f cd::outer)
  .obtain⟨Ge,h2⟩:=kp.slot b _ h1 d;exact⟨_,h2⟩
  .exact⟨l,kp.keep b l h1 d (by rintro rfl;rw[h]at a;cases a) λz=>by rw[(g b z).2]at a;cases a⟩
 .cases q;exact i.elim (λi=>⟨I.AB.fresh i,Pe (Be I.sz i)⟩) (g T)
end
noncomputable abbrev ki:List Value:=[.type "ValueError",.type "Exception",.type "BaseException",.type "object"]
structure kF (h:Heap) (C:Addr) (GX:Option Value):Prop where
 obj:∃bm N nm q bs hdct sn sub ab col dd k0 k1 k2 k3 k5 mN,h.get? C=some (excClassObj nm q C N bs bm hdct sn sub ab col dd k0 k1 k2 k3 k5 "ValueError.__new__")/\h.Ns N mN/\mN "__init__"=GX/\OwnTail h ki bm
noncomputable def fA:Data->Option ClassData
 | .cls cd=>some cd
 |_=>none
theorem ZFA{d:Data}{cd:ClassData}(h:fA d=some cd):d=.cls cd:=by
 cases d <;> first|(cases h;rfl)|cases h
theorem JQ{l:List α}{n:Nat}(h:l.length=n+1):∃a r,l=a::r/\r.length=n:=by
 cases l with
 |nil=>cases h
 |cons a r=>exact⟨a,r,rfl,KP h⟩
theorem ZBx{l:List α}(h:l.length=6):∃a b c d e f,l=[a,b,c,d,e,f]:=by
 obtain⟨a,l,rfl,h1⟩:=JQ h;obtain⟨b,l,rfl,h2⟩:=JQ h1;obtain⟨c,l,rfl,k⟩:=JQ h2;obtain⟨d,l,rfl,j⟩:=JQ k;obtain⟨e,l,rfl,i⟩:=JQ j;obtain⟨f,l,rfl,g⟩:=JQ i;exact⟨a,b,c,d,e,f,by rw[List.eq_nil_of_length_eq_zero g]⟩
noncomputable def kO(K:ZHy)(C:Addr)(GX:Option Value)(cd:ClassData)(l:List (Option Value)):Bool:=
 cd.mro.head? == some (.ref C) && (l.length == 6 && (l[4]? == some (some (.builtin "ValueError.__new__")) && (!cd.hasDel && (PySem.W.tailIn K ki cd.mro.tail && (PySem.W.nsOkIn K cd.ns && PySem.W.nsIn K cd.ns "__init__" == some GX)))))
def HL(K:ZHy)(C:Addr)(GX:Option Value):Bool:=(K.lookup C).any λo=>o.cls == .type "type" && (fA o.data).any λcd=>kO K C GX cd o.slots.toList
theorem NW{K:ZHy}(X:K.In h)(q:HL K C GX=true):kF h C GX:=by
 obtain⟨⟨c,dd,dt,⟨l⟩⟩,ho,q⟩:=Zo q;rw[C7]at q;obtain⟨cd,DK,a⟩:=Zo q.2;obtain⟨nm,bs,b,ns,qn,hd,sn,sub,ab,col,r⟩:=cd;unfold kO at a;simp only[C7,ZAM,Bool.not_eq_true']at a;obtain⟨f,k,p,g,j,AB,G7⟩:=a;cases(eq_of_beq q.1:c=.type "type");cases(ZFA DK:dt=_);subst g;obtain⟨k0,k1,k2,k3,s,k5,rfl⟩:=ZBx k;cases p;cases b with
 |nil=>cases f
 |cons m bm=>
  cases f;have G:h.Ns ns (h.nsMap ns):=.of_isNs (PySem.W.isNs_of_in X AB);refine⟨bm,ns,nm,qn,bs,hd,sn,sub,ab,col,dd,k0,k1,k2,k3,k5,_,X _ _ ho,G,?_,PySem.W.tail_of_in X j⟩;cases GX with
  |none=>exact PySem.W.ns_none_of X G G7
  |some v=>
   obtain⟨o,es,ep,i,hd2,_,n⟩:=G;unfold PySem.W.nsIn at G7;split at G7
   .rename_i c d BP n' sl a;have z:=X _ _ a;rw[i]at z;cases z;cases hd2;split at G7
    .rename_i e he;rw[<- n];unfold nsFind findBy;rw[<- ZGM,he]
     simpa using G7
    .split at G7 <;> cases G7
   .cases G7
theorem BZ.there{P:Program}(x:BZ P w H h a o):∃u,h.get? a=some u:=by
 induction o with
 |lst xs=>obtain⟨_,_,_,_,e⟩:=x;exact⟨_,e⟩
 |tup xs=>obtain⟨_,_,_,⟨_,e,_⟩,_⟩:=x;exact⟨_,e⟩
 |dK A6=>obtain⟨_,_,_,_,_,_,_,e,_⟩:=x;exact⟨_,e⟩
 |dT A6=>obtain⟨_,_,_,_,_,_,_,e,_⟩:=x;exact⟨_,e⟩
 |set S n=>obtain⟨_,_,_,_,e,_⟩:=x;exact⟨_,e⟩
 |ins C dx fs=>obtain⟨_,_,_,e,_⟩:=x;exact⟨_,e⟩
 |own y=>exact x
 |xd fs=>obtain⟨_,⟨_,_,_,e,_⟩,_⟩:=x;exact⟨_,e⟩
 |met f y=>exact⟨_,x⟩
 |Rt lo hi=>obtain⟨_,_,_,e⟩:=x;exact⟨_,e⟩
 |Et ob u _=>exact⟨_,x.1⟩
 |C3 t=>
  cases t with
  |tab _ _=>obtain⟨_,e,_⟩:=x;exact⟨_,e⟩
  |Hj _=>obtain⟨_,_,_,e,_⟩:=x;exact⟨_,e⟩
 |ext φ=>exact x.2.1
theorem BX.there{P:Program}(x:BX P w H h)(e:H a=some o):∃u,h.get? a=some u:=(x a o e).there
section
variable{E:XK}
def UR(C:Addr)(E:St->XK)(t:TA):TS:=λ_ Z H=>t Z H λvs H1=>vs.length<=1000/\E Z (.ref C) none H1
def Goes(X:Cx)(E:St->XK):Prop:=∀(ZB:ZHz)(Z:St)(H':Hp)(s':Shared)(ea C:Addr)(dx tb:Option Addr),Inv X ZB Z H' s'->FV s'.heap ea (.ref C) dx tb->(H' ea=none/\X.s₀.heap.get? ea=none)->(∀T,tb=some T->H' T=none/\X.s₀.heap.get? T=none)->
 (∀p∈X.pn++ZB,p.1≠ea/\tb≠some p.1)->E Z (.ref C) dx H'->X.xe (.ref ea) s'
end
noncomputable abbrev JE(C t:Addr)(dx:Option Addr):Obj:={ cls:=.ref C,dict:=dx,data:=.fields #[.ref t,.none,.none,.none,.bool false,.none] }
section
variable{nm qn:Str}{N:Addr}{bs bm:List Value}{sub:List Value}{col:Option Bool}{dd:Option Addr}{k0 k1 k2 k3 k5:Option Value}{newId:String}
theorem ZCD{y:Sem Value}{Q:Flow->Shared->Prop}(e:bm.contains (.type "BaseException")=true)(hh:A.handled=none)
  (c:wpAny M A y (λv z=>∃ea t dx,v=.ref ea/\z.heap.get? C=some (excClassObj nm qn C N bs bm hdct sn sub ab col dd k0 k1 k2 k3 k5 newId)/\z.heap.get? ea=some (JE C t dx)/\E (.ref ea) z) E s) :
  wpAny M A (raiseStmt env (some y) none) Q E s:=by
 have h:(Value.ref C::bm).contains (.type "BaseException")=true:=by
  rw[ZGX,e,Bool.or_true]
 unfold raiseStmt;refine dP (sE c (λv z b=>?_) λ_ _ q=>q);obtain⟨ea,t,dx,rfl,a,oe,f⟩:=b;obtain⟨i,g,d,tk,os⟩:=z
 repeat (first
  |with_reducible refine ZAI oe ?_
  |with_reducible refine ZAI a ?_
  | (with_reducible refine wpAny_isSubtype_exc a ?_;rw[h])
  |wp_step)
 exact wpAny_raiseNew_none hh f
variable{g:Array GenState}{d:Drawn}{t:Nat}{os:OsState}{B eY:String}
theorem ZG3(F:ExcBaseFacts B newId eY Sz)(T:OwnTail h Sz bm){Q:PySem.Fin->Shared->Prop}
  (a:h.get? C=some (excClassObj nm qn C N bs bm hdct sn sub ab col dd k0 k1 k2 k3 k5 newId)) (p:h.Ns N mN) (hi:mN "__init__"=some (.ref fI)) (YV:h.get? fI=some oI) (Kl:oI.cls=.type "function") (Xj:us.length<=sizeLine)
  (n:∀h' ea,h.objs.size<=ea->Heap.MadeExcOf h h' ea (.ref C) us->wpAny (model prog w) A (call (.ref fI) (.ref ea::us)) (λr s'=>r=.none/\Q (.done (.ret (.ref ea))) s') E ⟨h',g,d,t,os⟩) :
  wpAny (model prog w) A (Builtin.«type.__call__» ⟨.ref C::us,[]⟩) Q E ⟨h,g,d,t,os⟩:=by
 repeat (first
  |with_reducible refine ZAI a ?_
  |with_reducible refine wpAny_madeBy_exc a ?_
  |wp_step)
 refine codeAny_call_builtin_code (ZL _ F.quiet) (wpAny_check_new_subT F T a ?_);refine codeAny_exc_new_subT F T a ?_ Xj;show wpAny _ _ _ _ _ _;generalize j:({ cls:=.type "tuple", data:=.seq us.toArray }:Obj)=o1;generalize c:({ cls:=.ref C,data:=.fields #[.ref h.objs.size,.none,.none,.none,.bool false,.none] }:Obj)=o2;have up:∀{b:Addr}{o:Obj},h.get? b=some o->((h.push o1).push o2).get? b=some o:=λe=>Ao _ (Ao _ e);have f:((h.push o1).push o2).get? (h.objs.size+1)=some o2:=by
  rw[<- Du h o1];exact BQ _ (by rw[<- c];rfl)
 have g1:((h.push o1).push o2).get? h.objs.size=some o1:=Ao _ (BQ h (by rw[<- j];rfl));have l:((h.push o1).push o2).Ns N mN:=p.keeps λb o e=>up e;have i:=up a;have k:=up YV;have x:=T.keeps (h':=(h.push o1).push o2) λb o e=>up e;have v:(Value.ref C::bm).contains (.ref C)=true:=by simp
 have y:o2.cls=.ref C:=by rw[<- c]
 unfold isInstance;subst c
 repeat (first
  |with_reducible refine ZAI f ?_
  | (with_reducible refine wpAny_isSubtype_exc i ?_;rw[v])
  |wp_step)
 show wpAny _ _ (typeLookup (.ref C) _) _ _ _;refine wpAny_typeLookup_tail i l x F.mroIs F.init.lookup ?_;rw[hi];refine rG (dP ?_);unfold bindSpecial;refine dP (zZ (T:="function") ⟨_,k,Kl⟩ ?_);rw[oM (by decide)];subst j;refine nW (dP (sE (n _ (h.objs.size+1) (Dw _) ⟨λb o s=>up s,Pe (Dw _),h.objs.size,f,Pe (Aa _),g1⟩) (λr s' m=>?_) λ_ _ q=>q));obtain⟨rfl,u⟩:=m
 wp_walk
 exact u
theorem ZBI(F:ExcBaseFacts B newId eY Sz)(T:OwnTail h Sz bm)
  (a:h.get? C=some (excClassObj nm qn C N bs bm hdct sn sub ab col dd k0 k1 k2 k3 k5 newId)) (c:h.Ns N mN) (hi:mN "__init__"=some (.ref fI)) (YV:h.get? fI=some oI) (Kl:oI.cls=.type "function") (Xj:us.length<=sizeLine)
  (b:∀h' ea,h.objs.size<=ea->Heap.MadeExcOf h h' ea (.ref C) us->wpAny (model prog w) (A.under (.builtin "type.__call__" ⟨.ref C::us,[]⟩)) (call (.ref fI) (.ref ea::us)) (λr s'=>r=.none/\Q (.ref ea) s') E ⟨h',g,d,t,os⟩) :
  wpAny (model prog w) A (call (.ref C) us) Q E ⟨h,g,d,t,os⟩:=by
 have f:=tc_lookup;have e:=tc_bind (.ref C);have ty:(⟨h,g,d,t,os⟩:Shared).TypeIs (.ref C) "type" := ⟨_,a,rfl⟩;refine ZAJ (ZBU ?_);show wpAny _ _ (callAny (.ref C) _) _ _ _
 repeat (any_goals (first
  |assumption
  |with_reducible refine ZAI a ?_
  |wp_step))
 refine⟨rfl,?_⟩;exact codeAny_call_builtin_at (ZL _ (by decide +kernel)) entry_typeCall (wpAny_check_type_call_sub a (ZG3 F T a c hi YV Kl Xj b))
end
section
variable{K:ZHy}{x t:Addr}
noncomputable def Xo:Value->Bool
 | .ref _=>true
 |_=>false
theorem ZEo{x:Value}(h:Xo x=true):∃c,x=.ref c:=by
 cases x <;> first|exact⟨_,rfl⟩|cases h
def Nj(l:List Value):Bool:=l.dropWhile Xo == [.type "ValueError",.type "Exception",.type "BaseException",.type "object"]
theorem o8(self:Value):PySem.refuseLoop self "__setattr__" [.type "ValueError",.type "Exception",.type "BaseException",.type "object"]=pure ():=by
 first|rfl|kernel_rfl
theorem cH{l:List Value}(h:Nj l=true):l=[.type "ValueError",.type "Exception",.type "BaseException",.type "object"]∨∃c r,l=.ref c::r/\Nj r=true:=by
 have e:=eq_of_beq h;cases l with
 |nil=>cases e
 |cons x r=>
  cases q:Xo x with
  |true=>obtain⟨c,rfl⟩:=ZEo q;exact .inr ⟨c,r,rfl,h⟩
  |false=>rw[List.dropWhile_cons,q,nr Cv]at e;exact .inl e
theorem ZAB(self:Value):∀{l:List Value},Nj l=true->PySem.refuseLoop self "__setattr__" l=pure ():=by
 intro l
 induction l with
 |nil=>intro h;cases h
 |cons x r a=>
  intro h;rcases cH h with e|⟨c,r',e,h'⟩
  .rw[e];exact o8 self
  .cases e;rw[PySem.refuseLoop_ref];exact a h'
theorem ZFr:∀{l:List Value},Nj l=true->l.contains (.type "object")=true:=by
 intro l
 induction l with
 |nil=>intro h;cases h
 |cons x r a=>
  intro h;rcases cH h with e|⟨c,r',e,h'⟩
  .rw[e];decide
  .cases e;rw[ZGX,a h',Bool.or_true]
def Qf(K:ZHy)(C:Addr):Bool:=(PySem.W.clsIn K C).any λcd=>Nj cd.mro
section
open PySem.Builtin PySem.Builtin.ObjectAttr
theorem vQ{R:Result->Shared->Prop}(X:K.In s.heap)(I:PySem.W.InstAt s.heap x ox C od)(k:Qf K C=true)(j:PySem.W.takerIn K C name=some r)
  (h:∀b,wpAny (model prog w) A.in1 (match r with|some a=>setByDescriptor a (.ref x) v|none=>storeInOwnDict (.ref x) (.ref C) (.str name tk) name v b)
   (λfin s'=>match fin with | .done f=>R (.ok f) s' | .again c'=>c'.quiet=true/\codeAny (model prog w) A c' R s') (λe s'=>R (.error e) s') s) :
  codeAny (model prog w) A (.call (.builtin "object.__setattr__") ⟨[.ref x,.str name tk,v],[]⟩) R s:=by
 have d:=PySem.F.store_object;obtain⟨cd,i,ho⟩:=Zo k;have ne:cd.mro.isEmpty=false:=by cases q:cd.mro with|nil=>rw[q]at ho;cases ho|cons _ _=>rfl
 have sub:PySem.W.Looks (model prog w) s.heap (isInstance (.ref x) (.type "object")) true:=I.type.andThen (ZHE X (by unfold PySem.W.mroIn;rw[i,Tp,nr (by rw[ne];decide),ZFr ho]));refine ZAT d.slot.plain d.entry (@PySem.W.check_slot (model prog w) _ _ s "object.__setattr__" "object" "__setattr__" (.ref x) [.str name tk,v] [] _ d.kind d.split sub (d.args (.ref x) (.str name tk) v) ?_);obtain⟨c,n,g⟩:=Option.bind_eq_some_iff.mp j;have l:PySem.W.Looks (model prog w) s.heap (mroOf (.ref C)) cd.mro:=(ZHC X i).andThen .now;have o:PySem.W.Looks (model prog w) s.heap (storeTaker? c) r:=by
  cases c with
  |none=>cases g;exact .now
  |some a=>
   obtain⟨b,m,rfl⟩:=Option.map_eq_some_iff.mp g;refine(PySem.W.looks_takesIn X m).andThen ?_;cases b <;> exact .now
 rw[PySem.W.osa_eq,PySem.refuse_eq];refine dP (dP (I.type.here (dP (l.here ?_))));rw[ZAB _ ho];refine nW (dP (I.type.here (dP ((mY X n).here (dP (o.here ?_))))));exact h _
end
theorem uK(h:Heap):(h.push { cls:=.type "dict", data:=.dict #[] }).Ns1 h.objs.size (λ_=>none):=by
 refine⟨_,#[],_,BQ h rfl,rfl,?_⟩;refine⟨λe a=>?_,?_,λ_=>rfl⟩
 .simp at a
 .simp[UniqKeys]
theorem sH{Q:Unit->Shared->Prop}(X:K.In s.heap)(ho:s.heap.get? x=some (JE C t none))
  (l:PySem.W.findIn K (.ref C) "__setattr__"=some (some (.builtin "object.__setattr__"))) (m:Qf K C=true) (k:PySem.W.takerIn K C name=some none) (hh:PySem.W.hasDictIn K C=true)
  (h:∀h' d,s.heap.objs.size<=d->h'.get? x=some (JE C t (some d))->h'.Ns1 d (λy=>if y=name then some v else none)->(∀b o,b≠x->s.heap.get? b=some o->h'.get? b=some o)->s.heap.objs.size<=h'.objs.size->Q () { s with heap:=h',toks:=s.toks+2 }) :
  wpAny (model prog w) A (setAttr (.ref x) name v) Q E s:=by
 have J:PySem.W.InstAt s.heap x (JE C t none) C none:=⟨ho,rfl,rfl,trivial⟩;refine PySem.W.set_plain X J l (vQ (s:={ s with toks:=s.toks+1 }) (r:=none) X J m k λb=>?_)
 obtain⟨cd,n,Gp⟩:=Zo hh;refine dP (nW (dP (dP (wpAny_loadPart ho (dP (PySem.W.Looks.here (s:={ s with toks:=s.toks+1 }) (ZHC X n) ?_))))))
 rw[Gp,nr (by decide)];show wpAny _ _ (do
  let d <- alloc { cls:=Value.type "dict", data:=Data.dict #[] }
  update x λo=>{ o with dict:=some d }
  dictMade (Value.ref C) x d) _ _ _
 have f:x<s.heap.objs.size:=AY ho;refine dP (ZBZ (dP (wpAny_update (Ao _ ho) ?_)));refine dP (nW (nW ?_));generalize a:((s.heap.push { cls:=Value.type "dict", data:=Data.dict #[] }).update x λo=>{ o with dict:=some s.heap.objs.size })=g
 have q:g.get? x=some (JE C t (some s.heap.objs.size)):=by
  rw[<- a];exact Hg _ (Ao _ ho) rfl
 have u:∀b o,b≠x->s.heap.get? b=some o->g.get? b=some o:=λb o c e=>by
  rw[<- a,Fe _ _ (Az c)];exact Ao _ e
 have p:g.objs.size=s.heap.objs.size+1:=by rw[<- a,TX,Du]
 have gd:g.Ns1 s.heap.objs.size (λ_=>none):=(uK s.heap).at λo e=>by
  rw[<- a,Fe _ _ (B7 f)];exact e
 refine dP (nW (dP ?_));refine wpAny_nsSet1 (s:=⟨g,s.gens,s.drawn,s.toks+1,s.os⟩) gd λh' Iu Eo=>?_;obtain⟨D,z,B,j,i,J7⟩:=Iu.count (PySem.Within.cons (ns:=[]) name v PySem.Within.nil);refine dP (wpAny_lookBehind j (by rw[i];exact pastItsLine_dict (Be J7 (ZH0 (CJ _)))) ?_);exact nW (h h' s.heap.objs.size (Aa _) ((Eo.2 x (B7 f)).trans q) Iu (λb o c e=>(Eo.2 b (B7 (AY e))).trans (u b o c e)) (by rw[Eo.1,p];exact Dw _))
end
noncomputable def Ee(ea C:Addr)(dx:Option Addr):HO:=.ext λh=>∃t,h.get? ea=some (JE C t dx)
theorem X2{P:Program}{t:Addr}(e:h.get? ea=some (JE C t dx)):BZ P w H h ea (Ee ea C dx):=
 ⟨⟨t,e⟩,⟨_,e⟩,λ_ _⟨t',a⟩k=>⟨t',k _ a⟩⟩
theorem Inv.exc(I:Inv X ZB Z H s)(e:H ea=some (Ee ea C dx)):∃t,s.heap.get? ea=some (JE C t dx):=(I.AB ea _ e).1
theorem Inv.ZEs{t:Addr}{dx':Option Addr}(I:Inv X ZB Z H s)(e:H ea=some (Ee ea C dx))(k:∀b u,b≠ea->s.heap.get? b=some u->h'.get? b=some u)(a:h'.get? ea=some (JE C t dx')):
  Inv X ZB Z (upd H ea (Ee ea C dx')) { s with heap:=h',toks:=t' }:=by
 have mu:MP (H ea):=by rw[e];trivial
 exact I.write mu (.inl rfl) k ⟨_,a⟩ (X2 a)
def Rc:V->Prop
 | .str x=>(reprText x).length<=100000
 | .int i=>i.natAbs.log2<1920
 |_=>False
section
variable{p1 p2 p3:Pos}{k1 k2:Nat}{c1 c2:Str}
theorem ZER{R:St->Hp->Prop}(d:PE X e te)(I:Inv X ZB Z H s)(h:te Z H λv H1=>Rc v/\R Z H1)
  (b:∀y t s1 H1,y.length<=200000->Inv X ZB Z H1 s1->R Z H1->Q (.str y t) s1):wpAny (model X.prog X.w) X.A (eval (.FormattedValue e 114 none pos) X.env) Q X.xe s:=by
 refine wpAny_FormattedValue_repr (d.k I h λu s1 v H1 I1 c⟨sv,a⟩=>?_);cases v with
 |str x=>
  obtain⟨t,rfl⟩:=c;have sz:(reprText x).length<=sizeLine:=Be sv (by decide +kernel);refine wpAny_pyReprObj_str ?_ sz;refine wpAny_formatField_str ?_ ?_ sz
  .exact b _ _ _ H1 (Be sv (by decide)) (I1.tok _) a
  .exact b _ _ _ H1 (Be sv (by decide)) (I1.tok _) a
 |int i=>
  obtain⟨t,rfl⟩:=c;have l1:(Str.ofString (toString i)).length<=sizeLine:=int_text_fits sv;have f:i.natAbs.log2<1920:=sv;have l2:(Str.ofString (toString i)).length<=200000:=by
   have h1:i.natAbs<10 ^ 600:=by
    by_cases z:i.natAbs=0
    .rw[z];decide +kernel
    .exact Tj ((Nat.log2_lt z).mp f) (by decide +kernel)
   have e:=int_text_length_le10 (k:=600) (by decide) h1;clear h1;rw[PySem.ofString_length];omega
  refine wpAny_pyReprObj_gives (typeIs_int _ i t) F.slot_int_repr F.entry_int_repr (F.args_int_repr_1 _) (gives_int_repr i t sv) ?_ rfl l1;refine wpAny_formatField_str ?_ ?_ l1
  .exact b _ _ _ H1 l2 (I1.tok _) a
  .exact b _ _ _ H1 l2 (I1.tok _) a
 |_=>exact sv.elim
def lF(te:TE):TE:=λZ H Q=>te Z H λv H1=>Rc v/\∀y,Q (.str y) H1
theorem len_app(a b:Str):(a++b).length=a.length+b.length:=strLen_append a b
theorem oK(b:PE X e te)(h1:c1.length<=1000):PE X (.JoinedStr [.Constant (.str c1) k1 p1,.FormattedValue e 114 none p2] pos) (lF te):=by
 intro ZB s Z H Q I h;have a:(Str.empty++c1).length<=1000:=by rw[len_app];show 0+_<=_;omega
 refine wpAny_JoinedStr (show wpAny _ _ (eval (.Constant (.str c1) k1 p1) X.env) _ _ s from λ_ _ _=>⟨c1,_,rfl,Be a (by decide +kernel),?_⟩);refine ZER (R:=λ_ H1=>∀y,Q (.str y) H1) b (I.tok _) h λy t s1 H1 d I1 c=>⟨y,t,rfl,?_,?_,?_⟩
 .rw[len_app];exact Be (show _<=201000 by omega) (by decide +kernel)
 .rw[len_app];exact Be (show _<=201000 by omega) (by decide +kernel)
 .exact⟨.str _,H1,I1.tok _,⟨_,rfl⟩,c _⟩
end
structure aG (K:ZHy) (S:Addr):Prop where
 ga:PySem.W.specialIn K (.ref S) "__getattribute__"=some (some (.builtin "type.__getattribute__"))
 rd:PySem.W.readsIn K S (.type "type")=true
 fd:PySem.W.findCls K (.ref S) (.type "type") "__init__"=some (.val (.builtin "ValueError.__init__"))
 hd:PySem.W.handedIn (.builtin "ValueError.__init__")=true
structure Nn (K:ZHy) (C fI:Addr) (fld:Str):Prop where
 ex:HL K C (some (.ref fI))=true
 sa:PySem.W.findIn K (.ref C) "__setattr__"=some (some (.builtin "object.__setattr__"))
 po:Qf K C=true
 tk:PySem.W.takerIn K C fld=some none
 hd:PySem.W.hasDictIn K C=true
 fn:PySem.W.isFn K (.ref fI)=true
 kp:PySem.W.keepIn K (.ref C)=true
theorem dQ{x:V}{xs:List V}(r:Vals (x::xs) us):∃u Cf,us=u::Cf/\RelV x u/\Vals xs Cf:=by
 cases r with
 |cons a b=>exact⟨_,_,rfl,a,b⟩
theorem tL(h:H a=some o):upd H a o=H:=by
 funext b
 unfold upd;split
 .rename_i e;rw[e,h]
 .rfl
section
variable{fld:Str}
theorem ZC2{t:Addr}(I:Inv X ZB Z H s)(hx:H ea=some (Ee ea C none))(q:HL X.K C GX=true)
  (i:∀s',Inv X ZB Z H s'->Q .none s'):wpAny (model X.prog X.w) X.A (call (.builtin "ValueError.__init__") [.ref ea,u]) Q X.xe s:=by
 obtain⟨j,ho⟩:=I.exc hx;obtain⟨bm,N,nm,qn,bs,hdct,sn,sub,ab,col,dd,k0,k1,k2,k3,k5,mN,hC,k,G7,T⟩:=(NW I.CB q).obj;have F:=mV;have l:H C=none:=by
  cases z:X.base.get? C with
  |some o=>exact(I.bs C o z).2
  |none=>
   obtain⟨_,_,_,_,_,_,_,_,_,_,_,_,_,_,_,_,_,c,_⟩:=(NW I.mod.HE q).obj;rw[z]at c;cases c
 obtain⟨a,g,d,tk,os⟩:=s;refine ZAJ (ZAT F.init.plain F.initEntry (wpAny_check_init_subT F T hC ho rfl ?_))
 wp_walk
 refine i _ ?_;have f:=I.ZEs (h':=(a.push { cls:=Value.type "tuple", data:=Data.seq #[u] }).update ea (Obj.mapFields λx=>x.setIfInBounds 0 (Value.ref a.objs.size))) (t':=tk) (t:=a.objs.size) (dx':=none) hx (λb u' h e=>by
  rw[Fe _ _ (Az h)];exact Ao _ e) (by
  rw[Hg _ (Ao _ ho) rfl];rfl)
 rw[tL hx]at f;exact f
def bM(C:Addr)(t:TA):TE:=λZ H Q=>t Z H λvs H1=>∃ea v,vs=[.ref ea,v]/\H1 ea=some (Ee ea C none)/\Q .A8 H1
theorem ZD8{pl:Sem Bool}{apos:Pos}(sp:aG X.K S)(k:Gl X x)(j:X.mg x=some (.ref S))(q:HL X.K C GX=true)(l:PA X (e::es) t)
  (BO:(x == ("__debug__":Str))=false:=by decide) (CY:Cy X e es:=by rfl) (An:BEq X pos es:=by rfl)
  (ht:eval (.Call (.Attribute (.Name x p) "__init__" apos) (e::es) [] pos) X.env=(do
   let ov <- eval (.Name x p) X.env
   standAt apos.atName
   let (f,first) <- holding [ov] (getMethod ov "__init__" pl)
   callWith pos f first (backTo pos (starEach (e::es) X.env)) (backToKw pos (keywordEach [] X.env))):=by rfl) :
  PE X (.Call (.Attribute (.Name x p) "__init__" apos) (e::es) [] pos) (bM C t):=by
 intro ZB s Z H Q I h;refine PySem.W.methodCall_KW (pl:=pl) (Ky I k j ?_ BO) ht;refine PySem.W.method_cls I.CB sp.ga (PySem.W.cls_value I.CB sp.rd sp.fd sp.hd ?_);have a:=l pos ZB { s with toks:=s.toks+1 } Z H _ (I.tok _) h
 show wpAny _ _ (callWith pos (.builtin "ValueError.__init__") [] (backTo pos (starEach (e::es) X.env)) _) _ _ _;rw[CY]at a ⊢;refine ZGT (by show(false || (backTo pos (starEach es X.env)).any (·.1))=false;rw[An] <;> rfl) (lr ?_)
 refine Aw a λus s2⟨vs,H2,I2,i,ea,v,n,hx,m⟩=>?_;subst n;obtain⟨b,Dd,rfl,c,g⟩:=dQ i;obtain⟨o,Fb,rfl,r,d⟩:=dQ g;cases d;cases(show b=Value.ref ea from c);exact ZC2 (t:=ea) I2 hx q λs' I'=>⟨.A8,H2,I',rfl,m⟩
def kN(C:Addr)(f:Str)(ta tv:TE):TS:=λD Z H=>tv Z H λy H1=>ta Z H1 λx H2=>∃ea,x=.ref ea/\H2 ea=some (Ee ea C none)/\∀d,H2 d=none->D.nx Z (upd (upd H2 d (.xd [(f,y)])) ea (Ee ea C (some d)))
theorem xI{o value:Expr}{pos':Pos}{tv:TE}(c:Nn X.K C fI fld)(E:PE X o ta)(v:PE X value tv)(A:swapsWith value (some (.Attribute o fld pos')) pos.line X.env=pure false):PS X (.Assign [.Attribute o fld pos'] value pos) (kN C fld ta tv):=by
 intro ZB s Z H D I h;refine plainObj_wpAny_Assign_Attribute (v.k I h λu s1 y H1 I1 m q=>E.k I1 q λt s2 x H2 I2 p⟨ea,ex,hx,r⟩=>?_) A;subst ex;obtain rfl:t=Value.ref ea:=p;obtain⟨F,ho⟩:=I2.exc hx;refine sH I2.CB ho c.sa c.po c.tk c.hd λh' d hd j B k G=>?_;have f:H2 d=none:=I2.AB.fresh hd;have J:d≠ea:=by rintro rfl;rw[hx]at f;cases f
 refine⟨Z,_,I2.un (t':=s2.toks+2) (h':=h') ⟨λb o e n _ _=>k b o (by rintro rfl;rw[hx]at n;cases n) e,λb o e n _ _=>⟨o.slots,k b o (by rintro rfl;rw[hx]at n;cases n) e⟩,λb o e n _=>?_,λb o e _=>?_,λb xs e=>?_,λb o' u' e=>?_⟩ ?_,r d f⟩
 .rw[AK (by rintro rfl;rw[hx]at n;cases n),AK (by rintro rfl;exact absurd (AY e) (Nat.not_lt.mpr hd))];exact n
 .by_cases z:b=ea
  .subst z;exact⟨_,j⟩
  .exact⟨o,k b o z e⟩
 .rw[AK (by rintro rfl;rw[hx]at e;cases xs <;> cases e),AK (DS e f)];exact e
 .rw[AK (by rintro rfl;rw[hx]at e;cases e),AK (DS e f)];exact e
 .intro b o e
  by_cases z:b=ea
  .subst z;rw[AV]at e;cases e;exact X2 j
  .rw[AK z]at e
   by_cases i:b=d
   .subst i;rw[AV]at e;cases e;refine⟨_,B,λl=>?_⟩
    by_cases g:l=fld
    .subst g;rw[oM rfl,List.lookup_cons_self];exact m
    .rw[nr g,IP];rw[show(l == fld)=false from by simpa using g]
     exact trivial
   .rw[AK i]at e;refine(I2.AB b o e).EZ (λc u' a w=>k c u' ?_ w) (λc a=>?_) λc xs a=>?_
    .rcases a with rfl|a
     .exact z
     .rintro rfl;rw[hx]at a;cases a
    .rw[AK (by rintro rfl;rw[hx]at a;cases a),AK (DS a f)];exact a
    .rw[AK (by rintro rfl;rw[hx]at a;cases xs <;> cases a),AK (DS a f)];exact a
end
def M8(C:Addr)(fld:Str):Sp:=λvs H Q _=>∃(ea:Addr)(v:V),vs=[.ref ea,v]/\Rc v/\H ea=some (Ee ea C none)/\∀d,H d=none->Q .A8 (upd (upd H d (.xd [(fld,v)])) ea (Ee ea C (some d)))
def RG(C:Addr)(fld:Str)(E:St->XK)(t:TA):TS:=λ_ Z H=>t Z H λvs H1=>∃v,vs=[v]/\Rc v/\∀d,H1 d=none->E Z (.ref C) (some d) (upd H1 d (.xd [(fld,v)]))
noncomputable def Mj(H:Hp)(a:Addr):Hp:=λb=>if b=a then none else H b
theorem Qt(h:b≠a):Mj H a b=H b:=nr h
theorem X6:Mj H a a=none:=oM rfl
section
theorem Inv.forget(I:Inv X ZB Z H s){φ:Heap->Prop}(e:H a=some (.ext φ))(k:∀p∈X.pn++ZB,p.1≠a):Inv X ZB Z (Mj H a) s:=by
 have keep:∀b o,b≠a->H b=o->Mj H a b=o:=λb o h q=>by rw[Qt h];exact q
 have f:∀b,H b=none->Mj H a b=none:=λb q=>by
  by_cases z:b=a
  .subst z;exact X6
  .rw[Qt z];exact q
 refine⟨I.ok,I.os,I.bare,⟨I.base.keep,I.base.slot,λb o q n hx=>f b (I.base.free b o q n hx),I.base.there,λb xs q=>?_,λb o u q=>?_⟩,I.loc,I.cell,f _ I.free,λx c q=>f c (I.DJ x c q),λp DA=>?_,λb o q=>?_,I.len⟩
 .have z:=I.base.FX b xs q;exact keep b _ (by rintro rfl;rw[e]at z;cases xs <;> cases z) z
 .have z:=I.base.Fd b o u q;exact keep b _ (by rintro rfl;rw[e]at z;cases z) z
 .obtain⟨h1,h2,j⟩:=I.pin p DA;exact⟨h1,f _ h2,j⟩
 .have i:b≠a:=by rintro rfl;rw[X6]at q;cases q
  rw[Qt i]at q;refine(I.AB b o q).EZ (λc u _ g=>g) (λc d=>keep c _ (by rintro rfl;rw[e]at d;cases d) d) λc xs d=>keep c _ (by rintro rfl;rw[e]at d;cases xs <;> cases d) d
variable{fld:Str}
end
section
variable{C:Value}
theorem Inv.lP(I:Inv X ZB Z H s)(CY:X.stack=X.env::X.outer)(x:FV s.heap ea C dx tb)(K:H ea=none)(A:X.s₀.heap.get? ea=none)(h:∀T,tb=some T->H T=none/\X.s₀.heap.get? T=none)
  (E:∀p∈X.pn++ZB,p.1≠ea/\tb≠some p.1)(kp:Kp (X.env::X.outer) ea tb s.heap h'):Inv X ZB Z H { s with heap:=h' }:=by
 obtain⟨oe,vs,O,_,_,w,_⟩:=x.obj;have mem:∀b,b∈CK (X.env::X.outer)->b=X.env.locals∨b∈X.fs:=λb a=>by
  rw[<- CY]at a;exact List.mem_cons.mp (I.Oi b a)
 have D:∀b,b=X.env.locals∨b∈X.fs->b∈CK (X.env::X.outer):=λb a=>by
  have d:X.env.frame=some X.env.locals:=by
   rcases I.ok.JA with e|⟨_,d⟩
   .rw[e]at CY;exact absurd (sg List.length CY) (by simp)
   .exact d
  unfold CK;rw[Ta,d];rcases a with rfl|a
  .exact B1
  .exact BM _ a
 have g:∀b o,s.heap.get? b=some o->(∀vs,o.data≠.fields vs)->∃sl,h'.get? b=some { o with slots:=sl }:=λb o a hd=>by
  by_cases d:b∈CK (X.env::X.outer)
  .exact kp.slot b o a d
  .refine⟨o.slots,kp.keep b o a d (by rintro rfl;rw[O]at a;cases a;exact hd _ w) λz=>?_⟩;obtain⟨_,oT,ts,P,Ez,_⟩:=x.ent b z;rw[P]at a;cases a;exact hd _ Ez
 have j:∀b o,s.heap.get? b=some o->H b≠none->h'.get? b=some o:=λb o a f=>kp.keep b o a (λz=>f (I.T5 b (by rw[CY];exact z))) (λz=>f (z▸K)) λz=>f (h b z).1;have l:∀b o,X.s₀.heap.get? b=some o->b≠X.env.locals:=λb o a z=>absurd (AY a) (Nat.not_lt.mpr (z▸I.ok.above));have J:∀c v,s.heap.IsCell c v->h'.IsCell c v:=λc v AM=>by
  obtain⟨o,ho,hd⟩:=AM;obtain⟨sl,h1⟩:=g c o ho (by rw[hd];intro vs z;cases z);exact⟨_,h1,hd⟩
 refine⟨I.ok,I.os,I.bare,⟨λb o a f d hx=>?_,λb o a f d hx=>?_,I.base.free,λb o a hx=>?_,I.base.FX,I.base.Fd⟩,?_,λy c q=>?_,I.free,I.DJ,λp DA=>?_,I.AB.eS λb u f a=>j b u a f,I.len⟩
 .exact kp.keep b o (I.base.keep b o a f d hx) (λz=>(mem b z).elim (l b o a) d) (by rintro rfl;rw[A]at a;cases a) λz=>by rw[(h b z).2]at a;cases a
 .obtain⟨sl,h1⟩:=I.base.slot b o a f d hx;obtain⟨Ge,h2⟩:=kp.slot b _ h1 (D b (.inr d));exact⟨Ge,h2⟩
 .obtain⟨B,h1⟩:=I.base.there b o a hx
  by_cases d:b∈CK (X.env::X.outer)
  .obtain⟨Ge,h2⟩:=kp.slot b _ h1 d;exact⟨_,h2⟩
  .exact⟨B,kp.keep b B h1 d (by rintro rfl;rw[A]at a;cases a) λz=>by rw[(h b z).2]at a;cases a⟩
 .obtain⟨m,⟨o,es,ep,ho,r⟩,N⟩:=I.loc;obtain⟨sl,h1⟩:=kp.slot _ _ ho (D _ (.inl rfl));refine⟨m,⟨_,es,ep,h1,r⟩,λi y v hi t M=>?_⟩;obtain⟨u,L,n⟩:=N i y v hi t M;refine⟨u,L,?_⟩;rcases n with n|⟨k,c,hc,ic⟩
  .exact .inl n
  .exact .inr ⟨k,c,hc,J c _ ic⟩
 .obtain⟨v,t⟩:=I.cell y c q;exact⟨v,J c v t⟩
 .obtain⟨h1,h2,G,F,Q⟩:=I.pin p DA;exact⟨kp.keep _ _ h1 (λz=>(mem _ z).elim G F) (E p DA).1 (E p DA).2,h2,G,F,Q⟩
end
theorem Inv.unbind{Q:Unit->Shared->Prop}(I:Inv X ZB Z H s)(F:X.N.Nodup)(g:X.N[j]?=some n)(hk:X.env.scope.names.lookup n=some .local)
  (h:∀s',Inv X ZB (Z.set j none) H s'->Q () s'):wpAny M A (do bindName X.env n .none;unbindBehindTheSuite X.env n pos) Q E s:=by
 refine dP (wpAny_bindName (X8 (v:=.A8) I F g (.inl hk) rfl (λs1 I1 _=>?_) (.inr hk)));unfold unbindBehindTheSuite;refine wpAny_onRaise ?_;obtain⟨m,C,D⟩:=id I1.loc;have S:(X.env.scope.kind == .class || (X.env.scope.kind == .module && X.env.locals != X.env.globals))=false:=by rw[I.ok.kind];rfl
 have hjσ:j<Z.length:=by rw[I.len];exact(List.getElem?_eq_some_iff.mp g).1
 obtain⟨u,U,L⟩:=D j n .A8 g (Ca hjσ) (.inl hk);have P:m n=some u:=by
  rcases L with⟨_,e⟩|⟨z,_⟩
  .exact e
  .have T:X.env.kindOf n=some .local:=hk;rw[T]at z;rcases z with z|z <;> cases z
 refine wpAny_unbindName_local hk C P S λh' u' Ol f=>?_;obtain⟨V,_,_,Fo,_⟩:=id C;have G2:=I1.G2;have a:∀b o,X.s₀.heap.get? b=some o->b≠X.env.locals:=λb o l=>B7 (CI (AY l) I.ok.above);refine h _ ⟨I1.ok,I1.os,I1.bare,⟨λb o e n l hx=>(f.2 b (a b o e)).trans (I1.base.keep b o e n l hx),λb o e n l hx=>?_,I1.base.free,λb o e hx=>?_,I1.base.FX,I1.base.Fd⟩,⟨_,Ol,λi y G e1 t R=>?_⟩,λy c e=>?_,I1.free,I1.DJ,λp O=>?_,λb ob e=>?_,by simpa using I.len⟩
 .obtain⟨sl,e1⟩:=I1.base.slot b o e n l hx;exact⟨sl,(f.2 b (a b o e)).trans e1⟩
 .obtain⟨o',e1⟩:=I1.base.there b o e hx;exact⟨o',(f.2 b (a b o e)).trans e1⟩
 .have x:i≠j:=by
   rintro rfl;rw[Ca hjσ]at t;cases t
  rw[Bv (Az x)]at t;obtain⟨w,J,q⟩:=D i y G e1 (by rw[Bv (Az x)];exact t) R;refine⟨w,J,?_⟩;rcases q with⟨k,e⟩|⟨k,c,e,z⟩
  .refine .inl ⟨k,?_⟩;have:y≠n:=λe=>x (YF F e1 (e▸g));simp[this,e]
  .exact .inr ⟨k,c,e,z.sameBut f (G2 y c e)⟩
 .obtain⟨B,z⟩:=I1.cell y c e;exact⟨B,z.sameBut f (G2 y c e)⟩
 .obtain⟨e,n,ne,K,d⟩:=I1.pin p O;exact⟨(f.2 p.1 ne).trans e,n,ne,K,d⟩
 .refine(I1.AB b ob e).EZ (λc B r q=>(f.2 c ?_).trans q) (λ_ q=>q) λ_ _ q=>q;rintro rfl;have fr:=I1.free;rcases r with rfl|r
  .rw[fr]at e;cases e
  .rw[fr]at r;cases r
theorem Inv.zu(I:Inv X ZB Z H s)(x:FV s.heap ea (.ref C) dx tb)(h:H ea=none)(g:X.s₀.heap.get? ea=none)(j:∀p∈X.pn++ZB,p.1≠ea):Inv X ZB Z (upd H ea (Fz.He ea C dx)) s:=by
 obtain⟨oe,vs,d,a,hd,Fu,_⟩:=x.obj;have e:X.env.locals≠ea:=λz=>by
  obtain⟨m,⟨o,es,ep,ho,hd2,_⟩,_⟩:=I.loc;rw[z,d]at ho;cases ho;rw[Fu]at hd2;cases hd2
 have G2:∀y c,X.env.cells.lookup y=some c->c≠ea:=λy c q z=>by
  obtain⟨v,o,ho,hd2⟩:=I.cell y c q;rw[z,d]at ho;cases ho;rw[Fu]at hd2;cases hd2
 have tr:∀b o,H b=some o->upd H ea (Fz.He ea C dx) b=some o:=λb o q=>by
  rw[AK (by rintro rfl;rw[h]at q;cases q)];exact q
 refine⟨I.ok,I.os,I.bare,⟨I.base.keep,I.base.slot,λb o q n hx=>?_,I.base.there,λb xs q=>tr b _ (I.base.FX b xs q),λb o u q=>tr b _ (I.base.Fd b o u q)⟩,I.loc,I.cell,?_,λy c q=>?_,λp DA=>?_,λb o q=>?_,I.len⟩
 .rw[AK (by rintro rfl;rw[g]at q;cases q)];exact I.base.free b o q n hx
 .rw[AK e];exact I.free
 .rw[AK (G2 y c q)];exact I.DJ y c q
 .obtain⟨h1,h2,l⟩:=I.pin p DA;exact⟨h1,by rw[AK (j p DA)];exact h2,l⟩
 .by_cases z:b=ea
  .subst z;rw[AV]at q;cases q;exact⟨⟨oe,vs,d,a,hd,Fu⟩,⟨_,d⟩,λ_ _⟨o',f,t,r⟩k=>⟨o',f,k _ t,r⟩⟩
  .rw[AK z]at q;exact(I.AB b o q).EZ (λc u _ i=>i) (λc a=>tr c _ a) λc xs a=>tr c _ a
noncomputable abbrev Cx.Gd(X:Cx)(pn:ZHz)(xe:Value->Shared->Prop):Cx:={ X with pn:=pn,xe:=xe }
noncomputable abbrev Cx.Dh(X:Cx)(e:Value):Cx:={ X with A:=X.A.mark (some e),calm:=false,xe:=λ_ _=>False }
section
variable{jZ:ZHz}{e:Value}
theorem Cx.Ok.Gd(ok:X.Ok):(X.Gd pn xe).Ok:=⟨ok.mod,ok.kind,ok.glob,ok.blt,ok.above,ok.inj,ok.has,ok.Jm,ok.hd,ok.frames,ok.JA,ok.L4,ok.bs,ok.FL,ok.K0,ok.Jz,ok.EV,ok.Gi⟩
theorem Cx.Ok.Ka(ok:(X.Gd pn xe).Ok):X.Ok:=⟨ok.mod,ok.kind,ok.glob,ok.blt,ok.above,ok.inj,ok.has,ok.Jm,ok.hd,ok.frames,ok.JA,ok.L4,ok.bs,ok.FL,ok.K0,ok.Jz,ok.EV,ok.Gi⟩
theorem Cx.Ok.Dh(ok:X.Ok):(X.Dh e).Ok:=⟨ok.mod,ok.kind,ok.glob,ok.blt,ok.above,ok.inj,ok.has,ok.Jm,λz=>(by cases z),ok.frames,ok.JA,ok.L4,ok.bs,ok.FL,ok.K0,ok.Jz,ok.EV,ok.Gi⟩
theorem Inv.Gd(I:Inv X ZB Z H s):Inv (X.Gd (X.pn++ZB) xe) [] Z H s:=⟨I.ok.Gd,I.os,I.bare,I.base,I.loc,I.cell,I.free,I.DJ,λp a=>I.pin p (by simpa using a),I.AB,I.len⟩
theorem Inv.Ka(I:Inv (X.Gd (X.pn++ZB) xe) jZ Z H s):Inv X ZB Z H s:=⟨I.ok.Ka,I.os,I.bare,I.base,I.loc,I.cell,I.free,I.DJ,λp a=>I.pin p (DN _ a),I.AB,I.len⟩
theorem Inv.Dh(I:Inv X ZB Z H s):Inv (X.Dh e) ZB Z H s:=⟨I.ok.Dh,I.os,I.bare,I.base,I.loc,I.cell,I.free,I.DJ,I.pin,I.AB,I.len⟩
theorem Inv.SN(ok:X.Ok)(I:Inv (X.Dh e) ZB Z H s):Inv X ZB Z H s:=⟨ok,I.os,I.bare,I.base,I.loc,I.cell,I.free,I.DJ,I.pin,I.AB,I.len⟩
end
noncomputable def Ends.drop(D:Ends)(j:Nat):Ends:=⟨λZ H=>D.nx (Z.set j none) H,D.rt,λZ H=>D.bk (Z.set j none) H,λZ H=>D.ct (Z.set j none) H⟩
def VI(K:ZHy)(S:Addr)(j:Nat)(tb:(St->XK)->TS)(th:TS):TS:=λD Z H=>∃E1:St->XK,tb E1 D Z H/\
 ∀ σ1 C dx ea H1,E1 σ1 (.ref C) dx H1->H1 ea=none->PySem.W.exmOne K (.ref C) (.ref S)=some true/\th (D.drop j) (σ1.set j (some (.ref ea))) (upd H1 ea (Fz.He ea C dx))
def R9(sp:Sp)(E:St->XK)(t:TA):TE:=λZ H Q=>t Z H λvs H1=>sp vs H1 Q (E Z)
def CS(P:Program)(w:World)(K:ZHy)(mg:ZI0)(Yd:Heap)(x:Str)(k:Nat)(ps:List Str)(sp:Sp):Prop:=
 ∃f fd,Cs P w K mg Yd (FT P w) k f fd ps sp/\Binds K fd ps []/\PySem.W.keepIn K (.ref f)=true/\mg x=some (.ref f)
section
variable{P:Program}{K:ZHy}{k:Nat}{st:Stmt}
theorem CS.mk(F:AE K x qual st f fd)(b:Binds K fd ps [])(m:mg x=some (.ref f))(h:Cs P w K mg Yd (FT P w) k f fd ps sp):CS P w K mg Yd x k ps sp:=⟨f,fd,h,b,F.kp,m⟩
variable{E:St->XK}
theorem Goes.ZDc(go:Goes X E)(i:∀b∈X.ex,∃p∈X.pn,p.1=b){e:Value}(I:Inv X ZB Z H s)(h:FT X.prog X.w X.stack H s (E Z) e s'):X.xe e s':=by
 have E6:∀a,s.heap.get? a=none->X.s₀.heap.get? a=none:=λa k=>by
  cases q:X.s₀.heap.get? a with
  |none=>rfl
  |some o=>
   by_cases hx:a∈X.ex
   .obtain⟨p,c,rfl⟩:=i a hx;have h1:=(I.pin p (DN _ c)).1;rw[k]at h1;cases h1
   .obtain⟨u,h1⟩:=I.base.there a o q hx;rw[k]at h1;cases h1
 obtain⟨ea,C,dx,tb,H',rfl,os,bare,un,AB,x,⟨m,j⟩,f,n⟩:=h;obtain⟨hh,g,d,t,Nw⟩:=s';obtain rfl:Nw=s.os:=os;have r:=I.call (h':=hh) (g':=g) (d':=d) (t':=t) (ch:=[]) un AB bare (λb z=>absurd z (by simp));refine go ZB Z H' _ ea C dx tb r x ⟨m,E6 _ j⟩ (λT l=>⟨(f T l).1,E6 _ (f T l).2⟩) (λp c=>⟨λz=>?_,λz=>?_⟩) n
 .have:=(I.pin p c).1;rw[z,j]at this;cases this
 .have:=(I.pin p c).1;rw[(f _ z).2]at this;cases this
theorem ZFt(a:X.ex=[]):∀b∈X.ex,∃p∈X.pn,p.1=b:=λb c=>by rw[a]at c;cases c
theorem ZBC(h:CS X.prog X.w X.K X.mg X.base x k ps sp)(d:B8 j X.A)(hk:k<=j)(go:Goes X E)(c:∀b∈X.ex,∃p∈X.pn,p.1=b)(l:PA X (e::es) t)(i:Gl X x:=by rfl)(BO:(x == ("__debug__":Str))=false:=by decide)
  (he:Cy X e es:=by rfl) (An:BEq X pos es:=by rfl) :
  PE X (.Call (.Name x p) (e::es) [] pos) (R9 sp E t):=by
 obtain⟨f,fd,F,b,kp,m⟩:=h;have F:=F.mono hk;intro ZB s Z H Q I h;refine wF (Ky I i m ?_ BO);refine mX (h₀:=X.base) I.ok.mod.HE kp (l.k pos I h λus s1 vs H1 I1 r q=>⟨I1.CB,?_⟩) he An;have g:us.length=ps.length:=by rw[<- r.length];exact F.len _ _ _ _ q
 refine ZAJ (ZAD (F.run X.A X.stack s1 H1 ⟨us,[]⟩ us vs Q (E Z) d I1.RP (by have z:=b s1 us I1.CB (by rw[Gv];exact g);rw[Gv]at z;exact z) r q) λr s' a=>?_);cases r with
 |error e=>exact go.ZDc c I1 a
 |ok n=>
  cases n with
  |ret u=>exact I1.after a
  |next=>exact False.elim a
  |brk=>exact False.elim a
  |cont=>exact False.elim a
end
section
variable{P:Program}{K:ZHy}{E:XK}
theorem FZ:Goes (Cn (FT P w) P w K mg Yd N qual scope f cd A outer s H E) (λ_=>E):=λZB Z H' s' ea C dx tb I x u a _ b=>
 UL.leave ⟨ZB,Z,H',ea,C,dx,tb,rfl,I,x,u,a,b⟩
theorem j7:PassesOwn (model P w) (Cn (FT P w) P w K mg Yd N qual scope f cd A outer s H E).A (Cn (FT P w) P w K mg Yd N qual scope f cd A outer s H E).env (Cn (FT P w) P w K mg Yd N qual scope f cd A outer s H E).xe:=PassesOwn.leaving
end
theorem AE.rM{P:Program}{K:ZHy}{st:Stmt}{k:Nat}(F:AE K x qual st f fd)(S:Ap N ps (AI st))(len:∀vs H Q E,sp vs H Q E->vs.length=ps.length)
  (HD:∀(AU:Value)(A:Around)(outer:List Env)(s:Shared)(H:Hp)(vs:List V)(Q:VK)(E:XK),B8 k (A.deeper (envOfC qual (AI st) s.heap.objs.size f AU))->sp vs H Q E->
   ∃t,Dl (Cn (FT P w) P w K mg Yd N qual (AI st) f AU A outer s H E) (DC st) t/\t { nx:=λ_ H'=>Q .A8 H',rt:=Q } (start N vs) H):Cs P w K mg Yd (FT P w) (k+1) f fd ps sp:=by
 obtain⟨e,od,kV,c,d,g,AU,ct,G3,rfl,a,DK⟩:=F.ex;refine XD a DK S len λA outer s H vs Q E b Ey=>?_;obtain⟨t,h,q⟩:=HD AU A outer s H vs Q E b Ey;exact⟨t,h.h,q⟩
section
variable{i k:Nat}{E:St->XK}{body Dh:List Stmt}{fld:Str}
theorem GI(h:CS X.prog X.w X.K X.mg X.base x k ps sp)(c:B8 j X.A)(hk:k<=j)(go:Goes X E)(a:X.ex=[])(b:QA X (e::es) t)(d:Gl X x:=by rfl)(BO:(x == ("__debug__":Str))=false:=by decide)
  (he:Cy X e es:=by rfl) (An:BEq X pos es:=by rfl):QE X (.Call (.Name x p) (e::es) [] pos) (R9 sp E t):=⟨by have b:=b.h;exact ZBC h c hk go (ZFt a) b d BO he An⟩
theorem aE(m:Gl X x)(a:X.mg x=some (.ref C))(q:HL X.K C none=true)(n:X.calm=true)(d:X.ex=[])(go:Goes X E)(f:QA X (e0::es) t)
  (BO:(x == ("__debug__":Str))=false:=by decide) (he:Cy X e0 es:=by rfl) (An:BEq X Bl es:=by rfl) :
  QS X (.Raise (some (.Call (.Name x np) (e0::es) [] Bl)) none pos) (UR C E t):=⟨by
 have f:=f.h;intro ZB s Z H D I h;have mk:∀h':Heap,X.K.In h'->kF h' C none:=λh' k=>NW k q;obtain⟨bm,N,nm,qn,bs,hdct,sn,sub,ab,col,dd,k0,k1,k2,k3,k5,mN,hC,v,G7,T⟩:=(NW (X:=I.mod.HE) q).obj;refine wpAny_Raise_call_subT (C:=C) (nm:=nm) (q:=qn) (N:=N) (bs:=bs) (bm:=bm) (hdct:=hdct) (sn:=sn) (sub:=sub) (ab:=ab) (col:=col) (dd:=dd) (k0:=k0) (k1:=k1) (k2:=k2) (k3:=k3) (k5:=k5)
  mV (mN:=mN) (T.hasType rfl) (I.ok.hd n) (by rw[he];show(false || (backTo Bl (starEach es X.env)).any (·.1))=false;rw[An];rfl) G7 (Ky I m a ⟨rfl,?_⟩ BO)
 rw[he];have i:=f Bl ZB s Z H _ I h;rw[he]at i;refine lr (Aw i λus s2⟨vs,H2,I2,r,j,w⟩=>⟨rfl,?_,I2.bk _ _ hC,v.keeps I2.bk,T.keeps I2.bk,λh' e a=>?_⟩)
 .rw[<- r.length];exact Be j (by decide +kernel)
 .obtain⟨t',YM,A,_⟩:=a.there;have g:s2.heap.get? e=none:=a.new;have y:=I2.call (h':=h') (g':=s2.gens) (d':=s2.drawn) (t':=s2.toks) (ch:=[]) (Un.kept a.keeps) (I2.AB.kept a.keeps) I2.bare (λb z=>absurd z (by simp));refine go ZB Z H2 _ e C none none y ⟨⟨_,_,YM,rfl,rfl,rfl,by simp,rfl⟩,λT z=>by cases z⟩ ⟨?_,?_⟩ (λT z=>by cases z) (λp l=>⟨λz=>?_,by simp⟩) w
  .cases z:H2 e with
   |none=>rfl
   |some o=>obtain⟨u,c⟩:=I2.AB.there z;rw[g]at c;cases c
  .cases z:X.s₀.heap.get? e with
   |none=>rfl
   |some o=>obtain⟨u,c⟩:=I2.base.there e o z (by rw[d];simp);rw[g]at c;cases c
  .have:=(I2.pin p l).1;rw[z,g]at this;cases this⟩
theorem ZCH(c:Nn X.K C fI fld)(σ:Gl X x)(Y:X.mg x=some (.ref C))(Fn:Cs X.prog X.w X.K X.mg X.base DD kk fI fd ["self", par] (M8 C fld))(hb:Binds X.K fd ["self", par] [])(U:B8 (kk+1) X.A)(n:X.calm=true)(hex:X.ex=[])(go:Goes X E)(q:QA X [e0] t)
  (BO:(x == ("__debug__":Str))=false:=by decide) (he:Cy X e0 []:=by rfl) (An:BEq X Bl []:=by rfl) :
  QS X (.Raise (some (.Call (.Name x np) [e0] [] Bl)) none pos) (RG C fld E t):=⟨by
 have q:=q.h;intro ZB s Z H D I h;obtain⟨bm,N,nm,qn,bs,hdct,sn,sub,ab,col,dd,k0,k1,k2,k3,k5,mN,hC,hN,G7,T⟩:=(NW I.mod.HE c.ex).obj;rw[arm_exec_Raise];show wpAny _ _ (do standAt pos;raiseStmt X.env (some (do let v <- eval (.Call (.Name x np) [e0] [] Bl) X.env;standAt pos;pure v)) none) _ _ s
 refine dP (ZAU (ZCD (C:=C) (nm:=nm) (qn:=qn) (N:=N) (bs:=bs) (bm:=bm) (hdct:=hdct) (sn:=sn) (sub:=sub) (ab:=ab) (col:=col) (dd:=dd) (k0:=k0) (k1:=k1) (k2:=k2) (k3:=k3) (k5:=k5) (newId:="ValueError.__new__") (T.hasType rfl) (I.ok.hd n) (dP ?_)));refine wF (Ky I σ Y ?_ BO);refine mX (h₀:=X.base) I.ok.mod.HE c.kp (q.k Bl I h λus s1 vs H1 I1 r⟨v,ev,sv,hE⟩=>⟨I1.CB,?_⟩) he An;subst ev;obtain⟨u,rfl,Q⟩:=vals1 r;obtain⟨V,g,d,tk,os⟩:=s1;have Nc:∃oI,V.get? fI=some oI/\oI.cls=.type "function" := by
  have z:=beq_iff_eq.mp c.fn;unfold PySem.W.typeIn at z;obtain⟨o,ho,n⟩:=Option.map_eq_some_iff.mp z;exact⟨o,I1.CB _ _ ho,n⟩
 obtain⟨oI,m,R6⟩:=Nc;refine ZBI mV (T.keeps I1.bk) (I1.bk _ _ hC) (hN.keeps I1.bk) G7 m R6 (by show 1<=sizeLine;decide +kernel) λh' ea MU WX=>?_;obtain⟨t',YM,_,_⟩:=WX.there;have G:H1 ea=none:=I1.AB.fresh MU;have y:Inv X ZB Z (upd H1 ea (Ee ea C none)) ⟨h',g,d,tk,os⟩:=I1.laid (t':=tk) WX.keeps MU (X2 YM);have S:M8 C fld ([.ref ea,v]++[]) (upd H1 ea (Ee ea C none)) (λw H3=>w=.A8/\∃d,H1 d=none/\d≠ea/\H3=upd (upd (upd H1 ea (Ee ea C none)) d (.xd [(fld,v)])) ea (Ee ea C (some d))) E0:=
  ⟨ea,v,rfl,sv,AV,λd hd=>by
   have j:d≠ea:=by rintro rfl;rw[AV]at hd;cases hd
   rw[AK j]at hd;exact⟨rfl,d,hd,j,rfl⟩⟩
 refine ZAJ (ZAD (Fn.run _ X.stack _ _ ⟨[.ref ea,u],[]⟩ [.ref ea,u] [.ref ea,v] _ E0 (U.make C [u] []) (y.RP.make C [u] []) (hb _ [.ref ea,u] y.CB rfl) (.cons rfl (.cons Q .nil)) S) λR s' i=>?_);cases R with
 |error e=>exact False.elim i
 |ok fl=>
  cases fl with
  |ret O=>
   obtain⟨w3,H3,I3,Qw,ew,f,L,j,eH⟩:=y.after i;subst ew;subst eH;cases(show O=Value.none from Qw);refine⟨rfl,dP (ZAU (nW ?_))⟩;obtain⟨P,B⟩:=I3.exc (C:=C) (dx:=some f) AV;refine⟨ea,P,some f,rfl,I3.bk _ _ hC,B,?_⟩;have F:∀p∈X.pn++ZB,p.1≠ea:=λp DA z=>by
    have:=AY (I1.pin p DA).1;rw[z]at this;exact absurd this (Nat.not_lt.mpr MU)
   have J:=I3.forget (a:=ea) AV F;have M:Mj (upd (upd (upd H1 ea (Ee ea C none)) f (.xd [(fld,v)])) ea (Ee ea C (some f))) ea=upd H1 f (.xd [(fld,v)]):=by
    funext b
    by_cases z:b=ea
    .subst z;rw[X6,AK (Az j),G]
    .rw[Qt z,AK z]
     by_cases l:b=f
     .subst l;rw[AV,AV]
     .rw[AK l,AK l,AK z]
   rw[M]at J;refine go ZB Z _ s' ea C (some f) none J ⟨⟨_,_,B,rfl,rfl,rfl,by simp,rfl⟩,λT z=>by cases z⟩ ⟨by rw[AK (Az j)];exact G,?_⟩ (λT z=>by cases z) (λp DA=>⟨F p DA,by simp⟩) (hE f L);exact Pe (Be I1.sz MU)
  |next=>exact False.elim i
  |brk=>exact False.elim i
  |cont=>exact False.elim i⟩
theorem o9(CY:X.stack=X.env::X.outer)(hex:X.ex=[])(A:X.N.Nodup)(m:X.N[j]?=some n)(hk:X.env.scope.names.lookup n=some .local)(hg:Gl X x)(hm:X.mg x=some (.ref S))
  (t:∀(pn:ZHz)(xe:Value->Shared->Prop)(E1:St->XK),Goes (X.Gd pn xe) E1->Dl (X.Gd pn xe) body (Mh E1))
  (hh:∀e,Dl (X.Dh e) (b0::Dh) th) (BO:(x == ("__debug__":Str))=false:=by decide) :
  QS X (.Try body [.ExceptHandler (some (.Name x np)) (some n) (b0::Dh) KH] [] [] pos) (VI X.K S j Mh th):=⟨by
 have t:=λpn xe E1 g=>(t pn xe E1 g).h;have hh:=λe=>(hh e).h;intro ZB s Z H D I h;obtain⟨E1,h1,h2⟩:=h;have P:X.env.frame=some X.env.locals:=by
  rcases I.ok.JA with e|⟨_,P⟩
  .rw[e]at CY;exact absurd (sg List.length CY) (by simp)
  .exact P
 refine wpAny_Try_except ?_;refine sE (t (X.pn++ZB) _ E1 ?_ [] s Z H D I.Gd h1) (λf s1 q=>?_) (λe s1 q=>q)
 .intro jZ σ1 H1 s1 ea C dx tb I1 Q ⟨E,k⟩ B c hE;have i:Inv X ZB σ1 H1 s1:=I1.Ka;have k:X.s₀.heap.get? ea=none:=k;have B:∀T,tb=some T->H1 T=none/\X.s₀.heap.get? T=none:=B;have c:∀p∈X.pn++ZB,p.1≠ea/\tb≠some p.1:=λp q=>c p (DN _ q);refine aN (outer:=X.outer) (L:=X.env.locals) (by rw[<- CY];exact i.ok.frames) (Yd:=X.base) (by rw[<- CY];exact i.stack) P Q λh' T kp a G=>?_;have F:=i.lP CY Q E k B c kp;obtain⟨U,V⟩:=h2 σ1 C dx ea H1 hE E;refine wpAny_handleBy_cons ?_ (λz=>by cases z);refine codeAny_handlers_test ?_;refine Ky (X:=X.Dh (.ref ea)) F.Dh hg hm ?_ BO;obtain⟨oe,vs,he,hc,hd,Fu,hz,h3⟩:=G.obj;have LT:PySem.W.Looks (model X.prog X.w) h' (typeOf (.ref ea)) (.ref C):=by
   rw[<- hc];exact(PySem.W.Looks.ld he).andThen .now
  refine(PySem.W.exm_one (K:=X.K) F.CB LT U).here ?_;refine codeAny_handlers_suite_as ?_;have fl:∀b∈CK (X.env::X.outer),∃o,h'.get? b=some o/\∀vs,o.data≠.fields vs:=λb t=>by
   have st:=F.stack;rw[CY]at st;obtain⟨_,o,ho,σ⟩:=st.mem t;exact⟨o,ho,σ⟩
  refine Zq (s:={ s1 with heap:=h' }) (l:=X.env::X.outer) G fl λh4 M R=>?_
  have J:∀T',some T=some T'->H1 T'=none/\X.s₀.heap.get? T'=none:=λT' eT=>by
   cases eT;exact a.elim (λa=>⟨i.AB.fresh a,Pe (Be i.sz a)⟩) (B T)
  have O:∀p∈X.pn++ZB,p.1≠ea/\some T≠some p.1:=λp q=>⟨(c p q).1,λz=>a.elim (λa=>by
   have e1:=AY (i.pin p q).1;rw[<- BG z]at e1;exact absurd e1 (Nat.not_lt.mpr a)) λy=>(c p q).2 (y.trans z)⟩
  have I4:=F.lP CY G E k J O M;have I5:=I4.zu R E k λp q=>(c p q).1;refine X5 (X:=X.Dh (.ref ea)) (v:=.ref ea) I5.Dh A m (.inl hk) rfl (λY I6=>?_) (.inr hk);refine sE (hh (.ref ea) ZB Y _ _ (D.drop j) I6 V) (λf s7 q=>?_) (λ_ _ z=>z.elim);cases f with
  |next=>
   obtain⟨σ7,H7,I7,d⟩:=q;exact(I7.SN I.ok).unbind A m hk λs' I9=>⟨_,_,I9,d⟩
  |brk=>
   obtain⟨σ7,H7,I7,d⟩:=q;exact(I7.SN I.ok).unbind A m hk λs' I9=>⟨_,_,I9,d⟩
  |cont=>
   obtain⟨σ7,H7,I7,d⟩:=q;exact(I7.SN I.ok).unbind A m hk λs' I9=>⟨_,_,I9,d⟩
  |ret u=>
   obtain⟨v,σ7,H7,I7,r,d⟩:=q;exact(I7.SN I.ok).unbind A m hk λs' I9=>⟨v,_,_,I9,r,d⟩
 .cases f with
  |next=>
   obtain⟨σ7,H7,I7,d⟩:=q;exact ZAg ⟨_,_,I7.Ka,d⟩
  |brk=>
   obtain⟨σ7,H7,I7,d⟩:=q;exact⟨_,_,I7.Ka,d⟩
  |cont=>
   obtain⟨σ7,H7,I7,d⟩:=q;exact⟨_,_,I7.Ka,d⟩
  |ret u=>
   obtain⟨v,σ7,H7,I7,r,d⟩:=q;exact⟨v,_,_,I7.Ka,r,d⟩⟩
end
section
variable{K:ZHy}{x:Addr}{fill expr:Bool}
structure ExGet (K:ZHy) (C:Addr):Prop where
 ga:PySem.W.findIn K (.ref C) "__getattribute__"=some (some (.builtin "BaseException.__getattribute__"))
 gt:PySem.W.findIn K (.ref C) "__getattr__"=some none
 mb:PySem.W.mroIn K C (.type "BaseException")=some true
theorem ZEk(o:Value):bindSpecial (.builtin "BaseException.__getattribute__") o=pure (.builtin "BaseException.__getattribute__", [o]):=by
 first|rfl|kernel_rfl
theorem kB(X:K.In s.heap)(I:PySem.W.InstAt s.heap x ox C od)(g:ExGet K C)
  (h:wpAny (model prog w) A.in1 (Builtin.«object.__getattribute__» ⟨[.ref x,.str name tk],[]⟩) (λfin s'=>match fin with | .done (.ret v)=>wpAny (model prog w) A (handedOut v) Q E s'|_=>False) (λ_ _=>False) s) :
  wpAny (model prog w) A (getAttrBy (.ref x) (.str name tk) fill expr) Q E s:=by
 obtain⟨hh,k,d,t,os⟩:=s;have a:=I.type (M:=model prog w);have j:=mY (M:=model prog w) X g.ga;have i:=mY (M:=model prog w) X g.gt;have f:=ZHE (M:=model prog w) X g.mb;unfold getAttrBy;refine rG (dP (a.at (dP (j.at ?_))));have e:(Value.builtin "BaseException.__getattribute__" == Value.builtin "object.__getattribute__")=false:=by decide +kernel
 dsimp only;rw[nr (by rw[e,Lj];decide)];unfold getAttrByItsOwn hookBefore;rw[oM (show onTheHeap (Value.ref C)=true from rfl)];refine dP (i.at (dP (ZAF (rG ?_))));unfold callGetattribute;rw[nr (show ¬ (expr && onTheHeap (Value.builtin "BaseException.__getattribute__"))=true by cases expr <;> decide)]
 unfold boundAndCalled;rw[ZEk];refine dP (nW ?_);show wpAny _ _ (call (.builtin "BaseException.__getattribute__") [.ref x,.str name tk]) _ _ _;refine ZAJ (ZAT PySem.F.excAttr_ValueError.ga.plain PySem.F.entry_bexc_ga ?_);have hk:builtinKind "BaseException.__getattribute__"=some .slot:=by decide +kernel
 have b:splitId "BaseException.__getattribute__"=some ("BaseException","__getattribute__"):=by decide +kernel
 have c:=PySem.F.args_bexc_ga (.ref x) (.str name tk);simp only[checkBuiltinCall,hk,b];unfold isInstance;refine dP (dP (a.at (f.at ?_)));rw[nr (by decide)];refine w8 c ?_;refine sE h (λfin s' z=>?_) λ_ _ z=>z.elim;rcases fin with(_|_|_|_)|_ <;> first|exact z|exact z.elim
theorem yg(X:K.In s.heap)(I:PySem.W.InstAt s.heap x ox C od)(g:ExGet K C)(a:PySem.W.findObj K C od name=some (.value v))(hh:PySem.W.handedIn v=true)(h:Q v { s with toks:=s.toks+1 }):
  wpAny (model prog w) A (getAttr (.ref x) name expr) Q E s:=by
 unfold getAttr;refine dP (wpAny_mkText (kB (s:={ s with toks:=s.toks+1 }) X I g ?_))
 obtain⟨e,f,d,t,os⟩:=s;have c:=I.type (M:=model prog w);have b:=ZHD (M:=model prog w) X I a;refine dP (nW (dP (nW (dP (c.at (dP (b.at ?_)))))));refine nW ?_;show wpAny _ _ (handedOut v) _ _ _;rw[ZH9 hh];exact nW h
theorem ZG8{Q:Option Value->Shared->Prop}(X:K.In s.heap)(I:PySem.W.InstAt s.heap x ox C od)(g:ExGet K C)(c:PySem.W.findObj K C od "__class__"=some (.bind (.builtin "getset_descriptor.__get__") (.builtin "object.__class__")))(b:PySem.W.mroIn K C (.type "object")=some true)
  (h:Q (some (.ref C)) { s with toks:=s.toks+1 }):wpAny (model prog w) A (getAttr? (.ref x) "__class__") Q E s:=by
 unfold getAttr? getAttrBy?;refine dP (wpAny_mkText (dP (ZAF ?_)));refine kB (s:={ s with toks:=s.toks+1 }) X I g ?_
 obtain⟨a,e,d,t,os⟩:=s;have i:=I.type (M:=model prog w);have f:=ZHD (M:=model prog w) X I c;refine dP (nW (dP (nW (dP (i.at (dP (f.at ?_)))))));show wpAny _ _ (holding [Value.builtin "object.__class__"] (call (.builtin "getset_descriptor.__get__") [.builtin "object.__class__",.ref x,.ref C]) >>= ret) _ _ _;refine dP (rG (ZAJ (PySem.W.class_get (s:=⟨a,e,d,t+1,os⟩) (ox:=ox) (od:=od) X I b ?_)));refine nW ?_;show wpAny _ _ (handedOut (.ref C)) _ _ _;rw[ZH9 rfl];exact nW (nW h)
end
structure Lr (K:ZHy) (C:Addr):Prop extends ExGet K C where
 cl:(PySem.W.clsIn K C).isSome=true
 gc:PySem.W.findIn K (.ref C) "__class__"=some (some (.builtin "object.__class__"))
 gn:PySem.W.specialIn K (.builtin "object.__class__") "__get__"=some (some (.builtin "getset_descriptor.__get__"))
 tk:PySem.W.takesIn K (.builtin "object.__class__")=some true
 mo:PySem.W.mroIn K C (.type "object")=some true
theorem ZA5{K:ZHy}{a g:Value}(b:(PySem.W.clsIn K C).isSome=true)(e:PySem.W.findIn K (.ref C) name=some (some a))(d:PySem.W.specialIn K a "__get__"=some (some g))(c:PySem.W.takesIn K a=some true):PySem.W.findObj K C od name=some (.bind g a):=by
 obtain⟨cd,b⟩:=Option.isSome_iff_exists.mp b;unfold PySem.W.findObj;rw[b,Tp,e,Tp];simp[d,c]
theorem ZFe{K:ZHy}{x:Addr}(g:Lr K C):PySem.W.KitX K (.ref x) (.ref C) (λh=>∃ox od,PySem.W.InstAt h x ox C od) where
 ty:=λ_ _ _ AM=>by obtain⟨_,_,I⟩:=AM;exact I.type
 it:=λ_ _ X _=>by
  obtain⟨b,J7⟩:=Option.isSome_iff_exists.mp g.cl;unfold PySem.W.clsIn at J7;split at J7
  .rename_i c' d' cd' Wc ho;intro A' Q' E' s' k q;unfold isType loadHead;exact dP (wpAny_loadPart (k _ _ (X _ _ ho)) (nW q))
  .cases J7
 ne:=λh tp dd A3 n sl X a=>by
  obtain⟨b,J7⟩:=Option.isSome_iff_exists.mp g.cl;refine Bool.eq_false_iff.mpr λq=>?_;have e:C=tp:=Value.ref.inj (beq_iff_eq.mp q);subst e;unfold PySem.W.clsIn at J7;split at J7
  .rename_i c' d' cd' Wc ho;have z:=(X _ _ ho).symm.trans a;cases z
  .cases J7
 ca:=λX⟨_,_,I⟩k=>ZG8 X I g.toExGet (ZA5 g.cl g.gc g.gn g.tk) g.mo k
theorem sL(e:∃ob vs,h.get? a=some ob/\ob.cls=.ref C/\ob.dict=dx/\ob.data=.fields vs)(hd:∀d,dx=some d->∃o,h.get? d=some o):∃ox od,PySem.W.InstAt h a ox C od:=by
 obtain⟨ob,vs,h1,h2,c,b⟩:=e;cases dx with
 |none=>exact⟨ob,none,h1,h2,by unfold PySem.W.notCls;rw[b],by rw[c];trivial⟩
 |some d=>
  obtain⟨o,ho⟩:=hd d rfl;exact⟨ob,some o,h1,h2,by unfold PySem.W.notCls;rw[b],by rw[c];exact ho⟩
def Tq:V->Value->Prop
 | .ty n,c=>c=.type n
 | .ref S,c=>c=.ref S
 |_,_=>False
def jg(K:ZHy)(H:Hp)(x:V)(t:Value):Prop:=Fs K H x t∨∃a C dx,x=.ref a/\t=.ref C/\H a=some (Fz.He a C dx)/\Lr K C/\∀d,dx=some d->∃fs,H d=some (.xd fs)
def S7(K:ZHy):List V->Hp->VK->Prop:=λxs H Q=>∃(x cv:V)(c t:Value)(b:Bool),xs=[x,cv]/\Tq cv c/\jg K H x t/\PySem.W.kitOne K t c=some b/\Q (.bl b) H
theorem E2:Bo X (.builtin "isinstance") (S7 X.K):=by
 intro ZB s Z H xs us Q I r h;obtain⟨x,cv,c,t,b,rfl,f,ty,e,q⟩:=h;obtain⟨u,c',rfl,j,i⟩:=vals2 r;have m:c'=c:=by
  cases cv with
  |ty n=>cases i;exact f.symm
  |ref S=>cases i;exact f.symm
  |_=>exact f.elim
 subst m;have fin:∀tk,EP X ZB Z Q (.bool b) { s with toks:=tk }:=λtk=>⟨.bl b,H,I.tok tk,rfl,q⟩
 rcases ty with ty|⟨a,C,dx,rfl,rfl,ha,g,hd⟩
 .exact wM I j ty e fin
 .cases j;have ok:=(I.AB a _ ha).1;exact Hi (ZFe g) I.CB (sL ok λd l=>by obtain⟨fs,k⟩:=hd d l;exact I.AB.there k) e (λz=>nomatch z) fin
def X9(K:ZHy)(ta:TE)(f:Str):TE:=λZ H Q=>ta Z H λx H1=>∃a C dx fs v,x=.ref a/\H1 a=some (Fz.He a C (some dx))/\H1 dx=some (.xd fs)/\ExGet K C/\PySem.W.hasDictIn K C=true/\kC K C f/\fs.lookup f=some v/\Q v H1
section
variable{f:Str}
theorem og(b:QE X e ta)(l:attributeBase e f X.env (eval e X.env)=eval e X.env:=by rfl):QE X (.Attribute e f pos) (X9 X.K ta f):=⟨by
 have b:=b.h;intro ZB s Z H Q I h;refine r9 l (b.k I h λu s1 x H1 I1 g z=>?_);obtain⟨a,C,dx,fs,v,rfl,ea,p,z⟩:=z;obtain rfl:u=Value.ref a:=g;obtain⟨ob,vs,h1,h2,n,m⟩:=(I1.AB a _ ea).1;obtain⟨mA,ns,r⟩:=I1.AB dx _ p;obtain⟨od,d,i⟩:=kQ ns;obtain⟨u,j,c⟩:=EF.some_of (v:=v) (o:=mA f) (by rw[<- z.2.2.2.1];exact r f);have J:PySem.W.InstAt s1.heap a ob C (some od):=⟨h1,h2,by unfold PySem.W.notCls;rw[m],by rw[n];exact d⟩;exact yg I1.CB J z.1 (PySem.W.findObj_own z.2.1 z.2.2.1 rfl (by rw[i f,j])) (uh c) ⟨v,H1,I1.tok _,c,z.2.2.2.2⟩⟩
end
end L2
namespace Fz
open L2 Lw
variable{xs:List PV}
structure N1 (K:ZHy) (a:Addr) (xs:List PV):Prop where
 K3:xs.all flat=true
 sq:∀H,Ax K H a (xs.map Fz.enc)
 ob:∃o:Obj,K.lookup a=some o/\o.cls=.type "tuple"
theorem N1.of{K:ZHy}{a:Addr}{vs:List V}(h:∀H,Ax K H a vs)(e:xs.map Fz.enc=vs)(f:xs.all flat=true):N1 K a xs:=by
 subst e;refine⟨f,h,?_⟩;rcases h (λ_=>none)with h|⟨o,A3,n,h1,h2,_⟩
 .rcases h with h|⟨_,h⟩
  .cases h
  .cases h
 .exact⟨o,h1,h2⟩
section
variable[Xw]
variable{E:Ent0}{ss:List Slot}{Z:L2.St}{F H F' H':Hp}{K:ZHy}{ta tb tc te:TE}{k:PV->Prop}{v:V}{tp:Bool}{nx:List Slot->Prop}{R:Ae}
theorem yX{k:List PV->Prop}(h:Wq ss te λ_ xs=>∃ns:List Int,xs=ns.map PV.int/\ns.length<64/\∀Dj:List Int,Dj.Perm ns->Dj.Pairwise (·<=·)->k (Dj.map PV.int)):Wn ss (CH (lL K) (AZ te B6)) k:=⟨λE Z F H Q S q=>
 h.go E Z F H _ S λv tp xs F1 H1 b sv AM=>by
  obtain⟨ns,e,f,kk⟩:=AM;subst e;obtain⟨l,vs,rfl,d,r⟩:=sv.seq b.st;rw[r.ints]at d;refine⟨l,tp,ns,rfl,Ej.sq d,f,λa Dj c i g=>?_⟩;have m2:=b.st.make c (.lst (Dj.map V.int));exact q a _ _ F1 _ (b.trans m2) (b.st.Bp c) (b.none c) AV (show AN F1 (Dj.map V.int) _ by rw[<- Yq];exact W4 (Ww Dj)) (kk Dj i g)⟩
variable{F1:Hp}{js:List Nat}{ti:TE}
theorem ZBD{i:Nat}(hi:ss[i]?=some .AD)(h:Wq ss ta λtp xs=>tp=false/\∃ns:List Str,xs=ns.map PV.str/\(∀x∈ns,Nm x)/\ns.length<=1000/\∀x:Str,Nm x->x∉ns->k (.str x)):
  Wp ss (E7 (Mw K) [] E0 (AZ (Aj i) (AZ ta B6))) k:=⟨λE Z F H Q S q=>by
 obtain⟨p,e,_⟩:=S.ok i _ hi;refine⟨_,e,h.go E Z F H _ S λv tp xs F1 H1 a sv⟨j,ns,ex,f,c,kk⟩=>?_⟩;subst j;subst ex;obtain⟨l,vs,g,d,b,r⟩:=sv;subst g;rw[r.strs]at b;exact⟨p,l,ns,rfl,a.st.Fy hi e,b,λz=>d i hi (z▸e),f,c,λx H3 hx WR s=>q _ _ F1 H3 (a.trans (a.st.QF hi e s)) (.str x) (kk x hx WR)⟩⟩
end
end Fz
namespace Fz
open L2 Lw
variable{E:Ent0}{A5 ss:List Slot}{Z σ':L2.St}{F F' H H':Hp}{te:TE}{cv v:V}{b tp:Bool}{nx:List Slot->Prop}{R:Ae}{j n:Nat}{vs:List V}{Q:VK}{X:XK}
abbrev En:=List Slot->Ae->(Ex->Prop)->Prop
def Ct(pre:En):Sp:=λvs H Q X=>∃(ss:List Slot)(R:Ae)(D:Ex->Prop)(F:Hp)(A:List Addr),pre ss R D/\Sg (E3 A F H) ss (vs.map some) F H/\(∀v F' H',Fin (E3 A F H) F' H'->R.ok (E3 A F H) F' H' v->Q v H')/\
 ∀(x:Ex)(C:Value)(dx:Option Addr)F' H',Fin (E3 A F H) F' H'->D x->x.at F' C dx->X C dx H'
@[reducible] noncomputable def QD (X:XK) (D:Ex->Prop):Xw:=⟨λ_=>X,λ_=>True,D⟩
@[reducible] noncomputable def NB (E:Ent0) (J:List Slot->Prop) (D:Ex->Prop):Xw:=⟨λZ C dx H=>∃ss F x,J ss/\Sg E ss Z F H/\D x/\x.at F C dx,J,D⟩
def xr:PV->Prop
 | .str x=>(reprText x).length<=100000
 | .int i=>i.natAbs.log2<1920
 |_=>False
section
variable[Xw]
variable{pre:En}{t:TA}{k:PV->Prop}{K:ZHy}{C S:Addr}{fld:Str}
theorem GN(h:Wa ss t λl=>∃k' D,pre l (.is k') D/\Xw.J ss/\(∀x,D x->Xw.D x)/\∀p,k' p->k p):Wp ss (R9 (Ct pre) Xw.e t) k:=⟨λE Z F H Q S q=>
 h.go E Z F H _ S λvs l F1 H1 b a⟨k',D,c,g,i,kk⟩=>by
  refine⟨l,.is k',D,F1,[],c,b.st.YC a,λv F' H' f⟨p,r,kp⟩=>?_,λx C dx F' H' f d By=>?_⟩
  .exact q v p F' H' (b.trans (b.st.back (λ_ h=>absurd h BF) f)) r (kk p kp)
  .exact E.hx ss Z F' H' x C dx g (b.st.back (λ_ h=>absurd h BF) f).st (i x d) By⟩
theorem ck(h:We ss t λps=>ps.length<=1000/\Xw.J ss/\Xw.D ⟨C,[],[]⟩):Ws ss (UR C Xw.e t) nx R:=⟨λE D Z F H S g f=>
 h.go E Z F H _ S λvs ps F1 H1 a rs AM=>by obtain⟨b,c,d⟩:=AM;exact⟨by rw[rs.length];exact b,E.hx ss Z F1 H1 ⟨C,[],[]⟩ (.ref C) none c a.st d ⟨rfl,.inl ⟨rfl,rfl,rfl⟩⟩⟩⟩
theorem o5(h:Wp ss te λp=>xr p/\Xw.J ss/\Xw.D ⟨C,[fld],[p]⟩):Ws ss (RG C fld Xw.e (AZ te B6)) nx R:=⟨λE D Z F H S g f=>
 h.go E Z F H _ S λv p F1 H1 a r AM=>by
  obtain⟨sp,b,c⟩:=AM;refine⟨v,rfl,?_,λd hd=>?_⟩
  .cases r <;> first|exact sp|exact sp.elim
  .have m2:=a.st.alloc hd (.xd [(fld,v)]);exact E.hx ss Z _ _ ⟨C,[fld],[p]⟩ (.ref C) (some d) b m2.st c ⟨rfl,.inr ⟨d,[v],rfl,AV,rfl,.cons (r.mono m2.ff) .nil⟩⟩⟩
end
section
variable{pre:En}
theorem vn{N:List Str}{t:TS}(h:Ct pre vs H Q X)(g:∀ss R D,pre ss R D->ss.length=n)
  (hw:∀ss R D,pre ss R D->let _i:Xw:=QD X D;Ws (ss++List.replicate (N.length - n) .any) t (λ_=>∃k,R=.is k/\k .A8) R):t { nx:=λ_ H'=>Q .A8 H',rt:=Q } (L2.start N vs) H:=by
 obtain⟨ss,R,D,F,A,a,S,q,b⟩:=h;have e:vs.length=n:=by have:=S.len;rw[AG]at this;rw[<- this];exact g ss R D a
 unfold L2.start;rw[e];letI:Xw:=QD X D;refine(hw ss R D a).go ⟨E3 A F H,λA5 σ' F' H' x C dx _ S' d By=>b x C dx F' H' S'.toFin d By⟩ _ _ F H (S.grown _) (λA5 σ' F' H'⟨k,e,c⟩S' _=>?_) λv F' H' f ok=>q v F' H' f ok;subst e;exact q .A8 F' H' S'.toFin ⟨.A8,.A8,c⟩
theorem mz(b:∀ss R D,pre ss R D->ss.length=n)(h:Ct pre vs H Q X):vs.length=n:=by
 obtain⟨ss,R,D,F,A,a,S,q⟩:=h;have:=S.len;rw[AG]at this;rw[<- this];exact b ss R D a
noncomputable abbrev Ent0.at(E:Ent0)(F:Hp):Ent0:=⟨E.A,F,E.H0,E.B⟩
theorem Fin.un(S:Fin E F H)(f:Fin (E.at F) F' H'):Fin E F' H':=⟨f.fh,S.f0.trans f.f0,f.keep,λa o e=>(f.fresh a o e).elim (λe=>S.fresh a o e) .inr,f.Dk,f.JZ,f.a0,f.bF,f.bH,f.b0⟩
theorem Ok.un{G:Hp}{s:Slot}{o:Option (Option V)}:Ok (E.at G) F H s o↔Ok E F H s o:=by
 cases s with
 |sq tp xs=>cases tp <;> exact Iff.rfl
 |_=>exact Iff.rfl
theorem Sg.un(S:Sg E ss Z F H)(S':Sg (E.at F) A5 σ' F' H'):Sg E A5 σ' F' H':=⟨S.toFin.un S'.toFin,S'.len,λi s hi=>Ok.un.mp (S'.ok i s hi),S'.Ba⟩
theorem Sg.atF(S:Sg E ss Z F H):Sg (E.at F) ss Z F H:=⟨⟨S.fh,AQ.refl _,S.keep,λ_ _ e=>.inl e,S.Dk,S.JZ,S.a0,S.bF,S.bH,S.b0⟩,S.len,λi s hi=>Ok.un.mpr (S.ok i s hi),S.Ba⟩
theorem Ae.un{G:Hp}(h:R.ok (E.at G) F H v):R.ok E F H v:=by
 cases R <;> exact h
theorem Sg.yz(S:Sg E ss Z F H)(j:Nat):Sg E (ss.set j .any) (Z.set j none) F H:=by
 have at_:∀(i:Nat)(s:Slot),(ss.set j .any)[i]?=some s->s=.any∨(i≠j/\ss[i]?=some s):=λi s hi=>by
  by_cases q:i=j
  .subst q
   by_cases b:i<ss.length
   .rw[Ca b]at hi;cases hi;exact .inl rfl
   .rw[Td (by rw[GD];omega)]at hi;cases hi
  .rw[Bv (Az q)]at hi;exact .inr ⟨q,hi⟩
 refine⟨S.toFin,by rw[GD,GD];exact S.len,λi s hi=>?_,λi k u w l MT hi hk mu a=>?_⟩
 .rcases at_ i s hi with rfl|⟨q,hi⟩
  .trivial
  .rw[Bv (Az q)];exact S.ok i s hi
 .rcases at_ i u hi with rfl|⟨q,hi⟩
  .exact mu
  .rcases at_ k w hk with rfl|⟨q2,hk⟩
   .exact a
   .rw[Bv (Az q)]at mu;rw[Bv (Az q2)]at a;exact S.Ba i k u w l MT hi hk mu a
end
section
variable[Xw]
variable{K:ZHy}{S:Addr}{tb:(L2.St->XK)->TS}{th:TS}
theorem ZFn(J:List Slot->Prop)(Dx:Ex->Prop)(q:∀E:Ent0,@Ws (NB E J Dx) ss (tb (NB E J Dx).e) nx R)
  (hh:∀OH x,J OH->Dx x->PySem.W.exmOne K (.ref x.C) (.ref S)=some true/\Ws (OH.set j (.is (.exc x.C x.ns x.xs))) th (λC6=>nx (C6.set j .any)) R):Ws ss (VI K S j tb th) nx R:=⟨λE D Z F H S0 i h=>by
 refine⟨(NB (E.toEnt0.at F) J Dx).e,@Ws.go (NB (E.toEnt0.at F) J Dx) _ _ _ _ (q (E.toEnt0.at F)) (@Ent.mk (NB (E.toEnt0.at F) J Dx) (E.toEnt0.at F) λss Z F H x C dx b S d By=>⟨ss,F,x,b,S,d,By⟩) D Z F H S0.atF (λA5 σ' F' H' n S' ff=>i A5 σ' F' H' n (S0.un S') ff) (λv F' H' f ok=>h v F' H' (S0.toFin.un f) (Ae.un ok)),λσ1 C dx ea H1 p MU=>?_⟩;obtain⟨OH,F1,x,b,S1,s,t,By⟩:=p;obtain⟨k,hw⟩:=hh OH x b s;cases t;have l:=S0.un S1;have m:=l.alloc MU (He ea x.C dx);have r:Rep (upd F1 ea (He ea x.C dx)) (.ref ea) (.exc x.C x.ns x.xs):=by
  rcases By with⟨e1,g,c⟩|⟨a,vs,e1,g,c,u⟩
  .subst c;rw[e1,g];exact .QL AV
  .subst e1;exact .exc AV (m.ff _ _ g) c (u.mono m.ff)
 exact⟨k,hw.go E (D.drop j) _ _ _ (m.st.GZ r) (λC6 σ2 F3 H3 o S2 ff=>i _ _ F3 H3 o (S2.yz j) (S1.f0.trans (m.ff.trans ff))) λv F' H' f ok=>h v F' H' f ok⟩⟩
end
def bR(K:ZHy)(p:PV)(t:Value):Prop:=match p with
 | .exc C _ _=>t=.ref C/\Lr K C
 |p=>t=Q6 p
section
variable[Xw]
variable{K:ZHy}{k:PV->Prop}{fld:Str}
theorem Rep.uB{p:PV}{t c:Value}(s:AQ F H)(r:Rep F v p)(h:bR K p t)(l:PySem.W.kitOne K t c=some b)(j:∀C ns xs,p≠.obj C ns xs)(f:∀a xs,p≠.con a xs):jg K H v t:=by
 cases r with
 |A8=>cases(show t=.type "NoneType" from h);exact .inl .A8
 |bl b=>cases(show t=.type "bool" from h);exact .inl (.bl b)
 |int i=>cases(show t=.type "int" from h);exact .inl (.int i)
 |str x=>cases(show t=.type "str" from h);exact .inl (.str x)
 |lst e _=>cases(show t=.type "list" from h);exact .inl (.lst (s _ _ e))
 |tup e _=>cases(show t=.type "tuple" from h);exact .inl (.tup (s _ _ e))
 |B2 e _ _=>cases(show t=.type "dict" from h);exact .inl (.dK (s _ _ e))
 |obj _ _ _ _=>exact absurd rfl (j _ _ _)
 |con=>exact absurd rfl (f _ _)
 |QL e=>
  obtain⟨rfl,g⟩:=h;exact .inr ⟨_,_,none,rfl,rfl,s _ _ e,g,λd z=>by cases z⟩
 |exc e k _ _=>
  obtain⟨rfl,g⟩:=h;exact .inr ⟨_,_,_,rfl,rfl,s _ _ e,g,λd z=>by cases z;exact⟨_,s _ _ k⟩⟩
theorem pO(h:Wp ss te λp=>((∀C ns xs,p≠.obj C ns xs)/\∀a xs,p≠.con a xs)/\∃t c b,Tq cv c/\bR K p t/\PySem.W.kitOne K t c=some b/\k (.bl b)):Wp ss (CH (S7 K) (AZ te (AZ (tC cv) B6))) k:=⟨λE Z F H Q S q=>
 h.go E Z F H _ S λv p F1 H1 d r AM=>by obtain⟨⟨h1,h2⟩,t,c,b,g,f,e,kk⟩:=AM;exact⟨v,cv,c,t,b,rfl,g,r.uB d.st.fh f e h1 h2,e,q _ _ F1 H1 d (.bl _) kk⟩⟩
theorem ZFk(h:Wp ss te λp=>∃C x,p=.exc C [fld] [x]/\ExGet K C/\PySem.W.hasDictIn K C=true/\kC K C fld/\k x):Wp ss (X9 K te fld) k:=⟨λE Z F H Q S q=>
 h.go E Z F H _ S λv p F1 H1 b r AM=>by
  obtain⟨C,x,rfl,z⟩:=AM;rcases r.inv with⟨_,_,_,y,_⟩|⟨a,dx,vs,rfl,e1,f,_,e⟩
  .cases y
  obtain⟨u,ws,rfl,c,d⟩:=e.inv;cases d.DL;exact⟨a,C,dx,_,u,rfl,b.st.fh _ _ e1,b.st.fh _ _ f,z.1,z.2.1,z.2.2.1,by simp[List.zip,List.lookup],q _ _ F1 H1 b c z.2.2.2⟩⟩
end
end Fz
namespace L2
variable{C:Addr}
noncomputable def ZEt(s:Stmt):Stmt:=match s with
 | .ClassDef _ _ _ (d::_) ..=>d
 |s=>s
def YQ(P:Program)(w:World)(K:ZHy)(mg:ZI0)(Yd:Heap)(C:Addr)(fld:Str):Prop:=
 ∃(fI:Addr)(fd:FuncData)(par:Str),Nn K C fI fld/\Cs P w K mg Yd DD 1 fI fd ["self", par] (M8 C fld)/\Binds K fd ["self", par] []
theorem ZFz{fld:Str}{a b:Str}:∀vs H Q E,M8 C fld vs H Q E->vs.length=[a,b].length:=λvs H Q E h=>by obtain⟨ea,v,rfl,_⟩:=h;rfl
theorem ZFS{fld:Str}{vs:List V}{H:Hp}{Q:VK}{E:XK}{N:List Str}(a:N.length=2)(h:M8 C fld vs H Q E):
  Hq (Iv (bM C (AZ (Aj 0) (AZ (lF (Aj 1)) B6)))) (Hq (kN C fld (Aj 0) (Aj 1)) MX) { nx:=λ_ H'=>Q .A8 H',rt:=Q } (start N vs) H:=by
 obtain⟨ea,v,rfl,sv,hx,q⟩:=h;have e0:(start N [V.ref ea,v])=[some (.ref ea),some v]:=by
  unfold start;simp[a]
 rw[e0];refine⟨_,rfl,_,rfl,sv,λy=>⟨ea,_,rfl,hx,?_⟩⟩;refine⟨_,rfl,_,rfl,ea,rfl,hx,λd hd=>q d hd⟩
section
variable{X:Cx}{x:Str}{fld:Str}{E:St->XK}{np Bl pos:Pos}{e0:Expr}{t:TA}{j:Nat}
theorem yb(c:YQ X.prog X.w X.K X.mg X.base C fld)(f:Gl X x)(d:X.mg x=some (.ref C))(b:B8 j X.A)(e:2<=j)(g:X.calm=true)(a:X.ex=[])(go:Goes X E)(i:QA X [e0] t)
  (BO:(x == ("__debug__":Str))=false:=by decide) (he:Cy X e0 []:=by rfl) (An:BEq X Bl []:=by rfl) :
  QS X (.Raise (some (.Call (.Name x np) [e0] [] Bl)) none pos) (RG C fld E t):=by
 obtain⟨fI,fd,par,k,Fn,h⟩:=c;exact ZCH k f d Fn h (b.mono e) g a go i BO he An
end
end L2
namespace Fz
open L2 Lw
variable{b neg:Bool}{i j n:Nat}{C S a a0:Addr}{cs:List Addr}{l ss:List Slot}{ta tb te:TE}{N ms ns:List Str}{xs:List PV}{x:Str}{F F' H H':Hp}{t t' u:OV}{pre:Pre}{Z:L2.St}{E:Ent0}{vs:List V}{nk:NK}{us:List OV}{Q:VK}{X:XK}
theorem ZDQ{b c n:Int}(e:1<=b)(d:b<=c)(a:0<=n):∃m:Nat,(if(if c<n then c else n) > b then(if c<n then c else n)else b)=(m:Int)/\(m:Int)<=c:=by
 have h:∀z:Int,1<=z->z<=c->∃m:Nat,z=(m:Int)/\(m:Int)<=c:=λz f h1=>⟨z.toNat,by omega,by omega⟩;apply h
 .split
  .omega
  .omega
 .split
  .split <;> omega
  .omega
noncomputable def XR(K:ZHy)(C:Addr):Bool:=PySem.W.findIn K (.ref C) "__getattribute__" == some (some (.builtin "BaseException.__getattribute__")) && (PySem.W.findIn K (.ref C) "__getattr__" == some none && (PySem.W.mroIn K C (.type "BaseException") == some true && ((PySem.W.clsIn K C).isSome && (PySem.W.findIn K (.ref C) "__class__" == some (some (.builtin "object.__class__")) && (PySem.W.specialIn K (.builtin "object.__class__") "__get__" == some (some (.builtin "getset_descriptor.__get__")) && (PySem.W.takesIn K (.builtin "object.__class__") == some true && PySem.W.mroIn K C (.type "object") == some true))))))
theorem nB{K:ZHy}(h:XR K C=true):Lr K C:=by
 unfold XR at h;simp only[C7,ZAM]at h;obtain⟨h1,h2,f,e,d,c,b,a⟩:=h;exact⟨⟨h1,h2,f⟩,e,d,c,b,a⟩
def Jc(K:ZHy)(cs:List Addr)(S C:Addr)(i:Nat):Bool:=XR K C && (PySem.W.kitOne K (.ref C) (.ref S) == some true && (PySem.W.kitOne K (.ref C) (.type "ValueError") == some true && (List.range cs.length).all λj=>PySem.W.kitOne K (.ref C) (.ref (cs.getD j 0)) == some (decide (j=i))))
structure Y8 (K:ZHy) (cs:List Addr) (S C:Addr) (i:Nat):Prop where
 ex:Lr K C
 st:PySem.W.kitOne K (.ref C) (.ref S)=some true
 ve:PySem.W.kitOne K (.ref C) (.type "ValueError")=some true
 at_:∀j,j<cs.length->PySem.W.kitOne K (.ref C) (.ref (cs.getD j 0))=some (decide (j=i))
theorem Uc{K:ZHy}(h:Jc K cs S C i=true):Y8 K cs S C i:=by
 unfold Jc at h;simp only[C7,ZAM,Eb]at h;obtain⟨h1,h2,c,b⟩:=h;exact⟨nB h1,h2,c,λj a=>b j (List.mem_range.mpr a)⟩
theorem ZCJ(bs:List Bool):(bs.map V.bl).all Cr=true:=by
 rw[Eb];intro x hx;obtain⟨y,_,rfl⟩:=List.mem_map.mp hx;rfl
section
variable[Xw]
variable{K:ZHy}{k:PV->Prop}
theorem ZDE(c:N1 K a (ns.map .str))(h:Wp ss ta λp=>∃x,p=.str x/\k (.bl (if neg then !decide (x∈ns)else decide (x∈ns)))):Wp ss (BE (FP K neg) ta (tC (.ref a))) k:=⟨λE Z F H Q S q=>
 h.el E S λx F1 H1 b kk=>by
  have sq:=c.sq H1;rw[VJ]at sq;refine⟨a,ns.map V.str,rfl,.inr sq,rfl,Kw ns,?_⟩;rw[Xv];exact q _ _ F1 H1 b (.bl _) kk⟩
theorem pP(h:Wq ss ta λtp xs=>tp=false/\∃bs:List Bool,xs=bs.map PV.bl/\Wp ss tb λq=>∃b,q=.bl b/\k (.int (O5 (.bl b) (bs.map V.bl)))):Wp ss (LN K "list" (Vk K) ta (AZ tb B6)) k:=⟨λE Z F H Q S q=>
 h.go E Z F H _ S λv tp xs F1 H1 a sv⟨g,bs,e,h2⟩=>by
  subst g;subst e;obtain⟨l,vs,rfl,f,r⟩:=sv.seq a.st;refine⟨.inl ⟨rfl,_,AL.of f⟩,h2.go E Z F1 H1 _ a.st λv2 p2 F2 H2 m2 c⟨b,i,kk⟩=>?_⟩;subst i;cases c.inv;obtain⟨m,Bx,j,DX,d⟩:=(sv.mv m2).seq m2.st;cases j;rw[d.Xk]at DX;exact⟨l,_,_,rfl,rfl,AL.of DX,rfl,ZCJ bs,q _ _ F2 H2 (a.trans m2) (.int _) kk⟩⟩
end
noncomputable def LB(r:Str):Bool:=decide (r∈([("none":Str), "ahead","all"]))
section
variable[Xw]{K:ZHy}{k:PV->Prop}
theorem Vb{cv:V}{c:Value}(ex:Lr K C)(a:ss[j]?=some (.is (.exc C ms xs)))(d:Tq cv c)(e:PySem.W.kitOne K (.ref C) c=some b)(kk:k (.bl b)):Wp ss (CH (S7 K) (AZ (Aj j) (AZ (tC cv) B6))) k:=
 pO (A7 a ⟨⟨λ_ _ _ z=>PV.noConfusion z,λ_ _ z=>PV.noConfusion z⟩,_,_,_,d,⟨rfl,ex⟩,e,kk⟩)
theorem Eg(a:Y8 K cs S C i)(d:cs.length=16)(n:Nat)(b:ss[j]?=some (.is (.exc C ms xs)))(kk:k (.bl (decide (n=i))))(c:n<16:=by decide):Wp ss (CH (S7 K) (AZ (Aj j) (AZ (tC (.ref (cs.getD n 0))) B6))) k:=
 Vb a.ex b rfl (a.at_ n (d▸c)) kk
end
def cD(K:ZHy)(cs:List Addr)(S:Addr):Pre:=λl R=>∃(C:Addr)(ms:List Str)(xs:List PV)(i:Nat),l=[.is (.exc C ms xs),.is (.int i)]/\Y8 K cs S C i/\i<cs.length/\cs.length=16/\R=.is λp=>p=.bl true
theorem dR:∀i:Nat,i<16->i=0∨i=1∨i=2∨i=3∨i=4∨i=5∨i=6∨i=7∨i=8∨i=9∨i=10∨i=11∨i=12∨i=13∨i=14∨i=15:=by decide
theorem yF(h:i<16):O5 (.bl true) (List.map V.bl [decide (0=i),decide (1=i),decide (2=i),decide (3=i),decide (4=i),decide (5=i),decide (6=i),decide (7=i),decide (8=i),decide (9=i),decide (10=i),decide (11=i),decide (12=i),decide (13=i),decide (14=i),decide (15=i)])=1:=by
 rcases dR i h with rfl|rfl|rfl|rfl|rfl|rfl|rfl|rfl|rfl|rfl|rfl|rfl|rfl|rfl|rfl|rfl <;> rfl
theorem ZAC(h:i<16):L2.Bf [PV.bl (decide (0=i)),PV.bl (decide (1=i)),PV.bl (decide (2=i)),PV.bl (decide (3=i)),PV.bl (decide (4=i)),PV.bl (decide (5=i)),PV.bl (decide (6=i)),PV.bl (decide (7=i)),PV.bl (decide (8=i)),PV.bl (decide (9=i)),PV.bl (decide (10=i)),PV.bl (decide (11=i)),PV.bl (decide (12=i)),PV.bl (decide (13=i)),PV.bl (decide (14=i)),PV.bl (decide (15=i))] (i:Int)=some (.bl true):=by
 rcases dR i h with rfl|rfl|rfl|rfl|rfl|rfl|rfl|rfl|rfl|rfl|rfl|rfl|rfl|rfl|rfl|rfl <;> rfl
theorem dC(h:x.length<=100)(hx:∀c∈x.cps.toList,c<16 ^ 8):(reprText x).length<=100000:=by
 have:=PySem.StrLaws.reprText_len x hx;omega
theorem ZBL(h:Nm x):(reprText x).length<=100000:=dC (Be h.2.1 (by decide)) λc a=>Gx (h.2.2 c a).2 (by decide)
noncomputable def Ki(ns ts:List Str):Bool:=if decide (Up ts)=true then(ts.map λx=>decide (x∈ns)).all id else false
def d6:Pre:=λl R=>∃(tp:Bool)(ns ts:List Str),l=[.sq tp (ns.map .str),.is (.tup (ts.map .str))]/\ts.length<64/\R=.is λp=>p=.bl (Ki ns ts)
noncomputable def Me:PV->Bool
 | .A8=>true
 |_=>false
theorem Rep.Me{v:V}{p:PV}(r:Rep F v p):decide (v=.A8)=Me p:=by
 cases r <;> rfl
section
variable[Xw]
variable{k:PV->Prop}
theorem J5(h:Wp ss ta λp=>Wp ss tb λq=>q=.A8/\k (.bl (Me p))):Wp ss (BE (λx y H Q=>y=.A8/\Q (.bl (decide (x=.A8))) H) ta tb) k:=⟨λE Z F H Q S q=>
 h.go E Z F H _ S λv p F1 H1 a c h2=>h2.go E Z F1 H1 _ a.st λv2 p2 F2 H2 m2 b AM=>by
  obtain⟨e,kk⟩:=AM;subst e;cases b.inv;refine⟨rfl,?_⟩;rw[c.Me];exact q _ _ F2 H2 (a.trans m2) (.bl _) kk⟩
theorem ZBm(h:Wp ss ta λp=>Wp ss tb λq=>q=.A8/\k (.bl (!Me p))):Wp ss (BE (λx y H Q=>y=.A8/\Q (.bl (!decide (x=.A8))) H) ta tb) k:=⟨λE Z F H Q S q=>
 h.go E Z F H _ S λv p F1 H1 a c h2=>h2.go E Z F1 H1 _ a.st λv2 p2 F2 H2 m2 b AM=>by
  obtain⟨e,kk⟩:=AM;subst e;cases b.inv;refine⟨rfl,?_⟩;rw[c.Me];exact q _ _ F2 H2 (a.trans m2) (.bl _) kk⟩
variable{K:ZHy}{t u:TE}{pre:En}{tA:TA}
end
noncomputable def HG(xs ys:List PV):List PV:=List.zipWith (λx y=>.tup [x,y]) xs ys
theorem SE(xs ys:List PV):(HG xs ys).length=min xs.length ys.length:=by unfold HG;rw[List.length_zipWith]
theorem rY{ys:List PV}{x y:PV}(h:xs[i]?=some x)(h2:ys[i]?=some y):(HG xs ys)[i]?=some (.tup [x,y]):=by
 unfold HG;rw[ZGg,h,h2]
section
variable[Xw]
variable{K:ZHy}
theorem bz{k:List PV->Prop}(h:Wz ss ta λtp xs=>tp=false/\Wz ss tb λCo ys=>Co=false/\k (HG xs ys)):Wi ss (Vt K (AZ ta (AZ tb B6))) k:=⟨λE Z F H R S q=>
 h.go E Z F H _ S λv tp xs F1 H1 b f⟨z,h2⟩=>h2.go E Z F1 H1 _ b.st λv2 Co ys F2 H2 m2 w⟨OA,kk⟩=>by
  subst z;subst OA;obtain⟨l,vs,e,h1,r⟩:=f;obtain⟨l2,HC,B,M9,a⟩:=w;have r:=r.mono m2.ff;have a1:∀(ss:List Slot)(Z:L2.St)(F H:Hp),AQ F2 F->Sg E ss Z F H->H l=some (.lst vs):=λss Z F H s S=>by
   rcases h1 with h1|⟨hA,h1⟩
   .exact S.fh _ _ (s _ _ (m2.ff _ _ h1))
   .exact S.keep _ _ hA h1
  have a2:∀(ss:List Slot)(Z:L2.St)(F H:Hp),AQ F2 F->Sg E ss Z F H->H l2=some (.lst HC):=λss Z F H s S=>by
   rcases M9 with h1|⟨hA,h1⟩
   .exact S.fh _ _ (s _ _ h1)
   .exact S.keep _ _ hA h1
  subst e;subst B;have c:=r.length;have c2:=a.length;refine⟨l,l2,vs,HC,rfl,AL.of (a1 ss Z F2 H2 (AQ.refl _) m2.st),AL.of (a2 ss Z F2 H2 (AQ.refl _) m2.st),q _ (HG xs ys) F2 H2 (b.trans m2) ⟨λss Z F H i s S hi=>?_,λss Z F H s S=>?_,λss Z F H i x H' s S hi y=>?_⟩ kk⟩
  .rw[SE]at hi;exact⟨AL.of (a1 ss Z F H s S),AL.of (a2 ss Z F H s S),by omega,by omega⟩
  .refine⟨AL.of (a1 ss Z F H s S),AL.of (a2 ss Z F H s S),?_⟩;rw[SE];omega
  .obtain⟨p,g,d,hx,t,ex,u,A⟩:=y;subst ex;subst A;obtain⟨D,o,n⟩:=r.get' hx;obtain⟨C,N6,j⟩:=a.get' t;have m:=S.alloc u (.tup [g,d]);exact⟨_,_,rY o N6,m,.tup AV (.cons (n.mono (s.trans m.ff)) (.one (j.mono (s.trans m.ff))))⟩⟩
end
def FD(pre:Pre):Sp:=λvs H Q _=>∃(ss:List Slot)(R:Ae)(F:Hp)(A B:List Addr),pre ss R/\Sg ⟨A,F,H,B⟩ ss (vs.map some) F H/\∀v F' H',Fin ⟨A,F,H,B⟩ F' H'->R.ok ⟨A,F,H,B⟩ F' H' v->Q v H'
inductive Im (F:Hp):List V->List Slot->Prop where
 |nil:Im F [] []
 |cons {v:V}{p:PV}{vs:List V}{l:List Slot}:Rep F v p->Im F vs l->Im F (v::vs) (.is p::l)
inductive Ij (Z:L2.St) (F:Hp) (i:Nat) (t:OV):List V->List Slot->Prop where
 |here {v:V}{vs:List V}{l:List Slot}:Z[i]?=some (some v)->Im F vs l->Ij Z F i t (v::vs) (.ow true t::l)
 |there {v:V}{p:PV}{vs:List V}{l:List Slot}:Rep F v p->Ij Z F i t vs l->Ij Z F i t (v::vs) (.is p::l)
theorem Im.len:∀{vs:List V}{l:List Slot},Im F vs l->l.length=vs.length:=by
 intro vs l h
 induction h with
 |nil=>rfl
 |cons _ _ a=>rw[BJ,BJ,a]
theorem Ij.len:∀{vs:List V}{l:List Slot},Ij Z F i t vs l->l.length=vs.length:=by
 intro vs l h
 induction h with
 |here _ r=>rw[BJ,BJ,r.len]
 |there _ _ a=>rw[BJ,BJ,a]
theorem Im.at:∀{vs:List V}{l:List Slot},Im F vs l->∀{n:Nat}{s:Slot},l[n]?=some s->∃v p,vs[n]?=some v/\s=.is p/\Rep F v p:=by
 intro vs l h
 induction h with
 |nil=>intro n s e;rw[List.getElem?_nil]at e;cases e
 |cons r _ a=>
  intro n s e;cases n with
  |zero=>cases(show some _=some s from e);exact⟨_,_,rfl,rfl,r⟩
  |succ n=>exact a (n:=n) e
theorem Ij.at:∀{vs:List V}{l:List Slot},Ij Z F i t vs l->∃m:Nat,∀{n:Nat}{s:Slot},l[n]?=some s->(n=m/\s=.ow true t/\∃v,vs[n]?=some v/\Z[i]?=some (some v))∨∃v p,vs[n]?=some v/\s=.is p/\Rep F v p:=by
 intro vs l h
 induction h with
 |here e r=>
  refine⟨0,λ{n s}h=>?_⟩;cases n with
  |zero=>cases(show some _=some s from h);exact .inl ⟨rfl,rfl,_,rfl,e⟩
  |succ n=>exact .inr (r.at (n:=n) h)
 |there r _ b=>
  obtain⟨m,c⟩:=b;refine⟨m+1,λ{n s}q=>?_⟩;cases n with
  |zero=>cases(show some _=some s from q);exact .inr ⟨_,_,rfl,rfl,r⟩
  |succ n=>
   rcases c (n:=n) (s:=s) q with⟨e,es,a⟩|a
   .exact .inl ⟨sg Nat.succ e,es,a⟩
   .exact .inr a
structure Jx (E:Ent0) (ss:List Slot) (Z:L2.St) (i:Nat) (lt:Bool) (t t':OV) (F H F' H':Hp):Prop where
 st:Sg E (ss.set i (.ow lt t')) Z F' H'
 ff:AQ F F'
 hh:∀a o,DF ss Z a->a∉t.addrs->H a=some o->H' a=some o
 nn:∀a o,F' a=some o->F a=some o∨H a=none
structure cB [Xw] (ss:List Slot) (ta:TA) (k:List Slot->Prop):Prop where
 go:∀(E:Ent)(Z:L2.St)(F H:Hp)(Q:List V->Hp->Prop),Sg E ss Z F H->(∀vs l F' H',Mv E ss Z F H F' H'->Im F' vs l->k l->Q vs H')->ta Z H Q
structure Rb [Xw] (ss:List Slot) (i:Nat) (t:OV) (ta:TA) (k:List Slot->Prop):Prop where
 go:∀(E:Ent)(Z:L2.St)(F H:Hp)(Q:List V->Hp->Prop),Sg E ss Z F H->(∀vs l F' H',Mv E ss Z F H F' H'->Ij Z F' i t vs l->k l->Q vs H')->ta Z H Q
structure Wm [Xw] (ss:List Slot) (i:Nat) (lt:Bool) (t:OV) (te:TE) (k:PV->OV->Prop):Prop where
 go:∀(E:Ent)(Z:L2.St)(F H:Hp)(Q:VK),Sg E ss Z F H->(∀v p t' F' H',Jx E ss Z i lt t t' F H F' H'->Rep F' v p->k p t'->Q v H')->te Z H Q
structure RU [Xw] (ss:List Slot) (i:Nat) (lt:Bool) (t:OV) (c:TT) (k:Bool->OV->Prop):Prop where
 go:∀(E:Ent)(Z:L2.St)(F H:Hp)(Q:Bool->Hp->Prop),Sg E ss Z F H->(∀b t' F' H',Jx E ss Z i lt t t' F H F' H'->k b t'->Q b H')->c Z H Q
theorem Jx.of{lt:Bool}(hi:ss[i]?=some (.ow lt t))(m:Mv E ss Z F H F' H'):Jx E ss Z i lt t t F H F' H':=⟨by
 rw[show ss.set i (.ow lt t)=ss from by
  apply ZQ;intro n
  by_cases q:i=n
  .subst q;rw[Ca (List.getElem?_eq_some_iff.mp hi).1,hi]
  .rw[Bv q]]
 exact m.st,m.ff,λa o n _ e=>m.hh a o n e,m.nn⟩
theorem Sg.nJ{lt:Bool}(S:Sg E ss Z F H)(hi:ss[i]?=some (.ow lt t))(a:Ij Z F i t vs l):Sg ⟨[],F,H,t.addrs⟩ l (vs.map some) F H:=by
 obtain⟨w,e0,c,Lf,k⟩:=S.ok i _ hi;have nn:∀{p:Prop}(a:Addr),a∈([]:List Addr)->p:=λa h=>absurd h BF;obtain⟨m,g⟩:=a.at;refine⟨⟨S.fh,AQ.refl _,λ_ _ _ e=>e,λ_ _ e=>.inl e,λa h=>nn a h,λa h=>nn a h,λa h=>nn a h,λa h=>(k a h).1,λa h=>c.there a h,λa h=>⟨c.there a h,BF⟩⟩,by rw[AG];exact a.len,λn s f=>?_,λn j s u b OF f x ms mu=>?_⟩
 .rcases g f with⟨_,rfl,v,d,q⟩|⟨v,p,d,rfl,r⟩
  .rw[Ah,d];rw[e0]at q;cases q;exact⟨w,rfl,c,Lf,λa o=>⟨(k a o).1,.inr ⟨rfl,o⟩⟩⟩
  .rw[Ah,d];exact⟨v,rfl,r⟩
 .rcases g f with⟨e1,rfl,_⟩|⟨_,_,_,rfl,_⟩
  .rcases g x with⟨y,rfl,_⟩|⟨_,_,_,rfl,_⟩
   .exact OF (e1.trans y.symm)
   .cases mu
  .cases ms
theorem Sg.oX{lt:Bool}{I0:NK}{Cf:List OV}(S:Sg E ss Z F H)(hi:ss[i]?=some (.ow lt (.nd nk a0 us)))(f:Fin ⟨[],F,H,(OV.nd nk a0 us).addrs⟩ F' H')(r:Al F' H' (.ref a0) (.nd I0 a0 Cf))(nd:(OV.nd I0 a0 Cf).addrs.Nodup)(q:∀a∈(OV.nd I0 a0 Cf).addrs,F' a=none/\(H a=none∨a∈(OV.nd nk a0 us).addrs)):
  Jx E ss Z i lt (.nd nk a0 us) (.nd I0 a0 Cf) F H F' H':=by
 obtain⟨G,e0,I,Lf,w⟩:=S.ok i _ hi;have M:G=.ref a0:=by cases I;rfl
 subst M;have D:i<ss.length:=(List.getElem?_eq_some_iff.mp hi).1;have kp:∀a o,a∉(OV.nd nk a0 us).addrs->H a=some o->H' a=some o:=λa o n e=>f.keep a o ⟨BF,n⟩ e;have Bp:∀a,H a≠none->F a=none->F' a=none:=λa h1 h2=>by
  cases e:F' a with
  |none=>rfl
  |some o=>
   rcases f.fresh a o e with z|z
   .rw[show F a=some o from z]at h2;cases h2
   .exact absurd z h1
 have N:∀a,a∈E.A->a∉(OV.nd nk a0 us).addrs:=λa h m=>by
  rcases(w a m).2 with z|⟨_,z⟩
  .exact S.a0 a h z
  .exact(S.b0 a z).2 h
 have d:∀(j:Nat)s,j≠i->ss[j]?=some s->∀a,Bg s Z[j]? a->a∉(OV.nd nk a0 us).addrs:=λj s g t a ho m=>S.Ba j i s _ a g t hi ho m;refine⟨⟨⟨f.fh,S.f0.trans f.f0,λa o h e=>?_,λa o e=>?_,λa h=>?_,λa h=>?_,S.a0,λa v=>?_,λa v=>?_,S.b0⟩,by rw[GD];exact S.len,λj s g=>?_,λj k s u b RJ g hk ms mu=>?_⟩,f.f0,λa o _ n e=>kp a o n e,λa o e=>f.fresh a o e⟩
 .refine kp a o (λm=>?_) (S.keep a o h e);rcases(w a m).2 with z|⟨_,z⟩
  .rw[e]at z;cases z
  .exact h.2 z
 .rcases f.fresh a o e with z|z
  .exact S.fresh a o z
  .exact .inr (S.E6 z)
 .exact Bi.keep (S.Dk a h) λo e=>kp a o (N a h) e
 .obtain⟨_,_,e1,_⟩:=S.Dk a h;exact Bp a (by rw[e1];simp) (S.JZ a h)
 .exact Bp a (S.bH a v) (S.bF a v)
 .by_cases m:a∈(OV.nd nk a0 us).addrs
  .exact f.bH a m
  .intro z;cases e:H a with
   |none=>exact S.bH a v e
   |some o=>rw[kp a o m e]at z;cases z
 .by_cases c:j=i
  .subst c;rw[Ca D]at g;cases g;refine⟨.ref a0,e0,r,nd,λa y=>⟨(q a y).1,?_⟩⟩;rcases(q a y).2 with z|z
   .exact .inl (S.E6 z)
   .exact(w a z).2
  .rw[Bv (Az c)]at g
   by_cases np:s=.AD
   .subst np;obtain⟨l,e,L,K,pt⟩:=S.ok j _ g;obtain⟨_,_,e1,_⟩:=id pt;exact⟨l,e,Bp l (by rw[e1];simp) L,K,Bi.keep pt λo z=>kp l o (d j _ c g l e) z⟩
   .exact Ok.go S g f.f0 (λa o ho e=>kp a o (d j s c g a ho) e) Bp np
 .have at_:∀(n:Nat)s,(ss.set i (.ow lt (.nd I0 a0 Cf)))[n]?=some s->(n=i/\s=.ow lt (.nd I0 a0 Cf))∨(n≠i/\ss[n]?=some s):=λn s p=>by
   by_cases c:n=i
   .subst c;rw[Ca D]at p;exact .inl ⟨rfl,(BG p).symm⟩
   .rw[Bv (Az c)]at p;exact .inr ⟨c,p⟩
  have C:∀(n:Nat)s,n≠i->ss[n]?=some s->Bg s Z[n]? b->b∉(OV.nd I0 a0 Cf).addrs:=λn s p t ho m=>by
   rcases(q b m).2 with z|z
   .exact S.HX t ho z
   .exact d n s p t b ho z
  rcases at_ j s g with⟨e1,rfl⟩|⟨J,h1⟩
  .rcases at_ k u hk with⟨B,rfl⟩|⟨x,h2⟩
   .exact RJ (e1.trans B.symm)
   .exact C k u x h2 mu ms
  .rcases at_ k u hk with⟨B,rfl⟩|⟨x,h2⟩
   .exact C j s J h1 ms mu
   .exact S.Ba j k s u b RJ h1 h2 ms mu
section
variable[Xw]
variable{ta:TA}{lt:Bool}{nx:List Slot->Prop}{R:Ae}
theorem iV{k:List Slot->Prop}(h:k []):cB ss B6 k:=⟨λE Z F H Q S q=>q [] [] F H (Mv.refl S) .nil h⟩
theorem jW{k:List Slot->Prop}(hi:ss[i]?=some (.ow lt t))(h:cB ss ta λl=>k (.ow true t::l)):Rb ss i t (AZ (Aj i) ta) k:=⟨λE Z F H Q S q=>by
 obtain⟨b,e0,_⟩:=S.ok i _ hi;exact⟨_,e0,h.go E Z F H _ S λvs l F2 H2 m2 a kk=>q _ _ F2 H2 m2 (.here e0 a) kk⟩⟩
theorem Mo{k:List Slot->Prop}(h:Wp ss te λp=>Rb ss i t ta λl=>k (.is p::l)):Rb ss i t (AZ te ta) k:=⟨λE Z F H Q S q=>
 h.go E Z F H _ S λv p F1 H1 b r h2=>h2.go E Z F1 H1 _ b.st λvs l F2 H2 m2 a kk=>q _ _ F2 H2 (b.trans m2) (.there (r.mono m2.ff) a) kk⟩
theorem Mv.jQ{F1 H1 F2 H2:Hp}(hi:ss[i]?=some (.ow lt t))(a:Mv E ss Z F H F1 H1)(b:Jx E ss Z i lt t t' F1 H1 F2 H2):Jx E ss Z i lt t t' F H F2 H2:=
 ⟨b.st,a.ff.trans b.ff,λc o n z e=>b.hh c o n z (a.hh c o n e),λc o e=>(b.nn c o e).elim (λe=>a.nn c o e) λe=>.inr (a.none e)⟩
theorem de{k:PV->OV->Prop}(hi:ss[i]?=some (.ow lt (.nd nk a0 us)))(h:Rb ss i (.nd nk a0 us) ta λl=>∃k',pre l (.mt k')/\∀p t',k' p t'->∃I0 Cf,t'=.nd I0 a0 Cf/\k p t'):Wm ss i lt (.nd nk a0 us) (E7 (FD pre) [] E0 ta) k:=⟨λE Z F H Q S q=>
 h.go E Z F H _ S λvs l F1 H1 b a⟨k',e,kk⟩=>by
  rw[Gv];refine⟨l,.mt k',F1,[],(OV.nd nk a0 us).addrs,e,b.st.nJ hi a,λv F' H' f⟨p,t',r,c,nd,d,kp⟩=>?_⟩;obtain⟨I0,Cf,rfl,k2⟩:=kk p t' kp;exact q v p _ F' H' (b.jQ hi (b.st.oX hi f c nd d)) r k2⟩
theorem p6{k:Bool->OV->Prop}(h:Wm ss i lt t te λp t'=>∃c,p=.bl c/\k c t'):RU ss i lt t (tB te) k:=⟨λE Z F H Q S q=>
 h.go E Z F H _ S λv p t' F1 H1 a r AM=>by
  obtain⟨c,e,kk⟩:=AM;subst e;cases r.inv;exact⟨c,rfl,q c t' F1 H1 a kk⟩⟩
theorem pR{c d:TT}{k:Bool->OV->Prop}(hi:ss[i]?=some (.ow lt t))(h:Wt ss c λb=>if b=true then k true t else RU ss i lt t d k):RU ss i lt t (OM c d) k:=⟨λE Z F H Q S q=>
 h.go E Z F H _ S λb F1 H1 a kk=>by
  cases b with
  |false=>rw[nr (by decide)]at kk;exact kk.go E Z F1 H1 _ a.st λb t' F2 H2 m2 k2=>q b t' F2 H2 (a.jQ hi m2) k2
  |true=>rw[oM rfl]at kk;exact q true t F1 H1 (Jx.of hi a) kk⟩
theorem ZCW{c:TT}{u v:TS}(h:RU ss i lt t c λb t'=>if b=true then Ws (ss.set i (.ow lt t')) u nx R else Ws (ss.set i (.ow lt t')) v nx R):Ws ss (Mt c u v) nx R:=⟨λE D Z F H S e d=>
 h.go E Z F H _ S λb t' F1 H1 a kk=>by
  cases b with
  |true=>rw[oM rfl]at kk;exact kk.go E D Z F1 H1 a.st (λA5 σ' F' H' n S' s=>e A5 σ' F' H' n S' (a.ff.trans s)) d
  |false=>rw[nr (by decide)]at kk;exact kk.go E D Z F1 H1 a.st (λA5 σ' F' H' n S' s=>e A5 σ' F' H' n S' (a.ff.trans s)) d⟩
theorem ZCF(h:Wm ss i lt t te λ_ t'=>nx (ss.set i (.ow lt t'))):Ws ss (Iv te) nx R:=⟨λE D Z F H S b c=>
 h.go E Z F H _ S λv p t' F1 H1 a r kk=>b _ Z F1 H1 kk a.st a.ff⟩
theorem oP{k:PV->OV->Prop}(hi:ss[i]?=some (.ow lt (.nd nk a0 us)))(h:Wp ss te λp=>k p (.nd nk a0 us)):Ws ss (Hw te) nx (.mt k):=⟨λE D Z F H S l g=>
 h.go E Z F H _ S λv p F1 H1 d r kk=>by
  obtain⟨f,e0,b,Lf,c⟩:=d.st.ok i _ hi;have j:f=.ref a0:=by cases b;rfl
  subst j;exact g v F1 H1 d.st.toFin ⟨p,.nd nk a0 us,r,b,Lf,λa e=>⟨(c a e).1,(c a e).2.imp id λz=>z.2⟩,kk⟩⟩
end
theorem vf{t:TS}(h:FD pre vs H Q X)(b:∀ss R,pre ss R->ss.length=n)
  (hw:∀ss R,pre ss R->Ws (ss++List.replicate (N.length - n) .any) t (λ_=>False) R):t { nx:=λ_ H'=>Q .A8 H',rt:=Q } (L2.start N vs) H:=by
 obtain⟨ss,R,F,A,B,a,S,q⟩:=h;have e:vs.length=n:=by have:=S.len;rw[AG]at this;rw[<- this];exact b ss R a
 unfold L2.start;rw[e];exact(hw ss R a).go (VN ⟨A,F,H,B⟩) _ _ F H (S.grown _) (λA5 σ' F' H' z S' _=>z.elim) λv F' H' f ok=>q v F' H' f ok
theorem ZFh(b:∀ss R,pre ss R->ss.length=n)(h:FD pre vs H Q X):vs.length=n:=by
 obtain⟨ss,R,F,A,B,a,S,q⟩:=h;have:=S.len;rw[AG]at this;rw[<- this];exact b ss R a
theorem Sg.gk(S:Sg E ss Z F H)(d:ss[j]?=some (.ow false u)):Sg E (ss.set j (.is u.pv)) Z (FO F H u.addrs) H/\AQ F (FO F H u.addrs):=by
 obtain⟨v,e,r,nd,f⟩:=S.ok j _ d;obtain⟨S1,g⟩:=(S.drop j).lay u.addrs (λa b=>⟨(f a b).1,(f a b).2.elim id (λz=>by cases z.1),r.there a b⟩) λa b n s c m=>by
  by_cases q:n=j
  .subst q;rw[Ca (List.getElem?_eq_some_iff.mp d).1]at c;cases c;cases m
  .rw[Bv (Az q)]at c;exact S.Ba n j s _ a q c d m b
 have h:=S1.GZ (j:=j) (v:=v) (p:=u.pv) (r.rep g λa b o ho=>by unfold FO;rw[oM b];exact ho);rw[MC e,Th]at h;exact⟨h,g⟩
theorem yr{p:Slot}(c:ss[j]?=some (.ow false u))(b:p≠.AD)(a:Addr):DF ss Z a->DF (ss.set j p) Z a:=λn k hk=>by
 by_cases q:k=j
 .subst q;rw[Ca (List.getElem?_eq_some_iff.mp c).1]at hk;cases hk;exact absurd rfl b
 .rw[Bv (Az q)]at hk;exact n k hk
theorem Sg.ZAe(S:Sg E ss Z F H)(d:ss[j]?=some (.ow false u))(ff:AQ (FO F H u.addrs) F')(fh:AQ F' H'):(∀a∈u.addrs,F' a=H a/\H' a=H a/\H a≠none)/\∀a∈u.addrs,∀ws,F' a≠some (.tup ws):=by
 obtain⟨v,e,r,nd,f⟩:=S.ok j _ d;have at_:∀a∈u.addrs,F' a=H a/\H' a=H a/\H a≠none:=λa b=>by
  cases q:H a with
  |none=>exact absurd q (r.there a b)
  |some o=>
   have c:F' a=some o:=ff a o (by unfold FO;rw[oM b];exact q);exact⟨c,fh a o c,by simp⟩
 exact⟨at_,λa b ws q=>by rw[(at_ a b).1]at q;exact r.ZDd a b ws q⟩
theorem Sg.rA(S:Sg E ss Z F H)(b:ss[j]?=some (.ow false u))(m:Mv E (ss.set j (.is u.pv)) Z (FO F H u.addrs) H F' H'):Mv E ss Z F H (Ho F' u.addrs) H'/\∀a∈u.addrs,∀ws,F' a≠some (.tup ws):=by
 obtain⟨v,e,r,nd,c⟩:=S.ok j _ b;obtain⟨S2,f⟩:=S.gk b;obtain⟨at_,d⟩:=S.ZAe b m.ff m.st.fh;refine⟨S.step (λa o ea=>?_) (λa o ea=>?_) (λa o n ea=>m.hh a o (yr b (λz=>by cases z) a n) ea) (λa o ea=>?_) (λk l hk g=>?_),d⟩
 .unfold Ho;rw[nr (λq=>by rw[(c a q).1]at ea;cases ea)];exact m.ff a o (f a o ea)
 .unfold Ho at ea;split at ea
  .cases ea
  .exact m.st.fh a o ea
 .unfold Ho at ea;split at ea
  .cases ea
  .rename_i q;rcases m.nn a o ea with z|z
   .unfold FO at z;rw[nr q]at z;exact .inl z
   .exact .inr z
 .refine m.st.Fy (i:=k) ?_ g;rw[Bv (λq=>by subst q;rw[b]at hk;cases hk)];exact hk
section
variable[Xw]
variable{lt:Bool}
theorem jH{k:List PV->Prop}(j:Nat)(a:ss[j]?=some (.ow false u))(h:Wn (ss.set j (.is u.pv)) te λys=>LY ys=true/\k ys):Wn ss te k:=⟨λE Z F H Q S q=>by
 obtain⟨S2,f⟩:=S.gk a;refine h.go E Z _ H Q S2 λl2 HC ys F' H' m e h2 HU b⟨d,kk⟩=>?_;obtain⟨M,c⟩:=S.rA a m;exact q l2 HC ys _ H' M (by unfold Ho;split <;> first|rfl|exact e) h2 HU (b.sub c d) kk⟩
end
end Fz
namespace L2
section
variable{X:Cx}{o i value:Expr}{td ty tv:TE}{pos pos':Pos}
theorem qp(f:X.A.units+1<cLine)(ho:QE X o td)(hi:QE X i ty)(j:Ot i):QE X (.Subscript o i pos) (VG td ty):=⟨by
 have ho:=ho.h;have hi:=hi.h;intro ZB s Z H Q I h;refine j5 PySem.F.slot_dict_getitem.lookup j (ho.k I h λu s1 x H1 I1 c e=>hi.k I1 e λn s2 y H2 I2 b⟨a,v,ex,g,d⟩=>?_);subst ex;obtain rfl:u=Value.ref a:=c;exact⟨qE I2 g,wH f I2 g b λl m I3 G1=>⟨v,H2,I3,G1,d⟩⟩⟩
theorem ao(m:X.A.units+1<cLine)(ho:QE X o td)(hi:QE X i ty)(b:QE X value tv)(n:swapsWith value (some (.Subscript o i pos')) pos.line X.env=pure false:=by rfl):
  QS X (.Assign [.Subscript o i pos'] value pos) (Sh td ty tv):=⟨by
 have ho:=ho.h;have hi:=hi.h;have b:=b.h;intro ZB s Z H D I h;refine wpAny_Assign_Subscript (b.k I h λr s1 v H1 I1 e l=>ho.k I1 l λu s2 x H2 I2 d j=>hi.k I2 j λq p y H3 I3 c⟨a,H4,ex,g,f⟩=>?_) n;subst ex;obtain rfl:u=Value.ref a:=d;exact ZAP m I3 g c e λs4 I4=>⟨Z,H4,I4,f⟩⟩
theorem X0:QE X (.Dict [] [] pos) RT:=⟨λZB s Z H Q I h=>
 wpAny_Dict_empty ⟨.ref s.heap.objs.size,_,I.laid (a:=s.heap.objs.size) (o:=.dK []) (t':=s.toks) (λ_ _ q=>Ao _ q) (Aa _) (ZCe s.heap I.big),rfl,h _ (I.AB.fresh (Aa _))⟩⟩
end
end L2
namespace Fz
open L2 Lw
variable{F:Hp}{ss:List Slot}{td tv ty:TE}{nx:List Slot->Prop}{R:Ae}{i:Nat}{ks:List Key}{Bx vs:List V}{t u:OV}{a:Addr}{us:List OV}{m p:List Nat}{f:Str}
noncomputable def P8:Key->PV
 | .inl i=>.int i
 | .inr x=>.str x
noncomputable def Mg:List Key->List PV->Key->Option PV
 |k'::ks,x::xs,k=>if k'=k then some x else Mg ks xs k
 |_,_,_=>none
def HR(ks:List Key)(k:Key):Bool:=ks.any λk'=>decide (k'=k)
def Jt(ks:List Key)(k:Key):List Key:=if HR ks k=true then ks else ks++[k]
theorem S9{v:V}{k:Key}(r:Rep F v (P8 k)):v=kV k:=by
 cases k with
 |inl i=>cases r.inv;rfl
 |inr x=>cases r.inv;rfl
theorem ZAx{k:Key}{y:PV}:∀{ks:List Key}{vs:List V}{xs:List PV},AN F vs xs->ks.length=vs.length->Mg ks xs k=some y->∃v,CM (ks.zip vs) k=some v/\Rep F v y:=by
 intro ks
 induction ks with
 |nil=>intro vs xs _ _ h;cases h
 |cons k' ks d=>
  intro vs xs r e h;cases xs with
  |nil=>cases h
  |cons x xs=>
   obtain⟨v,ws,rfl,a,b⟩:=r.inv;have h:(if k'=k then some x else Mg ks xs k)=some y:=h
   rw[Za]
   by_cases c:k'=k
   .rw[oM c]at h;cases h;exact⟨v,M0 c,a⟩
   .rw[nr c]at h;obtain⟨w,h1,h2⟩:=d b (KP e) h;exact⟨w,by rw[L6 c];exact h1,h2⟩
section
variable[Xw]
variable{k:PV->Prop}{lt:Bool}
theorem oZ(h:Wp ss td λp=>∃ks xs,p=.B2 ks xs/\Wp ss ty λq=>∃key y,q=P8 key/\Mg ks xs key=some y/\k y):Wp ss (VG td ty) k:=⟨λE Z F H Q S q=>
 h.go E Z F H _ S λv p F1 H1 b f⟨ks,xs,e,h2⟩=>h2.go E Z F1 H1 _ b.st λv2 p2 F2 H2 m2 d⟨key,y,l,g,kk⟩=>by
  subst e;subst l;have m:=f.mono m2.ff;cases m with
  |B2 j i c=>
   obtain⟨w,hw,a⟩:=ZAx c i g;refine⟨_,w,rfl,?_,q w y F2 H2 (b.trans m2) a kk⟩;rw[<- hw,S9 d];exact Hk.k (m2.st.fh _ _ j)⟩
theorem aM{k:List Nat->OV->Prop}(h:∀a,k [] (.nd (.B2 []) a (([]:List PV).map .fz))):Wx ss RT k:=⟨λE Z F H Q S q p b=>by
 have m:=S.make b (.dK []);refine q _ [] (.nd (.B2 []) p (([]:List PV).map .fz)) F _ m (.nd (k:=.B2 []) (vs:=[]) AV trivial rfl .nil) (by rw[OV.EI];simp[NK.more,OV.KY]) (λa c=>?_) (h p);rw[OV.EI]at c;have e:a=p:=by simpa[NK.more,OV.KY]using c
 subst e;exact⟨S.Bp b,S.E6 b,.inr b⟩⟩
theorem Xf:∀{ks:List Key}{vs:List V}{key:Key},ks.length=vs.length->(ks.zip vs).any (λkv=>decide (kv.1=key))=HR ks key
 | [],vs,key,h=>rfl
 |k'::ks,w::vs,key,h=>by
  rw[Za,NI,Xf (by simpa using h)]
  rfl
 |_::_,[],_,h=>by simp at h
noncomputable def HS:List Key->List V->Key->V->List V
 |k'::ks,x::xs,k,p=>(if k'=k then p else x)::HS ks xs k p
 |_,xs,_,_=>xs
theorem kU:∀{ks:List Key}{vs:List V}{key:Key}{v:V},(ks.zip vs).map (λkv=>if kv.1=key then(kv.1,v)else kv)=ks.zip (HS ks vs key v)
 | [],vs,key,v=>by simp
 |k'::ks,w::vs,key,v=>by
  rw[Za,D4,kU,HS,Za]
  by_cases c:k'=key
  .rw[oM c,oM c]
  .rw[nr c,nr c]
 |_::_,[],_,_=>by simp[HS]
end
noncomputable def G8:List Key->Key->Option Nat
 | [],_=>none
 |k'::ks,k=>if k'=k then some 0 else(G8 ks k).map (· + 1)
theorem jw:∀{ks:List Key}{key:Key}{n:Nat},G8 ks key=some n->ks[n]?=some key
 | [],_,_,h=>by cases h
 |k'::ks,key,n,h=>by
  rw[G8]at h
  by_cases c:k'=key
  .rw[oM c]at h;cases h;subst c;rfl
  .rw[nr c]at h;cases e:G8 ks key with
   |none=>rw[e]at h;cases h
   |some m=>rw[e]at h;cases h;exact jw (ks:=ks) e
theorem QP:∀{ks:List Key}{key:Key},(G8 ks key).isSome=HR ks key
 | [],_=>rfl
 |k'::ks,key=>by
  rw[G8];unfold HR;rw[NI]
  by_cases c:k'=key
  .rw[oM c,oW c];rfl
  .rw[nr c,sX c,ZK,Zj,QP];rfl
theorem j6{key:Key}(a:ks.length=vs.length):(CM (ks.zip vs) key).isSome=HR ks key:=by
 rw[<- Xa,Xf a]
theorem ku:∀{ks:List Key}{vs:List V}{key:Key}{n:Nat}{v:V},ks.Nodup->G8 ks key=some n->HS ks vs key v=vs.set n v
 | [],_,_,_,_,_,h=>by cases h
 |k'::ks,[],key,n,v,_,h=>by rw[HS];simp;simp
 |k'::ks,w::vs,key,n,v,nd,h=>by
  rw[G8]at h;obtain⟨f,d⟩:=List.nodup_cons.mp nd;rw[HS]
  by_cases c:k'=key
  .rw[oM c]at h;cases h;rw[oM c,mL]
   congr 1
   subst c;have a:∀{ks:List Key}{vs:List V},k'∉ks->HS ks vs k' v=vs:=by
    intro ks
    induction ks with
    |nil=>intro vs _;rw[HS];simp
    |cons k2 ks g=>
     intro vs b;cases vs with
     |nil=>rw[HS];simp
     |cons u vs=>
      rw[HS,nr (λz=>b (by rw[z];simp)),g (λz=>b (by simp[z]))]
   exact a f
  .rw[nr c]at h;cases e:G8 ks key with
   |none=>rw[e]at h;cases h
   |some m=>
    rw[e]at h;cases h;rw[nr c,Tg,ku d e]
section
variable[Xw]
variable{ta:TE}{k:PV->Prop}
theorem dB(h:Wp ss ty λq=>Wl ss i t td λ_ u=>∃ks a us key,u=.nd (.B2 ks) a us/\q=P8 key/\k (.bl (!HR ks key))):Wp ss (T7 ty td) k:=⟨λE Z F H Q S q=>
 h.go E Z F H _ S λv p F1 H1 b d h2=>h2.go E Z F1 H1 _ b.st λv2 p2 u F2 H2 m2 c By AM=>by
  obtain⟨ks,a,us,key,g,eq,kk⟩:=AM;subst g;subst eq;obtain⟨vs,rfl,e,j,f,l⟩:=c.inv;refine⟨a,CM (ks.zip vs) key,rfl,by rw[S9 d];exact Hk.k e,?_⟩;rw[j6 f];exact q _ _ F2 H2 (b.trans m2) (.bl _) kk⟩
theorem ZAb(h:Wp ss ty λq=>Wp ss td λu=>∃ks xs key,u=.B2 ks xs/\q=P8 key/\k (.bl (!HR ks key))):Wp ss (T7 ty td) k:=⟨λE Z F H Q S q=>
 h.go E Z F H _ S λv p F1 H1 b d h2=>h2.go E Z F1 H1 _ b.st λv2 u F2 H2 m2 c AM=>by
  obtain⟨ks,xs,key,f,eq,kk⟩:=AM;subst f;subst eq;cases c with
  |@B2 a _ vs _ g e i=>
   refine⟨a,CM (ks.zip vs) key,rfl,by rw[S9 d];exact Hk.k (m2.st.fh _ _ g),?_⟩;rw[j6 e];exact q _ _ F2 H2 (b.trans m2) (.bl _) kk⟩
theorem Mm:(OV.nd (.B2 ks) a us).addrs=a::OV.B3 us:=by rw[OV.EI];rfl
theorem vq{lt:Bool}:∀(m:List Nat)(ss:List Slot),ss[i]?=some (.ow lt t)->i∉m->(Fz.ED m ss)[i]?=some (.ow lt t):=by
 intro m
 induction m with
 |nil=>intro ss h _;exact h
 |cons j m b=>
  intro ss h a;refine b _ ?_ λz=>a (by simp[z]);rw[Bv (by rintro rfl;exact a (by simp))];exact h
theorem Sg.rE{lt:Bool}{E:Ent0}{Z:L2.St}{F0 H0 H:Hp}{Cm:List Key}{Cf:List OV}(S0:Sg E ss Z F0 H0)(S:Sg E ss Z F H)(hi:ss[i]?=some (.ow lt t))(By:t.at p=some (.nd (.B2 ks) a us))
  (d:∀a∈u.addrs,F a=none/\E.H0 a=none/\((∃i∈m,∃s,s≠Slot.AD/\ss[i]?=some s/\Bg s Z[i]? a)∨H0 a=none)) (K5:i∉m)
  (A:BW F H Bx Cf) (B:Cm.length=Bx.length) (Xx:(OV.B3 Cf).Nodup) (LW:∀b∈OV.B3 Cf,b∈OV.B3 us∨b∈u.addrs):Sg E ((Fz.ED m ss).set i (.ow lt (t.put p (.nd (.B2 Cm) a Cf)))) Z F (upd H a (.dK (Cm.zip Bx))):=by
 have G:=vq m ss hi K5;obtain⟨v,e,r,nd,q⟩:=S.ok i _ hi;have n:∀b,b∈a::OV.B3 us->b∈t.addrs:=λb c=>OV.Rj By b (by rw[Mm];exact c);have D:∀b∈u.addrs,b∉t.addrs:=λb c z=>by
  rcases(d b c).2.2 with⟨j,C,s,_,f,o⟩|w
  .exact S.Ba j i s _ b (by rintro rfl;exact K5 C) f hi o z
  .exact S0.HX hi z w
 have h:(OV.nd (.B2 ks) a us).addrs.Nodup:=by
  obtain⟨l,I,e1,_⟩:=OV.split By;rw[e1,Fh,Fh]at nd;exact nd.1.2.1
 rw[Mm]at h;have g:∀b∈OV.B3 Cf,b≠a:=λb c z=>by
  subst z;rcases LW b c with w|w
  .exact(List.nodup_cons.mp h).1 w
  .exact D b w (n b (by simp))
 refine(S.ED m).du G By (.nd (k:=.B2 Cm) AV trivial B (A.mono (AQ.refl _) λb c o ho=>by rw[AK (g b c)];exact ho)) (by rw[Mm];exact List.nodup_cons.mpr ⟨λz=>g a z rfl,Xx⟩) λb c=>?_;rw[Mm]at c ⊢;rcases List.mem_cons.mp c with w|w
 .exact .inl (by simp[w])
 .rcases LW b w with z|z
  .exact .inl (by simp[z])
  .refine .inr ⟨(d b z).1,(d b z).2.1,λj s f o=>?_⟩;rcases SW f with y|⟨GV,hm⟩
   .subst y;cases o
   .rcases(d b z).2.2 with⟨i2,FH,s2,_,Eo,x⟩|y
    .exact S.Ba j i2 s s2 b (by rintro rfl;exact hm FH) GV Eo o x
    .exact S0.HX GV o y
def Iz(ks:List Key)(us:List OV)(key:Key)(w:OV):List OV:=match G8 ks key with
 |some n=>us.set n w
 |none=>us++[w]
theorem eh(h:Wx ss tv λm w=>Wl ss i t td λp u=>∃lt a ks us,ss[i]?=some (.ow lt t)/\u=.nd (.B2 ks) a us/\us.length<=99999/\ks.Nodup/\i∉m/\Wp ss ty λq=>∃key,q=P8 key/\nx ((Fz.ED m ss).set i (.ow lt (t.put p (.nd (.B2 (Jt ks key)) a (Iz ks us key w)))))):Ws ss (Sh td ty tv) nx R:=⟨λE D Z F H S hn hr=>
 h.go E Z F H _ S λv m w F1 H1 Q O U a1 h2=>h2.go E Z F1 H1 _ Q.st λv2 p u F2 H2 m2 N By z=>by
  obtain⟨lt,a,ks,us,hi,rfl,hz,hk,K5,h3⟩:=z;refine h3.go E Z F2 H2 _ m2.st λv3 q F3 H3 B r3 z=>?_;obtain⟨key,rfl,kk⟩:=z;have ev:v2=.ref a:=N.inv.elim λ_ h=>h.1;subst ev;have G:=m2.trans B;have np:∀b∈w.addrs,DF ss Z b:=λb d k hk W=>by
   rcases(a1 b d).2.2 with⟨j,T,s,J,JP,o⟩|z
   .exact S.Ba j k s _ b (λe=>by subst e;rw[JP]at hk;exact J (BG hk)) JP hk o W
   .exact S.HX hk W z
  have σ:Al F3 H3 v w:=O.mono G.ff λb d o e=>G.hh b o (np b d) e;have vU:∀b∈w.addrs,F3 b=none/\E.H0 b=none/\((∃i∈m,∃s,s≠Slot.AD/\ss[i]?=some s/\Bg s Z[i]? b)∨H b=none):=λb d=>by
   refine⟨?_,(a1 b d).2⟩;cases e:F3 b with
   |none=>rfl
   |some o=>
    rcases G.nn b o e with z|z
    .rw[(a1 b d).1]at z;cases z
    .exact absurd z (O.there b d)
  have r4:=N.mv m2.st ⟨lt,hi⟩ By B;cases r4 with
  |@nd _ _ vs _ ha sd ft A=>
   have C:ks.length=vs.length:=ft;have vl:=A.length;have I:(ks.zip vs).length<=99999:=by rw[List.length_zip];omega
   refine⟨a,_,rfl,by rw[S9 r3];exact PX.k ha (N4 I),?_⟩;obtain⟨v0,e0,r0,Lf,q0⟩:=B.st.ok i _ hi;have M:(OV.nd (.B2 ks) a us).addrs.Nodup:=by
    obtain⟨l,A,e1,_⟩:=OV.split By;rw[e1,Fh,Fh]at Lf;exact Lf.1.2.1
   rw[Mm]at M;have f:∀b∈w.addrs,b∉OV.B3 us:=λb d z=>by
    have Y:b∈t.addrs:=OV.Rj By b (by rw[Mm];simp[z]);rcases(a1 b d).2.2 with⟨j,T,s,_,J,o⟩|y
    .exact S.Ba j i s _ b (by rintro rfl;exact K5 T) J hi o Y
    .exact S.HX hi Y y
   obtain⟨Bx,ep,L,rb,Kc,sb⟩:∃Bx:List V,putK (ks.zip vs) key v=(Jt ks key).zip Bx/\(Jt ks key).length=Bx.length/\BW F3 H3 Bx (Iz ks us key w)/\(OV.B3 (Iz ks us key w)).Nodup/\∀b∈OV.B3 (Iz ks us key w),b∈OV.B3 us∨b∈w.addrs:=by
    unfold putK Jt Iz;rw[Xf C];cases e:G8 ks key with
    |some n=>
     have c:HR ks key=true:=by rw[<- QP,e];rfl
     have K:n<us.length:=by
      have:=(List.getElem?_eq_some_iff.mp (jw e)).1;omega
     obtain⟨l,r,e1,X⟩:=Kk (Au K);rw[oM c,oM c,kU,ku hk e];refine⟨vs.set n v,rfl,by rw[GD];exact C,A.set n σ,?_,λb d=>?_⟩
     .show(OV.B3 (us.set n w)).Nodup;rw[X];have P:=(List.nodup_cons.mp M).2;rw[e1]at P;exact jU P U λb d=>.inr (by rw[<- e1];exact f b d)
     .have g:b∈OV.B3 (us.set n w):=d;rw[X]at g;rcases List.mem_append.mp g with z|z
      .rcases List.mem_append.mp z with z|z
       .exact .inl (by rw[e1];simp[z])
       .exact .inr z
      .exact .inl (by rw[e1];simp[z])
    |none=>
     have c:¬ HR ks key=true:=by rw[<- QP,e];decide
     rw[nr c,nr c];refine⟨vs++[v],by rw[List.zip_append C];rfl,by rw[BI,BI,C];rfl,A.append (.one σ),?_,λb d=>?_⟩
     .show(OV.B3 (us++[w])).Nodup;rw[Yx,l6,Fh];exact⟨(List.nodup_cons.mp M).2,U,λx hx y hy e=>f y hy (e▸hx)⟩
     .have g:b∈OV.B3 (us++[w]):=d;rw[Yx,l6]at g;exact List.mem_append.mp g
   rw[ep];exact hn _ Z F3 _ kk (Sg.rE (u:=w) S B.st hi By vU K5 rb L Kc sb) (Q.ff.trans G.ff)⟩
variable{K:ZHy}
end
end Fz
namespace L2
variable{o:Obj}{es:Array (Int×Value)}{C a:Addr}{ep i j n:Nat}{t:SetTable}{xs:Array Nat}
def Ci(xs:Array Nat):Prop:=xs.toList.Pairwise (· < ·)
theorem Ci.get{xs:Array Nat}(a:Ci xs){i j:Nat}(BV:i<j)(h:j<xs.size):xs[i]'(by omega)<xs[j]:=by
 have q:=List.pairwise_iff_getElem.mp a i j (by rw[Cj];omega) (by rw[Cj];omega) BV
 simpa using q
theorem zV(xs:Array Nat)(g:Ci xs)(j:Nat):∀(f lo hi:Nat),lo<=hi->hi<=xs.size->hi - lo<=f->(∀i,i<lo->(h:i<xs.size)->xs[i]<j)->(∀i,hi<=i->(h:i<xs.size)->j<=xs[i])->
  SetTable.below.go xs j f lo hi<=xs.size/\(∀i,i<SetTable.below.go xs j f lo hi->(h:i<xs.size)->xs[i]<j)/\∀i,SetTable.below.go xs j f lo hi<=i->(h:i<xs.size)->j<=xs[i]:=by
 intro f
 induction f with
 |zero=>
  intro lo hi h1 h2 m c b;have e:lo=hi:=by omega
  subst e;exact⟨h2,c,b⟩
 |succ f d=>
  intro lo hi h1 h2 m c b;unfold SetTable.below.go
  by_cases l:lo<hi
  .rw[oM l];have k:(lo+hi) / 2<xs.size:=by omega
   have n:xs.getD ((lo+hi) / 2) j=xs[(lo+hi) / 2]:=by simp[Array.getD,k]
   dsimp only;rw[n]
   by_cases a:xs[(lo+hi) / 2]<j
   .rw[oM a];refine d _ _ (by omega) h2 (by omega) (λi C2 h=>?_) b
    by_cases e:i=(lo+hi) / 2
    .subst e;exact a
    .exact Tj (g.get (by omega) k) a
   .rw[nr a];refine d _ _ (by omega) (by omega) (by omega) c (λi C2 h=>?_)
    by_cases e:i=(lo+hi) / 2
    .subst e;omega
    .exact JF (Gx (Zc a) (g.get (by omega) h))
  .rw[nr l];have e:lo=hi:=by omega
   subst e;exact⟨h2,c,b⟩
theorem Sx(a:Ci xs)(j:Nat):SetTable.below xs j<=xs.size/\(∀i,i<SetTable.below xs j->(h:i<xs.size)->xs[i]<j)/\∀i,SetTable.below xs j<=i->(h:i<xs.size)->j<=xs[i]:=
 zV xs a j _ _ _ (CJ _) (Aa _) (by omega) (λi h=>by omega) (λi h h'=>by omega)
theorem rJ(a:Ci xs):SetTable.below xs 0=0:=by
 obtain⟨h1,h2,b⟩:=Sx a 0
 by_cases z:SetTable.below xs 0=0
 .exact z
 .have:=h2 0 (by omega) (by omega);omega
theorem ZBe(c:Ci xs)(hi:i<xs.size):SetTable.below xs (xs[i]+1)=i+1:=by
 obtain⟨h1,h2,d⟩:=Sx c (xs[i]+1);have a:i<SetTable.below xs (xs[i]+1):=by
  rcases Nat.lt_or_ge i (SetTable.below xs (xs[i]+1))with h|h
  .exact h
  .have:=d i h hi;omega
 have b:¬ i+1<SetTable.below xs (xs[i]+1):=by
  intro h;have q:=h2 (i+1) h (by omega);have r:=c.get (i:=i) (j:=i+1) (by omega) (by omega);omega
 omega
theorem ZE3{α:Type}(xs:Array α)(p:Nat)(x:α)(a:p<=xs.size):(SetTable.insertAt xs p x).toList=xs.toList.take p++x::xs.toList.drop p:=by
 unfold SetTable.insertAt;simp[NN]
theorem Ci.insert(f:Ci xs)(l:j∉xs.toList):Ci (SetTable.insertAt xs (SetTable.below xs j) j):=by
 obtain⟨h1,h2,k⟩:=Sx f j;unfold Ci;rw[ZE3 _ _ _ h1,List.pairwise_append];refine⟨m7 (ZGu _ _) f,List.pairwise_cons.mpr ⟨λa d=>?_,m7 (List.drop_sublist _ _) f⟩,λa d b g=>?_⟩
 .obtain⟨i,hi,e⟩:=List.mem_iff_getElem.mp d;rw[ZGh]at e;have h:SetTable.below xs j+i<xs.size:=by rw[IM,Cj]at hi;omega
  have q:=k _ (Pm _ _) h;have c:xs[SetTable.below xs j+i]=a:=by simpa using e
  rw[c]at q;have:a≠j:=λz=>l (z▸mI d);omega
 .have m:a<j:=by
   obtain⟨i,hi,e⟩:=List.mem_iff_getElem.mp d;rw[List.getElem_take]at e;rw[Fg,Cj]at hi;have q:=h2 i (by omega) (by omega);have c:xs[i]=a:=by simpa using e
   rw[c]at q;exact q
  rcases List.mem_cons.mp g with rfl|g
  .exact m
  .obtain⟨i,hi,e⟩:=List.mem_iff_getElem.mp g;rw[ZGh]at e;have h:SetTable.below xs j+i<xs.size:=by rw[IM,Cj]at hi;omega
   have q:=k _ (Pm _ _) h;have c:xs[SetTable.below xs j+i]=b:=by simpa using e
   rw[c]at q;omega
theorem iD(a:Ci t.place)(h:∀i,t.slot j≠.live i):j∉t.place.toList:=by
 intro b;obtain⟨i,hi,e⟩:=List.mem_iff_getElem.mp b;rw[Cj]at hi;have f:t.place[i]=j:=by simpa using e
 obtain⟨h1,h2,d⟩:=Sx a j;have c:SetTable.below t.place j=i:=by
  rcases mP i (SetTable.below t.place j)with z|z|z
  .have:=h2 i z hi;omega
  .exact z.symm
  .have q:=d _ (Aa _) (by omega);have r:=a.get z hi;omega
 refine h (SetTable.below t.place j) ?_;unfold SetTable.slot;dsimp only;rw[oM (by rw[c,IK hi,f];simp)]
theorem oG(t:SetTable)(g:Nat->Int)(h:Int):∀(f:Nat)(p:SetTable.Probe)(j:Nat)(d:Option Nat),(∀d',p.dummy=some d'->∀i,t.slot d'≠.live i)->SetTable.probe.go t g h f p=some (.empty j d)->
  (∀i,t.slot j≠.live i)/\∀d',d=some d'->∀i,t.slot d'≠.live i:=by
 intro f
 induction f with
 |zero=>intro p j d _ e;simp[SetTable.probe.go]at e
 |succ f b=>
  intro p j d hd e;have c:∀q:SetTable.Probe,(t.advance q).dummy=q.dummy:=by
   intro q;unfold SetTable.advance;split <;> rfl
  unfold SetTable.probe.go at e;split at e
  .next GV=>
   simp only[Pq,SetTable.Met.empty.injEq]at e;obtain⟨e1,k⟩:=e;subst e1;subst k;exact⟨λi z=>(by rw[GV]at z;cases z),hd⟩
  .next GV=>
   refine b _ j d (λd' a i=>?_) e;rw[c]at a;cases a;rw[GV];intro z;cases z
  .split at e
   .simp at e
   .refine b _ j d (λd' a i=>?_) e;rw[c]at a;exact hd d' a i
theorem ZF0(a:Ci t.place){h:Int}{b:Bool}(e:t.freeSlot h=some (j,b)):j∉t.place.toList:=by
 unfold SetTable.freeSlot at e;split at e
 .next j0 d hp=>
  unfold SetTable.probe at hp;obtain⟨h1,h2⟩:=oG t _ h _ _ j0 d (λd' z=>by simp[SetTable.probeStart]at z) hp;simp only[Pq,Prod.mk.injEq]at e;obtain⟨e1,_⟩:=e;subst e1;cases d with
  |none=>exact iD a h1
  |some d=>exact iD a (h2 d rfl)
 .simp at e
theorem RS(n:Nat):Ci (Array.range n):=by
 unfold Ci;rw[Array.toList_range];exact ZGp
theorem ZAZ(h:Ci t.place):Ci (t.orStandIn n).place:=by
 unfold SetTable.orStandIn;split
 .exact h
 .exact RS n
theorem fG(a:Ci t.place)(es:Array (Int×Value))(h:Int)(x:Value):Ci (layNew t es h x).2.1.place:=by
 unfold layNew;split
 .next j b e=>
  refine ZAZ ?_;exact a.insert (ZF0 a e)
 .exact RS _
theorem t7(es:Array (Int×Value))(n:Nat):Ci (relayAll t es n).2.1.place:=by
 unfold relayAll;split
 .next t' order hr=>
  dsimp only;split
  .unfold SetTable.relaid SetTable.laid at hr;generalize SetTable.layClean _ _=lc at hr;cases lc with
   |none=>simp at hr
   |some ow=>
    simp only[Option.bind_eq_bind,Tp,Option.pure_def,Pq,Prod.mk.injEq]at hr;obtain⟨rfl,_⟩:=hr;unfold Ci;simp only;rw[ZY,List.pairwise_filterMap];refine ZGW ?_ (ZGp (n:=SetTable.sizeAbove n - 1+1));intro a b Bu u d v c;cases f:ow.getD a none with
    |none=>rw[f]at d;simp at d
    |some h=>
     rw[f]at d;cases e:ow.getD b none with
     |none=>rw[e]at c;simp at c
     |some g=>
      rw[e]at c;simp only[Ln,Pq]at d c;subst d;subst c;exact Bu
  .exact RS _
 .exact RS _
section
variable{prog:Program}{w:World}{A:Around}{E:Value->Shared->Prop}{s:Shared}
theorem fb{sl:Nat}{Q:Option (Value×Nat)->Shared->Prop}(d:BY w=false)(ho:s.heap.get? a=some o)(hd:o.data=.set es ep t)(c:t.fits es.size=true)
  (h1:(!t.plain && decide (es.size > 1))=false) (b:t.led=true)
  (h:Q (match es[SetTable.below t.place sl]?,t.place[SetTable.below t.place sl]? with|some (_,x),some j=>some (x,j+1)|_,_=>none) s):wpAny (model prog w) A (setNext a sl i ep) Q E s:=by
 have e:w.params.followText "set-order"=false:=d;unfold setNext;refine dP (rX ho hd c ?_);dsimp only;unfold setsByText;refine dP (dP (u9 (nW ?_)));show wpAny _ _ (if w.params.followText "set-order"=true then _ else _) _ _ _
 rw[nr (by rw[e];decide)];show wpAny _ _ (if(!t.plain && decide (es.size > 1))=true then _ else _) _ _ _
 rw[nr (by rw[h1];decide)];refine dP (m:=_) ?_
 wp_delta
 rw[b];exact nW (nW h)
noncomputable def P1(t:SetTable)(i:Nat):Nat:=if i=0 then 0 else t.place.getD (i - 1) 0+1
theorem aU(a:Ci t.place)(hi:i<=t.place.size):SetTable.below t.place (P1 t i)=i:=by
 unfold P1;split
 .next z=>subst z;exact rJ a
 .next z=>
  have h1:i - 1<t.place.size:=by omega
  have e:t.place.getD (i - 1) 0=t.place[i - 1]:=by simp[Array.getD,h1]
  rw[e,ZBe a h1];omega
theorem xC(a:BY w=false)(hh:A.handled=none)(I S:Addr)(Ab:S≠I)(hd:o.data=.set es ep t)(c:t.fits es.size=true)(h1:(!t.plain && decide (es.size > 1))=false)(m:t.led=true)(l:Ci t.place):
  Walks prog w A I [I,S] [I] es.size (λi v=>(es.toList.map (·.2))[i]?=some v) (λi h=>ES h I (rawInt ((P1 t i:Nat):Int)) i S es.size ep/\h.get? S=some o) where
 sub:=λb a=>by simp at a;simp[a]
 frame:=λ_ _ _ x hk=>⟨x.1.at λo e=>hk I (by simp) o e,hk S (by simp) _ x.2⟩
 item:=λi s Q E hi x d=>by
  have n:t.place.size=es.size:=P7 c;have f:i<t.place.size:=by omega
  have g:=x.1;refine YG (x:=es[i].2) (nx:=t.place[i]+1) g x.2 hd c rfl (λA1 E1 Q1 q=>fb a x.2 hd c h1 m (by rw[aU l (JF f),IK hi,IK f];exact q)) λh' LQ k=>?_;refine d _ h' s.toks (by rw[Ah,TU,IK hi];rfl) ⟨?_,k.extBut S o Ab x.2⟩ λb ob a j=>k.extBut b ob (λh=>a (by simp[h])) j;have e:P1 t (i+1)=t.place[i]+1:=by
   unfold P1;rw[nr (by omega)];simp[Array.getD,f]
  rw[e];exact LQ
 done:=λs Q E x d=>by
  have n:t.place.size=es.size:=P7 c;refine Tz hh x.1 x.2 hd c rfl (λA1 E1 Q1 q=>fb a x.2 hd c h1 m ?_) λh' p=>?_
  .rw[aU l (by omega),ZI (by omega)];exact q
  .exact d h' s.toks λb ob a j=>p b ob (λh=>a (by simp[h])) j
 self:=λ_ _ _ _ x d=>TL x.1 d
end
theorem ZAG(b:Bool):Ci (SetTable.fresh 0 0 b).place:=List.Pairwise.nil
noncomputable def gI:GK sI where
 gM:=.int
 TC:=id
 UH:=λ_ t=>⟨t,rfl⟩
 gK:=PySem.intKind
 Pz:=λ_ _ k t=>by simp[PySem.intKind,Value.isInt]
 Vd:=Value.isInt_shape
 Xy:=λ_ _=>rfl
 Ld:=λ_ t=>Ci t.place
 J9:=λt=>Ci t.place
 gZ:=ZAG
 Vq:=id
 SD:=λes h k tk r=>⟨fG r es h _,λ_=>fG r es h _⟩
 VT:=λes n _=>t7 es n
 W0:=λf I S Ab _ _ _ _ hd e h1 d c=>⟨_,λA hh=>xC f hh I S Ab hd e h1 d c,λh a b=>⟨a,b⟩⟩
noncomputable abbrev xV:=Nr gI
end L2
set_option maxHeartbeats 200000
namespace L2
section
variable{prog:Program}{w:World}{A:Around}{E:Value->Shared->Prop}{s:Shared}
theorem OG{v:Value}{Q:Bool->Shared->Prop}(a:s.TypeIs v "set")(h:Q true s):wpAny (model prog w) A (Builtin.Frozenset.isAnySet v) Q E s:=by
 unfold Builtin.Frozenset.isAnySet;refine dP (zi (b:=true) a (by rw[yC];kernel_rfl) ?_);exact nW h
theorem jR{a:Addr}{o:Obj}{es:Array (Int×Value)}{ep:Nat}{t:SetTable}{Q:Array (Int×Value)->Shared->Prop}(ho:s.heap.get? a=some o)(hd:o.data=.set es ep t)(c:t.fits es.size=true)(Cd:t.led=!BY w)(MI:BY w=false->(!t.plain && decide (es.size > 1))=false)
  (h:∀BP:Array (Int×Value),BP.toList.Perm es.toList->Q BP s):wpAny (model prog w) A (setWalk a) Q E s:=by
 unfold setWalk setsByText;refine dP (rX ho hd c ?_);dsimp only;refine dP (dP (u9 (nW ?_)));show wpAny _ _ (if BY w=true then _ else _) _ _ _
 cases b:BY w with
 |true=>
  rw[oM rfl];exact dP (u9 (nW (h _ (Rx _ _))))
 |false=>
  rw[nr (by decide)];show wpAny _ _ (if(!t.plain && decide (es.size > 1))=true then _ else _) _ _ _
  rw[nr (by rw[MI b];decide)];refine dP (m:=_) ?_
  wp_delta
  rw[Cd,b];exact nW (nW (h es (IL _)))
theorem ZCa:entryFor table "set.__sub__"=some Builtin.«frozenset.__sub__»:=
 ZBh (id' := "frozenset.__sub__") (by kernel_rfl) (by first|rfl|decide +kernel|(unfold String.splitOn;simp +decide [String.splitOnAux])) (by decide +kernel) (by kernel_rfl)
end
end L2
set_option maxHeartbeats 4000000
namespace L2
variable{X:Cx}
abbrev d7:=W5 gI
theorem gU(a:X.calm=true):Bo X (.builtin "sorted") (d7 X.prog X.w):=aA a
abbrev iO:=MM gI
theorem dM(a:X.calm=true):Bo X (.type "set") (iO X.K X.prog X.w):=kJ a
end L2
namespace Fz
open L2 Lw
section
variable[Xw]
variable{E:Ent0}{ss:List Slot}{Z:L2.St}{F H F' H':Hp}{K:ZHy}{js:List Nat}{ta tb tc te:TE}{nx:List Slot->Prop}{R:Ae}{xs ys:List PV}{P:Program}{w:World}
theorem dZ{k:List PV->Prop}(h:Wq ss te λ_ xs=>∃ns:List Int,xs=ns.map PV.int/\ns.length<64/\∀ts:List Int,ts.Nodup->(∀x,x∈ts↔x∈ns)->ts.Pairwise (·<=·)->k (ts.map PV.int)):
  Wn ss (CH (d7 P w) (AZ (CH (iO K P w) (AZ te B6)) B6)) k:=⟨λE Z F H Q S q=>
 h.go E Z F H _ S λv tp xs F1 H1 c sv AM=>by
  obtain⟨ns,e,j,kk⟩:=AM;subst e;obtain⟨l,vs,rfl,f,r⟩:=sv.seq c.st;rw[r.ints]at f;refine⟨l,tp,ns,rfl,Ej.sq f,by omega,λa o=>?_⟩;have m2:=c.st.make o (xV P w a (λk'=>(dd ns).any (· == k')) (dd ns).length)
  refine⟨a,_,_,rfl,AV,Gx (Px ns) j,λb ts d Bk n m=>?_⟩;have i:=m2.st.make d (.lst (ts.map V.int));have g:∀x,x∈ts↔x∈ns:=λx=>(n x).symm.trans ((Ul _ _).trans (LR ns x));refine q b _ _ F1 _ (c.trans (m2.trans i)) (m2.st.Bp d) ((c.trans m2).none d) AV (show AN F1 (ts.map V.int) _ by rw[<- Yq];exact W4 (Ww ts)) (kk ts (Ub (Ua ns) (λx hx=>(g x).mpr ((LR ns x).mp hx)) Bk) g m)⟩
variable{k:PV->Prop}
end
end Fz
namespace Fz
open L2 Lw
variable{neg tp:Bool}
section
variable[Xw]
variable{E:Ent0}{ss:List Slot}{Z:L2.St}{F H F' H':Hp}{K:ZHy}{ta tb tc te:TE}{k:PV->Prop}{v:V}{xs:List PV}{nx:List Slot->Prop}{R:Ae}
theorem zd(xs ys:List Int):GU (xs.map V.int) (ys.map V.int)=decide (xs=ys):=by
 by_cases a:xs.length=ys.length
 .rw[La (by simpa using a)]
  cases c:(List.range (xs.map V.int).length).all λj=>E5 ((xs.map V.int).getD j .A8) ((ys.map V.int).getD j .A8)with
  |false=>
   symm;rw[ZAj];rintro rfl;rw[<- Bool.not_eq_true]at c;apply c;rw[Eb];intro j d;have f:j<xs.length:=by simpa using List.mem_range.mp d
   have e1:(xs.map V.int)[j]?=some (.int xs[j]):=by rw[Ah,Au f];rfl
   rw[K6 e1];show(xs[j] == xs[j])=true;simp
  |true=>
   symm;rw[ZAE];apply ZP a;intro j h1 h2;have q:=List.all_eq_true.mp c j (List.mem_range.mpr (by simpa using h1))
   have e1:(xs.map V.int)[j]?=some (.int xs[j]):=by rw[Ah,Au h1];rfl
   have e:(ys.map V.int)[j]?=some (.int ys[j]):=by rw[Ah,Au h2];rfl
   rw[K6 e1,K6 e]at q;have b:(xs[j] == ys[j])=true:=q
   simpa using b
 .rw[LM (by simpa using a),sX]
  rintro rfl;exact a rfl
theorem bJ(ns:List Int):(ns.map V.int).all Cr=true:=by
 rw[Eb];intro x hx;obtain⟨y,_,rfl⟩:=List.mem_map.mp hx;rfl
theorem qL(h:Wq ss ta λtp xs=>∃ns:List Int,xs=ns.map PV.int/\Wq ss tb λCo ys=>Co=tp/\∃ms:List Int,ys=ms.map PV.int/\k (.bl (if neg then !decide (ns=ms)else decide (ns=ms)))):Wp ss (BE (Jo K neg) ta tb) k:=⟨λE Z F H Q S q=>
 h.go E Z F H _ S λv tp xs F1 H1 a sv⟨ns,e1,h2⟩=>h2.go E Z F1 H1 _ a.st λv2 Co ys F2 H2 m2 Ih⟨d,ms,e,kk⟩=>by
  subst e1;subst e;subst d;obtain⟨l,vs,rfl,b,r⟩:=(sv.mv m2).seq m2.st;obtain⟨l2,HC,rfl,Bk,c⟩:=Ih.seq m2.st;rw[r.ints]at b;rw[c.ints]at Bk;refine⟨l,l2,ns.map V.int,ms.map V.int,rfl,rfl,?_,bJ _,bJ _,?_⟩
  .cases Co
   .exact .inl ⟨AL.of b,AL.of Bk⟩
   .exact .inr ⟨Ax.of b,Ax.of Bk⟩
  .rw[zd];cases neg
   .exact q _ _ F2 H2 (a.trans m2) (.bl _) kk
   .exact q _ _ F2 H2 (a.trans m2) (.bl _) kk⟩
theorem qY(h:Wq ss ta λtp xs=>∃ns:List Int,xs=ns.map PV.int/\Wq ss tb λCo ys=>Co=tp/\∃ms:List Int,ys=ms.map PV.int/\k (.bl (!decide (ns=ms)))):Wp ss (BE (Jo K true) ta tb) k:=qL h
variable{js:List Nat}
theorem Xl{wi:TI}{tt:TT}{k:List PV->Prop}(P:PV->PV->Prop)
  (h:Wi ss wi λxs=>xs.length<=100000/\(∀x∈xs,Wt (Br js ss++[.is x]) tt λb=>b=true)/\(∀x∈xs,Wp (Br js ss++[.is x]) te (P x))/\∀ys:List PV,ys.length=xs.length->(∀(j:Nat)x y,xs[j]?=some x->ys[j]?=some y->P x y)->k ys)
  (nd:js.Nodup:=by decide):Wn ss (Gk wi js tt te) k:=Y1 (λpre ys=>ys.length=pre.length/\∀(j:Nat)x y,pre[j]?=some x->ys[j]?=some y->P x y) ⟨rfl,λj x y e=>by simp at e⟩ (h.mono λxs⟨f,g,l,kk⟩=>⟨f,λx hx=>(g x hx).mono λb e=>by
  subst e;refine(l x hx).mono λy m pre ys⟨h,i⟩=>⟨by rw[BI,BI,h];rfl,λj a b ea d=>?_⟩
  by_cases c:j<pre.length
  .rw[DU c]at ea;rw[DU (h▸c)]at d;exact i j a b ea d
  .rw[Ff (by omega)]at ea;rw[Ff (by omega),h]at d;rw[(List.mem_singleton.mp (C8 ea)),(List.mem_singleton.mp (C8 d))];exact m,λys e=>kk ys e.1 e.2⟩) nd
variable{i:Nat}{t:OV}
end
end Fz
namespace Fz
open L2 Lw
@[reducible] noncomputable def xwM (X:XK) (t:OV) (D:Ex->Prop):Xw:=⟨λ_=>X,λss=>ss[0]?=some (.ow true t),D⟩
variable{pre:Pre}
section
variable{P:Program}{w:World}{K:ZHy}{mg:ZI0}{Yd:Heap}{x qual:Str}{st:Stmt}{f:Addr}{fd:FuncData}{N ps:List Str}{k:Nat}
theorem fnF(F:AE K x qual st f fd)(S:Ap N ps (AI st))(a:∀ss R,pre ss R->ss.length=ps.length)
  (c:∀{AU:Value}{A:Around}{outer:List Env}{s:Shared}{H:Hp}{E:XK},B8 k (A.deeper (envOfC qual (AI st) s.heap.objs.size f AU))->
   ∃t,Dl (Cn DD P w K mg Yd N qual (AI st) f AU A outer s H E).Gz (DC st) t/\∀ss R,pre ss R->Ws (ss++List.replicate (N.length - ps.length) .any) t (λ_=>∃k,R=.is k/\k .A8) R):Cs P w K mg Yd DD (k+1) f fd ps (Af pre):=
 F.Gr S (λvs H Q E h=>dY a h) λAU A outer s H vs Q E b h=>let ⟨t,q,r⟩:=c b;⟨t,q,cu h a r⟩
theorem pJ(F:AE K x qual st f fd)(S:Ap N ps (AI st))(a:∀ss R,pre ss R->ss.length=ps.length)
  (c:∀{AU:Value}{A:Around}{outer:List Env}{s:Shared}{H:Hp}{E:XK},B8 k (A.deeper (envOfC qual (AI st) s.heap.objs.size f AU))->
   ∃t,Dl (Cn DD P w K mg Yd N qual (AI st) f AU A outer s H E).Gz (DC st) t/\∀ss R,pre ss R->Ws (ss++List.replicate (N.length - ps.length) .any) t (λ_=>False) R):Cs P w K mg Yd DD (k+1) f fd ps (FD pre):=
 F.Gr S (λvs H Q E h=>ZFh a h) λAU A outer s H vs Q E b h=>let ⟨t,q,r⟩:=c b;⟨t,q,vf h a r⟩
theorem fnX{pre:En}(F:AE K x qual st f fd)(S:Ap N ps (AI st))(a:∀ss R D,pre ss R D->ss.length=ps.length)
  (c:∀{AU:Value}{A:Around}{outer:List Env}{s:Shared}{H:Hp}(E:XK),B8 k (A.deeper (envOfC qual (AI st) s.heap.objs.size f AU))->
   ∃t,Dl (Cn (FT P w) P w K mg Yd N qual (AI st) f AU A outer s H E) (DC st) t/\∀ss R D,pre ss R D->let _i:Xw:=QD E D;Ws (ss++List.replicate (N.length - ps.length) .any) t (λ_=>∃k,R=.is k/\k .A8) R):Cs P w K mg Yd (FT P w) (k+1) f fd ps (Ct pre):=
 F.rM S (λvs H Q E h=>mz a h) λAU A outer s H vs Q E b h=>let ⟨t,q,r⟩:=c E b;⟨t,q,vn h a r⟩
theorem hF(F:AE K x qual st f fd)(b:∀(kV a c:Value)(g:Option Addr)(AU ct:Value)(us:List Value),us.length=ps.length->bindArgs (PySem.W.fnOf x qual (II st) (DC st) (AI st) .none kV a c g AU ct) ⟨us,[]⟩=pure (ps.zip us))(m:mg x=some (.ref f))(S:Ap N ps (AI st))(d:∀ss R,pre ss R->ss.length=ps.length)
  (e:∀{AU:Value}{A:Around}{outer:List Env}{s:Shared}{H:Hp}{E:XK},B8 k (A.deeper (envOfC qual (AI st) s.heap.objs.size f AU))->
   ∃t,Dl (Cn DD P w K mg Yd N qual (AI st) f AU A outer s H E).Gz (DC st) t/\∀ss R,pre ss R->Ws (ss++List.replicate (N.length - ps.length) .any) t (λ_=>∃k,R=.is k/\k .A8) R):AH P w K mg Yd x (k+1) ps (Af pre):=
 AH.mk F (F.binds b) m (fnF F S d e)
theorem hM(F:AE K x qual st f fd)(b:∀(kV a c:Value)(g:Option Addr)(AU ct:Value)(us:List Value),us.length=ps.length->bindArgs (PySem.W.fnOf x qual (II st) (DC st) (AI st) .none kV a c g AU ct) ⟨us,[]⟩=pure (ps.zip us))(m:mg x=some (.ref f))(S:Ap N ps (AI st))(d:∀ss R,pre ss R->ss.length=ps.length)
  (e:∀{AU:Value}{A:Around}{outer:List Env}{s:Shared}{H:Hp}{E:XK},B8 k (A.deeper (envOfC qual (AI st) s.heap.objs.size f AU))->
   ∃t,Dl (Cn DD P w K mg Yd N qual (AI st) f AU A outer s H E).Gz (DC st) t/\∀ss R,pre ss R->Ws (ss++List.replicate (N.length - ps.length) .any) t (λ_=>False) R):AH P w K mg Yd x (k+1) ps (FD pre):=
 AH.mk F (F.binds b) m (pJ F S d e)
theorem hX{pre:En}(F:AE K x qual st f fd)(b:∀(kV a c:Value)(g:Option Addr)(AU ct:Value)(us:List Value),us.length=ps.length->bindArgs (PySem.W.fnOf x qual (II st) (DC st) (AI st) .none kV a c g AU ct) ⟨us,[]⟩=pure (ps.zip us))(m:mg x=some (.ref f))(S:Ap N ps (AI st))(d:∀ss R D,pre ss R D->ss.length=ps.length)
  (e:∀{AU:Value}{A:Around}{outer:List Env}{s:Shared}{H:Hp}(E:XK),B8 k (A.deeper (envOfC qual (AI st) s.heap.objs.size f AU))->
   ∃t,Dl (Cn (FT P w) P w K mg Yd N qual (AI st) f AU A outer s H E) (DC st) t/\∀ss R D,pre ss R D->let _i:Xw:=QD E D;Ws (ss++List.replicate (N.length - ps.length) .any) t (λ_=>∃k,R=.is k/\k .A8) R):CS P w K mg Yd x (k+1) ps (Ct pre):=
 CS.mk F (F.binds b) m (fnX F S d e)
end
end Fz
namespace Kz
variable{u v w:Nat}{ab:Nat->List Nat}
abbrev Lo:=List (Option Nat)
noncomputable def lows(lo:Lo):List Nat:=lo.filterMap id
mutual
def fu(ab:Nat->List Nat):Nat->Nat->Lo->List Nat->Bool×Lo×List Nat
 | 0,_,lo,tr=>(false,lo,tr)
 |n+1,v,lo,tr=>C5 ab n v (ab v) lo tr
def C5(ab:Nat->List Nat):Nat->Nat->List Nat->Lo->List Nat->Bool×Lo×List Nat
 |_,_,[],lo,tr=>(false,lo,tr)
 |n,v,u::r,lo,tr=>
  if u∈tr then C5 ab n v r lo tr
  else match lo[u]?.join with
   |none=>(true,lo.set u (some v),tr++[u])
   |some w=>match fu ab n w lo (tr++[u])with
    | (true,BK,Bb)=>(true,BK.set u (some v),Bb)
    | (false,BK,Bb)=>C5 ab n v r BK Bb
end
def AP(ab:Nat->List Nat)(lo:Lo):Nat->List Nat->Prop
 |_,[]=>False
 |v,[u]=>u∈ab v/\u<lo.length/\lo[u]?.join=none
 |v,u::u2::r=>u∈ab v/\∃w,lo[u]?.join=some w/\AP ab lo w (u2::r)
noncomputable def app(lo:Lo):Nat->List Nat->Lo
 |_,[]=>lo
 |v,u::r=>(app lo ((lo[u]?.join).getD 0) r).set u (some v)
theorem NS(lo:Lo):∀(v:Nat)(us:List Nat),(app lo v us).length=lo.length
 |_,[]=>rfl
 |v,u::r=>by unfold app;rw[GD];exact NS lo _ r
theorem iT{lo:Lo}{i:Nat}:∀{v:Nat}{us:List Nat},i∉us->(app lo v us)[i]?=lo[i]?
 |_,[],_=>rfl
 |v,u::r,h=>by
  unfold app;rw[Bv (λz=>h (by rw[z];exact B1))];exact iT λz=>h (BM _ z)
theorem join_some{lo:Lo}(h:lo[u]?.join=some w):lo[u]?=some (some w):=by
 cases e:lo[u]? with
 |none=>rw[e]at h;cases h
 |some o=>rw[e]at h;exact sg some h
theorem Fp{lo:Lo}:w∈lows lo↔∃u:Nat,lo[u]?=some (some w):=by
 unfold lows;rw[ZGn];constructor
 .rintro⟨o,ho,e⟩;obtain⟨u,a⟩:=List.mem_iff_getElem?.mp ho;exact⟨u,by rw[a,show o=some w from e]⟩
 .rintro⟨u,e⟩;exact⟨some w,C8 e,rfl⟩
theorem aj{lo:Lo}(h:u<lo.length):∃l r,lows lo=l++(lo[u]?.join).toList++r/\lows (lo.set u (some v))=l++v::r:=by
 refine⟨lows (lo.take u),lows (lo.drop (u+1)),?_,?_⟩
 .have e:lo=lo.take u++lo[u]::lo.drop (u+1):=by rw[<- TZ h,ZZ]
  unfold lows
  conv=>lhs;rw[e,ZGZ]
  rw[Au h];cases q:lo[u]with
  |none=>simp
  |some w=>simp
 .rw[List.set_eq_take_append_cons_drop,oM h];unfold lows;rw[ZGZ];simp
theorem iZ{ab:Nat->List Nat}{lo:Lo}:∀{v:Nat}{us:List Nat},AP ab lo v us->us.Nodup->(∀u∈us,u<lo.length)->(lows (app lo v us)).Perm (v::lows lo)
 |_,[],h,_,_=>h.elim
 |v,[u],h,_,_=>by
  obtain⟨l,r,e1,b⟩:=aj (v:=v) h.2.1;unfold app app;rw[b,e1,h.2.2]
  simpa using ZGq
 |v,u::u2::r,h,nd,lt=>by
  obtain⟨_,w,hw,h2⟩:=h;have e:=List.nodup_cons.mp nd;have d:=iZ h2 e.2 (λx hx=>lt x (BM _ hx));unfold app;rw[hw];show(lows ((app lo w (u2::r)).set u (some v))).Perm (v::lows lo);obtain⟨l,c,e1,b⟩:=aj (lo:=app lo w (u2::r)) (u:=u) (v:=v) (by rw[NS];exact lt u B1);rw[iT e.1,hw]at e1;rw[e1]at d;rw[b];have p1:(w::(l++c)).Perm (w::lows lo):=by
   refine List.Perm.trans ?_ d
   simpa using(ZGq (a:=w) (l₁:=l) (l₂:=c)).symm
  exact List.perm_middle.trans (p1.cons_inv.cons v)
def Mk(ab:Nat->List Nat)(lo:Lo):Prop:=∀u w,lo[u]?=some (some w)->u∈ab w
theorem lX{ab:Nat->List Nat}{lo:Lo}(f:Mk ab lo):∀{v:Nat}{us:List Nat},AP ab lo v us->us.Nodup->Mk ab (app lo v us)
 |_,[],h,_=>h.elim
 |v,[u],h,_=>λu' w e=>by
  unfold app app at e
  by_cases z:u=u'
  .subst z;rw[Ca h.2.1]at e;cases e;exact h.1
  .rw[Bv z]at e;exact f u' w e
 |v,u::u2::r,h,nd=>λu' a e=>by
  obtain⟨c,w,hw,h2⟩:=h;have d:=List.nodup_cons.mp nd;have b:=lX f h2 d.2;unfold app at e;rw[hw]at e
  by_cases z:u=u'
  .subst z;rw[Ca (by rw[NS];exact(List.getElem?_eq_some_iff.mp (join_some hw)).1)]at e;cases e;exact c
  .rw[Bv z]at e;exact b u' a e
def DQ(ab:Nat->List Nat)(v:Nat)(lo:Lo):Prop:=∃σ:List Nat,(∀u∈ab v,u∈σ)/\∀z∈σ,∃w,lo[z]?=some (some w)/\∀u∈ab w,u∈σ
theorem DQ.no{ab:Nat->List Nat}{lo:Lo}{σ:List Nat}(cl:∀z∈σ,∃w,lo[z]?=some (some w)/\∀u∈ab w,u∈σ):∀{v:Nat}{us:List Nat},(∀u∈ab v,u∈σ)->¬ AP ab lo v us
 |_,[],_,h=>h
 |v,[u],hv,h=>by
  obtain⟨w,e,_⟩:=cl u (hv u h.1);have a:=h.2.2;rw[e]at a;cases a
 |v,u::u2::r,hv,h=>by
  obtain⟨b,w,hw,h2⟩:=h;obtain⟨d,e,c⟩:=cl u (hv u b);rw[join_some hw]at e;cases e;exact DQ.no cl c h2
theorem Lu:∀{l1 l2:List Nat},l1.Nodup->(∀x∈l1,x∈l2)->l1.length<=l2.length
 | [],_,_,_=>CJ _
 |a::r,l2,nd,h=>by
  have b:=List.nodup_cons.mp nd;have c:=Lu (l2:=l2.erase a) b.2 λx hx=>(Te (λz=>b.1 (by rw[<- z];exact hx))).mpr (h x (BM _ hx));rw[NM (h a B1)]at c;have:0<l2.length:=ZT (h a B1);rw[BJ];omega
theorem gQ{lo:Lo}:(lows lo).Nodup->∀{u u' w:Nat},lo[u]?=some (some w)->lo[u']?=some (some w)->u=u':=by
 unfold lows
 induction lo with
 |nil=>intro _ u u' w e;cases e
 |cons o r b=>
  intro nd u u' w e a;have sub:∀{k x:Nat},r[k]?=some (some x)->x∈r.filterMap id:=λ{k x}e=>List.mem_filterMap.mpr ⟨some x,C8 e,rfl⟩;cases u with
  |zero=>
   cases u' with
   |zero=>rfl
   |succ u'=>
    cases(show some o=some (some w)from e);rw[ZGa (show id (some w)=some w from rfl)]at nd;exact absurd (sub (k:=u') a) (List.nodup_cons.mp nd).1
  |succ u=>
   cases u' with
   |zero=>
    cases(show some o=some (some w)from a);rw[ZGa (show id (some w)=some w from rfl)]at nd;exact absurd (sub (k:=u) e) (List.nodup_cons.mp nd).1
   |succ u'=>
    have c:(r.filterMap id).Nodup:=by
     cases o with
     |none=>simpa using nd
     |some x=>exact(List.nodup_cons.mp (by simpa using nd)).2
    rw[b c (u:=u) (u':=u') (w:=w) e a]
theorem DQ.EZ{lo BK:Lo}(s:DQ ab v lo)(C:(lows lo).Nodup)(f:Mk ab BK)(keep:∀w∈lows lo,w∈lows BK):DQ ab v BK:=by
 obtain⟨Z0,G,A⟩:=s
 -- without ZHV
 let σ:=(List.range lo.length).filter λz=>decide (z∈Z0)
 have n:∀z,z∈σ↔z∈Z0:=λz=>by
  simp only[σ,ZW,Tf,t6];refine⟨λh=>h.2,λh=>⟨?_,h⟩⟩;obtain⟨w,e,_⟩:=A z h;exact(List.getElem?_eq_some_iff.mp e).1
 have m:σ.Nodup:=List.nodup_range.sublist List.filter_sublist;have cl:∀z∈σ,∃w,lo[z]?=some (some w)/\∀u∈ab w,u∈σ:=λz d=>by
  obtain⟨w,e,c⟩:=A z ((n z).mp d);exact⟨w,e,λu o=>(n u).mpr (c u o)⟩
 -- each z's lower one ZHf in BK at a place of σ
 have mv:∀z∈σ,∃y∈σ,BK[y]?=lo[z]?:=λz d=>by
  obtain⟨w,e,c⟩:=cl z d;obtain⟨y,g⟩:=Fp.mp (keep w (Fp.mpr ⟨z,e⟩));exact⟨y,c y (f y w g),by rw[g,e]⟩
 have ex:∀l:List Nat,(∀z∈l,z∈σ)->l.Nodup->∃ys:List Nat,ys.length=l.length/\ys.Nodup/\∀y∈ys,y∈σ/\∃z∈l,BK[y]?=lo[z]?:=by
  intro l
  induction l with
  |nil=>intro _ _;exact⟨[],rfl,.nil,λy h=>by cases h⟩
  |cons z r D=>
   intro p nd;have B:=List.nodup_cons.mp nd;obtain⟨ys,e1,q,i⟩:=D (λx hx=>p x (BM _ hx)) B.2;obtain⟨y,E,g⟩:=mv z (p z B1);refine⟨y::ys,by rw[BJ,BJ,e1],List.nodup_cons.mpr ⟨λF=>?_,q⟩,λx hx=>?_⟩
   .obtain⟨_,j,Ii,t⟩:=i y F;obtain⟨w,k,_⟩:=cl z (p z B1);rw[g,k]at t;have:=gQ C k t.symm;exact B.1 (by rw[this];exact Ii)
   .rcases List.mem_cons.mp hx with rfl|hx
    .exact⟨E,z,B1,g⟩
    .obtain⟨a,j,b,c⟩:=i x hx;exact⟨a,j,BM _ b,c⟩
 obtain⟨ys,e1,q,i⟩:=ex σ (λ_ h=>h) m;have all:∀z∈σ,z∈ys:=λz d=>lu λno=>by
  have:=Lu (l1:=z::ys) (l2:=σ) (List.nodup_cons.mpr ⟨no,q⟩) λx hx=>by
   rcases List.mem_cons.mp hx with rfl|hx
   .exact d
   .exact(i x hx).1
  rw[BJ]at this;omega
 refine⟨σ,λu o=>(n u).mpr (G u o),λz d=>?_⟩;obtain⟨_,j,Ii,e⟩:=i z (all z d);obtain⟨w,k,c⟩:=cl j Ii;exact⟨w,by rw[e,k],c⟩
def Res(ab:Nat->List Nat)(lo:Lo)(v:Nat)(us tr:List Nat):Bool×Lo×List Nat->Prop
 | (true,BK,_)=>∃p,AP ab lo v p/\p.Nodup/\(∀u∈p,u∉tr/\u<lo.length)/\BK=app lo v p
 | (false,BK,Bb)=>BK=lo/\(∀z∈tr,z∈Bb)/\Bb.Nodup/\(∀z∈Bb,z<lo.length)/\tr.length<=Bb.length/\(∀u∈us,u∈Bb)/\∀z∈Bb,z∈tr∨∃w,lo[z]?=some (some w)/\∀u∈ab w,u∈Bb
theorem Ly{ab:Nat->List Nat}{lo:Lo}(Bu:∀v u,u∈ab v->u<lo.length):∀(n v:Nat)(tr:List Nat),tr.Nodup->(∀z∈tr,z<lo.length)->lo.length<n+tr.length->Res ab lo v (ab v) tr (fu ab n v lo tr)
 | 0,v,tr,nd,lt,i=>by
  have:=Lu (l2:=List.range lo.length) nd λx hx=>List.mem_range.mpr (lt x hx);rw[Ep]at this;omega
 |n+1,v,tr,nd,lt,i=>by
  have go:∀(us tr:List Nat),(∀u∈us,u∈ab v)->tr.Nodup->(∀z∈tr,z<lo.length)->lo.length<n+1+tr.length->Res ab lo v us tr (C5 ab n v us lo tr):=by
   intro us
   induction us with
   |nil=>
    intro tr _ nd lt i;rw[C5];exact⟨rfl,λz h=>h,nd,lt,Aa _,λu h=>(by cases h),λz h=>.inl h⟩
   |cons u r F=>
    intro tr sub nd lt i;have E:∀x∈r,x∈ab v:=λx hx=>sub x (BM _ hx);have s:=sub u B1;have m:=Bu v u s;rw[C5]
    by_cases f:u∈tr
    .rw[oM f];have q:=F tr E nd lt i;cases e:C5 ab n v r lo tr with
     |mk b x=>
      rw[e]at q;cases b with
      |true=>exact q
      |false=>
       obtain⟨a1,a2,C,B,g,A,t⟩:=q;exact⟨a1,a2,C,B,g,λy d=>by
        rcases List.mem_cons.mp d with rfl|d
        .exact a2 _ f
        .exact A y d,t⟩
    .rw[nr f];have R:(tr++[u]).Nodup:=List.nodup_append.mpr ⟨nd,List.nodup_cons.mpr ⟨BF,.nil⟩,λa J b I=>by rw[List.mem_singleton.mp I];exact λz=>f (by rw[<- z];exact J)⟩;have Q:∀z∈tr++[u],z<lo.length:=λz c=>by
      rcases List.mem_append.mp c with c|c
      .exact lt z c
      .rw[List.mem_singleton.mp c];exact m
     cases j:lo[u]?.join with
     |none=>exact⟨[u],⟨s,m,j⟩,List.nodup_cons.mpr ⟨BF,.nil⟩,λx hx=>by rw[List.mem_singleton.mp hx];exact⟨f,m⟩,rfl⟩
     |some w=>
      have q:=Ly Bu n w (tr++[u]) R Q (by rw[BI];simp;omega);show Res ab lo v (u::r) tr (match fu ab n w lo (tr++[u])with
       | (true,BK,Bb)=>(true,BK.set u (some v),Bb)
       | (false,BK,Bb)=>C5 ab n v r BK Bb)
      cases e:fu ab n w lo (tr++[u])with
      |mk b x=>
       obtain⟨BK,Bb⟩:=x;rw[e]at q;cases b with
       |true=>
        obtain⟨p,l,pn,pt,rfl⟩:=q;cases p with
        |nil=>exact l.elim
        |cons D p=>
         refine⟨u::D::p,⟨s,w,j,l⟩,List.nodup_cons.mpr ⟨λz=>(pt u z).1 (C1 _ B1),pn⟩,λx hx=>?_,?_⟩
         .rcases List.mem_cons.mp hx with rfl|hx
          .exact⟨f,m⟩
          .exact⟨λz=>(pt x hx).1 (DN _ z),(pt x hx).2⟩
         .show _=(app lo ((lo[u]?.join).getD 0) (D::p)).set u (some v);rw[j];rfl
       |false=>
        obtain⟨rfl,a2,C,B,g,A,t⟩:=q;have o:=F Bb E C B (by rw[BI]at g;simp at g;omega);show Res ab BK v (u::r) tr (C5 ab n v r BK Bb);cases K:C5 ab n v r BK Bb with
        |mk b x=>
         obtain⟨H,G⟩:=x;rw[K]at o;cases b with
         |true=>
          obtain⟨p,l,pn,pt,el⟩:=o;exact⟨p,l,pn,λx hx=>⟨λz=>(pt x hx).1 (a2 x (DN _ z)),(pt x hx).2⟩,el⟩
         |false=>
          obtain⟨P,k,O,N,S,M,L⟩:=o;refine⟨P,λz c=>k z (a2 z (DN _ c)),O,N,by rw[BI]at g;simp at g;omega,λy d=>?_,λz c=>?_⟩
          .rcases List.mem_cons.mp d with rfl|d
           .exact k _ (a2 _ (C1 _ B1))
           .exact M y d
          .rcases L z c with c|c
           .rcases t z c with c|⟨w2,ew,hw⟩
            .rcases List.mem_append.mp c with c|c
             .exact .inl c
             .rw[List.mem_singleton.mp c];exact .inr ⟨w,join_some j,λy d=>k y (A y d)⟩
            .exact .inr ⟨w2,ew,λy d=>k y (hw y d)⟩
           .exact .inr c
  rw[fu];exact go (ab v) tr (λ_ h=>h) nd lt i
theorem step{lo:Lo}{n:Nat}(Bu:∀v u,u∈ab v->u<lo.length)(j:lo.length<n)(nd:(lows lo).Nodup)(f:Mk ab lo)(g:v∉lows lo):
  ∃b BK Bb,fu ab n v lo []=(b,BK,Bb)/\BK.length=lo.length/\(lows BK).Nodup/\Mk ab BK/\(v∈lows BK∨DQ ab v BK)/\(∀w∈lows BK,w=v∨w∈lows lo)/\∀w,(w∈lows lo∨DQ ab w lo)->w∈lows BK∨DQ ab w BK:=by
 have q:=Ly Bu n v [] .nil (λz h=>by cases h) (by simpa using j)
 cases e:fu ab n v lo []with
 |mk b x=>
  obtain⟨BK,Bb⟩:=x;rw[e]at q;refine⟨b,BK,Bb,rfl,?_⟩;cases b with
  |true=>
   obtain⟨p,c,pn,pt,rfl⟩:=q;have a:=iZ c pn λu i=>(pt u i).2;have ff:=lX f c pn;have kp:∀w∈lows lo,w∈lows (app lo v p):=λw hw=>a.mem_iff.mpr (BM _ hw);refine⟨NS lo v p,a.nodup_iff.mpr (List.nodup_cons.mpr ⟨g,nd⟩),ff,.inl (a.mem_iff.mpr B1),λw hw=>List.mem_cons.mp (a.mem_iff.mp hw),λw h=>h.imp (kp w) λs=>s.EZ nd ff kp⟩
  |false=>
   obtain⟨rfl,_,_,_,_,l,k⟩:=q;exact⟨rfl,nd,f,.inr ⟨Bb,l,λz d=>(k z d).resolve_left (by simp)⟩,λw hw=>.inr hw,λw h=>h⟩
end Kz
namespace L2
variable{X:Cx}{ZB:ZHz}{Z:St}{H H2:Hp}{s s2 s₁:Shared}{T a c c' f it kS:Addr}{o:Obj}{O0 kp pos px:Pos}{q qn x:Str}{keys ps:Array Value}{h h' h1:Heap}{e1 i t':Nat}{params:Arguments}{body elt:Expr}{outer scope:Scope}{PU cl:List (Str×Addr)}{E Q:Value->Shared->Prop}{A:Around}{cd u:Value}{js:List Nat}{m:ZI0}{tb te:TE}{w:World}{A3 us vs:List Value}{kz ns:List Int}{W:Nat->List Int->Hp->Prop}{xs:List V}{ta:TA}{N loose:List Str}{ifs:List Expr}{tt:TT}
theorem Inv.NC(I:Inv X ZB Z H s)(h:s.heap.get? a=some o)(n:H a=none)(hL:a≠X.env.locals)(c:a∉X.fs)(d:∀v,o.data≠.cell v):Inv X ((a,o)::ZB) Z H s:=by
 refine⟨I.ok,I.os,I.bare,I.base,I.loc,I.cell,I.free,I.DJ,λp b=>?_,I.AB,I.len⟩;rcases List.mem_append.mp b with z|z
 .exact I.pin p (DN _ z)
 .rcases List.mem_cons.mp z with rfl|z
  .exact⟨h,n,hL,c,d⟩
  .exact I.pin p (C1 _ z)
theorem Inv.ML{p:Addr×Obj}(I:Inv X (p::ZB) Z H s):Inv X ZB Z H s:=by
 refine⟨I.ok,I.os,I.bare,I.base,I.loc,I.cell,I.free,I.DJ,λq a=>I.pin q ?_,I.AB,I.len⟩;rcases List.mem_append.mp a with z|z
 .exact DN _ z
 .exact C1 _ (BM _ z)
theorem Inv.coded{P:Addr}(I:Inv X ZB Z H s)(c:H P=some (.C3 (.tab pos q)))(hx:Heap.ExtBut P s.heap h')(g:s.heap.objs.size<=c')(y:h'.CodeRec (.ref c') q)
  (f:h'.get? P=some (PySem.W.tabObj ps)) (tok:TriplesOk ps.toList) (A:codeAmong pos ps.toList=some (.ref c')):Inv X ZB Z (upd H c' (.C3 (.Hj q))) { s with heap:=h',toks:=t' }:=by
 have l:H c'=none:=I.AB.fresh g;have ne:∀b u,H b=some u->b≠c':=λb u e=>DS e l;have nP:∀b,H b=none->b≠P:=λb n z=>by rw[z,c]at n;cases n
 have a:∀b o,s.heap.get? b=some o->b≠c':=λb o e=>B7 (CI (AY e) g);refine I.step (g':=s.gens) (d':=s.drawn) (ch:=[]) (λ_ z=>nomatch z) (λb o _ _ _ e n=>hx b o (nP b n) e) (λb o _ _ _ e n=>⟨o.slots,hx b o (nP b n) e⟩) (λb o _ e n=>by rw[AK (a b o e)];exact n)
  (λb o _ e=>?_) (λb x e=>by rw[AK (ne b _ e)];exact e) (λb _ _ e=>by rw[AK (ne b _ e)];exact e) (λm p=>?_) (λb u e=>?_) I.bare
 .by_cases z:b=P
  .subst z;exact⟨_,f⟩
  .exact⟨o,hx b o z e⟩
 .obtain⟨o,es,ep,ho,r⟩:=p;exact⟨o,es,ep,hx _ o (nP _ I.free) ho,r⟩
 .by_cases i:b=c'
  .subst i;rw[AV]at e;cases e;obtain⟨c2,j,vs,t,w,ho,hd,k⟩:=y;cases w;exact⟨j,vs,t,ho,hd,k⟩
  .rw[AK i]at e
   by_cases z:b=P
   .subst z;rw[c]at e;cases e;exact⟨ps,f,tok,λcv h=>by rw[A]at h;cases h;exact⟨c',rfl,AV⟩⟩
   .refine(I.AB b u e).EZ (λd v hd q=>hx d v ?_ q) (λd q=>by rw[AK (ne d _ q)];exact q) λd _ q=>by rw[AK (ne d _ q)];exact q
    rcases hd with rfl|hd
    .exact z
    .rintro rfl;rw[c]at hd;cases hd
theorem tT{P:Addr}
  (I:Inv X ZB Z H s) (n:H P=some (.C3 (.tab pos q))) (C:PySem.W.CodeHd X.base c P) (m:X.env.code=.ref c) (l:X.env.globals=mainGlobals) (Bw:closureFor scope X.env=pure PU) (x:X.base.BuiltinsAt X.mg P) (Ic:mainGlobals≠P)
  (t:X.env.qual ++ "<lambda>"=q) (NR:defaultsOf params X.env=([],[]))
  (h:∀f c' Dq s' H',Inv X ((f,PySem.W.kla_obj "<lambda>" q params body scope PU ((X.mg "__name__").getD .none) c' Dq)::ZB) Z H' s'->(∀b o,H b=some o->H' b=some o)->H' c'=some (.C3 (.Hj q))->s'.os=s.os->Q (.ref f) s') :
  wpAny (model X.prog X.w) X.A (eval (.Lambda params body scope pos) X.env) Q E s:=by
 subst t;have G:=I.ok.mod.glob.keeps I.bk;obtain⟨ps,p,tok,N⟩:=I.AB P _ n;have B:s.heap.BuiltinsAt X.mg P:=by
  obtain⟨bm,o,M,L,K,F,D,y⟩:=x;exact⟨bm,o,M,L,K,F,I.bk _ _ D,y⟩
 have k:∀(a b:Str)(c':Addr)(Dq:Value)v,(PySem.W.kla_obj a b params body scope PU ((X.mg "__name__").getD .none) c' Dq).data≠.cell v:=λa b c' Dq v z=>by cases z
 refine PySem.W.kla_eval NR ?_;cases g:codeAmong pos ps.toList with
 |none=>
  refine PySem.W.kla_makeFunction (mg:=X.mg) Bw l G m (C.keeps I.bk) p tok g Ic B λc' Dq h' tk hx UZ AO ZCr i=>?_;have j:codeAmong pos (ps++#[rawInt pos.line,rawInt pos.col,.ref c']).toList=some (.ref c'):=by
   rw[lb];exact codeAmong_snoc _ tok g
  have r:TriplesOk (ps++#[rawInt pos.line,rawInt pos.col,.ref c']).toList:=by
   rw[lb];exact TriplesOk_snoc _ _ _ _ tok
  have J:=(I.coded (t':=tk) n hx UZ ZCr i r j).kept (t':=tk) (h':=h'.push (PySem.W.kla_obj "<lambda>" (X.env.qual ++ "<lambda>") params body scope PU ((X.mg "__name__").getD .none) c' Dq)) λb u e=>Ao _ e;have d:s.heap.objs.size<=h'.objs.size:=Be UZ (JF AO);refine h _ c' Dq _ _ (J.NC (BQ _ rfl) ?_ (E9 (CI I.lt d)) (I.PB d) (k _ _ _ _)) (λb o e=>by rw[AK (DS e (I.AB.fresh UZ))];exact e) AV rfl;rw[AK (E9 AO)];exact I.AB.fresh d
 |some cv=>
  obtain⟨c',rfl,GL⟩:=N cv g;refine PySem.W.kla_makeFunctionHit (mg:=X.mg) Bw l G m (C.keeps I.bk) p tok g B λDq h' tk hk d=>?_;have J:=I.kept (t':=tk) (h':=h'.push (PySem.W.kla_obj "<lambda>" (X.env.qual ++ "<lambda>") params body scope PU ((X.mg "__name__").getD .none) c' Dq)) λb u e=>Ao _ (hk b u e);exact h _ c' Dq _ _ (J.NC (BQ _ rfl) (I.AB.fresh d) (E9 (CI I.lt d)) (I.PB d) (k _ _ _ _)) (λb o e=>e) GL rfl
noncomputable abbrev Nz(q:Str)(scope:Scope)(x:Str)(cl:List (Str×Addr))(L f:Addr)(cd:Value):Env:=newEnv scope L mainGlobals ((x,L+1)::cl) (q ++ ".<locals>.") (some f) cd none builtinsNs
noncomputable abbrev S8(X:Cx)(A:Around)(N:List Str)(x:Str)(env:Env)(s:Shared)(H:Hp):Cx:=
 { X with A:=A.deeper env,N:=N,s₀:=s,H₀:=H,env:=env,outer:=X.stack,stack:=env::X.stack,ex:=[],fn:=λy=>y == x,calm:=true,pn:=[],xe:=λ_ _=>False }
theorem t9{M:Model}{Q:Env->Shared->Prop}(hk:scope.kind=.function)(hx:scope.names.lookup x=some .cell)
  (cf:∀(n:Nat)(cl:List (Str×Addr)),cellsFrom n scope.names cl=HH (some x) n++cl) (pc:∀h:Heap,pushCells h scope.names=O2 (some x) h)
  (g:∀h' m,h'.Ns s.heap.objs.size m->(∀b o,s.heap.get? b=some o->h'.get? b=some o)->h'.IsCell (s.heap.objs.size+1) (some u)->Q (Nz q scope x cl s.heap.objs.size f cd) { s with heap:=h' }) :
  wpAny M A (newFunctionEnv scope mainGlobals cl [(x,u)] (q ++ ".<locals>.") (some f) cd none builtinsNs) Q E s:=by
 simp only[newFunctionEnv,Option.isSome_none,Bool.false_eq_true,ZBr];refine dP (ZBZ ?_);refine dP (wpAny_layCells _ (λname kind cells=>by cases i:kind == NameKind.cell <;> simp[i]) _ _ _ _ ?_)
 rw[cf,pc];rw[show({ s with heap:=s.heap.push { cls:=.type "frame", data:=.dict #[] } }:Shared).heap.objs.size=s.heap.objs.size+1 from Du ..]
 refine dP ?_;rw[mC];refine dP (dP (wpAny_storeName_cell (c:=s.heap.objs.size+1) (v₀:=none) hk hx Qq ?_ λh' d a=>nW ?_))
 .exact⟨_,BQ _ rfl |> λz=>by rw[Du]at z;exact z,rfl⟩
 .dsimp only;rw[ZR];refine nW (nW (g h' _ (Heap.Ns.sameBut ((Heap.Ns.new s.heap (.type "frame")).push _) a (B7 (NO _))) (λb o e=>?_) d));exact a.extBut b o (B7 (Hh (AY e))) (Ao _ (Ao _ e))
section
variable{AA:List Str}{v:V}
theorem ZEp(S:DR X.N X.env.scope scope (some x) [x] AA js)(hx:scope.names.lookup x=some .cell)(I:Inv X ZB Z H s)(e0:Gb X.prog X.w X.K X.mg X.base A X.stack s H)(hd:A.handled=none)(V:RelV v u)
  (Er:h1.Ns s.heap.objs.size m) (C:∀b o,s.heap.get? b=some o->h1.get? b=some o) (Bw:h1.IsCell (s.heap.objs.size+1) (some u)) :
  Inv (S8 X A (AA++[x]) x (Nz q scope x (BB X.env.cells scope.names) s.heap.objs.size f cd) s H) [] (As js Z++[some v]) H { s with heap:=h1,toks:=t' }:=by
 have OS:∀y∈scope.names,y.2=.free->(X.env.cells.lookup y.1).isSome=true:=λy g hk=>by
  obtain⟨c,e⟩:=I.ok.has y.1 (S.all y g hk);rw[e];rfl
 have T:∀y c,(BB X.env.cells scope.names).lookup y=some c->X.env.cells.lookup y=some c:=V9 scope.names [] OS (λ_ _ e=>by cases e);have B:js.length=AA.length:=by have:=sg List.length S.at';simpa using this
 have Q:∀y c,X.env.cells.lookup y=some c->c<s.heap.objs.size:=λy c e=>by
  obtain⟨v,o,ho,_⟩:=I.cell y c e;exact AY ho
 have d:∀c v,s.heap.IsCell c v->h1.IsCell c v:=λc v AM=>by obtain⟨o,ho,hd⟩:=AM;exact⟨o,C c o ho,hd⟩
 have D:∀y c,((x,s.heap.objs.size+1)::BB X.env.cells scope.names).lookup y=some c->(some x=some y/\c=s.heap.objs.size+1)∨(some x≠some y/\X.env.cells.lookup y=some c):=λy c e=>(ax (ce:=some x) e).imp id λz=>⟨z.1,T y c z.2⟩;have U:∀y∈AA,some x≠some y:=λy g z=>(List.nodup_append.mp S.nd).2.2 y g y (S.sub y z) rfl;refine⟨⟨e0.mod,S.kind,rfl,rfl,Aa _,λy z c e1 G=>?_,λy g=>?_,λy c M e=>?_,λ_=>hd,Around.frames_deeper e0.frames,.inr ⟨rfl,rfl⟩,λb F=>(by cases F),e0.bs,e0.FL,λb o e F=>(by cases F),λb F=>(by cases F),e0.EV,e0.Gi⟩,
  rfl,e0.bare,Un.kept C,⟨m,Er,λi y E e1 G e3=>?_⟩,λy c e=>?_,I.AB.fresh (Aa _),λy c e=>?_,λp Y=>(by cases Y),I.AB.kept C,?_⟩
 .rcases D y c e1 with⟨a1,rfl⟩|⟨_,EN⟩
  .rcases D z _ G with⟨a2,_⟩|⟨_,HU⟩
   .exact BG (a1.symm.trans a2)
   .exact absurd (Q z _ HU) (Po (Dw _))
  .rcases D z c G with⟨_,rfl⟩|⟨_,HU⟩
   .exact absurd (Q y _ EN) (Po (Dw _))
   .exact I.ok.inj y z c EN HU
 .have M:scope.names.lookup y=some .free∨some x=some y:=g.elim (λg=>.inr (S.one _ (IT (show scope.names.lookup y=some .cell from g)) rfl)) λg=>.inl g;show ∃c,List.lookup y ((x,s.heap.objs.size+1)::BB X.env.cells scope.names)=some c
  by_cases ex:some x=some y
  .rw[<- BG ex];exact⟨_,Qq⟩
  .have z:=T1 (ce:=some x) (n:=s.heap.objs.size+1) (cl:=BB X.env.cells scope.names) ex;rw[show List.lookup y ((x,s.heap.objs.size+1)::BB X.env.cells scope.names)=_ from z];exact Option.isSome_iff_exists.mp (OP scope.names [] (.inr (IT (M.resolve_right ex))))
 .rcases D y c e with⟨_,rfl⟩|⟨W,_⟩
  .exact Dw _
  .exact absurd (sg some (eq_of_beq M).symm) W
 .have O:(As js Z).length=AA.length:=by unfold As;rw[AG,B]
  by_cases hi:i<AA.length
  .have t:AA[i]?=some y:=by
    have t:(AA++[x])[i]?=some y:=e1
    rwa [DU hi]at t
   have a:(As js Z)[i]?=some (some E):=by
    have a:(As js Z++[some v])[i]?=some (some E):=G
    rwa [DU (by rw[O];exact hi)]at a
   have J:y∈AA:=C8 t;unfold As at a;rw[Ah]at a;cases L:js[i]? with
   |none=>rw[L]at a;cases a
   |some j=>
    rw[L]at a;have hN:X.N[j]?=some y:=by
     have q:=sg (λl=>l[i]?) S.at';simp only[Ah,L,t,Ln]at q;exact BG q
    have hσ:Z[j]?=some (some E):=by
     simp only[Ln,Pq]at a;cases q:Z[j]? with
     |none=>rw[q]at a;cases a
     |some w=>rw[q]at a;simp at a;rw[a]
    obtain⟨m0,σ,JT⟩:=I.loc;obtain⟨u',r,l⟩:=JT j y E hN hσ (.inr (S.cell y J));refine⟨u',r,?_⟩;rcases l with⟨k,_⟩|⟨_,c,e,z⟩
    .have k':X.env.scope.names.lookup y=some .local:=k;rcases S.cell y J with z|z <;> (rw[z]at k';cases k')
    .obtain⟨c',P⟩:=Option.isSome_iff_exists.mp (OP (cells:=X.env.cells) scope.names [] (.inr (IT (S.free y J))));have R:=T y c' P;rw[e]at R;cases R;exact .inr ⟨.inr (S.free y J),c,(T1 (ce:=some x) (U y J)).trans P,d c _ z⟩
  .have t:(AA++[x])[i]?=some y:=e1;have a:(As js Z++[some v])[i]?=some (some E):=G;rw[Ff (by omega)]at t;rw[Ff (by omega),O]at a;have z:i - AA.length=0:=by
    have:=(List.getElem?_eq_some_iff.mp t).1
    simpa using this
   rw[z]at t a;cases t;cases a;exact⟨u,V,.inr ⟨.inl hx,_,Qq,Bw⟩⟩
 .rcases D y c e with⟨_,rfl⟩|⟨_,EN⟩
  .exact⟨some u,Bw⟩
  .obtain⟨v,z⟩:=I.cell y c EN;exact⟨v,d c v z⟩
 .rcases D y c e with⟨_,rfl⟩|⟨_,EN⟩
  .exact I.AB.fresh (Dw _)
  .exact I.DJ y c EN
 .show(As js Z++[some v]).length=(AA++[x]).length;unfold As;simp[B]
theorem zL{k:Nat}{Dq c:Value}{Q:VK}(S:DR X.N X.env.scope scope (some x) [x] AA js)(hx:scope.names.lookup x=some .cell)(I:Inv X ZB Z H s)
  (e0:Gb X.prog X.w X.K X.mg X.base A X.stack s H) (g:B8 k A) (p:s.heap.get? f=some (PySem.W.kla_obj "<lambda>" q params body scope (BB X.env.cells scope.names) c c' Dq)) (r:H c'=some (.C3 (.Hj q)))
  (co:scope.isCoroutine=false) (gen:scope.isGenerator=false) (b:∀u,bindArgs (PySem.W.kla_fn "<lambda>" q params body scope (BB X.env.cells scope.names) c (.ref c') Dq) ⟨[u],[]⟩=pure [(x,u)]) (i:RelV v u)
  (B:PE (S8 X A (AA++[x]) x (Nz q scope x (BB X.env.cells scope.names) s.heap.objs.size f (.ref c')) s H) body tb) (h:tb (As js Z++[some v]) H Q) :
  codeAny (model X.prog X.w) A (.call (.ref f) ⟨[u],[]⟩) (CR DD X.stack X.prog X.w H s Q (λ_ _ _=>False)) s:=by
 have C:s.heap.CodeRec (.ref c') q:=by
  obtain⟨o,vs,t,e,d,n⟩:=I.AB c' _ r;exact⟨c',o,vs,t,rfl,e,d,n⟩
 refine PySem.W.kla_callFunE g.depth p rfl co gen rfl C ?_;rw[b];refine nW (t9 S.kind hx S.cf S.pc λh' m Er a Bw=>⟨I.nolimit.keeps a,?_⟩);have J:=ZEp (t':=s.toks) (q:=q) (f:=f) (cd:=.ref c') S hx I e0 g.hd i Er a Bw;refine PySem.W.kla_codeExpr (sE (B [] _ _ H Q J h) (λu' s' z=>?_) λe s' z=>False.elim z);obtain⟨y,H',J',j,l⟩:=z;exact⟨y,H',J'.os,J'.bare,J'.base,J'.AB,j,l⟩
end
theorem ZAt{b:ZI0}(x:h.Ns a m)(y:h.Ns a b):m=b:=by
 obtain⟨o,es,ep,ho,hd,_,c⟩:=x;obtain⟨o',BP,Hy,CP,Gp,_,UX⟩:=y;rw[ho]at CP;cases CP;rw[hd]at Gp;cases Gp
 funext n
 rw[<- c n,UX n]
section
variable{prog:Program}
theorem ZF8{L:Addr}{e:Nat}{P:PySem.Fin->Shared->Prop}(Er:s.heap.Ns L m)(hk:s.heap.get? kS=some (seqObj "list" keys e))(r:s.heap.get? a=some (seqObj "list" #[] e1))
  (R4:kS≠a) (l:kS≠L) (t:a≠L) (n:IntsAre keys.toList kz) (f:kz.length=vs.length) (DV:vs.length<64)
  (h:∀h' tk out c,h'.Ns L m->(∀b o,b≠L->b≠kS->b≠a->s.heap.get? b=some o->h'.get? b=some o)->h'.get? a=some (seqObj "list" out c)->KskOut false kz vs out.toList->P (.done (.ret .none)) { s with heap:=h',toks:=tk }) :
  wpAny (model prog w) A (ksk_end a false vs.toArray e1 (.ref kS) keys) P E s:=by
 have mem:∀{b:Addr}{o:Obj},(b,o)∈(Hu.ledger s.heap L kS).filter (λp=>decide (p.1≠a))↔(b≠L/\b≠kS/\s.heap.get? b=some o)/\b≠a:=λ{b o}=>by
  rw[ZW,Hu.z4,ZAE]
 refine ksk_end_ (e:=e) (h₀:=Hu.QH s.heap) (L:=L) (m:=m) (news:=(Hu.ledger s.heap L kS).filter (λp=>decide (p.1≠a))) (Hu.ZFb Er) (λp d=>?_) R4 (λ⟨b,o⟩d=>(mem.mp d).1.2.1) (λ⟨b,o⟩d=>(mem.mp d).2) n f DV λh' tk out c F N k=>?_
 .rcases List.mem_append.mp d with z|z
  .obtain⟨b,o⟩:=p;have q:=mem.mp z;exact⟨q.1.2.2,q.1.1,Hu.RN _ _⟩
  .rcases List.mem_cons.mp z with rfl|z
   .exact⟨hk,l,Hu.RN _ _⟩
   .rw[List.mem_singleton.mp z];exact⟨r,t,Hu.RN _ _⟩
 .exact h h' tk out c F.ns (λb o j i g e=>(N (b,o) (BM _ (mem.mpr ⟨⟨j,i,e⟩,g⟩))).1) (N (a,seqObj "list" out c) B1).1 k
theorem Inv.rL{o:HO}(I:Inv X ZB Z H s)(n:H a=none)(f:X.s₀.heap.objs.size<=a)(hL:a≠X.env.locals)(i:∀x c,X.env.cells.lookup x=some c->c≠a)(g:∀p∈X.pn++ZB,p.1≠a)(ok:BZ X.prog X.w (upd H a o) s.heap a o):Inv X ZB Z (upd H a o) s:=by
 have ne:∀b u,H b=some u->b≠a:=λb u e=>DS e n;refine I.step (h':=s.heap) (g':=s.gens) (d':=s.drawn) (t':=s.toks) (ch:=[a]) (λb d=>?_) (λb u _ _ _ e _=>e) (λb u _ _ _ e _=>⟨u.slots,e⟩) (λb u d e n=>by rw[AK (λz=>d (by simp[z]))];exact n) (λb u _ e=>⟨u,e⟩)
  (λb x e=>by rw[AK (ne b _ e)];exact e) (λb _ _ e=>by rw[AK (ne b _ e)];exact e) (λm h=>h) (λb u e=>?_) I.bare
 .have e:b=a:=by simpa using d
  subst e;exact⟨.inr f,hL,i,g⟩
 .by_cases z:b=a
  .subst z;rw[AV]at e;cases e;exact ok
  .rw[AK z]at e;exact(I.AB b u e).EZ (λ_ _ _ e=>e) (λc e=>by rw[AK (ne c _ e)];exact e) λc _ e=>by rw[AK (ne c _ e)];exact e
theorem Inv.Rm(I:Inv X ZB Z H s)(e:s.heap.get? a=some o)(h:∀v,o.data≠.cell v):∀x c,X.env.cells.lookup x=some c->c≠a:=λx c q z=>by
 obtain⟨v,o',ho,hd⟩:=I.cell x c q;rw[z,e]at ho;cases ho;exact h _ hd
theorem Inv.qc{o':Obj}(I:Inv X ((a,o)::ZB) Z H s)(d:Heap.SameBut a s.heap h')(e:h'.get? a=some o')(c:X.s₀.heap.objs.size<=a)(f:∀p∈X.pn++ZB,p.1≠a)(i:∀v,o'.data≠.cell v):
  Inv X ((a,o')::ZB) Z H { s with heap:=h',toks:=t' }:=by
 obtain⟨g,n,hL,h,WT⟩:=I.pin (a,o) (C1 _ B1);exact(I.ML.turned (t':=t') (λb u j q=>(d.2 b j).trans q) n hL (.inr c) (I.Rm g WT) f).NC e n hL h i
theorem ZEQ{P:PySem.Fin->Shared->Prop}(I:Inv X ((kS,seqObj "list" #[] 0)::(a,seqObj "list" #[] e1)::ZB) Z H s)
  (hk:X.s₀.heap.objs.size<=kS) (ha:X.s₀.heap.objs.size<=a) (R4:kS≠a) (F:∀p∈X.pn++ZB,p.1≠kS) (V:∀p∈X.pn++ZB,p.1≠a) (DV:A3.length<64) (T:W 0 [] H)
  (B:∀i ks H2 s2 P2 v,A3[i]?=some v->ks.length=i->W i ks H2->Inv X P2 Z H2 s2->(∀p∈ZB,p∈P2)->wpAny (model X.prog X.w) A (call (.ref f) [v]) (EP X P2 Z (λy H3=>∃k:Int,y=.int k/\W (i+1) (ks++[k]) H3)) (λ_ _=>False) s2)
  (h:∀ks H2 s2 out c,W A3.length ks H2->ks.length=A3.length->KskOut false ks A3 out.toList->Inv X ((a,seqObj "list" out c)::ZB) Z H2 s2->P (.done (.ret .none)) s2) :
  wpAny (model X.prog X.w) A (ksk_rest a (.ref f) false A3.toArray e1 (.ref kS)) P E s:=by
 unfold ksk_rest;refine dP (ZA8 ?_)
 first
  |rw[List.forIn_toArray]
  | (rw[<- ZGN];simp only[ZGv])
  |rw[<- ZGN]
 have D:∀p∈X.pn++(a,seqObj "list" #[] e1)::ZB,p.1≠kS:=λp K=>by
  rcases List.mem_append.mp K with z|z
  .exact F p (DN _ z)
  .rcases List.mem_cons.mp z with rfl|z
   .exact R4.symm
   .exact F p (C1 _ z)
 refine dP (ksk_fold (λi s'=>∃g e ks H2,Inv X ((kS,seqObj "list" g e)::(a,seqObj "list" #[] e1)::ZB) Z H2 s'/\W i ks H2/\IntsAre g.toList ks/\ks.length=i) A3 0 s ⟨#[],0,[],H,I,T,.nil,rfl⟩ ?step ?done)
 case step=>
  rintro j x s' hx⟨g,e,ks,H2,I2,hw,hi,r⟩;simp only[NP]at hw r ⊢;have hj:j<A3.length:=(List.getElem?_eq_some_iff.mp hx).1;refine dP (ZAF (sE (B j ks H2 s' _ x hx r hw I2 λp K=>BM _ (BM _ K)) (λv s2 he=>?_) λ_ _ hF=>hF.elim));obtain⟨y,H3,I3,U,k,rfl,G⟩:=he;obtain⟨t,rfl⟩:∃t,v=.int k t:=U
  try dsimp only
  have nk:=(I3.pin (kS,seqObj "list" g e) (C1 _ B1)).1;have hz:g.size<=A3.length:=by
   have h1:=hi.length;rw[Cj]at h1;omega
  have s1:=Hf s2.heap kS (Obj.mapSeq (·.push (.int k t)))
  obtain⟨c2,Kh⟩:∃c2,(s2.heap.update kS (Obj.mapSeq (·.push (.int k t)))).get? kS=some (seqObj "list" (g.push (.int k t)) c2):=⟨_,get?_update_seq nk (·.push (.int k t))⟩
  refine dP (listUpdate_at nk rfl ?_ (by rw[ZA1];omega) (Be (Zb (Array.size_push ..)) (by rw[ZA1];omega)));refine nW ⟨rfl,g.push (.int k t),c2,ks++[k],H3,I3.qc (t':=s2.toks) s1 Kh hk D (λv z=>by cases z),G,?_,by rw[BI,r];rfl⟩;rw[show(g.push (Value.int k t)).toList=g.toList++[Value.int k t] by simp];exact ksk_snoc hi
 case done=>
  rintro s'⟨g,e,ks,H2,I2,hw,hi,r⟩;rw[NP]at hw r;obtain⟨nk,Y,R,kf,_⟩:=I2.pin (kS,seqObj "list" g e) (C1 _ B1);have J:=I2.ML;obtain⟨N,S,M,af,_⟩:=J.pin (a,seqObj "list" #[] e1) (C1 _ B1);obtain⟨m,Er,_⟩:=J.loc
  try dsimp only
  refine dP (listItems_at nk rfl ?_);refine ZF8 Er nk N R4 R M hi r DV λh' tk out c Q keep ea σ=>?_;have C:∀b u,H2 b=some u->b≠kS/\b≠a:=λb u e=>⟨λz=>absurd (e.symm.trans (z▸Y)) (by simp),λz=>absurd (e.symm.trans (z▸S)) (by simp)⟩;have J1:Inv X ZB Z H2 { s' with heap:=h',toks:=tk }:=by
   refine J.ML.step (g':=s'.gens) (d':=s'.drawn) (ch:=[kS,a]) (λb L=>?_) (λb o h1 _ l e _=>?_) (λb o h1 _ l e _=>⟨o.slots,?_⟩) (λ_ _ _ _ n=>n) (λb o l e=>?_) (λ_ _ e=>e) (λ_ _ _ e=>e) (λm2 h2=>by rw[ZAt h2 Er];exact Q) (λb u e=>?_) I2.bare
   .rcases List.mem_cons.mp L with rfl|L
    .exact⟨.inr hk,R,I2.Rm nk (λv z=>by cases z),F⟩
    .rw[List.mem_singleton.mp L];exact⟨.inr ha,M,I2.Rm N (λv z=>by cases z),V⟩
   .exact keep b o h1 (λz=>l (by simp[z])) (λz=>l (by simp[z])) e
   .exact keep b o h1 (λz=>l (by simp[z])) (λz=>l (by simp[z])) e
   .by_cases z:b=X.env.locals
    .obtain⟨o',_,_,CP,_⟩:=Q;exact⟨o',z▸CP⟩
    .exact⟨o,keep b o z (λz=>l (by simp[z])) (λz=>l (by simp[z])) e⟩
   .have O:∀d v,H2 d=some v->d≠X.env.locals:=λd v e z=>by rw[z,I2.free]at e;cases e
    refine(I2.AB b u e).EZ (λd v hd q=>?_) (λ_ q=>q) λ_ _ q=>q;rcases hd with rfl|hd
    .exact keep d v (O d _ e) (C d _ e).1 (C d _ e).2 q
    .exact keep d v (O d _ hd) (C d _ hd).1 (C d _ hd).2 q
  exact h ks H2 _ out c hw r σ (J1.NC ea S M af λv z=>by cases z)
theorem uI{l:Addr}(I:Inv X ZB Z H s)(t:s.heap.IsList l A3.toArray)(DV:A3.length<64)(C:W 0 [] H)
  (e:∀i ks H2 s2 P2 v,A3[i]?=some v->ks.length=i->W i ks H2->Inv X P2 Z H2 s2->(∀p∈ZB,p∈P2)->wpAny (model X.prog X.w) X.A.in1.in1 (call (.ref f) [v]) (EP X P2 Z (λy H3=>∃k:Int,y=.int k/\W (i+1) (ks++[k]) H3)) (λ_ _=>False) s2)
  (h:∀D ks H2 s2 out c,W A3.length ks H2->ks.length=A3.length->KskOut false ks A3 out.toList->Inv X ((D,seqObj "list" out c)::ZB) Z H2 s2->s.heap.objs.size<=D->Q (.ref D) s2) :
  wpAny (model X.prog X.w) X.A (call (.builtin "sorted") [.ref l] [(Str.ofString "key",.ref f)]) Q E s:=by
 refine call_function_entry_kw kind_sorted plain_sorted entry_sorted (ksk_s1 _ _) ?_;unfold Builtin.«sorted»;refine dP (m:=checkCount "sorted" 1 1 _) (nW ?_);refine dP (collect_list t ?_ (by rw[ZA1];omega));refine dP (ZB0 ?_ (by rw[ZA1];omega));have hsz:((s.heap.push (seqObj "list" #[] 0)).update s.heap.objs.size (Obj.mapSeq (·++A3.toArray))).objs.size=s.heap.objs.size+1:=by
  rw[ly,Du]
 have d:(((s.heap.push (seqObj "list" #[] 0)).update s.heap.objs.size (Obj.mapSeq (·++A3.toArray))).push (seqObj "list" A3.toArray 0)).get? (s.heap.objs.size+1)=some (seqObj "list" A3.toArray 0):=by
  rw[<- hsz];exact BQ _ rfl
 have keep:∀b o,s.heap.get? b=some o->(((s.heap.push (seqObj "list" #[] 0)).update s.heap.objs.size (Obj.mapSeq (·++A3.toArray))).push (seqObj "list" A3.toArray 0)).get? b=some o:=λb o q=>by
  have x:b<s.heap.objs.size:=AY q;rw[Heap.get?_push_ne _ _ _ (by rw[hsz];exact B7 (Hh x)),lx _ _ _ _ (B7 x),Heap.get?_push_ne _ _ _ (B7 x)];exact q
 show wpAny _ _ _ _ _ { s with heap:=((s.heap.push (seqObj "list" #[] 0)).update s.heap.objs.size (Obj.mapSeq (·++A3.toArray))).push (seqObj "list" A3.toArray 0) }
 rw[hsz];generalize hh:((s.heap.push (seqObj "list" #[] 0)).update s.heap.objs.size (Obj.mapSeq (·++A3.toArray))).push (seqObj "list" A3.toArray 0)=g at d keep
 refine dP (rG (wpAny_call_entry_kw slot_list_sort ⟨_,d,rfl⟩ entry_list_sort ?body (ksk_l1 _ _)))
 case body=>
  show wpAny (model X.prog X.w) X.A.in1.in1 (Builtin.«list.sort» ⟨[.ref (s.heap.objs.size+1)],[(Str.ofString "key",.ref f)]⟩) _ _ _;rw[ksk_t1];obtain⟨e1,PM⟩:∃e1,(g.update (s.heap.objs.size+1) (Obj.mapSeq λ_=>(#[]:Array Value))).get? (s.heap.objs.size+1)=some (seqObj "list" #[] e1):=⟨_,get?_update_seq d λ_=>#[]⟩;unfold ksk_tree;refine dP (listItems_at d rfl ?_);refine dP (listUpdate_at d rfl ?_ (by rw[Bn,ZA1];omega) (CJ _));refine dP (seqEpoch_at PM rfl ?_);refine dP (wpAny_newTuple ?_ (by show A3.length<=_;rw[ZA1];omega));refine dP (ZB0 ?_ (CJ _));refine rG ?_;have r:s.heap.objs.size+1<g.objs.size:=AY d;have up:∀b o,b≠s.heap.objs.size+1->g.get? b=some o->(((g.update (s.heap.objs.size+1) (Obj.mapSeq λ_=>(#[]:Array Value))).push (seqObj "tuple" A3.toArray 0)).push (seqObj "list" #[] 0)).get? b=some o:=λb o u q=>Ao _ (Ao _ ((lx _ _ _ _ u).trans q));have n:∀b o,s.heap.get? b=some o->(((g.update (s.heap.objs.size+1) (Obj.mapSeq λ_=>(#[]:Array Value))).push (seqObj "tuple" A3.toArray 0)).push (seqObj "list" #[] 0)).get? b=some o:=λb o q=>up b o (B7 (Hh (AY q))) (keep b o q);have kz:((g.update (s.heap.objs.size+1) (Obj.mapSeq λ_=>(#[]:Array Value))).push (seqObj "tuple" A3.toArray 0)).objs.size=g.objs.size+1:=by rw[Du,ly]
  have K:(((g.update (s.heap.objs.size+1) (Obj.mapSeq λ_=>(#[]:Array Value))).push (seqObj "tuple" A3.toArray 0)).push (seqObj "list" #[] 0)).get? (g.objs.size+1)=some (seqObj "list" #[] 0):=by rw[<- kz];exact BQ _ rfl
  have L:(((g.update (s.heap.objs.size+1) (Obj.mapSeq λ_=>(#[]:Array Value))).push (seqObj "tuple" A3.toArray 0)).push (seqObj "list" #[] 0)).get? (s.heap.objs.size+1)=some (seqObj "list" #[] e1):=Ao _ (Ao _ PM);show wpAny _ _ (ksk_rest (s.heap.objs.size+1) (.ref f) false A3.toArray e1 (.ref ((g.update (s.heap.objs.size+1) (Obj.mapSeq λ_=>(#[]:Array Value))).push (seqObj "tuple" A3.toArray 0)).objs.size)) _ _ _;rw[kz];have a:s.heap.objs.size<=s.heap.objs.size+1:=Dw _;have j:s.heap.objs.size<=g.objs.size+1:=by omega
  have B:∀{b:Addr},s.heap.objs.size<=b->∀p∈X.pn++ZB,p.1≠b:=λu p G z=>absurd (AY (I.pin p G).1) (by rw[z];exact Po u);have J:=I.kept (t':=s.toks) n;have N:=J.NC L (I.AB.fresh a) (E9 (CI I.lt a)) (I.PB a) (λv z=>by cases z);have M:=N.NC K (I.AB.fresh j) (E9 (CI I.lt j)) (I.PB j) (λv z=>by cases z);refine ZEQ M (Be I.sz j) (Be I.sz a) (E9 (Hh r)) (B j) (B a) DV C e λks H2 s2 out c hw t F J3=>⟨_,rfl,?_⟩;exact nW ⟨_,rfl,h _ ks H2 s2 out c hw t F J3 a⟩
end
theorem AL.up{K:ZHy}{H':Hp}(h:AL K H a xs)(up:∀b o,H b=some o->H' b=some o):AL K H' a xs:=by
 rcases h with h|h
 .exact .inl (h.imp (up _ _) λ⟨o,e⟩=>⟨o,up _ _ e⟩)
 .exact .inr h
theorem _root_.PySem.Paired.ZDp(r:Vals xs us)(e:us[i]?=some u):∃x,xs[i]?=some x/\RelV x u:=by
 have hi:=(List.getElem?_eq_some_iff.mp e).1;have c:=r.length;obtain⟨u',a,b⟩:=r.get (Au (show i<xs.length by omega));rw[e]at a;cases a;exact⟨_,Au (by omega),b⟩
def cy(kz:List Int)(xs ys:List V):Prop:=∃ps:List (Int×V),ps.Perm (kz.zip xs)/\ys=ps.map (·.2)/\ps.Pairwise λp q=>p.1<=q.1
theorem ie{α β:Type}{F:α->β->Prop}{l2 m2:List β}(p:m2.Perm l2):∀{l1:List α},Paired F l1 l2->∃b:List α,b.Perm l1/\Paired F b m2:=by
 induction p with
 |nil=>intro l1 r;exact⟨l1,.refl _,r⟩
 |cons x p d=>
  intro l1 r;cases r with
  |cons h t=>
   obtain⟨m,a,rm⟩:=d t;exact⟨_,a.cons _,.cons h rm⟩
 |swap x y l=>
  intro l1 r;cases r with
  |cons h t=>
   cases t with
   |cons h2 t=>exact⟨_,.swap _ _ _,.cons h2 (.cons h t)⟩
 |trans p1 p2 KR Kf=>
  intro l1 r;obtain⟨m,a,rm⟩:=Kf r;obtain⟨n,pn,c⟩:=KR rm;exact⟨n,pn.trans a,c⟩
theorem ZEi(r:Vals xs vs):Paired (λ(p:Int×V)(q:Int×Value)=>p.1=q.1/\RelV p.2 q.2) (kz.zip xs) (kz.zip vs):=by
 induction r generalizing kz with
 |nil=>rw[ZGw,ZGw];exact .nil
 |cons h t a=>
  cases kz with
  |nil=>exact .nil
  |cons k kz=>exact .cons ⟨rfl,h⟩ a
theorem yZ{out:List Value}(r:Vals xs vs)(k:KskOut false kz vs out):∃ys,cy kz xs ys/\Vals ys out:=by
 obtain⟨ps,g,rfl,d⟩:=k;obtain⟨c,f,j⟩:=ie g (ZEi r);refine⟨c.map (·.2),⟨c,f,rfl,?_⟩,?_⟩
 .have e:c.map (·.1)=ps.map (·.1):=by
   clear d g f
   induction j with
   |nil=>rfl
   |cons h t i=>rw[D4,D4,h.1,i]
  have l:(ps.map (·.1)).Pairwise (λa b:Int=>a<=b):=List.pairwise_map.mpr (d.imp λh=>by simpa using h)
  rw[<- e]at l;exact List.pairwise_map.mp l
 .clear d g f
  induction j with
  |nil=>exact .nil
  |cons h t i=>exact .cons h.2 i
def WN(K:ZHy)(P:Addr)(pos:Pos)(q:Str)(js:List Nat)(ta:TA)(tb:TE):TE:=λZ H Q=>ta Z H λvs H1=>∃a xs,vs=[.ref a]/\AL K H1 a xs/\xs.length<64/\H1 P=some (.C3 (.tab pos q))/\
 ∀c' H2,(∀b o,H1 b=some o->H2 b=some o)->H2 c'=some (.C3 (.Hj q))->
  ∃W:Nat->List Int->Hp->Prop,W 0 [] H2/\(∀i ks H3,W i ks H3->H3 c'=some (.C3 (.Hj q)))/\
   (∀i ks H3 v,W i ks H3->ks.length=i->xs[i]?=some v->tb (As js Z++[some v]) H3 λy H4=>∃k:Int,y=.int k/\W (i+1) (ks++[k]) H4)/\
   ∀ks H3 ys,W xs.length ks H3->ks.length=xs.length->cy ks xs ys->∀l,H3 l=none->Q (.ref l) (upd H3 l (.lst ys))
theorem ZCL{P:Addr}{k:Nat}{p:Pos}{l:Expr}{AA:List Str}(hr:B8 (k+2) X.A)(Bw:X.calm=true)(hg:Gl X "sorted")(hm:X.mg "sorted"=none)(ha:PA X [l] ta)
  (S:DR X.N X.env.scope scope (some x) [x] AA js) (hx:scope.names.lookup x=some .cell) (co:scope.isCoroutine=false) (gen:scope.isGenerator=false) (hC:PySem.W.codeHdIn X.K c P=true) (hc:X.env.code=.ref c) (XU:X.env.globals=mainGlobals)
  (hb:X.base.BuiltinsAt X.mg P) (Ic:mainGlobals≠P) (d:X.env.qual ++ "<lambda>"=q) (NR:defaultsOf params X.env=([],[]))
  (t:∀(cl:List (Str×Addr))(σ Dq u:Value)(c':Addr),bindArgs (PySem.W.kla_fn "<lambda>" q params body scope cl σ (.ref c') Dq) ⟨[u],[]⟩=pure [(x,u)])
  (HD:∀(f:Addr)(cd:Value)(s:Shared)(H:Hp),PE (S8 X X.A.in1.in1 (AA++[x]) x (Nz q scope x (BB X.env.cells scope.names) s.heap.objs.size f cd) s H) body tb)
  (F:starEach [l] X.env=[(false,eval l X.env)]:=by rfl) :
  PE X (.Call (.Name "sorted" p) [l] [⟨some "key",.Lambda params body scope O0,kp⟩] pos) (WN X.K P O0 q js ta tb):=by
 intro ZB s Z H Q I h;refine wF (Lg I hg hm (show bootBuiltins "sorted"=some (.builtin "sorted") by decide +kernel) ?_ (by decide) (by decide));refine callWith_kw (ha.k pos I h λus s1 vs H1 I1 T V=>?_) (by rw[F];rfl) (by rw[F];rfl) rfl rfl;obtain⟨a,xs,rfl,C,DV,hP,U⟩:=V;obtain⟨u,rfl,R⟩:=vals1 T;cases R;have OS:∀y∈scope.names,y.2=.free->(X.env.cells.lookup y.1).isSome=true:=λy m hk=>by
  obtain⟨c,e⟩:=I1.ok.has y.1 (S.all y m hk);rw[e];rfl
 refine kws_cons (tT I1 hP (ZH8 I1.ok.mod.HE hC) hc XU (br OS) hb Ic d NR λf c' Dq s2 H2 I2 up GL ho=>?_);refine kws_nil ?_;show wpAny (model X.prog X.w) X.A (call (.builtin "sorted") [.ref a] [(Str.ofString "key",.ref f)]) (EP X ZB Z Q) X.xe s2;obtain⟨W,L,G,j,fin⟩:=U c' H2 up GL;obtain⟨A3,B,pl,_⟩:=I2.list (C.up up);have b:=B.length;refine uI (W:=W) I2 pl.isList (by omega) L (λi ks H3 M P2 v hv E hw I3 sub=>?_) (λD ks H3 M out c2 hw E ko I3 big=>?_)
 .obtain⟨y,m,O⟩:=B.ZDp hv;have hf:=(I3.pin (f,PySem.W.kla_obj "<lambda>" q params body scope (BB X.env.cells scope.names) ((X.mg "__name__").getD .none) c' Dq) (C1 _ (sub _ B1))).1;refine ZAJ (ZAD (zL (k:=k) S hx I3 I3.RP.in1.in1 hr.in1.in1 hf (G _ _ _ hw) co gen (λu=>t _ _ _ u _) O (HD _ _ _ _) (j i ks H3 y hw E m)) λr s' d=>?_);cases r with
  |error e=>exact False.elim d
  |ok fl=>
   cases fl with
   |ret u=>exact I3.after d
   |next=>exact False.elim d
   |brk=>exact False.elim d
   |cont=>exact False.elim d
 .obtain⟨ys,kv,Je⟩:=yZ B ko;obtain⟨g,n,hL,_,WT⟩:=I3.pin (D,seqObj "list" out c2) (C1 _ B1);have J:=I3.ML.ML;have m:ys.length<=sizeLine:=by
   obtain⟨ps,Y,e,_⟩:=kv;have:=Y.length_eq;rw[List.length_zip]at this;rw[e,AG,this,ZA1];omega
  refine⟨.ref D,_,J.rL (o:=.lst ys) n (Be I2.sz big) hL (J.Rm g WT) (λp hp z=>?_) ⟨m,out.toList,c2,Je,by rw[Array.toArray_toList];exact g⟩,rfl,fin ks H3 ys (by rw[b];exact hw) (by rw[b];exact E) kv D n⟩;exact absurd (AY (I2.ML.pin p hp).1) (by rw[z];exact Po big)
theorem ZD0{P:Program}{K:ZHy}{mg mb:ZI0}{CX:Fj}{k:Nat}{A:Addr}{fd:FuncData}{sp:Sp}
  (KX:K.In s₁.heap) (Er:s₁.heap.Ns mainGlobals mg) (f:s₁.heap.Ns builtinsNs mb) (S:∀x:Str,x ≠"__name__" -> mb x=bootBuiltins x) (ZFy:s₁.heap.NoLimit) (Y:s₁.gens=#[])
  (i:s₁.heap.get? a=some { cls:=.type "list", data:=.seq vs.toArray }) (hi:IntsAre vs ns) (hl:ns.length<=sizeLine) (hr:B8 k callerA)
  (hT:s₁.heap.get? T=some (PySem.W.tabObj #[])) (hB:s₁.heap.BuiltinsAt mg T) (hC:PySem.W.CodeHd s₁.heap c T) (nT:K.lookup T=none)
  (F:∀Yd:Heap,K.In Yd->Yd.Ns mainGlobals mg->Yd.BuiltinsAt mg T->Cs P w K mg Yd CX k A fd [x] sp) (ZCE:∀(s:Shared)(u:Value),BindsTo s fd ⟨[u],[]⟩ [(x,u)])
  (Ey:∀H:Hp,H T=some (.C3 (.tab pos q))->AL K H a (ns.map V.int)->sp [.ref a] H (λv _=>v=.bl true) λ_ _ _=>False)
  (Vg:∀H e s',CX [] H s₁ (λ_ _ _=>False) e s'->False) :
  codeAny (model P w) callerA (.call (.ref A) ⟨[.ref a],[]⟩) (λr s'=>r=.ok (.ret (.bool true))/\OldK s₁.heap s'.heap/\s'.os=s₁.os/\AllBare s'.gens) s₁:=by
 have D:=iH hi;have R:=hi.length;have N:a≠T:=λz=>by rw[z,hT]at i;cases i
 have g:∀H:Hp,(∀b,b≠T->H b=none∨∃o xs,H b=some (.Et o (.lst xs)))->H T=some (.C3 (.tab pos q))->AL K H a (ns.map V.int)->BX P w H s₁.heap->(∀b,H b≠none->b=a∨b=T)->(H a≠none->K.lookup a=none)->
   codeAny (model P w) callerA (.call (.ref A) ⟨[.ref a],[]⟩) (λr s'=>r=.ok (.ret (.bool true))/\OldK s₁.heap s'.heap/\s'.os=s₁.os/\AllBare s'.gens) s₁:=by
  intro H hO J σ AB y hK;have C:∀{b:Addr}{o:Obj},s₁.heap.get? b=some o->H b=none->(IH s₁.heap H).get? b=some o:=λe n=>ZFu e n;have LI:∀{b:Addr}{o:Obj}{es:Array DictEntry}{ep:Nat},s₁.heap.get? b=some o->o.data=.dict es ep->H b=none:=λ{b o es ep}e d=>by
   cases q:H b with
   |none=>rfl
   |some u=>
    rcases y b (by rw[q];simp)with e'|e'
    .subst e';rw[i]at e;cases e;have d':Data.seq vs.toArray _=Data.dict es ep:=d;cases d'
    .subst e';rw[hT]at e;cases e;have d':Data.fields (#[]:Array Value)=Data.dict es ep:=d;cases d'
  have l:∀{b:Addr}{m:ZI0},s₁.heap.Ns b m->(IH s₁.heap H).Ns b m:=λ{b m}AM=>by obtain⟨o,es,ep,e,d,r⟩:=AM;exact⟨o,es,ep,C e (LI e d),d,r⟩
  have G:K.In (IH s₁.heap H):=λb o e=>C (KX b o e) (by
   cases q:H b with
   |none=>rfl
   |some u=>
    rcases y b (by rw[q];simp)with e'|e'
    .subst e';rw[hK (by rw[q];simp)]at e;cases e
    .subst e';rw[nT]at e;cases e)
  have hM:Mod K mg (IH s₁.heap H):=⟨G,l Er,⟨mb,l f,S⟩,let ⟨mc,h1,h2⟩:=ZFy;⟨mc,l h1,h2⟩⟩;have t:(IH s₁.heap H).BuiltinsAt mg T:=by
   obtain⟨bm,o,b1,b2,b3,M,B,L,b7⟩:=hB;refine⟨bm,o,b1,b2,b3,M,C B ?_,L,b7⟩;cases q:H bm with
   |none=>rfl
   |some u=>
    rcases y bm (by rw[q];simp)with e'|e'
    .rw[e',i]at B;cases B;exact absurd (show Value.type "list"=Value.type "module" from L) (by decide)
    .exact absurd e' M
  have e0:Gb P w K mg (IH s₁.heap H) callerA [] s₁ H:=⟨rfl,hM,λb o e=>ZE8 e,Zb (tw _ _),trivial,λb f=>absurd (show b∈([]:List Addr)from f) (by simp),AB,.of_eq Y⟩;refine ZAD ((F _ G (l Er) t).run callerA [] s₁ H ⟨[.ref a],[]⟩ [.ref a] [.ref a] _ _ hr e0 (ZCE s₁ (.ref a)) (.cons rfl .nil) (Ey H J σ)) λr s' h=>?_;cases r with
  |error e=>exact(Vg H e s' h).elim
  |ok fl=>
   cases fl with
   |next=>exact False.elim h
   |brk=>exact False.elim h
   |cont=>exact False.elim h
   |ret u=>
    obtain⟨v,H',os,bare,un,E,U,qv⟩:=h;have X:v=.bl true:=qv;subst X;obtain rfl:u=Value.bool true:=U;have p:=un.FX T (.C3 (.tab pos q)) J;obtain⟨ps,I,_⟩:=E T _ p;have keep:∀b o,b≠T->s₁.heap.get? b=some o->s'.heap.get? b=some o:=λb o j e=>by
     cases q:H b with
     |none=>exact un.keep b o e q (by intro z;exact absurd (show b∈([]:List Addr)from z) (by simp)) (by simp)
     |some u=>
      rcases hO b j with z|⟨ob,xs,z⟩
      .rw[q]at z;cases z
      .have Q:=un.Fd b ob _ z;obtain⟨e1,_⟩:=AB b _ z;obtain⟨e2,_⟩:=E b _ Q;rw[e]at e1;cases e1;exact e2
    refine⟨rfl,⟨λb o e=>?_,λb o e=>?_⟩,os,bare⟩
    .by_cases j:b=T
     .subst j;rw[hT]at e;cases e;exact .inr (.inl ⟨(hC.tab hT).isCodeTable,rfl,#[],ps,rfl,by rw[I];simp⟩)
     .exact .inl (keep b o j e)
    .by_cases j:b=T
     .subst j;exact⟨_,I⟩
     .exact⟨o,keep b o j e⟩
 have O:∀H:Hp,BZ P w H s₁.heap T (.C3 (.tab pos q)):=λH=>⟨#[],hT,trivial,λcv h=>by cases h⟩;cases hk:K.lookup a with
 |some o=>
  have e:=KX a o hk;rw[i]at e;cases e;refine g (upd (λ_=>none) T (.C3 (.tab pos q))) (λb f=>.inl (AK f)) AV (.inr ⟨_,vs.toArray,_,hk,rfl,rfl,rfl,by rw[Bn,R];exact hl,by simpa using D⟩) (λb u z=>?_) (λb z=>?_) λz=>absurd (AK N) z
  .by_cases f:b=T
   .subst f;rw[AV]at z;cases z;exact O _
   .rw[AK f]at z;cases z
  .by_cases f:b=T
   .exact .inr f
   .exact absurd (AK f) z
 |none=>
  refine g (upd (upd (λ_=>none) a (.Et { cls:=.type "list", data:=.seq vs.toArray } (.lst (ns.map V.int)))) T (.C3 (.tab pos q))) (λb f=>?_) AV (.inl (.inr ⟨{ cls:=.type "list", data:=.seq vs.toArray },by rw[AK N,AV]⟩)) (λb u z=>?_) (λb z=>?_) λ_=>hk
  .rw[AK f]
   by_cases h2:b=a
   .subst h2;exact .inr ⟨_,_,AV⟩
   .exact .inl (AK h2)
  .by_cases f:b=T
   .subst f;rw[AV]at z;cases z;exact O _
   .rw[AK f]at z
    by_cases h2:b=a
    .subst h2;rw[AV]at z;cases z;exact⟨i,by rw[AG];exact hl,vs,_,D,i⟩
    .rw[AK h2]at z;cases z
  .by_cases f:b=T
   .exact .inr f
   .rw[AK f]at z
    by_cases h2:b=a
    .exact .inl h2
    .exact absurd (AK h2) z
theorem pD{l:PySem.W.OpenLaw}{n k:Nat}{q:Program}{XP:(ZI0)->Heap->Prop}{YP:World->Heap->Prop}{d:DefRec}{K:Params->ZHy}{CX:World->Fj}{sp:World->Sp}
  (C:l.most=some n) (Iu:n<=sizeLine) (Ob:d.params.defaults=[]) (B:B8 k callerA)
  (I:∀(w:World)(h:Heap),YP w h->(K w.params).In h) (y:∀(w:World)(h:Heap),YP w h->h.get? T=some (PySem.W.tabObj #[])) (hC:∀w:World,PySem.W.codeHdIn (K w.params) c T=true) (nT:∀w:World,(K w.params).lookup T=none)
  (F:∀(w:World)(mg:ZI0)(p:Addr)(h:Heap),(K w.params).In h->h.Ns mainGlobals mg->mg d.name=some (.ref p)->
   ∃fd:FuncData,(∀(s:Shared)(u:Value),BindsTo s fd ⟨[u],[]⟩ [(x,u)])/\
    ∀Yd:Heap,(K w.params).In Yd->Yd.Ns mainGlobals mg->Yd.BuiltinsAt mg T->Cs l.prog w (K w.params) mg Yd (CX w) k p fd [x] (sp w))
  (Ey:∀(w:World)(H:Hp)(a:Addr)(ns:List Int),ns.length<=n->H T=some (.C3 (.tab pos qn))->AL (K w.params) H a (ns.map V.int)->sp w [.ref a] H (λv _=>v=.bl true) λ_ _ _=>False)
  (Vg:∀(w:World)(H:Hp)(s:Shared)(e:Value)(s':Shared),CX w [] H s (λ_ _ _=>False) e s'->False) :
  PySem.W.WalkO q loose XP YP l.row.toRowW d [] (λf vs=>PySem.call f vs):=by
 refine Hu.wU C Ob λw s₀ s₁ mg mb p o P cd L a vs ns G Y ho hd DK NT Xi j i D=>?_;have t:=I w _ Y;obtain⟨fd,E,hF⟩:=F w mg p _ t G.T.g NT;have J:s₁.heap.BuiltinsAt mg T:=by
  obtain⟨bm,ob,O,N,m,A,M,r⟩:=G.T.bmain;refine⟨bm,ob,O,N,λz=>?_,λz=>?_,m,A,M,r⟩
  .obtain⟨o,es,ep,e,hd,_⟩:=G.T.g;rw[z,e]at m;cases m;rw[hd]at r;cases r
  .rw[z,y w _ Y]at m;cases m;cases A
 exact ZD0 t G.T.g G.T.b G.T.builtins G.T.nolimit D Xi j (Be i Iu) B (y w _ Y) J (ZH8 t (hC w)) (nT w) hF E (λH h1 h2=>Ey w H a ns i h1 h2) λH e s'=>Vg w H s₁ e s'
structure R8 (N:List Str) (outer scope:Scope) (x:Str) (AA:List Str) (js:List Nat):Prop where
 kind:scope.kind=.function
 loc:∀y∈scope.names,y.2=.local->scope.names.lookup y.1=some .local
 IG:scope.names.lookup x=some .cell
 one:∀y∈scope.names,y.2=.cell->y.1=x
 cf:∀(n:Nat)(cl:List (Str×Addr)),cellsFrom n scope.names cl=(x,n)::cl
 pc:∀h:Heap,pushCells h scope.names=h.push { cls:=.type "cell", data:=.cell none }
 at':js.map (λj=>N[j]?)=AA.map some
 cell:∀y∈AA,outer.names.lookup y=some .cell
 free:∀y∈AA,scope.names.lookup y=some .free
 all:∀y∈scope.names,y.2=.free->outer.names.lookup y.1=some .cell
 nd:(AA++[x]).Nodup
section
variable{iter:Expr}{AA:List Str}{J:It}{fp:List Addr}{tn:Nat->Heap->Prop}
theorem R8.G(S:R8 N outer scope x AA js):DR N outer scope (some x) [x] AA js:=
 ⟨S.kind,S.loc,λy a e=>by rw[S.one y a e],λy e=>by rw[BG e];exact List.mem_singleton_self _,S.cf,S.pc,S.at',λy a=>.inl (S.cell y a),S.free,λy a e=>.inl (S.all y a e),S.nd⟩
end
structure Qn (N:List Str) (outer scope:Scope) (x:Str) (AA:List Str) (js:List Nat):Prop where
 kind:scope.kind=.function
 Hd:∀y∈scope.names,y.2≠.cell
 loc:∀y∈scope.names,y.2=.local->scope.names.lookup y.1=some .local
 IG:scope.names.lookup x=some .local
 at':js.map (λj=>N[j]?)=AA.map some
 cell:∀y∈AA,outer.names.lookup y=some .cell∨outer.names.lookup y=some .free
 free:∀y∈AA,scope.names.lookup y=some .free
 all:∀y∈scope.names,y.2=.free->outer.names.lookup y.1=some .cell∨outer.names.lookup y.1=some .free
 nd:(AA++[x]).Nodup
section
variable{iter:Expr}{AA:List Str}{wi:TI}
theorem Qn.G(S:Qn N outer scope x AA js):DR N outer scope none [x] AA js:=
 ⟨S.kind,S.loc,λy a e=>absurd e (S.Hd y a),λx e=>(by cases e),λn cl=>Uv S.Hd,λh=>Yl S.Hd,S.at',S.cell,S.free,S.all,S.nd⟩
theorem ZBs(b:X.calm=true)(S:Qn X.N X.env.scope scope x AA js)(hi:QI X (.Name x px) iter wi)
  (DI:∀fp C s H,M1 (Ei X (AA++[x]) scope (BB X.env.cells scope.names) C s H fp) ifs tt) (Cg:∀fp C s H,QE (Ei X (AA++[x]) scope (BB X.env.cells scope.names) C s H fp) elt te)
  (a:∀v,foldedSetIterable iter X.env v=pure v:=by intro _;rfl):QE X (.ListComp elt [⟨.Name x px,iter,ifs,0⟩] scope pos) (Gk wi js tt te):=
 ⟨Wj (CW:=λJ Z H1 acc Q=>OX J js tt te Z H1 acc Q) (Yu S.G) b S.G hi.h (λ_ _ _ _=>WC S.G (.inl S.IG)) (λfp C s H=>(DI fp C s H).h) (λfp C s H=>(Cg fp C s H).h) a⟩
theorem ZF4{P:Addr}{k:Nat}{p:Pos}{l:Expr}(e:B8 (k+2) X.A)(Bw:X.calm=true)(j:Gl X "sorted")(i:X.mg "sorted"=none)(o:QA X [l] ta)
  (S:R8 X.N X.env.scope scope x AA js) (hx:scope.names.lookup x=some .cell) (co:scope.isCoroutine=false) (gen:scope.isGenerator=false) (hC:PySem.W.codeHdIn X.K c P=true) (m:X.env.code=.ref c) (XU:X.env.globals=mainGlobals)
  (n:X.base.BuiltinsAt X.mg P) (Ic:mainGlobals≠P) (g:X.env.qual ++ "<lambda>"=q) (NR:defaultsOf params X.env=([],[]))
  (a:∀(cl:List (Str×Addr))(b Dq u:Value)(c':Addr),bindArgs (PySem.W.kla_fn "<lambda>" q params body scope cl b (.ref c') Dq) ⟨[u],[]⟩=pure [(x,u)])
  (HD:∀(f:Addr)(cd:Value)(s:Shared)(H:Hp),QE (S8 X X.A.in1.in1 (AA++[x]) x (Nz q scope x (BB X.env.cells scope.names) s.heap.objs.size f cd) s H) body tb)
  (d:starEach [l] X.env=[(false,eval l X.env)]:=by rfl) :
  QE X (.Call (.Name "sorted" p) [l] [⟨some "key",.Lambda params body scope O0,kp⟩] pos) (WN X.K P O0 q js ta tb):=
 ⟨ZCL e Bw j i o.h S.G hx co gen hC m XU n Ic g NR a (λf cd s H=>(HD f cd s H).h) d⟩
end
end L2
namespace Fz
open L2 Lw
variable{F:Hp}{xs:List PV}{key:PV->Int}
section
variable{P:Program}{w:World}{K:ZHy}{mg:ZI0}{Yd:Heap}{x qual:Str}{st:Stmt}{f c:Addr}{fd:FuncData}{N ps:List Str}{k:Nat}
theorem hL{pre:Pre}(F:AE K x qual st f fd)(Kl:fd.code=.ref c)(b:∀(kV a d:Value)(g:Option Addr)(AU ct:Value)(us:List Value),us.length=ps.length->bindArgs (PySem.W.fnOf x qual (II st) (DC st) (AI st) .none kV a d g AU ct) ⟨us,[]⟩=pure (ps.zip us))(m:mg x=some (.ref f))(S:Ap N ps (AI st))(e:∀ss R,pre ss R->ss.length=ps.length)
  (l:∀{A:Around}{outer:List Env}{s:Shared}{H:Hp}{E:XK},B8 k (A.deeper (envOfC qual (AI st) s.heap.objs.size f (.ref c)))->
   ∃t,Dl (Cn DD P w K mg Yd N qual (AI st) f (.ref c) A outer s H E).Gz (DC st) t/\∀ss R,pre ss R->Ws (ss++List.replicate (N.length - ps.length) .any) t (λ_=>∃k,R=.is k/\k .A8) R):AH P w K mg Yd x (k+1) ps (Af pre):=by
 refine AH.mk F (F.binds b) m ?_;obtain⟨n,od,kV,a,d,g,AU,ct,G3,rfl,i,DK⟩:=F.ex;obtain rfl:AU=.ref c:=Kl;refine XD i DK S (λvs H Q E h=>dY e h) λA outer s H vs Q E j h=>?_;obtain⟨t,q,r⟩:=l (A:=A) (outer:=outer) (s:=s) (H:=H) (E:=E) j;exact⟨t,q.h.Gz,cu h e r⟩
end
theorem ZA9{a:List (Int×V)}(r:Paired (λ(p:PV)(q:Int×V)=>q.1=key p/\Rep F q.2 p) xs a):AN F (a.map (·.2)) xs/\a.map (·.1)=xs.map key:=by
 induction r with
 |nil=>exact⟨.nil,rfl⟩
 |cons h t b=>exact⟨.cons h.2 b.1,by rw[D4,D4,h.1,b.2]⟩
theorem ZG1{vs:List V}(r:AN F vs xs):Paired (λ(p:PV)(q:Int×V)=>q.1=key p/\Rep F q.2 p) xs ((xs.map key).zip vs):=by
 induction xs generalizing vs with
 |nil=>rw[r.DL];exact .nil
 |cons p ps c=>
  obtain⟨v,ws,rfl,a,b⟩:=r.inv;exact .cons ⟨rfl,a⟩ (c b)
section
variable[Xw]
variable{ss:List Slot}{ta:TA}{tb:TE}{k:List PV->Prop}{K:ZHy}{js:List Nat}{P:Addr}{pos:Pos}{q:Str}
theorem sJ{jp:Nat}{G:Hp->V->Prop}(key:PV->Int)(U:ss[jp]?=some (.raw G))(X:∀F v,G F v->F P=some (.C3 (.tab pos q)))
  (h:Wa ss ta λl=>∃xs,l=[.sq false xs]/\xs.length<64/\(∀x∈xs,Wp (Br js ss++[.is x]) tb λp=>p=.int (key x))/\∀ys:List PV,ys.Perm xs->(ys.Pairwise λa b=>key a<=key b)->k ys)
  (nd:js.Nodup:=by decide) (np:Ks js ss=true:=by rfl):Wn ss (WN K P pos q js ta tb) k:=⟨λE Z F H Q S I=>
 h.go E Z F H _ S λvs l F1 H1 d σ z=>by
  obtain⟨xs,rfl,O,hk,kk⟩:=z;cases σ with
  |cons a t=>
   cases t;obtain⟨l,ws,rfl,_,T,r⟩:=a;obtain⟨_,_,W,_⟩:=d.st.ok jp _ U;refine⟨l,ws,rfl,AL.of T,by rw[r.length];exact O,d.st.fh _ _ (X _ _ W),λc' H2 up GL=>?_⟩;have m2:=d.st.grow up;have m:DF ss Z c':=λi hi e=>by
    obtain⟨l',e1,_,_,pt⟩:=m2.st.ok i _ hi;rw[e]at e1;cases e1;obtain⟨x,y,j,_⟩:=pt;rw[GL]at j;cases j
   refine⟨λi ks H3=>i<=xs.length/\ks=(xs.take i).map key/\∃F3,Mv E ss Z F1 H2 F3 H3,⟨CJ _,rfl,F1,.refl m2.st⟩,λi ks H3 z=>?_,λi ks H3 v z hi R=>?_,λks H3 ys z _ kv l2 n=>?_⟩
   .obtain⟨_,_,F3,c⟩:=z;exact c.hh c' _ m GL
   .obtain⟨_,g,F3,c⟩:=z;obtain⟨p,f,C⟩:=r.get' R;have o:=(List.getElem?_eq_some_iff.mp f).1;have S3:=c.st.AA (js:=js) nd (.one (C.mono c.ff));refine(hk p (C8 f)).go E _ F3 H3 _ S3 λw s F4 H4 N L Y=>?_;subst Y;cases L.inv;refine⟨key p,rfl,o,?_,F4,c.trans (N.Oa (ps:=[p]) (vs:=[v]) c.st)⟩;have j:xs[i]=p:=by rw[Au o]at f;exact BG f
    rw[Pl o,j,Dv,g];rfl
   .obtain⟨_,g,F3,c⟩:=z;rw[r.length,Gw]at g;obtain⟨ps,u,rfl,s⟩:=kv;rw[g]at u;obtain⟨zs,pz,A⟩:=ie u (ZG1 (key:=key) (r.mono c.ff));obtain⟨B,D⟩:=ZA9 A;have J:(zs.map key).Pairwise (λa b:Int=>a<=b):=by rw[<- D];exact List.pairwise_map.mpr s
    have M:=m2.trans (c.trans (c.st.make n (.lst (ps.map (·.2)))))
    exact I l2 _ zs F3 _ (d.trans M) (c.st.Bp n) (d.none (m2.none (c.none n))) AV B (kk zs pz (List.pairwise_map.mp J))⟩
end
end Fz
namespace L2
variable{X:Cx}{s:Shared}{b:Bool}{prog:Program}{w:World}{A:Around}{E:Value->Shared->Prop}
noncomputable def Qy(b:Bool)(v:Value):Bool:=match v with
 | .bool c=>c == b
 |_=>false
theorem LS{v:Value}(h:Qy b v=true):v=.bool b:=by
 cases v <;> simp_all [Qy]
theorem ZFU(b:Bool):Qy b (.bool b)=true:=by cases b <;> rfl
noncomputable def b8(b:Bool):Int:=if b then 1 else 0
theorem pG{Q:Int->Shared->Prop}(h:Q (b8 b) { s with toks:=s.toks+1 }):
  wpAny (model prog w) A (PySem.pyHash (.bool b)) Q E s:=by
 unfold PySem.pyHash;have a:s.TypeIs (.bool b) "bool" := rfl;have c:[Value.bool b].any Value.onHeap=false:=rfl;refine dP ?_;rw[cRoomFor,nr (by rw[c];exact Cv)];refine nW ?_;refine dP (ZAa a F.slot_bool_hash.lookup ?_);show wpAny _ _ (if(some (Value.builtin "int.__hash__") == some Value.none)=true then _ else _) Q E s
 rw[nr (by rw[beq_builtin_none];exact Cv)];refine dP (ZAa a F.slot_bool_hash.lookup ?_);show wpAny _ _ (callSpecialIfBoundUnlessNone? (.bool b) "__hash__" _ >>= _) Q E s;refine dP (wpAny_callSpecialIfBoundUnlessNone?_slot a F.slot_bool_hash
  (uT F.slot_bool_hash a entry_int_hash ?_ (args_int_hash _)))
 cases b
 .refine(show wpAny _ _ (do ret (<- mkInt 0)) _ _ s from ZBO ?_)
  show wpAny _ _ (if(decide (-(2:Int) ^ 63<=0) && decide ((0:Int)<2 ^ 63))=true then _ else _) Q E _
  rw[oM (by decide)];exact nW h
 .refine(show wpAny _ _ (do ret (<- mkInt 1)) _ _ s from ZBO ?_)
  show wpAny _ _ (if(decide (-(2:Int) ^ 63<=1) && decide ((1:Int)<2 ^ 63))=true then _ else _) Q E _
  rw[oM (by decide)];exact nW h
def Oj(prog:Program)(w:World):PySem.KeyKind prog w Bool where
 is:=Qy
 hash:=b8
 inj:=λv a b g f=>by
  cases LS g;have q:=LS f;injection q
 byValue:=λk v h=>by cases LS h;rfl
 pyHash:=λc h=>by cases LS c;exact pG h
 eqBool:=λ{A E s a b u v Q}d c h=>by
  cases LS d;cases LS c;exact SeqAt.EqAt.bool_bool a b _ _ _ _ (by
   have e:(a == b)=decide (a=b):=by cases a <;> cases b <;> rfl
   rw[e];exact h)
 «strs»:=λk x t v h=>by cases LS h
end L2
namespace L2
section
variable{X:Cx}
def eE(K:ZHy):R2:=λx y H Q=>∃a b xs ys,x=.ref a/\y=.ref b/\Ax K H a xs/\Ax K H b ys/\xs.length+ys.length<=sizeLine/\(xs=[]->Q (.ref b) H)/\(xs≠[]->ys=[]->Q (.ref a) H)/\(xs≠[]->ys≠[]->∀p,H p=none->Q (.ref p) (upd H p (.tup (xs++ys))))
theorem YN:BD X (binaryOp .Add) (eE X.K):=by
 intro ZB s Z H x y v u Q I f d h;obtain⟨a,b,xs,ys,rfl,rfl,j,i,t,o,m,l⟩:=h
 by_cases hx:xs=[]
 .have q:=o hx;subst hx;cases f;cases d;obtain⟨A3,k,p1,_⟩:=I.tuple j;obtain⟨D5,A,p2,_⟩:=I.tuple i;obtain⟨⟨cls,dd,data,sl⟩,ho,g,n,hd⟩:=id p1;obtain⟨⟨z,Sm,c,Ge⟩,DZ,Kh,r,hd2⟩:=id p2;simp only at g hd Kh hd2;subst g hd Kh hd2;have e:A3=[]:=k.Ro.mpr rfl;exact concat_meets ⟨_,ho,rfl⟩ ⟨_,DZ,rfl⟩ ZB9 seq_tuple_add mW mU (mT _ _)
   (tuple_addW0 a b A3.toArray D5.toArray n r dd Sm sl Ge (by simp[e])) ⟨ho,DZ,⟨.ref b,H,I,rfl,q⟩⟩
 .exact qe ZB s Z H _ _ _ _ Q I f d ⟨a,b,xs,ys,rfl,rfl,j,i,hx,t,λe=>m hx e,λe p w=>l hx e p w⟩
end
end L2
namespace Fz
open L2 Lw
theorem AN.append'{F:Hp}:∀{vs ws:List V}{xs ys:List PV},AN F vs xs->AN F ws ys->AN F (vs++ws) (xs++ys):=by
 intro vs ws xs ys r h
 induction xs generalizing vs with
 |nil=>cases r.DL;exact h
 |cons p ps c=>obtain⟨v,vs,rfl,a,b⟩:=r.inv;exact .cons a (c b)
section
variable[Xw]
variable{E:Ent0}{ss:List Slot}{Z:L2.St}{F H F' H':Hp}{K:ZHy}{i:Nat}{t:OV}{ta tb tc te:TE}{nx:List Slot->Prop}{R:Ae}
theorem US{k:PV->Prop}(h:Wp ss ta λp=>∃xs,p=.tup xs/\Wp ss tb λq=>∃ys,q=.tup ys/\xs.length+ys.length<=100000/\k (.tup (xs++ys))):Wp ss (BE (eE K) ta tb) k:=⟨λE Z F H Q S q=>
 h.go E Z F H _ S λv p F1 H1 d j⟨xs,e,h2⟩=>h2.go E Z F1 H1 _ d.st λv2 p2 F2 H2 m2 i⟨ys,n,o,kk⟩=>by
  subst e;subst n;cases j with
  |@tup a vs _ m s1=>
   cases i with
   |@tup b ws _ g s2=>
    have g1:=m2.ff _ _ m;have t1:=s1.mono m2.ff;have l1:=t1.length;have l2:=s2.length;refine⟨a,b,vs,ws,rfl,rfl,Ax.of (m2.st.fh _ _ g1),Ax.of (m2.st.fh _ _ g),small (by omega),λz=>?_,λ_ z=>?_,λ_ _ c l=>?_⟩
    .have e:xs=[]:=by rw[z]at l1;exact List.length_eq_zero_iff.mp l1.symm
     rw[e,mJ]at kk;exact q (.ref b) _ F2 H2 (d.trans m2) (.tup g s2) kk
    .have e:ys=[]:=by rw[z]at l2;exact List.length_eq_zero_iff.mp l2.symm
     rw[e,Gv]at kk;exact q (.ref a) _ F2 H2 (d.trans m2) (.tup g1 t1) kk
    .have f:=m2.st.alloc l (.tup (vs++ws));exact q (.ref c) _ _ _ (d.trans (m2.trans f)) (.tup AV ((AN.append' t1 s2).mono f.ff)) kk⟩
end
end Fz
namespace L2
section
variable{prog:Program}{w:World}{A:Around}{s:Shared}{R:Result->Shared->Prop}
variable{X:Cx}
variable{i o:Expr}{ty td:TE}{pos:Pos}
theorem cE(a:X.A.units+1<cLine)(hi:QE X i ty)(ho:QE X o td)(b:behindInMarks .NotIn o=false:=by with_unfolding_all rfl):QT X (.Compare i [.NotIn] [o] pos) (tB (T7 ty td)):=⟨bO (oy a hi.h ho.h) b⟩
end
end L2
namespace L2
variable{H:Hp}{A6:List (List Bool×V)}{xs:List (List Bool×Addr×Value)}{a b d:Addr}{r u:Value}{w:World}{X:Cx}{ZB:ZHz}{Z:St}{s:Shared}{E Q:Value->Shared->Prop}{l tg:Expr}
def ye(a:Addr)(xs:List (List Bool×Addr×Value))(h:Heap):Prop:=
 ∃o es ep,h.get? a=some o/\o.ExactDict/\o.data=.dict es ep/\(∀(P:Program)(w:World),es.toList=xs.map (entryOfKey (tupleKind (Oj P w))))/\(xs.map (·.1)).Nodup
noncomputable def Gh(a:Addr)(xs:List (List Bool×Addr×Value)):HO:=.ext (ye a xs)
abbrev KB(H:Hp):List (List Bool×V)->List (List Bool×Addr×Value)->Prop:=Paired λp q=>p.1=q.1/\H q.2.1=some (.tup (p.1.map V.bl))/\RelV p.2 q.2.2
def DB(H:Hp)(a:Addr)(A6:List (List Bool×V)):Prop:=A6.length<=sizeLine/\(a == sysModules)=false/\∃xs,H a=some (Gh a xs)/\KB H A6 xs
theorem KB.val(r:KB H A6 xs)(k:List Bool):EF (CM A6 k) ((atKey xs k).map (·.2)):=by
 induction r with
 |nil=>exact trivial
 |@cons p q ps a h t d=>
  obtain⟨p1,p2⟩:=p;obtain⟨g,c,b⟩:=q;obtain⟨h1,_,f⟩:=h;cases h1
  by_cases e:p1=k
  .rw[M0 e,show atKey ((p1,c,b)::a) k=some (c,b)from by simp[atKey,e]];exact f
  .rw[L6 e,show atKey ((p1,c,b)::a) k=atKey a k from by simp[atKey,e]];exact d
theorem KB.snoc(r:KB H A6 xs){k:List Bool}{y:V}(c:H b=some (.tup (k.map V.bl)))(a:RelV y u):KB H (A6++[(k,y)]) (xs++[(k,b,u)]):=Paired.snoc r ⟨rfl,c,a⟩
theorem KB.keeps{H':Hp}(r:KB H A6 xs)(a:∀b ys,H b=some (.tup ys)->H' b=some (.tup ys)):KB H' A6 xs:=
 Paired.Q9 r λ_ _ z=>⟨z.1,a _ _ z.2.1,z.2.2⟩
section
variable{P:Program}{h:Heap}
theorem cI:∀{ks:List Bool}{us:List Value},Vals (ks.map V.bl) us->ItemsAre (Oj P w) ks us
 | [],_,r=>by cases r;exact .nil
 |k::ks,_,r=>by
  rw[D4]at r;cases r with
  |cons q t=>
   refine .cons ?_ (cI t);cases q;exact ZFU k
theorem Rg{ks:List Bool}(ok:BX P w H h)(e:H a=some (.tup (ks.map V.bl))):(tupleKind (Oj P w)).is h ks a:=by
 obtain⟨_,A3,r,⟨o,h1,h2,n,b⟩,_⟩:=(show BZ P w H h a (.tup (ks.map V.bl))from ok a _ e);exact⟨o,A3.toArray,n,h1,h2,b,by simpa using cI r⟩
theorem OI(ok:BX P w H h)(e:H a=some (Gh a xs))(r:KB H A6 xs):h.DictOfH (tupleKind (Oj P w)) a xs:=by
 obtain⟨⟨o,es,ep,h1,h2,j,d,c⟩,g,f⟩:=(show BZ P w H h a (Gh a xs)from ok a _ e);clear g f;refine⟨o,es,ep,h1,h2,j,d P w,?_,c⟩;clear d c e
 induction r with
 |nil=>intro x hx;cases hx
 |@cons p q ps k b t i=>
  intro x hx;rcases List.mem_cons.mp hx with e|hx
  .subst e;exact Rg ok (by rw[<- b.1];exact b.2.1)
  .exact i x hx
theorem rC(d:h.DictOfH (tupleKind (Oj P w)) a xs):BZ P w H h a (Gh a xs):=by
 obtain⟨o,es,ep,h1,h2,e,c,_,b⟩:=d;refine⟨⟨o,es,ep,h1,h2,e,λP' f=>c,b⟩,⟨o,h1⟩,?_⟩;rintro g1 g⟨o,es,ep,e1,r⟩k;exact⟨o,es,ep,k _ e1,r⟩
variable{v:V}{k:List Bool}{A:Around}
theorem vh(g:A.units+1<cLine)(I:Inv X ZB Z H s)(d:DB H a A6)(j:H b=some (.tup (k.map V.bl)))(f:CM A6 k=some v)(h:∀c s',Inv X ZB Z H s'->RelV v c->Q c s'):
  wpAny (model X.prog X.w) A (getItem (.ref a) (.ref b)) Q E s:=by
 obtain⟨z,y,xs,e,rel⟩:=d;have dd:=OI I.AB e rel;obtain⟨c,hw,G1⟩:=EF.some_of (v:=v) (o:=(atKey xs k).map (·.2)) (by rw[<- f];exact rel.val k)
 obtain⟨p,i,WI⟩:=Option.map_eq_some_iff.mp hw;refine wpAny_getItem_heap (ya g) (Rg I.AB j) dd i ?_;rw[WI];exact h c _ (I.tok _) G1
theorem xW(c:A.units+1<cLine)(I:Inv X ZB Z H s)(d:DB H a A6)(f:H b=some (.tup (k.map V.bl)))(h:∀s',Inv X ZB Z H s'->Q (.bool (!(CM A6 k).isSome)) s'):
  wpAny (model X.prog X.w) A (compareOp .NotIn (.ref b) (.ref a)) Q E s:=by
 obtain⟨z,y,xs,e,rel⟩:=d;have dd:=OI I.AB e rel;refine wpAny_notIn_heap (ya c) (Rg I.AB f) y dd ?_;have q:=(rel.val k).RY;rw[Zj]at q;rw[<- q];exact h _ (I.tok _)
theorem ZAV{Q:Unit->Shared->Prop}(l:A.units+1<cLine)(I:Inv X ZB Z H s)(d:DB H a A6)(g:H b=some (.tup (k.map V.bl)))(o:CM A6 k=none)(j:A6.length<sizeLine)(i:RelV v r)
  (h:∀Js s',DB (upd H a (Gh a Js)) a (A6++[(k,v)])->Inv X ZB Z (upd H a (Gh a Js)) s'->Q () s'):wpAny (model X.prog X.w) A (setItem (.ref a) (.ref b) r) Q E s:=by
 obtain⟨z,y,xs,e,rel⟩:=d;have dd:=OI I.AB e rel;have p:atKey xs k=none:=by
  have q:=rel.val k;rw[o]at q;exact Option.map_eq_none_iff.mp (EF.none_of q)
 refine wpAny_setItem_heap (hsz:=by rw[<- Pr rel];exact z) (ya l) (Rg I.AB g) dd λh' K2 m=>?_;rw[storedH_new p]at K2;obtain⟨q,es,ep,n,rest⟩:=id K2;refine h (xs++[(k,b,r)]) _ ⟨by rw[BI];exact j,y,_,AV,(rel.snoc g i).keeps λc ys f=>?_⟩ (XA I (by rw[e];exact True.intro) m ⟨q,n⟩ (rC K2));rw[AK (bu f e (λz=>nomatch z))];exact f
theorem wR{prog:Program}{K:Type}[DecidableEq K]{knd:HeapKind prog w K}{xs:List (K×Addr×Value)}(hd:(d == sysModules)=false)(a:s.heap.DictOfH knd d xs)(f:(xs.length:Int)<2 ^ 63)
  (h:∀t t',Q (.int xs.length t) { s with toks:=t' }):wpAny (model prog w) A (call (.builtin "len") [.ref d]) Q E s:=by
 have ty:s.TypeIs (.ref d) "dict" := by obtain⟨o,es,ep,h1,h2,_⟩:=a;exact⟨o,h1,h2.1⟩
 refine ZGU kind_len plain_len entry_len (args_len1 _) ?_;unfold Builtin.«len»;refine dP (m:=oneArg "len" _) (nW ?_);have body:MeetsIn prog w (Builtin.«dict.__len__» ⟨[.ref d],[]⟩) (λ_ R s=>s.heap.DictOfH knd d xs/\R (.ok (.ret (.int xs.length s.toks))) { s with toks:=s.toks+1 }):=
  .of_wp λA R s⟨a,h⟩=>by
   obtain⟨o,es,ep,ho,e,Fu,hk,b,c⟩:=a;show wpAny _ _ (dictSize d >>= _) _ _ s;unfold dictSize;refine dP (dP (wpAny_dictEntries ho Fu (nW ?_)));show wpAny _ _ (Builtin.Dict.pendingCount d >>= _) _ _ s;refine dP (wpAny_pendingCount_other hd ?_);refine ZBO ?_;have:es.size=xs.length:=by rw[<- Cj,hk,AG]
   rw[Nat.add_zero,this];exact h
 refine dP (m:=callSpecial? (.ref d) (Str.ofString "__len__")) (vD (name:=Str.ofString "__len__") ty F.slot_dict_len
  (call_meetsIn F.slot_dict_len ty F.entry_dict_len (F.args_dict_len_1 _) body ⟨a,?_⟩))
 show wpAny _ _ _ _ _ { s with toks:=s.toks+1 }
 refine dP (rG (nW ?_));refine dP (wpAny_letGo ?_);show wpAny _ _ (if((xs.length:Nat):Int)<0 then _ else _) _ _ _
 rw[nr (by omega)];show wpAny _ _ (if((xs.length:Nat):Int)>=2 ^ 63 then _ else _) _ _ _
 rw[nr (by omega)];exact dP (wpAny_mkInt (nW ⟨_,rfl,h _ _⟩))
def aD:List V->Hp->VK->Prop:=λxs H Q=>∃(p:Addr)(A6:List (List Bool×V)),xs=[.ref p]/\DB H p A6/\Q (.int A6.length) H
theorem pe:Bo X (.builtin "len") aD:=by
 intro ZB s Z H xs us Q I r h;obtain⟨p,A6,rfl,⟨z,y,ys,e,rel⟩,q⟩:=h;obtain⟨u,rfl,a⟩:=vals1 r;cases a;refine wR y (OI I.AB e rel) (by rw[<- Pr rel];rw[ZA1]at z;omega) λt t'=>?_;rw[<- Pr rel];exact⟨.int A6.length,H,I.tok _,⟨t,rfl⟩,q⟩
end
def Z7:TE:=λ_ H Q=>∀p,H p=none->(p == sysModules)=false->Q (.ref p) (upd H p (Gh p []))
def WV(td ty:TE):TE:=λZ H Q=>td Z H λx H1=>ty Z H1 λy H2=>∃a b A6 k v,x=.ref a/\y=.ref b/\DB H2 a A6/\H2 b=some (.tup (k.map V.bl))/\CM A6 k=some v/\Q v H2
def U5(ty td:TE):TE:=λZ H Q=>ty Z H λy H1=>td Z H1 λx H2=>∃a b A6 k,x=.ref a/\y=.ref b/\DB H2 a A6/\H2 b=some (.tup (k.map V.bl))/\Q (.bl (!(CM A6 k).isSome)) H2
def Y6(td ty tv:TE):TS:=λD Z H=>tv Z H λv H1=>td Z H1 λx H2=>ty Z H2 λy H3=>∃a b A6 k,x=.ref a/\y=.ref b/\DB H3 a A6/\H3 b=some (.tup (k.map V.bl))/\CM A6 k=none/\A6.length<sizeLine/\
 ∀Js,DB (upd H3 a (Gh a Js)) a (A6++[(k,v)])->D.nx Z (upd H3 a (Gh a Js))
section
variable{o i e value:Expr}{pos pos' UT:Pos}{td ty tv:TE}
theorem uo(I:Inv X ZB Z H s)(d:DB H a A6):s.TypeIs (.ref a) "dict" := by
 obtain⟨z,y,xs,e,rel⟩:=d;obtain⟨o,es,ep,h1,h2,_⟩:=OI I.AB e rel;exact⟨o,h1,h2.1⟩
theorem ZE7:PE X (.Dict [] [] pos) Z7:=λZB s Z H Q I h=>
 wpAny_Dict_empty ⟨.ref s.heap.objs.size,_,I.laid (a:=s.heap.objs.size) (o:=Gh s.heap.objs.size []) (t':=s.toks) (λ_ _ q=>Ao _ q) (Aa _)
  ⟨⟨_,#[],0,BQ _ rfl,⟨rfl,rfl,rfl⟩,rfl,λ_ _=>rfl,.nil⟩,⟨_,BQ _ rfl⟩,λg1 b⟨o,es,ep,e1,r⟩k=>⟨o,es,ep,k _ e1,r⟩⟩,rfl,h _ (I.AB.fresh (Aa _)) (beq_eq_false_iff_ne.mpr (E9 I.big))⟩
theorem ZFl(l:X.A.units+1<cLine)(hi:PE X i ty)(ho:PE X o td):PC X .NotIn i o (U5 ty td):=by
 intro ZB s Z H Q I h;refine hi.k I h λj s1 y H1 I1 c g=>ho.k I1 g λu s2 x H2 I2 e⟨a,b,A6,k,ex,m,d,n,f⟩=>?_;subst ex;subst m;obtain rfl:u=Value.ref a:=e;obtain rfl:j=Value.ref b:=c;exact xW l I2 d n λp I3=>⟨.bl _,H2,I3,rfl,f⟩
theorem xN(m:X.A.units+1<cLine)(ho:QE X o td)(hi:QE X i ty)(n:Ot i):QE X (.Subscript o i pos) (WV td ty):=⟨by
 have ho:=ho.h;have hi:=hi.h;intro ZB s Z H Q I h;refine j5 PySem.F.slot_dict_getitem.lookup n (ho.k I h λu s1 x H1 I1 e g=>hi.k I1 g λj s2 y H2 I2 c⟨a,b,A6,k,v,ex,p,d,q,l,f⟩=>?_);subst ex;subst p;obtain rfl:u=Value.ref a:=e;obtain rfl:j=Value.ref b:=c;exact⟨uo I2 d,vh m I2 d q l λr t I3 G1=>⟨v,H2,I3,G1,f⟩⟩⟩
theorem wG(q:X.A.units+1<cLine)(ho:QE X o td)(hi:QE X i ty)(c:QE X value tv)(t:swapsWith value (some (.Subscript o i pos')) pos.line X.env=pure false:=by rfl):
  QS X (.Assign [.Subscript o i pos'] value pos) (Y6 td ty tv):=⟨by
 have ho:=ho.h;have hi:=hi.h;have c:=c.h;intro ZB s Z H D I h;refine wpAny_Assign_Subscript (c.k I h λr s1 v H1 I1 g m=>ho.k I1 m λu s2 x H2 I2 f l=>hi.k I2 l λn C y H3 I3 e⟨a,b,A6,k,ex,z,d,B,w,p,j⟩=>?_) t;subst ex;subst z;obtain rfl:u=Value.ref a:=f;obtain rfl:n=Value.ref b:=e;exact ZAV q I3 d B w p g λJs s4 d' I4=>⟨Z,_,I4,j Js d'⟩⟩
theorem qr:QE X (.Dict [] [] pos) Z7:=⟨ZE7⟩
theorem we(a:X.A.units+1<cLine)(hi:QE X i ty)(ho:QE X o td)(b:behindInMarks .NotIn o=false:=by with_unfolding_all rfl):QT X (.Compare i [.NotIn] [o] pos) (tB (U5 ty td)):=⟨bO (ZFl a hi.h ho.h) b⟩
variable{tl t:TE}{st:Stmt}{ts:TS}
end
end L2
namespace Fz
open L2 Lw
theorem iK{F H:Hp}:∀{vs:List V}{xs:List PV},BW F H vs (xs.map .fz)->AN F vs xs
 |_,[],h=>by cases h;exact .nil
 |_,x::xs,h=>by
  obtain⟨_,_,rfl,a,b⟩:=h.inv;cases a with|fz r=>exact .cons r (iK b)
end Fz
namespace Fz
open L2 Lw
variable{ss:List Slot}{ta tb te ti:TE}{i j:Nat}{rest t:TS}{F F1:Hp}{nx:List Slot->List (List Bool)->Prop}{xs ys:List PV}{wi:TI}{f:Str->List Bool}{p x:PV}{tt:TT}
noncomputable def Nk:Slot->Bool
 | .ow _ _=>false
 |_=>true
noncomputable def FR(n:Nat):List (List Bool)->List (List Bool×V)
 | []=>[]
 |k::ks=>(k,.int n)::FR (n+1) ks
def Gf(ks:List (List Bool)):List (List Bool×V):=FR 0 ks
theorem bT(k:List Bool):∀(ks:List (List Bool))(n:Nat),FR n (ks++[k])=FR n ks++[(k,.int (n+ks.length:Nat))]
 | [],n=>rfl
 |x::ks,n=>by
  show(x,V.int n)::FR (n+1) (ks++[k])=_;rw[bT k ks];show _=(x,V.int n)::(FR (n+1) ks++_);rw[BJ,show n+1+ks.length=n+(ks.length+1)from by omega]
theorem WW:∀(ks:List (List Bool))(n:Nat),(FR n ks).length=ks.length
 | [],_=>rfl
 |x::ks,n=>by show(FR (n+1) ks).length+1=_;rw[WW ks];rfl
theorem Xp{k:List Bool}:∀{ks:List (List Bool)}{n:Nat},k∈ks->CM (FR n ks) k=some (.int (n+ks.idxOf k:Nat))
 |x::ks,n,h=>by
  show CM ((x,V.int n)::FR (n+1) ks) k=_
  by_cases c:x=k
  .rw[M0 c,c,List.idxOf_cons_self];rfl
  .have h':k∈ks:=by rcases List.mem_cons.mp h with e|e;exact absurd e.symm c;exact e
   rw[L6 c,Xp h',show(x::ks).idxOf k=ks.idxOf k+1 from by rw[List.idxOf_cons,beq_eq_false_iff_ne.mpr c];rfl,show n+1+ks.idxOf k=n+(ks.idxOf k+1)from by omega]
theorem WU{k:List Bool}:∀{ks:List (List Bool)}{n:Nat},k∉ks->CM (FR n ks) k=none
 | [],_,_=>rfl
 |x::ks,n,h=>by
  show CM ((x,V.int n)::FR (n+1) ks) k=_;rw[L6 (λc=>h (by rw[<- (show x=k from c)];simp)),WU λc=>h (by simp[c])]
def Bd(i:Nat)(ks:List (List Bool))(E:Ent0)(Z:L2.St)(F H:Hp):Prop:=∃a,Z[i]?=some (some (.ref a))/\F a=none/\E.H0 a=none/\DB H a (Gf ks)
theorem XQ{F:Hp}:∀{vs:List V}{bs:List Bool},AN F vs (bs.map PV.bl)->vs=bs.map V.bl
 | [],[],_=>rfl
 |_::_,[],r=>by cases r
 | [],_::_,r=>by cases r
 |v::vs,b::bs,r=>by
  cases r with
  |cons q t=>cases q;rw[XQ t];rfl
section
variable[Xw]
variable{E:Ent0}{Z:L2.St}{H F' H':Hp}{K:ZHy}{ks:List (List Bool)}{tc:TE}{R:Ae}
theorem Sg.kR(S:Sg E ss Z F H){b:Addr}{o:HO}(h:H b=some o)(c:∀vs,o≠.lst vs):DF ss Z b:=λj d e=>by
 obtain⟨l,e1,_,_,x,y,a,_⟩:=S.ok j _ d;rw[e]at e1;cases e1;rw[h]at a;exact c _ (BG a)
theorem Bd.mv(b:Bd i ks E Z F H)(S:Sg E ss Z F H)(m:Mv E ss Z F H F' H'):Bd i ks E Z F' H':=by
 obtain⟨a,e,h,g,z,y,xs,d,r⟩:=b;refine⟨a,e,?_,g,z,y,xs,m.hh _ _ (S.kR d λvs c=>nomatch c) d,r.keeps λc ys f=>m.hh _ _ (S.kR f λvs c=>nomatch c) f⟩;cases q:F' a with
 |none=>rfl
 |some o=>
  rcases m.nn _ _ q with c|c
  .rw[h]at c;cases c
  .rw[d]at c;cases c
structure Fq (ss:List Slot) (i:Nat) (ks:List (List Bool)) (t:TS) (nx:List Slot->List (List Bool)->Prop) (R:Ae):Prop where
 go:∀(E:Ent)(D:Ends)(Z:L2.St)(F H:Hp),Sg E ss Z F H->Bd i ks E Z F H->(∀A5 Cm σ' F' H',nx A5 Cm->Sg E A5 σ' F' H'->Bd i Cm E σ' F' H'->AQ F F'->D.nx σ' H')->(∀v F' H',Fin E F' H'->R.ok E F' H' v->D.rt v H')->t D Z H
theorem nq{nx:List Slot->Prop}(hi:i<ss.length)(h:Fq (ss.set i .any) i [] rest (λA5 _=>nx A5) R):Ws ss (Hq (Df Z7 (CZ i)) rest) nx R:=⟨λE D Z F H S e d p a c=>by
 have m:=S.make a (Gh p []);have f:Sg E (ss.set i .any) (Z.set i (some (.ref p))) F (upd H p (Gh p [])):=m.st.setG (s:=.any) trivial λl h=>by cases h
 refine h.go E _ _ F _ f ⟨p,Ca (by rw[<- S.len];exact hi),S.Bp a,S.E6 a,CJ _,c,[],AV,.nil⟩ (λA5 Cm σ' F' H' n S' b s=>e _ _ _ _ n S' s) d⟩
theorem RX{u:TS}(h:Fq ss i ks t (λA5 Cm=>Fq A5 i Cm u nx R) R):Fq ss i ks (Hq t u) nx R:=⟨λE D Z F H S b c a=>
 h.go E _ Z F H S b (λA5 Cm σ' F' H' w S' e s=>w.go E D σ' F' H' S' e (λC6 PY σ2 F2 H2 n S2 d s2=>c _ _ _ _ _ n S2 d (s.trans s2)) a) a⟩
theorem dr(h:Fq ss i ks t nx R):Fq ss i ks (Qh t) nx R:=⟨λE D Z F H S b c a=>⟨D.nx,h.go E { D with nx:=D.nx } Z F H S b c a,λ_ _ q=>q⟩⟩
theorem nQ{k:List PV->Prop}(h:ss[j]?=some (.own xs))(kk:k xs):Fq ss i ks (Hw (Aj j)) nx (.new k):=⟨λE D Z F H S b d a=>
 (RB (nx:=λ_=>False) h kk).go E D Z F H S (λ_ _ _ _ c=>c.elim) a⟩
theorem UU{v:Option V}(BV:i≠j)(b:Bd i ks E Z F H):Bd i ks E (Z.set j v) F H:=by
 obtain⟨a,e,r⟩:=b;exact⟨a,by rw[Bv (Az BV)];exact e,r⟩
theorem nD(BV:i≠j)(h:Wp ss te λp=>nx (ss.set j (.is p)) ks):Fq ss i ks (Df te (CZ j)) nx R:=⟨λE D Z F H S b c d=>
 h.go E Z F H _ S λv p F1 H1 a r kk=>c _ _ _ F1 H1 kk (a.st.GZ r) (UU BV (b.mv S a)) a.ff⟩
theorem ZDV(BV:i≠j)(h:Wn ss te λxs=>nx (ss.set j (.own xs)) ks):Fq ss i ks (Df te (CZ j)) nx R:=⟨λE D Z F H S b f m=>
 h.go E Z F H _ S λl vs xs F1 H1 a g c HJ r kk=>f _ _ _ F1 H1 kk (a.st.setG ⟨l,vs,rfl,g,S.E6 c,HJ,r⟩ λk e j u _ d mu=>by cases e;exact S.OJ d c mu) (UU BV (b.mv S a)) a.ff⟩
theorem oa{tb:TS}(BV:i≠j)(I:List PV->Nat->List Slot->List (List Bool)->Prop)(h:Wi ss wi λxs=>I xs 0 ss ks/\(∀(n:Nat)p A5 Cm,xs[n]?=some p->I xs n A5 Cm->Fq (A5.set j (.is p)) i Cm tb (I xs (n+1)) R)/\∀A5 Cm,I xs xs.length A5 Cm->nx A5 Cm):Fq ss i ks (R1 wi (CZ j) tb) nx R:=⟨λE D Z F H S b A w=>
 h.go E Z F H _ S λJ xs F1 H1 k f AM=>by
  obtain⟨i0,v,hd⟩:=AM;refine⟨λn m σ' H'=>m=xs.length - n/\n<=xs.length/\∃A5 Cm F',I xs n A5 Cm/\Sg E A5 σ' F' H'/\Bd i Cm E σ' F' H'/\AQ F1 F',⟨_,rfl,CJ _,ss,ks,F1,i0,k.st,b.mv S k,AQ.refl _⟩,?_⟩;rintro n m σ' H'⟨rfl,hi,A5,Cm,F',o,S',q,s'⟩
  by_cases l:n<xs.length
  .refine .inr ⟨f.go A5 σ' F' H' n s' S' l,λσ2 H2=>∃C6 PY F2,I xs (n+1) C6 PY/\Sg E C6 σ2 F2 H2/\Bd i PY E σ2 F2 H2/\AQ F1 F2,λσ2 H2 IY=>by obtain⟨C6,PY,F2,a,b,c,d⟩:=IY;exact⟨_,by omega,rfl,l,C6,PY,F2,a,b,c,d⟩,λx H3 y=>?_⟩;obtain⟨p,F3,z,g,t⟩:=f.EK A5 σ' F' H' n x H3 s' S' l y;exact(v n p A5 Cm z o).go E _ _ F3 H3 (g.st.GZ t) (UU BV (q.mv S' g)) (λNu r σ5 F5 H5 u S5 B s=>⟨Nu,r,F5,u,S5,B,(s'.trans g.ff).trans s⟩) w
  .have e:n=xs.length:=by omega
   subst e;exact .inl ⟨f.stop A5 σ' F' H' s' S',A A5 Cm σ' F' H' (hd A5 Cm o) S' q (k.ff.trans s')⟩⟩
theorem ot{bs:List Bool}(J:ss[j]?=some (.is (.tup (bs.map .bl))))(k:ss.all Nk=true)(I:ks.length<=99999)(h:nx ss (if bs∈ks then ks else ks++[bs])):Fq ss i ks (Mt (tB (U5 (Aj j) (Aj i))) (Y6 (Aj i) (Aj j) (CH aD (AZ (Aj i) B6))) MX) nx R:=⟨λE D Z F H S b n M=>by
 obtain⟨a,e,w,u,z,y,xs,f,r⟩:=id b;obtain⟨v,x,B⟩:=S.ok j _ J;cases B with
 |@tup t vs _ K C=>
  have m:=S.fh _ _ K;rw[XQ C]at m;refine⟨_,x,_,e,a,t,Gf ks,bs,rfl,rfl,⟨z,y,xs,f,r⟩,m,?_⟩
  by_cases c:bs∈ks
  .rw[oM c]at h;refine⟨_,rfl,?_⟩;rw[show Gf ks=FR 0 ks from rfl,Xp c];exact(show(if(!(some (V.int (0+ks.idxOf bs:Nat))).isSome)=true then _ else MX D Z H)from n _ _ Z F H h S b (AQ.refl _))
  .rw[nr c]at h;refine⟨_,rfl,?_⟩;rw[show CM (Gf ks) bs=none from WU c];refine⟨_,e,a,Gf ks,rfl,⟨z,y,xs,f,r⟩,_,e,_,x,a,t,Gf ks,bs,rfl,rfl,⟨z,y,xs,f,r⟩,m,WU c,?_,λJs d=>?_⟩
   .rw[show(Gf ks).length=ks.length from WW ks 0];exact N4 I
   .refine n _ _ Z F _ h (S.Qs w (.inl u) λl s p o=>?_) ⟨a,e,w,u,?_⟩ (AQ.refl _)
    .have q:Nk s=true:=List.all_eq_true.mp k s (C8 p);have A:=S.ok l s p;cases s with
     |own xs=>obtain⟨G,vs,e1,_,_,g,_⟩:=A;rw[show Z[l]?=some (some (.ref a))from o]at e1;cases e1;rw[f]at g;cases g
     |AD=>obtain⟨G,e1,_,_,p1,p2,g,_⟩:=A;rw[show Z[l]?=some (some (.ref a))from o]at e1;cases e1;rw[f]at g;cases g
     |ow lt t=>cases q
     |_=>cases o
    .have L:Gf (ks++[bs])=Gf ks++[(bs,.int (Gf ks).length)]:=by
      rw[show(Gf ks).length=ks.length from WW ks 0];show FR 0 (ks++[bs])=_;rw[bT,NP];rfl
     rw[L];exact d⟩
theorem ZDI{n:Nat}{bs:List Bool}(B:ss[j]?=some (.is (.tup (bs.map .bl))))(m:ss[n]?=some (.own xs))(x:bs∈ks)(w:xs.length<=99999)(h:nx (ss.set n (.own (xs++[.int (ks.idxOf bs:Nat)]))) ks):Fq ss i ks (Iv (LN K "list" Sl (Aj n) (AZ (WV (Aj i) (Aj j)) B6))) nx R:=⟨λE D Z F H S b hx N=>by
 obtain⟨a,e,G,C,z,y,ys,p,r⟩:=id b;obtain⟨v,L,s⟩:=S.ok j _ B;obtain⟨l,vs,f,J,I,g,k⟩:=S.ok n _ m;cases s with
 |@tup t us _ M u=>
  have q:=S.fh _ _ M;rw[XQ u]at q;refine⟨_,f,.inl ⟨rfl,_,AL.of g⟩,_,e,_,L,a,t,Gf ks,bs,_,rfl,rfl,⟨z,y,ys,p,r⟩,q,Xp x,?_⟩;refine⟨l,vs,_,rfl,rfl,g,N4 (by rw[k.length];exact w),?_⟩;rw[NP];have ne:∀c o,H c=some o->(∀ws,o≠.lst ws)->upd H l (.lst (vs++[.int (ks.idxOf bs:Nat)])) c=some o:=λc o d A=>by
   rw[AK];exact d;rintro rfl;rw[g]at d;exact A _ (BG d).symm
  refine hx _ _ Z F _ h (S.put m f J I (k.append (.one (.int _)))) ⟨a,e,G,C,z,y,ys,ne _ _ p (λws c=>nomatch c),r.keeps λc ws d=>ne _ _ d λws c=>nomatch c⟩ (AQ.refl _)⟩
variable{js:List Nat}
theorem eZ{f:PV->Bool}{g:PV->PV}{b:Bool}(e:b=f x){pre:List PV}(h:ys=(pre.filter f).map g):(b=true->ys++[g x]=((pre++[x]).filter f).map g)/\(b=false->ys=((pre++[x]).filter f).map g):=by
 subst e;subst h;constructor <;> intro e <;> simp[e]
theorem nI{k:List PV->Prop}(f:PV->Bool)(g:PV->PV)
  (h:Wi ss wi λxs=>xs.length<=100000/\(∀x∈xs,∃a b,x=.tup [a,b]/\Wt (Br js ss++[.is a,.is b]) tt (λc=>c=f x)/\(f x=true->Wp (Br js ss++[.is a,.is b]) te λp=>p=g x))/\k ((xs.filter f).map g))
  (nd:js.Nodup:=by decide) (np:Ks js ss=true:=by rfl):Wn ss (Kq K wi js tt te) k:=WK (λpre ys=>ys=(pre.filter f).map g) rfl (h.mono λxs⟨i,d,kk⟩=>⟨i,λx hx=>let ⟨a,b,ex,ht,d⟩:=d x hx;⟨a,b,ex,ht.mono λc e=>by
  cases c with
  |true=>exact(d e.symm).mono λy j pre ys h=>j▸(eZ e h).1 rfl
  |false=>exact λpre ys h=>(eZ e h).2 rfl⟩,λys e=>e▸kk⟩) nd
theorem ZBp{k:List PV->Prop}
  (h:Wi ss wi λxs=>xs.length<=100000/\(∀x∈xs,Wt (Br js ss++[.is x]) tt λ_=>True)/\(∀x∈xs,Wp (Br js ss++[.is x]) te λp=>p=x)/\∀ys:List PV,ys.Sublist xs->k ys)
  (nd:js.Nodup:=by decide):Wn ss (Gk wi js tt te) k:=Y1 (λpre ys=>ys.Sublist pre) (.refl _) (h.mono λxs⟨a,c,d,kk⟩=>⟨a,λx hx=>(c x hx).mono λb _=>by
  cases b with
  |true=>exact(d x hx).mono λy e pre ys h=>e▸h.append (.refl _)
  |false=>exact λpre ys h=>h.trans (ZGt ..),kk⟩) nd
variable{nx:List Slot->Prop}{k:PV->Prop}
theorem PH{t:TT}{k k':Bool->Prop}(h:Wt ss t k')(hk:∀b,k' b->k b):Wt ss t k:=⟨λE Z F H Q S q=>h.go E Z F H Q S λb F' H' m a=>q b F' H' m (hk b a)⟩
end
structure Lp where
 r:Str
 g:Nat
 cs:List Str
def Lp.P(l:Lp):PV:=PJ l.r l.g l.cs
def Lp.Good(ns:List Str)(l:Lp):Prop:=D1 ns l.r l.g l.cs
theorem eQ{k:Nat}(h:k<3):∃r:Str,r∈LG/\L2.Bf [PV.str "none",.str "ahead",.str "all"] (k:Int)=some (.str r):=by
 have:k=0∨k=1∨k=2:=by omega
 rcases this with rfl|rfl|rfl
 .exact⟨_,by decide,rfl⟩
 .exact⟨_,by decide,rfl⟩
 .exact⟨_,by decide,rfl⟩
theorem Lp.ZBW:∀x y:Lp,x.P=y.P->x=y:=λ⟨r,g,cs⟩⟨f,d,Ts⟩h=>by
 unfold Lp.P PJ at h;injection h with h
 injection h with h1 h
 injection h with h2 h
 injection h with c _
 injection h1 with h1
 injection h2 with h2
 injection c with c
 have c:cs=Ts:=ZGm (λa b e=>by injection e) |>.mp c;dsimp only at h1 h2 c;have h2:g=d:=Int.ofNat.inj h2;rw[h1,h2,c]
theorem snocInd{α:Type}{P:List α->Prop}(b:P [])(h1:∀l x,P l->P (l++[x]))(l:List α):P l:=by
 rw[<- List.reverse_reverse l]
 induction l.reverse with
 |nil=>exact b
 |cons x r a=>rw[List.reverse_cons];exact h1 _ _ a
noncomputable def Q4:PV->Bool
 | .A8=>true
 |_=>false
theorem fD{v:V}(r:Rep F v p):decide (v=.A8)=Q4 p:=by
 cases r <;> rfl
section
variable[Xw]
variable{k:PV->Prop}
theorem eG(h:Wp ss ta λp=>Wp ss tb λq=>q=.A8/\k (.bl (Q4 p))):Wp ss (BE (λx y H Q=>y=.A8/\Q (.bl (decide (x=.A8))) H) ta tb) k:=⟨λE Z F H Q S q=>
 h.go E Z F H _ S λv p F1 H1 a c h2=>h2.go E Z F1 H1 _ a.st λv2 p2 F2 H2 m2 b AM=>by
  obtain⟨e,kk⟩:=AM;subst e;cases b.inv;refine⟨rfl,?_⟩;rw[fD c];exact q _ _ F2 H2 (a.trans m2) (.bl _) kk⟩
theorem bQ(h:Wp ss ta λp=>Wp ss tb λq=>q=.A8/\k (.bl (!Q4 p))):Wp ss (BE (λx y H Q=>y=.A8/\Q (.bl (!decide (x=.A8))) H) ta tb) k:=⟨λE Z F H Q S q=>
 h.go E Z F H _ S λv p F1 H1 a c h2=>h2.go E Z F1 H1 _ a.st λv2 p2 F2 H2 m2 b AM=>by
  obtain⟨e,kk⟩:=AM;subst e;cases b.inv;refine⟨rfl,?_⟩;rw[fD c];exact q _ _ F2 H2 (a.trans m2) (.bl _) kk⟩
end
noncomputable def hasB(Ls:List Lp)(x:Str):List Bool:=Ls.map λl=>decide (x∈l.cs)
def Dy(f:Str->List Bool)(ns:List Str):List (List Bool):=ns.foldl (λks x=>if f x∈ks then ks else ks++[f x]) []
noncomputable def Le(f:Str->List Bool)(ns:List Str):List PV:=ns.map λx=>.int ((Dy f ns).idxOf (f x):Nat)
theorem Qp(f:Str->List Bool)(ns:List Str)(x:Str):Dy f (ns++[x])=if f x∈Dy f ns then Dy f ns else Dy f ns++[f x]:=by unfold Dy;rw[ZGe];rfl
theorem ZCC{k:List Bool}:∀(ns:List Str),k∈Dy f ns↔∃x∈ns,f x=k:=by
 refine snocInd (by simp[Dy]) λns x b=>?_
 .skip
  rw[Qp]
  by_cases c:f x∈Dy f ns
  .rw[oM c,b];constructor
   .rintro⟨y,a,e⟩;exact⟨y,by simp[a],e⟩
   .rintro⟨y,a,e⟩;rcases List.mem_append.mp a with h|h
    .exact⟨y,h,e⟩
    .rw[IQ]at h;subst h;subst e;exact b.mp c
  .rw[nr c,KO,b,IQ];constructor
   .rintro(⟨y,a,e⟩|e)
    .exact⟨y,by simp[a],e⟩
    .exact⟨x,by simp,e.symm⟩
   .rintro⟨y,a,e⟩;rcases List.mem_append.mp a with h|h
    .exact .inl ⟨y,h,e⟩
    .rw[IQ]at h;subst h;exact .inr e.symm
theorem dF{k:List Bool}{ns:List Str}:k∈Dy f ns↔∃x∈ns,f x=k:=ZCC ns
theorem sy:∀(ns:List Str),(Dy f ns).length<=ns.length:=by
 refine snocInd (by simp[Dy]) λns x a=>?_
 .skip
  rw[Qp,BI]
  by_cases c:f x∈Dy f ns
  .rw[oM c];simp;omega
  .rw[nr c,BI];simp;omega
theorem qP(f:Str->List Bool)(ns:List Str)(x:Str):Le f (ns++[x])=Le f ns++[.int ((Dy f (ns++[x])).idxOf (f x):Nat)]:=by
 unfold Le;rw[Dv]
 congr 1
 refine mF λy a=>?_;have b:f y∈Dy f ns:=dF.mpr ⟨y,a,rfl⟩;rw[Qp]
 by_cases c:f x∈Dy f ns
 .rw[oM c]
 .rw[nr c,List.idxOf_append,oM b]
def lN:Pre:=λl R=>∃(tp:Bool)(ns:List Str)(a:Bool)(Ls:List Lp),l=[.sq tp (ns.map .str),.sq a (Ls.map Lp.P)]/\ns.length<=40/\Ls.length<=12/\R=.new λxs=>xs=Le (hasB Ls) ns
theorem kE(h:x∈HG xs ys):∃a b,a∈xs/\b∈ys/\x=.tup [a,b]:=by
 obtain⟨i,hi⟩:=List.getElem?_of_mem h;unfold HG at hi;rw[ZGg]at hi;cases e1:xs[i]? with
 |none=>rw[e1]at hi;simp at hi
 |some a=>
  cases c:ys[i]? with
  |none=>rw[e1,c]at hi;simp at hi
  |some b=>
   rw[e1,c]at hi;exact⟨a,b,C8 e1,C8 c,(BG hi).symm⟩
theorem ints_list:∀{zs:List PV},(∀z∈zs,∃i:Int,z=.int i)->∃is:List Int,zs=is.map PV.int
 | [],_=>⟨[],rfl⟩
 |z::zs,h=>by
  obtain⟨i,rfl⟩:=h z (by simp);obtain⟨is,e⟩:=ints_list (zs:=zs) λz a=>h z (by simp[a]);exact⟨i::is,by rw[e];rfl⟩
noncomputable def V5(cs:List Str):PV->Bool
 | .tup [.str x,_]=>decide (x∈cs)
 |_=>false
noncomputable def lD:PV->PV
 | .tup [_,b]=>b
 |_=>.A8
def i9:Pre:=λl R=>∃(ns:List Str)(ms:List Int)(L:Lp),l=[.sq false (ns.map .str),.is (.lst (ms.map .int)),.is L.P]/\ns.length<=40/\ms.length=ns.length/\R=.new λ_=>True
end Fz
namespace L2
variable{x:Str}{r:List V->Hp->VK->Prop}{op:CmpOp}
section
variable{X:Cx}{a b e o:Expr}{es:List Expr}{ta tb te:TE}{t:TA}{pos p:Pos}
theorem Ag{id:String}(c:Bo X (.builtin id) r)(a:X.mg x=none)(d:QA X (e::es) t)(b:Gl X x:=by rfl)(hv:bootBuiltins x=some (.builtin id):=by decide +kernel)(hn:x ≠"__name__" := by decide)(BO:(x == ("__debug__":Str))=false:=by decide)
  (he:Cy X e es:=by rfl) (An:BEq X pos es:=by rfl):QE X (.Call (.Name x p) (e::es) [] pos) (CH r t):=ZGK c b a hv d hn BO he An
theorem G6{T:String}(c:Bo X (.type T) r)(a:X.mg x=none)(d:QA X (e::es) t)(b:Gl X x:=by rfl)(hv:bootBuiltins x=some (.type T):=by decide +kernel)(hn:x ≠"__name__" := by decide)(BO:(x == ("__debug__":Str))=false:=by decide)
  (he:Cy X e es:=by rfl) (An:BEq X pos es:=by rfl):QE X (.Call (.Name x p) (e::es) [] pos) (CH r t):=ZEC c b a hv d hn BO he An
theorem Am{r:R2}(d:HV X r)(f:QE X a ta)(e:QE X b tb)(c:VC b:=by exact λ_ _=>rfl):QE X (.Subscript a b pos) (BE r ta tb):=ZCI d f e c
theorem AX{j k:Nat}{ps:List Str}{sp:Sp}(h:AH X.prog X.w X.K X.mg X.base x k ps sp)(a:B8 j X.A)(b:QA X (e::es) t)(hk:k<=j:=by decide)(hg:Gl X x:=by rfl)(BO:(x == ("__debug__":Str))=false:=by decide)
  (he:Cy X e es:=by rfl) (An:BEq X pos es:=by rfl):QE X (.Call (.Name x p) (e::es) [] pos) (E7 sp [] E0 t):=ZFB h a hk b hg BO he An
theorem FW{r:R2}(ho:BD X (compareOp op) r)(e:QE X a ta)(d:QE X b tb)(c:behindInMarks op b=false:=by first|exact iE _|with_unfolding_all rfl):QE X (.Compare a [op] [b] pos) (BE r ta tb):=ZEA ho e d c
theorem Ay{r:R2}(ho:BD X (compareOp op) r)(e:QE X a ta)(d:QE X b tb)(c:behindInMarks op b=false:=by first|exact iE _|with_unfolding_all rfl):QT X (.Compare a [op] [b] pos) (Pa (BE r ta tb)):=ZBv ho e d c
theorem Ar(i:Nat){pos':Pos}(b:X.N.Nodup)(a:QE X e te)(hi:X.N[i]?=some x:=by rfl)(hx:Loc X.env.scope x:=by first|exact Or.inl rfl|exact Or.inr rfl)(hs:swapsWith e (some (.Name x pos')) pos.line X.env=pure false:=by rfl)(hf:X.fn x=true∨X.env.scope.names.lookup x=some .local:=by first|exact .inl rfl|exact .inr rfl|assumption):
  QS X (.Assign [.Name x pos'] e pos) (Df te (CZ i)):=vC b hi hx a hs hf
theorem DY(i:Nat)(a:X.N.Nodup)(hi:X.N[i]?=some x:=by rfl)(hx:Loc X.env.scope x:=by first|exact Or.inl rfl|exact Or.inr rfl)(hf:X.fn x=true∨X.env.scope.names.lookup x=some .local:=by first|exact .inl rfl|exact .inr rfl|assumption):QG X (.Name x pos) (CZ i):=ZFW a hi hx hf
end
end L2
namespace Fz
open L2 Lw
variable{ns:List Str}
noncomputable def Kg:Str:="line_of.<locals>.<lambda>"
def Bh(s:Stmt):Pos:=match DC s with
 | [.Return (some (.Call _ _ [⟨_,.Lambda _ _ _ p,_⟩] _)) _]=>p
 |_=>⟨0,0,0,0⟩
def Di(T:Addr)(pos:Pos)(ns:List Str):Hp->V->Prop:=λF v=>Rep F v (.lst (ns.map .str))/\F T=some (.C3 (.tab pos Kg))
theorem ZBH(T:Addr)(pos:Pos)(ns:List Str):∀F F',AQ F F'->∀v,Di T pos ns F v->Di T pos ns F' v:=λF F' s v h=>⟨h.1.mono s,s _ _ h.2⟩
section
variable[Xw]
variable{ss:List Slot}{i j:Nat}{T:Addr}{pos:Pos}
theorem N3{k:PV->Prop}(h:ss[i]?=some (.raw (Di T pos ns)))(hk:k (.lst (ns.map .str))):Wp ss (Aj i) k:=⟨λE Z F H Q S q=>by
 obtain⟨v,a,r,_⟩:=S.ok i _ h;exact⟨v,a,q v _ F H (.refl S) r.1 hk⟩⟩
end
def Ow(Ls:List Lp)(ch:List Nat)(x:Str):Int:=((ch.filter λn=>match Ls[n]? with|some l=>decide (x∈l.cs)|none=>false).length:Nat)
noncomputable def YL:PV->Str
 | .str x=>x
 |_ => ""
theorem ZFG{ys:List PV}(p:ys.Perm (ns.map .str)):∃ms:List Str,ys=ms.map .str/\ms.Perm ns:=by
 refine⟨ys.map YL,?_,?_⟩
 .rw[FJ];refine(mG _).symm.trans (mF λy a=>?_);obtain⟨x,_,rfl⟩:=List.mem_map.mp (p.mem_iff.mp a);rfl
 .have q:=p.map YL;rw[FJ]at q;exact q.trans (by rw[show YL ∘ PV.str=id from rfl,mG])
def uv(Ls:List Lp)(ch:List Nat):PV->Int
 | .str x=>Ow Ls ch x
 |_=>0
def jv(T:Addr)(pos:Pos):Pre:=λl R=>∃(ns:List Str)(Ls:List Lp)(ch:List Nat),l=[.raw (Di T pos ns),.is (.lst (Ls.map Lp.P)),.is (.lst (ch.map λn:Nat=>PV.int n))]/\ns.length<=40/\Ls.length<=12/\ch.length<=12/\(∀n∈ch,n<Ls.length)/\
 R=.new λxs=>∃ms:List Str,xs=ms.map .str/\ms.Perm ns/\ms.Pairwise λa b=>Ow Ls ch a<=Ow Ls ch b
end Fz
set_option maxHeartbeats 400000
namespace L2
variable{ep i j mask n:Nat}{owner:Array (Option Nat)}{xs:List (Option Nat)}{α:Type}{prog:Program}{w:World}{A:Around}{E:Value->Shared->Prop}{s:Shared}{a r:Addr}{f:Str->Bool}{Q:Bool->Shared->Prop}{so:Obj}
noncomputable def lp(mask:Nat)(p:Nat×Nat):Nat×Nat:=SetTable.leap mask p.1 p.2
def Dt(mask:Nat):Nat->Nat×Nat->Nat×Nat
 | 0,p=>p
 |t+1,p=>Dt mask t (lp mask p)
theorem SA(mask a b:Nat)(p:Nat×Nat):Dt mask (a+b) p=Dt mask b (Dt mask a p):=by
 induction a generalizing p with
 |zero=>rw[NP];rfl
 |succ a c=>rw[show a+1+b=(a+b)+1 by omega];exact c _
theorem XG(mask t:Nat)(p:Nat×Nat):(Dt mask t p).2=p.2 / 32 ^ t:=by
 induction t generalizing p with
 |zero=>simp[Dt]
 |succ t a=>
  show(Dt mask t (lp mask p)).2=_;rw[a];show p.2 / 32 / 32 ^ t=_;rw[Nat.div_div_eq_div_mul,Nat.pow_succ,Nat.mul_comm]
theorem ZEu(t:Nat){p:Nat×Nat}(h:p.1<=mask):(Dt mask t p).1<=mask:=by
 induction t generalizing p with
 |zero=>exact h
 |succ t a=>exact a (Pn (Zd _ (mR _)))
theorem ZEM(fuel i p:Nat)(h:SetTable.layClean.free mask owner fuel i p=none):∀t<fuel,(owner.getD (Dt mask t (i,p)).1 (some 0)).isNone=false:=by
 induction fuel generalizing i p with
 |zero=>intro t c;omega
 |succ fuel b=>
  intro t c;unfold SetTable.layClean.free at h;cases a:(List.range (SetTable.runEnd mask i+1 - i)).find? λk=>(owner.getD (i+k) (some 0)).isNone with
  |some k=>rw[a]at h;cases h
  |none=>
   rw[a]at h;cases t with
   |zero=>
    have q:=List.find?_eq_none.mp a 0 (by rw[Tf];unfold SetTable.runEnd;split <;> omega)
    exact Bool.eq_false_iff.mpr (by simpa[Dt]using q)
   |succ t=>exact b _ _ h t (by omega)
def good(mask:Nat):Bool:=(Dt mask (mask+1) (0,0)).1 == 0 && (List.range (mask+1)).all λj=>(List.range (mask+1)).any λt=>(Dt mask t (0,0)).1 == j
theorem VY:[7,15,31,63,127].all good=true:=by decide +kernel
theorem ze(c:good mask=true)(hi:i<=mask)(d:j<=mask):∃t,t<=mask/\(Dt mask t (i,0)).1=j:=by
 unfold good at c;rw[C7,ZAM,Eb]at c;obtain⟨h,h1⟩:=c;have at':∀j,j<=mask->∃t,t<=mask/\(Dt mask t (0,0))=(j,0):=λj d=>by
  have q:=h1 j (List.mem_range.mpr (by omega));rw[NJ]at q;obtain⟨t,g,e⟩:=q;rw[Tf]at g;rw[ZAM]at e;exact⟨t,by omega,Pt e (by rw[XG];simp)⟩
 obtain⟨a,l,ea⟩:=at' i hi;obtain⟨b,k,f⟩:=at' j d
 by_cases m:a<=b
 .refine⟨b - a,by omega,?_⟩;rw[<- ea,<- SA,show a+(b - a)=b by omega,f]
 .refine⟨b+(mask+1) - a,by omega,?_⟩;have e0:Dt mask (mask+1) (0,0)=(0,0):=Pt h (by rw[XG];simp);rw[<- ea,<- SA,show a+(b+(mask+1) - a)=(mask+1)+b by omega,SA,e0,f]
theorem uQ(h:Int):SetTable.bits h<2 ^ 64:=by
 unfold SetTable.bits;have h1:=KL h (show(2 ^ 64:Int)≠0 by decide);have h2:=KJ h (show(0:Int)<2 ^ 64 by decide);omega
theorem tP(f:good mask=true){p:Nat}(hi:i<=mask)(b:p<2 ^ 64)(d:j<=mask)(c:owner.getD j (some 0)=none):∃k,SetTable.layClean.free mask owner (SetTable.turns mask) i p=some k:=by
 cases h:SetTable.layClean.free mask owner (SetTable.turns mask) i p with
 |some k=>exact⟨k,rfl⟩
 |none=>
  have a:Dt mask 13 (i,p)=((Dt mask 13 (i,p)).1,0):=Pt rfl (by
   rw[XG];exact Nat.div_eq_of_lt (CI b (by decide)))
  obtain⟨t,g,e⟩:=ze f (ZEu 13 (p:=(i,p)) hi) d;have q:=ZEM _ _ _ h (13+t) (by unfold SetTable.turns;omega);rw[SA,a,e,c]at q;cases q
theorem yL(fuel i p k:Nat)(h:SetTable.layClean.free mask owner fuel i p=some k):owner.getD k (some 0)=none:=by
 induction fuel generalizing i p with
 |zero=>cases h
 |succ fuel b=>
  unfold SetTable.layClean.free at h;cases a:(List.range (SetTable.runEnd mask i+1 - i)).find? λk=>(owner.getD (i+k) (some 0)).isNone with
  |some k'=>
   rw[a]at h;cases h;have q:=List.find?_some a
   simpa using q
  |none=>rw[a]at h;exact b _ _ h
theorem zS{v:Nat}(h:xs[j]?=some none):((xs.set j (some v)).filterMap id).Perm (v::xs.filterMap id):=by
 induction xs generalizing j with
 |nil=>cases h
 |cons x xs a=>
  cases j with
  |zero=>
   cases h;exact IL _
  |succ j=>
   have q:=a (j:=j) (by simpa using h)
   cases x with
   |none=>exact q
   |some y=>exact(q.cons y).trans (List.Perm.swap _ _ _)
theorem ZEe(h:(xs.filterMap id).length<xs.length):∃j:Nat,xs[j]?=some none:=by
 induction xs with
 |nil=>simp at h
 |cons x xs a=>
  cases x with
  |none=>exact⟨0,rfl⟩
  |some y=>
   obtain⟨j,b⟩:=a (by simpa using h)
   exact⟨j+1,by simpa using b⟩
theorem z9(s:good mask=true)(b:Array Int)(q:b.size<=mask):∃owner,SetTable.layClean mask b=some owner/\owner.size=mask+1/\(owner.toList.filterMap id).Perm (List.range b.size):=by
 have key:∀(l:List Int)(owner:Array (Option Nat))(k:Nat),owner.size=mask+1->(owner.toList.filterMap id).Perm (List.range k)->k+l.length<=mask->
   ∃YX,l.foldl (λacc h=>do
    let (owner,k) <- acc
    let j <- SetTable.layClean.free mask owner (SetTable.turns mask) (SetTable.bits h % (mask+1)) (SetTable.bits h)
    pure (owner.setIfInBounds j (some k),k+1)) (some (owner,k))=some (YX,k+l.length)/\YX.size=mask+1/\(YX.toList.filterMap id).Perm (List.range (k+l.length)):=by
  intro l
  induction l with
  |nil=>intro owner k h1 h2 _;exact⟨owner,rfl,h1,h2⟩
  |cons h l f=>
   intro owner k h1 h2 t;rw[BJ]at t;obtain⟨j,g⟩:=ZEe (xs:=owner.toList) (by rw[h2.length_eq,Ep,Cj];omega);have r:j<owner.size:=by have:=(List.getElem?_eq_some_iff.mp g).1;simpa using this
   have o:owner.getD j (some 0)=none:=by
    rw[TU]at g;rw[la,g];rfl
   obtain⟨c,m⟩:=tP (owner:=owner) s (i:=SetTable.bits h % (mask+1)) (p:=SetTable.bits h) (Pn (Zd _ (mR _))) (uQ h) (show j<=mask by omega) o;have a:=yL _ _ _ _ m;have v:owner.toList[c]?=some none:=by
    rw[TU];rw[la]at a;cases e:owner[c]? with
    |none=>rw[e]at a;cases a
    |some y=>rw[e]at a;exact sg some a
   obtain⟨o',u,s',d⟩:=f (owner.setIfInBounds c (some k)) (k+1) (by simpa using h1) (by
    rw[Array.toList_setIfInBounds];refine(zS v).trans ?_;rw[List.range_succ];exact(h2.cons k).trans (List.perm_append_singleton k _).symm) (by omega)
   refine⟨o',?_,s',by rw[BJ,show k+(l.length+1)=k+1+l.length by omega];exact d⟩;rw[Tc,BJ,show k+(l.length+1)=k+1+l.length by omega,<- u]
   congr 1
   show(some (owner,k)).bind _=_;simp only[Tp,m];rfl
 obtain⟨o',e,s',d⟩:=key b.toList (Array.replicate (mask+1) none) 0 (by simp) (by
  rw[Array.toList_replicate];have:∀n,(List.replicate n (none:Option Nat)).filterMap id=[]:=λn=>by induction n with
   |zero=>rfl
   |succ n f=>rw[ZGr];exact f
  rw[this];exact IL _) (by simpa using q)
 refine⟨o',?_,s',by simpa using d⟩
 unfold SetTable.layClean;rw[<- Array.foldl_toList,e];rfl
theorem ZF(f:good mask=true)(g mv:Nat)(ld pl:Bool)(b:Array Int)(d:b.size<=mask):∃t a,SetTable.laid mask g mv ld pl b=some (t,a)/\t.led=ld/\t.plain=pl/\t.mask=mask/\t.dummies=#[]/\t.place.size=b.size/\a.toList.Perm (List.range b.size):=by
 obtain⟨owner,e,s,p⟩:=z9 f b d;have c:((List.range (mask+1)).filterMap λj=>(owner.getD j none).map λx=>(j,x)).map (·.2)=owner.toList.filterMap id:=by
  rw[List.map_filterMap];have h:owner.toList=(List.range (mask+1)).map λj=>owner.getD j none:=by
   refine ZP (by simp[s]) λn h1 h2=>?_;simp at h1;simp[la,h1]
  rw[h,ZGb]
  congr 1
  funext j
  show Option.map _ (Option.map _ (owner.getD j none))=owner.getD j none;cases owner.getD j none <;> rfl
 refine⟨_,_,by unfold SetTable.laid;rw[e];rfl,rfl,rfl,rfl,rfl,?_,?_⟩
 .have q:=sg List.length c;rw[AG]at q;rw[Bn,AG];exact q.trans (by rw[p.length_eq,Ep])
 .show(List.map _ _).Perm _;rw[c];exact p
theorem Qc[DecidableEq α]{l:List α}:∀{m:List α},l.Nodup->(∀k∈l,k∈m)->l.length<=m.length:=by
 induction l with
 |nil=>intro m _ _;exact CJ _
 |cons x r b=>
  intro m c a;obtain⟨h1,h2⟩:=List.nodup_cons.mp c;have hx:=a x B1;have:=b (m:=m.erase x) h2 λk hk=>(Te (λe:k=x=>h1 (e▸hk))).mpr (a k (BM _ hk));rw[NM hx]at this;have:=ZT hx;rw[BJ];omega
theorem ZEJ[DecidableEq α]{ds A B:List α}{k:α}(nd:ds.Nodup)(b:∀x∈ds,x∈A++k::B)(a:(A++k::B).length<=ds.length):k∉A++B:=by
 intro hk;have q:=Qc (m:=A++B) nd λx hx=>by
  rcases List.mem_append.mp (b x hx)with h|h
  .exact List.mem_append.mpr (.inl h)
  .rcases List.mem_cons.mp h with rfl|h
   .exact hk
   .exact List.mem_append.mpr (.inr h)
 simp only[BI,BJ]at a q;omega
theorem B4.typeIs(h:B4 prog w s.heap a f n):s.TypeIs (.ref a) "set" := by
 obtain⟨o,_,_,_,ho,b,_⟩:=h;exact⟨o,ho,b.1⟩
theorem fe(l:List Addr)(d:∀a∈l,∃f n,B4 prog w s.heap a f n)(h:Q true s):wpAny (model prog w) A (setsQuiet l) Q E s:=by
 unfold setsQuiet;refine dP ?_;refine wpAny_forIn_list _ (λrest r s'=>s'=s/\r=(none,())/\∀a∈rest,∃f n,B4 prog w s.heap a f n) _ ?_ ?_ _ _ ⟨rfl,rfl,d⟩
 .rintro a rest r s'⟨rfl,rfl,c⟩;obtain⟨f,n,o,es,ep,t,ho,i,hd,Bt,Bc,m,g,j,Cd,An⟩:=c a B1;refine dP (xU ho hd g ?_);refine dP (mM _ (λrest r s2=>s2=s'/\r=(none,())/\∀e∈rest,∃k,(gT.gK prog w).is k e.2=true) _ ?_ ?_ _ _ ⟨rfl,rfl,Bt.keys⟩)
  .rintro⟨hh,x⟩ZHI r s2⟨rfl,rfl,Rn⟩;obtain⟨k,hk⟩:=Rn _ B1;obtain⟨tk,rfl⟩:=Lq hk;exact nW ⟨rfl,rfl,λe b=>Rn e (BM _ b)⟩
  .rintro r s2⟨rfl,rfl,_⟩;exact nW ⟨rfl,rfl,λe b=>c e (BM _ b)⟩
 .rintro r s'⟨rfl,rfl,_⟩;exact nW h
noncomputable def kv:Value->Str
 | .str k _=>k
 |_=>default
theorem PF{es:List (Int×Value)}(Bt:ElemsOf (gT.gK prog w) es)(k:Str):(∃e∈es,(gT.gK prog w).is k e.2=true)↔k∈es.map (kv ·.2):=by
 rw[List.mem_map];constructor
 .rintro⟨e,a,hk⟩;obtain⟨t,b⟩:=Lq hk;exact⟨e,a,by rw[b];rfl⟩
 .rintro⟨e,a,rfl⟩;obtain⟨⟨k,hk,_⟩,_⟩:=Bt e a;obtain⟨t,b⟩:=Lq hk;refine⟨e,a,?_⟩;rw[b];exact ma prog w _ t
theorem B4.cut{ds:List Str}{k:Str}{tk:Tok}(nd:ds.Nodup)(H:B4 prog w s.heap a (λk=>decide (k∈ds)) ds.length)
  (I:k∉ds->Q false s)
  (h1:k∈ds->∀h',Heap.SameBut a s.heap h'->B4 prog w h' a (λk'=>decide (k'∈ds.erase k)) (ds.erase k).length->Q true { s with heap:=h' }) :
  wpAny (model prog w) A (setDiscardHashed a (.str k tk) ((gT.gK prog w).hash k)) Q E s:=by
 obtain⟨o,es,ep,t,ho,l,hd,Bt,Bc,G,b,r,Cd,An⟩:=H;have L:(gT.gK prog w).is k (.str k tk)=true:=ma prog w k tk;have M:(Value.str k tk).scannable=true:=rfl;have d:∀k,k∈ds↔k∈es.toList.map (kv ·.2):=λk=>by rw[<- PF Bt,<- Bc k,t6]
 unfold setDiscardHashed setFind setFindIn;refine dP (dP (rX ho hd b ?_));dsimp only;rw[byScan_of M G Bt];simp only[↓reduceIte];refine dP (ZA8 ?_);refine dP (wpAny_setScan_of L ho hd b Bt ?_);cases n:List.findIdx? (λe=>(gT.gK prog w).is k e.2) es.toList with
 |none=>
  dsimp only;refine nW ?_;dsimp only;refine nW (I λhk=>?_);obtain⟨e,m,g⟩:=(PF Bt k).mpr ((d k).mp hk);have:=List.findIdx?_eq_none_iff.mp n e m;rw[g]at this;exact Bool.noConfusion this
 |some j=>
  dsimp only;refine nW ?_;dsimp only;obtain⟨i,TM,_⟩:=List.findIdx?_eq_some_iff_getElem.mp n;have hk:k∈ds:=(d k).mpr ((PF Bt k).mp ⟨_,KN i,TM⟩);refine dP (rX ho hd b ?_);dsimp only;have P:j<es.size:=by simpa using i
  rw[NP];have el:(SetTable.eraseAt es j).toList=es.toList.take j++es.toList.drop (j+1):=by
   unfold SetTable.eraseAt;rw[lb,ZGO,ZGO];simp;exact NN (by simp)
  have J:(SetTable.eraseAt es j).size=es.size - 1:=by
   rw[<- Cj,el];simp;omega
  have sp:es.toList=es.toList.take j++es.toList[j]::es.toList.drop (j+1):=by
   rw[<- TZ i,ZZ]
  have D:kv es.toList[j].2=k:=by
   obtain⟨t,K⟩:=Lq TM;rw[K];rfl
  have f:es.toList.map (kv ·.2)=(es.toList.take j).map (kv ·.2)++k::(es.toList.drop (j+1)).map (kv ·.2):=by
   conv=>lhs;rw[sp]
   rw[Dv,D4,D]
  have nk:=ZEJ (k:=k) (A:=(es.toList.take j).map (kv ·.2)) (B:=(es.toList.drop (j+1)).map (kv ·.2)) nd (λx hx=>by rw[<- f];exact(d x).mp hx) (by rw[<- f,AG,Cj,r];exact Aa _)
  have v:(SetTable.eraseAt es j).size<scanBound:=by omega
  refine dP (x6 ho hd ?_ (xO v));refine dP (wpAny_point ?_);have C:t.place.size=es.size:=P7 b;have y:t.fill<=t.mask:=by
   unfold SetTable.fits at b;rw[C7,t6]at b;exact b.2
  have q:t.place[j]?=some (t.place[j]'(by omega)):=IK _;have td:t.drop j={ t with place:=SetTable.eraseAt t.place j,dummies:=SetTable.insertAt t.dummies (SetTable.below t.dummies (t.place[j]'(by omega))) (t.place[j]'(by omega)) }:=by
   unfold SetTable.drop;rw[q]
  have F:∀(xs:Array Nat)(p x:Nat),(SetTable.insertAt xs p x).size<=xs.size+1:=λxs p x=>by
   unfold SetTable.insertAt;simp;omega
  have pz:∀(xs:Array Nat)(p:Nat),p<xs.size->(SetTable.eraseAt xs p).size=xs.size - 1:=λxs p q=>by
   unfold SetTable.eraseAt;simp;omega
  have u:ElemsOf (gT.gK prog w) (SetTable.eraseAt es j).toList:=by
   rw[el];intro e m;refine Bt e ?_;rw[sp];rcases List.mem_append.mp m with h|h
   .exact List.mem_append.mpr (.inl h)
   .exact List.mem_append.mpr (.inr (BM _ h))
  refine nW (h1 hk _ (Hf s.heap a _) ⟨_,SetTable.eraseAt es j,_,_,JR ho hd _ _,l,rfl,?_,λk'=>?_,v,?_,?_,?_,λz=>?_⟩)
  .exact u
  .rw[PF u,el,Dv,t6,nd.mem_erase_iff,d,f];constructor
   .rintro⟨Ab,c⟩;rcases List.mem_append.mp c with h|h
    .exact List.mem_append.mpr (.inl h)
    .rcases List.mem_cons.mp h with h|h
     .exact absurd h Ab
     .exact List.mem_append.mpr (.inr h)
   .intro c;refine⟨λe=>nk (e▸c),?_⟩;rcases List.mem_append.mp c with h|h
    .exact List.mem_append.mpr (.inl h)
    .exact List.mem_append.mpr (.inr (BM _ h))
  .rw[td];unfold SetTable.fits SetTable.fill;rw[C7,ZAM,t6];have O:=pz t.place j (by omega);have N:=F t.dummies (SetTable.below t.dummies (t.place[j]'(by omega))) (t.place[j]'(by omega));unfold SetTable.fill at y;refine⟨by show(SetTable.eraseAt t.place j).size=_;omega,?_⟩;show(SetTable.eraseAt t.place j).size+(SetTable.insertAt _ _ _).size<=t.mask;omega
  .rw[J,NM hk,r]
  .rw[td];exact Cd
  .rw[td];exact An (by omega)
noncomputable def ix(n:Nat):Bool:=[7,15,31,63,127].contains (SetTable.sizeAbove ((0+n) * 2) - 1) && decide (n<=SetTable.sizeAbove ((0+n) * 2) - 1) && decide (SetTable.sizeAbove ((0+n) * 2)<=128)
theorem ZE2:(List.range 64).all ix=true:=by decide +kernel
section
structure Ue (w:World) (h:Heap) (r:Addr) (n:Nat) (so:Obj) (ep:Nat) (t:SetTable):Prop where
 at':h.get? r=some so
 ex:so.ExactSet
 dt:so.data=.set #[] ep t
 pl:t.place=#[]
 dm:t.dummies=#[]
 ld:t.led=!BY w
 gd:good t.mask=true
 rm:n<=t.mask
theorem Ue.fits{h:Heap}{t:SetTable}(x:Ue w h r n so ep t):t.fits (#[]:Array (Int×Value)).size=true:=by
 unfold SetTable.fits SetTable.fill;rw[x.pl,x.dm];simp
theorem om{Q:Unit->Shared->Prop}(b:s.heap.get? r=some so)(hx:so.ExactSet)(hd:so.data=.set #[] 0 (.fresh 0 0 (!BY w)))(l:n<64)
  (h:∀h' g ep t,Heap.SameBut r s.heap h'->Ue w h' r n g ep t->Q () { s with heap:=h' }):wpAny (model prog w) A (setRoomFor r n) Q E s:=by
 have e:(SetTable.fresh 0 0 (!BY w)).fits (#[]:Array (Int×Value)).size=true:=rfl;unfold setRoomFor;refine dP (rX b hd e ?_);dsimp only;have i:(SetTable.fresh 0 0 (!BY w)).roomFor n=if(0+n) * 5>=7 * 3 then some ((0+n) * 2)else none:=rfl
 rw[i]
 by_cases d:(0+n) * 5>=7 * 3
 .rw[oM d];dsimp only;have q:=List.all_eq_true.mp ZE2 n (List.mem_range.mpr l);unfold ix at q;rw[C7,C7,t6,t6]at q;obtain⟨⟨c,k⟩,z⟩:=q;replace c:=List.all_eq_true.mp VY _ (List.contains_iff_mem.mp c);unfold setRelay;refine dP (rX b hd e ?_);dsimp only;have j:¬ SetTable.sizeAbove ((0+n) * 2) > sizeLine:=by
   have:128<=sizeLine:=by decide +kernel
   omega
  rw[nr j];obtain⟨t,a,e1,y,B,f,x,v,u⟩:=ZF c 0 ((SetTable.fresh 0 0 (!BY w)).movedTo (SetTable.sizeAbove ((0+n) * 2) - 1)) (!BY w) true #[] (CJ _);have p:(SetTable.fresh 0 0 (!BY w)).relaid ((#[]:Array (Int×Value)).map (·.1)) ((0+n) * 2)=some (t,a):=by
   have m:(#[]:Array (Int×Value)).map (·.1)=#[]:=by simp
   rw[m];unfold SetTable.relaid;exact e1
  refine dP ?_
  wp_delta
  rw[p];dsimp only;have o:a=#[]:=by
   have:=u.length_eq;simp at this;exact this
  subst o;rw[nr (by simp)];refine nW ?_;dsimp only;refine x6 b hd ?_ (CJ _);exact h _ _ _ t (Hf s.heap r _) ⟨JR b hd _ _,hx,rfl,ZGL v,x,y,by rw[f];exact c,by rw[f];exact k⟩
 .rw[nr d];dsimp only;exact nW (h s.heap so 0 _ (NH r s.heap) ⟨b,hx,hd,rfl,rfl,rfl,List.all_eq_true.mp VY 7 (by simp),by show n<=7;omega⟩)
theorem uj{b:Addr}{g:Sem Unit}{Q:Unit->Shared->Prop}(Ab:r≠b)(u:s.heap.get? r=some so)(hx:so.ExactSet)(hd:so.data=.set #[] 0 (.fresh 0 0 (!BY w)))
  (H:B4 prog w s.heap b f n) (N:n<64) (h:∀h',Heap.SameBut r s.heap h'->B4 prog w h' r f n->Q () { s with heap:=h' }):wpAny (model prog w) A (setMerge r b g) Q E s:=by
 obtain⟨o,es,ep,t,ho,G,D,Bt,Bc,d,v,l,Cd,An⟩:=H;unfold setMerge;rw[nr (by simpa using Ab)]
 refine dP (rX ho D v ?_);dsimp only
 by_cases j:es.isEmpty=true
 .rw[oM j];have e0:es=#[]:=by simpa using j
  subst e0;exact nW (h s.heap (NH r s.heap) ⟨so,#[],0,_,u,hx,hd,Bt,Bc,d,rfl,l,rfl,λz=>by simp at z⟩)
 .rw[nr j];have KH:0<es.size:=by
   rcases ZGx es.size with z|z
   .exact absurd (by simpa using ZGL z) j
   .exact z
  refine dP (om u hx hd (n:=es.size) (by omega) λh1 F I t1 IB B=>?_);refine dP (rX (s:={ s with heap:=h1 }) B.at' B.dt B.fits ?_)
  dsimp only;have p:¬ (t1.fill != 0)=true:=by unfold SetTable.fill;rw[B.pl,B.dm];simp
  by_cases x:(t1.mask == t.mask && t.dummies.isEmpty)=true
  .have e:t1.road t=.slotForSlot:=by unfold SetTable.road;rw[nr p,oM x]
   rw[e];dsimp only;refine x6 (s:={ s with heap:=h1 }) B.at' B.dt ?_ (xO d)
   refine h _ (IB.trans (Hf h1 r _)) ⟨_,es,_,_,JR B.at' B.dt _ _,B.ex,rfl,Bt,Bc,d,v,l,?_,λz=>?_⟩
   .show(t1.led && t.led)=!BY w;rw[B.ld,Cd,Bool.and_self]
   .show(t1.plain && t.plain)=false;rw[An z,Lj]
  .have e:t1.road t=.clean:=by unfold SetTable.road;rw[nr p,nr x]
   rw[e];dsimp only;obtain⟨t',a,e1,M,L,K,J,C,y⟩:=ZF B.gd t1.finger t1.moves (t1.led && t.led) (t1.plain && t.plain) (es.map (·.1)) (by rw[ZJ];exact B.rm)
   rw[ZJ]at C y;refine dP ?_
   wp_delta
   rw[e1];dsimp only;have i:(a.filterMap (es[·]?)).toList.Perm es.toList:=by
    rw[ZGP];exact(y.filterMap _).trans (by rw[filterMap_getElem?_range])
   have c:(a.filterMap (es[·]?)).size=es.size:=by rw[<- Cj,i.length_eq,Cj]
   rw[nr (by rw[c];simp)];refine nW ?_;dsimp only;refine x6 (s:={ s with heap:=h1 }) B.at' B.dt ?_ (xO (by rw[c];exact d))
   refine h _ (IB.trans (Hf h1 r _)) ⟨_,_,_,_,JR B.at' B.dt _ _,B.ex,rfl,Bt.perm i,λk=>(Bc k).trans ⟨λ⟨e,m,q⟩=>⟨e,i.mem_iff.mpr m,q⟩,λ⟨e,m,q⟩=>⟨e,i.mem_iff.mp m,q⟩⟩,by rw[c];exact d,?_,c.trans l,?_,λ_=>?_⟩
   .unfold SetTable.fits SetTable.fill;rw[J,C,c,K];have:=B.rm;simp;omega
   .rw[M,B.ld,Cd,Bool.and_self]
   .rw[L,An KH,Lj]
variable{X:Cx}
end
end L2
set_option maxHeartbeats 4000000
namespace Fz
open L2 Lw
theorem ia(ns:List Str):(λk'=>(dd ns).any (· == k'))=λk'=>decide (k'∈dd ns):=by
 funext k
 rw[KI,t6];simp
end Fz
namespace L2
variable{prog:Program}{w:World}{A:Around}{E:Value->Shared->Prop}{s:Shared}{a b r:Addr}{o:Obj}{es:Array (Int×Value)}{ep m mask n:Nat}{t:SetTable}{Q:Array (Int×Value)->Shared->Prop}{f g:Str->Bool}{Ke:String}{X:Cx}
theorem ZAf{p:Str->Bool}{i:Nat}(l:B4 prog w s.heap a f n)(H:B4 prog w s.heap b g m)(e:B4 prog w s.heap r p i)
  (ho:s.heap.get? a=some o) (hd:o.data=.set es ep t)
  (h:∀(BP:Array (Int×Value))(h':Heap),BP.toList.Perm es.toList->Heap.SameBut r s.heap h'->B4 prog w h' r p i->Q BP { s with heap:=h' }):wpAny (model prog w) A (setWalkUnseen a [b,r] (some r)) Q E s:=by
 have I:=l;obtain⟨o',BP,Hy,t',CP,G,Gp,Bt,Bc,L,k,K,Cd,An⟩:=l;rw[ho]at CP;cases CP;rw[hd]at Gp;cases Gp;unfold setWalkUnseen setsByText;refine dP (rX ho hd k ?_);dsimp only;refine dP (dP (u9 (nW ?_)));show wpAny _ _ (if(BY w || (t.led && t.plain) || decide (es.size<=1))=true then _ else _) _ _ _
 by_cases d:(BY w || (t.led && t.plain) || decide (es.size<=1))=true
 .rw[oM d];refine jR ho hd k Cd (λFC=>?_) λBP B=>h BP s.heap B (NH r s.heap) e;rw[FC]at d Cd;cases D:t.plain with
  |true=>rfl
  |false=>
   rw[D]at d;simp only[Lj,lh,ZK,t6]at d;simp only[Bool.not_false,lq,ZAj];omega
 .rw[nr d];refine dP (fe _ (λx hx=>?_) ?_)
  .simp only[Ec,BF,yp]at hx;rcases hx with rfl|rfl|rfl
   .exact⟨_,_,I⟩
   .exact⟨_,_,H⟩
   .exact⟨_,_,e⟩
  rw[nr (by decide)];refine dP (ZA8 ?_);obtain⟨C,LP,y,t2,DZ,c,hd2,q,j,K9,Uz,Iu,u,v⟩:=e;refine dP (rX DZ hd2 Uz ?_);dsimp only;have F:t.led=true:=by
   rw[Cd];cases J:BY w with
   |false=>rfl
   |true=>rw[J]at d;simp at d
  split
  .refine dP (x6 DZ hd2 ?_ (xO K9));refine nW (h es _ (IL _) (Hf s.heap r _) ⟨_,LP,_,_,JR DZ hd2 LP _,c,rfl,q,j,K9,Uz,Iu,?_,λz=>?_⟩)
   .show(t2.led && t.led)=!BY w;rw[F,u,lg]
   .show(t2.plain && t.plain)=false;rw[v z,TV]
  .exact nW (h es s.heap (IL _) (NH r s.heap) ⟨C,LP,y,t2,DZ,c,hd2,q,j,K9,Uz,Iu,u,v⟩)
theorem B4.setOf{b:Heap}(h:B4 prog w b a f n):b.SetOf (gT.gK prog w) a f n:=by
 obtain⟨o,es,ep,t,h1,h2,j,i,g,e,d,c,_⟩:=h;exact⟨o,es,ep,t,h1,h2,j,i,g,e,d,c⟩
theorem MG{Q:Nat->Shared->Prop}(e:B4 prog w s.heap a f n)(h:Q n s):wpAny (model prog w) A (Builtin.Frozenset.sizeOf a) Q E s:=by
 obtain⟨o,es,ep,t,ho,d,hd,Bt,Bc,g,c,b,Cd,An⟩:=e;unfold Builtin.Frozenset.sizeOf;refine dP (xU ho hd c (nW ?_));rw[b];exact h
theorem uz{Q:Value->Shared->Prop}(B:B4 prog w s.heap a f n)(C:B4 prog w s.heap b g m)(hsz:n / 4<=m)
  (h:∀(h':Heap)(ds:List Str),ds.Nodup->(∀k,k∈ds↔f k=true/\g k=false)->ds.length<=n->B4 prog w h' s.heap.objs.size (λk=>decide (k∈ds)) ds.length->(∀b o,s.heap.get? b=some o->h'.get? b=some o)->Q (.ref s.heap.objs.size) { s with heap:=h' }) :
  wpAny (model prog w) A (Builtin.Frozenset.difference Ke a (.ref b)) Q E s:=by
 unfold Builtin.Frozenset.difference;refine dP (OG C.typeIs ?_);dsimp only;rw[nr (by decide)];refine dP (w8 (a:=b) rfl ?_);rw[nr (by simp)];rw[oM rfl];refine dP (MG C ?_);refine dP (MG B ?_);rw[nr (by omega)];refine dP ?_;unfold Builtin.Frozenset.baseOf;refine dP (zi (b:=true) B.typeIs (by rw[yC];kernel_rfl) ?_);refine nW ?_;rw[oM rfl];unfold newSet setsByText;refine dP (dP (dP (u9 (nW ?_))));dsimp only;refine t8 ?_;show wpAny _ _ _ _ _ { s with heap:=s.heap.push { cls:=.type "set", data:=.set #[] 0 (.fresh 0 0 (!BY w)) } }
 generalize T:({ cls:=.type "set", data:=.set #[] 0 (.fresh 0 0 (!BY w)) }:Obj)=so;have Z9:(s.heap.push so).get? s.heap.objs.size=some so:=BQ _ (by rw[<- T];rfl);have K:∀b o,s.heap.get? b=some o->(s.heap.push so).get? b=some o:=λb o e=>Ao _ e;have X1:B4 prog w (s.heap.push so) s.heap.objs.size (λ_=>false) 0:=by
  subst T;exact⟨_,#[],0,_,Z9,⟨rfl,rfl,rfl⟩,rfl,λe c=>by simp at c,λk=>by simp,by decide,by rfl,rfl,rfl,λz=>by simp at z⟩
 have U:B4 prog w (s.heap.push so) a f n:=B.keep λo e=>K _ _ e;have S:B4 prog w (s.heap.push so) b g m:=C.keep λo e=>K _ _ e;have Of:=U;obtain⟨o,es,ep,t,ho,hex,hd,Bt,Bc,hb,R,O,Cd,An⟩:=Of;have AO:a<s.heap.objs.size:=by obtain⟨o,_,_,_,ho,_⟩:=B;exact AY ho
 have R3:b<s.heap.objs.size:=by obtain⟨o,_,_,_,ho,_⟩:=C;exact AY ho
 refine dP (w8 (a:=s.heap.objs.size) rfl ?_);refine dP (zf (s:={ s with heap:=s.heap.push so }) ho hd R ?_)
 refine dP (rG ?_);rw[oM rfl];refine dP (ZAf (s:={ s with heap:=s.heap.push so }) U S X1 ho hd λBP h1 F IB Xe=>?_)
 have V:s.heap.objs.size≠a:=E9 AO;have J:s.heap.objs.size≠b:=E9 R3;have W:BP.toList.length=es.size:=by rw[F.length_eq,Cj]
 refine dP (mM _ (λrest _ s2=>∃(h2:Heap)(ds:List Str),s2={ s with heap:=h2 }/\Heap.SameBut s.heap.objs.size (s.heap.push so) h2/\ds.Nodup/\B4 prog w h2 s.heap.objs.size (λk=>decide (k∈ds)) ds.length/\ds.length+rest.length<=n/\
   (∀k∈ds,f k=true/\g k=false)/\(∀k,f k=true->g k=false->k∈ds∨∃e∈rest,(gT.gK prog w).is k e.2=true)/\∀e∈rest,e∈es.toList) _ ?_ ?_ _ _ ⟨h1,[],rfl,IB,Ll,Xe.congr (λk=>by simp) rfl,by rw[W,O];simp,λk hk=>by simp at hk,λk hk v=>.inr ?_,λe c=>F.mem_iff.mp c⟩)
 .rintro⟨Y,x⟩rest u s2⟨h2,ds,rfl,j,nd,J0,G,l,D,q⟩;obtain⟨⟨k,hk,hh⟩,KA⟩:=Bt _ (q _ B1);obtain⟨tk,rfl⟩:=Lq hk;have Z2:Y=(gT.gK prog w).hash k:=hh;subst Z2;have H:f k=true:=(Bc k).mpr ⟨_,q _ B1,hk⟩;have X:B4 prog w h2 b g m:=S.keep λo e=>by rw[j.2 b (Az J)];exact e
  have gy:h2.get? a=some o:=by rw[j.2 a (Az V)];exact ho
  refine dP (rG ?_);rw[oM rfl];dsimp only;refine dP (wpAny_setFind_of (knd:=gT.gK prog w) (k:=k) (s:={ s with heap:=h2 }) hk KA X.setOf λr σ=>?_)
  refine dP (nW ?_);rw[σ];have more:∀DP:List Str,(∀k',k'∈DP↔k'∈ds∨(k'=k/\g k=false))->∀k',f k'=true->g k'=false->k'∈DP∨∃e∈rest,(gT.gK prog w).is k' e.2=true:=by
   intro DP P k' UX M;rcases D k' UX M with z|⟨e,c,z⟩
   .exact .inl ((P k').mpr (.inl z))
   .rcases List.mem_cons.mp c with rfl|c
    .have e1:=(gT.gK prog w).inj _ k' k z hk;subst e1;exact .inl ((P k').mpr (.inr ⟨rfl,M⟩))
    .exact .inr ⟨e,c,z⟩
  have d:∀(i:Heap)(DP:List Str),Heap.SameBut s.heap.objs.size (s.heap.push so) i->DP.Nodup->B4 prog w i s.heap.objs.size (λk=>decide (k∈DP)) DP.length->DP.length+rest.length<=n->(∀k∈DP,f k=true/\g k=false)->(∀k',f k'=true->g k'=false->k'∈DP∨∃e∈rest,(gT.gK prog w).is k' e.2=true)->
    wpAny (model prog w) A (do Builtin.Frozenset.unchanged Ke a ep;pure (ForInStep.yield PUnit.unit)) (λr s'=>match r with | .done b'=>False | .yield b'=>∃(h2:Heap)(ds:List Str),s'={ s with heap:=h2 }/\Heap.SameBut s.heap.objs.size (s.heap.push so) h2/\ds.Nodup/\B4 prog w h2 s.heap.objs.size (λk=>decide (k∈ds)) ds.length/\ds.length+rest.length<=n/\
   (∀k∈ds,f k=true/\g k=false)/\(∀k,f k=true->g k=false->k∈ds∨∃e∈rest,(gT.gK prog w).is k e.2=true)/\∀e∈rest,e∈es.toList) E { s with heap:=i }:=by
   intro i DP L9 El Tr DX p1 p2;have I:i.get? a=some o:=by rw[L9.2 a (Az V)];exact ho
   unfold Builtin.Frozenset.unchanged;refine dP (dP (zf (s:={ s with heap:=i }) I hd R ?_))
   rw[nr (by simp)];refine nW ?_;exact nW ⟨i,DP,rfl,L9,El,Tr,DX,p1,p2,λe c=>q e (BM _ c)⟩
  rw[BJ]at G;cases v:g k with
  |true=>
   rw[nr (by decide)];refine nW ?_;refine sE (d h2 ds j nd J0 (by omega) l (more ds λk'=>⟨.inl,λz=>z.elim id λz=>by rw[v]at z;cases z.2⟩)) (λr s' z=>?_) λ_ _ z=>z;cases r with
   |yield _=>exact z
   |done _=>exact z.elim
  |false=>
   rw[oM (by decide)];have Wb:n<scanBound:=by rw[<- O];exact hb
   refine dP (B4.put (s:={ s with heap:=h2 }) J0 (by omega) λi Oh Mr=>?_)
   refine nW ?_;have L:=j.trans Oh
   by_cases p:k∈ds
   .refine sE (d i ds L nd (Mr.congr (λk'=>?_) ?_) (by omega) l (more ds λk'=>⟨.inl,λz=>z.elim id λz=>z.1▸p⟩)) (λr s' z=>?_) λ_ _ z=>z
    .by_cases e:k'=k
     .subst e;simp[p]
     .simp[e]
    .simp[p]
    .cases r with
     |yield _=>exact z
     |done _=>exact z.elim
   .refine sE (d i (ds++[k]) L ?_ (Mr.congr (λk'=>?_) ?_) ?_ ?_ (more _ λk'=>?_)) (λr s' z=>?_) λ_ _ z=>z
    .rw[Fh];exact⟨nd,List.nodup_cons.mpr ⟨by simp,Ll⟩,λx hx y N=>by
      rw[IQ]at N;subst N;exact λe=>p (e▸hx)⟩
    .by_cases e:k'=k
     .subst e;simp
     .simp[e]
    .simp[p]
    .rw[BI];simp only[BJ,Pk];omega
    .intro k' LL;rcases List.mem_append.mp LL with z|z
     .exact l k' z
     .rw[IQ]at z;subst z;exact⟨H,v⟩
    .rw[KO,IQ];exact⟨λz=>z.elim .inl λe=>.inr ⟨e,v⟩,λz=>z.elim .inl λe=>.inr e.1⟩
    .cases r with
     |yield _=>exact z
     |done _=>exact z.elim
 .rintro u s2⟨h2,ds,rfl,j,nd,J0,G,l,D,q⟩;refine nW (nW ?_);refine h h2 ds nd (λk=>⟨l k,λz=>?_⟩) (by simpa using G) J0 λx ox e=>?_
  .rcases D k z.1 z.2 with z|⟨e,c,_⟩
   .exact z
   .simp at c
  .rw[j.2 x (B7 (AY e))];exact K _ _ e
 .obtain⟨e,c,z⟩:=(Bc k).mp hk;exact⟨e,F.mem_iff.mpr c,z⟩
def Z1(mask:Nat):Nat->Nat×Nat->List Nat
 | 0,_=>[]
 |k+1,p=>p.1::Z1 mask k (lp mask p)
theorem zw{j:Nat}:∀{k:Nat}{p:Nat×Nat},j∈Z1 mask k p->∃t,t<k/\(Dt mask t p).1=j:=by
 intro k
 induction k with
 |zero=>intro p h;cases h
 |succ k a=>
  intro p h;rcases List.mem_cons.mp h with e|h
  .exact⟨0,by omega,e.symm⟩
  .obtain⟨t,b,e⟩:=a h;exact⟨t+1,by omega,e⟩
theorem ZCY(c:((Dt mask (mask+1) (0,0)).1 == 0)=true)(h:((List.range (mask+1)).all λj=>(Z1 mask (mask+1) (0,0)).contains j)=true):good mask=true:=by
 unfold good;rw[C7];refine⟨c,?_⟩;rw[Eb]at h ⊢;intro j b;obtain⟨t,a,e⟩:=zw (List.contains_iff_mem.mp (h j b));rw[NJ];exact⟨t,List.mem_range.mpr a,by rw[ZAM];exact e⟩
theorem ZAy:good 255=true:=ZCY (by decide +kernel) (by decide +kernel)
noncomputable def tidy(n:Nat):Bool:=[7,15,31,63,127,255].contains (SetTable.sizeAbove (SetTable.grown n) - 1) && decide (n<=SetTable.sizeAbove (SetTable.grown n) - 1) && decide (SetTable.sizeAbove (SetTable.grown n)<=256)
theorem vB:(List.range 64).all tidy=true:=by decide +kernel
theorem uM(h:[7,15,31,63,127,255].contains mask=true):good mask=true:=by
 have:=List.contains_iff_mem.mp h;rcases List.mem_append.mp (show mask∈[7,15,31,63,127]++[255]from this)with h|h
 .exact List.all_eq_true.mp VY _ h
 .rw[List.mem_singleton.mp h];exact ZAy
theorem zM(d:B4 prog w s.heap a f n)(k:B4 prog w s.heap r g m)
  (ho:s.heap.get? a=some o) (hd:o.data=.set es ep t)
  (h:∀(BP:Array (Int×Value)),BP.toList.Perm es.toList->Q BP s):wpAny (model prog w) A (setWalkUnseen a [r] none) Q E s:=by
 have l:=d;obtain⟨o',BP,Hy,t',CP,j,Gp,Bt,Bc,q,c,p,Cd,An⟩:=d;rw[ho]at CP;cases CP;rw[hd]at Gp;cases Gp;unfold setWalkUnseen setsByText;refine dP (rX ho hd c ?_);dsimp only;refine dP (dP (u9 (nW ?_)));show wpAny _ _ (if(BY w || (t.led && t.plain) || decide (es.size<=1))=true then _ else _) _ _ _
 by_cases b:(BY w || (t.led && t.plain) || decide (es.size<=1))=true
 .rw[oM b];refine jR ho hd c Cd (λFC=>?_) λBP e=>h BP e;rw[FC]at b Cd;cases i:t.plain with
  |true=>rfl
  |false=>
   rw[i]at b;simp only[Lj,lh,ZK,t6]at b;simp only[Bool.not_false,lq,ZAj];omega
 .rw[nr b];refine dP (fe _ (λx hx=>?_) ?_)
  .simp only[Ec,BF,yp]at hx;rcases hx with rfl|rfl
   .exact⟨_,_,l⟩
   .exact⟨_,_,k⟩
  rw[nr (by decide)];refine dP (ZA8 ?_);exact nW (h es (IL _))
theorem vX{Q:Unit->Shared->Prop}(B:B4 prog w s.heap r f n)(J:n<64)(h:∀h',Heap.SameBut r s.heap h'->B4 prog w h' r f n->Q () { s with heap:=h' }):wpAny (model prog w) A (setTidy r) Q E s:=by
 obtain⟨o,es,ep,t,ho,c,hd,Bt,Bc,l,i,m,Cd,An⟩:=B;unfold setTidy;refine dP (rX ho hd i ?_);dsimp only
 by_cases p:t.tooManyDummies=true
 .rw[oM p];have q:=List.all_eq_true.mp vB es.size (List.mem_range.mpr (by omega));unfold tidy at q;rw[C7,C7,t6,t6]at q;obtain⟨⟨g,y⟩,I⟩:=q;replace g:=uM g;unfold setRelay;refine dP (rX ho hd i ?_);dsimp only;have x:¬ SetTable.sizeAbove (SetTable.grown es.size) > sizeLine:=by
   have:256<=sizeLine:=by decide +kernel
   omega
  rw[nr x];obtain⟨t',a,e1,H,G,F,D,v,u⟩:=ZF g t.finger (t.movedTo (SetTable.sizeAbove (SetTable.grown es.size) - 1)) t.led t.plain (es.map (·.1)) (by rw[ZJ];exact y)
  rw[ZJ]at v u;have C:t.relaid (es.map (·.1)) (SetTable.grown es.size)=some (t',a):=by
   unfold SetTable.relaid;exact e1
  refine dP ?_
  wp_delta
  rw[C];dsimp only;have d:(a.filterMap (es[·]?)).toList.Perm es.toList:=by
   rw[ZGP];exact(u.filterMap _).trans (by rw[filterMap_getElem?_range])
  have b:(a.filterMap (es[·]?)).size=es.size:=by rw[<- Cj,d.length_eq,Cj]
  rw[nr (by rw[b];simp)];refine nW ?_;dsimp only;refine x6 ho hd ?_ (xO (by rw[b];exact l));refine h _ (Hf s.heap r _) ⟨_,_,_,_,JR ho hd _ _,c,rfl,Bt.perm d,λk=>(Bc k).trans ⟨λ⟨e,j,q⟩=>⟨e,d.mem_iff.mpr j,q⟩,λ⟨e,j,q⟩=>⟨e,d.mem_iff.mp j,q⟩⟩,by rw[b];exact l,?_,b.trans m,?_,λz=>?_⟩
  .unfold SetTable.fits SetTable.fill;rw[D,v,b,F];simp;omega
  .rw[H,Cd]
  .rw[G,An (by rw[b]at z;exact z)]
 .rw[nr p];exact nW (h s.heap (NH r s.heap) ⟨o,es,ep,t,ho,c,hd,Bt,Bc,l,i,m,Cd,An⟩)
theorem ZDK{fs c:List Str}{Q:Unit->Shared->Prop}(Ab:r≠a)(G:c.Nodup)(O:c.length<64)(hsz:fs.length / 8<=c.length)
  (m:B4 prog w s.heap a (λk=>decide (k∈fs)) fs.length) (y:B4 prog w s.heap r (λk=>decide (k∈c)) c.length)
  (h:∀(h':Heap)(ds:List Str),ds.Nodup->(∀k,k∈ds↔k∈c/\k∉fs)->Heap.SameBut r s.heap h'->B4 prog w h' r (λk=>decide (k∈ds)) ds.length->Q () { s with heap:=h' }) :
  wpAny (model prog w) A (Builtin.Frozenset.differenceUpdate Ke r (.ref a)) Q E s:=by
 unfold Builtin.Frozenset.differenceUpdate;rw[nr (by simpa using Az Ab)]
 refine dP (OG m.typeIs ?_);rw[oM rfl];refine dP (w8 (a:=a) rfl ?_);refine dP (MG m ?_);refine dP (MG y ?_);rw[nr (by omega)];have N:=m;obtain⟨o,es,ep,t,ho,I,hd,Bt,Bc,R,D,P,Cd,An⟩:=N;refine dP (zf ho hd D ?_);refine dP (rG ?_);refine dP (zM m y ho hd λBP l=>?_);have HE:∀k,k∈fs↔k∈BP.toList.map (kv ·.2):=λk=>by
  have M:ElemsOf (gT.gK prog w) BP.toList:=Bt.perm l;rw[<- PF M,<- t6 (p:=k∈fs),Bc k];exact⟨λ⟨e,g,q⟩=>⟨e,l.mem_iff.mpr g,q⟩,λ⟨e,g,q⟩=>⟨e,l.mem_iff.mp g,q⟩⟩
 refine dP (mM _ (λrest _ s2=>∃(h2:Heap)(ds:List Str)(d:List Str),s2={ s with heap:=h2 }/\Heap.SameBut r s.heap h2/\ds.Nodup/\B4 prog w h2 r (λk=>decide (k∈ds)) ds.length/\ds.length<=c.length/\
   BP.toList.map (kv ·.2)=d++rest.map (kv ·.2)/\(∀k,k∈ds↔k∈c/\k∉d)/\∀e∈rest,e∈es.toList) _ ?_ ?_ _ _ ⟨s.heap,c,[],rfl,NH r s.heap,G,y,Aa _,rfl,λk=>by simp,λe g=>l.mem_iff.mp g⟩)
 .rintro⟨H,x⟩rest u s2⟨h2,ds,d,rfl,j,nd,J0,C,v,i,n⟩;obtain⟨⟨k,hk,hh⟩,KA⟩:=Bt _ (n _ B1);obtain⟨tk,rfl⟩:=Lq hk;have L:H=(gT.gK prog w).hash k:=hh;subst L;have J:∀b,Heap.SameBut r s.heap b->b.get? a=some o:=λb L9=>by rw[L9.2 a (Az Ab)];exact ho
  have f:∀(b:Heap)(DP:List Str),Heap.SameBut r s.heap b->DP.Nodup->B4 prog w b r (λk=>decide (k∈DP)) DP.length->DP.length<=c.length->(∀k',k'∈DP↔k'∈c/\k'∉d++[k])->
    wpAny (model prog w) A (do Builtin.Frozenset.unchanged Ke a ep;pure (ForInStep.yield PUnit.unit)) (λF s'=>match F with | .yield K=>(∃(h2:Heap)(ds:List Str)(d:List Str),s'={ s with heap:=h2 }/\Heap.SameBut r s.heap h2/\ds.Nodup/\B4 prog w h2 r (λk=>decide (k∈ds)) ds.length/\ds.length<=c.length/\BP.toList.map (kv ·.2)=d++rest.map (kv ·.2)/\(∀k,k∈ds↔k∈c/\k∉d)/\∀e∈rest,e∈es.toList) | .done K=>False) E { s with heap:=b }:=by
   intro b DP L9 El Tr DX p1;unfold Builtin.Frozenset.unchanged;refine dP (dP (zf (s:={ s with heap:=b }) (J b L9) hd D ?_))
   rw[nr (by simp)];refine nW ?_;exact nW ⟨b,DP,d++[k],rfl,L9,El,Tr,DX,by rw[v,Bm];rfl,p1,λe g=>n e (BM _ g)⟩
  have mk:∀k':Str,k'∈d++[k]↔k'∈d∨k'=k:=λk'=>by rw[KO,IQ]
  dsimp only;refine dP (rG ?_);refine B4.cut (s:={ s with heap:=h2 }) nd J0 (λJD=>?_) λJD b Oh Mr=>?_
  .refine sE (f h2 ds j nd J0 C λk'=>?_) (λr s' z=>?_) λ_ _ z=>z
   .rw[mk,i k']
    by_cases e:k'=k
    .subst e;have:=mt (i k').mpr JD;constructor
     .exact λz=>absurd z this
     .exact λz=>absurd (Or.inr rfl) z.2
    .simp only[e,yp]
   .cases r with
    |yield _=>exact z
    |done _=>exact z.elim
  .have B:=NM JD;refine sE (f b (ds.erase k) (j.trans Oh) (nd.erase k) Mr (by omega) λk'=>?_) (λr s' z=>?_) λ_ _ z=>z
   .rw[mk,nd.mem_erase_iff,i k']
    by_cases e:k'=k
    .subst e;simp
    .simp[e]
   .cases r with
    |yield _=>exact z
    |done _=>exact z.elim
 .rintro u s2⟨h2,ds,d,rfl,j,nd,J0,C,v,i,n⟩;refine nW ?_;refine vX (s:={ s with heap:=h2 }) J0 (by omega) λb Oh Mr=>?_
  refine h b ds nd (λk=>?_) (j.trans Oh) Mr;rw[i k,HE k,v];simp
theorem ZFE{fs c:List Str}{Q:Value->Shared->Prop}(r:fs.Nodup)(n:fs.length<64)(d:B4 prog w s.heap a (λk=>decide (k∈fs)) fs.length)(f:B4 prog w s.heap b (λk=>decide (k∈c)) c.length)
  (h:∀(h':Heap)(ds:List Str),ds.Nodup->(∀k,k∈ds↔k∈fs/\k∉c)->B4 prog w h' s.heap.objs.size (λk=>decide (k∈ds)) ds.length->(∀b o,s.heap.get? b=some o->h'.get? b=some o)->Q (.ref s.heap.objs.size) { s with heap:=h' }) :
  wpAny (model prog w) A (Builtin.Frozenset.difference Ke a (.ref b)) Q E s:=by
 by_cases hsz:fs.length / 4<=c.length
 .refine uz d f hsz λh' ds nd i z t kp=>h h' ds nd (λk=>?_) t kp;rw[i k];simp
 .unfold Builtin.Frozenset.difference;refine dP (OG f.typeIs ?_);dsimp only;rw[nr (by decide)];refine dP (w8 (a:=b) rfl ?_);rw[nr (by simp)];rw[oM rfl];refine dP (MG f ?_);refine dP (MG d ?_);rw[oM (by omega)];refine dP (ZA8 ?_);refine dP ?_;unfold Builtin.Frozenset.copyOf;refine dP ?_;unfold Builtin.Frozenset.baseOf;refine dP (zi (b:=true) d.typeIs (by rw[yC];kernel_rfl) ?_);refine nW ?_;rw[oM rfl];unfold newSet setsByText;refine dP (dP (dP (u9 (nW ?_))));dsimp only;refine t8 ?_;show wpAny _ _ _ _ _ { s with heap:=s.heap.push { cls:=.type "set", data:=.set #[] 0 (.fresh 0 0 (!BY w)) } }
  generalize l:({ cls:=.type "set", data:=.set #[] 0 (.fresh 0 0 (!BY w)) }:Obj)=so;have u:(s.heap.push so).get? s.heap.objs.size=some so:=BQ _ (by rw[<- l];rfl);have m:∀b o,s.heap.get? b=some o->(s.heap.push so).get? b=some o:=λb o e=>Ao _ e;have x:B4 prog w (s.heap.push so) a _ fs.length:=d.keep λo e=>m _ _ e;have v:B4 prog w (s.heap.push so) b _ c.length:=f.keep λo e=>m _ _ e;have y:a<s.heap.objs.size:=by obtain⟨o,_,_,_,ho,_⟩:=d;exact AY ho
  have q:b<s.heap.objs.size:=by obtain⟨o,_,_,_,ho,_⟩:=f;exact AY ho
  refine dP (w8 (a:=s.heap.objs.size) rfl ?_);refine dP (uj (s:={ s with heap:=s.heap.push so }) (E9 y) u (by rw[<- l];exact⟨rfl,rfl,rfl⟩) (by rw[<- l]) x n λh1 IB X1=>?_)
  refine nW ?_;have j:B4 prog w h1 b _ c.length:=v.keep λo e=>by rw[IB.2 b (B7 q)];exact e
  refine dP (w8 (a:=s.heap.objs.size) rfl ?_);refine dP (rG ?_);refine ZDK (s:={ s with heap:=h1 }) (E9 q) r n (by omega) j X1 λh2 ds nd i g Xe=>?_
  refine nW ?_;refine h h2 ds nd i Xe λb o e=>?_;have p:=B7 (AY e);rw[g.2 b p];show h1.get? b=_;rw[IB.2 b p];exact m _ _ e
def lR(P:Program)(w:World):V->V->Hp->VK->Prop:=λx y H Q=>∃(p q:Addr)(fs a:List Str),x=.ref p/\y=.ref q/\fs.Nodup/\fs.length<64/\H p=some (HI P w p (λk=>decide (k∈fs)) fs.length)/\H q=some (HI P w q (λk=>decide (k∈a)) a.length)/\
 ∀(l:Addr)(ds:List Str),H l=none->ds.Nodup->(∀k,k∈ds↔k∈fs/\k∉a)->Q (.ref l) (upd H l (HI P w l (λk=>decide (k∈ds)) ds.length))
theorem t5:BD X (binaryOp .Sub) (lR X.prog X.w):=by
 intro ZB s Z H x y v u Q I f e h;obtain⟨p,q,fs,m,rfl,rfl,g,i,k,j,h⟩:=h;cases f;cases e;have b:B4 X.prog X.w s.heap p _ fs.length:=(I.AB p _ k).1;have c:B4 X.prog X.w s.heap q _ m.length:=(I.AB q _ j).1;refine wpAny_binaryOp_same (T:="set") (op:=.Sub) b.typeIs c.typeIs F.fills_set_sub F.slot_set_sub (uT F.slot_set_sub b.typeIs ZCa ?_ (F.args_set_sub_2 _ _));unfold Builtin.«frozenset.__sub__»
 wp_delta
 refine dP (w8 (a:=(Value.ref p,Value.ref q)) rfl ?_);dsimp only;rw[nr (by decide)];dsimp only;refine dP (dP (OG b.typeIs ?_));refine OG c.typeIs ?_;rw[nr (by decide)];refine dP (w8 (a:=p) rfl ?_);refine dP (ZFE g i b c λh' ds nd l d kp=>?_);refine nW ⟨_,rfl,(λz=>nomatch z),?_⟩;refine⟨.ref s.heap.objs.size,_,I.laid (t':=s.toks) kp (Aa _) (show BZ X.prog X.w _ h' _ (HI X.prog X.w s.heap.objs.size _ _)from⟨d,?_,λh1 h2 HQ HA=>HQ.keep HA⟩),rfl,h _ ds (I.AB.fresh (Aa _)) nd l⟩;obtain⟨o,_,_,_,ho,_⟩:=d;exact⟨o,ho⟩
end L2
namespace Fz
open L2 Lw
section
variable[Xw]
variable{ss:List Slot}{K:ZHy}{ta tb:TE}{P:Program}{w:World}
theorem uU{k : PV -> Prop}(h : Wq ss ta λ_ xs => ∃ns : List Str, xs = ns.map PV.str /\ ns.length<64 /\ Wq ss tb λ_ ys => ∃ms : List Str, ys = ms.map PV.str /\ ms.length<64 /\
   ∀n:Nat,(n=0↔∀x∈ns,x∈ms)->k (.int (n:Nat))):
  Wp ss (CH (λxs H Q=>∃l f n,xs=[.ref l]/\H l=some (HI P w l f n)/\Q (.int (n:Nat)) H) (AZ (BE (lR P w) (CH (MM gT K P w) (AZ ta B6))
   (CH (MM gT K P w) (AZ tb B6))) B6)) k:=⟨λE Z F H Q S q=>
 h.go E Z F H _ S λv tp xs F1 H1 c sv⟨ns,e,C,h2⟩=>by
  subst e;obtain⟨l,vs,rfl,i,r⟩:=sv.seq c.st;rw[r.strs]at i;refine⟨l,tp,ns,rfl,Ej.sq i,by omega,λa j=>?_⟩;have m2:=c.st.make j (HI P w a (λk'=>(dd ns).any (· == k')) (dd ns).length)
  refine h2.go E Z F1 _ _ m2.st λv2 Co ys F2 H2 b Ih⟨ms,G,N6,kk⟩=>?_;subst G;obtain⟨l2,HC,rfl,Bk,s⟩:=Ih.seq b.st;rw[s.strs]at Bk;refine⟨l2,Co,ms,rfl,Ej.sq Bk,by omega,λa2 NF=>?_⟩;have d:=b.st.make NF (HI P w a2 (λk'=>(dd ms).any (· == k')) (dd ms).length)
  have np:DF ss Z a:=c.st.P9 j;have g0:=b.hh a _ np (AV (H:=H1) (a:=a) (o:=HI P w a (λk'=>(dd ns).any (· == k')) (dd ns).length))
  have g1:=d.hh a _ np g0;rw[ia ns]at g1;refine⟨a,a2,dd ns,dd ms,rfl,rfl,Ua ns,Gx (Px ns) C,g1,by rw[<- ia ms];exact AV,λp ds g A m=>?_⟩;have B:=d.st.make g (HI P w p (λk=>decide (k∈ds)) ds.length);refine⟨p,_,_,rfl,AV,q _ _ F2 _ (c.trans (m2.trans (b.trans (d.trans B)))) (.int _) (kk ds.length ⟨λz x hx=>lu λD=>?_,λz=>?_⟩)⟩
  .rw[List.length_eq_zero_iff]at z;subst z;exact absurd ((m x).mpr ⟨(LR ns x).mpr hx,λy=>D ((LR ms x).mp y)⟩) BF
  .cases ds with
   |nil=>rfl
   |cons x r=>
    obtain⟨u,t⟩:=(m x).mp B1;exact absurd ((LR ms x).mpr (z x ((LR ns x).mp u))) t⟩
end
end Fz
namespace L2
variable{X:Cx}{ZB:ZHz}{s s2:Shared}{a b tk:Nat}{it l2:Addr}{e o:Expr}
open AutoSeq1 (wpAny_loadPart')
section
variable{prog:Program}{w:World}{A:Around}{E:Value->Shared->Prop}
variable{M:Model}{env:Env}
theorem yP{n:Nat}(Bu:a<=b):sliceBounds (some (a:Int)) (some (b:Int)) none n=(((min a n:Nat):Int),((min b n:Nat):Int),1):=by
 simp only[sliceBounds,Option.getD_none];have h1:¬ ((a:Int)<0):=by omega
 have h2:¬ ((b:Int)<0):=by omega
 simp only[h1,h2,ZBr,show(1:Int) > 0 by decide,ZBw];refine Pt ?_ (Pt ?_ rfl)
 .show max 0 (min (a:Int) n)=((min a n:Nat):Int);omega
 .show max 0 (min (b:Int) n)=((min b n:Nat):Int);omega
theorem ZCB{l sl:Addr}{xs ys:List Value}{m m2:Nat}{vl vu:Value}{Q:Unit->Shared->Prop}(ho:s.heap.get? l=some { cls:=.type "list", data:=.seq xs.toArray m })(DZ:s.heap.get? l2=some { cls:=.type "list", data:=.seq ys.toArray m2 })
  (hs:s.heap.IsSliceOf sl vl vu .none) (pl:IsPart vl (some (a:Int))) (pu:IsPart vu (some (b:Int))) (Ab:l≠l2) (Bu:a<=b) (hsz:xs.length+ys.length<=sizeLine)
  (q:Q () { s with heap:=s.heap.update l (Obj.mapSeq λzs=>zs.extract 0 (min a xs.length)++ys.toArray++zs.extract (min b xs.length) zs.size) }):wpAny (model prog w) A (setItem (.ref l) (.ref sl) (.ref l2)) Q E s:=by
 have c:s.heap.IsList l xs.toArray:=⟨_,ho,rfl,m,rfl⟩;have f:s.heap.IsList l2 ys.toArray:=⟨_,DZ,rfl,m2,rfl⟩;obtain⟨os,Gg,N8,Ga⟩:=id hs;have d:s.TypeIs (.ref sl) "slice" := ⟨os,Gg,N8⟩;unfold setItem
 try with_reducible refine rG ?_
 first|refine dP (nW ?_)|skip
 refine dP (ZAw c.typeIs (by decide) ?_);refine dP (vD (name:=Str.ofString "__setitem__") c.typeIs slot_list_setitem (uT slot_list_setitem c.typeIs entry_list_setitem ?_ (args_list_setitem _ _ _)));show wpAny _ _ (Builtin.List.listSubscript? (.ref sl) >>= _) _ _ s;refine dP ?_;unfold Builtin.List.listSubscript?;refine dP (ZAa d slice_no_index ?_);simp only[Option.isNone_none,ZBw];refine nW ?_;show wpAny _ _ (typeOf (.ref sl) >>= _) _ _ s;refine dP (zZ d ?_);rw[nr (by decide)];rw[listSliceParts_eq];refine dP (dP (zt Gg Ga (x:=.none) rfl (dP (ZBf .none ?_))));rw[nr (by exact Cv)];refine dP (zt Gg Ga (x:=vl) rfl (dP (ZBf pl ?_)));refine dP (zt Gg Ga (x:=vu) rfl (dP (ZBf pu (nW ?_))));rw[nr (show ¬ (Builtin.List.listSameRef (.ref l) (.ref l2)=true) by simp[Builtin.List.listSameRef,Ab])];refine dP ?_;unfold Builtin.List.listAllItems;refine dP (zZ f.typeIs ?_);rw[oM (by decide)];unfold Builtin.List.listItems;refine dP (wpAny_seqItems DZ rfl (nW ?_));refine dP (dP (wpAny_seqItems ho rfl (nW ?_)));refine dP (w8 ((sliceIndices_raw (some (a:Int)) (some (b:Int)) none _ (by simp)).trans (sg pure (yP Bu))) ?_);dsimp only;rw[oM (show((1:Int) == 1)=true by decide)];refine dP (ZA8 ?_);rw[nr (show ¬ (Builtin.List.listTooLong (xs.toArray.size+ys.toArray.size)=true) by simp[Builtin.List.listTooLong];omega)];have e1:((min a xs.toArray.size:Nat):Int).toNat=min a xs.length:=Lk _;have e:(max ((min a xs.toArray.size:Nat):Int) ((min b xs.toArray.size:Nat):Int)).toNat=min b xs.length:=by
  rw[Bn];omega
 rw[e1,e];refine dP (ZBN ho rfl ?_ (by rw[Bn];omega) ?_)
 .exact dP (wpAny_letGo (nW ⟨.none,rfl,nW q⟩))
 .simp;omega
variable{lo hi:Option Expr}{to:TE}{tl th:TO}{pos p2:Pos}
def Vn(to:TE)(tl th:TO):TG:=λv Z H Q=>to Z H λo H1=>tl Z H1 λlo H2=>th Z H2 λhi H3=>∃(p q:Addr)(a b:Nat)(xs ys:List V),o=.ref p/\v=.ref q/\p≠q/\lo=some (a:Int)/\hi=some (b:Int)/\a<=b/\H3 p=some (.lst xs)/\H3 q=some (.lst ys)/\xs.length+ys.length<=100000/\Q Z (upd H3 p (.lst (xs.take a++ys++xs.drop b)))
theorem xb(ho:QE X o to)(e:QO X lo tl)(d:QO X hi th)
  (D:∀v,assign (.Subscript o (.Slice lo hi none p2) pos) X.env v=(do
   let a <- holding [v] (eval o X.env)
   let iv <- holding [v,a] (eval (.Slice lo hi none p2) X.env)
   standAt pos
   holding [v,a,iv] (setItem a iv v)
   release [iv,v,a] []):=by intro _;rfl):QG X (.Subscript o (.Slice lo hi none p2) pos) (Vn to tl th):=⟨by
 have ho:=ho.h;have e:=e.h;have d:=d.h;intro ZB s Z H v u Q I r h;rw[D];refine dP (rG (ho.k I h λa s1 x H1 I1 t z=>?_));refine dP (rG (wpAny_Slice (Aw (e ZB s1 Z H1 _ I1 z) λvl s2⟨l,H2,I2,pl,y⟩=>Aw (d ZB s2 Z H2 _ I2 y) λvu c⟨b,H3,I3,A,w⟩=>?_)));rw[evalPart_none];refine nW ?_;obtain⟨p,q,i,j,xs,ys,rfl,rfl,Ab,rfl,rfl,BV,m,C,G,k⟩:=w;cases t;cases r;have B:=Heap.IsSliceOf.new c.heap vl vu .none;have f:Inv X ZB Z H3 { c with heap:=c.heap.push { cls:=.type "slice", data:=.fields #[vl,vu,.none] } }:=I3.kept (t':=c.toks) λb ob q=>Ao _ q
 obtain⟨_,A3,n,g,HJ,e1⟩:=f.N7 m;obtain⟨_,D5,F,Je,Bk,E⟩:=f.N7 C;have J:(100000:Nat)<=sizeLine:=by decide
 refine dP (ZAU (dP (rG (ZCB e1 E B pl A Ab BV (by omega) (wpAny_release ⟨Z,_,?_,k⟩)))));refine f.Yg (its':=A3.take i++D5++A3.drop j) m e1 ?_ (((g.take i).append Je).append (g.drop j)) ?_
 .apply Array.ext';simp;have a1:List.take (min i A3.length) A3=List.take i A3:=by rw[List.take_eq_take_iff];omega
  have a2:List.take (A3.length - min j A3.length) (List.drop (min j A3.length) A3)=List.drop j A3:=by
   rw[NN (by rw[IM];exact Aa _)];rcases Ti j A3.length with h|h
   .rw[Tn h]
   .rw[To h,List.drop_eq_nil_of_le h,ZO]
  rw[a1,a2]
 .rw[BI,BI,Fg,IM];omega⟩
variable{te:TE}
variable{Z:St}{H2:Hp}{elt iter:Expr}{ifs es:List Expr}{zs:List Str}{tp:Pos}{scope:Scope}{AA:List Str}{js:List Nat}{tt:TT}{J:It}{fp:List Addr}{tn:Nat->Heap->Prop}
variable{z TI TO i1 i2 l1:Addr}{k:Nat}{t1 t2:Bool}{xs ys:Array Value}{x y a b:Value}
end
end L2
namespace Fz
open L2 Lw
section
variable[Xw]
variable{ss:List Slot}{ta tb:TE}{K:ZHy}{k:PV->Prop}{nx:List Slot->Prop}{R:Ae}{xs:List PV}
variable{te:TE}
theorem ua{i:Nat}{tl th:TO}(hi:ss[i]?=some (.own xs))(h:Wn ss te λys=>Wo ss tl λlo=>Wo ss th λhi=>∃a b:Nat,lo=some (a:Int)/\hi=some (b:Int)/\a<=b/\xs.length+ys.length<=100000/\nx (ss.set i (.own (xs.take a++ys++xs.drop b)))):
  Ws ss (Df te (Vn (Aj i) tl th)) nx R:=⟨λE D Z F H S s x=>
 h.go E Z F H _ S λl ws ys F1 H1 g y h1 t n h2=>by
  obtain⟨p,vs,e,e1,B,A,r⟩:=g.st.ok i _ hi;have w:p≠l:=λz=>by
   subst z;obtain⟨o,Bx,c,CO,B9,IA,d⟩:=S.ok i _ hi;rw[e]at c;cases c;rw[h1]at IA;cases IA
  refine⟨_,e,h2.go E Z F1 H1 _ g.st λlo F2 H2 m2 u=>u.go E Z F2 H2 _ m2.st λC2 F3 H3 f⟨a,b,ea,v,Bu,q,kk⟩=>?_⟩;obtain⟨o,Bx,c,CO,B9,IA,d⟩:=f.st.ok i _ hi;rw[e]at c;cases c;have k:=m2.trans f;have j:H3 l=some (.lst ws):=k.hh l _ (S.P9 h1) t;have m:=n.mono k.ff;refine⟨p,l,a,b,Bx,ws,rfl,rfl,w,ea,v,Bu,IA,j,by rw[d.length,m.length];exact q,?_⟩;exact s _ Z F3 _ kk (f.st.put hi e CO B9 (((d.take a).append m).append (d.drop b))) (g.ff.trans k.ff)⟩
variable{P:Program}{w:World}
end
end Fz
namespace Fz
open L2 Lw
variable{ss:List Slot}{ta tb tc te ti:TE}{nx:List Slot->Prop}{R:Ae}{i j:Nat}
theorem cJ{pre:Pre}(b:∀ss R,¬ pre ss R){vs:List V}{H:Hp}{Q:VK}{E:XK}(h:FD pre vs H Q E):False:=by
 obtain⟨ss,R,F,A,B,a,_⟩:=h;exact b ss R a
end Fz
namespace L2
section
variable{X:Cx}
theorem yV:Bo X (.builtin "len") (λxs H Q=>∃l f n,xs=[.ref l]/\H l=some (HI X.prog X.w l f n)/\Q (.int n) H):=by
 intro ZB s Z H xs us Q I r h;obtain⟨l,f,n,rfl,e,q⟩:=h;obtain⟨u,rfl,b⟩:=vals1 r;cases b;obtain⟨⟨o,es,ep,t,ho,a,hd,_,_,Jh,d,c,_⟩,_,_⟩:=I.AB l _ e;subst c;refine PySem.call_len_set ho a hd d ?_ ⟨.int _,H,I.tok _,⟨_,rfl⟩,q⟩;have:es.size<4096:=Jh;have h2:(4096:Int)<2 ^ 63:=by decide
 omega
end
end L2
namespace Fz
open L2 Lw
variable{ch pre:List Nat}{n u x:Nat}{Ls:List Lp}
section
variable[Xw]
variable{ss:List Slot}{K:ZHy}{ta tb tc te ti ty:TE}{nx:List Slot->Prop}{R:Ae}{xs ps:List PV}{i j:Nat}{t:OV}{lt:Bool}{a b:Addr}{us:List OV}{nk:NK}
theorem U6{k:List PV->Prop}(h:Wz ss te λtp xs=>tp=false/\k (Ji xs)):Wi ss (Vl K (AZ te B6)) k:=⟨λE Z F H R S q=>
 h.go E Z F H _ S λv tp xs F1 H1 b f AM=>by
  obtain⟨o,kk⟩:=AM;subst o;obtain⟨l,vs,n,a,r⟩:∃l vs,v=.ref l/\(∀(ss:List Slot)(Z:L2.St)(F H:Hp),AQ F1 F->Sg E ss Z F H->H l=some (.lst vs))/\AN F1 vs xs:=by
   obtain⟨l,vs,e,h1,r⟩:=f;refine⟨l,vs,e,λss Z F H s S=>?_,r⟩;rcases h1 with h1|⟨hA,h1⟩
   .exact S.fh _ _ (s _ _ h1)
   .exact S.keep _ _ hA h1
  subst n;refine⟨l,vs,rfl,AL.of (a ss Z F1 H1 (AQ.refl _) b.st),q _ (Ji xs) F1 H1 b ⟨λss Z F H i s S hi=>?_,λss Z F H s S=>?_,λss Z F H i x H' s S hi y=>?_⟩ kk⟩
  .rw[OT]at hi;exact⟨AL.of (a ss Z F H s S),by rw[r.length];exact hi⟩
  .refine⟨AL.of (a ss Z F H s S),?_⟩;rw[OT,r.length];exact Aa _
  .obtain⟨p,y,g,ex,j,t⟩:=y;subst ex;subst t;obtain⟨z,d,c⟩:=r.get' g;have m:=S.alloc j (.tup [.int i,y]);exact⟨_,_,VF d,m,.tup AV (.cons (.int _) (.one (c.mono (s.trans m.ff))))⟩⟩
end
def PD(l o:Lp):Prop:=∀x∈o.cs,x∈l.cs
instance (l o:Lp):Decidable (PD l o):=inferInstanceAs (Decidable (∀x∈o.cs,x∈l.cs))
def bo:Pre:=λl R=>∃l1 l2:Lp,l=[.is l1.P,.is l2.P]/\l1.cs.length<=40/\l2.cs.length<=40/\R=.is (·=.bl (decide (PD l1 l2)))
noncomputable def lZ(p:Int×Int):PV:=.tup [.int p.1,.int p.2]
noncomputable def HF(Ls:List Lp)(n u:Nat):Bool:=match Ls[n]?,Ls[u]? with
 |some a,some b=>if a.cs=b.cs then decide (n<u)else decide (PD b a)
 |_,_=>false
def YZ(Ls:List Lp):Prop:=Ls.length<=12/\∀l∈Ls,l.cs.length<=40
def iG:Pre:=λl R=>∃(Ls:List Lp)(n u:Nat),l=[.is (.lst (Ls.map Lp.P)),.is (.int n),.is (.int u)]/\YZ Ls/\n<Ls.length/\u<Ls.length/\R=.is (·=.bl (HF Ls n u))
def ups(Ls:List Lp)(n:Nat):List Nat:=(List.range Ls.length).filter (HF Ls n)
def bp:Pre:=λl R=>∃(Ls:List Lp)(n:Nat),l=[.is (.lst (Ls.map Lp.P)),.is (.int n)]/\YZ Ls/\n<Ls.length/\R=.new (·=(ups Ls n).map λu:Nat=>PV.int u)
def C9:Option Nat->PV
 |none=>.A8
 |some n=>.int n
inductive Dn (lo:List (Option Nat)):Nat->List Nat->Prop
 |one {n:Nat}:lo[n]?=some none->Dn lo n [n]
 |more {n m:Nat}{ch:List Nat}:lo[n]?=some (some m)->Dn lo m ch->Dn lo n (n::ch)
def jx:Pre:=λl R=>∃(lo:List (Option Nat))(top:Nat)(ch:List Nat),l=[.sq false (lo.map C9),.is (.int top)]/\lo.length<=12/\Dn lo top ch/\ch.length<=12/\R=.new (·=ch.map λn:Nat=>PV.int n)
theorem vt:Bf ((pre++[x]).map λn:Nat=>PV.int n) (-1)=some (.int x):=by
 rw[Dv];exact ZET _ _
theorem uS{α:Type}[DecidableEq α]{l m:List α}(nd:l.Nodup)(a:∀k∈l,k∈m)(c:m.length<=l.length):∀k∈m,k∈l:=λx hx=>lu λb=>by
 have q:=Qc (l:=x::l) (m:=m) (List.nodup_cons.mpr ⟨b,nd⟩) λk hk=>(List.mem_cons.mp hk).elim (λe=>e▸hx) (a k);rw[BJ]at q;omega
structure Uq (Ls:List Lp):Prop where
 len:Ls.length<=12
 nd:∀a∈Ls,a.cs.Nodup
 uq:∀a∈Ls,∀b∈Ls,(∀x,x∈a.cs↔x∈b.cs)->a.cs=b.cs
noncomputable def mu(Ls:List Lp)(n:Nat):Nat:=match Ls[n]? with
 |some l=>l.cs.length * 100+n
 |none=>0
theorem d9{l:Lp}(h:Ls[n]?=some l):mu Ls n=l.cs.length * 100+n:=by unfold mu;rw[h]
theorem ZC(h:HF Ls n u=true):∃a b,Ls[n]?=some a/\Ls[u]?=some b/\((a.cs=b.cs/\n<u)∨(a.cs≠b.cs/\PD b a)):=by
 unfold HF at h;cases ea:Ls[n]? with
 |none=>rw[ea]at h;cases h
 |some a=>
  cases d:Ls[u]? with
  |none=>rw[ea,d]at h;cases h
  |some b=>
   rw[ea,d]at h;refine⟨a,b,rfl,rfl,?_⟩;dsimp only at h
   by_cases c:a.cs=b.cs
   .rw[oM c]at h;exact .inl ⟨c,pQ h⟩
   .rw[nr c]at h;exact .inr ⟨c,pQ h⟩
theorem ME(U:Uq Ls)(h:HF Ls n u=true):mu Ls n<mu Ls u:=by
 obtain⟨a,b,ea,f,c⟩:=ZC h;have i:=(List.getElem?_eq_some_iff.mp ea).1;have j:=U.len;rw[d9 ea,d9 f];rcases c with⟨c,AO⟩|⟨c,d⟩
 .rw[c];omega
 .have e:=C8 ea;have g:=C8 f;have q:=Qc (U.nd a e) d;rcases ZGy q with q|q
  .omega
  .exact absurd (U.uq a e b g λx=>⟨d x,uS (U.nd a e) d (Zb q.symm) x⟩) c
theorem d8{lo:List (Option Nat)}(U:Uq Ls)(l:lo.length=Ls.length)(h:∀u v,lo[u]?=some (some v)->HF Ls v u=true):∀(k n:Nat),mu Ls n<=k->n<lo.length->∃ch,Dn lo n ch/\ch.Nodup/\(∀x∈ch,x<lo.length/\mu Ls x<=mu Ls n):=by
 have one:∀n,n<lo.length->lo[n]?=some none->∃ch,Dn lo n ch/\ch.Nodup/\(∀x∈ch,x<lo.length/\mu Ls x<=mu Ls n):=λn c e=>
  ⟨[n],.one e,List.nodup_cons.mpr ⟨BF,Ll⟩,λx hx=>by rw[IQ]at hx;subst hx;exact⟨c,Aa _⟩⟩
 intro k
 induction k with
 |zero=>
  intro n hk c;have e:=Au c;cases d:lo[n]with
  |none=>rw[d]at e;exact one n c e
  |some v=>
   rw[d]at e;have:=ME U (h n v e);omega
 |succ k j=>
  intro n hk c;have e:=Au c;cases d:lo[n]with
  |none=>rw[d]at e;exact one n c e
  |some v=>
   rw[d]at e;have o:=ME U (h n v e);obtain⟨a,b,ea,p,_⟩:=ZC (h n v e);have m:v<lo.length:=l▸(List.getElem?_eq_some_iff.mp ea).1;obtain⟨ch,i,g,f⟩:=j v (by omega) m;refine⟨n::ch,.more e i,List.nodup_cons.mpr ⟨λhx=>?_,g⟩,λx hx=>?_⟩
   .have:=(f n hx).2;omega
   .rcases List.mem_cons.mp hx with rfl|hx
    .exact⟨c,Aa _⟩
    .exact⟨(f x hx).1,Be (f x hx).2 (JF o)⟩
theorem ZCp{lo:List (Option Nat)}(nd:ch.Nodup)(h:∀x∈ch,x<lo.length):ch.length<=lo.length:=by
 have q:=Qc (m:=List.range lo.length) nd λx hx=>List.mem_range.mpr (h x hx)
 rwa [Ep]at q
theorem Dn.uniq{lo:List (Option Nat)}{MH:List Nat}(a:Dn lo n ch)(b:Dn lo n MH):ch=MH:=by
 induction a generalizing MH with
 |one e=>
  cases b with
  |one _=>rfl
  |more c _=>rw[e]at c;cases c
 |more e _ d=>
  cases b with
  |one c=>rw[e]at c;cases c
  |more c f=>rw[e]at c;cases c;rw[d f]
end Fz
namespace Kz
variable{ab:Nat->List Nat}{n t:Nat}{T ch tr:List Nat}{Ls:List Lp}
def Cl(ab:Nat->List Nat)(lo:Lo)(T:List Nat):Prop:=∀z∈T,∃w,lo[z]?=some (some w)/\∀u∈ab w,u∈T
theorem ZG6{lo:Lo}{v:Nat}(Bu:∀v u,u∈ab v->u<lo.length)(s:DQ ab v lo)(nd:tr.Nodup)(lt:∀z∈tr,z<lo.length)(l:lo.length<n+tr.length)(cl:Cl ab lo tr):
  ∃Bb,fu ab n v lo tr=(false,lo,Bb)/\Bb.Nodup/\(∀z∈Bb,z<lo.length)/\(∀z∈tr,z∈Bb)/\(∀u∈ab v,u∈Bb)/\Cl ab lo Bb:=by
 have q:=Ly Bu n v tr nd lt l;obtain⟨σ,m,o⟩:=s;cases e:fu ab n v lo tr with
 |mk b x=>
  obtain⟨BK,Bb⟩:=x;rw[e]at q;cases b with
  |true=>
   obtain⟨p,k,_⟩:=q;exact absurd k (DQ.no o m)
  |false=>
   obtain⟨rfl,a,g,f,_,d,c⟩:=q;refine⟨Bb,rfl,g,f,a,d,λz i=>?_⟩;rcases c z i with h|h
   .obtain⟨w,e,h⟩:=cl z h;exact⟨w,e,λu j=>a u (h u j)⟩
   .exact h
noncomputable def gp(ab:Nat->List Nat)(m n:Nat):Nat->Lo
 | 0=>List.replicate m none
 |k+1=>(fu ab n k (gp ab m n k) []).2.1
theorem X4{ab:Nat->List Nat}{m n:Nat}(Bu:∀v u,u∈ab v->u<m)(a:m<n):∀k,(gp ab m n k).length=m/\(lows (gp ab m n k)).Nodup/\Mk ab (gp ab m n k)/\(∀w∈lows (gp ab m n k),w<k)/\∀w,w<k->w∈lows (gp ab m n k)∨DQ ab w (gp ab m n k)
 | 0=>by
  have e:∀m,lows (List.replicate m none)=[]:=λm=>by
   induction m with
   |zero=>rfl
   |succ m o=>rw[ZGr];exact o
  refine⟨mE,by show(lows (List.replicate m none)).Nodup;rw[e];exact .nil,λu w h=>?_,λw h=>?_,λw h=>absurd h (Ze w)⟩
  .have:=Fp.mpr ⟨u,h⟩;rw[show lows (gp ab m n 0)=[]from e m]at this;cases this
  .rw[show lows (gp ab m n 0)=[]from e m]at h;cases h
 |k+1=>by
  obtain⟨h1,h2,q,c,p⟩:=X4 Bu a k;obtain⟨b,BK,Bb,e,l,j,i,g,f,d⟩:=step (v:=k) (λv u h=>by rw[h1];exact Bu v u h) (by rw[h1];exact a) h2 q λh=>Lm _ (c k h);have el:gp ab m n (k+1)=BK:=by show(fu ab n k (gp ab m n k) []).2.1=BK;rw[e]
  rw[el];refine⟨l.trans h1,j,i,λw hw=>?_,λw hw=>?_⟩
  .rcases f w hw with rfl|h
   .exact NO _
   .exact Hh (c w h)
  .rcases ZGy (Pn hw)with h|rfl
   .exact d w (p w h)
   .exact g
noncomputable def tryAll(ab:Nat->List Nat)(n:Nat)(lo:Lo):List Nat->List Nat->List Nat
 | [],tr=>tr
 |t::ts,tr=>tryAll ab n lo ts (fu ab n t lo tr).2.2
theorem gL{ab:Nat->List Nat}{lo:Lo}{n:Nat}(Bu:∀v u,u∈ab v->u<lo.length)(c:lo.length<n):∀(ts tr:List Nat),(∀t∈ts,DQ ab t lo)->tr.Nodup->(∀z∈tr,z<lo.length)->Cl ab lo tr->
  (tryAll ab n lo ts tr).Nodup/\(∀z∈tr,z∈tryAll ab n lo ts tr)/\Cl ab lo (tryAll ab n lo ts tr)/\∀t∈ts,∀u∈ab t,u∈tryAll ab n lo ts tr
 | [],tr,_,nd,_,cl=>⟨nd,λ_ h=>h,cl,λ_ h=>by cases h⟩
 |t::ts,tr,s,nd,lt,cl=>by
  obtain⟨Bb,e,h1,h2,g,f,d⟩:=ZG6 (n:=n) Bu (s t B1) nd lt (by omega) cl;have q:=gL Bu c ts Bb (λx hx=>s x (BM _ hx)) h1 h2 d;have el:tryAll ab n lo (t::ts) tr=tryAll ab n lo ts Bb:=by show tryAll ab n lo ts (fu ab n t lo tr).2.2=_;rw[e]
  rw[el];refine⟨q.1,λz b=>q.2.1 z (g z b),q.2.2.1,λx hx u a=>?_⟩;rcases List.mem_cons.mp hx with rfl|hx
  .exact q.2.1 u (f u a)
  .exact q.2.2.2 x hx u a
open Fz in
theorem tK{lo:Lo}(cl:Cl ab lo T)(d:Dn lo n ch):(∀u∈ab n,u∈T)->∃x r,(ch.filter λy=>decide (y∉T))=x::r/\x∈ch/\x∉T/\∀u∈ab x,u∈T:=by
 induction d with
 |@one n e=>
  intro h;have a:n∉T:=λz=>by
   obtain⟨w,b,_⟩:=cl n z;rw[e]at b;cases b
  exact⟨n,[],by simp[a],B1,a,h⟩
 |@more n m ch e _ c=>
  intro h
  by_cases a:n∈T
  .obtain⟨w,b,hw⟩:=cl n a;rw[e]at b;cases b;obtain⟨x,r,h1,h2,g,f⟩:=c hw;exact⟨x,r,by rw[m9 (by simp[a]),h1],BM _ h2,g,f⟩
  .exact⟨n,ch.filter λy=>decide (y∉T),by rw[mB (by simp[a])],B1,a,h⟩
open Fz
theorem lI{lo:Lo}(d:Dn lo n ch):n∈ch:=by cases d <;> exact B1
theorem NY{lo:Lo}(d:Dn lo n ch):∀x∈ch,x=n∨∃u∈ch,lo[u]?=some (some x):=by
 induction d with
 |one _=>intro x hx;exact .inl (List.mem_singleton.mp hx)
 |@more n m ch e d a=>
  intro x hx;rcases List.mem_cons.mp hx with rfl|hx
  .exact .inl rfl
  .rcases a x hx with rfl|⟨u,hu,e2⟩
   .exact .inr ⟨n,B1,e⟩
   .exact .inr ⟨u,BM _ hu,e2⟩
theorem ZDP{lo:Lo}(d:Dn lo n ch):∀u∈ch,∀x,lo[u]?=some (some x)->x∈ch:=by
 induction d with
 |one e=>
  intro u b x a;rw[List.mem_singleton.mp b,e]at a;cases a
 |@more n m ch e d c=>
  intro u b x a;rcases List.mem_cons.mp b with rfl|b
  .rw[e]at a;cases a;exact BM _ (lI d)
  .exact BM _ (c u b x a)
structure Pg (Ls:List Lp) (lo:Lo):Prop where
 uq:Uq Ls
 len:lo.length=Ls.length
 fit:∀u v,lo[u]?=some (some v)->HF Ls v u=true
 nd:(lows lo).Nodup
 bd:∀l∈Ls,l.cs.length<=40
theorem Qk{lo:Lo}(G:Pg Ls lo)(n:Nat):mu Ls n<=5000:=by
 unfold mu;cases e:Ls[n]? with
 |none=>exact CJ _
 |some l=>
  have h1:=G.bd l (C8 e);have h2:=(List.getElem?_eq_some_iff.mp e).1;have a:=G.uq.len;show l.cs.length * 100+n<=5000;omega
theorem vw{lo:Lo}(G:Pg Ls lo):∀(k n:Nat),5000 - mu Ls n<=k->n<lo.length->∃t,t<lo.length/\t∉lows lo/\∃ch,Dn lo t ch/\n∈ch:=by
 have top:∀n,n<lo.length->n∉lows lo->∃t,t<lo.length/\t∉lows lo/\∃ch,Dn lo t ch/\n∈ch:=λn a h=>by
  obtain⟨ch,d,_⟩:=d8 G.uq G.len G.fit _ n (Aa _) a;exact⟨n,a,h,ch,d,lI d⟩
 intro k
 induction k with
 |zero=>
  intro n hk a;refine top n a λh=>?_;obtain⟨u,e⟩:=Fp.mp h;have:=ME G.uq (G.fit u n e);have:=Qk G u;omega
 |succ k f=>
  intro n hk a
  by_cases h:n∈lows lo
  .obtain⟨u,e⟩:=Fp.mp h;have h1:=ME G.uq (G.fit u n e);have h2:=Qk G u;obtain⟨t,c,b,ch,d,g⟩:=f u (by omega) (List.getElem?_eq_some_iff.mp e).1;exact⟨t,c,b,ch,d,ZDP d u g n e⟩
  .exact top n a h
theorem vZ{lo:Lo}(G:Pg Ls lo){t':Nat}{MH:List Nat}(c:t∉lows lo)(a:t'∉lows lo)(d:Dn lo t ch)(d':Dn lo t' MH):∀(k n:Nat),5000 - mu Ls n<=k->n∈ch->n∈MH->t=t':=by
 have no:∀{t n:Nat},t∉lows lo->(∃u∈ch,lo[u]?=some (some t))->False:=λh⟨u,_,e⟩=>h (Fp.mpr ⟨u,e⟩);intro k
 induction k with
 |zero=>
  intro n hk h h';have top:n∉lows lo:=λh=>by
   obtain⟨u,e⟩:=Fp.mp h;have:=ME G.uq (G.fit u n e);have:=Qk G u;omega
  rcases NY d n h with e|⟨u,_,e⟩
  .rcases NY d' n h' with e'|⟨u,_,e'⟩
   .exact e.symm.trans e'
   .exact absurd (Fp.mpr ⟨u,e'⟩) top
  .exact absurd (Fp.mpr ⟨u,e⟩) top
 |succ k b=>
  intro n hk h h';rcases NY d n h with e|⟨u,hu,e⟩
  .rcases NY d' n h' with e'|⟨u,_,e'⟩
   .exact e.symm.trans e'
   .exact absurd (Fp.mpr ⟨u,e▸e'⟩) c
  .rcases NY d' n h' with e'|⟨u',Ov,e'⟩
   .exact absurd (Fp.mpr ⟨u,e'▸e⟩) a
   .have f:=gQ G.nd e e';subst f;have h1:=ME G.uq (G.fit u n e);have h2:=Qk G u;exact b u (by omega) hu Ov
def Dr(lo:Lo):List Nat:=(List.range lo.length).filter λn=>decide (n∉lows lo)
theorem IC{lo:Lo}:t∈Dr lo↔t<lo.length/\t∉lows lo:=by unfold Dr;simp[ZW,Tf]
theorem Tt{u:Nat}:u∈ups Ls n↔u<Ls.length/\HF Ls n u=true:=by unfold ups;simp[ZW,Tf]
theorem ZCf(U:Uq Ls)(bd:∀l∈Ls,l.cs.length<=40)(d:Ls.length<n):Pg Ls (gp (ups Ls) Ls.length n Ls.length)/\∀t∈Dr (gp (ups Ls) Ls.length n Ls.length),DQ (ups Ls) t (gp (ups Ls) Ls.length n Ls.length):=by
 obtain⟨h1,h2,g,i,f⟩:=X4 (ab:=ups Ls) (m:=Ls.length) (n:=n) (λv u h=>(Tt.mp h).1) d Ls.length;refine⟨⟨U,h1,λu v e=>(Tt.mp (g u v e)).2,h2,bd⟩,λt c=>?_⟩;obtain⟨b,a⟩:=IC.mp c;exact(f t (h1▸b)).resolve_left a
end Kz
namespace Fz
open L2 Lw
variable{l ss:List Slot}{te:TE}{nx:List Slot->Prop}{R:Ae}{F H:Hp}{v1 v2 vp:V}{t1 t2:OV}{b c d l1 l2:Bool}{vs:List V}{E:Ent0}{Z:L2.St}{A:List Addr}{a:Addr}{i j n:Nat}{s:Slot}{k1 k2:NK}{Dd Fb:List OV}{kk:PV->OV->OV->Prop}
section
variable[Xw]
variable{K:ZHy}{k:PV->Prop}
theorem ZCA{t':TS}{l:Addr}{xs:List PV}(i:Nat)(hi:ss[i]?=some (.ow false (.nd .lst l (xs.map .fz))))(h:Ws (ss.set i (.own xs)) t' nx R):Ws ss t' nx R:=⟨λE D Z F H S n m=>by
 obtain⟨v,e,r,_,f⟩:=S.ok i _ hi;obtain⟨vs,rfl,q,w,x,d⟩:=r.inv;have a:=f l (by rw[QR];simp);have c:=S.setG (j:=i) (s:=.own xs) (v:=.ref l) ⟨l,vs,rfl,a.1,a.2.elim id (λz=>by cases z.1),q,iK d⟩ λb p j u o k g=>by
  have t:l=b:=by have z:some (some (V.ref l))=some (some (V.ref b)):=p;injection z with z;injection z with z;injection z
  subst t;exact S.Ba j i u _ l o k hi g (by show l∈OV.addrs _;rw[QR];simp)
 rw[MC e]at c;exact h.go E D Z F H c n m⟩
end
inductive FG (F:Hp) (vp v1 v2:V) (t1 t2:OV):Bool->Bool->Bool->List V->List Slot->Prop where
 |nil:FG F vp v1 v2 t1 t2 false false false [] []
 |is {b c d:Bool}{v:V}{p:PV}{vs:List V}{l:List Slot}:Rep F v p->FG F vp v1 v2 t1 t2 b c d vs l->FG F vp v1 v2 t1 t2 b c d (v::vs) (.is p::l)
 |AD {c d:Bool}{vs:List V}{l:List Slot}:FG F vp v1 v2 t1 t2 false c d vs l->FG F vp v1 v2 t1 t2 true c d (vp::vs) (.AD::l)
 |one {b d:Bool}{vs:List V}{l:List Slot}:FG F vp v1 v2 t1 t2 b false d vs l->FG F vp v1 v2 t1 t2 b true d (v1::vs) (.ow true t1::l)
 |two {b c:Bool}{vs:List V}{l:List Slot}:FG F vp v1 v2 t1 t2 b c false vs l->FG F vp v1 v2 t1 t2 b c true (v2::vs) (.ow true t2::l)
section
variable{F':Hp}
theorem FG.len(h:FG F vp v1 v2 t1 t2 b c d vs l):l.length=vs.length:=by
 induction h with
 |nil=>rfl
 |is _ _ a=>rw[BJ,BJ,a]
 |AD _ a=>rw[BJ,BJ,a]
 |one _ a=>rw[BJ,BJ,a]
 |two _ a=>rw[BJ,BJ,a]
theorem FG.at(h:FG F vp v1 v2 t1 t2 b c d vs l):∃(n0 j i:Nat),∀(n:Nat)(s:Slot),l[n]?=some s->
  (∃v p,vs[n]?=some v/\s=.is p/\Rep F v p)∨(b=true/\n=n0/\s=.AD/\vs[n]?=some vp)∨(c=true/\n=j/\s=.ow true t1/\vs[n]?=some v1)∨(d=true/\n=i/\s=.ow true t2/\vs[n]?=some v2):=by
 induction h with
 |nil=>exact⟨0,0,0,λn s h=>by simp at h⟩
 |is r _ g=>
  obtain⟨n0,j,i,g⟩:=g;refine⟨n0+1,j+1,i+1,λn s h=>?_⟩;cases n with
  |zero=>simp at h;subst h;exact .inl ⟨_,_,rfl,rfl,r⟩
  |succ n=>
   rcases g n s (by simpa using h)with⟨v,p,q⟩|⟨a,q,f,e⟩|⟨a,q,f,e⟩|⟨a,q,f,e⟩
   .exact .inl ⟨v,p,by simpa using q⟩
   .exact .inr (.inl ⟨a,by rw[q],f,by simpa using e⟩)
   .exact .inr (.inr (.inl ⟨a,by rw[q],f,by simpa using e⟩))
   .exact .inr (.inr (.inr ⟨a,by rw[q],f,by simpa using e⟩))
 |AD _ g=>
  obtain⟨n0,j,i,g⟩:=g;refine⟨0,j+1,i+1,λn s h=>?_⟩;cases n with
  |zero=>simp at h;subst h;exact .inr (.inl ⟨rfl,rfl,rfl,rfl⟩)
  |succ n=>
   rcases g n s (by simpa using h)with⟨v,p,q⟩|⟨a,q,f,e⟩|⟨a,q,f,e⟩|⟨a,q,f,e⟩
   .exact .inl ⟨v,p,by simpa using q⟩
   .cases a
   .exact .inr (.inr (.inl ⟨a,by rw[q],f,by simpa using e⟩))
   .exact .inr (.inr (.inr ⟨a,by rw[q],f,by simpa using e⟩))
 |one _ g=>
  obtain⟨n0,j,i,g⟩:=g;refine⟨n0+1,0,i+1,λn s h=>?_⟩;cases n with
  |zero=>simp at h;subst h;exact .inr (.inr (.inl ⟨rfl,rfl,rfl,rfl⟩))
  |succ n=>
   rcases g n s (by simpa using h)with⟨v,p,q⟩|⟨a,q,f,e⟩|⟨a,q,f,e⟩|⟨a,q,f,e⟩
   .exact .inl ⟨v,p,by simpa using q⟩
   .exact .inr (.inl ⟨a,by rw[q],f,by simpa using e⟩)
   .cases a
   .exact .inr (.inr (.inr ⟨a,by rw[q],f,by simpa using e⟩))
 |two _ g=>
  obtain⟨n0,j,i,g⟩:=g;refine⟨n0+1,j+1,0,λn s h=>?_⟩;cases n with
  |zero=>simp at h;subst h;exact .inr (.inr (.inr ⟨rfl,rfl,rfl,rfl⟩))
  |succ n=>
   rcases g n s (by simpa using h)with⟨v,p,q⟩|⟨a,q,f,e⟩|⟨a,q,f,e⟩|⟨a,q,f,e⟩
   .exact .inl ⟨v,p,by simpa using q⟩
   .exact .inr (.inl ⟨a,by rw[q],f,by simpa using e⟩)
   .exact .inr (.inr (.inl ⟨a,by rw[q],f,by simpa using e⟩))
   .cases a
variable{H':Hp}
def MF(ss:List Slot)(Z:L2.St)(b:Bool)(vp:V)(A:List Addr):Prop:=(b=false/\A=[])∨∃(q:Nat)(lp:Addr),b=true/\A=[lp]/\vp=.ref lp/\ss[q]?=some .AD/\Z[q]?=some (some (.ref lp))
theorem MF.own(h:MF ss Z b vp A)(c:a∈A):∃q:Nat,ss[q]?=some .AD/\Z[q]?=some (some (.ref a)):=by
 rcases h with⟨_,rfl⟩|⟨q,lp,_,rfl,_,h1,h2⟩
 .cases c
 .rw[List.mem_singleton.mp c];exact⟨q,h1,h2⟩
theorem Sg.call2(S:Sg E ss Z F H)(y:MF ss Z b vp A)(G:Al F H v1 t1)(D:Al F H v2 t2)(nd:(t1.addrs++t2.addrs).Nodup)
  (w:∀a∈t1.addrs++t2.addrs,F a=none) (k:∀a∈t1.addrs++t2.addrs,a∉A)(a:FG F vp v1 v2 t1 t2 b c d vs l):Sg ⟨A,F,H,t1.addrs++t2.addrs⟩ l (vs.map some) F H:=by
 obtain⟨n0,K,J,m⟩:=a.at;have th:∀x∈t1.addrs++t2.addrs,H x≠none:=λx hx=>by
  rcases List.mem_append.mp hx with h|h
  .exact G.there x h
  .exact D.there x h
 have pt:∀x∈A,Bi H x/\F x=none:=λx hx=>by
  obtain⟨q,h1,h2⟩:=y.own hx;obtain⟨l,e,I,_,p⟩:=S.ok q _ h1;rw[h2]at e;cases e;exact⟨p,I⟩
 have t:=List.nodup_append.mp nd;refine⟨⟨S.fh,AQ.refl _,λ_ _ _ e=>e,λ_ _ e=>.inl e,λx h=>(pt x h).1,λx h=>(pt x h).2,λx h=>by obtain⟨_,_,e,_⟩:=(pt x h).1;show H x≠none;rw[e];simp,w,th,λx h=>⟨th x h,k x h⟩⟩,by rw[AG];exact a.len,λn s B=>?_,λn j s u x OF B C ms mu=>?_⟩
 .rcases m n s B with⟨v,p,f,rfl,r⟩|⟨g,_,rfl,f⟩|⟨_,_,rfl,f⟩|⟨_,_,rfl,f⟩
  .rw[Ah,f];exact⟨v,rfl,r⟩
  .rw[Ah,f];rcases y with⟨h,_⟩|⟨q,lp,_,rfl,rfl,h1,h2⟩
   .rw[h]at g;cases g
   .exact⟨lp,rfl,(pt lp (by simp)).2,.inr (by simp),(pt lp (by simp)).1⟩
  .rw[Ah,f];exact⟨v1,rfl,G,t.1,λx hx=>⟨w x (by simp[hx]),.inr ⟨rfl,by simp[hx]⟩⟩⟩
  .rw[Ah,f];exact⟨v2,rfl,D,t.2.1,λx hx=>⟨w x (by simp[hx]),.inr ⟨rfl,by simp[hx]⟩⟩⟩
 .have o:∀{n:Nat},b=true->vs[n]?=some vp->Bg .AD ((vs.map some)[n]?) x->x∈A:=λ{n}g f ho=>by
   rcases y with⟨h,_⟩|⟨q,lp,_,rfl,rfl,h1,h2⟩
   .rw[h]at g;cases g
   .rw[Ah,f]at ho;have z:some (some (V.ref lp))=some (some (V.ref x)):=ho;injection z with z;injection z with z;injection z with z
    rw[z];simp
  rcases m n s B with⟨v,p,f,rfl,r⟩|⟨g,e1,rfl,f⟩|⟨_,e1,rfl,f⟩|⟨_,e1,rfl,f⟩
  .cases ms
  .rcases m j u C with⟨_,_,_,rfl,_⟩|⟨_,i,rfl,_⟩|⟨_,i,rfl,_⟩|⟨_,i,rfl,_⟩
   .cases mu
   .exact OF (e1.trans i.symm)
   .exact k x (DN _ mu) (o g f ms)
   .exact k x (C1 _ mu) (o g f ms)
  .rcases m j u C with⟨_,_,_,rfl,_⟩|⟨g,i,rfl,Yw⟩|⟨_,i,rfl,_⟩|⟨_,i,rfl,_⟩
   .cases mu
   .exact k x (DN _ ms) (o g Yw mu)
   .exact OF (e1.trans i.symm)
   .exact t.2.2 x ms x mu rfl
  .rcases m j u C with⟨_,_,_,rfl,_⟩|⟨g,i,rfl,Yw⟩|⟨_,i,rfl,_⟩|⟨_,i,rfl,_⟩
   .cases mu
   .exact k x (C1 _ ms) (o g Yw mu)
   .exact t.2.2 x mu x ms rfl
   .exact OF (e1.trans i.symm)
theorem Sg.jG{lt:Bool}{G D:OV}(S:Sg E ss Z F H)(R:MF ss Z b vp A)(BV:i≠j)(hi:ss[i]?=some (.ow lt t1))(W:ss[j]?=some (.ow lt t2))
  (e1:Z[i]?=some (some v1)) (e2:Z[j]?=some (some v2)) (f:Fin ⟨A,F,H,t1.addrs++t2.addrs⟩ F' H') (r1:Al F' H' v1 G) (r2:Al F' H' v2 D) (nd:(G.addrs++D.addrs).Nodup)
  (q:∀a∈G.addrs++D.addrs,F' a=none/\(H a=none∨a∈t1.addrs++t2.addrs)) :
  Sg E ((ss.set i (.ow lt G)).set j (.ow lt D)) Z F' H'/\(∀a o,DF ss Z a->a∉t1.addrs++t2.addrs->H a=some o->H' a=some o):=by
 obtain⟨w1,x1,_,_,Q⟩:=S.ok i _ hi;obtain⟨w2,x2,_,_,P⟩:=S.ok j _ W;have LX:i<ss.length:=(List.getElem?_eq_some_iff.mp hi).1;have σ:j<ss.length:=(List.getElem?_eq_some_iff.mp W).1;have O:∀a∈t1.addrs++t2.addrs,F a=none/\(E.H0 a=none∨a∈E.B):=λa g=>by
  rcases List.mem_append.mp g with h|h
  .exact⟨(Q a h).1,(Q a h).2.imp id λz=>z.2⟩
  .exact⟨(P a h).1,(P a h).2.imp id λz=>z.2⟩
 have kp:∀a o,a∉A->a∉t1.addrs++t2.addrs->H a=some o->H' a=some o:=λa o K J e=>f.keep a o ⟨K,J⟩ e;have Bp:∀a,H a≠none->F a=none->F' a=none:=λa h1 h2=>by
  cases e:F' a with
  |none=>rfl
  |some o=>
   rcases f.fresh a o e with z|z
   .rw[show F a=some o from z]at h2;cases h2
   .exact absurd z h1
 have Y:∀a∈A,E.H0 a=none∨a∈E.A:=λa g=>by
  obtain⟨n,h1,h2⟩:=R.own g;obtain⟨l,e,_,U,_⟩:=S.ok n _ h1;rw[h2]at e;cases e;exact U
 have YW:∀a,a∈E.A->a∉t1.addrs++t2.addrs:=λa k t=>by
  rcases(O a t).2 with z|z
  .exact S.a0 a k z
  .exact(S.b0 a z).2 k
 have d:∀(n:Nat)s,n≠i->n≠j->ss[n]?=some s->∀a,Bg s Z[n]? a->a∉t1.addrs++t2.addrs:=λn s h1 h2 w a ho t=>by
  rcases List.mem_append.mp t with h|h
  .exact S.Ba n i s _ a h1 w hi ho h
  .exact S.Ba n j s _ a h2 w W ho h
 have LI:∀(n:Nat)s,s≠.AD->ss[n]?=some s->∀a,Bg s Z[n]? a->a∉A:=λn s np w a ho t=>by
  obtain⟨m,h1,h2⟩:=R.own t
  by_cases c:n=m
  .subst c;rw[w]at h1;exact np (BG h1)
  .exact S.Ba n m s _ a c w h1 ho h2
 have Dk:∀a,Bi H a->a∉t1.addrs++t2.addrs->Bi H' a:=λa p n=>by
  by_cases c:a∈A
  .exact f.Dk a c
  .exact Bi.keep p λo e=>kp a o c n e
 have at_:∀(n:Nat)s,((ss.set i (.ow lt G)).set j (.ow lt D))[n]?=some s->(n=j/\s=.ow lt D)∨(n=i/\s=.ow lt G)∨(n≠i/\n≠j/\ss[n]?=some s):=λn s C=>by
  by_cases c:n=j
  .subst c;rw[Ca (by rw[GD];exact σ)]at C;exact .inl ⟨rfl,(BG C).symm⟩
  .rw[Bv (Az c)]at C
   by_cases c2:n=i
   .subst c2;rw[Ca LX]at C;exact .inr (.inl ⟨rfl,(BG C).symm⟩)
   .rw[Bv (Az c2)]at C;exact .inr (.inr ⟨c2,c,C⟩)
 have qn:∀a∈G.addrs++D.addrs,E.H0 a=none∨a∈E.B:=λa g=>by
  rcases(q a g).2 with z|z
  .exact .inl (S.E6 z)
  .exact(O a z).2
 have N:=List.nodup_append.mp nd;have T:∀a,a∈E.B->a∈G.addrs++D.addrs->lt=true:=λa I g=>by
  rcases(q a g).2 with z|z
  .exact absurd (S.E6 z) (S.b0 a I).1
  .rcases List.mem_append.mp z with h|h
   .exact((Q a h).2.resolve_left (S.b0 a I).1).1
   .exact((P a h).2.resolve_left (S.b0 a I).1).1
 have X:∀{u:OV}{v:V}{n:Nat},Z[n]?=some (some v)->Al F' H' v u->u.addrs.Nodup->(∀a∈u.addrs,a∈G.addrs++D.addrs)->Ok E F' H' (.ow lt u) Z[n]?:=λ{u v n}e r El w=>by
  refine⟨v,e,r,El,λa g=>⟨(q a (w a g)).1,?_⟩⟩;rcases qn a (w a g)with z|z
  .exact .inl z
  .exact .inr ⟨T a z (w a g),z⟩
 refine⟨⟨⟨f.fh,S.f0.trans f.f0,λa o k e=>?_,λa o e=>?_,λa k=>?_,λa k=>?_,S.a0,λa I=>?_,λa I=>?_,S.b0⟩,by rw[GD,GD];exact S.len,λn s C=>?_,λn m s u x Xh C t ms mu=>?_⟩,λa o np nb e=>?_⟩
 .refine kp a o (λz=>?_) (λz=>?_) (S.keep a o k e)
  .rcases Y a z with y|y
   .rw[e]at y;cases y
   .exact k.1 y
  .rcases(O a z).2 with y|y
   .rw[e]at y;cases y
   .exact k.2 y
 .rcases f.fresh a o e with z|z
  .exact S.fresh a o z
  .exact .inr (S.E6 z)
 .exact Dk a (S.Dk a k) (YW a k)
 .obtain⟨_,_,e1,_⟩:=S.Dk a k;exact Bp a (by rw[e1];simp) (S.JZ a k)
 .exact Bp a (S.bH a I) (S.bF a I)
 .by_cases t:a∈t1.addrs++t2.addrs
  .exact f.bH a t
  .by_cases k:a∈A
   .obtain⟨_,_,e1,_⟩:=f.Dk a k;rw[e1];simp
   .intro z;cases e:H a with
    |none=>exact S.bH a I e
    |some o=>rw[kp a o k t e]at z;cases z
 .rcases at_ n s C with⟨rfl,rfl⟩|⟨rfl,rfl⟩|⟨K,J,h⟩
  .exact X e2 r2 N.2.1 λa g=>C1 _ g
  .exact X e1 r1 N.1 λa g=>DN _ g
  .by_cases np:s=.AD
   .subst np;obtain⟨l,e,fl,U,pt⟩:=S.ok n _ h;obtain⟨_,_,e3,_⟩:=id pt;exact⟨l,e,Bp l (by rw[e3];simp) fl,U,Dk l pt (d n _ K J h l e)⟩
   .exact Ok.go S h f.f0 (λa o ho e=>kp a o (LI n s np h a ho) (d n s K J h a ho) e) Bp np
 .have M:∀(n:Nat)s,n≠i->n≠j->ss[n]?=some s->Bg s Z[n]? x->x∉G.addrs++D.addrs:=λn s h1 h2 w ho t=>by
   rcases(q x t).2 with z|z
   .exact S.HX w ho z
   .exact d n s h1 h2 w x ho z
  rcases at_ n s C with⟨c1,rfl⟩|⟨c1,rfl⟩|⟨K,J,h⟩
  .rcases at_ m u t with⟨c2,rfl⟩|⟨c2,rfl⟩|⟨L,m2,h'⟩
   .exact Xh (c1.trans c2.symm)
   .exact N.2.2 x mu x ms rfl
   .exact M m u L m2 h' mu (C1 _ ms)
  .rcases at_ m u t with⟨c2,rfl⟩|⟨c2,rfl⟩|⟨L,m2,h'⟩
   .exact N.2.2 x ms x mu rfl
   .exact Xh (c1.trans c2.symm)
   .exact M m u L m2 h' mu (DN _ ms)
  .rcases at_ m u t with⟨c2,rfl⟩|⟨c2,rfl⟩|⟨L,m2,h'⟩
   .exact M n s K J h ms (C1 _ mu)
   .exact M n s K J h ms (DN _ mu)
   .exact S.Ba n m s u x Xh h h' ms mu
 .refine kp a o (λz=>?_) nb e;obtain⟨n,h1,h2⟩:=R.own z;exact np n h1 h2
end
noncomputable def Ng(Z:L2.St)(q:Nat):V:=match Z[q]? with
 |some (some v)=>v
 |_=>.A8
def T8(s:Slot)(a:Addr):Prop:=(∃lt k us,s=.ow lt (.nd k a us))∨s=.raw (ptr a)
theorem T8.val(p:T8 s a)(S:Sg E ss Z F H)(c:ss[n]?=some s):Z[n]?=some (some (.ref a)):=by
 rcases p with⟨lt,k,us,rfl⟩|rfl
 .obtain⟨v,e,r,_⟩:=S.ok n _ c;have b:v=.ref a:=by cases r;rfl
  rw[<- b];exact e
 .obtain⟨v,e,r,_⟩:=S.ok n _ c;have b:v=.ref a:=r;rw[<- b];exact e
structure Sf (E:Ent0) (ss A5:List Slot) (Z:L2.St) (t1 t2:OV) (F H F' H':Hp):Prop where
 st:Sg E A5 Z F' H'
 ff:AQ F F'
 hh:∀a o,DF ss Z a->a∉t1.addrs++t2.addrs->H a=some o->H' a=some o
 nn:∀a o,F' a=some o->F a=some o∨H a=none
structure Jq [Xw] (ss:List Slot) (q:Nat) (a1 a2:Addr) (t1 t2:OV) (b c d:Bool) (ta:TA) (k:List Slot->Prop):Prop where
 go:∀(E:Ent)(Z:L2.St)(F H:Hp)(Q:List V->Hp->Prop),Sg E ss Z F H->(∀vs l F' H',Mv E ss Z F H F' H'->FG F' (Ng Z q) (.ref a1) (.ref a2) t1 t2 b c d vs l->k l->Q vs H')->ta Z H Q
structure kM [Xw] (ss:List Slot) (t1 t2:OV) (new:OV->OV->List Slot) (te:TE) (k:PV->OV->OV->Prop):Prop where
 go:∀(E:Ent)(Z:L2.St)(F H:Hp)(Q:VK),Sg E ss Z F H->(∀v p u1 u2 F' H',Sf E ss (new u1 u2) Z t1 t2 F H F' H'->Rep F' v p->k p u1 u2->Q v H')->te Z H Q
structure RC [Xw] (ss:List Slot) (t1 t2:OV) (new:OV->OV->List Slot) (c:TT) (k:Bool->OV->OV->Prop):Prop where
 go:∀(E:Ent)(Z:L2.St)(F H:Hp)(Q:Bool->Hp->Prop),Sg E ss Z F H->(∀b u1 u2 F' H',Sf E ss (new u1 u2) Z t1 t2 F H F' H'->k b u1 u2->Q b H')->c Z H Q
section
variable[Xw]
variable{ta:TA}{q:Nat}{lt:Bool}{a1 a2:Addr}{k:List Slot->Prop}{new:OV->OV->List Slot}
theorem p4(h:k []):Jq ss q a1 a2 t1 t2 false false false B6 k:=⟨λE Z F H Q S go=>go [] [] F H (Mv.refl S) .nil h⟩
theorem eX(h:Wp ss te λp=>Jq ss q a1 a2 t1 t2 b c d ta λl=>k (.is p::l)):Jq ss q a1 a2 t1 t2 b c d (AZ te ta) k:=⟨λE Z F H Q S go=>
 h.go E Z F H _ S λv p F1 H1 e r h2=>h2.go E Z F1 H1 _ e.st λvs l F2 H2 m2 a kk=>go _ _ F2 H2 (e.trans m2) (.is (r.mono m2.ff) a) kk⟩
theorem ZEw(c:ss[n]?=some s)(ps:T8 s a1)(h:Jq ss q a1 a2 t1 t2 b false d ta λl=>k (.ow true t1::l)):Jq ss q a1 a2 t1 t2 b true d (AZ (Aj n) ta) k:=⟨λE Z F H Q S go=>
 ⟨_,ps.val S c,h.go E Z F H _ S λvs l F2 H2 m2 a kk=>go _ _ F2 H2 m2 (.one a) kk⟩⟩
theorem ZEd(d:ss[n]?=some s)(ps:T8 s a2)(h:Jq ss q a1 a2 t1 t2 b c false ta λl=>k (.ow true t2::l)):Jq ss q a1 a2 t1 t2 b c true (AZ (Aj n) ta) k:=⟨λE Z F H Q S go=>
 ⟨_,ps.val S d,h.go E Z F H _ S λvs l F2 H2 m2 a kk=>go _ _ F2 H2 m2 (.two a) kk⟩⟩
theorem yQ(S:Sg E ss Z F H)(d:b=true->ss[q]?=some .AD):∃A,MF ss Z b (Ng Z q) A/\∀a∈A,∃m:Nat,ss[m]?=some .AD/\Z[m]?=some (some (.ref a)):=by
 cases b with
 |false=>exact⟨[],.inl ⟨rfl,rfl⟩,λ_ h=>absurd h BF⟩
 |true=>
  obtain⟨c,e,_⟩:=S.ok q _ (d rfl);have g:Ng Z q=.ref c:=by unfold Ng;rw[e]
  have P:MF ss Z true (Ng Z q) [c]:=.inr ⟨q,c,rfl,rfl,g,d rfl,e⟩;exact⟨[c],P,λa f=>P.own f⟩
theorem xZ{pre:Pre}(BV:i≠j)(hi:ss[i]?=some (.ow lt (.nd k1 a1 Dd)))(s:ss[j]?=some (.ow lt (.nd k2 a2 Fb)))(Y:b=true->ss[q]?=some .AD)
  (h:Jq ss q a1 a2 (.nd k1 a1 Dd) (.nd k2 a2 Fb) b c d ta λl=>∃k',pre l (.K4 k')/\∀p k g,k' p k g->k.val=.ref a1/\g.val=.ref a2/\kk p k g) :
  kM ss (.nd k1 a1 Dd) (.nd k2 a2 Fb) (λk g=>(ss.set i (.ow lt k)).set j (.ow lt g)) (E7 (FD pre) [] E0 ta) kk:=⟨λE Z F H Q S go=>
 h.go E Z F H _ S λvs l F1 H1 r a⟨k',σ,W⟩=>by
  rw[Gv];have n:=r.st;obtain⟨v1,K,C,V,R⟩:=n.ok i _ hi;obtain⟨v2,J,B,U,P⟩:=n.ok j _ s;have e1:v1=.ref a1:=by cases C;rfl
  have e2:v2=.ref a2:=by cases B;rfl
  subst e1;subst e2;obtain⟨A,D,own⟩:=yQ n Y;have t:((OV.nd k1 a1 Dd).addrs++(OV.nd k2 a2 Fb).addrs).Nodup:=List.nodup_append.mpr ⟨V,U,λx hx y X e=>n.Ba i j _ _ x BV hi s hx (by rw[e];exact X)⟩;refine⟨l,.K4 k',F1,A,_,σ,n.call2 D C B t (λx hx=>?_) (λx hx hA=>?_) a,λv F' H' f⟨p,k,g,N,I,G,nd,O,kp⟩=>?_⟩
  .rcases List.mem_append.mp hx with z|z
   .exact(R x z).1
   .exact(P x z).1
  .obtain⟨m,p1,p2⟩:=own x hA;rcases List.mem_append.mp hx with z|z
   .by_cases w:m=i
    .subst w;rw[hi]at p1;cases p1
    .exact n.Ba m i _ _ x w p1 hi p2 z
   .by_cases w:m=j
    .subst w;rw[s]at p1;cases p1
    .exact n.Ba m j _ _ x w p1 s p2 z
  .obtain⟨M,L,u⟩:=W p k g kp;rw[M]at I;rw[L]at G;obtain⟨S2,hh⟩:=n.jG D BV hi s K J f I G nd O;exact go v p k g F' H' ⟨S2,r.ff.trans f.f0,λa o np T e=>hh a o np T (r.hh a o np e),λa o e=>(f.fresh a o e).elim (λe=>r.nn a o e) λe=>.inr (r.none e)⟩ N u⟩
theorem tW{kk:Bool->OV->OV->Prop}(h:kM ss t1 t2 new te λp b a=>∃c,p=.bl c/\kk c b a):RC ss t1 t2 new (tB te) kk:=⟨λE Z F H Q S go=>
 h.go E Z F H _ S λv p b a F1 H1 d r AM=>by
  obtain⟨c,e,k2⟩:=AM;subst e;cases r.inv;exact⟨c,rfl,go c b a F1 H1 d k2⟩⟩
theorem v5{x:TT}{u v:TS}(h:RC ss t1 t2 new x λb d c=>if b=true then Ws (new d c) u nx R else Ws (new d c) v nx R):Ws ss (Mt x u v) nx R:=⟨λE D Z F H S f e=>
 h.go E Z F H _ S λb d c F1 H1 a kk=>by
  cases b with
  |true=>rw[oM rfl]at kk;exact kk.go E D Z F1 H1 a.st (λA5 σ' F' H' n S' s=>f A5 σ' F' H' n S' (a.ff.trans s)) e
  |false=>rw[nr (by decide)]at kk;exact kk.go E D Z F1 H1 a.st (λA5 σ' F' H' n S' s=>f A5 σ' F' H' n S' (a.ff.trans s)) e⟩
theorem Sg.two(S:Sg E ss Z F H)(BV:i≠j)(hi:ss[i]?=some (.ow l1 (.nd k1 a1 Dd)))(g:ss[j]?=some (.ow l2 (.nd k2 a2 Fb))):
  Al F H (.ref a1) (.nd k1 a1 Dd)/\Al F H (.ref a2) (.nd k2 a2 Fb)/\((OV.nd k1 a1 Dd).addrs++(OV.nd k2 a2 Fb).addrs).Nodup/\∀a∈(OV.nd k1 a1 Dd).addrs++(OV.nd k2 a2 Fb).addrs,F a=none/\(E.H0 a=none∨a∈E.B):=by
 obtain⟨v1,q,c,l,f⟩:=S.ok i _ hi;obtain⟨v2,p,b,k,d⟩:=S.ok j _ g;have e1:v1=.ref a1:=by cases c;rfl
 have o:v2=.ref a2:=by cases b;rfl
 subst e1;subst o;refine⟨c,b,List.nodup_append.mpr ⟨l,k,λx hx y m e=>S.Ba i j _ _ x BV hi g hx (by rw[e];exact m)⟩,λa n=>?_⟩;rcases List.mem_append.mp n with h|h
 .exact⟨(f a h).1,(f a h).2.imp id λz=>z.2⟩
 .exact⟨(d a h).1,(d a h).2.imp id λz=>z.2⟩
theorem bL(BV:i≠j)(hi:ss[i]?=some (.ow l1 (.nd k1 a1 Dd)))(f:ss[j]?=some (.ow l2 (.nd k2 a2 Fb)))(h:Wp ss te λp=>kk p (.nd k1 a1 Dd) (.nd k2 a2 Fb)):Ws ss (Hw te) nx (.K4 kk):=⟨λE D Z F H S g e=>
 h.go E Z F H _ S λv p F1 H1 a r kp=>by
  obtain⟨c,b,nd,d⟩:=a.st.two BV hi f;exact e v F1 H1 a.st.toFin ⟨p,.nd k1 a1 Dd,.nd k2 a2 Fb,r,c,b,nd,d,kp⟩⟩
end
end Fz
namespace Fz
open L2 Lw
variable{ss:List Slot}{F H:Hp}{t:OV}{ta tb tc te:TE}{i j n:Nat}{nx:List Slot->Prop}{R:Ae}{T a1:Addr}{pos:Pos}{N cs ns:List Str}{r x:Str}
section
variable{E:Ent0}{Z:List (Option V)}
theorem Sg.snoc{v:V}{lt:Bool}(S:Sg E ss Z F H)(r:Al F H v t)(nd:t.addrs.Nodup)(q:∀a∈t.addrs,F a=none/\E.H0 a=none/\∀(n:Nat)s,ss[n]?=some s->¬ Bg s Z[n]? a):Sg E (ss++[.ow lt t]) (Z++[some v]) F H:=by
 have at_:∀(n:Nat)s,(ss++[Slot.ow lt t])[n]?=some s->(n<ss.length/\ss[n]?=some s/\(Z++[some v])[n]?=Z[n]?)∨(s=.ow lt t/\n=ss.length/\(Z++[some v])[n]?=some (some v)):=λn s h=>by
  by_cases c:n<ss.length
  .rw[DU c]at h;exact .inl ⟨c,h,DU (S.len▸c)⟩
  .rw[Ff (Zc c)]at h;have e:n - ss.length=0:=by
    cases e:n - ss.length with
    |zero=>rfl
    |succ k=>rw[e]at h;simp at h
   rw[e]at h;refine .inr ⟨(BG h).symm,by omega,?_⟩;rw[Ff (by rw[<- S.len];omega),<- S.len,e];rfl
 refine⟨S.toFin,by rw[BI,BI,S.len];rfl,λn s h=>?_,λi j s u a BV hi f ms mu=>?_⟩
 .rcases at_ n s h with⟨_,h,e⟩|⟨rfl,_,e⟩
  .rw[e];exact S.ok n s h
  .rw[e];exact⟨v,rfl,r,nd,λa d=>⟨(q a d).1,.inl (q a d).2.1⟩⟩
 .rcases at_ i s hi with⟨_,h1,e1⟩|⟨rfl,e1,_⟩ <;> rcases at_ j u f with⟨_,h2,b⟩|⟨rfl,b,_⟩
  .rw[e1]at ms;rw[b]at mu;exact S.Ba i j s u a BV h1 h2 ms mu
  .rw[e1]at ms;exact(q a mu).2.2 i s h1 ms
  .rw[b]at mu;exact(q a ms).2.2 j u h2 mu
  .exact BV (e1.trans b.symm)
theorem Sg.ZF7{s:Slot}{o:Option V}(S:Sg E (ss++[s]) (Z++[o]) F H):Sg E ss Z F H:=by
 have b:ss.length=Z.length:=by have:=S.len;rw[BI,BI]at this;exact KP this
 have at_:∀(n:Nat)u,ss[n]?=some u->(ss++[s])[n]?=some u/\(Z++[o])[n]?=Z[n]?:=λn u h=>by
  have c:=(List.getElem?_eq_some_iff.mp h).1;exact⟨(DU c).trans h,DU (b▸c)⟩
 refine⟨S.toFin,b,λn u h=>?_,λi j u w a BV hi d ms mu=>?_⟩
 .obtain⟨h1,h2⟩:=at_ n u h;rw[<- h2];exact S.ok n u h1
 .obtain⟨h1,h2⟩:=at_ i u hi;obtain⟨f,e⟩:=at_ j w d;exact S.Ba i j u w a BV h1 f (by rw[h2];exact ms) (by rw[e];exact mu)
end
section
variable[Xw]
variable{ta:TA}{lt:Bool}{K:ZHy}
theorem ZBE{pre:Pre}{t1 t2:TE}{k1:NK}{Dd:List OV}(hi:ss[i]?=some (.ow lt (.nd k1 a1 Dd)))
  (h:Wp ss t1 λp1=>Wp ss t2 λp2=>∀a2,∃k',pre [.is p1,.is p2,.ow true (.nd k1 a1 Dd),.ow true (.nd (.B2 []) a2 [])] (.K4 k')/\∀p c g,k' p c g->c.val=.ref a1/\g.val=.ref a2/\nx (ss.set i (.ow lt c))) :
  Ws ss (Iv (E7 (FD pre) [] E0 (AZ t1 (AZ t2 (AZ (Aj i) (AZ RT B6)))))) nx R:=⟨λE D Z F H S Y hr=>
 h.go E Z F H _ S λv1 p1 F1 H1 B N h2=>h2.go E Z F1 H1 _ B.st λv2 p2 F2 H2 m2 M σ=>by
  obtain⟨r,l,_⟩:=m2.st.ok i _ hi;refine⟨r,l,λa2 NF=>?_⟩;have z:=m2.st.make NF (.dK []);have d:=z.st;obtain⟨L,G,u,T,P⟩:=d.ok i _ hi;rw[l]at G;cases G;have ew:r=.ref a1:=u.inv.elim λ_ h=>h.1;subst ew;have j:i<ss.length:=(List.getElem?_eq_some_iff.mp hi).1;have hF:F2 a2=none:=m2.st.Bp NF;have t:Al F2 (upd H2 a2 (.dK [])) (.ref a2) (.nd (.B2 []) a2 []):=.nd (k:=.B2 []) (vs:=[]) AV trivial rfl .nil;have ea:(OV.nd (.B2 []) a2 []).addrs=[a2]:=by rw[OV.EI,OV.KY];rfl
  have w:∀(n:Nat)s,ss[n]?=some s->¬ Bg s Z[n]? a2:=λn s W ho=>m2.st.HX W ho NF;have S4:=d.snoc (lt:=lt) t (by rw[ea];exact List.nodup_cons.mpr ⟨BF,.nil⟩) λa h=>by
   rw[ea,IQ]at h;subst h;exact⟨hF,m2.st.E6 NF,w⟩
  obtain⟨k',X,U⟩:=σ a2;have Kc:((OV.nd k1 a1 Dd).addrs++(OV.nd (.B2 []) a2 []).addrs).Nodup:=by
   rw[ea];exact List.nodup_append.mpr ⟨T,List.nodup_cons.mpr ⟨BF,.nil⟩,λx hx y C=>by
    rw[IQ]at C;subst C;exact λe=>w i _ hi (by rw[<- e];exact hx)⟩
  show FD pre ([v1,v2,.ref a1,.ref a2]++[]) (upd H2 a2 (.dK [])) (λx H1=>D.nx Z H1) E0;rw[Gv];refine⟨_,.K4 k',F2,[],_,X,d.call2 (b:=false) (vp:=.A8) (.inl ⟨rfl,rfl⟩) u t Kc (λa h=>?_) (λa h=>BF) (.is (N.mono (m2.ff)) (.is M (.one (.two .nil)))),λv F' H' f⟨p,c,g,rp,q,o,nd,O,kp⟩=>?_⟩
  .rcases List.mem_append.mp h with h|h
   .exact(P a h).1
   .rw[ea,IQ]at h;subst h;exact hF
  .obtain⟨e1,e2,kk⟩:=U p c g kp;rw[e1]at q;rw[e2]at o;have BV:i≠ss.length:=B7 j;have Q:(ss++[Slot.ow lt (.nd (.B2 []) a2 [])])[i]?=some (.ow lt (.nd k1 a1 Dd)):=(DU j).trans hi;have m:(ss++[Slot.ow lt (.nd (.B2 []) a2 [])])[ss.length]?=some (.ow lt (.nd (.B2 []) a2 [])):=by rw[Ff (Aa _),Zf];rfl
   have K:(Z++[some (V.ref a2)])[i]?=some (some (.ref a1)):=(DU (d.len▸j)).trans l;have J:(Z++[some (V.ref a2)])[ss.length]?=some (some (.ref a2)):=by rw[d.len,Ff (Aa _),Zf];rfl
   have I:=(S4.jG (b:=false) (vp:=.A8) (A:=[]) (.inl ⟨rfl,rfl⟩) BV Q m K J f q o nd O).1;rw[List.set_append_left _ _ j,show ss.length=(ss.set i (.ow lt c)).length from(GD).symm,ZGs _ _ (Aa _),Zf]at I;exact Y _ Z F' H' kk I.ZF7 (B.ff.trans (m2.ff.trans (z.ff.trans f.f0)))⟩
theorem jA{P:Hp->V->Prop}{k:List Slot->Prop}(j:Nat)(c:ss[j]?=some (.raw P))(d:∀F v,P F v->F T=some (.C3 (.tab pos Kg)))
  (h:Wp ss te λp=>p=.lst (ns.map .str)/\Wa ss ta λl=>k (.raw (Di T pos ns)::l)):Wa ss (AZ te ta) k:=⟨λE Z F H Q S q=>
 h.go E Z F H _ S λv p F1 H1 b r⟨e,h2⟩=>h2.go E Z F1 H1 _ b.st λvs l F2 H2 m2 a kk=>by
  subst e;obtain⟨_,_,pv,_⟩:=m2.st.ok j _ c;exact q _ _ F2 H2 (b.trans m2) (.cons (s:=.raw (Di T pos ns)) ⟨⟨r.mono m2.ff,d _ _ pv⟩,λF F' s h=>ZBH T pos ns F F' s v h⟩ a) kk⟩
def Dz(K:ZHy)(T:Addr)(pos:Pos)(ns:List Int):Hp->V->Prop:=λF v=>VV K ns F v/\F T=some (.C3 (.tab pos Kg))
theorem ZCb(K:ZHy)(T:Addr)(pos:Pos)(ns:List Int):∀(v:V)(F F':Hp),AQ F F'->Dz K T pos ns F v->Dz K T pos ns F' v:=λv F F' s h=>⟨Y5 K ns v F F' s h.1,s _ _ h.2⟩
variable{ns:List Int}
theorem ZES{k:PV->Prop}(hi:ss[i]?=some (.raw (Dz K T pos ns)))(h:k (.int ns.length)):Wp ss (CH (Jk K) (AZ (Aj i) B6)) k:=⟨λE Z F H Q S q=>by
 obtain⟨v,e,⟨⟨a,c,b⟩,_⟩,st⟩:=S.ok i _ hi;subst c;obtain⟨d,ea,Vi⟩:=Y5 K ns _ F H S.fh ⟨a,rfl,b⟩;cases ea;refine⟨_,e,a,_,rfl,.inl Vi,?_⟩;rw[AG];exact q _ _ F H (.refl S) (.int _) h⟩
theorem qX(hi:ss[i]?=some (.raw (Dz K T pos ns)))(h:Wp ss te λx=>∃m,x=.int m/\0<=m/\m<=1000/\nx (ss.set j .AD)):Ws ss (Df (E7 (WM K) [] E0 (AZ (Aj i) (AZ te B6))) (CZ j)) nx R:=⟨λE D Z F H S o y=>by
 obtain⟨v,e,⟨⟨a,q,z⟩,_⟩,st⟩:=S.ok i _ hi;subst q;refine⟨_,e,h.go E Z F H _ S λv x F1 H1 c r⟨m,t,k,Pd,kk⟩=>?_⟩;subst t;cases r.inv;obtain⟨w,f,⟨Ku,_⟩,_⟩:=c.st.ok i _ hi;rw[e]at f;cases f;obtain⟨A,ea,Vi⟩:=Y5 K ns _ F1 H1 c.st.fh Ku;cases ea;refine⟨a,ns,m,rfl,Vi,k,Pd,λp H2 d s g=>?_⟩;have m2:=c.st.grow s;exact o _ _ F1 H2 kk (m2.st.setG ⟨p,rfl,c.st.Bp d,.inl (c.st.E6 d),g⟩ λl e b u _ n mu=>by cases e;exact c.st.OJ n d mu) c.ff⟩
end
def O1(K:ZHy)(T:Addr)(pos:Pos):Sp:=λvs H Q X=>H T=some (.C3 (.tab pos Kg))/\tQ K vs H Q X
theorem vW{K:ZHy}{vs:List V}{Q:VK}{X:XK}{t:TS}(h:O1 K T pos vs H Q X)(hw:∀ns:List Int,ns.length<=63->Ws (.raw (Dz K T pos ns)::List.replicate (N.length - 1) .any) t (λ_=>False) (.is λp=>p=.bl true)):t { nx:=λ_ H'=>Q .A8 H',rt:=Q } (L2.start N vs) H:=by
 obtain⟨b,a,ns,rfl,c,d,q⟩:=h;have S:Sg (E3 [] H H) [.raw (Dz K T pos ns)] [some (.ref a)] H H:=by
  have nn:∀{p:Prop}(a:Addr),a∈([]:List Addr)->p:=λa h=>absurd h BF;refine⟨⟨AQ.refl _,AQ.refl _,λ_ _ _ e=>e,λ_ _ e=>.inl e,λa h=>nn a h,λa h=>nn a h,λa h=>nn a h,λa h=>nn a h,λa h=>nn a h,λa h=>nn a h⟩,rfl,λi s hi=>?_,λi j s u l BV hi g ms=>?_⟩
  .cases i with
   |zero=>cases hi;exact⟨_,rfl,⟨⟨a,rfl,c⟩,b⟩,ZCb K T pos ns _⟩
   |succ i=>simp at hi
  .cases i with
   |zero=>cases hi;cases ms
   |succ i=>simp at hi
 refine(hw ns d).go (VN (E3 [] H H)) _ _ H H (S.grown _) (λ_ _ _ _ h=>h.elim) λv F' H' f ok=>?_;obtain⟨p,r,rfl⟩:=ok;cases r.inv;exact q H'
noncomputable def My(C:Addr)(nm:Str):Ex:=⟨C,["name"],[.str nm]⟩
noncomputable def G4(C:Addr):Ex:=⟨C,[],[]⟩
def inR(i:Int)(lo hi:Int):Prop:=lo<=i/\i<=hi
instance {i lo hi:Int}:Decidable (inR i lo hi):=by unfold inR;infer_instance
def HK(x:Str):Prop:=(reprText x).length<=100000/\x.length<=1000
theorem aO(h:Nm x):HK x:=⟨ZBL h,by have:=h.2.1;omega⟩
def lK:Pre:=λl R=>∃(tp:Bool)(ns:List Str)(g:Int),l=[.sq tp (ns.map .str),.is (.int g)]/\R=.is λp=>p=.bl (decide (inR g 0 ns.length))
theorem j3(h:x.length<=100)(hx:∀c∈x.cps.toList,c<16 ^ 8):HK x:=⟨dC h hx,by omega⟩
noncomputable def Nq(r:Str)(g:Int)(cs:List Str):PV:=.tup [.str r,.int g,.tup (cs.map .str)]
def Dg(ns:List Str)(r:Str)(g:Int)(cs:List Str):Bool:=LB r && (decide (inR g 0 ns.length) && Ki ns cs)
theorem ZDv(h:Ki ns cs=true):Up cs/\∀x∈cs,x∈ns:=by
 unfold Ki at h;split at h
 .next c=>
  refine⟨pQ c,λx hx=>?_⟩;rw[Eb]at h;exact pQ (h _ (List.mem_map.mpr ⟨x,hx,rfl⟩))
 .cases h
theorem sS(h:Up cs)(h2:∀x∈cs,x∈ns):Ki ns cs=true:=by
 unfold Ki;rw[oM (oW h),Eb];intro b a;obtain⟨x,hx,rfl⟩:=List.mem_map.mp a;exact oW (h2 x hx)
theorem VE{g:Int}(h:Dg ns r g cs=true):∃n:Nat,g=n/\D1 ns r n cs:=by
 unfold Dg at h;rw[C7,C7]at h;obtain⟨h1,h2,c⟩:=h;have h2:inR g 0 ns.length:=pQ h2;obtain⟨a,b⟩:=h2;obtain⟨n,rfl⟩:=TY a;obtain⟨u,v⟩:=ZDv c;exact⟨n,rfl,⟨pQ h1,a,b,u,v⟩⟩
theorem ZBa(h:D1 ns r n cs):Dg ns r n cs=true:=by
 unfold Dg LB;rw[oW (show r∈([("none":Str), "ahead","all"])from h.rule),oW (show inR n 0 ns.length from⟨h.g0,h.g1⟩),sS h.up h.sub];rfl
def ql(C:Addr)(ns:List Str)(r:Str)(g:Int)(cs:List Str)(e:Ex):Prop:=Dg ns r g cs=false/\e=G4 C
def eR:Pre:=λl R=>∃(tp:Bool)(ns:List Str)(r:Str)(g:Int)(cs:List Str),l=[.sq tp (ns.map .str),.is (Nq r g cs)]/\cs.length<64/\R=.is λp=>p=.bl (Dg ns r g cs)
def gi(C:Addr):En:=λl R D=>∃(tp:Bool)(ns:List Str)(r:Str)(g:Int)(cs:List Str),l=[.sq tp (ns.map .str),.is (Nq r g cs)]/\cs.length<64/\(R=.is λp=>Dg ns r g cs=true)/\D=ql C ns r g cs
end Fz
namespace Fz
open L2 Lw
variable{ss:List Slot}{te:TE}{i j m n u v w x:Nat}{new:OV->OV->List Slot}{ab c:Nat->List Nat}{D ch l r tr xs:List Nat}{cs ns t:List Str}{CG CN CT a:Addr}{chs:List (List Nat)}{α:Type}{f:Nat->Nat}{Ls Ms:List Lp}{e:Ex}{y:Str}{g:Int}
section
variable[Xw]
variable{K:ZHy}{k:PV->Prop}
variable{l1 l2:Bool}{t1 t2:OV}
theorem Mv.m2{E:Ent0}{Z:L2.St}{F H F' H' F2 H2:Hp}{d c:OV}(m:Mv E ss Z F H F' H')(b:Sf E ss (new d c) Z t1 t2 F' H' F2 H2):Sf E ss (new d c) Z t1 t2 F H F2 H2:=
 ⟨b.st,m.ff.trans b.ff,λa o np f e=>b.hh a o np f (m.hh a o np e),λa o e=>(b.nn a o e).elim (λe=>m.nn a o e) λe=>.inr (m.none e)⟩
theorem rB{c d:TT}{kk:Bool->OV->OV->Prop}(j:new t1 t2=ss)(h:Wt ss c λb=>if b=true then kk true t1 t2 else RC ss t1 t2 new d kk):RC ss t1 t2 new (OM c d) kk:=⟨λE Z F H Q S go=>
 h.go E Z F H _ S λb F1 H1 f z=>by
  cases b with
  |true=>
   rw[oM rfl]at z;exact go true t1 t2 F1 H1 ⟨by rw[j];exact f.st,f.ff,λa o np _ e=>f.hh a o np e,f.nn⟩ z
  |false=>
   rw[nr (by decide)]at z;exact z.go E Z F1 H1 _ f.st λb i g F2 H2 m2 k2=>go b i g F2 H2 (f.m2 m2) k2⟩
end
open Kz
noncomputable abbrev nP(n:Nat):PV:=.int n
noncomputable def Ft(a:Addr)(lo:Lo):OV:=.nd .lst a ((lo.map C9).map .fz)
noncomputable def Cp(tr:List Nat):List Key:=tr.map λu:Nat=>.inl (u:Int)
def Cz(a:Addr)(tr:List Nat):OV:=.nd (.B2 (Cp tr)) a (tr.map λ_=>.fz (.bl true))
noncomputable def D6(ab:Nat->List Nat)(m:Nat):PV:=.lst ((List.range m).map λv=>.lst ((ab v).map nP))
structure Cu (n:Nat) (ab:Nat->List Nat) (m v:Nat) (lo:Lo) (tr:List Nat):Prop where
 len:lo.length=m
 FK:m<=12
 lt:v<m
 ab:∀v u,u∈ab v->u<m
 lw:∀(u w:Nat),lo[u]?=some (some w)->w<m
 nd:tr.Nodup
 tl:∀z∈tr,z<m
 fuel:m<n+tr.length
def LK(n:Nat):Pre:=λl R=>∃(ab:Nat->List Nat)(m v:Nat)(lo:Lo)(s:Slot)(tr:List Nat)(a2:Addr),l=[.is (nP v),.is (D6 ab m),s,.ow true (Cz a2 tr)]/\Cu n ab m v lo tr/\
 ((
   ∃a1,s=.ow true (Ft a1 lo)/\R=.K4 λp t1 t2=>p=.bl (fu ab n v lo tr).1/\t1=Ft a1 (fu ab n v lo tr).2.1/\t2=Cz a2 (fu ab n v lo tr).2.2)∨
   (s=.is (.lst (lo.map C9))/\DQ ab v lo/\R=.mt λp t=>p=.bl false/\t=Cz a2 (fu ab n v lo tr).2.2))
theorem aq:∀ss R,¬ LK 0 ss R:=by
 rintro ss R⟨ab,m,v,lo,s,tr,a2,_,ok,_⟩;have q:=Lu (l2:=List.range m) ok.nd λx hx=>List.mem_range.mpr (ok.tl x hx);have:=ok.fuel;rw[Ep]at q;omega
theorem Cu.le{lo:Lo}(h:Cu n ab m v lo tr):tr.length<=12:=by
 have q:=Lu (l2:=List.range m) h.nd λx hx=>List.mem_range.mpr (h.tl x hx);have:=h.FK;rw[Ep]at q;omega
theorem Ny(ns:List Nat)(x:Nat):HR (Cp ns) (.inl (x:Int))=decide (x∈ns):=by
 unfold HR Cp;rw[List.any_map]
 by_cases h:x∈ns
 .rw[oW h];exact List.any_eq_true.mpr ⟨x,h,oW rfl⟩
 .rw[sX h];rw[ZGR];intro z;obtain⟨y,a,e⟩:=List.any_eq_true.mp z;have e:=pQ e;injection e with e
  exact h (Int.ofNat_inj.mp e▸a)
theorem ji{ns:List Nat}(h:ns.Nodup):(Cp ns).Nodup:=List.Pairwise.map _ (λa b(h:a≠b)=>λz=>h (by injection z with z;exact Int.ofNat_inj.mp z)) h
theorem RA{ns:List Nat}{us:List OV}{u:OV}(h:x∉ns):Jt (Cp ns) (.inl (x:Int))=Cp (ns++[x])/\Iz (Cp ns) us (.inl (x:Int)) u=us++[u]:=by
 unfold Iz Jt;have e:G8 (Cp ns) (.inl (x:Int))=none:=by
  have q:=QP (ks:=Cp ns) (key:=.inl (x:Int));rw[Ny,sX h]at q;cases e:G8 (Cp ns) (.inl (x:Int))with
  |none=>rfl
  |some j=>rw[e]at q;cases q
 rw[e,Ny,sX h];exact⟨by unfold Cp;rw[Dv];rfl,rfl⟩
theorem ZCh(h:x∉tr):OV.nd (.B2 (Jt (Cp tr) (.inl (x:Int)))) a (Iz (Cp tr) (tr.map λ_=>OV.fz (.bl true)) (.inl (x:Int)) (.fz (.bl true)))=Cz a (tr++[x]):=by
 rw[(RA (us:=[]) (u:=.fz .A8) h).1,(RA h).2];unfold Cz;rw[Dv];rfl
theorem Cu.at{lo:Lo}(h:Cu n ab m v lo tr):Bf ((List.range m).map λv=>PV.lst ((ab v).map nP)) (v:Int)=some (.lst ((ab v).map nP)):=Fl (by rw[Ah,ZS h.lt];rfl)
theorem dk{lo:Lo}(h:u∈tr):C5 ab n v (u::r) lo tr=C5 ab n v r lo tr:=by rw[C5,oM h]
theorem rD{lo:Lo}(h:u∉tr)(e:lo[u]?.join=none):C5 ab n v (u::r) lo tr=(true,lo.set u (some v),tr++[u]):=by rw[C5,nr h,e]
theorem ZAl{lo:Lo}(h:u∉tr)(e:lo[u]?.join=some w)(a:(fu ab n w lo (tr++[u])).1=true):C5 ab n v (u::r) lo tr=(true,(fu ab n w lo (tr++[u])).2.1.set u (some v),(fu ab n w lo (tr++[u])).2.2):=by
 rw[C5,nr h,e];dsimp only;cases q:fu ab n w lo (tr++[u])with
 |mk b x=>rw[q]at a;cases(show b=true from a);rfl
theorem lS{lo:Lo}(h:u∉tr)(e:lo[u]?.join=some w)(c:(fu ab n w lo (tr++[u])).1=false)(a:(fu ab n w lo (tr++[u])).2.1=lo):C5 ab n v (u::r) lo tr=C5 ab n v r lo (fu ab n w lo (tr++[u])).2.2:=by
 rw[C5,nr h,e];dsimp only;cases q:fu ab n w lo (tr++[u])with
 |mk b x=>
  rw[q]at c a;cases(show b=false from c);obtain⟨l,t⟩:=x;cases(show l=lo from a);rfl
theorem Cu.fin{lo:Lo}(h:Cu n ab m v lo tr)(c:(fu ab n v lo tr).1=false):(fu ab n v lo tr).2.1=lo/\(fu ab n v lo tr).2.2.Nodup/\(∀z∈(fu ab n v lo tr).2.2,z<m)/\tr.length<=(fu ab n v lo tr).2.2.length:=by
 have q:=Ly (ab:=ab) (lo:=lo) (λv u d=>h.len▸h.ab v u d) n v tr h.nd (λz a=>h.len▸h.tl z a) (h.len▸h.fuel);cases e:fu ab n v lo tr with
 |mk b x=>
  rw[e]at q c;cases(show b=false from c);obtain⟨l,t⟩:=x;exact⟨q.1,q.2.2.1,λz a=>h.len▸q.2.2.2.1 z a,q.2.2.2.2.1⟩
theorem Cu.yes{lo:Lo}(h:Cu n ab m v lo tr)(a:(fu ab n v lo tr).1=true):(fu ab n v lo tr).2.1.length=m:=by
 have q:=Ly (ab:=ab) (lo:=lo) (λv u d=>h.len▸h.ab v u d) n v tr h.nd (λz c=>h.len▸h.tl z c) (h.len▸h.fuel);cases e:fu ab n v lo tr with
 |mk b x=>
  rw[e]at q a;cases(show b=true from a);obtain⟨l,t⟩:=x;obtain⟨p,_,_,_,e⟩:=q;exact(sg List.length e).trans ((NS _ _ _).trans h.len)
theorem Cu.sub{lo:Lo}(h:Cu (n+1) ab m v lo tr)(b:u∈ab v)(c:u∉tr)(e:lo[u]?.join=some w):Cu n ab m w lo (tr++[u]):=
 ⟨h.len,h.FK,h.lw u w (Kz.join_some e),h.ab,h.lw,Vv h.nd c,λz a=>by
  rcases List.mem_append.mp a with a|a
  .exact h.tl z a
  .rw[List.mem_singleton.mp a];exact h.ab v u b,by have:=h.fuel;rw[BI,ZU];omega⟩
theorem Cu.next{lo:Lo}(h:Cu (n+1) ab m v lo tr)(k:Cu n ab m w lo (tr++[u]))(d:(fu ab n w lo (tr++[u])).1=false):Cu (n+1) ab m v lo (fu ab n w lo (tr++[u])).2.2:=by
 obtain⟨e,c,b,a⟩:=k.fin d;refine⟨h.len,h.FK,h.lt,h.ab,h.lw,c,b,?_⟩;have:=h.fuel;rw[BI,ZU]at a;omega
theorem ZGF{lo:Lo}(h:u<lo.length):∃o,(lo.map C9)[u]?=some (C9 o)/\lo[u]?.join=o/\lo[u]?=some o:=by
 refine⟨lo[u],?_,?_,Au h⟩
 .rw[Ah,Au h];rfl
 .rw[Au h];rfl
theorem oq(o:Option Nat):Q4 (C9 o)=o.isNone:=by cases o <;> rfl
theorem xQ{lo:Lo}:OV.nd .lst a ((((lo.map C9).set u (nP v))).map .fz)=Ft a (lo.set u (some v)):=by
 unfold Ft;rw[mH,mH,mH];rfl
theorem cL(h:l[i]?=some x):l.drop i=x::l.drop (i+1):=by
 obtain⟨hi,rfl⟩:=List.getElem?_eq_some_iff.mp h;exact TZ hi
theorem Cu.stuck{lo:Lo}(h:Cu n ab m v lo tr)(s:DQ ab v lo):(fu ab n v lo tr).1=false:=by
 have q:=Ly (ab:=ab) (lo:=lo) (λv u c=>h.len▸h.ab v u c) n v tr h.nd (λz a=>h.len▸h.tl z a) (h.len▸h.fuel);obtain⟨σ,f,g⟩:=s;cases e:fu ab n v lo tr with
 |mk b x=>
  cases b with
  |false=>rfl
  |true=>
   rw[e]at q;obtain⟨l,t⟩:=x;obtain⟨p,d,_⟩:=q;exact absurd d (DQ.no g f)
theorem ZDq{lo:Lo}(s:DQ ab v lo)(b:u∈ab v):∃w,lo[u]?.join=some w/\DQ ab w lo:=by
 obtain⟨σ,c,a⟩:=s;obtain⟨w,e,h⟩:=a u (c u b);exact⟨w,by rw[e];rfl,σ,h,a⟩
noncomputable def CU(ch:List Nat):PV:=.lst (ch.map nP)
theorem fM(a b:List Nat)(h:CU a=CU b):a=b:=by
 injection h with h
 induction a generalizing b with
 |nil=>cases b with
  |nil=>rfl
  |cons y b=>cases h
 |cons x a c=>cases b with
  |nil=>cases h
  |cons y b=>
   injection h with h1 h2
   injection h1 with h1
   rw[Int.ofNat_inj.mp h1,c b h2]
theorem vz(a:Addr)(T:List Nat):(Cz a T).pv=.B2 (Cp T) (T.map λ_=>.bl true):=by
 unfold Cz;rw[OV.pv,show(T.map λ_=>OV.fz (.bl true))=(T.map λ_=>PV.bl true).map .fz by rw[FJ];rfl,Z5]
theorem U9{α:Type}(g:α->PV)(h:∀x,Od (g x)=true):∀(l:List α),LY (l.map g)=true
 | []=>rfl
 |x::l=>by
  rw[D4];show(Od (g x) && LY (l.map g))=true;rw[h x,U9 g h l];rfl
structure ZD (ab:Nat->List Nat) (m:Nat):Prop where
 FK:m<=12
 ab:∀v u,u∈ab v->u<m
theorem ZCt(h:ZD ab m)(hi:i<m):Cu 13 ab m i (gp ab m 13 i) []:=by
 obtain⟨h1,h2,d,b,c⟩:=X4 h.ab (show m<13 by have:=h.FK;omega) i;exact⟨h1,h.FK,hi,h.ab,λu w e=>Tj (b w (Fp.mpr ⟨u,e⟩)) hi,.nil,λz a=>(by cases a),by have:=h.FK;simp;omega⟩
def jt:Pre:=λl R=>∃(ab:Nat->List Nat)(m:Nat),l=[.is (D6 ab m)]/\ZD ab m/\R=.new (·=(gp ab m 13 m).map C9)
def ak:Pre:=λl R=>∃(ch T:List Nat)(x:Nat)(r:List Nat),l=[.is (CU ch),.is (.B2 (Cp T) (T.map λ_=>.bl true))]/\ch.length<=12/\(ch.filter λy=>decide (y∉T))=x::r/\R=.is (·=nP x)
def PK(T ch:List Nat):Nat:=(ch.filter λy=>decide (y∉T)).headD 0
structure KC (ab:Nat->List Nat) (m:Nat) (lo:Lo) (chs:List (List Nat)):Prop where
 ok:ZD ab m
 len:lo.length=m
 lw:∀(u w:Nat),lo[u]?=some (some w)->w<m
 cl:chs.length<=12
 ch:∀ch∈chs,∃t r,ch=t::r/\t<m/\DQ ab t lo/\Dn lo t ch/\ch.length<=12
noncomputable def J4(ch:List Nat):Nat:=ch.headD 0
def dI:Pre:=λl R=>∃(ab:Nat->List Nat)(m:Nat)(lo:Lo)(chs:List (List Nat)),l=[.is (D6 ab m),.is (.lst (lo.map C9)),.is (.lst (chs.map CU))]/\KC ab m lo chs/\
 R=.new λxs=>∃A:List Nat,xs=A.map nP/\A.Perm (chs.map (PK (tryAll ab 13 lo (chs.map J4) [])))/\A.Pairwise (·<=·)
theorem fm(ab:Nat->List Nat)(n:Nat)(lo:Lo):∀(ts:List Nat)(t:Nat)(tr:List Nat),tryAll ab n lo (ts++[t]) tr=(fu ab n t lo (tryAll ab n lo ts tr)).2.2
 | [],t,tr=>rfl
 |s::ts,t,tr=>by
  show tryAll ab n lo (ts++[t]) (fu ab n s lo tr).2.2=(fu ab n t lo (tryAll ab n lo ts (fu ab n s lo tr).2.2)).2.2;exact fm ab n lo ts t _
theorem KC.at{lo:Lo}(h:KC ab m lo chs)(i:Nat):let T:=tryAll ab 13 lo ((chs.take i).map J4) [];T.Nodup/\(∀z∈T,z<m)/\Cl ab lo T/\∀t∈(chs.take i).map J4,∀u∈ab t,u∈T:=by
 have q:=gL (ab:=ab) (lo:=lo) (n:=13) (λv u b=>h.len▸h.ok.ab v u b) (by rw[h.len];have:=h.ok.FK;omega) ((chs.take i).map J4) [] (λt c=>by
  obtain⟨ch,d,rfl⟩:=List.mem_map.mp c;obtain⟨t,r,rfl,_,s,_⟩:=h.ch ch (ZX d);exact s) .nil (λz a=>by cases a) (λz a=>by cases a)
 refine⟨q.1,λz a=>?_,q.2.2.1,q.2.2.2⟩;obtain⟨w,e,_⟩:=q.2.2.1 z a;exact h.len▸(List.getElem?_eq_some_iff.mp e).1
theorem KC.fu{lo:Lo}(h:KC ab m lo chs){t:Nat}(a:t<m):Cu 13 ab m t lo (tryAll ab 13 lo ((chs.take i).map J4) []):=
 ⟨h.len,h.ok.FK,a,h.ok.ab,h.lw,(h.at i).1,(h.at i).2.1,by have:=h.ok.FK;omega⟩
theorem vM{β:Type}{f:α->β}{xs:List α}{x:α}(h:xs[i]?=some x):(xs.take (i+1)).map f=(xs.take i).map f++[f x]:=by
 obtain⟨hi,rfl⟩:=List.getElem?_eq_some_iff.mp h;rw[Pl hi,Dv];rfl
theorem KC.first{lo:Lo}(h:KC ab m lo chs)(a:ch∈chs):∃r,(ch.filter λy=>decide (y∉tryAll ab 13 lo (chs.map J4) []))=PK (tryAll ab 13 lo (chs.map J4) []) ch::r:=by
 have q:=h.at chs.length;rw[Gw]at q;obtain⟨t,r,rfl,_,_,d,_⟩:=h.ch ch a;obtain⟨x,b,e,_⟩:=tK q.2.2.1 d λu c=>q.2.2.2 t (List.mem_map.mpr ⟨t::r,a,rfl⟩) u c;exact⟨b,by unfold PK;rw[e];rfl⟩
structure Qd (m:Nat) (chs:List (List Nat)) (f:Nat->Nat):Prop where
 FK:m<=12
 nd:chs.flatten.Nodup
 all:∀n,n<m↔n∈chs.flatten
 at_:∀(k:Nat)ch,chs[k]?=some ch->∀n∈ch,f n=k
def lE:Pre:=λl R=>∃(ns:List Str)(Ls:List Lp)(chs:List (List Nat))(f:Nat->Nat),l=[.is (.lst (ns.map .str)),.is (.lst (Ls.map Lp.P)),.is (.lst (chs.map CU))]/\Qd Ls.length chs f/\
 R=.new (·=(Ls.zipIdx.map λp=>((f p.2:Int),(ns.length:Int) - (p.1.cs.length:Int))).map lZ)
def Ju(a:Addr)(f:Nat->Nat)(D:List Nat):OV:=.nd (.B2 (Cp D)) a ((D.map λn=>nP (f n)).map .fz)
theorem ra{k:Nat}(h:x∉D)(hk:f x=k):OV.nd (.B2 (Jt (Cp D) (.inl (x:Int)))) a (Iz (Cp D) ((D.map λn=>nP (f n)).map .fz) (.inl (x:Int)) (.fz (nP k)))=Ju a f (D++[x]):=by
 rw[(RA (us:=[]) (u:=.fz .A8) h).1,(RA h).2];unfold Ju;rw[Dv,Dv,<- hk];rfl
theorem valN:∀{D:List Nat}{f:Nat->Nat}{x:Nat},x∈D->Mg (Cp D) (D.map λn=>nP (f n)) (.inl (x:Int))=some (nP (f x))
 | [],_,_,h=>by cases h
 |d::D,f,x,h=>by
  show(if(Sum.inl (d:Int):Key)=.inl (x:Int)then some (nP (f d))else Mg (Cp D) (D.map λn=>nP (f n)) (.inl (x:Int)))=_
  by_cases c:d=x
  .subst c;rw[oM rfl]
  .rw[nr λz=>c (by injection z with z;exact Int.ofNat_inj.mp z)]
   exact valN ((List.mem_cons.mp h).resolve_left λz=>c z.symm)
theorem ZA2{k:Nat}(h:xs[k]?=some x):xs.take (k+1)=xs.take k++[x]:=by rw[List.take_add_one,h];rfl
theorem p5(a:Addr)(f:Nat->Nat)(D:List Nat):(Ju a f D).pv=.B2 (Cp D) (D.map λn=>nP (f n)):=by unfold Ju;rw[OV.pv,Z5]
theorem ZEB{p:Lp×Nat}(h:p∈Ls.zipIdx):Ls[p.2]?=some p.1:=List.mk_mem_zipIdx_iff_getElem?.mp h
theorem zJ(Ls:List Lp):Ji (Ls.map Lp.P)=Ls.zipIdx.map λa=>.tup [.int (a.2:Int),a.1.P]:=by
 apply ZQ;intro i;rw[Ah,List.getElem?_zipIdx];cases e:Ls[i]? with
 |none=>
  rw[Td (by rw[OT,AG];exact List.getElem?_eq_none_iff.mp e)];rfl
 |some l=>
  rw[VF (show(Ls.map Lp.P)[i]?=some l.P by rw[Ah,e];rfl)];simp
theorem ZD3{a b:Lp}(h:a.P=b.P):a=b:=by
 obtain⟨r,g,cs⟩:=a;obtain⟨c,d,Ts⟩:=b;have h:PV.tup [.str r,.int g,.tup (cs.map .str)]=.tup [.str c,.int d,.tup (Ts.map .str)]:=h;injection h with h
 injection h with h1 h
 injection h with h2 h
 injection h with h3 h
 injection h1 with h1
 injection h2 with h2
 injection h3 with h3
 rw[h1,Int.ofNat_inj.mp h2,ZGm (λ_ _ z=>by injection z) |>.mp h3]
theorem Qd.len(h:Qd m chs f):chs.flatten.length<=12:=by
 have q:=Lu (l2:=List.range m) h.nd λx hx=>List.mem_range.mpr ((h.all x).mpr hx);rw[Ep]at q;have:=h.FK;omega
theorem ZGG(h:chs[i]?=some ch)(hx:ch[j]?=some x):∃r,chs.flatten=((chs.take i).flatten++ch.take j)++x::r:=by
 obtain⟨hi,rfl⟩:=List.getElem?_eq_some_iff.mp h;obtain⟨a,rfl⟩:=List.getElem?_eq_some_iff.mp hx;refine⟨chs[i].drop (j+1)++(chs.drop (i+1)).flatten,?_⟩;have e1:chs=chs.take i++chs[i]::chs.drop (i+1):=by rw[<- TZ hi,ZZ]
 have c:chs[i]=chs[i].take j++chs[i][j]::chs[i].drop (j+1):=by rw[<- TZ a,ZZ]
 have b:chs.flatten=(chs.take i).flatten++(chs[i]++(chs.drop (i+1)).flatten):=by
  conv=>lhs;rw[e1,ZGc,ZGd]
 rw[b];exact(sg (λz=>(chs.take i).flatten++(z++(chs.drop (i+1)).flatten)) c).trans (by rw[Bm (List.take j _),ZM,Bm])
theorem ZCi(h:chs[i]?=some ch):(chs.take (i+1)).flatten=(chs.take i).flatten++ch:=by
 obtain⟨hi,rfl⟩:=List.getElem?_eq_some_iff.mp h;rw[Pl hi,ZGc];simp
def Cw(Ls:List Lp):Lo:=gp (ups Ls) Ls.length 13 Ls.length
theorem pL(e:Ls.length<=12)(c:∀l∈Ls,l.Good ns):Uq Ls:=⟨e,λa d=>Qi (show D1 ns a.r a.g a.cs from c a d).up,λa d b f h=>Ra (show D1 ns a.r a.g a.cs from c a d).up (show D1 ns b.r b.g b.cs from c b f).up h⟩
theorem k6(b:Ls.length<=12)(nz:ns.length<=40)(a:∀l∈Ls,l.Good ns):Pg Ls (Cw Ls)/\∀t∈Dr (Cw Ls),DQ (ups Ls) t (Cw Ls):=
 ZCf (pL b a) (λl c=>Be (D1.len (show D1 ns l.r l.g l.cs from a l c)) nz) (by omega)
theorem ZFM{lo:Lo}(d:Dn lo n ch):∃r,ch=n::r:=by cases d <;> exact⟨_,rfl⟩
theorem cP{n:Nat}:∀{chs:List (List Nat)},chs.flatten.Nodup->∀{i k:Nat}{a b:List Nat},chs[i]?=some a->chs[k]?=some b->n∈a->n∈b->i=k
 | [],_,_,_,_,_,h,_,_,_=>by cases h
 |c::chs,nd,i,k,a,b,ha,hb,na,nb=>by
  rw[ZGd]at nd;obtain⟨_,e,d⟩:=List.nodup_append.mp nd;cases i with
  |zero=>
   cases(show some c=some a from ha);cases k with
   |zero=>rfl
   |succ k=>exact absurd rfl (d n na n (List.mem_flatten.mpr ⟨b,C8 (show chs[k]?=some b from hb),nb⟩))
  |succ i=>
   cases k with
   |zero=>cases(show some c=some b from hb);exact absurd rfl (d n nb n (List.mem_flatten.mpr ⟨a,C8 (show chs[i]?=some a from ha),na⟩))
   |succ k=>exact sg (· + 1) (cP e (show chs[i]?=some a from ha) (show chs[k]?=some b from hb) na nb)
theorem p7{lo:Lo}(G:Pg Ls lo):∃c:Nat->List Nat,∀t,t<lo.length->Dn lo t (c t)/\(c t).length<=12/\(c t).Nodup/\∀x∈c t,x<lo.length:=by
 have b:∀t,Decidable (t<lo.length):=λ_=>inferInstance;have ex:∀t,t<lo.length->∃ch,Dn lo t ch/\ch.length<=12/\ch.Nodup/\∀x∈ch,x<lo.length:=λt a=>by
  obtain⟨ch,d,nd,h⟩:=d8 G.uq G.len G.fit _ t (Aa _) a;have q:=ZCp nd λx hx=>(h x hx).1;have:=G.uq.len;have:=G.len;exact⟨ch,d,by omega,nd,λx hx=>(h x hx).1⟩
 refine⟨λt=>if h:t<lo.length then Classical.choose (ex t h)else[],λt h=>?_⟩
 dsimp only;rw[dif_pos h];exact Classical.choose_spec (ex t h)
theorem ZBS{lo:Lo}(G:Pg Ls lo)(i:∀t,t<lo.length->Dn lo t (c t)/\(c t).length<=12/\(c t).Nodup/\∀x∈c t,x<lo.length):∃f,Qd Ls.length ((Dr lo).map c) f:=by
 have m:(Dr lo).Nodup:=List.Pairwise.filter _ List.nodup_range;have nd:((Dr lo).map c).flatten.Nodup:=by
  unfold List.Nodup;refine List.pairwise_flatten.mpr ⟨λl r=>?_,?_⟩
  .obtain⟨t,j,rfl⟩:=List.mem_map.mp r;exact(i t (IC.mp j).1).2.2.1
  .rw[ZY];unfold List.Nodup at m;refine List.Pairwise.imp_of_mem (λ{a b}p o Ab x hx y q e=>Ab ?_) m;subst e;exact vZ G (IC.mp p).2 (IC.mp o).2 (i a (IC.mp p).1).1 (i b (IC.mp o).1).1 _ x (Aa _) hx q
 refine⟨λn=>((Dr lo).map c).findIdx λch=>decide (n∈ch),G.uq.len,nd,λn=>⟨λh=>?_,λh=>?_⟩,λk ch hk n g=>?_⟩
 .obtain⟨t,h1,h2,ch,d,g⟩:=vw G _ n (Aa _) (G.len▸h);rw[Dn.uniq d (i t h1).1]at g;exact List.mem_flatten.mpr ⟨c t,List.mem_map.mpr ⟨t,IC.mpr ⟨h1,h2⟩,rfl⟩,g⟩
 .obtain⟨ch,Em,g⟩:=List.mem_flatten.mp h;obtain⟨t,j,rfl⟩:=List.mem_map.mp Em;exact G.len▸(i t (IC.mp j).1).2.2.2 n g
 .have s:=C8 hk;have h1:((Dr lo).map c).findIdx (λch=>decide (n∈ch))<((Dr lo).map c).length:=List.findIdx_lt_length_of_exists ⟨ch,s,oW g⟩;have h2:=List.findIdx_getElem (w:=h1);exact cP nd (Au h1) hk (pQ h2) g
theorem sA(b:Ls.length<=12)(nz:ns.length<=40)(f:∀l∈Ls,l.Good ns)(a:∀t,t<(Cw Ls).length->Dn (Cw Ls) t (c t)/\(c t).length<=12/\(c t).Nodup/\∀x∈c t,x<(Cw Ls).length):KC (ups Ls) Ls.length (Cw Ls) ((Dr (Cw Ls)).map c):=by
 obtain⟨G,st⟩:=k6 b nz f;refine⟨⟨b,λv u h=>(Tt.mp h).1⟩,G.len,λu w e=>?_,?_,λch Em=>?_⟩
 .obtain⟨_,_,e1,_⟩:=ZC (G.fit u w e);exact(List.getElem?_eq_some_iff.mp e1).1
 .rw[AG];have q:(Dr (Cw Ls)).length<=(List.range (Cw Ls).length).length:=ZGl _ _;have:=G.len;rw[Ep]at q;omega
 .obtain⟨t,d,rfl⟩:=List.mem_map.mp Em;have h1:=(IC.mp d).1;obtain⟨r,e⟩:=ZFM (a t h1).1;exact⟨t,r,e,G.len▸h1,st t d,(a t h1).1,(a t h1).2.1⟩
theorem fU{P:List Nat->List Str->Prop}:∀{chs:List (List Nat)}{ys:List PV},ys.length=(chs.map CU).length->(∀(j:Nat)x y,(chs.map CU)[j]?=some x->ys[j]?=some y->∀ch,x=CU ch->∃ms:List Str,y=.lst (ms.map .str)/\P ch ms)->
  ∃a:List (List Str),ys=a.map (λl=>PV.lst (l.map .str))/\∀(k:Nat)ch l,chs[k]?=some ch->a[k]?=some l->P ch l
 | [],[],_,_=>⟨[],rfl,λk ch l h=>by cases h⟩
 | [],_::_,h,_=>by cases h
 |_::_,[],h,_=>by cases h
 |ch::chs,y::ys,h,hP=>by
  obtain⟨a,rfl,q⟩:=fU (chs:=chs) (ys:=ys) (KP h) λj x y hx b=>hP (j+1) x y hx b;obtain⟨ms,rfl,p⟩:=hP 0 _ _ rfl rfl ch rfl;exact⟨ms::a,rfl,λk ch l h1 h2=>by
   cases k with
   |zero=>cases h1;cases h2;exact p
   |succ k=>exact q k ch l h1 h2⟩
def jC:Pre:=λl R=>∃(ns:List Str)(m:Nat),l=[.AD,.is (.lst (ns.map .str)),.is (.int m)]/\m<=12/\ns.length<=40/\ns.Nodup/\R=.new λxs=>∃Ls:List Lp,xs=Ls.map Lp.P/\Ls.length<=m/\∀l∈Ls,l.Good ns
theorem yo{f:α->Bool}{xs:List α}{x:α}(h:xs[i]?=some x)(hi:(xs.take i).all f=true):(xs.take (i+1)).all f=f x:=by
 obtain⟨a,rfl⟩:=List.getElem?_eq_some_iff.mp h;rw[Pl a,List.all_append,hi];simp
section
variable[Xw]
variable{K:ZHy}{ta tb:TE}{k:PV->Prop}
theorem nj(h:Wp ss ta λq=>flat q=true/\Wq ss tb λ_ xs=>xs.all flat=true/\k (.bl (!Iy (Fz.enc q) (xs.map Fz.enc)))):Wp ss (BE (FP K true) ta tb) k:=⟨λE Z F H Q S q=>
 h.go E Z F H _ S λv p F1 H1 a r⟨f,h2⟩=>by
  exact h2.go E Z F1 H1 _ a.st λv2 tp ys F2 H2 m2 sv⟨g,kk⟩=>by
   obtain⟨l,vs,rfl,b,c⟩:=sv.seq m2.st;rw[c.enc g]at b;rw[r.enc f];exact⟨l,_,rfl,(Ej.sq (K:=K) b).or,dh f,ZBy g,q _ _ F2 H2 (a.trans m2) (.bl _) kk⟩⟩
theorem Ye{tl th:TO}(h:Wq ss te λtp xs=>tp=true/\Wo ss tl λlo=>Wo ss th λhi=>k (.tup (Es xs lo hi))):Wp ss (U4 (jF K) te tl th) k:=⟨λE Z F H Q S q=>
 h.go E Z F H _ S λv tp xs F1 H1 d sv⟨n,h2⟩=>h2.go E Z F1 H1 _ d.st λlo F2 H2 m2 j=>j.go E Z F2 H2 _ m2.st λhi F3 H3 b kk=>by
  subst n;have f:=d.trans (m2.trans b);have g:Rep F3 v (.tup xs):=sv.mv (m2.trans b);obtain⟨l,vs,rfl,e,r⟩:=g.inv;refine⟨_,vs,rfl,Ax.of (b.st.fh _ _ e),λhw=>?_,λhw a i=>?_⟩
  .have m:Es xs lo hi=xs:=by
    rw[r.length]at hw;unfold Es;rw[hw.1,hw.2];simp
   rw[m]at kk;exact q _ _ F3 H3 f (.tup e r) kk
  .have c:=b.st.alloc i (.tup (KD vs lo hi));exact q _ _ _ _ (f.trans c) (.tup AV ((r.cut lo hi).mono c.ff)) kk⟩
end
def Mi:Pre:=λ_ _=>False
theorem ZG{P:Program}{w:World}{K:ZHy}{mg:ZI0}{Yd:Heap}{x qual:Str}{st:Stmt}{f:Addr}{fd:FuncData}{N ps:List Str}{k:Nat}(F:AE K x qual st f fd)(b:∀(kV a c:Value)(d:Option Addr)(AU ct:Value)(us:List Value),us.length=ps.length->bindArgs (PySem.W.fnOf x qual (II st) (DC st) (AI st) .none kV a c d AU ct) ⟨us,[]⟩=pure (ps.zip us))(m:mg x=some (.ref f))
  (S:Ap N ps (AI st)):AH P w K mg Yd x (k+1) ps (Af Mi):=
 AH.mk F (F.binds b) m (F.Gr S (λvs H Q E⟨_,_,_,_,h,_⟩=>h.elim) λAU A outer s H vs Q E e⟨_,_,_,_,h,_⟩=>h.elim)
open Kz in
theorem ZBk(lo:Lo):((List.range lo.length).filter λt:Nat=>!Iy (.int (t:Int)) ((lo.map C9).map Fz.enc))=Dr lo:=by
 unfold Dr;refine List.filter_congr λt _=>?_;have e:Iy (.int (t:Int)) ((lo.map C9).map Fz.enc)=decide (t∈lows lo):=by
  refine Bool.eq_iff_iff.mpr ?_;unfold Iy;rw[t6,NJ];constructor
  .rintro⟨p,a,e⟩;rw[FJ]at a;obtain⟨o,ho,rfl⟩:=List.mem_map.mp a;cases o with
   |none=>cases e
   |some w=>
    have e:((w:Int) == (t:Int))=true:=e;have e:=Int.ofNat_inj.mp (eq_of_beq e);subst e;exact List.mem_filterMap.mpr ⟨some w,ho,rfl⟩
  .intro h;obtain⟨u,b⟩:=Fp.mp h;exact⟨.int (t:Int),List.mem_map.mpr ⟨_,List.mem_map.mpr ⟨some t,C8 b,rfl⟩,rfl⟩,yN (t:Int)⟩
 rw[e,decide_not]
structure Lz where
 r:Str
 g:Int
 cs:List Str
variable{zs:List Lz}
def Lz.P(z:Lz):PV:=Nq z.r z.g z.cs
def Lz.ok(ns:List Str)(z:Lz):Bool:=Dg ns z.r z.g z.cs
structure Ir (ns:List Str) (zs:List Lz):Prop where
 nz:ns.length<=40
 nd:ns.Nodup
 zl:zs.length<=60
 cl:∀z∈zs,z.cs.length<64
def D0(CT CN:Addr)(ns:List Str)(zs:List Lz):Option Ex:=if 12<zs.length then some (G4 CT)else if zs.all (Lz.ok ns)then none else some (G4 CN)
theorem x9(h:12<zs.length):D0 CT CN ns zs=some (G4 CT):=oM h
theorem tX{z:Lz}(h:¬ 12<zs.length)(b:z∈zs)(a:Lz.ok ns z=false):D0 CT CN ns zs=some (G4 CN):=by
 unfold D0;rw[nr h,nr λe=>by rw[List.all_eq_true.mp e z b]at a;cases a]
theorem bK(h:¬ 12<zs.length)(e:zs.all (Lz.ok ns)=true):D0 CT CN ns zs=none:=by
 unfold D0;rw[nr h,oM e]
theorem jL{ns:List Str}:∀{zs:List Lz},zs.all (Lz.ok ns)=true->∃Ls:List Lp,zs.map Lz.P=Ls.map Lp.P/\Ls.length=zs.length/\∀l∈Ls,l.Good ns
 | [],_=>⟨[],rfl,rfl,λl h=>by cases h⟩
 |z::zs,h=>by
  obtain⟨h1,h2⟩:=Bool.and_eq_true_iff.mp (Ph (f:=Lz.ok ns)▸h);obtain⟨n,e,gd⟩:=VE h1;obtain⟨Ls,e1,c,b⟩:=jL h2;refine⟨⟨z.r,n,z.cs⟩ :: Ls,?_,by rw[BJ,BJ,c],λl a=>?_⟩
  .rw[D4,D4,e1]
   congr 1
   show Nq z.r z.g z.cs=_;rw[e];rfl
  .rcases List.mem_cons.mp a with rfl|h
   .exact gd
   .exact b l h
theorem RZ(h:D0 CT CN ns zs=none):∃Ls:List Lp,zs.map Lz.P=Ls.map Lp.P/\Ls.length<=12/\∀l∈Ls,l.Good ns:=by
 unfold D0 at h;split at h
 .cases h
 .split at h
  .next h1 h2=>
   obtain⟨Ls,e1,b,a⟩:=jL h2;exact⟨Ls,e1,by omega,a⟩
  .cases h
def OY(CT CN:Addr):En:=λl R D=>∃(tp:Bool)(ns:List Str)(a:Bool)(zs:List Lz),l=[.sq tp (ns.map .str),.sq a (zs.map Lz.P)]/\Ir ns zs/\(R=.is λ_=>D0 CT CN ns zs=none)/\D=λx=>D0 CT CN ns zs=some x
def cV(CT CN:Addr):En:=λl R D=>∃(ns:List Str)(zs:List Lz),l=[.is (.lst (ns.map .str)),.is (.lst (zs.map Lz.P))]/\Ir ns zs/\(R=.is λ_=>D0 CT CN ns zs=none)/\D=λx=>D0 CT CN ns zs=some x
def FN(CT CN CG:Addr)(ns:List Str)(zs:List Lz)(x y:Str):Option Ex:=match D0 CT CN ns zs with
 |some e=>some e
 |none=>if x∉ns then some (My CG x)else if y∉ns then some (My CG y)else none
def iC(CT CN CG:Addr):En:=λl R D=>∃(ns:List Str)(zs:List Lz)(x y:Str),l=[.is (.lst (ns.map .str)),.is (.lst (zs.map Lz.P)),.is (.str x),.is (.str y)]/\Ir ns zs/\HK x/\HK y/\(R=.is λ_=>FN CT CN CG ns zs x y=none)/\D=λe=>FN CT CN CG ns zs x y=some e
def ae(T:Addr)(pos:Pos)(CT CN:Addr):En:=λl R D=>∃(ns:List Str)(zs:List Lz),l=[.raw (Di T pos ns),.is (.lst (zs.map Lz.P))]/\Ir ns zs/\(R=.is λ_=>D0 CT CN ns zs=none)/\D=λx=>D0 CT CN ns zs=some x
def jN(CT CN:Addr):En:=λl R D=>∃(ns:List Str)(zs:List Lz),l=[.is (.lst (ns.map .str)),.is (.lst (zs.map Lz.P)),.is (.lst []),.is (.lst []),.is (.lst [])]/\Ir ns zs/\(R=.is λ_=>D0 CT CN ns zs=none)/\D=λx=>D0 CT CN ns zs=some x
def iU:Pre:=λl R=>∃(ns:List Str),l=[.is (.lst (ns.map .str)),.is (.lst [])]/\R=.is λp=>∃b,p=.bl b
def kK:Pre:=λl R=>∃(Ls:List Lp),l=[.is (.lst (Ls.map Lp.P)),.is (.lst []),.is (.lst [])]/\R=.is λp=>∃b,p=.bl b
def da:Pre:=λl R=>∃(Ls:List Lp),l=[.is (.lst (Ls.map Lp.P)),.is (.lst []),.is (.lst [])]/\R=.is λp=>∃b,p=.bl b
def GP(CT CN CG:Addr)(w:Nat)(ns:List Str)(zs:List Lz)(x y:Str):Option Ex:=if w=3 then FN CT CN CG ns zs x y else D0 CT CN ns zs
def gF(T:Addr)(pos:Pos)(CT CN CG:Addr):En:=λl R D=>∃(w:Nat)(ns:List Str)(zs:List Lz)(x y:Str),l=[.is (.int w),.raw (Di T pos ns),.is (.lst (zs.map Lz.P)),.is (.str x),.is (.str y)]/\w<4/\Ir ns zs/\HK x/\HK y/\(R=.is λ_=>GP CT CN CG w ns zs x y=none)/\D=λe=>GP CT CN CG w ns zs x y=some e
noncomputable def cx:Option Ex->PV
 |none=>.A8
 |some e=>.exc e.C e.ns e.xs
theorem aR(h:D0 CT CN ns zs=some e):e=G4 CT∨e=G4 CN:=by
 unfold D0 at h;split at h
 .exact .inl (BG h).symm
 .split at h
  .cases h
  .exact .inr (BG h).symm
theorem yO{x:Str}(h:GP CT CN CG w ns zs x y=some e):e=G4 CT∨e=G4 CN∨∃z,e=My CG z:=by
 unfold GP FN at h;split at h
 .split at h
  .next h2=>rw[<- BG h];exact(aR h2).imp id .inl
  .split at h
   .exact .inr (.inr ⟨x,(BG h).symm⟩)
   .split at h
    .exact .inr (.inr ⟨y,(BG h).symm⟩)
    .cases h
 .exact(aR h).imp id .inl
def gj(T:Addr)(pos:Pos)(CT CN CG:Addr):Pre:=λl R=>∃(w:Nat)(ns:List Str)(zs:List Lz)(x y:Str),l=[.is (.int w),.raw (Di T pos ns),.is (.lst (zs.map Lz.P)),.is (.str x),.is (.str y)]/\w<4/\Ir ns zs/\HK x/\HK y/\R=.is λp=>p=cx (GP CT CN CG w ns zs x y)
inductive JB (CT CN CG:Addr):Option Ex->PV->Prop
 |none:JB CT CN CG none .A8
 |many:JB CT CN CG (some (G4 CT)) (.tup [.int 10,.str ""])
 |bad:JB CT CN CG (some (G4 CN)) (.tup [.int 11,.str ""])
 |gone (x:Str):JB CT CN CG (some (My CG x)) (.tup [.int 2,.str x])
def aa(CT CN CG:Addr):Pre:=λl R=>∃(o:Option Ex)(d:PV),l=[.is (cx o),.is d]/\JB CT CN CG o d/\R=.is λp=>p=.bl true
noncomputable def fo:List Str->PV
 | []=>.A8
 |a::_=>.tup [.int 2,.str a]
def Mf(bad:Bool)(n:Nat)(ns:List Str)(x y:Str):PV:=if 12<n then .tup [.int 10,.str ""]else if bad then .tup [.int 11,.str ""]else fo ([x,y].filter λz=>decide (z∉ns))
def hU:Pre:=λl R=>∃(bad:Bool)(ns:List Str)(zs:List Lz)(x y:Str),l=[.is (.bl bad),.is (.lst (zs.map Lz.P)),.is (.lst (ns.map .str)),.is (.str x),.is (.str y)]/\ns.length<=60/\R=.is λp=>p=Mf bad zs.length ns x y
def eI:Pre:=λl R=>∃(ns:List Str),l=[.AD,.is (.lst (ns.map .str))]/\ns.length<=40/\(∀x∈ns,Nm x)/\R=.is λp=>∃x:Str,p=.str x/\HK x
def gu:Pre:=λl R=>∃(ns:List Str)(L:Lp),l=[.AD,.is (.lst (ns.map .str)),.is L.P]/\ns.length<=40/\(∀x∈ns,Nm x)/\L.Good ns/\R=.is λp=>∃z:Lz,p=z.P/\z.cs.length<64/\z.ok ns=false
theorem eO:∀{ys:List PV}{P:Lp->Prop},(∀y∈ys,∃l:Lp,y=l.P/\P l)->∃Ls:List Lp,ys=Ls.map Lp.P/\∀l∈Ls,P l
 | [],_,_=>⟨[],rfl,λl h=>by cases h⟩
 |y::ys,P,h=>by
  obtain⟨l,rfl,b⟩:=h y B1;obtain⟨Ls,rfl,hL⟩:=eO λy a=>h y (BM _ a);refine⟨l::Ls,rfl,λk hk=>?_⟩;rcases List.mem_cons.mp hk with rfl|h
  .exact b
  .exact hL k h
noncomputable def Lp.z(l:Lp):Lz:=⟨l.r,(l.g:Int),l.cs⟩
theorem fi(Ls:List Lp):(Ls.map Lp.z).map Lz.P=Ls.map Lp.P:=by rw[FJ];rfl
theorem fF(h:∀l∈Ls,l.Good ns):(Ls.map Lp.z).all (Lz.ok ns)=true:=List.all_eq_true.mpr λz a=>by
 obtain⟨l,b,rfl⟩:=List.mem_map.mp a;exact ZBa (h l b)
theorem pd{bad:Bool}{x:Str}(b:zs.all (Lz.ok ns)=!bad):JB CT CN CG (D0 CT CN ns zs) (Mf bad zs.length (ns++[x,y]) x y):=by
 unfold D0 Mf
 by_cases c:12<zs.length
 .rw[oM c,oM c];exact .many
 .rw[nr c,nr c,b];cases bad with
  |true=>exact .bad
  |false=>
   have e:([x,y].filter λz=>decide (z∉ns++[x,y]))=[]:=List.filter_eq_nil_iff.mpr λz a=>by simp only[KO,a,or_true,not_true_eq_false,decide_false];decide
   rw[e];exact .none
theorem xR{bad:Bool}{x:Str}(b:zs.all (Lz.ok ns)=!bad):JB CT CN CG (FN CT CN CG ns zs x y) (Mf bad zs.length ns x y):=by
 unfold FN D0 Mf
 by_cases c:12<zs.length
 .rw[oM c,oM c];exact .many
 .rw[nr c,nr c,b];cases bad with
  |true=>exact .bad
  |false=>
   show JB CT CN CG (if x∉ns then _ else _) (fo _)
   by_cases hx:x∈ns
   .rw[nr λz=>z hx,m9 (by rw[sX λz=>z hx];decide)]
    by_cases a:y∈ns
    .rw[nr λz=>z a,m9 (by rw[sX λz=>z a];decide)];exact .none
    .rw[oM a,mB (p:=λz=>decide (z∉ns)) (oW a)];exact .gone y
   .rw[oM hx,mB (p:=λz=>decide (z∉ns)) (oW hx)];exact .gone x
theorem oV{r:Str}(h:LB r=false):Dg ns r g cs=false:=by unfold Dg;rw[h,TV]
theorem nA{r:Str}(h:¬ (0<=g/\g<=ns.length)):Dg ns r g cs=false:=by
 cases e:Dg ns r g cs with
 |false=>rfl
 |true=>
  obtain⟨n,rfl,gd⟩:=VE e;exact absurd ⟨gd.g0,gd.g1⟩ h
theorem UO{r:Str}(h:¬ (Up cs/\∀x∈cs,x∈ns)):Dg ns r g cs=false:=by
 cases e:Dg ns r g cs with
 |false=>rfl
 |true=>
  obtain⟨n,rfl,gd⟩:=VE e;exact absurd ⟨gd.up,gd.sub⟩ h
theorem qM{a b:Str}(h:Up (a::b::t)):¬ Up (b::t++[a]):=λu=>by
 have e:=Ra u h λk=>by simp only[KO,Ec,BF,yp];exact⟨λz=>z.elim .inr .inl,λz=>z.elim .inr .inl⟩
 injection e with e _
 subst e;have:=Qi h;simp at this
structure Zi (ns:List Str) (j:Nat) (zs:List Lz):Prop where
 l:zs.length<=40+j
 cl:∀z∈zs,z.cs.length<64
 b:0<j->∃z∈zs,z.ok ns=false
theorem Zi.start(h:Ms.length<=40)(g:∀l∈Ms,l.Good ns)(c:ns.length<=40):Zi ns 0 (Ms.map Lp.z):=
 ⟨by rw[AG];exact h,λz a=>by
  obtain⟨l,b,rfl⟩:=List.mem_map.mp a;have:=D1.len (show D1 ns l.r l.g l.cs from g l b);show l.cs.length<64;omega,λh=>absurd h (by decide)⟩
theorem Zi.put{k:Nat}{z:Lz}(I:Zi ns j zs)(b:z.cs.length<64)(c:z.ok ns=false):Zi ns (j+1) (zs.take k++[z]++zs.drop (k+1)):=by
 have l:=I.l;refine⟨?_,λy a=>?_,λ_=>⟨z,by simp,c⟩⟩
 .simp only[BI,Fg,IM,BJ,Pk];omega
 .rcases List.mem_append.mp a with h|h
  .rcases List.mem_append.mp h with h|h
   .exact I.cl y (ZX h)
   .rw[List.mem_singleton.mp h];exact b
  .exact I.cl y (mI h)
theorem Zi.xy(I:Zi ns j zs)(h:0<j/\j<=m):Zi ns m zs:=⟨Be I.l (by omega),I.cl,λ_=>I.b h.1⟩
theorem Zi.bad(I:Zi ns j zs)(h:0<j):zs.all (Lz.ok ns)=false:=by
 obtain⟨z,c,a⟩:=I.b h;rw[ZGR];intro e;rw[List.all_eq_true.mp e z c]at a;cases a
def iX(C:Addr):En:=λl R D=>∃(ns:List Str)(x:Str),l=[.sq false (ns.map .str),.is (.str x)]/\HK x/\(R=.is λp=>x∈ns)/\D=λe=>x∉ns/\e=My C x
end Fz
set_option maxHeartbeats 8000000
namespace Pf
open L2 Lw
variable{w:World}{mg:ZI0}{Yd h:Heap}{AS AW Ac C0 EA EB EG EH EJ EL EM EO ET EU EW EX EY Jy Rh T c cT f:Addr}{ZAh fd:FuncData}{α:Type}{XE:Tok}{l:PySem.W.OpenLaw}
abbrev St:=L2.St
noncomputable def top(i:Nat):Stmt:=PySem.Challenge.pw_stirround_k43_loops_refused.main.body.getD i (.Pass ⟨0,0,0,0⟩)
abbrev YK:Stmt:=top 53
abbrev V0:Stmt:=top 54
abbrev WH:Stmt:=top 55
abbrev Vx:Stmt:=top 56
abbrev W6:Stmt:=top 57
abbrev YH:Stmt:=top 58
abbrev YB:Stmt:=top 60
abbrev Qe:Stmt:=top 61
abbrev Yr:Stmt:=top 65
abbrev Q0:Stmt:=top 66
abbrev Xu:Stmt:=top 59
abbrev Vw:Stmt:=top 67
abbrev WB:Stmt:=top 64
abbrev Wf:Stmt:=top 20
abbrev Rq:Stmt:=top 27
abbrev Ym:Stmt:=top 24
abbrev YO:Stmt:=top 25
abbrev Y2:Stmt:=top 26
abbrev WJ:Stmt:=top 19
abbrev Vo:Stmt:=top 30
abbrev SV:Stmt:=top 31
abbrev Q3:Stmt:=top 32
abbrev RO:Stmt:=top 29
abbrev Sb:Stmt:=top 41
abbrev R7:Stmt:=top 40
abbrev W9:Stmt:=top 36
abbrev Ud:Stmt:=top 38
abbrev SX:Stmt:=top 39
abbrev Xd:Stmt:=top 42
abbrev BN:Stmt:=top 43
abbrev Qz:Stmt:=top 44
abbrev QK:Stmt:=top 46
abbrev Rk:Stmt:=top 45
abbrev MW:Stmt:=top 34
abbrev R5:Stmt:=top 47
abbrev fX:Stmt:=top 49
abbrev Rr:Stmt:=top 48
abbrev iL:Stmt:=top 37
abbrev bE:Stmt:=top 51
abbrev Nl:Stmt:=top 50
abbrev Z3:Stmt:=top 35
abbrev UN:Stmt:=top 62
abbrev UP:Stmt:=top 63
abbrev LF:Stmt:=top 68
variable{P:Program}{K:ZHy}
def fO{us:List α}(h:us.length=1):∃a,us=[a]:=by
 rcases us with _|⟨a,_|⟨b,us⟩⟩
 .cases h
 .exact⟨a,rfl⟩
 .cases h
def ln2{us:List α}(h:us.length=2):∃a b,us=[a,b]:=by
 rcases us with _|⟨a,us⟩
 .cases h
 .obtain⟨b,rfl⟩:=fO (KP h);exact⟨a,b,rfl⟩
def l4{us:List α}(h:us.length=3):∃a b c,us=[a,b,c]:=by
 rcases us with _|⟨a,us⟩
 .cases h
 .obtain⟨b,c,rfl⟩:=ln2 (KP h);exact⟨a,b,c,rfl⟩
def k8{us:List α}(h:us.length=4):∃a b c d,us=[a,b,c,d]:=by
 rcases us with _|⟨a,us⟩
 .cases h
 .obtain⟨b,c,d,rfl⟩:=l4 (KP h);exact⟨a,b,c,d,rfl⟩
def bb{us:List α}(h:us.length=5):∃a b c d e,us=[a,b,c,d,e]:=by
 rcases us with _|⟨a,us⟩
 .cases h
 .obtain⟨b,c,d,e,rfl⟩:=k8 (KP h);exact⟨a,b,c,d,e,rfl⟩
def qC{us:List α}(h:us.length=6):∃a b c d e f,us=[a,b,c,d,e,f]:=by
 rcases us with _|⟨a,us⟩
 .cases h
 .obtain⟨b,c,d,e,f,rfl⟩:=bb (KP h);exact⟨a,b,c,d,e,f,rfl⟩
local macro_rules | `(tactic| walk_at "bD1")=>`(tactic| (intro _ _ _ _ _ _ us hl;obtain⟨_,e⟩:=fO hl;subst e;rfl))
local macro_rules | `(tactic| walk_at "bD2")=>`(tactic| (intro _ _ _ _ _ _ us hl;obtain⟨_,_,e⟩:=ln2 hl;subst e;rfl))
local macro_rules | `(tactic| walk_at "bD3")=>`(tactic| (intro _ _ _ _ _ _ us hl;obtain⟨_,_,_,e⟩:=l4 hl;subst e;rfl))
local macro_rules | `(tactic| walk_at "bD4")=>`(tactic| (intro _ _ _ _ _ _ us hl;obtain⟨_,_,_,_,e⟩:=k8 hl;subst e;rfl))
local macro_rules | `(tactic| walk_at "bD5")=>`(tactic| (intro _ _ _ _ _ _ us hl;obtain⟨_,_,_,_,_,e⟩:=bb hl;subst e;rfl))
local macro_rules | `(tactic| walk_at "bD6")=>`(tactic| (intro _ _ _ _ _ _ us hl;obtain⟨_,_,_,_,_,_,e⟩:=qC hl;subst e;rfl))
abbrev nS(K:ZHy)(x:Str)(v:Value):Prop:=PySem.W.nsIn K mainGlobals x=some (some v)
abbrev nN(K:ZHy)(x:Str):Prop:=PySem.W.nsIn K mainGlobals x=some none
abbrev VO:Stmt:=ZEt (top 4)
local macro_rules | `(tactic| walk_at "z1")=>`(tactic| exact⟨rfl,rfl,rfl,by decide +kernel,rfl,by decide +kernel,by decide +kernel⟩)
local macro_rules | `(tactic| walk_at "z2")=>`(tactic| exact⟨rfl,by decide +kernel,by decide +kernel,rfl,rfl,by decide +kernel,by decide +kernel,by decide +kernel,by decide +kernel⟩)
def uG:Ap ["self","name"] ["self","name"] (AI VO):=by walk_at "z1"
def ZCl{C S:Addr}(F:AE K "__init__" "Gone.__init__" VO f fd)(bd:Binds K fd ["self","name"] [])(c:Nn K C f "name")(a:aG K S)(b:mg "StirError"=some (.ref S)):YQ P w K mg Yd C "name" := by
 refine⟨f,fd, "name", c,F.ok (k:=0) uG ZFz (λAU A outer s H vs Q E d h=>?_),bd⟩;refine⟨_,?_,ZFS (N:=["self","name"]) rfl h⟩;exact XJ (j9 (ZD8 (S:=S) a (by rfl) b c.ex (Wu (pv 0) (Wu (oK (pv 1) (by decide)) d4)))) (XJ (xI c (pv 0) (pv 1) rfl) Zp)
open Fz
def ZWM(t:String):Lean.MacroM (Lean.TSyntax `tactic):=do
 let g:Lean.TSyntax `tactic←`(tactic| fail)
 let k←`(tactic| case wk=>rfl)
 let n (s:String):=`(tactic| walk_at $(Lean.quote s):str)
 (t.splitOn " ").foldrM (λs r=>do
  let l:=((s.drop 1).toString.splitOn "/").map λx=>Lean.mkIdent (`Fz++x.toName)
  let h:Lean.Ident:=l.getLast!
  let c:=s.front
  let w:=(h.getId.getString!.toLower.replace "o" "e").replace "i" "e"
  let z←if c=='j' then `($h ?wj ?wk ?_)else if c=='k'||c=='K' then `($h ?wk ?_)else `($h ?_)
  let z←l.dropLast.foldrM (λ(f:Lean.Ident)(z:Lean.Term)=>`($f ($z))) z
  let p←if c=='e' then `(tactic| show ∃_,_=$h _/\_)else if c=='s' then `(tactic| show $h _ _ _)else `(tactic| refine' $z)
  let p←if c=='K'||c=='R'||c=='j' then pure p else `(tactic| with_reducible $p:tactic)
  let q←if c=='e' then `(tactic| refine⟨_,rfl,?_⟩)else if c=='s' then n w else if c=='n' then n "wn" else if c=='p' then n "wp" else if c=='k'||c=='K' then pure k else if c=='j' then `(tactic| ((case wj=>rfl);$k:tactic))else `(tactic| skip)
  `(tactic| first|($p:tactic;$q:tactic) | $r:tactic)) g
local macro_rules | `(tactic| walk_at "wp")=>ZWM "kMV/QB/HB kMV/Ni/HB kMV/QB/QB/HB kMV/Ni/Ni/HB kMV/Ni/QB/HB kZBD kVu kA7 rCQ rsD rGO rEE rZCs rbg rdN rQ7 ryd rHt rqV rcw rjV rfN kZES rKr rGW rNx rZCn ruF rGY rxP riR knV rud rYi KpW Kux KSK Ki5 KU8"
local macro_rules | `(tactic| walk_at "wn")=>ZWM "rMx rlO rkD RxB KQC jZBX"
local macro_rules | `(tactic| walk_at "wq")=>do
 let z←ZWM "kKm kMb kBj kJ6"
 `(tactic| first | $z:tactic|(refine D3 (CC ?_);walk_at "wn")|(refine D3 ?_;walk_at "wp"))
local macro_rules | `(tactic| walk_at "wz")=>`(tactic| first
 | ((with_reducible refine' XH ?wk ?_);(case wk=>rfl))
 | (refine DG (CC ?_);walk_at "wn")
 | (refine DG ?_;walk_at "wp"))
local macro_rules | `(tactic| walk_at "wt")=>ZWM "rD9 rIF rGy rLx rP5 rKU"
local macro_rules | `(tactic| walk_at "we")=>ZWM "rBz rE8 rQl rMN rO8 rEf"
local macro_rules | `(tactic| walk_at "w")=>do
 let z←ZWM "rB0 rEk rD8 rBU kjo kjc kqX nFx pKG kRB nNA pBq"
 let z1←ZWM "eOV.tp eOV.fz"
 let z2←ZWM "edP"
 let z3←ZWM "sWn sWq sWz sWt sWe sWo sWi"
 let z4←ZWM "ePV.int ePV.str ePV.bl"
 `(tactic| first | $z1:tactic|((with_reducible show ∃_ _,_=OV.nd NK.lst _ _/\_);refine⟨_,_,rfl,?_⟩)|((with_reducible show ∃_ _ _,_=PV.int _/\_/\_/\_);refine⟨_,_,_,rfl,rfl,rfl,?_⟩)|((with_reducible show ∃_ _ _,_=PJ _ _ _/\_);refine⟨_,_,_,rfl,?_⟩) | $z2:tactic|((with_reducible show Wp _ _ _);first|walk_at "wp" | (refine CC ?_;walk_at "wn")) | $z3:tactic|((with_reducible show Ws _ _ _ _);$z:tactic) | $z4:tactic|((with_reducible show(_:Bool)=_/\_);refine⟨rfl,?_⟩)|((with_reducible show ∃_ _,_=PV.int _/\L2.Bf _ _=some _/\_);refine⟨_,_,rfl,rfl,?_⟩)|((with_reducible show ∃_,(_=PV.lst _/\_)∨(_=PV.tup _/\_));first|refine⟨_,.inl ⟨rfl,?_⟩⟩|refine⟨_,.inr ⟨rfl,?_⟩⟩)|((with_reducible show ∃_,_=List.map _ _/\_);first|refine⟨_,rfl,?_⟩|refine⟨[],rfl,?_⟩|refine⟨_,ZA0 _ _,?_⟩))
local macro_rules | `(tactic| walk_at "ww")=>`(tactic| repeat walk_at "w")
def Ou:Ap ["script","k","cell","rest_here"] ["script","k"] (AI YK):=by walk_at "z1"
variable(Ad:mg "len"=none)(Om:AH P w K mg Yd "_law_letters" 1 ["number"] (eU))(BC:AH P w K mg Yd "_law_take" 1 ["pot","many"] (Hn))(IW:AH P w K mg Yd "_law_name" 2 ["pot","names"] (Mw K))(DH:mg "range"=none)(YE:AH P w K mg Yd "_law_names" 3 ["pot","many"] (bj))(Cc:mg "sorted"=none)(Gm:mg "tuple"=none)(Kv:AH P w K mg Yd "_law_some_loop" 2 ["pot","row"] (RQ))(W7:mg "ValueError"=none)(DT:mg "isinstance"=none)(Vj:mg "Endless"=some (.ref EG))(Uw:mg "Full"=some (.ref EM))(Mp:mg "Gone"=some (.ref Ac))(XF:mg "NoLog"=some (.ref EB))(Mz:mg "NoLoop"=some (.ref AS))(Yp:mg "NoName"=some (.ref EU))(WQ:mg "NoOrders"=some (.ref EH))(Ur:mg "NoPlace"=some (.ref EO))(VU:mg "NoRow"=some (.ref ET))(VM:mg "NoRule"=some (.ref EW))(Vy:mg "NoText"=some (.ref EA))(Yc:mg "NoTicket"=some (.ref EY))(Yn:mg "NoWhere"=some (.ref EL))(Ux:mg "Stale"=some (.ref EJ))(L5:mg "StirError"=some (.ref C0))(V2:mg "There"=some (.ref EX))(N9:mg "TooMany"=some (.ref AW))(VP:AH P w K mg Yd "_law_alone" 1 ["e","place"] (Af (cD K [EU,EX,Ac,EO,EW,EB,EJ,EL,EA,EM,AW,AS,EY,EG,EH,ET] C0)))(Md:Jc K [EU,EX,Ac,EO,EW,EB,EJ,EL,EA,EM,AW,AS,EY,EG,EH,ET] C0 Ac 2=true)(PQ:Jc K [EU,EX,Ac,EO,EW,EB,EJ,EL,EA,EM,AW,AS,EY,EG,EH,ET] C0 AW 10=true)(OW:Jc K [EU,EX,Ac,EO,EW,EB,EJ,EL,EA,EM,AW,AS,EY,EG,EH,ET] C0 AS 11=true)(Vc:PySem.W.findIn K (.ref Ac) "name"=some none)(hd2:PySem.W.hasDictIn K Ac=true)(Gq:mg "all"=none)(JH:mg "list"=none)(G0:mg "set"=none)(Y7:AH P w K mg Yd "is_coming" 1 ["row","coming"] (Af d6))(Vz:AH P w K mg Yd "is_gap" 1 ["row","gap"] (Af lK))(Xz:mg "RULES"=some (.ref Jy))(V1:∀H,Ax K H Jy [.str "none",.str "ahead",.str "all"])(Yh:AH P w K mg Yd "is_loop" 2 ["row","thing"] (Af eR))(XN:HL K AS none=true)(UK:CS P w K mg Yd "check_loop" 3 ["row","loop"] (Ct (gi AS)))(WA:mg "MOST_LOOPS"=some (.int 12 XE))(YT:HL K AW none=true)(Xr:YQ P w K mg Yd Ac "name")(Gn:CS P w K mg Yd "check_loops" 4 ["row","loops"] (Ct (OY AW AS)))(Qo:CS P w K mg Yd "place_of" 3 ["row","name"] (Ct (iX Ac)))(Kt:mg "enumerate"=none)(MO:mg "zip"=none)(Yv:AH P w K mg Yd "key_of" 1 ["row","numbers","loop"] (Af i9))(Y0:AH P w K mg Yd "numbers_of" 1 ["row","loops"] (Af lN))(Yk:AH P w K mg Yd "has_all_of" 1 ["loop","other"] (Af bo))(YY:AH P w K mg Yd "is_above" 2 ["loops","number","upper"] (Af iG))(Kl:fd.code=.ref c)(hC:PySem.W.codeHdIn K c T=true)(bA:Yd.BuiltinsAt mg T)(Ic:mainGlobals≠T)(VZ:AH P w K mg Yd "uppermost_untried" 1 ["chain","tried"] (Af ak))(XX:AH P w K mg Yd "apart_of" 15 ["above","lower_of","chains"] (Af dI))(UC:AH P w K mg Yd "chain_down" 1 ["lower_of","top"] (Af jx))(XC:AH P w K mg Yd "greatest_pairing" 15 ["above"] (Af jt))(Vh:AH P w K mg Yd "line_of" 3 ["row","loops","chain"] (Af (jv T (Bh BN))))(U3:AH P w K mg Yd "numbers_above" 3 ["loops","number"] (Af bp))(Yo:AH P w K mg Yd "seats_of" 1 ["row","loops","chains"] (Af lE))(Xn:AH P w K mg Yd "is_seat" 1 ["lines","loop","seat"] (Af Mi))(XI:AH P w K mg Yd "fits_a_later_one" 3 ["loops","number","apart"] (Af Mi))(Wr:mg "any"=none)(YU:AH P w K mg Yd "are_apart" 4 ["loops","lines","apart"] (Af da))(Yt:AH P w K mg Yd "are_lines" 1 ["row","lines"] (Af iU))(XS:AH P w K mg Yd "are_seats" 2 ["loops","lines","seats"] (Af kK))(U0:CS P w K mg Yd "brands" 5 ["row","loops"] (Ct (cV AW AS)))(Xt:CS P w K mg Yd "lines_judged" 6 ["row","loops","lines","seats","apart"] (Ct (jN AW AS)))(Uh:CS P w K mg Yd "lines_of" 16 ["row","loops"] (Ct (ae T (Bh BN) AW AS)))(Tx:CS P w K mg Yd "parting_loop" 5 ["row","loops","one","other"] (Ct (iC AW AS Ac)))(Xc:CS P w K mg Yd "_law_ask" 17 ["way","row","loops","one","other"] (Ct (gF T (Bh BN) AW AS Ac)))(Xm:PySem.W.exmOne K (.ref Ac) (.ref C0)=some true)(Vp:PySem.W.exmOne K (.ref AW) (.ref C0)=some true)(VD:PySem.W.exmOne K (.ref AS) (.ref C0)=some true)(SI:AH P w K mg Yd "_law_due" 1 ["bad","loops","row","one","other"] (Af hU))(VW:AH P w K mg Yd "_law_loops" 3 ["pot","row","most"] (Af jC))(WL:AH P w K mg Yd "_law_pot" 1 ["script","k"] (WM K))(VQ:AH P w K mg Yd "_law_right" 2 ["found","due"] (Af (aa AW AS Ac)))(ZE:AH P w K mg Yd "_law_row" 4 ["pot","most"] (Us))(Rw:AH P w K mg Yd "_law_said" 18 ["way","row","loops","one","other"] (Af (gj T (Bh BN) AW AS Ac)))(XT:AH P w K mg Yd "_law_spoilt" 3 ["pot","row","loop"] (Af gu))(SM:AH P w K mg Yd "_law_text" 3 ["pot","row"] (Af eI))(Tu:mg "max"=none)(Wd:mg "min"=none)
def wW(F:AE K "_law_pot" "_law_pot" YK f fd)(m:mg "_law_pot"=some (.ref f)):
  AH P w K mg Yd "_law_pot" 1 ["script","k"] (WM K):=by
 refine AH.mk F (F.binds (by walk_at "bD2")) m (F.Gr (k:=0) Ou (λvs H Q E h=>?_) (λAU A outer s H vs Q E o h=>?_))
 .obtain⟨a,ns,k,rfl,b,k0,k1,q⟩:=h;rfl
 obtain⟨a,ns,k,rfl,b,k0,k1,q⟩:=h;refine⟨_,(AF rfl (Ar 2 Ou.nd A9)
   (AF rfl (CV (BS (Ay MY (qv 1) (Ag OC Ad (A0 (qv 0) A4))) (AJ rfl (Ar 2 Ou.nd (B5 JM (Am CF (qv 0) (qv 1)) (B5 LV (B5 LV (B5 LV (B5 Lc A9 A9) (B5 Lc A9 A9)) (B5 Lc A9 A9)) (B5 Lc A9 A9))))) BR))
   (AF rfl (Ar 3 Ou.nd A9)
   (AF rfl (CV (BS (Ay xm (qv 2) (B5 Lc A9 A9)) (AJ rfl (Ar 3 Ou.nd (qv 2))) BR))
   (AJ rfl (Ak (E4 (A0 (qv 3) (A0 (B5 JM (B5 LV (B5 FE (B5 FE (B5 JM (qv 2) A9) (B5 LV A9 (qv 1))) A9) A9) A9) A4))))))))),?_⟩
 have i:(ns.map V.int).length=ns.length:=AG _;refine⟨λσ' H'=>∃c:Int,σ'=[some (.ref a),some (.int k),some (.int c),none]/\H=H'/\0<=c/\c<10 ^ 256,?_,?_⟩
 .refine⟨_,rfl,_,rfl,a,_,rfl,.inl b,_,_,rfl,rfl,_,rfl,?_⟩;refine BA (λc=>?_) (λc=>?_)
  .have c':k<(((ns.map V.int).length:Nat):Int):=pQ c;rw[i]at c';have hk:k.toNat<ns.length:=by omega
   have g:Bf (ns.map V.int) k=some (.int ns[k.toNat]):=QZ k0 (by rw[Ah,Au hk] <;> rfl)
   refine⟨_,rfl,_,rfl,a,_,_,_,rfl,rfl,b,g,_,_,rfl,rfl,⟨by decide,by decide,by decide +kernel⟩,_,_,rfl,rfl,⟨by decide,by decide,by decide +kernel⟩,_,_,rfl,rfl,⟨by decide +kernel,by decide +kernel⟩,_,_,rfl,rfl,⟨by decide,by decide,by decide +kernel⟩,_,_,rfl,rfl,⟨by decide +kernel,by decide +kernel⟩,
    _,_,rfl,rfl,⟨by decide,by decide,by decide +kernel⟩,_,_,rfl,rfl,⟨by decide +kernel,by decide +kernel⟩,_,_,rfl,rfl,(by show(0:Int)<_;decide +kernel),?_⟩
   exact⟨_,rfl,rfl,KL _ (by decide +kernel),KJ _ (by decide +kernel)⟩
  .exact⟨0,rfl,rfl,by decide,by decide +kernel⟩
 rintro σ' H'⟨c,rfl,rfl,n,c1⟩;refine⟨λσ' H'=>∃d:Int,σ'=[some (.ref a),some (.int k),some (.int c),some (.int d)]/\H=H'/\0<=d/\d<10 ^ 256,?_,?_⟩
 .refine⟨_,rfl,_,_,rfl,rfl,⟨by decide,by decide,by decide +kernel⟩,_,_,rfl,rfl,_,rfl,?_⟩;refine BA (λ_=>?_) (λ_=>?_)
  .exact⟨_,rfl,c,rfl,rfl,n,c1⟩
  .exact⟨0,rfl,rfl,by decide,by decide +kernel⟩
 rintro σ' H'⟨d,rfl,rfl,l,j⟩;have e0:0<=c % 2147483629:=KL _ (by decide);have e1:c % 2147483629<2147483629:=KJ _ (by decide);refine⟨_,rfl,_,rfl,_,_,rfl,rfl,(by show(0:Int)<2147483629;decide),_,rfl,_,_,rfl,rfl,⟨by decide +kernel,Mq (by omega) (by omega)⟩,_,_,rfl,rfl,_,_,rfl,rfl,_,_,rfl,rfl,⟨Mq (by omega) (by omega),by decide +kernel⟩,_,_,rfl,rfl,(by show(0:Int)<2147483647;decide),?_⟩;refine⟨(by show 2<=sizeLine;decide),λp e=>?_⟩;exact q p _ e (Cb e _) ⟨d,_,AV,l,j,KL _ (by decide),KJ _ (by decide)⟩
def jD:Ap ["pot","many","found"] ["pot","many"] (AI V0):=by walk_at "z1"
def tM(F:AE K "_law_take" "_law_take" V0 f fd)(m:mg "_law_take"=some (.ref f)):
  AH P w K mg Yd "_law_take" 1 ["pot","many"] (Hn):=by
 refine AH.mk F (F.binds (by walk_at "bD2")) m (F.Gr (k:=0) jD (λvs H Q E h=>?_) (λAU A outer s H vs Q E r h=>?_))
 .obtain⟨p,m,rfl,⟨a,b,d,a0,a1,b0,j⟩,e,n,q⟩:=h;rfl
 obtain⟨p,m,rfl,⟨a,b,d,a0,a1,b0,j⟩,e,n,q⟩:=h;refine⟨_,(AF rfl (BS (Ay Ja (Am CF (qv 0) A9) A9) (AF rfl (Ar 2 jD.nd (B5 JM (Am CF (qv 0) A9) (qv 1)))
   (AF rfl (NU (B5 Vm (Am CF (qv 0) A9) (qv 1)) (WS (qv 0) A9 set_list))
   (AJ rfl (Ak (qv 2))))) BR)
   (AF rfl (NU (B5 JM (B5 FE (B5 LV (Am CF (qv 0) A9) A9) A9) A9) (WS (qv 0) A9 set_list))
   (AJ rfl (Ak (B5 JM (B5 Vm (B5 JM (B5 LV (Am CF (qv 0) A9) (Am CF (qv 0) A9)) A9) A9) (qv 1)))))),?_⟩
 refine⟨_,rfl,p,_,_,_,rfl,rfl,AL.of d,rfl,_,_,rfl,rfl,_,rfl,?_⟩;refine BA (λc=>?_) (λc=>?_)
 .have c':0<a:=pQ c;refine⟨_,rfl,p,_,_,_,rfl,rfl,AL.of d,rfl,_,rfl,_,_,rfl,rfl,e,?_⟩;refine⟨_,rfl,p,_,_,_,rfl,rfl,AL.of d,rfl,_,rfl,_,_,rfl,rfl,⟨e,Mq (by omega) (by omega)⟩,?_⟩;refine⟨_,rfl,p,_,_,_,rfl,rfl,d,rfl,?_⟩;refine⟨_,rfl,?_⟩;refine q _ _ (KL _ (by omega)) (KJ _ e) ⟨⟨a / m,b,AV,Int.ediv_nonneg a0 (by omega),ZGV (Int.ediv_le_self _ a0) a1,b0,j⟩,GG.upd⟩
 .refine⟨_,rfl,p,_,_,_,rfl,rfl,AL.of d,rfl,_,_,rfl,rfl,⟨Mq (by omega) (by omega),by decide +kernel⟩,_,_,rfl,rfl,_,_,rfl,rfl,(by show(0:Int)<2147483647;decide),?_⟩;refine⟨_,rfl,p,_,_,_,rfl,rfl,d,rfl,?_⟩;have l:0<=(b * 69621+12345) % 2147483647:=KL _ (by decide);have i:(b * 69621+12345) % 2147483647<2147483647:=KJ _ (by decide);generalize o:(b * 69621+12345) % 2147483647=b' at l i;have g:(upd H p (.lst [.int a,.int ((b * 69621+12345) % 2147483647)])) p=some (.lst [.int a,.int b']):=by rw[AV,o]
  refine⟨_,rfl,p,_,_,_,rfl,rfl,AL.of g,rfl,_,rfl,p,_,_,_,rfl,rfl,AL.of g,rfl,_,_,rfl,rfl,⟨Mq (by omega) (by omega),Mq (by omega) (by omega)⟩,_,_,rfl,rfl,(by show(0:Int)<2147483629;decide),?_⟩;refine⟨_,_,rfl,rfl,⟨(by show(0:Int)<64;decide),by decide +kernel⟩,_,rfl,_,_,rfl,rfl,e,?_⟩;exact q _ _ (KL _ (by omega)) (KJ _ e) ⟨⟨a,b',g,a0,a1,l,i⟩,GG.upd⟩
def Rf:Ap ["number","word"] ["number"] (AI WH):=by walk_at "z1"
def yH(F:AE K "_law_letters" "_law_letters" WH f fd)(m:mg "_law_letters"=some (.ref f)):
  AH P w K mg Yd "_law_letters" 1 ["number"] (eU):=by
 refine AH.mk F (F.binds (by walk_at "bD1")) m (F.Gr (k:=0) Rf (λvs H Q E h=>?_) (λAU A outer s H vs Q E t h=>?_))
 .obtain⟨r,rfl,g,l,q⟩:=h;rfl
 obtain⟨r,rfl,g,l,q⟩:=h;refine⟨_,(AF rfl (Ar 1 Rf.nd CA)
   (AF rfl (CV (VX Fi (O9 (Ay De (qv 1) CA) (Nd (Ay Ja (qv 0) A9))).pt (AF rfl (Ar 1 Rf.nd (B5 ar (qv 1) (Am ZBg CA (B5 JM (qv 0) A9))))
   (AJ rfl (Ar 0 Rf.nd (B5 Vm (qv 0) A9))))))
   (AJ rfl (Ak (qv 1))))),?_⟩
 obtain⟨n,rfl⟩:=TY g;have i:n<26 ^ 8:=by omega
 rw[Lk]at q;refine⟨λσ' H'=>∃v,σ'=[some v,some (.str (DE (MA.lets n)))]/\H=H',?_,?_⟩
 .refine⟨λm σ' H'=>∃(k:Nat)(pre:List Nat),σ'=[some (.int k),some (.str (DE pre))]/\H=H'/\((pre=[]/\k=n/\m=n+2)∨(pre≠[]/\m=k+1/\(0<k->pre++MA.lets k=MA.lets n)/\(k=0->pre=MA.lets n))),⟨n+2,n,[],rfl,rfl,.inl ⟨rfl,rfl,rfl⟩⟩,?_⟩;rintro m σ' H'⟨k,pre,rfl,rfl,j⟩;refine⟨_,rfl,rfl,_,rfl,?_⟩;refine BA (λc=>Np ?_) (λc=>⟨_,rfl,_,_,rfl,rfl,_,rfl,?_⟩)
  .have d:pre=[]:=fR.mp (pQ c);obtain⟨_,hk,o⟩|⟨h,_⟩:=j
   .have b:pre++MA.lets k=MA.lets n:=by rw[d,hk];rfl
    have a:pre.length+1<=8:=by
     have h1:=sg List.length b;rw[BI]at h1;have h2:=MA.Sj 7 n i;have p:=MA.Yf k;omega
    refine⟨λσ' H'=>σ'=[some (.int ((k:Int) / 26)),some (.str (DE pre++⟨#[97+((k:Int) % 26).toNat]⟩))]/\H=H',?_,?_⟩
    .rintro σ' H'⟨rfl,rfl⟩;have nx:=dA b;have e1:((k:Int) % 26).toNat=k % 26:=by omega
     have e:(k:Int) / 26=((k / 26:Nat):Int):=by omega
     exact⟨k / 26+1,by omega,k / 26,pre++[97+k % 26],by rw[e1,e,cq],rfl,.inr ⟨by simp,rfl,nx.1,nx.2⟩⟩
    .refine⟨_,rfl,_,rfl,_,_,rfl,rfl,(by show(0:Int)<26;decide),_,_,_,rfl,rfl,(by decide +kernel),kH (KL _ (by decide)) (KJ _ (by decide)),_,_,rfl,rfl,?_,?_⟩
     .rw[SG];exact small (show pre.length+1<=_ by omega)
     .exact⟨_,rfl,_,_,rfl,rfl,⟨(by show(0:Int)<26;decide),by decide +kernel⟩,rfl,rfl⟩
   .exact absurd d h
  .have d:pre≠[]:=λh=>c (oW (fR.mpr h));obtain⟨h,_⟩|⟨_,o,h1,h2⟩:=j
   .exact absurd h d
   refine BA (λc2=>?_) (λc2=>?_)
   .have hk:0<k:=by have:(0:Int)<k:=pQ c2;omega
    have b:=h1 hk;have a:pre.length+1<=8:=by
     have h1:=sg List.length b;rw[BI]at h1;have h2:=MA.Sj 7 n i;have p:=MA.Yf k;omega
    refine⟨λσ' H'=>σ'=[some (.int ((k:Int) / 26)),some (.str (DE pre++⟨#[97+((k:Int) % 26).toNat]⟩))]/\H=H',?_,?_⟩
    .rintro σ' H'⟨rfl,rfl⟩;have nx:=dA b;have e1:((k:Int) % 26).toNat=k % 26:=by omega
     have e:(k:Int) / 26=((k / 26:Nat):Int):=by omega
     exact⟨k / 26+1,by omega,k / 26,pre++[97+k % 26],by rw[e1,e,cq],rfl,.inr ⟨by simp,rfl,nx.1,nx.2⟩⟩
    .refine⟨_,rfl,_,rfl,_,_,rfl,rfl,(by show(0:Int)<26;decide),_,_,_,rfl,rfl,(by decide +kernel),kH (KL _ (by decide)) (KJ _ (by decide)),_,_,rfl,rfl,?_,?_⟩
     .rw[SG];exact small (show pre.length+1<=_ by omega)
     .exact⟨_,rfl,_,_,rfl,rfl,⟨(by show(0:Int)<26;decide),by decide +kernel⟩,rfl,rfl⟩
   .have hk:k=0:=by
     have:¬ (0:Int)<k:=λz=>c2 (oW z);omega
    exact⟨_,by rw[h2 hk],rfl⟩
 .rintro σ' H'⟨v,rfl,rfl⟩;exact⟨_,rfl,q _ (AQ.refl _)⟩
def Gj:Ap ["pot","names","some","way","name","number"] ["pot","names"] (AI Vx):=by walk_at "z1"
def ZEc(F:AE K "_law_name" "_law_name" Vx f fd)(m:mg "_law_name"=some (.ref f)):
  AH P w K mg Yd "_law_name" 2 ["pot","names"] (Mw K):=by
 refine AH.mk F (F.binds (by walk_at "bD2")) m (F.Gr (k:=1) Gj (λvs H Q E h=>?_) (λAU A outer s H vs Q E g h=>?_))
 .obtain⟨p,q,ns,rfl,U,u,Ab,X,hL,K1⟩:=h;rfl
 obtain⟨p,q,ns,rfl,U,u,Ab,X,hL,K1⟩:=h;refine⟨_,(AF rfl (Ar 2 Gj.nd (Cq (A0 CA (A0 CA (A0 CA (A0 CA (A0 CA (A0 CA (A0 CA (A0 CA (A0 CA (A0 CA (A0 CA (A0 CA (A0 CA A4)))))))))))))))
   (AF rfl (Ar 3 Gj.nd (AX BC g (A0 (qv 0) (A0 A9 A4))))
   (AF rfl (Ar 4 Gj.nd (Am CD (qv 2) (AX BC g (A0 (qv 0) (A0 A9 A4)))))
   (AF rfl (CV (BS (Ay De (qv 3) A9) (AJ rfl (Ar 4 Gj.nd (AX Om g (A0 (AX BC g (A0 (qv 0) (A0 (B5 bN (B5 Lc A9 A9) A9) A4))) A4)))) BR))
   (AF rfl (CV (BS (Il (Ay De (qv 3) A9) (Jr (Ay (Pb g.HN) (qv 1) (E4 A4)))).pt (AF rfl (Ar 4 Gj.nd (Am CF (qv 1) (AX BC g (A0 (qv 0) (A0 (Ag OC Ad (A0 (qv 1) A4)) A4)))))
   (AJ rfl (Ar 4 Gj.nd (Oc cM (B5 ar (qv 4) (AX Om g (A0 (AX BC g (A0 (qv 0) (A0 A9 A4))) A4))) OE (Kj A9))))) BR))
   (AF rfl (CV (BS (Il (Ay De (qv 3) A9) (Jr (Ay (Pb g.HN) (qv 1) (E4 A4)))).pt (AF rfl (Ar 4 Gj.nd (Am CF (qv 1) (AX BC g (A0 (qv 0) (A0 (Ag OC Ad (A0 (qv 1) A4)) A4)))))
   (AJ rfl (Ar 4 Gj.nd (Oc cM (qv 4) OE (Kj (B5 FE A9 (AX BC g (A0 (qv 0) (A0 (Ag vc Ad (A0 (qv 4) A4)) A4))))))))) BR))
   (AF rfl (Ar 5 Gj.nd A9)
   (AF rfl (CV (VX Fi (Ay Jd (qv 4) (qv 1)) (AF rfl (Ar 4 Gj.nd (AX Om g (A0 (qv 5) A4)))
   (AJ rfl (Ar 5 Gj.nd (B5 FE (qv 5) A9))))))
   (AJ rfl (Ak (qv 4))))))))))),?_⟩
 have D:(ns.map V.str).length=ns.length:=AG _;have u:AL K H q (ns.map V.str):=AL.of u;refine⟨(by show 13<=sizeLine;decide +kernel),λo σ=>?_⟩;have Ey:o≠p:=by
  obtain⟨_,_,e,_⟩:=U;exact(DS e σ).symm
 have g0:BH p H (upd H o (.tup Sr)):=BH.of U (Cb σ _);refine⟨_,rfl,p,4,rfl,g0.AD,by decide,by decide,λd H1 w0 w1 s1=>?_⟩;refine⟨_,rfl,_,rfl,p,13,rfl,s1.AD,by decide,by decide,λi H2 i0 i1 s2=>?_⟩;have h2:H2 o=some (.tup Sr):=s2.at' (s1.at' AV Ey) Ey;obtain⟨x,hx,nx⟩:=ZAS i0 i1;refine⟨o,_,_,_,rfl,rfl,Ax.of h2,hx,?_⟩;have N:=g0.trans (s1.trans s2);refine⟨λσ' H'=>∃x,σ'=[some (.ref p),some (.ref q),some (.ref o),some (.int d),some (.str x),none]/\Nm x/\BH p H H',?_,?_⟩
 .refine⟨_,rfl,rfl,_,rfl,?_⟩;refine BA (λc=>?_) (λc=>?_)
  .refine⟨_,rfl,_,_,rfl,rfl,⟨by decide,by decide,by decide +kernel⟩,_,_,rfl,rfl,p,_,rfl,N.AD,sU,ZAq,λr H3 C L Y=>?_⟩;have I:r<26 ^ 8:=Int.lt_trans L uk;exact⟨r,rfl,C,I,λH4 s4=>⟨_,rfl,UI (ir C I),(N.trans Y).trans (BH.of Y.AD s4)⟩⟩
  .exact⟨x,rfl,nx,N⟩
 clear h2 hx nx s2 N i0 i1;rintro σ' H3⟨y,rfl,t,l⟩;refine⟨λσ' H'=>∃x,σ'=[some (.ref p),some (.ref q),some (.ref o),some (.int d),some (.str x),none]/\Nm x/\BH p H H',?_,?_⟩
 .refine⟨_,rfl,rfl,_,rfl,?_⟩;refine BA (λc=>?_) (λc=>HY ⟨y,rfl,t,l⟩);refine⟨_,rfl,(by show 0<=sizeLine;decide),λe W=>?_⟩;have b:=l.trans (BH.of l.AD (Cb W (.lst [])));have J:=b.P6 u Ab;refine⟨q,e,_,[],rfl,rfl,.inl ⟨J,AL.of AV⟩,Kw ns,rfl,_,rfl,?_⟩;rw[dz];refine BA (λc2=>?_) (λc2=>⟨y,rfl,t,b⟩);have KH:0<ns.length:=by
   cases ns with
   |nil=>simp at c2
   |cons a r=>simp
  refine⟨_,rfl,_,rfl,_,rfl,q,_,rfl,.inl J,p,_,rfl,b.AD,(by rw[D];omega),(by rw[D];omega),λi H5 i0 i1 R=>?_⟩;rw[D]at i1;have B:=b.trans R;obtain⟨z,T,Xq,_⟩:=XM i0 i1;have nz:=X z Xq;refine⟨q,_,_,_,rfl,rfl,B.P6 u Ab,T,?_⟩;refine⟨_,rfl,_,rfl,p,26,rfl,B.AD,by decide,by decide,λr H6 C L O=>?_⟩;have M:=B.trans O;have I:r<26 ^ 8:=Int.lt_trans L rV;refine⟨r,rfl,C,I,λH7 s7=>?_⟩;have M:=M.trans (BH.of M.AD s7);have nl:=UI (n:=r.toNat) (ir C I);have hlen:z.length+(DE (MA.lets r.toNat)).length<=16:=by have:=nz.2.1;have:=nl.2.1;omega
  refine⟨_,_,rfl,rfl,small (by omega),?_⟩;refine⟨_,rfl,_,rfl,small (by rw[dX];omega),?_⟩;refine⟨_,rfl,ba (by decide) (by decide) (by rw[dX];have:=nz.1;omega) (λc G=>?_),M⟩;rw[dE]at G;rcases List.mem_append.mp G with G|G
  .exact nz.2.2 c G
  .exact nl.2.2 c G
 clear t l;rintro σ' H3⟨y,rfl,t,l⟩;refine⟨λσ' H'=>∃x,σ'=[some (.ref p),some (.ref q),some (.ref o),some (.int d),some (.str x),none]/\Nm x/\BH p H H',?_,?_⟩
 .refine⟨_,rfl,rfl,_,rfl,?_⟩;refine BA (λc=>?_) (λc=>HY ⟨y,rfl,t,l⟩);refine⟨_,rfl,(by show 0<=sizeLine;decide),λe W=>?_⟩;have b:=l.trans (BH.of l.AD (Cb W (.lst [])));have J:=b.P6 u Ab;refine⟨q,e,_,[],rfl,rfl,.inl ⟨J,AL.of AV⟩,Kw ns,rfl,_,rfl,?_⟩;rw[dz];refine BA (λc2=>?_) (λc2=>⟨y,rfl,t,b⟩);have KH:0<ns.length:=by
   cases ns with
   |nil=>simp at c2
   |cons a r=>simp
  refine⟨_,rfl,_,rfl,_,rfl,q,_,rfl,.inl J,p,_,rfl,b.AD,(by rw[D];omega),(by rw[D];omega),λi H5 i0 i1 R=>?_⟩;rw[D]at i1;have B:=b.trans R;obtain⟨z,T,Xq,_⟩:=XM i0 i1;have nz:=X z Xq;refine⟨q,_,_,_,rfl,rfl,B.P6 u Ab,T,?_⟩;have S:=nz.1;have nz2:=nz.2.1;refine⟨_,rfl,_,rfl,_,rfl,_,rfl,small (by omega),p,_,rfl,B.AD,(by omega),(by omega),λr H6 C L O=>?_⟩;refine⟨_,_,rfl,rfl,_,rfl,_,rfl,small (by omega),?_⟩;exact⟨_,rfl,ba (by omega) (by omega) S nz.2.2,B.trans O⟩
 clear t l;rintro σ' H3⟨y,rfl,t,l⟩;refine⟨λσ' H'=>∃x v,σ'=[some (.ref p),some (.ref q),some (.ref o),some (.int d),some (.str x),some v]/\Nm x/\x∉ns/\BH p H H',?_,?_⟩
 .refine⟨λm σ' H'=>∃(k:Nat)(x:Str),σ'=[some (.ref p),some (.ref q),some (.ref o),some (.int d),some (.str x),some (.int k)]/\BH p H H'/\Nm x/\m=ns.length+1 - k/\k<=ns.length+1/\(0<k->x=DE (MA.lets (k - 1)))/\(∀j,j+1<k->DE (MA.lets j)∈ns),
   ⟨ns.length+1,0,y,rfl,l,t,rfl,CJ _,λh=>absurd h (by decide),λj h=>absurd h (by omega)⟩,?_⟩
  rintro m σ' H'⟨k,x,rfl,b,nx,rfl,hk,hx,hj⟩;refine⟨_,rfl,_,rfl,q,_,rfl,.inl (b.P6 u Ab),rfl,Kw ns,_,rfl,?_⟩;rw[nr (by decide),Xv];refine BA (λc=>?_) (λc=>⟨x,_,rfl,nx,λz=>c (oW z),b⟩);have ID:x∈ns:=pQ c;have TN:∀j,j<k->DE (MA.lets j)∈ns:=λj P4=>by
   by_cases e:j+1<k
   .exact hj j e
   .have e2:j=k - 1:=by omega
    rw[e2,<- hx (by omega)];exact ID
  have rH:=zX TN;refine⟨λσ' H'=>σ'=[some (.ref p),some (.ref q),some (.ref o),some (.int d),some (.str (DE (MA.lets k))),some (.int ((k:Int)+1))]/\BH p H H',?_,?_⟩
  .rintro σ' H'⟨rfl,b⟩;exact⟨ns.length+1 - (k+1),by omega,k+1,DE (MA.lets k),rfl,b,UI (Gx (Be rH hL) tH),rfl,by omega,λ_=>rfl,λj P4=>TN j (by omega)⟩
  .refine⟨_,rfl,k,rfl,by omega,?_,λH4 s4=>?_⟩
   .have:(k:Int)<=1000:=by omega
    exact ZGV this ZCS
   .rw[Lk];exact⟨_,rfl,_,_,rfl,rfl,rfl,b.trans (BH.of b.AD s4)⟩
 rintro σ' H'⟨x,v,rfl,nx,hx,b⟩;exact⟨_,rfl,K1 x H' nx hx b⟩
def Wv:Ap ["pot","many","names","k"] ["pot","many"] (AI W6):=by walk_at "z1"
def ZC3(F:AE K "_law_names" "_law_names" W6 f fd)(m:mg "_law_names"=some (.ref f)):
  AH P w K mg Yd "_law_names" 3 ["pot","many"] (bj):=by
 refine AH.mk F (F.binds (by walk_at "bD2")) m (F.Gr (k:=2) Wv (λvs H Q E h=>?_) (λAU A outer s H vs Q E u h=>?_))
 .obtain⟨p,m,rfl,j,r,o,q⟩:=h;rfl
 obtain⟨p,m,rfl,j,r,o,q⟩:=h;refine⟨_,(AF rfl (Ar 2 Wv.nd (E4 A4))
   (AF rfl (CV (FQ Fi rfl (J8 rfl DH (A0 (qv 1) A4)) (DY 3 Wv.nd) (AJ rfl (FI (LH NQ Zm Zn Sn (qv 2) (A0 (AX IW u (A0 (qv 0) (A0 (qv 2) A4))) A4))))))
   (AJ rfl (Ak (qv 2))))),?_⟩
 refine⟨(by show 0<=sizeLine;decide),λl c=>?_⟩;have d:=j.ne c;refine⟨λσ' H'=>∃(ns:List Str)(v:Option V),σ'=[some (.ref p),some (.int m),some (.ref l),v]/\BH p H H'/\H' l=some (.lst (ns.map V.str))/\(ns.length:Int)=m/\(∀x∈ns,Nm x)/\ns.Nodup,?_,?_⟩
 .refine⟨_,rfl,m,rfl,by omega,by omega,ZB3 (n:=m.toNat) (λi σ' H'=>∃(ns:List Str)(v:Option V),σ'=[some (.ref p),some (.int m),some (.ref l),v]/\BH p H H'/\H' l=some (.lst (ns.map V.str))/\ns.length=i/\(∀x∈ns,Nm x)/\ns.Nodup) ?_ ?_ ?_⟩
  .exact⟨[],none,rfl,(BH.of j (AQ.refl H)).upd c d,AV,rfl,λx hx=>absurd hx (by simp),by simp⟩
  .rintro i σ' H' hi⟨ns,v,rfl,g,e,a,b,nd⟩;refine⟨_,rfl,.inl ⟨rfl,_,AL.of e⟩,_,rfl,_,rfl,p,l,ns,rfl,g.AD,e,d,b,by omega,λx H2 nx hx s2=>?_⟩;refine⟨l,_,_,rfl,rfl,s2.at' e d,Gx (m:=100) (by rw[AG];omega) (by decide +kernel),?_⟩;refine⟨ns++[x],_,rfl,(g.trans s2).upd c d,by rw[AV,Dv];rfl,by rw[BI];simp[a],λy t=>?_,Vv nd hx⟩;rcases List.mem_append.mp t with h|h
   .exact b y h
   .have:y=x:=by simpa using h
    rw[this];exact nx
  .rintro σ' H'⟨ns,v,rfl,g,e,a,b,nd⟩;exact⟨ns,v,rfl,g,e,by omega,b,nd⟩
 rintro σ' H'⟨ns,v,rfl,g,e,a,b,nd⟩;exact⟨_,rfl,q l H' ns c g e a b nd⟩
def Ut:Ap ["pot","most","many"] ["pot","most"] (AI YH):=by walk_at "z1"
def ZF9(F:AE K "_law_row" "_law_row" YH f fd)(m:mg "_law_row"=some (.ref f)):
  AH P w K mg Yd "_law_row" 4 ["pot","most"] (Us):=by
 refine AH.mk F (F.binds (by walk_at "bD2")) m (F.Gr (k:=3) Ut (λvs H Q E h=>?_) (λAU A outer s H vs Q E a h=>?_))
 .obtain⟨p,m,rfl,i,c,u,q⟩:=h;rfl
 obtain⟨p,m,rfl,i,c,u,q⟩:=h;refine⟨_,(AF rfl (Ar 2 Ut.nd (AX BC a (A0 (qv 0) (A0 (B5 FE (qv 1) A9) A4))))
   (AF rfl (CV (BS (Ay De (AX BC a (A0 (qv 0) (A0 A9 A4))) A9) (AJ rfl (Ar 2 Ut.nd (Am CD (Cq (A0 A9 (A0 A9 (A0 (qv 1) A4)))) (AX BC a (A0 (qv 0) (A0 A9 A4)))))) BR))
   (AJ rfl (Ak (AX YE a (A0 (qv 0) (A0 (qv 2) A4))))))),?_⟩
 refine⟨_,rfl,_,rfl,_,_,rfl,rfl,p,_,rfl,i,by omega,by omega,λmany H1 n0 G s1=>?_⟩;refine⟨λσ' H'=>∃k:Int,σ'=[some (.ref p),some (.int m),some (.int k)]/\0<=k/\k<=m/\BH p H H',?_,?_⟩
 .refine⟨_,rfl,p,8,rfl,s1.AD,by decide,by decide,λr H2 D C s2=>?_⟩;have b:=s1.trans s2;refine⟨rfl,_,rfl,?_⟩;refine BA (λ_=>?_) (λ_=>⟨many,rfl,n0,by omega,b⟩);refine⟨_,rfl,(by show 3<=sizeLine;decide +kernel),λt d=>?_⟩;have B:=b.AD.ne d;have o:=b.trans (BH.of b.AD (Cb d (.tup [.int 0,.int 1,.int m])));refine⟨_,rfl,p,3,rfl,o.AD,by decide,by decide,λj H4 x v s4=>?_⟩;obtain⟨k,hk,k0,k1⟩:=zF x v c;exact⟨t,_,_,_,rfl,rfl,Ax.of (s4.at' AV B),hk,k,rfl,k0,k1,o.trans s4⟩
 rintro σ' H'⟨k,rfl,k0,k1,g⟩;refine⟨_,rfl,_,rfl,p,k,rfl,g.AD,k0,by omega,λl H' ns y s e n z nd=>?_⟩;exact q l H' ns (g.none y) (g.trans s) e (by omega) z nd
def ON:Ap ["pot","row","coming","share","name","rule"] ["pot","row"] (AI YB):=by walk_at "z1"
def uX(F:AE K "_law_some_loop" "_law_some_loop" YB f fd)(m:mg "_law_some_loop"=some (.ref f)):
  AH P w K mg Yd "_law_some_loop" 2 ["pot","row"] (RQ):=by
 refine AH.mk F (F.binds (by walk_at "bD2")) m (F.Gr (k:=1) ON (λvs H Q E h=>?_) (λAU A outer s H vs Q E o h=>?_))
 .obtain⟨p,q,ns,rfl,C,b,Ab,R,nd,K1⟩:=h;rfl
 obtain⟨p,q,ns,rfl,C,b,Ab,R,nd,K1⟩:=h;refine⟨_,(AF rfl (Ar 2 ON.nd (E4 A4))
   (AF rfl (Ar 3 ON.nd (B5 FE A9 (AX BC o (A0 (qv 0) (A0 A9 A4)))))
   (AF rfl (CV (FQ Fi rfl (DO (qv 1)) (DY 4 ON.nd) (AJ rfl (BS (Ay MY (AX BC o (A0 (qv 0) (A0 A9 A4))) (qv 3)) (AJ rfl (FI (LH NQ Zm Zn Sn (qv 2) (A0 (qv 4) A4)))) BR))))
   (AF rfl (Ar 5 ON.nd (Am CD (Cq (A0 CA (A0 CA (A0 CA A4)))) (AX BC o (A0 (qv 0) (A0 A9 A4)))))
   (AJ rfl (Ak (Cq (A0 (qv 5) (A0 (AX BC o (A0 (qv 0) (A0 (B5 FE (Ag OC Ad (A0 (qv 1) A4)) A9) A4))) (A0 (G6 Ry Gm (A0 (Ag RL Cc (A0 (qv 2) A4)) A4)) A4)))))))))),?_⟩
 have u:=Lw.JQ ns;refine⟨(by show 0<=sizeLine;decide),λl JT=>?_⟩;have n:=C.ne JT;have hlq:l≠q:=(DS b JT).symm;have g0:BH p H (upd H l (.lst [])):=BH.of C (Cb JT _);refine⟨_,rfl,p,4,rfl,g0.AD,by decide,by decide,λJ H1 _ _ s1=>⟨_,_,rfl,rfl,?_⟩⟩;have g1:=g0.trans s1;refine⟨λσ' H'=>∃(cs:List Str)(v:Option V),σ'=[some (.ref p),some (.ref q),some (.ref l),some (.int (1+J)),v,none]/\BH p H H'/\H' l=some (.lst (cs.map V.str))/\cs.Sublist ns,?_,?_⟩
 .refine⟨_,rfl,false,q,_,rfl,AL.of (g1.at' b Ab),ZC7 (λi σ' H'=>∃(cs:List Str)(v:Option V),σ'=[some (.ref p),some (.ref q),some (.ref l),some (.int (1+J)),v,none]/\BH p H H'/\H' l=some (.lst (cs.map V.str))/\cs.Sublist (ns.take i)) ?_ ?_ ?_ ?_⟩
  .exact⟨[],none,rfl,g1,s1.at' AV n,List.nil_sublist _⟩
  .rintro i σ' H' _⟨cs,v,rfl,g,e,a⟩;exact AL.of (g.at' b Ab)
  .rintro i x σ' H' hx⟨cs,v,rfl,g,e,a⟩;obtain⟨y,rfl,S⟩:=wY hx;have hi:i<ns.length:=(List.getElem?_eq_some_iff.mp S).1;have X:ns.take (i+1)=ns.take i++[y]:=by
    rw[List.take_succ,S];rfl
   have I:cs.length<=40:=by
    have h1:=a.length_le;rw[Fg]at h1;omega
   refine⟨_,rfl,p,4,rfl,g.AD,by decide,by decide,λr H2 r0 r1 s2=>⟨_,rfl,_,_,rfl,rfl,_,rfl,?_⟩⟩;have d:=s2.at' e n;refine BA (λc=>?_) (λc=>?_)
   .refine⟨_,rfl,.inl ⟨rfl,_,AL.of d⟩,_,rfl,l,_,_,rfl,rfl,d,Gx (m:=40) (by rw[AG];exact I) (by decide +kernel),?_⟩;exact⟨cs++[y],_,rfl,(g.trans s2).upd JT n,by rw[AV,Dv];rfl,by rw[X];exact a.append (List.Sublist.refl _)⟩
   .exact⟨cs,_,rfl,g.trans s2,d,by rw[X];exact a.trans (ZGt _ _)⟩
  .rintro σ' H'⟨cs,v,rfl,g,e,a⟩;rw[u,Gw]at a;exact⟨cs,v,rfl,g,e,a⟩
 rintro σ' H2⟨cs,v,rfl,G,d,a⟩;refine⟨(by show 3<=sizeLine;decide),λt1 Ru=>?_⟩;have σ:=G.AD.ne Ru;have O:=Cb Ru (.tup (LG.map V.str));have W:=G.trans (BH.of G.AD O);refine⟨_,rfl,p,3,rfl,W.AD,by decide,by decide,λj H4 j0 j1 s4=>?_⟩;obtain⟨r,oY,Rn⟩:=eQ j0 j1;refine⟨t1,_,_,_,rfl,rfl,Ax.of (s4.at' AV σ),oY,?_⟩;have D:=W.trans s4;have q4:=D.at' b Ab;refine⟨_,rfl,_,rfl,_,rfl,q,_,rfl,.inl (AL.of q4),_,_,rfl,rfl,p,_,rfl,D.AD,(by rw[u];omega),(by rw[u];omega),λgp H5 p0 p1 L=>?_⟩;rw[u]at p1;have z:=D.trans L;have e5:=L.at' (s4.at' (O _ _ d) n) n;have I:cs.length<=40:=Be a.length_le R;refine⟨_,rfl,l,false,cs,rfl,AL.of e5,by omega,λl2 ts Bk XB CY=>?_⟩;have B:=Cb Bk (.lst (ts.map V.str));refine⟨l2,_,rfl,.inl ⟨AL.of AV,λc U=>?_⟩⟩;have N:=Cb U (.tup (ts.map V.str));refine⟨(by show 3<=sizeLine;decide),λt T=>?_⟩;have M:=Cb T (.tup [.str r,.int gp,.ref c]);have g8:=z.trans (BH.of z.AD (B.trans (N.trans M)));have Y:ts.Nodup:=XB.nodup_iff.mpr (nd.sublist a);refine K1 t c r gp ts _ (z.none (AQ.none (B.trans N) T)) (z.none (AQ.none B U)) g8 AV (M _ _ AV) ⟨Rn,p0,by omega,kY CY Y,λx hx=>a.subset (XB.mem_iff.mp hx),by rw[XB.length_eq];exact I⟩
def IX:Ap ["pot","row","most","loops","k","loop","way","one","coming"] ["pot","row","most"] (AI Qe):=by walk_at "z1"
noncomputable abbrev Sc(l):=Scope.mk .function l false false []
def uH:=Sc [(".0",.local),("name",.local),("_law_take",.globalImplicit),("pot",.free)]
def rS:D7 ["pot","row","most","loops","k","loop","way","one","coming"] (AI Qe) uH "name" ["pot"] [0]:=by walk_at "z2"
def ZG5(F:AE K "_law_loops" "_law_loops" Qe f fd)(m:mg "_law_loops"=some (.ref f)):
  AH P w K mg Yd "_law_loops" 3 ["pot","row","most"] (Af jC):=by
 refine Fz.hF (k:=2) F (by walk_at "bD3") m IX (by rintro _ _⟨ns,m,rfl,_,M,nd,rfl⟩;rfl) λn=>⟨_,(AF rfl (Ar 3 IX.nd (E4 A4))
   (AF rfl (CV (FQ Fi rfl (J8 rfl DH (A0 (AX BC n (A0 (qv 0) (A0 (B5 FE (qv 2) A9) A4))) A4)) (DY 4 IX.nd) (AF rfl (Ar 5 IX.nd (AX Kv n (A0 (qv 0) (A0 (qv 1) A4))))
   (AF rfl (Ar 6 IX.nd (AX BC n (A0 (qv 0) (A0 A9 A4))))
   (AF rfl (CV (BS (Il (Ay De (qv 6) A9) (Jr (Ay (SU n.HN) (qv 3) (E4 A4)))).pt (AF rfl (Ar 7 IX.nd (Am CF (qv 3) (AX BC n (A0 (qv 0) (A0 (Ag D2 Ad (A0 (qv 3) A4)) A4)))))
   (AF rfl (JO (i:=8) IX.nd rfl (Or.inl rfl) rfl rS (DO (Am CD (qv 7) A9)) (λ_ _ _ _=>by exact(KQ (Ay Ja (AX BC n (A0 (qv 0) (A0 A9 A4))) A9))) (λ_ _ _ _=>by exact(qv 1)))
   (AJ rfl (Ar 5 IX.nd (Cq (A0 (Am CD (qv 5) A9) (A0 (Am CD (qv 5) A9) (A0 (G6 Ry Gm (A0 (qv 8) A4)) A4)))))))) BR))
   (AF rfl (CV (BS (Il (Ay De (qv 6) A9) (Il (Ay (SU n.HN) (qv 3) (E4 A4)) (Jr (Ay De (AX BC n (A0 (qv 0) (A0 A9 A4))) A9)))).pt (AJ rfl (Ar 5 IX.nd (Cq (A0 (Am CD (qv 5) A9) (A0 (Am CD (qv 5) A9) (A0 (Am CD (Am CF (qv 3) (AX BC n (A0 (qv 0) (A0 (Ag D2 Ad (A0 (qv 3) A4)) A4)))) A9) A4)))))) BR))
   (AJ rfl (FI (LH NQ ZH6 PySem.F.type_list_insert yw (qv 3) (A0 (AX BC n (A0 (qv 0) (A0 (B5 FE (Ag D2 Ad (A0 (qv 3) A4)) A9) A4))) (A0 (qv 5) A4)))))))))))
   (AJ rfl (Ak (qv 3))))),?_⟩
 rintro _ _⟨ns,m,rfl,W,M,nd,rfl⟩;show Ws [_,_,_,.any,.any,.any,.any,.any,.any] _ _ _
 walk_at "ww"
 refine⟨by simp,?_⟩;refine B0 (Ek (GJ (λ_ i A5=>∃(Ls:List Lp)(s4 B A d a:Slot),A5=[.AD,.is (.lst (ns.map .str)),.is (.int m),.own (Ls.map Lp.P),s4,B,A,d,a]/\Ls.length=i/\∀l∈Ls,l.Good ns) ?_))
 walk_at "ww"
 refine⟨by omega,by omega,λr Y h1=>⟨_,rfl,by omega,by omega,⟨[],_,_,_,_,_,rfl,rfl,by simp⟩,?_,?_⟩⟩
 .rintro i p A5 Q⟨Ls,s4,B,A,d,a,rfl,hL,s⟩;obtain⟨hi,rfl⟩:=RK Q;refine IE ?_
  walk_at "ww"
  refine⟨M,nd,λL g cs gd X=>?_⟩
  walk_at "ww"
  refine⟨by decide,by decide,λo T S=>?_⟩;have R:(Ls.map Lp.P).length<=12:=by rw[AG];omega
  refine MQ (λA5=>∃(l:Lp)(d a:Slot),A5=[.AD,.is (.lst (ns.map .str)),.is (.int m),.own (Ls.map Lp.P),.is (.int i),.is l.P,.is (.int o),d,a]/\l.Good ns) (Ek ?_) ?_
  .refine D8 (PH (k':=λb=>b=true->Ls≠[]) ?_ ?_)
   .walk_at "ww"
    refine BA (λc=>?_) (λc=>?_)
    .walk_at "ww"
     refine⟨by simp,_,.inl ⟨rfl,rfl,rfl,_,rfl,λh e=>?_⟩⟩;subst e;simp at h
    .walk_at "ww"
     exact λz=>by cases z
   .intro b G;refine BA (λc=>?_) (λc=>BU ⟨⟨L,g,cs⟩,_,_,rfl,gd⟩);have J:=G c;have H:0<(Ls.map Lp.P).length:=by rw[AG];exact List.length_pos_iff.mpr J
    walk_at "ww"
    refine⟨by omega,by omega,λq D C=>?_⟩;obtain⟨q,rfl⟩:=TY D;have u:q<Ls.length:=by rw[AG]at C;omega
    refine⟨_,Ls[q].P,rfl,Fl (by rw[Ah,Au u];rfl),?_⟩;have t:D1 ns Ls[q].r Ls[q].g Ls[q].cs:=s _ (KN u);have v:=D1.len t;refine B0 (Fx (ZBp ?_))
    walk_at "ww"
    refine⟨by rw[AG];omega,λx hx=>?_,λx hx=>A7 rfl rfl,λys E=>?_⟩
    .walk_at "ww"
     exact⟨by decide,by decide,λr _ _=>⟨_,rfl,CQ ⟨_,rfl,_,rfl,trivial⟩⟩⟩
    .obtain⟨ds,Ga,rfl⟩:=List.sublist_map_iff.mp E
     walk_at "ww"
     exact⟨by simp,⟨L,g,ds⟩,_,_,rfl,gd.rule,gd.g0,gd.g1,m7 Ga t.up,λy O=>t.sub y (Ga.subset O)⟩
  .rintro _⟨l,d,a,rfl,v⟩;refine MQ (λA5=>∃(l:Lp)(d a:Slot),A5=[.AD,.is (.lst (ns.map .str)),.is (.int m),.own (Ls.map Lp.P),.is (.int i),.is l.P,.is (.int o),d,a]/\l.Good ns) (Ek ?_) ?_
   .refine D8 (PH (k':=λb=>b=true->Ls≠[]) ?_ ?_)
    .walk_at "ww"
     refine BA (λc=>?_) (λc=>?_)
     .walk_at "ww"
      refine⟨by simp,_,.inl ⟨rfl,rfl,rfl,_,rfl,?_⟩⟩;refine BA (λc2=>PH (k':=λ_=>True) ?_ λb _ _ e=>?_) (λ_ z=>by cases z)
      .walk_at "ww"
       exact⟨by decide,by decide,λr _ _=>CQ ⟨rfl,_,rfl,trivial⟩⟩
      .subst e;simp at c2
     .walk_at "ww"
      exact λz=>by cases z
    .intro b G;refine BA (λc=>?_) (λc=>BU ⟨l,_,_,rfl,v⟩);have J:=G c;have H:0<(Ls.map Lp.P).length:=by rw[AG];exact List.length_pos_iff.mpr J
     walk_at "ww"
     refine⟨by omega,by omega,λq D C=>?_⟩;obtain⟨q,rfl⟩:=TY D;have u:q<Ls.length:=by rw[AG]at C;omega
     have t:D1 ns Ls[q].r Ls[q].g Ls[q].cs:=s _ (KN u);have I:D1 ns l.r l.g l.cs:=v;refine⟨_,Ls[q].P,rfl,Fl (by rw[Ah,Au u];rfl),_,.inr ⟨rfl,rfl,?_⟩⟩
     walk_at "ww"
     exact⟨by simp,⟨l.r,l.g,Ls[q].cs⟩,_,_,rfl,I.rule,I.g0,I.g1,t.up,t.sub⟩
   .rintro _⟨l,d,a,rfl,v⟩;refine jc rfl ?_
    walk_at "ww"
    refine⟨by omega,by omega,λj N V=>⟨_,rfl,N,by omega,A7 rfl ⟨by omega,Ls.take j.toNat++l::Ls.drop j.toNat,.is (.int i),.is l.P,.is (.int o),d,a,?_,?_,λU DX=>?_⟩⟩⟩
    .rw[Dv,D4,List.map_take,List.map_drop];rfl
    .rw[BI,BJ,Fg,IM];omega
    .rcases List.mem_append.mp DX with h|h
     .exact s _ (ZX h)
     .rcases List.mem_cons.mp h with h|h
      .subst h;exact v
      .exact s _ (mI h)
 .rintro A5⟨Ls,s4,B,A,d,a,rfl,hL,s⟩;refine RB rfl ⟨Ls,rfl,?_,s⟩;rw[hL,Hv];omega
def nR:Ap ["pot","row"] ["pot","row"] (AI Yr):=by walk_at "z1"
def oH(F:AE K "_law_text" "_law_text" Yr f fd)(m:mg "_law_text"=some (.ref f)):
  AH P w K mg Yd "_law_text" 3 ["pot","row"] (Af eI):=by
 refine Fz.hF (k:=2) F (by walk_at "bD2") m nR (by rintro _ _⟨ns,rfl,_,_,rfl⟩;rfl) λa=>⟨_,(AF rfl (BS (Il (Ay (SU a.HN) (qv 1) (E4 A4)) (Jr (Ay Ja (AX BC a (A0 (qv 0) (A0 A9 A4))) A9))).pt (AJ rfl (Ak (Am CF (qv 1) (AX BC a (A0 (qv 0) (A0 (Ag D2 Ad (A0 (qv 1) A4)) A4)))))) BR)
   (AJ rfl (Ak (Am CD (Cq (A0 (AX IW a (A0 (qv 0) (A0 (qv 1) A4))) (A0 CA (A0 CA A4)))) (AX BC a (A0 (qv 0) (A0 A9 A4))))))),?_⟩
 rintro _ _⟨ns,rfl,g,d,rfl⟩;show Ws [.AD,.is (.lst (ns.map .str))] _ _ _;have fin:∀{nx:List Slot->Prop},Ws [.AD,.is (.lst (ns.map .str))] (Hw (BE (Ip K) (Su (AZ (E7 (Mw K) [] E0 (AZ (Aj 0) (AZ (Aj 1) B6))) (AZ (tC (V.str "")) (AZ (tC (V.str "Dog")) B6)))) (E7 Hn [] E0 (AZ (Aj 0) (AZ (tC (V.int 3)) B6))))) nx (.is λp=>∃x,p=PV.str x/\HK x):=λ{_}=>by
  refine Bq (Nx (D3 (GY (Bz ?_))))
  walk_at "ww"
  refine⟨d,by omega,λz nz _=>?_⟩
  walk_at "ww"
  refine⟨by show 3<=100000;decide,_,.inr ⟨rfl,rfl,?_⟩⟩
  walk_at "ww"
  refine⟨by decide,by decide,λr h1 h2=>?_⟩;have h:r=0∨r=1∨r=2:=by omega
  rcases h with rfl|rfl|rfl
  .exact⟨_,_,rfl,rfl,z,rfl,aO nz⟩
  .exact⟨_,_,rfl,rfl,_,rfl,j3 (by decide) (by decide)⟩
  .exact⟨_,_,rfl,rfl,_,rfl,j3 (by decide) (by decide)⟩
 refine B0 (D8 (P5 (D9 (Yi (Bj rfl ⟨rfl,D3 (CC (Mx (E8 ⟨by simp,_,.inl ⟨rfl,rfl,rfl,_,rfl,?_⟩⟩)))⟩)))));rw[AG];refine BA (λc=>?_) (λc=>BU fin);have i:ns.length≠0:=λz=>by rw[z]at c;cases c
 walk_at "ww"
 refine⟨by decide,by decide,λe h1 h2=>?_⟩
 walk_at "ww"
 refine BA (λc=>?_) (λc=>BU fin)
 walk_at "ww"
 rw[AG];refine⟨by omega,by omega,λb l j=>?_⟩;obtain⟨k,rfl⟩:∃k:Nat,b=k:=⟨b.toNat,by omega⟩;obtain⟨x,ex⟩:∃x,ns[k]?=some x:=⟨_,Au (by omega)⟩;exact⟨_,_,rfl,Fl (by rw[Ah,ex];rfl),x,rfl,aO (d x (C8 ex))⟩
def jM:Ap ["bad","loops","row","one","other","lacks"] ["bad","loops","row","one","other"] (AI Q0):=by walk_at "z1"
def zR:=Sc [(".0",.local),("name",.local),("row",.free)]
def zY:D7 ["bad","loops","row","one","other","lacks"] (AI Q0) zR "name" ["row"] [2]:=by walk_at "z2"
def md(F:AE K "_law_due" "_law_due" Q0 f fd)(m:mg "_law_due"=some (.ref f)):
  AH P w K mg Yd "_law_due" 1 ["bad","loops","row","one","other"] (Af hU):=by
 refine Fz.hF (k:=0) F (by walk_at "bD5") m jM (by rintro _ _⟨bad,ns,zs,x,y,rfl,_,rfl⟩;rfl) λd=>⟨_,(AF rfl (BS (Ay Ja (Ag D2 Ad (A0 (qv 1) A4)) A9) (AJ rfl (Ak (Cq (A0 A9 (A0 CA A4))))) BR)
   (AF rfl (BS (JN (qv 0)) (AJ rfl (Ak (Cq (A0 A9 (A0 CA A4))))) BR)
   (AF rfl (JO (i:=5) jM.nd rfl (Or.inl rfl) rfl zY (DO (Cq (A0 (qv 3) (A0 (qv 4) A4)))) (λ_ _ _ _=>by exact(KQ (Ay (show BD _ (compareOp .NotIn) (FP K true)from YR) (qv 1) (qv 0)))) (λ_ _ _ _=>by exact(qv 1)))
   (AF rfl (BS (Ay (SU d.HN) (qv 5) (E4 A4)) (AJ rfl (Ak (Cq (A0 A9 (A0 (Am CF (qv 5) A9) A4))))) BR)
   (AJ rfl (Ak HZ)))))),?_⟩
 rintro _ _⟨bad,ns,zs,x,y,rfl,g,rfl⟩;show Ws [.is (.bl bad),.is (.lst (zs.map Lz.P)),.is (.lst (ns.map .str)),.is (.str x),.is (.str y),.any] _ _ _
 walk_at "ww"
 rw[AG];unfold Mf;refine BA (λc=>?_) (λc=>?_)
 .rw[oM (Int.ofNat_lt.mp (pQ c))]
  walk_at "ww"
  exact⟨by show 2<=100000;decide,rfl⟩
 rw[nr (λz=>c (oW (Int.ofNat_lt.mpr z)))];refine BU ?_
 walk_at "ww"
 refine BA (λc=>?_) (λc=>?_)
 .rw[oM c]
  walk_at "ww"
  exact⟨by show 2<=100000;decide,rfl⟩
 rw[nr c];refine BU ?_;refine B0 (Fx (Fw PV.str (λz=>decide (z∉ns)) PV.str (Ef (DG (GY (Bz (A7 rfl (Bz (A7 rfl (E8 ⟨by show 2<=100000;decide,_,.inr ⟨rfl,[x,y],rfl,by show 2<=100000;decide,λz _=>?_,λz _ _=>A7 rfl rfl,?_⟩⟩)))))))) (λa b e=>by injection e)))
 .show Wt [.is (.lst (ns.map .str)),.is (.str z)] _ _
  walk_at "ww"
  exact decide_not.symm
 generalize hL:([x,y].filter λz=>decide (z∉ns))=L;refine B0 (D8 (D9 (Yi (Km rfl ⟨rfl,D3 (CC (Mx (E8 ⟨by simp,_,.inl ⟨rfl,rfl,rfl,_,rfl,?_⟩⟩)))⟩))));cases L with
 |nil=>rw[nr (by decide)];exact BU (Bq (EE rfl))
 |cons a L=>
  rw[oM (by rfl)];exact Bq (GY (Bz (CQ (Bz (GW (Km rfl ⟨rfl,CQ ⟨_,_,rfl,Fl (j:=0) rfl,E8 ⟨by show 2<=100000;decide,rfl⟩⟩⟩))))))
def cO:Ap ["e","place","some"] ["e","place"] (AI Xu):=by walk_at "z1"
def uJ(F:AE K "_law_alone" "_law_alone" Xu f fd)(m:mg "_law_alone"=some (.ref f)):
  AH P w K mg Yd "_law_alone" 1 ["e","place"] (Af (cD K [EU,EX,Ac,EO,EW,EB,EJ,EL,EA,EM,AW,AS,EY,EG,EH,ET] C0)):=by
 refine Fz.hF (k:=0) F (by walk_at "bD2") m cO (by rintro _ _⟨C,ms,xs,i,rfl,_,_,_,rfl⟩;rfl) λc=>⟨_,(AF rfl (Ar 2 cO.nd (E4 (A0 (Ag E2 DT (A0 (qv 0) (A0 (Dp (v:=.ref EU) (by rfl) Yp rfl) A4))) (A0 (Ag E2 DT (A0 (qv 0) (A0 (Dp (v:=.ref EX) (by rfl) V2 rfl) A4))) (A0 (Ag E2 DT (A0 (qv 0) (A0 (Dp (v:=.ref Ac) (by rfl) Mp rfl) A4))) (A0 (Ag E2 DT (A0 (qv 0) (A0 (Dp (v:=.ref EO) (by rfl) Ur rfl) A4))) (A0 (Ag E2 DT (A0 (qv 0) (A0 (Dp (v:=.ref EW) (by rfl) VM rfl) A4))) (A0 (Ag E2 DT (A0 (qv 0) (A0 (Dp (v:=.ref EB) (by rfl) XF rfl) A4))) (A0 (Ag E2 DT (A0 (qv 0) (A0 (Dp (v:=.ref EJ) (by rfl) Ux rfl) A4))) (A0 (Ag E2 DT (A0 (qv 0) (A0 (Dp (v:=.ref EL) (by rfl) Yn rfl) A4))) (A0 (Ag E2 DT (A0 (qv 0) (A0 (Dp (v:=.ref EA) (by rfl) Vy rfl) A4))) (A0 (Ag E2 DT (A0 (qv 0) (A0 (Dp (v:=.ref EM) (by rfl) Uw rfl) A4))) (A0 (Ag E2 DT (A0 (qv 0) (A0 (Dp (v:=.ref AW) (by rfl) N9 rfl) A4))) (A0 (Ag E2 DT (A0 (qv 0) (A0 (Dp (v:=.ref AS) (by rfl) Mz rfl) A4))) (A0 (Ag E2 DT (A0 (qv 0) (A0 (Dp (v:=.ref EY) (by rfl) Yc rfl) A4))) (A0 (Ag E2 DT (A0 (qv 0) (A0 (Dp (v:=.ref EG) (by rfl) Vj rfl) A4))) (A0 (Ag E2 DT (A0 (qv 0) (A0 (Dp (v:=.ref EH) (by rfl) WQ rfl) A4))) (A0 (Ag E2 DT (A0 (qv 0) (A0 (Dp (v:=.ref ET) (by rfl) VU rfl) A4))) A4))))))))))))))))))
   (AF rfl (BS (O9 (O6 (JN (Ag E2 DT (A0 (qv 0) (A0 (Dp (v:=.ref C0) (by rfl) L5 rfl) A4))))) (Nd (O6 (JN (Ag E2 DT (A0 (qv 0) (A0 (vy "ValueError" W7) A4))))))).pt (AJ rfl (Ak GC)) BR)
   (AJ rfl (Ak (Jn (FW De (LH NQ PySem.F.slot_list_count PySem.F.type_list_count wI (qv 2) (A0 GC A4)) A9) (LA (Am CF (qv 2) (qv 1)))))))),?_⟩
 rintro _ _⟨C,ms,xs,i,rfl,a,hi,_,rfl⟩;show Ws [_,_,.any] _ _ _
 walk_at "ww"
 refine Eg a rfl 0 rfl ?_
 walk_at "ww"
 refine Eg a rfl 1 rfl ?_
 walk_at "ww"
 refine Eg a rfl 2 rfl ?_
 walk_at "ww"
 refine Eg a rfl 3 rfl ?_
 walk_at "ww"
 refine Eg a rfl 4 rfl ?_
 walk_at "ww"
 refine Eg a rfl 5 rfl ?_
 walk_at "ww"
 refine Eg a rfl 6 rfl ?_
 walk_at "ww"
 refine Eg a rfl 7 rfl ?_
 walk_at "ww"
 refine Eg a rfl 8 rfl ?_
 walk_at "ww"
 refine Eg a rfl 9 rfl ?_
 walk_at "ww"
 refine Eg a rfl 10 rfl ?_
 walk_at "ww"
 refine Eg a rfl 11 rfl ?_
 walk_at "ww"
 refine Eg a rfl 12 rfl ?_
 walk_at "ww"
 refine Eg a rfl 13 rfl ?_
 walk_at "ww"
 refine Eg a rfl 14 rfl ?_
 walk_at "ww"
 refine Eg a rfl 15 rfl ?_
 walk_at "ww"
 refine⟨by simp,?_⟩;refine B0 (D8 (KU (Lx (IF (Vb a.ex rfl rfl a.st ⟨true,rfl,HY ?_⟩)))));refine Lx (IF (Vb a.ex rfl rfl a.ve ⟨true,rfl,HY (BU ?_)⟩));refine Bq (Ht (Q7 (pP (Km rfl ⟨rfl,[decide (0=i),decide (1=i),decide (2=i),decide (3=i),decide (4=i),decide (5=i),decide (6=i),decide (7=i),decide (8=i),decide (9=i),decide (10=i),decide (11=i),decide (12=i),decide (13=i),decide (14=i),decide (15=i)],rfl,GO ⟨true,rfl,CQ ?_⟩⟩))));have b:i<16:=hi;refine⟨rfl,_,rfl,Jv (by rw[yF b];rfl) (GW (Km rfl ⟨rfl,A7 rfl ⟨_,_,rfl,ZAC b,rfl⟩⟩))⟩
def o6:Ap ["found","due"] ["found","due"] (AI Vw):=by walk_at "z1"
def tU(F:AE K "_law_right" "_law_right" Vw f fd)(m:mg "_law_right"=some (.ref f)):
  AH P w K mg Yd "_law_right" 2 ["found","due"] (Af (aa AW AS Ac)):=by
 refine Fz.hF (k:=1) F (by walk_at "bD2") m o6 (by rintro _ _⟨o,d,rfl,_,rfl⟩;rfl) λa=>⟨_,(AF rfl (BS (O9 (Ay O3 (qv 1) HZ) (Nd (Ay O3 (qv 0) HZ))).pt (AJ rfl (Ak (Jn (FW O3 (qv 0) HZ) (LA (FW O3 (qv 1) HZ))))) BR)
   (AJ rfl (Ak (Jn (AX VP a (A0 (qv 0) (A0 (Am CD (qv 1) A9) A4))) (LA (ZDg (FW Sa (Am CD (qv 1) A9) A9) (LA (FW De (og (qv 0)) (Am CD (qv 1) A9))))))))),?_⟩
 rintro _ _⟨o,d,rfl,hd,rfl⟩;have Md:=Uc Md;have PQ:=Uc PQ;have OW:=Uc OW;cases hd with
 |none=>
  show Ws [.is .A8,.is .A8] _ _ _;refine B0 (D8 (KU (D9 (J5 (A7 rfl (EE ⟨rfl,_,rfl,Jv rfl ?_⟩))))));rw[oM rfl];exact Bq (Ht (J5 (A7 rfl (EE ⟨rfl,_,rfl,Jv rfl (J5 (A7 rfl (EE ⟨rfl,rfl⟩)))⟩))))
 |many=>
  show Ws [.is (.exc AW [] []),.is (.tup [.int 10,.str ""])] _ _ _;refine B0 (D8 (KU (D9 (J5 (A7 rfl (EE ⟨rfl,_,rfl,LJ (λz=>by cases z) ?_⟩))))));refine D9 (J5 (A7 rfl (EE ⟨rfl,_,rfl,LJ (λz=>by cases z) (BU ?_)⟩)));refine Bq (Ht (wp_call (AR (A7 rfl (AR (Nx (J6 rfl ⟨rfl,CQ ⟨_,_,rfl,rfl,BL ⟨_,⟨AW,_,_,10,rfl,PQ,by show 10<16;decide,rfl,rfl⟩,?_⟩⟩⟩)))))));rintro _ rfl;refine⟨_,rfl,Jv rfl ?_⟩
  walk_at "ww"
  exact Jv (by decide) rfl
 |bad=>
  show Ws [.is (.exc AS [] []),.is (.tup [.int 11,.str ""])] _ _ _;refine B0 (D8 (KU (D9 (J5 (A7 rfl (EE ⟨rfl,_,rfl,LJ (λz=>by cases z) ?_⟩))))));refine D9 (J5 (A7 rfl (EE ⟨rfl,_,rfl,LJ (λz=>by cases z) (BU ?_)⟩)));refine Bq (Ht (wp_call (AR (A7 rfl (AR (Nx (J6 rfl ⟨rfl,CQ ⟨_,_,rfl,rfl,BL ⟨_,⟨AS,_,_,11,rfl,OW,by show 11<16;decide,rfl,rfl⟩,?_⟩⟩⟩)))))));rintro _ rfl;refine⟨_,rfl,Jv rfl ?_⟩
  walk_at "ww"
  exact Jv (by decide) rfl
 |gone x=>
  show Ws [.is (.exc Ac ["name"] [.str x]),.is (.tup [.int 2,.str x])] _ _ _;refine B0 (D8 (KU (D9 (J5 (A7 rfl (EE ⟨rfl,_,rfl,LJ (λz=>by cases z) ?_⟩))))));refine D9 (J5 (A7 rfl (EE ⟨rfl,_,rfl,LJ (λz=>by cases z) (BU ?_)⟩)));refine Bq (Ht (wp_call (AR (A7 rfl (AR (Nx (J6 rfl ⟨rfl,CQ ⟨_,_,rfl,rfl,BL ⟨_,⟨Ac,_,_,2,rfl,Md,by show 2<16;decide,rfl,rfl⟩,?_⟩⟩⟩)))))));rintro _ rfl;refine⟨_,rfl,Jv rfl ?_⟩
  walk_at "ww"
  refine LJ (by decide) (Q7 (ZFk (A7 rfl ⟨Ac,_,rfl,Md.ex.toExGet,hd2,Vc,?_⟩)))
  walk_at "ww"
  exact sg PV.bl (oW rfl)
def MK:Ap ["pot","row","loop","rule","gap","coming","way","name"] ["pot","row","loop"] (AI WB):=by walk_at "z1"
def sP(F:AE K "_law_spoilt" "_law_spoilt" WB f fd)(m:mg "_law_spoilt"=some (.ref f)):
  AH P w K mg Yd "_law_spoilt" 3 ["pot","row","loop"] (Af gu):=by
 refine Fz.hF (k:=2) F (by walk_at "bD3") m MK (by rintro _ _⟨ns,L,rfl,_,_,_,rfl⟩;rfl) λd=>⟨_,(AF rfl (NU (qv 2) (Y3 rfl (LO (DY 3 MK.nd) (LO (DY 4 MK.nd) (LO (DY 5 MK.nd) UG)))))
   (AF rfl (Ar 6 MK.nd (AX BC d (A0 (qv 0) (A0 A9 A4))))
   (AF rfl (BS (Ay De (qv 6) A9) (AJ rfl (Ak (Cq (A0 (Am CD (Cq (A0 CA (A0 CA (A0 CA (A0 CA A4))))) (AX BC d (A0 (qv 0) (A0 A9 A4)))) (A0 (qv 4) (A0 (qv 5) A4)))))) BR)
   (AF rfl (BS (Ay De (qv 6) A9) (AJ rfl (Ak (Cq (A0 (qv 3) (A0 (Am CD (Cq (A0 (XW Z4 A9) (A0 (B5 FE (Ag D2 Ad (A0 (qv 1) A4)) A9) (A0 (B5 Lc A9 A9) A4)))) (AX BC d (A0 (qv 0) (A0 A9 A4)))) (A0 (qv 5) A4)))))) BR)
   (AF rfl (BS (Il (Ay De (qv 6) A9) (Jr (Ay Ja (Ag D2 Ad (A0 (qv 5) A4)) A9))).pt (AJ rfl (Ak (Cq (A0 (qv 3) (A0 (qv 4) (A0 (B5 YN (Oc UA (qv 5) (Kj A9) OE) (Oc UA (qv 5) OE (Kj A9))) A4)))))) BR)
   (AF rfl (BS (Il (Ay De (qv 6) A9) (Jr (Ay (Pb d.HN) (qv 5) (Cq A4)))).pt (AJ rfl (Ak (Cq (A0 (qv 3) (A0 (qv 4) (A0 (B5 YN (Oc UA (qv 5) OE (Kj A9)) (qv 5)) A4)))))) BR)
   (AF rfl (Ar 7 MK.nd (AX IW d (A0 (qv 0) (A0 (qv 1) A4))))
   (AJ rfl (Ak (Cq (A0 (qv 3) (A0 (qv 4) (A0 (G6 Ry Gm (A0 (Ag RL Cc (A0 (B5 YN (qv 5) (Cq (A0 (qv 7) A4))) A4)) A4)) A4))))))))))))),?_⟩
 rintro _ _⟨ns,⟨r,g,cs⟩,rfl,v,p,gd,rfl⟩;have gd:D1 ns r g cs:=gd;have y:=D1.len gd;show Ws [.AD,.is (.lst (ns.map .str)),.is (.tup [.str r,.int g,.tup (cs.map .str)]),.any,.any,.any,.any,.any] _ _ _;refine B0 (r8 (A7 rfl (qw ⟨_,_,_,rfl,?_⟩)));show Ws [.AD,.is (.lst (ns.map .str)),.is (.tup [.str r,.int g,.tup (cs.map .str)]),.is (.str r),.is (.int g),.is (.tup (cs.map .str)),.any,.any] _ _ _
 walk_at "ww"
 refine⟨by decide,by decide,λw u s=>?_⟩;show Ws [.AD,.is (.lst (ns.map .str)),.is (.tup [.str r,.int g,.tup (cs.map .str)]),.is (.str r),.is (.int g),.is (.tup (cs.map .str)),.is (.int w),.any] _ _ _
 walk_at "ww"
 refine BA (λc=>?_) (λc=>BU ?_)
 .walk_at "ww"
  refine⟨by show 4<=100000;decide,_,.inr ⟨rfl,rfl,?_⟩⟩
  walk_at "ww"
  refine⟨by decide,by decide,λq n l=>?_⟩;obtain⟨x,ex,i⟩:∃x:Str,Bf [PV.str "",.str "any",.str "None",.str "each"] q=some (.str x)/\LB x=false:=by
   have h:q=0∨q=1∨q=2∨q=3:=by omega
   rcases h with rfl|rfl|rfl|rfl
   .exact⟨_,rfl,by decide +kernel⟩
   .exact⟨_,rfl,by decide +kernel⟩
   .exact⟨_,rfl,by decide +kernel⟩
   .exact⟨_,rfl,by decide +kernel⟩
  exact⟨_,_,rfl,ex,Bz (A7 rfl (Bz (A7 rfl (E8 ⟨by show 3<=100000;decide,⟨x,g,cs⟩,rfl,by show cs.length<64;omega,oV i⟩))))⟩
 walk_at "ww"
 refine BA (λc=>?_) (λc=>BU ?_)
 .walk_at "ww"
  refine⟨by unfold iQ;decide +kernel,E8 ⟨by show 3<=100000;decide,_,.inr ⟨rfl,rfl,?_⟩⟩⟩
  walk_at "ww"
  refine⟨by decide,by decide,λq n l=>?_⟩;rw[AG];obtain⟨x,ex,i⟩:∃x:Int,Bf [PV.int (-1),.int ((ns.length:Int)+1),.int (10 ^ Int.toNat 59)] q=some (.int x)/\¬ (0<=x/\x<=ns.length):=by
   have h:q=0∨q=1∨q=2:=by omega
   rcases h with rfl|rfl|rfl
   .exact⟨_,rfl,by omega⟩
   .exact⟨_,rfl,by omega⟩
   .refine⟨_,rfl,λh=>?_⟩;have h2:(10:Int) ^ Int.toNat 59<=ns.length:=h.2;have A:(1000:Int)<=(10:Int) ^ Int.toNat 59:=by decide +kernel
    omega
  exact⟨_,_,rfl,ex,Bz (A7 rfl (E8 ⟨by show 3<=100000;decide,⟨r,x,cs⟩,rfl,by show cs.length<64;omega,nA i⟩))⟩
 refine B0 (D8 (PH (k':=λb=>b=true->∃a b t,cs=a::b::t) ?_ λb e=>?_))
 .refine P5 (D9 ?_)
  walk_at "ww"
  refine BA (λc=>?_) (λc z=>by cases z);refine D9 (dN (Kr (J6 rfl ⟨_,rfl,CQ ⟨_,rfl,_,rfl,λz=>?_⟩⟩)));have z:=pQ z;rw[AG]at z;rcases cs with _|⟨a,_|⟨b,t⟩⟩
  .exact absurd z (by decide)
  .exact absurd z (by show ¬ (1:Int)<1;decide)
  .exact⟨a,b,t,rfl⟩
 refine BA (λc=>?_) (λc=>BU ?_)
 .obtain⟨a,b,t,rfl⟩:=e c;have o:(a::b::t).length=t.length+2:=rfl;refine Bq (GY (Bz (A7 rfl (Bz (A7 rfl (Bz (US (Ye (J6 rfl ⟨rfl,MN (CQ ⟨_,rfl,Ql ⟨_,rfl,Ye (J6 rfl ⟨rfl,Ql (MN (CQ ⟨_,rfl,_,rfl,?_,E8 ⟨by show 3<=100000;decide,⟨r,g,b::t++[a]⟩,?_,?_,UO λh=>qM gd.up h.1⟩⟩))⟩)⟩⟩)⟩)))))))))
  .rw[show Es ((a::b::t).map PV.str) (some 1) none=((a::b::t).map PV.str).drop 1 from Zz _ 1,show Es ((a::b::t).map PV.str) none (some 1)=((a::b::t).map PV.str).take 1 from QY _ 1,IM,Fg,AG];omega
  .rw[show Es ((a::b::t).map PV.str) (some 1) none=(b::t).map PV.str from Zz _ 1,show Es ((a::b::t).map PV.str) none (some 1)=[a].map PV.str from QY _ 1,<- Dv];rfl
  .show(b::t++[a]).length<64;rw[BI];show(t.length+1)+1<64;omega
 refine B0 (D8 (PH (k':=λb=>b=true->∃a t,cs=a::t) ?_ λb e=>?_))
 .refine P5 (D9 ?_)
  walk_at "ww"
  refine BA (λc=>?_) (λc z=>by cases z);refine D9 (iR (J6 rfl ⟨cs,rfl,D3 (GY (E8 ⟨by simp,_,.inr ⟨rfl,rfl,[],rfl,_,rfl,λz=>?_⟩⟩))⟩));cases cs with
  |nil=>cases z
  |cons a t=>exact⟨a,t,rfl⟩
 refine BA (λc=>?_) (λc=>BU ?_)
 .obtain⟨a,t,rfl⟩:=e c;have o:(a::t).length=t.length+1:=rfl;refine Bq (GY (Bz (A7 rfl (Bz (A7 rfl (Bz (US (Ye (J6 rfl ⟨rfl,Ql (MN (CQ ⟨_,rfl,_,rfl,A7 rfl ⟨_,rfl,?_,E8 ⟨by show 3<=100000;decide,⟨r,g,a::a::t⟩,?_,by show(t.length+1)+1<64;omega,UO λh=>by have:=Qi h.1;simp at this⟩⟩⟩))⟩)))))))))
  .rw[show Es ((a::t).map PV.str) none (some 1)=((a::t).map PV.str).take 1 from QY _ 1,Fg,AG];omega
  .rw[show Es ((a::t).map PV.str) none (some 1)=[a].map PV.str from QY _ 1,<- Dv];rfl
 walk_at "ww"
 refine⟨p,by omega,λx nx hx=>?_⟩;show Ws [.AD,.is (.lst (ns.map .str)),.is (.tup [.str r,.int g,.tup (cs.map .str)]),.is (.str r),.is (.int g),.is (.tup (cs.map .str)),.is (.int w),.is (.str x)] _ _ _;refine Bq (GY (Bz (A7 rfl (Bz (A7 rfl (Bz (U8 rfl (D3 (CC (kD (D3 (US (A7 rfl ⟨_,rfl,GY (Bz (A7 rfl (E8 ⟨by simp,_,rfl,?_,_,.inr ⟨rfl,cs++[x],by rw[Dv];rfl,?_,λms j _=>⟨_,.inl ⟨rfl,E8 ⟨by show 3<=100000;decide,⟨r,g,ms⟩,rfl,?_,?_⟩⟩⟩⟩⟩)))⟩)))))))))))))
 .rw[AG];show cs.length+1<=_;omega
 .rw[BI];show cs.length+1<_;omega
 .have:=j.length_eq;rw[BI]at this;show ms.length<64;have:ms.length=cs.length+1:=this;omega
 .exact UO λh=>hx (h.2 x (j.mem_iff.mpr (C1 _ B1)))
def ZA6:Ap ["row","gap"] ["row","gap"] (AI Wf):=by walk_at "z1"
def ZC4(F:AE K "is_gap" "is_gap" Wf f fd)(m:mg "is_gap"=some (.ref f)):
  AH P w K mg Yd "is_gap" 1 ["row","gap"] (Af lK):=by
 refine Fz.hF (k:=0) F (by walk_at "bD2") m ZA6 (by rintro _ _⟨tp,ns,g,rfl,rfl⟩;rfl) λa=>⟨_,(AJ rfl (Ak (jr Y9 Y9 A9 (qv 1) (Ag D2 Ad (A0 (qv 0) A4))))),?_⟩
 rintro _ _⟨tp,ns,g,rfl,rfl⟩;show Ws [_,_] _ _ _;refine Bq (jV ?_)
 walk_at "ww"
 refine BA (λc=>?_) (λc=>?_)
 .walk_at "ww"
  rw[AG];have h:=pQ c;cases e:decide (g<=(ns.length:Int))with
  |true=>rw[oW (show inR g 0 ns.length from⟨h,pQ e⟩)]
  |false=>rw[sX (λz:inR g 0 ns.length=>of_decide_eq_false e z.2)]
 .rw[sX (λz:inR g 0 ns.length=>c (oW z.1))]
def qg:Ap ["row","coming"] ["row","coming"] (AI Rq):=by walk_at "z1"
def rF:=Sc [(".0",.local),("name",.local),("row",.free)]
def ZED:D7 ["row","coming"] (AI Rq) rF "name" ["row"] [0]:=by walk_at "z2"
def xD(F:AE K "is_coming" "is_coming" Rq f fd)(m:mg "is_coming"=some (.ref f)):
  AH P w K mg Yd "is_coming" 1 ["row","coming"] (Af d6):=by
 refine Fz.hF (k:=0) F (by walk_at "bD2") m qg (by rintro _ _⟨tp,ns,ts,rfl,a,rfl⟩;rfl) λd=>⟨_,(AJ rfl (Ak (Jn (FW (YD d.HN) (G6 TH JH (A0 (qv 1) A4)) (Ag (ZFQ rfl) Cc (A0 (G6 (Ys rfl) G0 (A0 (qv 1) A4)) A4))) (LA (Ag (Qm rfl) Gq (A0 (Jp rfl ZED (DO (qv 1)) (λ_ _ _ _=>by exact Hc) (λ_ _ _ _=>by exact(FW (show BD _ (compareOp .In) (FP K false)from Jd) (qv 1) (qv 0)))) A4)))))),?_⟩
 rintro _ _⟨tp,ns,ts,rfl,a,rfl⟩;show Ws [_,_] _ _ _
 walk_at "ww"
 refine⟨a,λus h g b=>?_⟩
 walk_at "ww"
 unfold Ki;have e:decide (ts=us)=decide (Up ts):=by rw[KI,ZAE,ZAE];exact vG h g b
 rw[e];refine BA (λc=>?_) (λc=>by rw[nr c])
 walk_at "wp"
 refine D3 (CC (ZDu PV.str (λx=>.bl (decide (x∈ns))) ?_ str_inj))
 walk_at "ww"
 refine⟨by omega,λx hx=>by walk_at "ww"; rfl,?_⟩
 walk_at "ww"
 rw[oM c]
def zW:Ap ["row","thing"] ["row","thing"] (AI Ym):=by walk_at "z1"
def zg(F:AE K "is_loop" "is_loop" Ym f fd)(m:mg "is_loop"=some (.ref f)):
  AH P w K mg Yd "is_loop" 2 ["row","thing"] (Af eR):=by
 refine Fz.hF (k:=1) F (by walk_at "bD2") m zW (by rintro _ _⟨tp,ns,r,g,cs,rfl,_,rfl⟩;rfl) λa=>⟨_,(AJ rfl (Ak (Jn (FW Jd (Am CD (qv 1) A9) (Dp (v:=.ref Jy) (by rfl) Xz rfl)) (Jn (AX Vz a (A0 (qv 0) (A0 (Am CD (qv 1) A9) A4))) (LA (AX Y7 a (A0 (qv 0) (A0 (Am CD (qv 1) A9) A4)))))))),?_⟩
 rintro _ _⟨tp,ns,r,g,cs,rfl,b,rfl⟩;have C:N1 K Jy ([("none":Str), "ahead","all"].map .str):=N1.of V1 rfl rfl;unfold Nq;show Ws [_,_] _ _ _;refine Bq (Ht (ZDE (neg:=false) C ?_))
 walk_at "ww"
 refine BA (λc=>?_) (λc=>?_)
 .refine Ht (wp_call (DW (Mb rfl (AR ?_))))
  walk_at "ww"
  refine BL ⟨_,⟨tp,ns,g,rfl,rfl⟩,?_⟩;rintro _ rfl;refine⟨_,rfl,BA (λc2=>?_) (λc2=>?_)⟩
  .refine wp_call (DW (Mb rfl (AR ?_)))
   walk_at "ww"
   refine BL ⟨_,⟨tp,ns,cs,rfl,b,rfl⟩,?_⟩;rintro _ rfl;unfold Dg;rw[show LB r=true from c,c2];rfl
  .unfold Dg;rw[show decide (inR g 0 ns.length)=false from by cases e:decide (inR g 0 ns.length) <;> simp_all,TV,Lj]
 .unfold Dg;rw[show LB r=false from by cases e:LB r <;> first|rfl|exact absurd e c];rfl
def ZDY:Ap ["row","loop"] ["row","loop"] (AI YO):=by walk_at "z1"
def ZA4(F:AE K "check_loop" "check_loop" YO f fd)(m:mg "check_loop"=some (.ref f)):
  CS P w K mg Yd "check_loop" 3 ["row","loop"] (Ct (gi AS)):=by
 refine Fz.hX (k:=2) F (by walk_at "bD2") m ZDY (by rintro _ _ _⟨tp,ns,r,g,cs,rfl,_,rfl,rfl⟩;rfl) λE b=>⟨_,(AJ rfl (BS (O6 (JN (AX Yh b (A0 (qv 0) (A0 (qv 1) A4))))) (AJ rfl (aE (by rfl) Mz XN rfl rfl FZ (A0 CA A4))) BR)),?_⟩
 rintro _ _ _⟨tp,ns,r,g,cs,rfl,a,rfl,rfl⟩;intro i0;show Ws [_,_] _ _ _;refine D8 (Lx (IF (wp_call (DW (Mb rfl (AR (A7 rfl (BL ⟨_,⟨tp,ns,r,g,cs,rfl,a,rfl⟩,?_⟩))))))));rintro _ rfl;refine⟨_,rfl,BA (λc=>?_) (λc=>?_)⟩
 .refine ck ?_
  walk_at "ww"
  exact⟨by simp,trivial,by cases e:Dg ns r g cs <;> simp_all,rfl⟩
 .exact BU ⟨_,rfl,by cases e:Dg ns r g cs <;> simp_all⟩
def lY:Ap ["row","loops","loop"] ["row","loops"] (AI Y2):=by walk_at "z1"
def qz(F:AE K "check_loops" "check_loops" Y2 f fd)(m:mg "check_loops"=some (.ref f)):
  CS P w K mg Yd "check_loops" 4 ["row","loops"] (Ct (OY AW AS)):=by
 refine Fz.hX (k:=3) F (by walk_at "bD2") m lY (by rintro _ _ _⟨tp,ns,a,zs,rfl,_,rfl,rfl⟩;rfl) λE n=>⟨_,(AF rfl (BS (Ay Ja (Ag D2 Ad (A0 (qv 1) A4)) (Dp (v:=.int 12) (by rfl) WA ⟨_,rfl⟩)) (AJ rfl (aE (by rfl) N9 YT rfl rfl FZ (A0 CA A4))) BR)
   (AJ rfl (FQ j7 rfl (DO (qv 1)) (DY 2 lY.nd) (AJ rfl (FI (GI UK n (by decide) FZ rfl (A0 (qv 0) (A0 (qv 2) A4)))))))),?_⟩
 rintro _ _ _⟨tp,ns,a,zs,rfl,l,rfl,rfl⟩;intro i0;show Ws [.sq tp (ns.map .str),.sq a (zs.map Lz.P),.any] _ _ _
 walk_at "ww"
 rw[AG];refine BA (λc=>?_) (λc=>?_)
 .have c:(12:Int)<zs.length:=pQ c;refine ck ?_
  walk_at "ww"
  exact⟨by simp,trivial,x9 (by omega)⟩
 have c:¬ 12<zs.length:=λz=>c (oW (by omega));refine BU (GJ (λ_ i A5=>∃s,A5=[.sq tp (ns.map .str),.sq a (zs.map Lz.P),s]/\(zs.take i).all (Lz.ok ns)=true) (Ef (XH rfl ⟨⟨_,rfl,rfl⟩,?_,?_⟩)))
 .rintro i p A5 b⟨s,rfl,hi⟩;rw[Ah]at b;obtain⟨z,j,rfl⟩:=Option.map_eq_some_iff.mp b;have d:=C8 j;refine IE ?_;refine JX (GN (DW (Mb rfl (AR (A7 rfl (BL ⟨_,_,⟨tp,ns,z.r,z.g,z.cs,rfl,l.cl z d,rfl,rfl⟩,trivial,λe h=>?_,?_⟩))))))
  .obtain⟨h,rfl⟩:=h;exact tX c d h
  .intro _ h;exact⟨_,rfl,by rw[yo j hi];exact h⟩
 .rintro A5⟨s,rfl,hi⟩;rw[AG,Gw]at hi;exact⟨_,rfl,bK c hi⟩
def nX:Ap ["row","name"] ["row","name"] (AI WJ):=by walk_at "z1"
def ZEf(F:AE K "place_of" "place_of" WJ f fd)(m:mg "place_of"=some (.ref f)):
  CS P w K mg Yd "place_of" 3 ["row","name"] (Ct (iX Ac)):=by
 refine Fz.hX (k:=2) F (by walk_at "bD2") m nX (by rintro _ _ _⟨ns,x,rfl,_,rfl,rfl⟩;rfl) λE b=>⟨_,(AF rfl (BS (Ay YR (qv 1) (qv 0)) (AJ rfl (yb Xr (by rfl) Mp b (by decide) rfl rfl FZ (A0 (qv 1) A4))) BR)
   (AJ rfl (Ak (LH NQ ZH5 PySem.F.type_list_index ZDw (qv 0) (A0 (qv 1) A4))))),?_⟩
 rintro _ _ _⟨ns,x,rfl,a,rfl,rfl⟩;intro i;show Ws [_,_] _ _ _
 walk_at "ww"
 refine BA (λc=>?_) (λc=>?_)
 .refine o5 (A7 rfl ⟨a.1,trivial,?_,rfl⟩);intro h;rw[oW h]at c;cases c
 .have hx:x∈ns:=by
   cases e:decide (x∈ns)with
   |true=>exact pQ e
   |false=>exact absurd (by rw[e];rfl) c
  refine BU ?_
  walk_at "ww"
  exact⟨hx,hx⟩
def Wy:Ap ["row","loops","one","other","number","loop"] ["row","loops","one","other"] (AI Vo):=by walk_at "z1"
def y3(F:AE K "parting_loop" "parting_loop" Vo f fd)(m:mg "parting_loop"=some (.ref f)):
  CS P w K mg Yd "parting_loop" 5 ["row","loops","one","other"] (Ct (iC AW AS Ac)):=by
 refine Fz.hX (k:=4) F (by walk_at "bD4") m Wy (by rintro _ _ _⟨ns,zs,x,y,rfl,_,_,_,rfl,rfl⟩;rfl) λE d=>⟨_,(AF rfl (FI (GI Gn d (by decide) FZ rfl (A0 (qv 0) (A0 (qv 1) A4))))
   (AF rfl (FI (GI Qo d (by decide) FZ rfl (A0 (qv 0) (A0 (qv 2) A4))))
   (AF rfl (FI (GI Qo d (by decide) FZ rfl (A0 (qv 0) (A0 (qv 3) A4))))
   (AF rfl (CV (FQ j7 rfl (Z6 rfl Kt (A0 (qv 1) A4)) (Y3 rfl (LO (DY 4 Wy.nd) (LO (DY 5 Wy.nd) UG))) (AJ rfl (BS (Ay Sa (FW Jd (qv 2) (Am CD (qv 5) A9)) (FW Jd (qv 3) (Am CD (qv 5) A9))) (AJ rfl (Ak (qv 4))) BR))))
   (AJ rfl (Ak HZ)))))),?_⟩
 rintro _ _ _⟨ns,zs,x,y,rfl,r,hx,s,rfl,rfl⟩;intro i0;show Ws [.is (.lst (ns.map .str)),.is (.lst (zs.map Lz.P)),.is (.str x),.is (.str y),.any,.any] _ _ _;refine B0 (JX (GN (DW (Bj rfl (DW (Bj rfl (BL ⟨_,_,⟨false,ns,false,zs,rfl,r,rfl,rfl⟩,trivial,?_,?_⟩)))))))
 .intro e h;show FN _ _ _ _ _ _ _=_;unfold FN;rw[h]
 intro _ a;obtain⟨Ls,t,u,v⟩:=RZ a;rw[t];refine B0 (JX (GN (DW (Bj rfl (AR (A7 rfl (BL ⟨_,_,⟨ns,x,rfl,hx,rfl,rfl⟩,trivial,?_,?_⟩)))))))
 .rintro e⟨h,rfl⟩;show FN _ _ _ _ _ _ _=_;unfold FN;rw[a,oM h]
 rintro _ g;refine B0 (JX (GN (DW (Bj rfl (AR (A7 rfl (BL ⟨_,_,⟨ns,y,rfl,s,rfl,rfl⟩,trivial,?_,?_⟩)))))))
 .rintro e⟨h,rfl⟩;show FN _ _ _ _ _ _ _=_;unfold FN;rw[a,nr λz=>z g,oM h]
 rintro _ o;have n:FN AW AS Ac ns zs x y=none:=by
  unfold FN;rw[a,nr λz=>z g,nr λz=>z o]
 refine B0 (Ek (GJ (λ_ i A5=>∃s4 b,A5=[.is (.lst (ns.map .str)),.is (.lst (Ls.map Lp.P)),.is (.str x),.is (.str y),s4,b]) (U6 (DG (A7 rfl ⟨_,.inl ⟨rfl,rfl,⟨_,_,rfl⟩,?_,?_⟩⟩)))))
 .rintro i p A5 DA⟨s4,b,rfl⟩;obtain⟨q,j,rfl⟩:=gG DA;rw[Ah]at j;obtain⟨l,DX,rfl⟩:=Option.map_eq_some_iff.mp j;refine iy ⟨_,_,rfl,?_⟩
  walk_at "ww"
  refine BA (λc=>?_) (λc=>?_)
  .exact Bq (A7 rfl n)
  .exact BU ⟨_,_,rfl⟩
 .rintro A5⟨s4,b,rfl⟩
  walk_at "ww"
  exact n
def NV:Ap ["row","loops","number_by_loops","numbers","thing","has_it"] ["row","loops"] (AI SV):=by walk_at "z1"
def xw:=Sc [(".0",.local),("loop",.local),("thing",.free)]
def ZCo:D7 ["row","loops","number_by_loops","numbers","thing","has_it"] (AI SV) xw "loop" ["thing"] [4]:=by walk_at "z2"
def xM(F:AE K "numbers_of" "numbers_of" SV f fd)(m:mg "numbers_of"=some (.ref f)):
  AH P w K mg Yd "numbers_of" 1 ["row","loops"] (Af lN):=by
 refine Fz.hF (k:=0) F (by walk_at "bD2") m NV (by rintro _ _⟨tp,ns,e,Ls,rfl,q,d,rfl⟩;rfl) λc=>⟨_,(AF rfl (Ar 2 NV.nd qr)
   (AF rfl (Ar 3 NV.nd (E4 A4))
   (AF rfl (CV (FQ Fi rfl (DO (qv 0)) (DY 4 NV.nd) (AF rfl (Ar 5 NV.nd (G6 Ry Gm (A0 (Jp rfl ZCo (DO (qv 1)) (λ_ _ _ _=>by exact Hc) (λ_ _ _ _=>by exact(FW (show BD _ (compareOp .In) (FP K false)from Jd) (qv 0) (Am (show HV _ (Ip K)from CD) (qv 1) A9)))) A4)))
   (AF rfl (CV (BS (we (JJ c) (qv 5) (qv 2)) (AJ rfl (wG (JJ c) (qv 2) (qv 5) (Ag pe Ad (A0 (qv 2) A4)))) BR))
   (AJ rfl (FI (LH NQ Zm Zn Sn (qv 3) (A0 (xN (JJ c) (qv 2) (qv 5) (λ_ _=>rfl)) A4))))))))
   (AJ rfl (Ak (qv 3)))))),?_⟩
 rintro _ _⟨tp,ns,e,Ls,rfl,q,d,rfl⟩;show Ws [_,_,.any,.any,.any,.any] _ _ _;refine nq (by simp) ?_;refine RX (ZDV (i:=2) (j:=3) (by decide) ?_)
 walk_at "ww"
 refine⟨by simp,?_⟩;refine RX (dr (oa (i:=2) (j:=4) (by decide) (λ_ i A5 ks=>∃s4 a,A5=[.sq tp (ns.map .str),.sq e (Ls.map Lp.P),.any,.own (Le (hasB Ls) (ns.take i)),s4,a]/\Nk s4=true/\Nk a=true/\ks=Dy (hasB Ls) (ns.take i)) ?_))
 walk_at "ww"
 refine⟨⟨_,_,rfl,rfl,rfl,rfl⟩,?_,?_⟩
 .rintro i p A5 ks g⟨s4,a,rfl,o,h,rfl⟩;rw[Ah]at g;obtain⟨x,hx,rfl⟩:=Option.map_eq_some_iff.mp g;have b:ns.take (i+1)=ns.take i++[x]:=by rw[List.take_succ,hx];rfl
  have hi:i<ns.length:=(List.getElem?_eq_some_iff.mp hx).1;refine RX (nD (i:=2) (j:=5) (by decide) ?_);refine U8 rfl (D3 (CC (Fw Lp.P (λ_=>true) (λl=>.bl (decide (x∈l.cs))) ?_ Lp.ZBW)))
  walk_at "ww"
  refine⟨by omega,λl d=>Gy rfl,λl d _=>?_,?_⟩
  .walk_at "ww"
   rfl
  rw[List.filter_eq_self.mpr (by simp)];refine⟨_,.inl ⟨rfl,?_⟩⟩;refine RX (dr (ot (j:=5) (bs:=hasB Ls x) ?_ ?_ (Be (sy _) ?_) ?_))
  .simp[hasB]
  .simp[Nk]
  .rw[Fg];omega
  rw[<- Qp,<- b];refine ZDI (j:=5) (n:=3) (bs:=hasB Ls x) (xs:=Le (hasB Ls) (ns.take i)) ?_ rfl (dF.mpr ⟨x,by rw[b];simp,rfl⟩) ?_ ?_
  .simp[hasB]
  .simp[Le];omega
  refine⟨.is (.str x),.is (.tup (Ls.map λl=>.bl (decide (x∈l.cs)))),?_,rfl,rfl,rfl⟩;rw[b,qP,<- b];rfl
 .rintro A5 ks⟨s4,a,rfl,o,h,rfl⟩;refine nQ rfl ?_;rw[AG,Gw]
def ZFc:Ap ["row","numbers","loop"] ["row","numbers","loop"] (AI Q3):=by walk_at "z1"
def ZG7:=Sc [(".0",.local),("thing",.local),("number",.local),("loop",.free)]
def xi:GR ["row","numbers","loop"] (AI Q3) ZG7 "thing" "number" ["loop"] [2]:=⟨rfl,by decide +kernel,by decide +kernel,rfl,rfl,rfl,by decide +kernel,by decide +kernel,by decide +kernel,by decide +kernel⟩
def ZDC(F:AE K "key_of" "key_of" Q3 f fd)(m:mg "key_of"=some (.ref f)):
  AH P w K mg Yd "key_of" 1 ["row","numbers","loop"] (Af i9):=by
 refine Fz.hF (k:=0) F (by walk_at "bD3") m ZFc (by rintro _ _⟨ns,ms,L,rfl,c,g,rfl⟩;rfl) λi=>⟨_,(AJ rfl (Ak (Ag (gU rfl) Cc (A0 (G6 (dM rfl) G0 (A0 (xa rfl xi (gD rfl MO (A0 (qv 0) (A0 (qv 1) A4))) (λ_ _ _ _=>by exact(KQ (Ay (show BD _ (compareOp .In) (FP K false)from Jd) (qv 1) (Am (show HV _ (Ip K)from CD) (qv 0) A9)))) (λ_ _ _ _=>by exact(qv 2))) A4)) A4)))),?_⟩
 rintro _ _⟨ns,ms,L,rfl,c,g,rfl⟩;show Ws [_,_,_] _ _ _;refine NA (dZ (D3 (CC (nI (V5 L.cs) lD ?_))));refine bz ?_
 walk_at "ww"
 refine⟨by rw[SE,AG];omega,λx hx=>?_,?_⟩
 .obtain⟨a,b,h,d,rfl⟩:=kE hx;obtain⟨s,_,rfl⟩:=List.mem_map.mp h;obtain⟨m,_,rfl⟩:=List.mem_map.mp d;refine⟨_,_,rfl,?_,λ_=>?_⟩
  .walk_at "ww"
   rfl
  .walk_at "ww"
   rfl
 .obtain⟨is,e⟩:=ints_list (zs:=((HG (ns.map .str) (ms.map .int)).filter (V5 L.cs)).map lD) λz c=>by
   obtain⟨x,hx,rfl⟩:=List.mem_map.mp c;obtain⟨a,b,_,d,rfl⟩:=kE (List.mem_filter.mp hx).1;obtain⟨m,_,rfl⟩:=List.mem_map.mp d;exact⟨m,rfl⟩
  refine⟨_,.inl ⟨rfl,is,e,?_,λ_ _ _ _=>trivial⟩⟩;have h1:=sg List.length e;rw[AG,AG]at h1;have h2:=ZGl (V5 L.cs) (HG (ns.map .str) (ms.map .int));rw[SE,AG]at h2;omega
def je:Ap ["row","loops","numbers"] ["row","loops"] (AI RO):=by walk_at "z1"
def ZBj:=Sc [(".0",.local),("loop",.local),("key_of",.globalImplicit),("numbers",.free),("row",.free)]
def nY:D7 ["row","loops","numbers"] (AI RO) ZBj "loop" ["numbers","row"] [2,0]:=by walk_at "z2"
def ZFm(F:AE K "brands" "brands" RO f fd)(m:mg "brands"=some (.ref f)):
  CS P w K mg Yd "brands" 5 ["row","loops"] (Ct (cV AW AS)):=by
 refine Fz.hX (k:=4) F (by walk_at "bD2") m je (by rintro _ _ _⟨ns,zs,rfl,_,rfl,rfl⟩;rfl) λE a=>⟨_,(AF rfl (FI (GI Gn a (by decide) FZ rfl (A0 (qv 0) (A0 (qv 1) A4))))
   (AF rfl (Ar 2 je.nd (AX Y0 a (A0 (qv 0) (A0 (qv 1) A4))))
   (AJ rfl (Ak (Cq (A0 (qv 2) (A0 (Jp rfl nY (DO (qv 1)) (λ_ _ _ _=>by exact Hc) (λ_ _ _ _=>by exact(AX Yv a (A0 (qv 1) (A0 (qv 0) (A0 (qv 2) A4)))))) A4))))))),?_⟩
 rintro _ _ _⟨ns,zs,rfl,b,rfl,rfl⟩;intro i0;show Ws [.is (.lst (ns.map .str)),.is (.lst (zs.map Lz.P)),.any] _ _ _;refine B0 (JX (GN (DW (Bj rfl (DW (Bj rfl (BL ⟨_,_,⟨false,ns,false,zs,rfl,b,rfl,rfl⟩,trivial,?_,?_⟩)))))))
 .exact λe h=>h
 intro _ c;obtain⟨Ls,i,g,j⟩:=RZ c;have d:=b.nz;rw[i];refine B0 (Fx (JK (DW (Bj rfl (DW (Bj rfl (BL ⟨_,⟨false,ns,false,Ls,rfl,d,g,rfl⟩,?_⟩)))))));rintro _ rfl;refine JV 2 rfl ?_
 walk_at "ww"
 refine CC (Xl (λ_ _=>True) ?_)
 walk_at "ww"
 refine⟨by rw[AG];omega,λx hx=>Gy rfl,λx hx=>?_,λys _ _=>?_⟩
 .obtain⟨l,_,rfl⟩:=List.mem_map.mp hx;refine CC (JK (DW (Bj rfl (AR (A7 rfl (AR (A7 rfl (BL ⟨_,⟨ns,ns.map λx=>(((Dy (hasB Ls) ns).idxOf (hasB Ls x):Nat):Int),l,?_,d,by rw[AG],rfl⟩,λ_ _=>trivial⟩))))))));rw[FJ];rfl
 .walk_at "ww"
  exact⟨by simp,c⟩
def WG:Ap ["number","above","lower_of","tried","upper"] ["number","above","lower_of","tried"] (AI Sb):=by walk_at "z1"
def nZ(n:Nat)(F:AE K "finds_upper" "finds_upper" Sb f fd)(m:mg "finds_upper"=some (.ref f))(Jl:AH P w K mg Yd "finds_upper" (1+n) ["number","above","lower_of","tried"] (FD (LK (n)))):
  AH P w K mg Yd "finds_upper" (1+n+1) ["number","above","lower_of","tried"] (FD (LK (n+1))):=by
 refine Fz.hM (k:=1+n) F (by walk_at "bD4") m WG (by rintro _ _⟨ab,m,v,lo,s,tr,a2,rfl,_⟩;rfl) λy=>⟨_,(AF rfl (CV (FQ Fi rfl (DO (Am CF (qv 1) (qv 0))) (DY 4 WG.nd) (AJ rfl (BS (cE (JJ y) (qv 4) (qv 3)) (AF rfl (ao (JJ y) (qv 3) (qv 4) GC)
   (AJ rfl (BS (O9 (Ay O3 (Am CF (qv 2) (qv 4)) HZ) (Nd (JN (AX (hk:=by omega) Jl y (A0 (Am CF (qv 2) (qv 4)) (A0 (qv 1) (A0 (qv 2) (A0 (qv 3) A4)))))))).pt (AF rfl (NU (qv 0) (WS (qv 2) (qv 4) set_list))
   (AJ rfl (Ak GC))) BR))) BR))))
   (AJ rfl (Ak GC))),?_⟩
 rintro _ R⟨ab,m,v,lo,s,tr,a2,rfl,ok,H⟩;show Ws [.is (nP v),.is (D6 ab m),s,.ow true (Cz a2 tr),.any] _ _ _;have A:Kz.fu ab (n+1) v lo tr=Kz.C5 ab n v (ab v) lo tr:=by rw[Kz.fu]
 have E:∀{s2:Slot}{u:Nat}{T:List Nat}{nx:List Slot->Prop}{R:Ae},Cu (n+1) ab m v lo T->u∉T->nx [.is (nP v),.is (D6 ab m),s2,.ow true (Cz a2 (T++[u])),.is (nP u)]->Ws [.is (nP v),.is (D6 ab m),s2,.ow true (Cz a2 T),.is (nP u)] (Sh (Aj 3) (Aj 4) (tC (.bl true))) nx R:=λ{s2 u T nx R}Ck a h=>by
  refine eh (i:=3) (eN (GO (HB rfl ⟨true,a2,Cp T,_,rfl,rfl,by rw[AG];have:=Ck.le;omega,ji Ck.nd,BF,A7 rfl ⟨.inl (u:Int),rfl,?_⟩⟩)));rw[OV.Nf,ZCh a];exact h
 rcases H with⟨a1,rfl,rfl⟩|⟨rfl,st,rfl⟩
 .refine B0 (Ek (GJ (λxs i A5=>∃(T:List Nat)(s4:Slot),A5=[.is (nP v),.is (D6 ab m),.ow true (Ft a1 lo),.ow true (Cz a2 T),s4]/\Cu (n+1) ab m v lo T/\Kz.C5 ab n v ((ab v).drop i) lo T=Kz.C5 ab n v (ab v) lo tr) (Ef (DG (GW (Bj rfl ⟨rfl,A7 rfl ⟨_,_,rfl,ok.at,?_⟩⟩))))));refine⟨_,.inl ⟨rfl,⟨tr,_,rfl,ok,rfl⟩,?_,?_⟩⟩
  .rintro i p A5 t⟨T,s4,rfl,Ck,c⟩;rw[Ah]at t;obtain⟨u,x,rfl⟩:=Option.map_eq_some_iff.mp t;have l:=C8 x;rw[cL x]at c;refine IE ?_;show Ws [.is (nP v),.is (D6 ab m),.ow true (Ft a1 lo),.ow true (Cz a2 T),.is (nP u)] _ _ _;refine D8 (IF (dB (A7 rfl (HB (i:=3) rfl ⟨_,a2,_,.inl (u:Int),rfl,rfl,_,rfl,?_⟩))));rw[Ny]
   by_cases a:u∈T
   .rw[oW a,nr (by decide)];exact BU ⟨T,_,rfl,Ck,by rw[<- c,dk a]⟩
   rw[sX a,oM (by decide)];refine B0 (E Ck a ?_);obtain⟨o,e1,g,J⟩:=ZGF (lo:=lo) (u:=u) (by rw[Ck.len];exact Ck.ab v u l);have r:∀{k:PV->Prop},k (C9 o)->Wp [.is (nP v),.is (D6 ab m),.ow true (Ft a1 lo),.ow true (Cz a2 (T++[u])),.is (nP u)] (BE (Iw K) (Aj 2) (Aj 4)) k:=λh=>MV (Ni (HB (i:=2) rfl ⟨a1,_,rfl,A7 rfl ⟨(u:Int),u,.fz (C9 o),rfl,cA (by rw[AG];exact(List.getElem?_eq_some_iff.mp e1).1),by rw[Ah,e1];rfl,_,rfl,h⟩⟩));have fin:∀{BK:Kz.Lo}{T':List Nat},BK.length=m->Kz.C5 ab n v (u::(ab v).drop (i+1)) lo T=(true,BK.set u (some v),T')->Ws [.is (nP v),.is (D6 ab m),.ow true (Ft a1 BK),.ow true (Cz a2 T'),.is (nP u)] (Hq (Df (Aj 0) (QU (Aj 2) (Aj 4) VR)) (Hw (tC (.bl true)))) (λA5=>∃(T:List Nat)(s4:Slot),A5=[.is (nP v),.is (D6 ab m),.ow true (Ft a1 lo),.ow true (Cz a2 T),s4]/\Cu (n+1) ab m v lo T/\Kz.C5 ab n v ((ab v).drop (i+1)) lo T=Kz.C5 ab n v (ab v) lo tr) (.K4 λp t1 t2=>p=.bl (Kz.fu ab (n+1) v lo tr).1/\t1=Ft a1 (Kz.fu ab (n+1) v lo tr).2.1/\t2=Cz a2 (Kz.fu ab (n+1) v lo tr).2.2):=λ{BK T'}G I=>by
    refine B0 (yx (i:=2) (A7 rfl (HB rfl ⟨true,a1,_,rfl,rfl,A7 rfl ⟨u,rfl,by rw[AG,G];exact Ck.ab v u l,?_⟩⟩)));rw[OV.Nf,xQ];refine bL (i:=2) (j:=3) (by decide) rfl rfl (GO ?_);rw[A,<- c,I];exact⟨rfl,rfl,rfl⟩
   refine v5 (t1:=Ft a1 lo) (t2:=Cz a2 (T++[u])) (new:=λC B=>[.is (nP v),.is (D6 ab m),.ow true C,.ow true B,.is (nP u)]) (rB rfl (D9 (eG (r (EE ⟨rfl,_,rfl,?_⟩)))));rw[oq];cases o with
   |none=>
    rw[oM (by rfl),oM rfl];exact fin Ck.len (rD a g)
   |some w=>
    rw[nr (λz=>by cases z)];have e:=Ck.sub l a g;refine tW (xZ (i:=2) (j:=3) (q:=0) (b:=false) (by decide) rfl rfl (λz=>by cases z) (eX (r (eX (A7 rfl (ZEw (n:=2) rfl (.inl ⟨_,_,_,rfl⟩) (ZEd (n:=3) rfl (.inl ⟨_,_,_,rfl⟩) (p4 ⟨_,⟨ab,m,w,lo,_,T++[u],a2,rfl,e,.inl ⟨a1,rfl,rfl⟩⟩,?_⟩))))))));rintro p C B⟨rfl,rfl,rfl⟩;refine⟨rfl,rfl,_,rfl,?_⟩;cases d:(Kz.fu ab n w lo (T++[u])).1 with
    |true=>
     rw[oM rfl];exact fin (e.yes d) (ZAl a g d)
    |false=>
     rw[nr (by decide),(e.fin d).1];exact BU ⟨_,_,rfl,Ck.next e d,by rw[<- c,lS a g d (e.fin d).1]⟩
  .rintro A5⟨T,s4,rfl,Ck,c⟩;rw[AG,ZO,Kz.C5]at c;refine bL (i:=2) (j:=3) (by decide) rfl rfl (GO ?_);rw[A,<- c];exact⟨rfl,rfl,rfl⟩
 .refine B0 (Ek (GJ (λxs i A5=>∃(T:List Nat)(s4:Slot),A5=[.is (nP v),.is (D6 ab m),.is (.lst (lo.map C9)),.ow true (Cz a2 T),s4]/\Cu (n+1) ab m v lo T/\Kz.C5 ab n v ((ab v).drop i) lo T=Kz.C5 ab n v (ab v) lo tr) (Ef (DG (GW (Bj rfl ⟨rfl,A7 rfl ⟨_,_,rfl,ok.at,?_⟩⟩))))));refine⟨_,.inl ⟨rfl,⟨tr,_,rfl,ok,rfl⟩,?_,?_⟩⟩
  .rintro i p A5 t⟨T,s4,rfl,Ck,c⟩;rw[Ah]at t;obtain⟨u,x,rfl⟩:=Option.map_eq_some_iff.mp t;have l:=C8 x;rw[cL x]at c;refine IE ?_;show Ws [.is (nP v),.is (D6 ab m),.is (.lst (lo.map C9)),.ow true (Cz a2 T),.is (nP u)] _ _ _;refine D8 (IF (dB (A7 rfl (HB (i:=3) rfl ⟨_,a2,_,.inl (u:Int),rfl,rfl,_,rfl,?_⟩))));rw[Ny]
   by_cases a:u∈T
   .rw[oW a,nr (by decide)];exact BU ⟨T,_,rfl,Ck,by rw[<- c,dk a]⟩
   rw[sX a,oM (by decide)];refine B0 (E Ck a ?_);obtain⟨w,g,D⟩:=ZDq st l;have e1:(lo.map C9)[u]?=some (.int w):=by rw[Ah,Kz.join_some g];rfl
   have r:∀{k:PV->Prop},k (.int w)->Wp [.is (nP v),.is (D6 ab m),.is (.lst (lo.map C9)),.ow true (Cz a2 (T++[u])),.is (nP u)] (BE (Iw K) (Aj 2) (Aj 4)) k:=λh=>GW (Bj rfl ⟨rfl,A7 rfl ⟨_,_,rfl,Fl e1,h⟩⟩);refine ZCW (i:=3) (pR rfl (D9 (eG (r (EE ⟨rfl,_,rfl,?_⟩)))));rw[nr (λz=>by cases z)];have e:=Ck.sub l a g;have d:=e.stuck D;refine p6 (de rfl (Mo (r (Mo (A7 rfl (Mo (A7 rfl (jW rfl (iV ⟨_,⟨ab,m,w,lo,_,T++[u],a2,rfl,e,.inr ⟨rfl,D,rfl⟩⟩,?_⟩)))))))));rintro p t'⟨rfl,rfl⟩;refine⟨_,_,rfl,_,rfl,?_⟩;rw[nr (by decide)];exact BU ⟨_,_,rfl,Ck.next e d,by rw[<- c,lS a g d (e.fin d).1]⟩
  .rintro A5⟨T,s4,rfl,Ck,c⟩;rw[AG,ZO,Kz.C5]at c;refine oP (i:=3) rfl (GO ?_);rw[A,<- c];exact⟨rfl,rfl⟩
def zE(F:AE K "finds_upper" "finds_upper" Sb f fd)(m:mg "finds_upper"=some (.ref f)): AH P w K mg Yd "finds_upper" 14 ["number","above","lower_of","tried"] (FD (LK 13)):=by
 have z:∀n:Nat,AH P w K mg Yd "finds_upper" (1+n) ["number","above","lower_of","tried"] (FD (LK (n))):=λn=>by
  induction n with
  |zero=>exact AH.mk F (F.binds (by walk_at "bD4")) m (F.Gr (k:=0) WG (λvs H Q E h=>(Fz.cJ (aq) h).elim) (λAU A outer s H vs Q E b h=>(Fz.cJ (aq) h).elim))
  |succ n a=>exact nZ  n F m a
 exact z 13
def X7:Ap ["above","lower_of","number"] ["above"] (AI R7):=by walk_at "z1"
def ZB5:=Sc [(".0",.local),("uppers",.local)]
def qy:D7 ["above","lower_of","number"] (AI R7) ZB5 "uppers" [] []:=by walk_at "z2"
def vb(F:AE K "greatest_pairing" "greatest_pairing" R7 f fd)(m:mg "greatest_pairing"=some (.ref f))(Jl:AH P w K mg Yd "finds_upper" 14 ["number","above","lower_of","tried"] (FD (LK 13))):
  AH P w K mg Yd "greatest_pairing" 15 ["above"] (Af jt):=by
 refine Fz.hF (k:=14) F (by walk_at "bD1") m X7 (by rintro _ _⟨ab,m,rfl,_,rfl⟩;rfl) λb=>⟨_,(AF rfl (JO (i:=1) X7.nd rfl (Or.inl rfl) rfl qy (DO (qv 0)) (λ_ _ _ _=>by exact Hc) (λ_ _ _ _=>by exact HZ))
   (AF rfl (CV (FQ Fi rfl (J8 rfl DH (A0 (Ag D2 Ad (A0 (qv 0) A4)) A4)) (DY 2 X7.nd) (AJ rfl (FI (AX Jl b (A0 (qv 2) (A0 (qv 0) (A0 (qv 1) (A0 X0 A4)))))))))
   (AJ rfl (Ak (qv 1))))),?_⟩
 rintro _ _⟨ab,m,rfl,ok,rfl⟩;show Ws [.is (D6 ab m),.any,.any] _ _ _;have g:=ok.FK;refine B0 (Fx (ZEl (λ_=>true) (λ_=>PV.A8) (Ef (DG (A7 rfl ⟨_,.inl ⟨rfl,by rw[AG,Ep];omega,λ_ _=>Gy rfl,λ_ _ _=>EE rfl,?_⟩⟩)))));rw[List.filter_eq_self.mpr λ_ _=>rfl,FJ,show((List.range m).map ((λ_=>PV.A8) ∘ λv=>PV.lst ((ab v).map nP)))=(Kz.gp ab m 13 0).map C9 by rw[Kz.gp,List.map_replicate];exact List.map_const' .. |>.trans (by rw[Ep];rfl)];refine yG 1 rfl λa=>?_;show Ws [.is (D6 ab m),.ow false (Ft a (Kz.gp ab m 13 0)),.any] _ _ _;refine B0 (Ek (GJ (λ_ i A5=>∃s2,A5=[.is (D6 ab m),.ow false (Ft a (Kz.gp ab m 13 i)),s2]) (O8 (Kr (Bj rfl ⟨(m:Int),by rw[AG,Ep],by omega,by omega,⟨_,rfl⟩,?_,?_⟩)))))
 .rintro i p A5 c⟨s2,rfl⟩;obtain⟨hi,rfl⟩:=RK c;rw[Lk]at hi;refine IE ?_;refine ZBE (i:=1) rfl (A7 rfl (A7 rfl λa2=>⟨_,⟨ab,m,i,_,_,[],a2,rfl,ZCt ok hi,.inl ⟨a,rfl,rfl⟩⟩,?_⟩));rintro p e d⟨rfl,rfl,rfl⟩;exact⟨rfl,rfl,_,rfl⟩
 .rintro A5⟨s2,rfl⟩;rw[Hv,Lk];refine ZCA 1 rfl (RB (i:=1) rfl rfl)
def ZEy:Ap ["loop","other"] ["loop","other"] (AI W9):=by walk_at "z1"
def ZDB(F:AE K "has_all_of" "has_all_of" W9 f fd)(m:mg "has_all_of"=some (.ref f)):
  AH P w K mg Yd "has_all_of" 1 ["loop","other"] (Af bo):=by
 refine Fz.hF (k:=0) F (by walk_at "bD2") m ZEy (by rintro _ _⟨l1,l2,rfl,_,_,rfl⟩;rfl) λj=>⟨_,(AJ rfl (Ak (FW De (Ag yV Ad (A0 (B5 t5 (G6 (Ys rfl) G0 (A0 (Am CD (qv 1) A9) A4)) (G6 (Ys rfl) G0 (A0 (Am CD (qv 0) A9) A4))) A4)) A9))),?_⟩
 rintro _ _⟨⟨c,g1,c1⟩,⟨b,g,c2⟩,rfl,e,d,rfl⟩;have i:c1.length<=40:=e;have h:c2.length<=40:=d;show Ws [.is (.tup [.str c,.int g1,.tup (c1.map .str)]),.is (.tup [.str b,.int g,.tup (c2.map .str)])] _ _ _;refine Bq (Q7 (uU ?_))
 walk_at "ww"
 refine⟨by omega,?_⟩
 walk_at "ww"
 refine⟨by omega,λn a=>?_⟩
 walk_at "ww"
 exact sg PV.bl (decide_eq_decide.mpr ⟨λz=>a.mp (Int.ofNat_inj.mp z),λz=>by rw[a.mpr z];rfl⟩)
def v9:Ap ["loops","number","upper"] ["loops","number","upper"] (AI Ud):=by walk_at "z1"
def y0(F:AE K "is_above" "is_above" Ud f fd)(m:mg "is_above"=some (.ref f)):
  AH P w K mg Yd "is_above" 2 ["loops","number","upper"] (Af iG):=by
 refine Fz.hF (k:=1) F (by walk_at "bD3") m v9 (by rintro _ _⟨Ls,n,u,rfl,_,_,_,rfl⟩;rfl) λh=>⟨_,(AF rfl (BS (Ay (YD h.HN) (Am CD (Am CF (qv 0) (qv 1)) A9) (Am CD (Am CF (qv 0) (qv 2)) A9)) (AJ rfl (Ak (FW MY (qv 1) (qv 2)))) BR)
   (AJ rfl (Ak (AX Yk h (A0 (Am CF (qv 0) (qv 2)) (A0 (Am CF (qv 0) (qv 1)) A4)))))),?_⟩
 rintro _ _⟨Ls,n,u,rfl,q,p,o,rfl⟩;obtain⟨a,ea⟩:∃a,Ls[n]?=some a:=⟨_,Au p⟩;obtain⟨b,d⟩:∃b,Ls[u]?=some b:=⟨_,Au o⟩;have l:=q.2 a (C8 ea);have j:=q.2 b (C8 d);have g:Bf (Ls.map Lp.P) (n:Int)=some a.P:=Fl (by rw[Ah,ea];rfl);have e:Bf (Ls.map Lp.P) (u:Int)=some b.P:=Fl (by rw[Ah,d];rfl);have i:HF Ls n u=if a.cs=b.cs then decide (n<u)else decide (PD b a):=by unfold HF;rw[ea,d]
 show Ws [.is (.lst (Ls.map Lp.P)),.is (.int n),.is (.int u)] _ _ _
 walk_at "ww"
 refine⟨_,_,rfl,g,_,.inr ⟨rfl,rfl,CQ ⟨_,_,rfl,rfl,?_⟩⟩⟩
 walk_at "ww"
 refine⟨_,_,rfl,e,_,.inr ⟨rfl,rfl,CQ ⟨_,_,rfl,rfl,?_⟩⟩⟩
 walk_at "ww"
 refine BA (λc=>?_) (λc=>?_)
 .rw[i,oM (pQ c)]
  walk_at "ww"
  exact sg PV.bl (decide_eq_decide.mpr Int.ofNat_lt)
 .rw[i,nr λz=>c (oW z)]
  walk_at "ww"
  refine Bq (wp_call (AR (GW (Bj rfl ⟨rfl,A7 rfl ⟨_,_,rfl,e,AR (GW (Bj rfl ⟨rfl,A7 rfl ⟨_,_,rfl,g,BL ⟨_,⟨b,a,rfl,j,l,rfl⟩,?_⟩⟩⟩))⟩⟩))));rintro _ rfl;rfl
def ZFP:Ap ["loops","number"] ["loops","number"] (AI SX):=by walk_at "z1"
def yu:=Sc [(".0",.local),("upper",.local),("is_above",.globalImplicit),("loops",.free),("number",.free)]
def ZBG:D7 ["loops","number"] (AI SX) yu "upper" ["loops","number"] [0,1]:=by walk_at "z2"
def me(F:AE K "numbers_above" "numbers_above" SX f fd)(m:mg "numbers_above"=some (.ref f)):
  AH P w K mg Yd "numbers_above" 3 ["loops","number"] (Af bp):=by
 refine Fz.hF (k:=2) F (by walk_at "bD2") m ZFP (by rintro _ _⟨Ls,n,rfl,_,_,rfl⟩;rfl) λb=>⟨_,(AJ rfl (Ak (Jp rfl ZBG (J8 rfl DH (A0 (Ag D2 Ad (A0 (qv 0) A4)) A4)) (λ_ _ _ _=>by exact(KQ (JN (AX YY b (A0 (qv 0) (A0 (qv 1) (A0 (qv 2) A4))))))) (λ_ _ _ _=>by exact(qv 2))))),?_⟩
 rintro _ _⟨Ls,n,rfl,q,c,rfl⟩;have e:=q.1;show Ws [.is (.lst (Ls.map Lp.P)),.is (.int n)] _ _ _;refine NA (Fw (λu:Nat=>PV.int u) (HF Ls n) (λu:Nat=>PV.int u) (O8 (Kr (Bj rfl ⟨(Ls.length:Int),by rw[AG],by omega,by omega,List.range Ls.length,rfl,by rw[Ep];omega,λu a=>?_,λu _ _=>A7 rfl rfl,rfl⟩))) Vs);have d:=List.mem_range.mp a
 walk_at "ww"
 show Wp [.is (.lst (Ls.map Lp.P)),.is (.int n),.is (.int u)] _ _;refine wp_call (AR (A7 rfl (AR (A7 rfl (AR (A7 rfl (BL ⟨_,⟨Ls,n,u,rfl,q,c,d,rfl⟩,?_⟩)))))));rintro _ rfl;exact⟨_,rfl,rfl⟩
def Zs:Ap ["lower_of","top","chain"] ["lower_of","top"] (AI Xd):=by walk_at "z1"
def tZ(F:AE K "chain_down" "chain_down" Xd f fd)(m:mg "chain_down"=some (.ref f)):
  AH P w K mg Yd "chain_down" 1 ["lower_of","top"] (Af jx):=by
 refine Fz.hF (k:=0) F (by walk_at "bD2") m Zs (by rintro _ _⟨lo,top,ch,rfl,_,_,_,rfl⟩;rfl) λj=>⟨_,(AF rfl (Ar 2 Zs.nd (E4 (A0 (qv 1) A4)))
   (AF rfl (CV (VX Fi (Ay aI (Am CF (qv 0) (Am CF (qv 2) (XW Z4 A9))) HZ) (AJ rfl (FI (LH NQ Zm Zn Sn (qv 2) (A0 (Am CF (qv 0) (Am CF (qv 2) (XW Z4 A9))) A4))))))
   (AJ rfl (Ak (qv 2))))),?_⟩
 rintro _ _⟨lo,top,ch,rfl,g,hd,p,rfl⟩;show Ws [.sq false (lo.map C9),.is (.int top),.any] _ _ _
 walk_at "ww"
 refine⟨by simp,?_⟩;refine B0 (Ek (ym (λm A5=>∃(pre a:List Nat)(x:Nat),A5=[.sq false (lo.map C9),.is (.int top),.own ((pre++[x]).map λn:Nat=>PV.int n)]/\Dn lo x a/\pre++a=ch/\m=a.length) ch.length ⟨[],ch,top,rfl,hd,rfl,rfl⟩ ?_));rintro m _⟨pre,a,x,rfl,hx,b,rfl⟩;have c:∀{k:PV->Prop}{o:Option Nat},lo[x]?=some o->k (C9 o)->Wp [.sq false (lo.map C9),.is (.int top),.own ((pre++[x]).map λn:Nat=>PV.int n)] (BE (Iw K) (Aj 0) (BE (Iw K) (Aj 2) (SJ (rU λi=>V.int (-i)) (tC (V.int 1))))) k:=λe h=>GW (Mb rfl ⟨rfl,GW (Km rfl ⟨rfl,fN (CQ ⟨_,rfl,_,_,rfl,vt,_,_,rfl,Fl (by rw[Ah,e];rfl),h⟩)⟩)⟩);cases hx with
 |one e=>
  refine D9 (bQ (c e (EE ⟨rfl,false,rfl,?_⟩)));rw[nr (by decide)];subst b
  walk_at "ww"
  try rfl
 |@more _ y r e d=>
  refine D9 (bQ (c e (EE ⟨rfl,true,rfl,?_⟩)));rw[oM rfl];have l:pre.length+(r.length+1)<=12:=by have q:=sg List.length b;rw[BI,BJ]at q;omega
  refine jo rfl (c e ⟨by rw[AG,BI,ZU];omega,r.length,by rw[BJ];omega,pre++[x],r,y,?_,d,by rw[<- b,Bm];rfl,rfl⟩);show[_,_,Slot.own _]=[_,_,Slot.own _];rw[Dv (l₁:=pre++[x])];rfl
def um:Ap ["row","loops","chain"] ["row","loops","chain"] (AI BN):=by walk_at "z1"
def cY(s:Stmt):Scope:=match DC s with
 | [.Return (some (.Call _ _ [⟨_,.Lambda _ _ sc _,_⟩] _)) _]=>sc
 |_=>{ kind:=.function,names:=[],isGenerator:=false,isCoroutine:=false }
noncomputable def mn:Scope:={ kind:=.function,names:=[(".0",.local),("number",.local),("loops",.free),("thing",.free)],isGenerator:=false,isCoroutine:=false }
def ZGA:R8 ["row","loops","chain"] (AI BN) (cY BN) "thing" ["chain","loops"] [2,1]:=⟨rfl,by decide +kernel,rfl,by decide +kernel,λ_ _=>rfl,λ_=>rfl,rfl,by decide +kernel,by decide +kernel,by decide +kernel,by decide +kernel⟩
def ZBP:Qn ["chain","loops","thing"] (cY BN) mn "number" ["loops","thing"] [1,2]:=by walk_at "z2"
def ZB6(F:AE K "line_of" "line_of" BN f fd)(m:mg "line_of"=some (.ref f)):
  AH P w K mg Yd "line_of" 3 ["row","loops","chain"] (Af (jv T (Bh BN))):=by
 refine Fz.hL (k:=2) F Kl (by walk_at "bD3") m um (by rintro _ _⟨ns,Ls,ch,rfl,_,_,_,_,rfl⟩;rfl) λj=>⟨_,(AJ rfl (Ak (ZF4 (k:=0) (c:=c) (P:=T) (q:=Kg) (x:="thing") (tb:=CH (Jk K) (AZ (Gk (QV K (Aj 0)) [1,2] (Pa (BE (FP K false) (Aj 1) (BE (Ip K) (BE (Iw K) (Aj 0) (Aj 2)) (tC (.int 2))))) (Aj 2)) B6)) j rfl rfl Cc (A0 (qv 0) A4) ZGA rfl rfl rfl hC rfl rfl bA Ic (show((("line_of":Str) ++ ".<locals>.") ++ "<lambda>":Str)=Kg by decide +kernel) rfl (λ_ _ _ _ _=>rfl) λf cd s H=>by
  exact Ag (show Bo _ (.builtin "len") (Jk K)from D2) Ad (A0 (ZBs rfl ZBP (by exact DO (qv 0)) (λ_ _ _ _=>by exact KQ (Ay (show BD _ (compareOp .In) (FP K false)from Jd) (qv 1) (Am (show HV _ (Ip K)from CD) (Am (show HV _ (Iw K)from CF) (qv 0) (qv 2)) A9))) (λ_ _ _ _=>by exact qv 2)) A4)
  ))),?_⟩
 rintro _ _⟨ns,Ls,ch,rfl,r,hL,t,o,rfl⟩;show Ws [.raw (Di T (Bh BN) ns),.is (.lst (Ls.map Lp.P)),.is (.lst (ch.map λn:Nat=>PV.int n))] _ _ _;refine NA (sJ (jp:=0) (uv Ls ch) rfl (λF v h=>h.2) (DW (D3 (N3 rfl ⟨_,.inl ⟨rfl,BL ⟨ns.map .str,rfl,by rw[AG];omega,λx hx=>?_,λys g d=>?_⟩⟩⟩))))
 .obtain⟨x,_,rfl⟩:=List.mem_map.mp hx;show Wp [.is (.lst (ch.map λn:Nat=>PV.int n)),.is (.lst (Ls.map Lp.P)),.is (.str x)] _ _;refine Kr (D3 (CC (Fw (λn:Nat=>PV.int n) (λn=>match Ls[n]? with|some l=>decide (x∈l.cs)|none=>false) (λn:Nat=>PV.int n) (Ef (DG (A7 rfl ⟨_,.inl ⟨rfl,ch,rfl,by omega,λn p=>?_,λn _ _=>A7 rfl rfl,?_⟩⟩))) (λa b e=>by injection e with e;exact Int.ofNat.inj e))))
  .have hi:=o n p;obtain⟨l,el⟩:∃l,Ls[n]?=some l:=⟨_,Au hi⟩;rw[el];show Wt [.is (.lst (Ls.map Lp.P)),.is (.str x),.is (.int n)] _ _
   walk_at "ww"
   refine⟨_,l.P,rfl,Fl (by rw[Ah,el];rfl),_,.inr ⟨rfl,rfl,CQ ⟨_,_,rfl,rfl,_,.inr ⟨rfl,l.cs,rfl,_,rfl,rfl⟩⟩⟩⟩
  .exact⟨_,.inl ⟨rfl,by rw[AG];rfl⟩⟩
 .obtain⟨ms,rfl,i⟩:=ZFG g;exact⟨ms,rfl,i,(ZY (f:=PV.str)).mp d⟩
def OR:Ap ["row","loops","chains","line_with","line","chain","number"] ["row","loops","chains"] (AI Qz):=by walk_at "z1"
def ZCR:=Sc [(".0",.local),("number",.local),("loop",.local),("len",.globalImplicit),("line_with",.free),("row",.free)]
def ZAr:GR ["row","loops","chains","line_with","line","chain","number"] (AI Qz) ZCR "number" "loop" ["line_with","row"] [3,0]:=⟨rfl,by decide +kernel,by decide +kernel,rfl,rfl,rfl,by decide +kernel,by decide +kernel,by decide +kernel,by decide +kernel⟩
def qd(F:AE K "seats_of" "seats_of" Qz f fd)(m:mg "seats_of"=some (.ref f)):
  AH P w K mg Yd "seats_of" 1 ["row","loops","chains"] (Af lE):=by
 refine Fz.hF (k:=0) F (by walk_at "bD3") m OR (by rintro _ _⟨ns,Ls,chs,f,rfl,_,rfl⟩;rfl) λo=>⟨_,(AF rfl (Ar 3 OR.nd X0)
   (AF rfl (CV (FQ Fi rfl (Z6 rfl Kt (A0 (qv 2) A4)) (Y3 rfl (LO (DY 4 OR.nd) (LO (DY 5 OR.nd) UG))) (AJ rfl (FQ Fi rfl (DO (qv 5)) (DY 6 OR.nd) (AJ rfl (ao (JJ o) (qv 3) (qv 6) (qv 4)))))))
   (AJ rfl (Ak (jd rfl ZAr (Z6 rfl Kt (A0 (qv 1) A4)) (λ_ _ _ _=>by exact(Cq (A0 (qp (JJ o) (qv 0) (qv 2) (λ_ _=>rfl)) (A0 (B5 bN (Ag (show Bo _ (.builtin "len") (Jk K)from D2) Ad (A0 (qv 1) A4)) (Ag (show Bo _ (.builtin "len") (Jk K)from D2) Ad (A0 (Am (show HV _ (Ip K)from CD) (qv 3) A9) A4))) A4))))))))),?_⟩
 rintro _ _⟨ns,Ls,chs,f,rfl,ok,rfl⟩;show Ws [.is (.lst (ns.map .str)),.is (.lst (Ls.map Lp.P)),.is (.lst (chs.map CU)),.any,.any,.any,.any] _ _ _;have s:=ok.len;refine B0 (kg (aM λa=>?_));refine B0 (Ek (GJ (λ_ i A5=>∃s4 d b,A5=[.is (.lst (ns.map .str)),.is (.lst (Ls.map Lp.P)),.is (.lst (chs.map CU)),.ow false (Ju a f (chs.take i).flatten),s4,d,b]) (U6 (DG (A7 rfl ⟨_,.inl ⟨rfl,rfl,⟨_,_,_,rfl⟩,?_,?_⟩⟩)))))
 .rintro i p A5 c⟨s4,d,b,rfl⟩;obtain⟨q,eq,rfl⟩:=gG c;rw[Ah]at eq;obtain⟨ch,g,rfl⟩:=Option.map_eq_some_iff.mp eq;refine iy ⟨_,_,rfl,?_⟩;show Ws [.is (.lst (ns.map .str)),.is (.lst (Ls.map Lp.P)),.is (.lst (chs.map CU)),.ow false (Ju a f (chs.take i).flatten),.is (nP i),.is (CU ch),b] _ _ _;refine GJ (λ_ j A5=>∃b,A5=[.is (.lst (ns.map .str)),.is (.lst (Ls.map Lp.P)),.is (.lst (chs.map CU)),.ow false (Ju a f ((chs.take i).flatten++ch.take j)),.is (nP i),.is (CU ch),b]) (Ef (DG (A7 rfl ⟨_,.inl ⟨rfl,⟨_,by rw[List.take_zero,Gv]⟩,?_,?_⟩⟩)))
  .rintro j p A5 c⟨b,rfl⟩;rw[Ah]at c;obtain⟨n,e,rfl⟩:=Option.map_eq_some_iff.mp c;obtain⟨r,A⟩:=ZGG g e;have nd:=ok.nd;rw[A]at nd s;obtain⟨h,u,t⟩:=List.nodup_append.mp nd;have nx:n∉(chs.take i).flatten++ch.take j:=λz=>t n z n B1 rfl;rw[BI]at s;refine IE ?_;refine eh (i:=3) (eN (A7 rfl (HB rfl ⟨false,a,Cp ((chs.take i).flatten++ch.take j),_,rfl,rfl,by rw[AG,AG];omega,ji h,BF,A7 rfl ⟨.inl (n:Int),rfl,.is (nP n),?_⟩⟩)));rw[OV.Nf,ra nx (ok.at_ i ch g n (C8 e)),Bm,<- ZA2 e];rfl
  .rintro A5⟨b,rfl⟩;rw[AG,Gw];exact⟨_,_,_,by rw[ZCi g]⟩
 .rintro A5⟨s4,d,b,rfl⟩;rw[OT,AG,Gw];refine NA (jH 3 rfl (oz (λp:Lp×Nat=>PV.int (p.2:Int)) (λp=>p.1.P) (λp=>lZ ((f p.2:Int),(ns.length:Int) - (p.1.cs.length:Int))) (U6 (DG (A7 rfl ⟨_,.inl ⟨rfl,rfl,Ls.zipIdx,?_,by rw[List.length_zipIdx];have:=ok.FK;omega,λp c=>?_,?_⟩⟩))) λx y e1 B=>?_))
  .exact zJ Ls
  .have v:=ZEB c;obtain⟨l,n⟩:=p;show Wp [.is (Ju a f chs.flatten).pv,.is (.lst (ns.map .str)),.is (nP n),.is l.P] _ _;rw[p5];refine GY (Bz (oZ (A7 rfl ⟨_,_,rfl,A7 rfl ⟨.inl (n:Int),_,rfl,valN ((ok.all n).mp (List.getElem?_eq_some_iff.mp v).1),?_⟩⟩)))
   walk_at "ww"
   rw[AG,AG];exact⟨by show 2<=100000;decide,rfl⟩
  .exact⟨U9 _ (λ_=>rfl) _,by rw[FJ];rfl⟩
  .obtain⟨l1,h⟩:=x;obtain⟨l2,u⟩:=y;injection e1 with e1
   cases Int.ofNat_inj.mp e1;cases ZD3 B;rfl
def dg:Ap ["chain","tried","untried"] ["chain","tried"] (AI QK):=by walk_at "z1"
def ZG0:=Sc [(".0",.local),("number",.local),("tried",.free)]
def ZFv:D7 ["chain","tried","untried"] (AI QK) ZG0 "number" ["tried"] [1]:=by walk_at "z2"
def tf(F:AE K "uppermost_untried" "uppermost_untried" QK f fd)(m:mg "uppermost_untried"=some (.ref f)):
  AH P w K mg Yd "uppermost_untried" 1 ["chain","tried"] (Af ak):=by
 refine Fz.hF (k:=0) F (by walk_at "bD2") m dg (by rintro _ _⟨ch,T,x,r,rfl,_,_,rfl⟩;rfl) λc=>⟨_,(AF rfl (JO (i:=2) dg.nd rfl (Or.inl rfl) rfl ZFv (DO (qv 0)) (λ_ _ _ _=>by exact(KQ (cE (JJ c) (qv 1) (qv 0)))) (λ_ _ _ _=>by exact(qv 1)))
   (AJ rfl (Ak (Am CF (qv 2) A9)))),?_⟩
 rintro _ _⟨ch,T,x,r,rfl,g,d,rfl⟩;show Ws [.is (CU ch),.is (.B2 (Cp T) (T.map λ_=>.bl true)),.any] _ _ _;refine B0 (Fx (Fw nP (λy=>decide (y∉T)) nP (Ef (DG (A7 rfl ⟨_,.inl ⟨rfl,ch,rfl,by omega,λy h=>?_,λy _ _=>A7 rfl rfl,?_⟩⟩))) (λa b e=>by injection e with e;exact Int.ofNat_inj.mp e)))
 .refine IF (ZAb (A7 rfl (A7 rfl ⟨_,_,.inl (y:Int),rfl,rfl,_,rfl,?_⟩)));rw[Ny,decide_not]
 .rw[d];exact Bq (GW (Km rfl ⟨rfl,CQ ⟨_,_,rfl,Fl (j:=0) rfl,rfl⟩⟩))
def UQ:Ap ["above","lower_of","chains","tried","chain"] ["above","lower_of","chains"] (AI Rk):=by walk_at "z1"
def ZEG:=Sc [(".0",.local),("chain",.local),("uppermost_untried",.globalImplicit),("tried",.free)]
def ZEV:D7 ["above","lower_of","chains","tried","chain"] (AI Rk) ZEG "chain" ["tried"] [3]:=by walk_at "z2"
def si(F:AE K "apart_of" "apart_of" Rk f fd)(m:mg "apart_of"=some (.ref f))(Jl:AH P w K mg Yd "finds_upper" 14 ["number","above","lower_of","tried"] (FD (LK 13))):
  AH P w K mg Yd "apart_of" 15 ["above","lower_of","chains"] (Af dI):=by
 refine Fz.hF (k:=14) F (by walk_at "bD3") m UQ (by rintro _ _⟨ab,m,lo,chs,rfl,_,rfl⟩;rfl) λg=>⟨_,(AF rfl (Ar 3 UQ.nd X0)
   (AF rfl (CV (FQ Fi rfl (DO (qv 2)) (DY 4 UQ.nd) (AJ rfl (FI (AX Jl g (A0 (Am CF (qv 4) A9) (A0 (qv 0) (A0 (qv 1) (A0 (qv 3) A4)))))))))
   (AJ rfl (Ak (Ag ZEN Cc (A0 (Jp rfl ZEV (DO (qv 2)) (λ_ _ _ _=>by exact Hc) (λ_ _ _ _=>by exact(AX VZ g (A0 (qv 1) (A0 (qv 0) A4))))) A4)))))),?_⟩
 rintro _ _⟨ab,m,lo,chs,rfl,ok,rfl⟩;show Ws [.is (D6 ab m),.is (.lst (lo.map C9)),.is (.lst (chs.map CU)),.any,.any] _ _ _;refine B0 (kg (aM λa=>?_));show Ws [_,_,_,.ow false (Cz a []),.any] _ _ _;refine B0 (Ek (GJ (λxs i A5=>∃s4,A5=[.is (D6 ab m),.is (.lst (lo.map C9)),.is (.lst (chs.map CU)),.ow false (Cz a (Kz.tryAll ab 13 lo ((chs.take i).map J4) [])),s4]) (Ef (DG (A7 rfl ⟨_,.inl ⟨rfl,⟨_,rfl⟩,?_,?_⟩⟩)))))
 .rintro i p A5 b⟨s4,rfl⟩;rw[Ah]at b;obtain⟨ch,n,rfl⟩:=Option.map_eq_some_iff.mp b;obtain⟨t,r,rfl,s,st,d,_⟩:=ok.ch ch (C8 n);refine IE ?_;have hd:Bf ((t::r).map nP) 0=some (nP t):=Fl (j:=0) rfl;refine ZCF (i:=3) (de rfl (Mo (GW (Bj rfl ⟨rfl,CQ ⟨_,_,rfl,hd,Mo (A7 rfl (Mo (A7 rfl (jW rfl (iV ⟨_,⟨ab,m,t,lo,_,_,a,rfl,ok.fu s,.inr ⟨rfl,st,rfl⟩⟩,?_⟩)))))⟩⟩))));rintro p t'⟨rfl,rfl⟩;refine⟨_,_,rfl,.is (CU (t::r)),?_⟩;rw[vM n,fm];rfl
 .rintro A5⟨s4,rfl⟩;rw[AG,Gw];generalize v:Kz.tryAll ab 13 lo (chs.map J4) []=T;refine NA (yX (D3 (CC (jH 3 rfl (Fw CU (λ_=>true) (λch=>nP (PK T ch)) (Ef (DG (A7 rfl ⟨_,.inl ⟨rfl,chs,rfl,by have:=ok.cl;omega,λ_ _=>Gy rfl,λch l _=>?_,?_⟩⟩))) fM)))))
  .show Wp [.is (Cz a T).pv,.is (CU ch)] _ _;rw[vz];obtain⟨r,e⟩:=ok.first l;obtain⟨_,_,_,_,_,_,M9⟩:=ok.ch ch l;rw[v]at e;refine wp_call (AR (A7 rfl (AR (A7 rfl (BL ⟨_,⟨ch,T,_,r,rfl,M9,e,rfl⟩,?_⟩)))));rintro _ rfl;rfl
  .rw[List.filter_eq_self.mpr λ_ _=>rfl];refine⟨U9 _ (λ_=>rfl) _,_,.inl ⟨rfl,(chs.map λch=>((PK T ch:Nat):Int)),by rw[FJ];rfl,by rw[AG];have:=ok.cl;omega,λDj b u=>?_⟩⟩;have e0:∀z∈Dj,((z.toNat:Nat):Int)=z:=λz c=>by
    obtain⟨ch,_,rfl⟩:=List.mem_map.mp (b.mem_iff.mp c);exact sg _ (Lk _)
   refine⟨Dj.map Int.toNat,?_,?_,?_⟩
   .rw[FJ];exact mF λz c=>sg PV.int (e0 z c).symm
   .have q:=b.map Int.toNat;rw[FJ]at q;exact q
   .rw[ZY];exact u.imp_of_mem λ{x y}hx o h=>by have:=e0 x hx;have:=e0 y o;omega
def OK:Ap ["row","loops","above","lower_of","chains","lines"] ["row","loops"] (AI MW):=by walk_at "z1"
def ZDl:=Sc [(".0",.local),("number",.local),("numbers_above",.globalImplicit),("loops",.free)]
def vx:D7 ["row","loops","above","lower_of","chains","lines"] (AI MW) ZDl "number" ["loops"] [1]:=by walk_at "z2"
def yK:=Sc [(".0",.local),("top",.local),("chain_down",.globalImplicit),("lower_of",.free)]
def ZFK:D7 ["row","loops","above","lower_of","chains","lines"] (AI MW) yK "top" ["lower_of"] [3]:=by walk_at "z2"
def ZAH:=Sc [(".0",.local),("chain",.local),("line_of",.globalImplicit),("loops",.free),("row",.free)]
def zv:D7 ["row","loops","above","lower_of","chains","lines"] (AI MW) ZAH "chain" ["loops","row"] [1,0]:=by walk_at "z2"
def wJ(F:AE K "lines_of" "lines_of" MW f fd)(m:mg "lines_of"=some (.ref f)):
  CS P w K mg Yd "lines_of" 16 ["row","loops"] (Ct (ae T (Bh BN) AW AS)):=by
 refine Fz.hX (k:=15) F (by walk_at "bD2") m OK (by rintro _ _ _⟨ns,zs,rfl,_,rfl,rfl⟩;rfl) λE d=>⟨_,(AF rfl (FI (GI Gn d (by decide) FZ rfl (A0 (qv 0) (A0 (qv 1) A4))))
   (AF rfl (JO (i:=2) OK.nd rfl (Or.inl rfl) rfl vx (J8 rfl DH (A0 (Ag D2 Ad (A0 (qv 1) A4)) A4)) (λ_ _ _ _=>by exact Hc) (λ_ _ _ _=>by exact(AX U3 d (A0 (qv 0) (A0 (qv 1) A4)))))
   (AF rfl (Ar 3 OK.nd (AX XC d (A0 (qv 2) A4)))
   (AF rfl (JO (i:=4) OK.nd rfl (Or.inl rfl) rfl ZFK (J8 rfl DH (A0 (Ag D2 Ad (A0 (qv 1) A4)) A4)) (λ_ _ _ _=>by exact(KQ (Ay (show BD _ (compareOp .NotIn) (FP K true)from YR) (qv 1) (qv 0)))) (λ_ _ _ _=>by exact(AX UC d (A0 (qv 0) (A0 (qv 1) A4)))))
   (AF rfl (JO (i:=5) OK.nd rfl (Or.inl rfl) rfl zv (DO (qv 4)) (λ_ _ _ _=>by exact Hc) (λ_ _ _ _=>by exact(AX Vh d (A0 (qv 1) (A0 (qv 0) (A0 (qv 2) A4))))))
   (AJ rfl (Ak (Cq (A0 (qv 5) (A0 (AX Yo d (A0 (qv 0) (A0 (qv 1) (A0 (qv 4) A4)))) (A0 (AX XX d (A0 (qv 2) (A0 (qv 3) (A0 (qv 4) A4)))) A4))))))))))),?_⟩
 rintro _ _ _⟨ns,zs,rfl,Uu,rfl,rfl⟩;intro i0;show Ws [.raw (Di T (Bh BN) ns),.is (.lst (zs.map Lz.P)),.any,.any,.any,.any] _ _ _;refine B0 (JX (GN (DW (D3 (N3 rfl ⟨_,.inl ⟨rfl,DW (Bj rfl (BL ⟨_,_,⟨false,ns,false,zs,rfl,Uu,rfl,rfl⟩,trivial,λe h=>h,?_⟩))⟩⟩)))));intro _ q;obtain⟨Ls,Q,hL,z⟩:=RZ q;have j:=Uu.nz;have nd:=Uu.nd;rw[Q];obtain⟨G,_⟩:=k6 hL j z;obtain⟨c,s⟩:=p7 G;obtain⟨f,N⟩:=ZBS G s;have H:YZ Ls:=⟨hL,λl M=>Be (D1.len (show D1 ns l.r l.g l.cs from z l M)) j⟩;have u:=sA hL j z s;refine B0 (Fx (Fw nP (λ_=>true) (λv=>PV.lst ((ups Ls v).map nP)) (O8 (Kr (Bj rfl ⟨(Ls.length:Int),by rw[AG],by omega,by omega,List.range Ls.length,rfl,by rw[Ep];omega,λ_ _=>Gy rfl,λv J _=>?_,?_⟩))) Vs))
 .show Wp [.is (.lst (Ls.map Lp.P)),.is (nP v)] _ _;refine CC (JK (AR (A7 rfl (AR (A7 rfl (BL ⟨_,⟨Ls,v,rfl,H,List.mem_range.mp J,rfl⟩,?_⟩))))));rintro _ rfl;rfl
 rw[List.filter_eq_self.mpr λ_ _=>rfl];refine JV 2 rfl ?_;refine B0 (Fx (JK (AR (A7 rfl (BL ⟨_,⟨ups Ls,Ls.length,rfl,u.ok,rfl⟩,?_⟩)))));rintro _ rfl;refine JV 3 rfl ?_;show Ws [.raw (Di T (Bh BN) ns),.is (.lst (Ls.map Lp.P)),.is (D6 (ups Ls) Ls.length),.is (.lst ((Cw Ls).map C9)),.any,.any] _ _ _;refine B0 (Fx (Fw nP (λt:Nat=>!Iy (.int (t:Int)) (((Cw Ls).map C9).map Fz.enc)) (λt=>CU (c t)) (O8 (Kr (Bj rfl ⟨(Ls.length:Int),by rw[AG],by omega,by omega,List.range Ls.length,rfl,by rw[Ep];omega,λt p=>?_,λt p _=>?_,?_⟩))) Vs))
 .show Wt [.is (.lst ((Cw Ls).map C9)),.is (nP t)] _ _;refine IF (nj (A7 rfl ⟨rfl,Bj rfl ⟨?_,_,rfl,rfl⟩⟩));rw[List.all_map,Eb];intro o _;cases o <;> rfl
 .show Wp [.is (.lst ((Cw Ls).map C9)),.is (nP t)] _ _;have h:=s t (G.len▸List.mem_range.mp p);refine CC (JK (DW (Bj rfl (AR (A7 rfl (BL ⟨_,⟨Cw Ls,t,c t,rfl,G.len▸hL,h.1,h.2.1,rfl⟩,?_⟩))))));rintro _ rfl;rfl
 have D:=ZBk (Cw Ls);rw[G.len]at D;rw[D,show(Kz.Dr (Cw Ls)).map (λt=>CU (c t))=((Kz.Dr (Cw Ls)).map c).map CU by rw[FJ];rfl];refine JV 4 rfl ?_;show Ws [.raw (Di T (Bh BN) ns),.is (.lst (Ls.map Lp.P)),.is (D6 (ups Ls) Ls.length),.is (.lst ((Cw Ls).map C9)),.is (.lst (((Kz.Dr (Cw Ls)).map c).map CU)),.any] _ _ _;refine B0 (Fx (Xl (λx y=>∀ch,x=CU ch->∃ms:List Str,y=.lst (ms.map .str)/\ms.Perm ns/\ms.Pairwise λa b=>Ow Ls ch a<=Ow Ls ch b) (Ef (DG (A7 rfl ⟨_,.inl ⟨rfl,by rw[AG];have:=u.cl;omega,λ_ _=>Gy rfl,λx hx=>?_,λys C O=>?_⟩⟩)))))
 .obtain⟨ch,Em,rfl⟩:=List.mem_map.mp hx;obtain⟨t,p,rfl⟩:=List.mem_map.mp Em;have h:=s t (Kz.IC.mp p).1;show Wp [.is (.lst (Ls.map Lp.P)),.raw (Di T (Bh BN) ns),.is (CU (c t))] _ _;refine CC (JK (Yb rfl (AR (A7 rfl (AR (A7 rfl (BL ⟨_,⟨ns,Ls,c t,rfl,j,hL,h.2.1,λn q=>G.len▸h.2.2.2 n q,rfl⟩,?_⟩)))))));rintro _⟨ms,rfl,I,B⟩ch e;rw[fM _ _ e]at B;exact⟨ms,rfl,I,B⟩
 obtain⟨U,rfl,L⟩:=fU C O;rw[AG,AG]at C;refine JV 5 rfl ?_;refine Bq (GY (Bz (A7 rfl (Bz (CC (JK (AR (N3 rfl (AR (A7 rfl (AR (A7 rfl (BL ⟨_,⟨ns,Ls,(Kz.Dr (Cw Ls)).map c,f,rfl,N,rfl⟩,?_⟩)))))))))))));rintro _ rfl;refine Bz (CC (JK (AR (A7 rfl (AR (A7 rfl (AR (A7 rfl (BL ⟨_,⟨ups Ls,Ls.length,Cw Ls,(Kz.Dr (Cw Ls)).map c,rfl,u,rfl⟩,?_⟩)))))))));rintro _⟨A,rfl,S,R⟩;exact E8 ⟨by show 3<=100000;decide,q⟩
def uR:Ap ["row","lines"] ["row","lines"] (AI R5):=by walk_at "z1"
def nG:=Sc [(".0",.local),("line",.local),("sorted",.globalImplicit),("row",.free)]
def ZAi:D7 ["row","lines"] (AI R5) nG "line" ["row"] [0]:=by walk_at "z2"
def ZBz(F:AE K "are_lines" "are_lines" R5 f fd)(m:mg "are_lines"=some (.ref f)):
  AH P w K mg Yd "are_lines" 1 ["row","lines"] (Af iU):=by
 refine Fz.hF (k:=0) F (by walk_at "bD2") m uR (by rintro _ _⟨ns,rfl,rfl⟩;rfl) λc=>⟨_,(AJ rfl (Ak (Ag (Qm rfl) Gq (A0 (Jp rfl ZAi (DO (qv 1)) (λ_ _ _ _=>by exact Hc) (λ_ _ _ _=>by exact(FW (show BD _ (compareOp .Eq) (Jo K false)from(YD c.HN)) (Ag (show Bo _ (.builtin "sorted") (RF K)from RL) Cc (A0 (qv 1) A4)) (Ag (show Bo _ (.builtin "sorted") (RF K)from RL) Cc (A0 (qv 0) A4))))) A4)))),?_⟩
 rintro _ _⟨ns,rfl,rfl⟩;show Ws [.is (.lst (ns.map .str)),.is (.lst [])] _ _ _;exact Bq (SK rfl (D3 (CC (Fw PV.bl (λ_=>true) PV.bl (Ef (DG (A7 rfl ⟨_,.inl ⟨rfl,[],rfl,by decide,λ_ h=>absurd h BF,λ_ h=>absurd h BF,_,.inl ⟨rfl,rfl,[],rfl,_,rfl⟩⟩⟩))) (λa b e=>by injection e)))))
def ZAQ(F:AE K "is_seat" "is_seat" fX f fd)(m:mg "is_seat"=some (.ref f)):AH P w K mg Yd "is_seat" 1 ["lines","loop","seat"] (Af Mi):=Fz.ZG F (by walk_at "bD3") m (N:=["lines","loop","seat","line"]) ⟨rfl,rfl,rfl,by decide +kernel,rfl,by decide +kernel,by decide +kernel⟩
def sx:Ap ["loops","lines","seats"] ["loops","lines","seats"] (AI Rr):=by walk_at "z1"
def ZCz:=Sc [(".0",.local),("loop",.local),("seat",.local),("is_seat",.globalImplicit),("lines",.free)]
def tG:GR ["loops","lines","seats"] (AI Rr) ZCz "loop" "seat" ["lines"] [1]:=⟨rfl,by decide +kernel,by decide +kernel,rfl,rfl,rfl,by decide +kernel,by decide +kernel,by decide +kernel,by decide +kernel⟩
def ZEz(F:AE K "are_seats" "are_seats" Rr f fd)(m:mg "are_seats"=some (.ref f)):
  AH P w K mg Yd "are_seats" 2 ["loops","lines","seats"] (Af kK):=by
 refine Fz.hF (k:=1) F (by walk_at "bD3") m sx (by rintro _ _⟨Ls,rfl,rfl⟩;rfl) λa=>⟨_,(AF rfl (BS (Ay Sa (Ag D2 Ad (A0 (qv 2) A4)) (Ag D2 Ad (A0 (qv 0) A4))) (AJ rfl (Ak GC)) BR)
   (AJ rfl (Ak (Ag (Qm rfl) Gq (A0 (jd rfl tG (gD rfl MO (A0 (qv 0) (A0 (qv 2) A4))) (λ_ _ _ _=>by exact(AX Xn a (A0 (qv 0) (A0 (qv 1) (A0 (qv 2) A4)))))) A4))))),?_⟩
 rintro _ _⟨Ls,rfl,rfl⟩;show Ws [.is (.lst (Ls.map Lp.P)),.is (.lst []),.is (.lst [])] _ _ _
 walk_at "ww"
 refine BA (λ_=>Bq (GO ⟨_,rfl⟩)) (λ_=>BU ?_);have e0:HG (Ls.map Lp.P) []=[]:=List.zipWith_nil_right;refine Bq (SK rfl (D3 (CC (ZDL (λx=>x) (bz (DG (A7 rfl ⟨_,.inl ⟨rfl,rfl,DG (A7 rfl ⟨_,.inl ⟨rfl,rfl,?_⟩⟩)⟩⟩)))))));rw[e0];exact⟨by decide,λ_ h=>absurd h BF,_,.inl ⟨rfl,rfl,[],rfl,_,rfl⟩⟩
def zc(F:AE K "fit_one_line" "fit_one_line" iL f fd)(m:mg "fit_one_line"=some (.ref f)):AH P w K mg Yd "fit_one_line" 2 ["one","other"] (Af Mi):=Fz.ZG F (by walk_at "bD2") m (N:=["one","other"]) ⟨rfl,rfl,rfl,by decide +kernel,rfl,by decide +kernel,by decide +kernel⟩
def vE(F:AE K "fits_a_later_one" "fits_a_later_one" bE f fd)(m:mg "fits_a_later_one"=some (.ref f)):AH P w K mg Yd "fits_a_later_one" 3 ["loops","number","apart"] (Af Mi):=Fz.ZG F (by walk_at "bD3") m (N:=["loops","number","apart"]) ⟨rfl,rfl,rfl,by decide +kernel,rfl,by decide +kernel,by decide +kernel⟩
def zI:Ap ["loops","lines","apart"] ["loops","lines","apart"] (AI Nl):=by walk_at "z1"
def tJ:=Sc [(".0",.local),("number",.local),("len",.globalImplicit),("loops",.free)]
def wX:D7 ["loops","lines","apart"] (AI Nl) tJ "number" ["loops"] [0]:=by walk_at "z2"
def qu:=Sc [(".0",.local),("number",.local),("fits_a_later_one",.globalImplicit),("apart",.free),("loops",.free)]
def ZAs:D7 ["loops","lines","apart"] (AI Nl) qu "number" ["apart","loops"] [2,0]:=by walk_at "z2"
def vJ(F:AE K "are_apart" "are_apart" Nl f fd)(m:mg "are_apart"=some (.ref f)):
  AH P w K mg Yd "are_apart" 4 ["loops","lines","apart"] (Af da):=by
 refine Fz.hF (k:=3) F (by walk_at "bD3") m zI (by rintro _ _⟨Ls,rfl,rfl⟩;rfl) λc=>⟨_,(AF rfl (BS (O9 (Ay Sa (Ag D2 Ad (A0 (qv 2) A4)) (Ag D2 Ad (A0 (qv 1) A4))) (Nd (Ay (Pb c.HN) (qv 2) (Ag (gU rfl) Cc (A0 (G6 (dM rfl) G0 (A0 (qv 2) A4)) A4))))).pt (AJ rfl (Ak GC)) BR)
   (AF rfl (BS (O6 (JN (Ag (Qm rfl) Gq (A0 (Jp rfl wX (DO (qv 2)) (λ_ _ _ _=>by exact Hc) (λ_ _ _ _=>by exact(jr Y9 MY A9 (qv 1) (Ag (show Bo _ (.builtin "len") (Jk K)from D2) Ad (A0 (qv 0) A4))))) A4)))) (AJ rfl (Ak GC)) BR)
   (AJ rfl (Ak (rK (Ag (ZCg rfl) Wr (A0 (Jp rfl ZAs (DO (qv 2)) (λ_ _ _ _=>by exact Hc) (λ_ _ _ _=>by exact(AX XI c (A0 (qv 1) (A0 (qv 2) (A0 (qv 0) A4)))))) A4))))))),?_⟩
 rintro _ _⟨Ls,rfl,rfl⟩;show Ws [.is (.lst (Ls.map Lp.P)),.is (.lst []),.is (.lst [])] _ _ _;refine B0 (D8 (KU (D9 ?_)))
 walk_at "ww"
 refine BA (λ_=>Bq (GO ⟨_,rfl⟩)) (λ_=>?_);refine D9 (qY (Bj rfl ⟨[],rfl,D3 (CC (dZ (Bj rfl ⟨[],rfl,by decide,λts g i d=>⟨_,.inl ⟨rfl,rfl,ts,rfl,_,rfl,?_⟩⟩⟩)))⟩));refine BA (λ_=>Bq (GO ⟨_,rfl⟩)) (λ_=>?_);refine BU (B0 (D8 (Lx (IF (SK rfl (D3 (CC (Fw PV.bl (λ_=>true) PV.bl (Ef (DG (A7 rfl ⟨_,.inl ⟨rfl,[],rfl,by decide,λ_ h=>absurd h BF,λ_ h=>absurd h BF,_,.inl ⟨rfl,rfl,[],rfl,_,rfl,?_⟩⟩⟩))) (λa b e=>by injection e)))))))));rw[nr (by decide)];exact BU (Bq (cw (i5 rfl (D3 (CC (Fw PV.bl (λ_=>true) PV.bl (Ef (DG (A7 rfl ⟨_,.inl ⟨rfl,[],rfl,by decide,λ_ h=>absurd h BF,λ_ h=>absurd h BF,_,.inl ⟨rfl,rfl,[],rfl,_,rfl,_,rfl⟩⟩⟩))) (λa b e=>by injection e)))))))
def qD:Ap ["row","loops","lines","seats","apart"] ["row","loops","lines","seats","apart"] (AI Z3):=by walk_at "z1"
def ZDR(F:AE K "lines_judged" "lines_judged" Z3 f fd)(m:mg "lines_judged"=some (.ref f)):
  CS P w K mg Yd "lines_judged" 6 ["row","loops","lines","seats","apart"] (Ct (jN AW AS)):=by
 refine Fz.hX (k:=5) F (by walk_at "bD5") m qD (by rintro _ _ _⟨ns,zs,rfl,_,rfl,rfl⟩;rfl) λE a=>⟨_,(AF rfl (FI (GI Gn a (by decide) FZ rfl (A0 (qv 0) (A0 (qv 1) A4))))
   (AJ rfl (Ak (Jn (AX Yt a (A0 (qv 0) (A0 (qv 2) A4))) (Jn (AX XS a (A0 (qv 1) (A0 (qv 2) (A0 (qv 3) A4)))) (LA (AX YU a (A0 (qv 1) (A0 (qv 2) (A0 (qv 4) A4)))))))))),?_⟩
 rintro _ _ _⟨ns,zs,rfl,d,rfl,rfl⟩;intro i0;show Ws [.is (.lst (ns.map .str)),.is (.lst (zs.map Lz.P)),.is (.lst []),.is (.lst []),.is (.lst [])] _ _ _;refine B0 (JX (GN (DW (Bj rfl (DW (Bj rfl (BL ⟨_,_,⟨false,ns,false,zs,rfl,d,rfl,rfl⟩,trivial,?_,?_⟩)))))))
 .exact λe h=>h
 intro _ c;obtain⟨Ls,g,i,j⟩:=RZ c;rw[g];refine Bq (Ht (wp_call (AR (A7 rfl (AR (A7 rfl (BL ⟨_,⟨ns,rfl,rfl⟩,?_⟩)))))));rintro _⟨b,rfl⟩;refine⟨_,rfl,BA (λ_=>?_) (λ_=>c)⟩;refine Ht (wp_call (AR (A7 rfl (AR (A7 rfl (AR (A7 rfl (BL ⟨_,⟨Ls,rfl,rfl⟩,?_⟩))))))));rintro _⟨b,rfl⟩;refine⟨_,rfl,BA (λ_=>?_) (λ_=>c)⟩;refine wp_call (AR (A7 rfl (AR (A7 rfl (AR (A7 rfl (BL ⟨_,⟨Ls,rfl,rfl⟩,λ_ _=>c⟩)))))))
def ZEK:Ap ["way","row","loops","one","other"] ["way","row","loops","one","other"] (AI UN):=by walk_at "z1"
def xp(F:AE K "_law_ask" "_law_ask" UN f fd)(m:mg "_law_ask"=some (.ref f)):
  CS P w K mg Yd "_law_ask" 17 ["way","row","loops","one","other"] (Ct (gF T (Bh BN) AW AS Ac)):=by
 refine Fz.hX (k:=16) F (by walk_at "bD5") m ZEK (by rintro _ _ _⟨w,ns,zs,x,y,rfl,_,_,_,_,rfl,rfl⟩;rfl) λE b=>⟨_,(AF rfl (BS (Ay De (qv 0) A9) (AJ rfl (Ak (GI U0 b (by decide) FZ rfl (A0 (qv 1) (A0 (qv 2) A4))))) BR)
   (AF rfl (BS (Ay De (qv 0) A9) (AJ rfl (Ak (GI Uh b (by decide) FZ rfl (A0 (qv 1) (A0 (qv 2) A4))))) BR)
   (AF rfl (BS (Ay De (qv 0) A9) (AJ rfl (Ak (GI Xt b (by decide) FZ rfl (A0 (qv 1) (A0 (qv 2) (A0 (E4 A4) (A0 (E4 A4) (A0 (E4 A4) A4)))))))) BR)
   (AJ rfl (Ak (GI Tx b (by decide) FZ rfl (A0 (qv 1) (A0 (qv 2) (A0 (qv 3) (A0 (qv 4) A4)))))))))),?_⟩
 rintro _ _ _⟨w,ns,zs,x,y,rfl,hw,a,hx,c,rfl,rfl⟩;intro i0;show Ws [.is (.int w),.raw (Di T (Bh BN) ns),.is (.lst (zs.map Lz.P)),.is (.str x),.is (.str y)] _ _ _;have d:w=0∨w=1∨w=2∨w=3:=by omega
 rcases d with rfl|rfl|rfl|rfl
 .walk_at "ww"
  rw[oM (by rfl)];exact Bq (GN (AR (N3 rfl (AR (A7 rfl (BL ⟨_,_,⟨ns,zs,rfl,a,rfl,rfl⟩,trivial,λe h=>h,λ_ h=>h⟩))))))
 .walk_at "ww"
  rw[nr (by decide)];refine BU ?_
  walk_at "ww"
  rw[oM (by rfl)];exact Bq (GN (Yb rfl (AR (A7 rfl (BL ⟨_,_,⟨ns,zs,rfl,a,rfl,rfl⟩,trivial,λe h=>h,λ_ h=>h⟩)))))
 .walk_at "ww"
  rw[nr (by decide)];refine BU ?_
  walk_at "ww"
  rw[nr (by decide)];refine BU ?_
  walk_at "ww"
  rw[oM (by rfl)];have e0:∀{k:PV->Prop},k (.lst [])->Wp [.is (.int (2:Nat)),.raw (Di T (Bh BN) ns),.is (.lst (zs.map Lz.P)),.is (.str x),.is (.str y)] (Sd B6) k:=λh=>CC (Mx (E8 ⟨by decide,h⟩));exact Bq (GN (AR (N3 rfl (AR (A7 rfl (AR (e0 (AR (e0 (AR (e0 (BL ⟨_,_,⟨ns,zs,rfl,a,rfl,rfl⟩,trivial,λe h=>h,λ_ h=>h⟩))))))))))))
 .walk_at "ww"
  rw[nr (by decide)];refine BU ?_
  walk_at "ww"
  rw[nr (by decide)];refine BU ?_
  walk_at "ww"
  rw[nr (by decide)];refine BU ?_;exact Bq (GN (AR (N3 rfl (AR (A7 rfl (AR (A7 rfl (AR (A7 rfl (BL ⟨_,_,⟨ns,zs,x,y,rfl,a,hx,c,rfl,rfl⟩,trivial,λe h=>h,λ_ h=>h⟩))))))))))
def Q8:Ap ["way","row","loops","one","other","found","e"] ["way","row","loops","one","other"] (AI UP):=by walk_at "z1"
def tR(F:AE K "_law_said" "_law_said" UP f fd)(m:mg "_law_said"=some (.ref f)):
  AH P w K mg Yd "_law_said" 18 ["way","row","loops","one","other"] (Af (gj T (Bh BN) AW AS Ac)):=by
 refine Fz.hF (k:=17) F (by walk_at "bD5") m Q8 (by rintro _ _⟨w,ns,zs,x,y,rfl,_,_,_,_,rfl⟩;rfl) λd=>⟨_,(AF rfl (Ar 5 Q8.nd HZ)
   (AF rfl (o9 (j:=6) rfl rfl Q8.nd rfl rfl (by rfl) L5 (λ_ _ _ g1=>by exact(AJ rfl (FI (GI Xc d (by decide) g1 rfl (A0 (qv 0) (A0 (qv 1) (A0 (qv 2) (A0 (qv 3) (A0 (qv 4) A4))))))))) (λ_=>by exact(AJ rfl (Ar 5 Q8.nd (qv 6)))))
   (AJ rfl (Ak (qv 5))))),?_⟩
 rintro _ _⟨w,ns,zs,x,y,rfl,hw,b,hx,c,rfl⟩;show Ws [.is (.int w),.raw (Di T (Bh BN) ns),.is (.lst (zs.map Lz.P)),.is (.str x),.is (.str y),.any,.any] _ _ _
 walk_at "ww"
 refine ZFn (λA5=>A5=[.is (.int w),.raw (Di T (Bh BN) ns),.is (.lst (zs.map Lz.P)),.is (.str x),.is (.str y),.is .A8,.any]) (λe=>GP AW AS Ac w ns zs x y=some e) (λE=>?_) (λOH e n a=>?_)
 .letI:Xw:=NB E (λA5=>A5=[.is (.int w),.raw (Di T (Bh BN) ns),.is (.lst (zs.map Lz.P)),.is (.str x),.is (.str y),.is .A8,.any]) (λe=>GP AW AS Ac w ns zs x y=some e);refine JX (GN (AR (A7 rfl (Yb rfl (AR (A7 rfl (AR (A7 rfl (AR (A7 rfl (BL ⟨_,_,⟨w,ns,zs,x,y,rfl,hw,b,hx,c,rfl,rfl⟩,rfl,λe h=>h,?_⟩)))))))))));intro _ g;clear this;show Ws _ _ _ _;exact Bq (A7 rfl (by rw[g];rfl))
 .subst n;have l:e=G4 AW∨e=G4 AS∨∃z,e=My Ac z:=yO a;have i:PySem.W.exmOne K (.ref e.C) (.ref C0)=some true:=by
   rcases l with rfl|rfl|⟨z,rfl⟩
   .exact Vp
   .exact VD
   .exact Xm
  refine⟨i,?_⟩;refine KG (A7 rfl ?_);show Ws _ _ _ _;exact Bq (A7 rfl (by rw[a];rfl))
def Ed:Ap ["script","k","pot","row","good","loops","bad","turn","at","one","other","way","due"] ["script"] (AI LF):=by walk_at "z1"
def ZAm:=Sc [(".0",.local),("turn",.local),("_law_some_loop",.globalImplicit),("pot",.free),("row",.free)]
def zx:D7 ["script","k","pot","row","good","loops","bad","turn","at","one","other","way","due"] (AI LF) ZAm "turn" ["pot","row"] [2,3]:=by walk_at "z2"
def xF(F:AE K "law" "law" LF f fd)(m:mg "law"=some (.ref f)):
  Cs P w K mg Yd DD 19 f fd ["script"] (O1 K T (Bh BN)):=by
 refine(F.Gr (k:=18) Ed (λvs H Q E h=>by obtain⟨_,a,ns,rfl,_⟩:=h;rfl) (λAU A outer s H vs Q E q h=>?_));refine⟨_,(AF rfl (CV (FQ Fi rfl (J8 rfl DH (A0 (Ag (oU rfl) Tu (A0 A9 (A0 (Ag (ZAn rfl) Wd (A0 (Ag D2 Ad (A0 (qv 0) A4)) (A0 A9 A4))) A4))) A4)) (DY 1 Ed.nd) (AF rfl (Ar 2 Ed.nd (AX WL q (A0 (qv 0) (A0 (qv 1) A4))))
   (AF rfl (Ar 3 Ed.nd (AX ZE q (A0 (qv 2) (A0 A9 A4))))
   (AF rfl (Ar 4 Ed.nd (AX VW q (A0 (qv 2) (A0 (qv 3) (A0 A9 A4)))))
   (AF rfl (Ar 5 Ed.nd (G6 TH JH (A0 (qv 4) A4)))
   (AF rfl (CV (BS (Ay De (AX BC q (A0 (qv 2) (A0 A9 A4))) A9) (AJ rfl (JO (i:=5) Ed.nd rfl (Or.inl rfl) rfl zx (J8 rfl DH (A0 (B5 FE A9 (AX BC q (A0 (qv 2) (A0 A9 A4)))) A4)) (λ_ _ _ _=>by exact Hc) (λ_ _ _ _=>by exact(AX Kv q (A0 (qv 0) (A0 (qv 1) A4)))))) BR))
   (AF rfl (Ar 6 Ed.nd GC)
   (AF rfl (CV (BS (Ay Ja (AX BC q (A0 (qv 2) (A0 A9 A4))) A9) (AF rfl (CV (FQ Fi rfl (J8 rfl DH (A0 (B5 FE A9 (AX BC q (A0 (qv 2) (A0 A9 A4)))) A4)) (DY 7 Ed.nd) (AF rfl (Ar 8 Ed.nd (AX BC q (A0 (qv 2) (A0 (B5 FE (Ag D2 Ad (A0 (qv 5) A4)) A9) A4))))
   (AJ rfl (NU (E4 (A0 (AX XT q (A0 (qv 2) (A0 (qv 3) (A0 (AX Kv q (A0 (qv 2) (A0 (qv 3) A4))) A4)))) A4)) (xb (qv 5) (Kj (qv 8)) (Kj (B5 FE (qv 8) A9))))))))
   (AJ rfl (Ar 6 Ed.nd GC))) BR))
   (AF rfl (Ar 9 Ed.nd (AX SM q (A0 (qv 2) (A0 (qv 3) A4))))
   (AF rfl (Ar 10 Ed.nd (AX SM q (A0 (qv 2) (A0 (qv 3) A4))))
   (AJ rfl (FQ Fi rfl (DO (Cq (A0 A9 (A0 A9 (A0 A9 (A0 A9 (A0 A9 A4))))))) (DY 11 Ed.nd) (AF rfl (Ar 12 Ed.nd (AX SI q (A0 (qv 6) (A0 (qv 5) (A0 (qv 3) (A0 (qv 9) (A0 (qv 10) A4)))))))
   (AF rfl (CV (BS (Ay MY (qv 11) A9) (AJ rfl (Ar 12 Ed.nd (AX SI q (A0 (qv 6) (A0 (qv 5) (A0 (B5 vd (qv 3) (E4 (A0 (qv 9) (A0 (qv 10) A4)))) (A0 (qv 9) (A0 (qv 10) A4)))))))) BR))
   (AF rfl (BS (O6 (JN (AX VQ q (A0 (AX Rw q (A0 (qv 11) (A0 (G6 TH JH (A0 (qv 3) A4)) (A0 (G6 TH JH (A0 (qv 5) A4)) (A0 (qv 9) (A0 (qv 10) A4)))))) (A0 (qv 12) A4))))) (AJ rfl (Ak GC)) BR)
   (AJ rfl (BS (Il (Ay MY (qv 11) A9) (Jr (Ay aI (AX Rw q (A0 (qv 11) (A0 (qv 3) (A0 (qv 4) (A0 (qv 9) (A0 (qv 10) A4)))))) HZ))).pt (AJ rfl (Ak GC)) BR))))))))))))))))))
   (AJ rfl (Ak GC))),?_⟩
 refine Fz.vW h ?_;intro sc bw;show Ws [_,.any,.any,.any,.any,.any,.any,.any,.any,.any,.any,.any,.any] _ _ _;refine B0 (Ek (GJ (λ_ _ A5=>∃s1 s2 M s4 J C o e t GB EC Eh:Slot,A5=[.raw (Dz K T (Bh BN) sc),s1,s2,M,s4,J,C,o,e,t,GB,EC,Eh]) ?_))
 walk_at "ww"
 obtain⟨n,en,hn⟩:=ZDQ (b:=1) (c:=8) (n:=sc.length) (by decide) (by decide) (by omega);rw[en,Lk];refine⟨by omega,by omega,⟨_,_,_,_,_,_,_,_,_,_,_,_,rfl⟩,?_,?_⟩
 .rintro i p A5 hp⟨s1,s2,M,s4,J,C,o,e,t,GB,EC,Eh,rfl⟩;obtain⟨hi,rfl⟩:=RK hp;refine IE ?_
  walk_at "ww"
  refine⟨by omega,by omega,?_⟩
  walk_at "ww"
  refine⟨by decide,by decide,λns G O nd=>?_⟩;have u:ns.length<=40:=by omega
  refine JV 3 rfl ?_;refine B0 (Fx (qR rfl (AR (A7 rfl (AR (CQ (BL ⟨_,⟨ns,12,rfl,by decide,u,nd,rfl⟩,?_⟩)))))));rintro _⟨Ls,rfl,hL,N⟩;refine JV 4 rfl ?_;show Ws [.raw (Dz K T (Bh BN) sc),.is (.int i),.AD,.is (.lst (ns.map .str)),.is (.lst (Ls.map Lp.P)),J,C,o,e,t,GB,EC,Eh] _ _ _;refine B0 (Fx (QC rfl (Bj rfl ?_)));show Ws [.raw (Dz K T (Bh BN) sc),.is (.int i),.AD,.is (.lst (ns.map .str)),.is (.lst (Ls.map Lp.P)),.own (Ls.map Lp.P),C,o,e,t,GB,EC,Eh] _ _ _;refine MQ (λA5=>∃Ms:List Lp,A5=[.raw (Dz K T (Bh BN) sc),.is (.int i),.AD,.is (.lst (ns.map .str)),.is (.lst (Ls.map Lp.P)),.own (List.map Lp.P Ms),C,o,e,t,GB,EC,Eh]/\Ms.length<=40/\∀l∈Ms,l.Good ns) (Ek (D8 ?_)) ?_
  .walk_at "ww"
   refine⟨by decide,by decide,λX h1 h2=>?_⟩
   walk_at "ww"
   refine BA (λc=>?_) (λc=>BU ⟨Ls,rfl,by omega,N⟩);refine Fx (Xl (λ_ y=>∃l:Lp,y=l.P/\l.Good ns) ?_)
   walk_at "ww"
   refine⟨by decide,by decide,λW B h4=>⟨_,rfl,_,rfl,by omega,by omega,by rw[Hv];omega,λ_ _=>Gy rfl,λx hx=>?_,λys D hP=>?_⟩⟩
   .show Wp [.AD,.is (.lst (ns.map .str)),.is x] _ _;exact Vu rfl (Bj rfl ⟨rfl,ns,rfl,u,nd,λr g cs gd _=>⟨⟨r,g,cs⟩,rfl,gd⟩⟩)
   .rw[Hv]at D;obtain⟨Ms,rfl,gM⟩:=eO (P:=λl=>l.Good ns) λy Y=>by
     obtain⟨j,S⟩:=List.mem_iff_getElem?.mp Y;have lj:=(List.getElem?_eq_some_iff.mp S).1;exact hP j _ y (Au (by rw[Hv];omega)) S
    rw[AG]at D;exact⟨Ms,rfl,by omega,gM⟩
  rintro _⟨Ms,rfl,hM,gM⟩;refine B0 (KG (GO ?_));show Ws [.raw (Dz K T (Bh BN) sc),.is (.int i),.AD,.is (.lst (ns.map .str)),.is (.lst (Ls.map Lp.P)),.own (Ms.map Lp.P),.is (.bl false),o,e,t,GB,EC,Eh] _ _ _;rw[<- fi Ms];have i0:Zi ns 0 (Ms.map Lp.z):=.start hM gM u;refine MQ (λA5=>∃(bad:Bool)(zs:List Lz)(o e:Slot),A5=[.raw (Dz K T (Bh BN) sc),.is (.int i),.AD,.is (.lst (ns.map .str)),.is (.lst (Ls.map Lp.P)),.own (List.map Lz.P zs),.is (.bl bad),o,e,t,GB,EC,Eh]/\zs.length<=60/\(∀z∈zs,z.cs.length<64)/\zs.all (Lz.ok ns)=!bad) (Ek (D8 ?_)) ?_
  .walk_at "ww"
   refine⟨by decide,by decide,λX h1 h2=>?_⟩
   walk_at "ww"
   refine BA (λc=>?_) (λc=>BU ⟨false,_,_,_,rfl,by rw[AG];omega,i0.cl,fF gM⟩);refine MQ (λA5=>∃(zs:List Lz)(o e:Slot),A5=[.raw (Dz K T (Bh BN) sc),.is (.int i),.AD,.is (.lst (ns.map .str)),.is (.lst (Ls.map Lp.P)),.own (List.map Lz.P zs),.is (.bl false),o,e,t,GB,EC,Eh]/\Zi ns 3 zs/\zs.all (Lz.ok ns)=false) (Ek (GJ (λ_ j A5=>∃(zs:List Lz)(o e:Slot),A5=[.raw (Dz K T (Bh BN) sc),.is (.int i),.AD,.is (.lst (ns.map .str)),.is (.lst (Ls.map Lp.P)),.own (List.map Lz.P zs),.is (.bl false),o,e,t,GB,EC,Eh]/\Zi ns j zs) ?_)) ?_
   .walk_at "ww"
    refine⟨by decide,by decide,λW B h4=>⟨_,rfl,_,rfl,by omega,by omega,⟨_,_,_,rfl,i0⟩,λj p A5 DA=>?_,λA5=>?_⟩⟩
    .rintro⟨zs,o,e,rfl,I⟩;obtain⟨hj,rfl⟩:=RK DA;have G:=I.l;refine IE ?_
     walk_at "ww"
     rw[AG];refine⟨by omega,by omega,λR h5 h6=>?_⟩;obtain⟨k,rfl⟩:∃k:Nat,R=k:=⟨R.toNat,by omega⟩;show Ws [.raw (Dz K T (Bh BN) sc),.is (.int i),.AD,.is (.lst (ns.map .str)),.is (.lst (Ls.map Lp.P)),.own (zs.map Lz.P),.is (.bl false),.is (.int j),.is (.int k),t,GB,EC,Eh] _ _ _;refine ua (i:=5) rfl (Mx (Bz (VS rfl (AR (A7 rfl (AR (Vu rfl (Bj rfl ⟨rfl,ns,rfl,u,nd,λr g cs gd _=>BL ⟨_,⟨ns,⟨r,g,cs⟩,rfl,u,O,gd,rfl⟩,?_⟩⟩))))))));rintro _⟨z,rfl,V,U⟩;refine E8 ⟨by simp,MN (A7 rfl ⟨_,rfl,MN (bg (A7 rfl ⟨_,rfl,CQ ⟨_,rfl,_,rfl,k,k+1,rfl,rfl,by omega,by rw[AG];show _+1<=_;omega,zs.take k++[z]++zs.drop (k+1),.is (.int j),.is (.int k),?_,I.put V U⟩⟩))⟩)⟩;rw[Dv,Dv,List.map_take,List.map_drop];rfl
    .rintro⟨zs,o,e,rfl,I⟩;rw[Hv]at I;exact⟨zs,o,e,rfl,I.xy (by omega),I.bad (by omega)⟩
   rintro _⟨zs,o,e,rfl,I,L⟩;exact KG (GO ⟨true,zs,o,e,rfl,by have:=I.l;omega,I.cl,L⟩)
  rintro _⟨bad,zs,o,e,rfl,G,hc,L⟩;have σ:Ir ns zs:=⟨u,nd,G,hc⟩;have Zg:Ir ns (Ls.map Lp.z):=⟨u,nd,by rw[AG];omega,λz hz=>by
   obtain⟨l,G,rfl⟩:=List.mem_map.mp hz;have:=D1.len (show D1 ns l.r l.g l.cs from N l G);show l.cs.length<64;omega⟩
  have cg:D0 AW AS ns (Ls.map Lp.z)=none:=bK (by rw[AG];omega) (fF N);refine JV 5 rfl ?_;refine B0 (KG (VS rfl (AR (A7 rfl (BL ⟨_,⟨ns,rfl,u,O,rfl⟩,?_⟩)))));rintro _⟨x,rfl,hx⟩;refine B0 (KG (VS rfl (AR (A7 rfl (BL ⟨_,⟨ns,rfl,u,O,rfl⟩,?_⟩)))));rintro _⟨y,rfl,D⟩;show Ws [.raw (Dz K T (Bh BN) sc),.is (.int i),.AD,.is (.lst (ns.map .str)),.is (.lst (Ls.map Lp.P)),.is (.lst (zs.map Lz.P)),.is (.bl bad),o,e,.is (.str x),.is (.str y),EC,Eh] _ _ _;refine GJ (λ_ _ A5=>∃EC Eh:Slot,A5=[.raw (Dz K T (Bh BN) sc),.is (.int i),.AD,.is (.lst (ns.map .str)),.is (.lst (Ls.map Lp.P)),.is (.lst (zs.map Lz.P)),.is (.bl bad),o,e,.is (.str x),.is (.str y),EC,Eh]) (Ef (DG (GY (Bz (CQ (Bz (CQ (Bz (CQ (Bz (CQ (Bz (CQ (E8 ⟨by show 5<=100000;decide,_,.inr ⟨rfl,⟨_,_,rfl⟩,λj p A5 DA=>?_,λA5=>?_⟩⟩))))))))))))))
  .rintro⟨EC,Eh,rfl⟩;obtain⟨w,rfl,hw⟩:∃w:Nat,p=.int w/\w<4:=by
    have m:=C8 DA;simp only[Ec,BF,yp]at m;rcases m with rfl|rfl|rfl|rfl|rfl
    .exact⟨0,rfl,by decide⟩
    .exact⟨1,rfl,by decide⟩
    .exact⟨2,rfl,by decide⟩
    .exact⟨3,rfl,by decide⟩
    .exact⟨3,rfl,by decide⟩
   refine IE ?_;refine B0 (KG (wp_call (AR (A7 rfl (AR (A7 rfl (AR (A7 rfl (AR (A7 rfl (AR (A7 rfl (BL ⟨_,⟨bad,ns,zs,x,y,rfl,by omega,rfl⟩,?_⟩)))))))))))));rintro _ rfl;refine MQ (λA5=>∃d:PV,A5=[.raw (Dz K T (Bh BN) sc),.is (.int i),.AD,.is (.lst (ns.map .str)),.is (.lst (Ls.map Lp.P)),.is (.lst (zs.map Lz.P)),.is (.bl bad),o,e,.is (.str x),.is (.str y),.is (.int w),.is d]/\JB AW AS Ac (GP AW AS Ac w ns zs x y) d) (Ek (D8 ?_)) ?_
   .walk_at "ww"
    refine BA (λc=>?_) (λc=>BU ⟨_,rfl,?_⟩)
    .have B:w≠3:=λz=>by rw[z]at c;cases c
     refine KG (wp_call (AR (A7 rfl (AR (A7 rfl (AR (CC (lO (Bj rfl ⟨rfl,D3 (CC (Mx (Bz (A7 rfl (Bz (A7 rfl (E8 ⟨by simp,_,.inl ⟨rfl,rfl,?_,AR (A7 rfl (AR (A7 rfl (BL ⟨_,⟨bad,ns++[x,y],zs,x,y,?_,by rw[BI];show _+2<=_;omega,rfl⟩,?_⟩))))⟩⟩)))))))⟩)))))))))
     .rw[AG];show _+2<=_;omega
     .rw[Dv];rfl
     .rintro _ rfl;refine⟨_,rfl,?_⟩;unfold GP;rw[nr B];exact pd L
    .have B:w=3:=by have:¬ (w:Int)<3:=λz=>c (oW z);omega
     unfold GP;rw[oM B];exact xR L
   rintro _⟨d,rfl,hd⟩;refine B0 (D8 (Lx (IF (wp_call (AR (wp_call (AR (A7 rfl (jA 0 rfl (λF v h=>h.2) (CC (QC rfl (Bj rfl ⟨rfl,AR (CC (QC rfl (Bj rfl (AR (A7 rfl (AR (A7 rfl (BL ⟨_,⟨w,ns,zs,x,y,rfl,hw,σ,hx,D,rfl⟩,?_⟩))))))))⟩))))))))))));rintro _ rfl;refine AR (A7 rfl (BL ⟨_,⟨_,d,rfl,hd,rfl⟩,?_⟩));rintro _ rfl;refine⟨true,rfl,HY (BU ?_)⟩;refine D8 (P5 (D9 ?_))
   walk_at "ww"
   refine BA (λc=>?_) (λc=>HY (BU ⟨_,_,rfl⟩));have B:w≠3:=λz=>by rw[z]at c;cases c
   refine D9 (ZBm (wp_call (AR (A7 rfl (jA 0 rfl (λF v h=>h.2) (A7 rfl ⟨rfl,AR (A7 rfl (AR (A7 rfl (AR (A7 rfl (BL ⟨_,⟨w,ns,Ls.map Lp.z,x,y,by rw[fi],hw,Zg,hx,D,rfl⟩,?_⟩))))))⟩))))));rintro _ rfl;rw[show GP AW AS Ac w ns (Ls.map Lp.z) x y=none by unfold GP;rw[nr B,cg]];exact EE ⟨rfl,_,rfl,HY (BU ⟨_,_,rfl⟩)⟩
  .rintro⟨EC,Eh,rfl⟩;exact⟨_,_,_,_,_,_,_,_,_,_,_,_,rfl⟩
 .rintro A5⟨s1,s2,M,s4,J,C,o,e,t,GB,EC,Eh,rfl⟩;exact Bq (GO rfl)
def all_mk{fa f1 f2 f3 f4 f5 f6 f7 f8 f9 ke jB cF aQ jn jY bZ dw iY fV Zr gX aY dO c6 fk dv iN kI Zw i6 c8 fS i7 fv dU lU fB gC fL lJ gR ag kc jh:Addr}{g1 g2 g3 g4 g5 g6 g7 g8 g9 g10 wB mq wZ uf g15 g16 sC yD oQ pC g21 zP wL g24 g25 oh g27 g28 qJ ib g31 qo g33 rP u3 wN uY g38 g39 g40 uN sM g43 yt:FuncData}(X:K.In h)(G:h.Ns mainGlobals mg)(zB:mg "law"=some (.ref fa))
  
  (a1:nS K "_law_pot" (.ref f1)) (F1:AE K "_law_pot" "_law_pot" YK f1 g1)
  (a2:nS K "_law_take" (.ref f2)) (F2:AE K "_law_take" "_law_take" V0 f2 g2)
  (a3:nS K "_law_letters" (.ref f3)) (F3:AE K "_law_letters" "_law_letters" WH f3 g3)
  (a4:nS K "_law_name" (.ref f4)) (F4:AE K "_law_name" "_law_name" Vx f4 g4)
  (a5:nS K "_law_names" (.ref f5)) (F5:AE K "_law_names" "_law_names" W6 f5 g5)
  (a6:nS K "_law_row" (.ref f6)) (F6:AE K "_law_row" "_law_row" YH f6 g6)
  (a7:nS K "_law_some_loop" (.ref f7)) (F7:AE K "_law_some_loop" "_law_some_loop" YB f7 g7)
  (a8:nS K "_law_loops" (.ref f8)) (F8:AE K "_law_loops" "_law_loops" Qe f8 g8)
  (a9:nS K "_law_text" (.ref f9)) (F9:AE K "_law_text" "_law_text" Yr f9 g9)
  (a10:nS K "_law_due" (.ref ke)) (o4:AE K "_law_due" "_law_due" Q0 ke g10)
  (xt:nS K "_law_alone" (.ref jB)) (F11:AE K "_law_alone" "_law_alone" Xu jB wB)
  (pX:nS K "_law_right" (.ref cF)) (pM:AE K "_law_right" "_law_right" Vw cF mq)
  (xX:nS K "_law_spoilt" (.ref aQ)) (qI:AE K "_law_spoilt" "_law_spoilt" WB aQ wZ)
  (oO:nS K "is_gap" (.ref jn)) (F14:AE K "is_gap" "is_gap" Wf jn uf)
  (a15:nS K "is_coming" (.ref jY)) (F15:AE K "is_coming" "is_coming" Rq jY g15)
  (sY:nS K "is_loop" (.ref bZ)) (zr:AE K "is_loop" "is_loop" Ym bZ g16)
  (a17:nS K "check_loop" (.ref dw)) (xT:AE K "check_loop" "check_loop" YO dw sC)
  (sF:nS K "check_loops" (.ref iY)) (F18:AE K "check_loops" "check_loops" Y2 iY yD)
  (rg:nS K "place_of" (.ref fV)) (F19:AE K "place_of" "place_of" WJ fV oQ)
  (yl:nS K "parting_loop" (.ref Zr)) (vk:AE K "parting_loop" "parting_loop" Vo Zr pC)
  (a21:nS K "numbers_of" (.ref gX)) (F21:AE K "numbers_of" "numbers_of" SV gX g21)
  (xg:nS K "key_of" (.ref aY)) (F22:AE K "key_of" "key_of" Q3 aY zP)
  (zy:nS K "brands" (.ref dO)) (vH:AE K "brands" "brands" RO dO wL)
  (su:nS K "finds_upper" (.ref c6)) (F24:AE K "finds_upper" "finds_upper" Sb c6 g24)
  (a25:nS K "greatest_pairing" (.ref fk)) (o7:AE K "greatest_pairing" "greatest_pairing" R7 fk g25)
  (a26:nS K "has_all_of" (.ref dv)) (u0:AE K "has_all_of" "has_all_of" W9 dv oh)
  (wu:nS K "is_above" (.ref iN)) (xY:AE K "is_above" "is_above" Ud iN g27)
  (a28:nS K "numbers_above" (.ref kI)) (qQ:AE K "numbers_above" "numbers_above" SX kI g28)
  (uu:nS K "chain_down" (.ref Zw)) (uP:AE K "chain_down" "chain_down" Xd Zw qJ)
  (a30:nS K "line_of" (.ref i6)) (Z8:AE K "line_of" "line_of" BN i6 ib/\ib.code=.ref cT/\PySem.W.codeHdIn K cT T=true)
  (yB:nS K "seats_of" (.ref c8)) (F31:AE K "seats_of" "seats_of" Qz c8 g31)
  (a32:nS K "uppermost_untried" (.ref fS)) (F32:AE K "uppermost_untried" "uppermost_untried" QK fS qo)
  (xx:nS K "apart_of" (.ref i7)) (wA:AE K "apart_of" "apart_of" Rk i7 g33)
  (pU:nS K "lines_of" (.ref fv)) (pE:AE K "lines_of" "lines_of" MW fv rP)
  (wa:nS K "are_lines" (.ref dU)) (rh:AE K "are_lines" "are_lines" R5 dU u3)
  (a36:nS K "is_seat" (.ref lU)) (t4:AE K "is_seat" "is_seat" fX lU wN)
  (mh:nS K "are_seats" (.ref fB)) (nE:AE K "are_seats" "are_seats" Rr fB uY)
  (zK:nS K "fit_one_line" (.ref gC)) (F38:AE K "fit_one_line" "fit_one_line" iL gC g38)
  (zT:nS K "fits_a_later_one" (.ref fL)) (nK:AE K "fits_a_later_one" "fits_a_later_one" bE fL g39)
  (a40:nS K "are_apart" (.ref lJ)) (F40:AE K "are_apart" "are_apart" Nl lJ g40)
  (a41:nS K "lines_judged" (.ref gR)) (F41:AE K "lines_judged" "lines_judged" Z3 gR uN)
  (ub:nS K "_law_ask" (.ref ag)) (F42:AE K "_law_ask" "_law_ask" UN ag sM)
  (z7:nS K "_law_said" (.ref kc)) (wm:AE K "_law_said" "_law_said" UP kc g43)
  (fW:nS K "law" (.ref jh)) (Zv:AE K "law" "law" LF jh yt)
  (zq:nN K "ValueError")
  (xj:nN K "all")
  (ZAd:nN K "any")
  (ZEq:nN K "enumerate")
  (zU:nN K "isinstance")
  (ZFF:nN K "len")
  (pY:nN K "list")
  (uZ:nN K "max")
  (vm:nN K "min")
  (sZ:nN K "range")
  (yq:nN K "set")
  (yy:nN K "sorted")
  (uV:nN K "tuple")
  (ZEZ:nN K "zip")
  (xk:nS K "MOST_LOOPS" (.int 12 XE))
  (u7:nS K "RULES" (.ref Jy))
  {nh:Option Addr}{pT:Array (Option Value)}{zk:Nat}{n9 ZEX ZE0:Tok}(y9:K.lookup Jy=some ⟨.type "tuple", nh,.seq #[.str "none" n9,.str "ahead" ZEX,.str "all" ZE0] zk,pT⟩)
  (ug:nS K "Endless" (.ref EG))
  (ZFO:nS K "Full" (.ref EM))
  (ZAL:nS K "Gone" (.ref Ac))
  (rT:nS K "NoLog" (.ref EB))
  (ZAc:nS K "NoLoop" (.ref AS))
  (ZEj:nS K "NoName" (.ref EU))
  (yT:nS K "NoOrders" (.ref EH))
  (ZG4:nS K "NoPlace" (.ref EO))
  (ZBc:nS K "NoRow" (.ref ET))
  (qK:nS K "NoRule" (.ref EW))
  (vI:nS K "NoText" (.ref EA))
  (zQ:nS K "NoTicket" (.ref EY))
  (nO:nS K "NoWhere" (.ref EL))
  (nC:nS K "Stale" (.ref EJ))
  (ZBY:nS K "StirError" (.ref C0))
  (ZDx:nS K "There" (.ref EX))
  (ZEW:nS K "TooMany" (.ref AW))
  (yM:PySem.W.specialIn K (.ref C0) "__getattribute__"=some (some (.builtin "type.__getattribute__")))
  (ZGE:PySem.W.readsIn K C0 (.type "type")=true)
  (ZEP:PySem.W.findCls K (.ref C0) (.type "type") "__init__"=some (.val (.builtin "ValueError.__init__")))
  (ZHo:PySem.W.findIn K (.ref Ac) "__init__"=some (some (.ref Rh))) (gA:AE K "__init__" "Gone.__init__" VO Rh ZAh)
  (zC:HL K Ac (some (.ref Rh))=true)
  (ZBq:PySem.W.findIn K (.ref Ac) "__setattr__"=some (some (.builtin "object.__setattr__")))
  (tV:Qf K Ac=true)
  (sf:PySem.W.takerIn K Ac "name"=some none)
  (ZCM:PySem.W.hasDictIn K Ac=true)
  (ZEx:PySem.W.isFn K (.ref Rh)=true)
  (ZEn:PySem.W.keepIn K (.ref Ac)=true)
  (XN:HL K AS none=true)
  (YT:HL K AW none=true)
  (Md:Jc K [EU,EX,Ac,EO,EW,EB,EJ,EL,EA,EM,AW,AS,EY,EG,EH,ET] C0 Ac 2=true)
  (PQ:Jc K [EU,EX,Ac,EO,EW,EB,EJ,EL,EA,EM,AW,AS,EY,EG,EH,ET] C0 AW 10=true)
  (OW:Jc K [EU,EX,Ac,EO,EW,EB,EJ,EL,EA,EM,AW,AS,EY,EG,EH,ET] C0 AS 11=true)
  (Vc:PySem.W.findIn K (.ref Ac) "name"=some none)
  (hd2:PySem.W.hasDictIn K Ac=true)
  (Xm:PySem.W.exmOne K (.ref Ac) (.ref C0)=some true)
  (Vp:PySem.W.exmOne K (.ref AW) (.ref C0)=some true)
  (VD:PySem.W.exmOne K (.ref AS) (.ref C0)=some true)
  (Ic:mainGlobals≠T)
  : ∃fd:FuncData,(∀(s:Shared)(v:Value),BindsTo s fd ⟨[v],[]⟩ [("script", v)])/\∀Yd:Heap,K.In Yd->Yd.Ns mainGlobals mg->Yd.BuiltinsAt mg T->Cs l.prog w K mg Yd DD 19 fa fd ["script"] (O1 K T (Bh BN)):=by
 have e:=zB.symm.trans (Ai X G fW);cases e;have W7:=GF X G zq;have Gq:=GF X G xj;have Wr:=GF X G ZAd;have Kt:=GF X G ZEq;have DT:=GF X G zU;have Ad:=GF X G ZFF;have JH:=GF X G pY;have Tu:=GF X G uZ;have Wd:=GF X G vm;have DH:=GF X G sZ;have G0:=GF X G yq;have Cc:=GF X G yy;have Gm:=GF X G uV;have MO:=GF X G ZEZ;have WA:=Ai X G xk;have Xz:=Ai X G u7;have V1:∀H,Ax K H Jy [.str "none",.str "ahead",.str "all"]:=λH=>.inr ⟨_,_,_,y9,rfl,rfl,(by show 3<=sizeLine;decide +kernel),(.cons ⟨_,rfl⟩ (.cons ⟨_,rfl⟩ (.cons ⟨_,rfl⟩ .nil)))⟩;have Vj:=Ai X G ug;have Uw:=Ai X G ZFO;have Mp:=Ai X G ZAL;have XF:=Ai X G rT;have Mz:=Ai X G ZAc;have Yp:=Ai X G ZEj;have WQ:=Ai X G yT;have Ur:=Ai X G ZG4;have VU:=Ai X G ZBc;have VM:=Ai X G qK;have Vy:=Ai X G vI;have Yc:=Ai X G zQ;have Yn:=Ai X G nO;have Ux:=Ai X G nC;have L5:=Ai X G ZBY;have V2:=Ai X G ZDx;have N9:=Ai X G ZEW;obtain⟨_,_,kV,dc,pm,an,cd,ct,_,rfl,_,_⟩:=id Zv.ex;refine⟨PySem.W.fnOf "law" "law" (II LF) (DC LF) (AI LF) .none kV dc pm an cd ct,λs v=>.of_eq rfl,λYd _ _ bA=>?_⟩;have Xr:=ZCl (P:=l.prog) (w:=w) (Yd:=Yd) gA (gA.binds (ps:=["self","name"]) (by walk_at "bD2")) ⟨zC,ZBq,tV,sf,ZCM,ZEx,ZEn⟩ ⟨yM,ZGE,ZEP,rfl⟩ L5
 have WL:=wW (P:=l.prog) (w:=w) (Yd:=Yd) Ad F1 (Ai X G a1);have BC:=tM (P:=l.prog) (w:=w) (Yd:=Yd) F2 (Ai X G a2);have Om:=yH (P:=l.prog) (w:=w) (Yd:=Yd) F3 (Ai X G a3);have IW:=ZEc Ad Om BC F4 (Ai X G a4);have YE:=ZC3 IW DH F5 (Ai X G a5);have ZE:=ZF9 BC YE F6 (Ai X G a6);have Kv:=uX Ad BC Cc Gm F7 (Ai X G a7);have VW:=ZG5 Ad BC DH Gm Kv F8 (Ai X G a8);have SM:=oH Ad BC IW F9 (Ai X G a9);have SI:=md (P:=l.prog) (w:=w) (Yd:=Yd) Ad o4 (Ai X G a10);have VP:=uJ (P:=l.prog) (w:=w) (Yd:=Yd) (EG:=EG) (EM:=EM) (Ac:=Ac) (EB:=EB) (AS:=AS) (EU:=EU) (EH:=EH) (EO:=EO) (ET:=ET) (EW:=EW) (EA:=EA) (EY:=EY) (EL:=EL) (EJ:=EJ) (C0:=C0) (EX:=EX) (AW:=AW) W7 DT Vj Uw Mp XF Mz Yp WQ Ur VU VM Vy Yc Yn Ux L5 V2 N9 F11 (Ai X G xt);have VQ:=tU (EG:=EG) (EM:=EM) (Ac:=Ac) (EB:=EB) (AS:=AS) (EU:=EU) (EH:=EH) (EO:=EO) (ET:=ET) (EW:=EW) (EA:=EA) (EY:=EY) (EL:=EL) (EJ:=EJ) (C0:=C0) (EX:=EX) (AW:=AW) VP Md PQ OW Vc hd2 pM (Ai X G pX);have XT:=sP Ad BC IW Cc Gm qI (Ai X G xX);have Vz:=ZC4 (P:=l.prog) (w:=w) (Yd:=Yd) Ad F14 (Ai X G oO);have Y7:=xD (P:=l.prog) (w:=w) (Yd:=Yd) Cc Gq JH G0 F15 (Ai X G a15);have Yh:=zg Y7 Vz Xz V1 zr (Ai X G sY);have UK:=ZA4 (AS:=AS) Mz Yh XN xT (Ai X G a17);have Gn:=qz (AS:=AS) (AW:=AW) Ad N9 UK WA YT F18 (Ai X G sF);have Qo:=ZEf (Ac:=Ac) Mp Xr F19 (Ai X G rg);have Tx:=y3 (Ac:=Ac) (AS:=AS) (AW:=AW) Gn Qo Kt vk (Ai X G yl);have Y0:=xM (P:=l.prog) (w:=w) (Yd:=Yd) Ad Gm F21 (Ai X G a21);have Yv:=ZDC (P:=l.prog) (w:=w) (Yd:=Yd) Cc G0 MO F22 (Ai X G xg);have U0:=ZFm (AS:=AS) (AW:=AW) Gn Yv Y0 vH (Ai X G zy);have Jl:=zE (P:=l.prog) (w:=w) (Yd:=Yd) F24 (Ai X G su);have XC:=vb Ad DH o7 (Ai X G a25) Jl;have Yk:=ZDB (P:=l.prog) (w:=w) (Yd:=Yd) Ad G0 u0 (Ai X G a26);have YY:=y0 Yk xY (Ai X G wu);have U3:=me Ad DH YY qQ (Ai X G a28);have UC:=tZ (P:=l.prog) (w:=w) (Yd:=Yd) uP (Ai X G uu);have Vh:=ZB6 (P:=l.prog) (w:=w) (Yd:=Yd) Ad Cc Z8.2.1 Z8.2.2 bA Ic Z8.1 (Ai X G a30);have Yo:=qd (P:=l.prog) (w:=w) (Yd:=Yd) Ad Kt F31 (Ai X G yB);have VZ:=tf (P:=l.prog) (w:=w) (Yd:=Yd) F32 (Ai X G a32);have XX:=si Cc VZ wA (Ai X G xx) Jl;have Uh:=wJ (AS:=AS) (AW:=AW) Ad DH Gn XX UC XC Vh U3 Yo pE (Ai X G pU);have Yt:=ZBz (P:=l.prog) (w:=w) (Yd:=Yd) Cc Gq rh (Ai X G wa);have Xn:=ZAQ (P:=l.prog) (w:=w) (Yd:=Yd) t4 (Ai X G a36);have XS:=ZEz Ad Gq MO Xn nE (Ai X G mh)
 have ZHn:=zc (P:=l.prog) (w:=w) (Yd:=Yd) F38 (Ai X G zK);have XI:=vE (P:=l.prog) (w:=w) (Yd:=Yd) nK (Ai X G zT);have YU:=vJ Ad Cc Gq G0 XI Wr F40 (Ai X G a40);have Xt:=ZDR (AS:=AS) (AW:=AW) Gn YU Yt XS F41 (Ai X G a41);have Xc:=xp (Ac:=Ac) (AS:=AS) (AW:=AW) U0 Xt Uh Tx F42 (Ai X G ub);have Rw:=tR (Ac:=Ac) (AS:=AS) (C0:=C0) (AW:=AW) L5 Xc Xm Vp VD wm (Ai X G z7);exact xF (Ac:=Ac) (AS:=AS) (AW:=AW) Ad BC DH Kv JH SI VW WL VQ ZE Rw XT SM Tu Wd Zv (Ai X G fW)
def walk{q:Program}{loose:List Str}{XP:(ZI0)->Heap->Prop}{YP:World->Heap->Prop}{d:DefRec}{K:Params->ZHy}(hn:l.most=some 63)(Ob:d.params.defaults=[])
  (hY:∀(w:World)(h:Heap),YP w h->(K w.params).In h) (hT:∀(w:World)(h:Heap),YP w h->h.get? T=some (PySem.W.tabObj #[])) (nT:∀w:World,(K w.params).lookup T=none) (hC:∀w:World,PySem.W.codeHdIn (K w.params) c T=true)
  (F:∀(w:World)(mg:ZI0)(fa:Addr)(h:Heap),(K w.params).In h->h.Ns mainGlobals mg->mg d.name=some (.ref fa)->
   ∃fd:FuncData,(∀(s:Shared)(u:Value),BindsTo s fd ⟨[u],[]⟩ [("script", u)])/\∀Yd:Heap,(K w.params).In Yd->Yd.Ns mainGlobals mg->Yd.BuiltinsAt mg T->Cs l.prog w (K w.params) mg Yd DD 19 fa fd ["script"] (O1 (K w.params) T (Bh BN))) :
  PySem.W.WalkO q loose XP YP l.row.toRowW d [] (λf vs=>PySem.call f vs):=
 L2.pD (n:=63) (T:=T) (c:=c) (pos:=Bh BN) (qn:=Kg) (k:=19) (x:="script") (CX:=λ_=>DD) (sp:=λw=>O1 (K w.params) T (Bh BN)) hn (by decide) Ob ⟨rfl,by decide,by decide⟩ hY hT hC nT F (λ_ _ a ns hl hT hS=>⟨hT,a,ns,rfl,hS,hl,λ_=>rfl⟩) λ_ _ _ _ _ z=>z
end Pf
open PySem.W
local macro_rules | `(tactic| walk_at "kF")=>`(tactic| (refine' L2.ZAW ?_ ?_ ?_;all_goals try k_is;all_goals k_is))
set_option maxRecDepth 100000 in
set_option maxHeartbeats 0 in
theorem PySem.Challenge.cw_stirround_k43_loops_refused_holds : PySem.Challenge.rw_stirround_k43_loops_refused.Holds := by
 w_on;o_law;k_head;(case hw=>w_witness2)
 k_fill
 refine Pf.walk (c:=?c) (l:=PySem.Challenge.rw_stirround_k43_loops_refused) rfl rfl (λw h Y=>PySem.W.km_in_of Y) (λw h Y=>PySem.W.km_tabs_of Y _ (B1 ..)) (λw=>by kernel_rfl) ?hC ?F
 case F=>
  intro w mg fa h KX G NT;apply Pf.all_mk (cT:=?c) KX G NT
  any_goals first|k_is|(show _=_;k_is)|kernel_rfl|walk_at "kF" | (refine⟨?_,?_,?_⟩;(walk_at "kF");rfl;kernel_rfl)|decide
 case hC=>
  intro w;kernel_rfl
#print axioms PySem.Challenge.cw_stirround_k43_loops_refused_holds
